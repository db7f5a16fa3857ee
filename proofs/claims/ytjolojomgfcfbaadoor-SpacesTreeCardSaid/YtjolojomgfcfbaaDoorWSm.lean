/- spaces: isHeight, heightOf, partOf, fault. -/
import Derived.Test.YtjolojomgfcfbaaDoorWBlk
import Derived.StillTailTactics
import Derived.Deep.QuietTactic
import Derived.BigQuiet
namespace Go.Proofs.YtjolojomgfcfbaaDoor
open Go.RowKit
set_option maxRecDepth 8000 in
theorem isH_any (n : Int) {b : Bool} (hb : decide (1 ≤ n ∧ n ≤ 8) = b) (w : World) : Calls Tryd.prog 20 #[.int .i64 n] w fun e w' => e = .returned (.bool b) ∧ w = w' := by
  subst hb
  by_cases h0 : 1 ≤ n
  · by_cases h1 : n ≤ 8
    · have d0 : decide (1 ≤ n) = true := decide_eq_true h0
      have d1 : decide (n ≤ 8) = true := decide_eq_true h1
      rw [show decide (1 ≤ n ∧ n ≤ 8) = true from decide_eq_true ⟨h0, h1⟩]
      clear h0 h1
      go_enter Tryd.func20, Tryd.ntmps20
      go_wp2
      go_ret
      exact ⟨rfl, rfl⟩
    · have d0 : decide (1 ≤ n) = true := decide_eq_true h0
      have d1 : decide (n ≤ 8) = false := decide_eq_false h1
      rw [show decide (1 ≤ n ∧ n ≤ 8) = false from decide_eq_false fun h => h1 h.2]
      clear h0 h1
      go_enter Tryd.func20, Tryd.ntmps20
      go_wp2
      go_ret
      exact ⟨rfl, rfl⟩
  · have d0 : decide (1 ≤ n) = false := decide_eq_false h0
    rw [show decide (1 ≤ n ∧ n ≤ 8) = false from decide_eq_false fun h => h0 h.1]
    clear h0
    go_enter Tryd.func20, Tryd.ntmps20
    go_wp2
    go_ret
    exact ⟨rfl, rfl⟩
set_option maxRecDepth 8000 in
theorem part_next (i : Nat) : part (i + 2) = part (i + 1) * 16 := by
  unfold part
  rw [show i + 2 - 1 = (i + 1 - 1) + 1 by omega, Nat.pow_succ, Nat.mul_assoc]
set_option maxRecDepth 8000 in
set_option maxHeartbeats 1000000 in
theorem partOf_any (m : Nat) (h1 : 1 ≤ m) (h8 : m ≤ 8) (w : World) : Calls Tryd.prog 21 #[.int .i64 (m : Int)] w fun e w' => e = .returned (.int .i64 (part m : Int)) ∧ w = w' := by
  have s0 : (m : Int) - 1 ≤ 8 := by omega
  have s1 : -1 ≤ (m : Int) - 1 := by omega
  go_enter Tryd.func21, Tryd.ntmps21
  go_wp2
  go_loopw [3, 6] (fun q3 q6 wr => ∃ i : Nat, i < m ∧ q3 = .int .i64 (part (i + 1) : Int) ∧ q6 = .int .i64 i ∧ w = wr) (fun _ q6 _ => m - (intOf q6).toNat)
  case atStart => exact ⟨0, by omega, rfl, rfl, rfl⟩
  case round =>
    obtain ⟨i, hi, rfl, rfl, rfl⟩ := hrel
    have hp := part_next i
    have hle : part (i + 1) ≤ 17179869184 := part_le (by omega)
    obtain ⟨q, hq⟩ : ∃ q, q = part (i + 1) := ⟨_, rfl⟩
    obtain ⟨q2, hq2⟩ : ∃ q2, q2 = part (i + 2) := ⟨_, rfl⟩
    rw [← hq] at hp hle
    rw [← hq]
    rw [← hq2] at hp
    have hq2' := Lib.hid hq2
    by_cases hlt : i + 1 < m
    · have e0 : decide ((i : Int) < (m : Int) - 1) = true := decide_eq_true (by omega)
      have s2 : (q : Int) * 16 = (q2 : Int) := by omega
      have s3 : (q2 : Int) ≤ 274877906944 := by omega
      have s4 : (0 : Int) ≤ (q2 : Int) := by omega
      clear hp hq hq2
      go_wp2
      go_roundw
      case rel => exact ⟨i + 1, by omega, by rw [hq2'.out], by go_num, by first | rfl | trivial⟩
      case measure => simp [intOf]; omega
    · obtain rfl : m = i + 1 := by omega
      have e0 : decide ((i : Int) < ((i + 1 : Nat) : Int) - 1) = false := decide_eq_false (by omega)
      clear hp hq2 hlt
      go_wp2
      go_ret
      exact ⟨by rw [hq]; rfl, by first | rfl | trivial⟩
section
variable {w : World} {g p : Nat} {ad : Int} {x : Ky} {l h r : Int} {y : Ky} {a : Int} {kp : Ky} {d : Int}
set_option maxRecDepth 100000 in
set_option maxHeartbeats 2000000 in
theorem fault_any (H : Blk w g 55 (wkc p ad x l h r y a kp d)) (k : Int) :
    Calls Tryd.prog 26 #[.pointer (some ⟨g, 0, none⟩), .int .i64 k] w fun e w' => e = .panicked (faP ⟨k, kp, ad⟩) ∧ Below w.heap.size w w' := by
  obtain ⟨c0, c1, c2, c3, c4, c5, c6, c7, c8, c9, c10, c11, c12, c13, c14, c15, c16, c17, c18, c19, c20, c21, c22, c23, c24⟩ := wk_cells H
  have hb := run_build (P := Tryd.prog) w 41 #[(0, .int .i64 k), (1, kp.val), (2, .int .i64 ad)] _ (builtFa3 ⟨k, kp, ad⟩)
  go_enter Tryd.func26, Tryd.ntmps26
  go_wp2
  go_still_tail 12, (by kernel_rfl)
  go_wp2
  exact ⟨rfl, rfl, below_drew (Below.refl _ _)⟩
end
end Go.Proofs.YtjolojomgfcfbaaDoor

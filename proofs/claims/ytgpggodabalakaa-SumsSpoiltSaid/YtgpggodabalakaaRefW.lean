/- The walks: the document's own Wide, Put. -/
import Derived.Test.YtgpggodabalakaaGetW
import Derived.Test.YtgpggodabalakaaApp
namespace Go.Proofs.Ytgpggodabalakaa
open Go.RowKit
/-- may a number have so many bytes? -/
def Wide (b : Int) : Prop := b = 2 ∨ b = 4 ∨ b = 8
set_option maxHeartbeats 400000 in
theorem wide_yes (b : Int) (w : World) (h : Wide b) : Calls Try.prog 27 #[.int .i64 b] w fun e w' => e = .returned (.bool true) ∧ w = w' := by
  rcases h with rfl | rfl | rfl
  all_goals
    go_enter Try.func27, Try.ntmps27
    go_wp2
    go_ret
    exact ⟨rfl, rfl⟩
set_option maxHeartbeats 400000 in
theorem wide_no (b : Int) (w : World) (h : ¬ Wide b) : Calls Try.prog 27 #[.int .i64 b] w fun e w' => e = .returned (.bool false) ∧ w = w' := by
  have h2 : (b == 2) = false := by simp; intro e; exact h (.inl e)
  have h4 : (b == 4) = false := by simp; intro e; exact h (.inr (.inl e))
  have h8 : (b == 8) = false := by simp; intro e; exact h (.inr (.inr e))
  clear h
  go_enter Try.func27, Try.ntmps27
  go_wp2
  go_ret
  exact ⟨rfl, rfl⟩
set_option maxHeartbeats 400000 in
theorem rput_no (n b : Int) (w : World) (h : ¬ Wide b ∨ n < 0) :
    Calls Try.prog 16 #[.int .i64 n, .int .i64 b] w fun e w' => e = .returned (.tuple #[.slice none 0 0, .bool false]) ∧ w = w' := by
  by_cases hw : Wide b
  · have h0 : n < 0 := by
      rcases h with h | h
      · exact absurd hw h
      · exact h
    clear h
    have HW := Lib.hid hw
    clear hw
    go_enter Try.func16, Try.ntmps16
    go_wp2_with (go_at_call 27; refine (wide_yes _ _ HW.out).mono ?_; rintro e w' ⟨rfl, rfl⟩)
    go_ret2
    exact ⟨rfl, rfl⟩
  · clear h
    have HW := Lib.hid hw
    clear hw
    go_enter Try.func16, Try.ntmps16
    go_wp2_with (go_at_call 27; refine (wide_no _ _ HW.out).mono ?_; rintro e w' ⟨rfl, rfl⟩)
    go_ret2
    exact ⟨rfl, rfl⟩
theorem eq0_cast (N j : Nat) : ((N : Int) / 256 ^ j == 0) = (N / 256 ^ j == 0) := by
  rw [show ((N : Int) / 256 ^ j) = ((N / 256 ^ j : Nat) : Int) by simp]
  generalize N / 256 ^ j = x
  rw [Bool.eq_iff_iff]
  simp
set_option maxHeartbeats 800000 in
theorem rput_yes (N k : Nat) (w : World) (hw : Wide k) (hN : (N : Int) ≤ 9223372036854775807) :
    Calls Try.prog 16 #[.int .i64 (N : Int), .int .i64 (k : Int)] w fun e w' => ∃ v, e = .returned (.tuple #[v, .bool (N / 256 ^ k == 0)]) ∧ w'.ownsRow w.heap.size 5 1 v k (bv (bytesLE k N)) ∧ Below w.heap.size w w' := by
  have hk8 : k ≤ 8 := by rcases hw with h | h | h <;> omega
  have h0 : ¬ (N : Int) < 0 := by omega
  have HW := Lib.hid hw
  clear hw
  go_enter Try.func16, Try.ntmps16
  go_wp2_with (go_at_call 27; refine (wide_yes _ _ HW.out).mono ?_; rintro e w' ⟨rfl, rfl⟩)
  go_loopw [0, 6, 7] (fun m v i wr => ∃ j : Nat, j ≤ k ∧ i = .int .i64 j ∧ m = .int .i64 ((N / 256 ^ j : Nat) : Int) ∧ wr.ownsRow w.heap.size 5 1 v j (bv (bytesLE j N)) ∧ Below w.heap.size w wr) (fun _ _ i _ => k - (intOf i).toNat)
  case atStart => exact ⟨0, by omega, rfl, by simp, World.ownsRow_nil _ _ _ _, Below.refl _ _⟩
  case round =>
    obtain ⟨j, hj, rfl, rfl, hown, hbel⟩ := hrel
    by_cases hlt : j < k
    · obtain ⟨M, hM⟩ : ∃ M, M = N / 256 ^ j := ⟨_, rfl⟩
      rw [← hM]
      have hMN : (M : Int) ≤ 9223372036854775807 := by
        have : M ≤ N := by rw [hM]; exact Nat.div_le_self _ _
        omega
      have hwr := hbel.size
      have HM := Lib.hid hM
      have HB := Lib.hid hbel
      clear hM hbel
      go_wp2_with (at_builtin; refine wpList_append_bytes _ rfl _ _ _ rfl Try.underlying22 infoU8 rfl (hown.alloc _) rfl (rd_new _ (UInt8.ofNat (M % 256)) _ (u8_mod M)) rfl (by omega) (by simp; omega) ?_; intro v' w1 hown1 hg1 hat1)
      have hM := HM.out
      have hb1 := below_append (HB.out.alloc hwr _) (hown.alloc (.cells #[.int .u8 ((M : Int) % 256)] 5)) hg1 (Nat.le_refl _) (by simp; omega)
      have e1 : N / 256 ^ (j + 1) = M / 256 := by rw [hM, Nat.div_div_eq_div_mul, Nat.pow_succ]
      have e2 : bytesLE (j + 1) N = bytesLE j N ++ [UInt8.ofNat (M % 256)] := by rw [bytesLE_snoc, hM]
      clear hM
      go_roundw
      case rel => exact ⟨j + 1, by omega, by go_num, by rw [e1]; simp, by rw [e2]; exact hown1, hb1⟩
      case measure => simp [intOf]; omega
    · obtain rfl : j = k := by omega
      go_wp2
      go_ret2
      exact ⟨_, by simp [eq0_cast], hown, hbel⟩
end Go.Proofs.Ytgpggodabalakaa

/- The walks: the closure of bytesOf, bytesOf. -/
import Derived.Test.YtgpggodabalakaaNumW
import Derived.OwnWalk
import Derived.Deep.OwnRows
import Derived.RangeFuncBox
namespace Go.Proofs.Ytgpggodabalakaa
open Go.RowKit
/-- the lowest k bytes of n, the lowest ahead -/
def bytesLE : Nat → Nat → List UInt8
  | 0, _ => []
  | k + 1, n => UInt8.ofNat (n % 256) :: bytesLE k (n / 256)
theorem bytesLE_length (k n : Nat) : (bytesLE k n).length = k := by
  induction k generalizing n with
  | zero => rfl
  | succ k ih => simp [bytesLE, ih]
theorem bytesLE_snoc (k n : Nat) : bytesLE (k + 1) n = bytesLE k n ++ [UInt8.ofNat (n / 256 ^ k % 256)] := by
  induction k generalizing n with
  | zero => simp [bytesLE]
  | succ k ih =>
    rw [bytesLE, ih (n / 256)]
    simp only [bytesLE, List.cons_append, Nat.pow_succ]
    rw [Nat.div_div_eq_div_mul, Nat.mul_comm 256]
theorem numLE_bytesLE (k n : Nat) (h : n < 256 ^ k) : numLE (bytesLE k n) = n := by
  induction k generalizing n with
  | zero => simp at h; simp [bytesLE, numLE, h]
  | succ k ih =>
    rw [Nat.pow_succ] at h
    rw [bytesLE, numLE, ih (n / 256) (by omega)]
    simp
    omega
theorem bytesLE_numLE (l : List UInt8) : bytesLE l.length (numLE l) = l := by
  induction l with
  | nil => rfl
  | cons x l ih =>
    have hx := x.toNat_lt
    simp only [List.length_cons, bytesLE, numLE]
    rw [show (x.toNat + 256 * numLE l) / 256 = numLE l by omega, ih, show (x.toNat + 256 * numLE l) % 256 = x.toNat by omega]
    simp
def zer (n : Nat) : List Value := List.replicate n (.int .u8 0)
theorem zer_length (n : Nat) : (zer n).length = n := by simp [zer]
theorem set_step (l : List UInt8) (x : UInt8) (m : Nat) (hm : 0 < m) : (bv l ++ zer m).set l.length (.int .u8 (x.toNat : Int)) = bv (l ++ [x]) ++ zer (m - 1) := by
  obtain ⟨m, rfl⟩ : ∃ m', m = m' + 1 := ⟨m - 1, by omega⟩
  rw [List.set_append_right _ _ (by simp [bv]), bv_length, Nat.sub_self, bv_append, List.append_assoc]
  rfl
set_option maxHeartbeats 400000 in
theorem next_any (p : Addr) (N : Nat) (w : World) (hc : w.cell? p = some (.int .u64 (N : Int))) (hf : w.frozen? p = false) :
    Calls Try.prog 32 #[.pointer (some p)] w fun e w' => e = .returned (.int .u8 ((N % 256 : Nat) : Int)) ∧ w.setCell p (.int .u64 ((N / 256 : Nat) : Int)) = w' := by
  go_enter Try.func32, Try.ntmps32
  go_wp2
  go_ret
  exact ⟨ret_int (by omega), by congr 2⟩
theorem infoU8 : (Try.prog.info? 5).map (fun i => (i.zero, i.size, i.bytes)) = some (some (.int .u8 0), 1, 1) := by kernel_rfl
set_option maxHeartbeats 400000 in
theorem bytesOf_any (N c : Nat) (w : World) (h8 : c ≤ 8) :
    Calls Try.prog 26 #[.int .u64 (N : Int), .int .i64 (c : Int)] w fun e w' => ∃ v, e = .returned v ∧ w'.ownsRow w.heap.size 5 1 v c (bv (bytesLE c N)) ∧ Below w.heap.size w w' := by
  have hmk := fun W : World => run_make_row' (P := Try.prog) 22 5 (.int .u8 0) 1 Try.underlying22 infoU8 rfl .i64 .i64 c (by omega) (by omega) W
  go_enter Try.func26, Try.ntmps26
  go_wp2_with fail
  go_loopw [7, 13] (fun _ i wr => ∃ k : Nat, k ≤ c ∧ i = .int .i64 k ∧ Boxed wr w.heap.size 52 (.int .u64 ((N / 256 ^ k : Nat) : Int)) ∧
      wr.ownsRow (w.heap.size + 1) 5 1 (.slice (some ⟨w.heap.size + 1, 0, none⟩) c c) c (bv (bytesLE k N) ++ zer (c - k)) ∧ Below w.heap.size w wr) (fun _ i _ => c - (intOf i).toNat)
  case atStart =>
    refine ⟨0, by omega, rfl, ?_, ?_, ((Below.refl _ _).alloc (Nat.le_refl _) _).alloc (by simp) _⟩
    · have := (Boxed.new w 52 (.int .u64 (N : Int))).alloc (Obj.cells (madeCells #[.int .u8 0] c) 5)
      simpa using this
    · have := World.ownsRow_lit (base := w.heap.size + 1) (size := 1) (e := 5) (w.alloc (.cells #[.int .u64 (N : Int)] 52)) (madeCells #[.int .u8 0] c) c (by simp) (by unfold maxLen; omega) (by simp [madeCells])
      rw [toList_madeCells_one] at this
      simpa [bytesLE, bv, zer] using this
  case round =>
    obtain ⟨k, hk, rfl, hbox, hown, hbel⟩ := hrel
    by_cases hlt : k < c
    · have hlen := bytesLE_length k N
      have hc2 := hown.cellAt k (by omega)
      have hf2 := hown.frozenAt k
      rw [show (bv (bytesLE k N) ++ zer (c - k))[k]? = some (.int .u8 0) by
        rw [List.getElem?_append_right (by rw [bv_length]; omega), bv_length, hlen, Nat.sub_self]
        simp [zer, List.getElem?_replicate]; omega] at hc2
      obtain ⟨M, hM⟩ : ∃ M, M = N / 256 ^ k := ⟨_, rfl⟩
      rw [← hM] at hbox
      have hbc := hbox.cell
      have hbf := hbox.frozen
      have HM := Lib.hid hM
      have H1 := Lib.hid hlen
      have HB := Lib.hid hbox
      have HO := Lib.hid hown
      clear hlen hM hbox hown
      go_wp2_with (go_at_call 32; refine (next_any _ _ _ hbc hbf).mono ?_; rintro e w' ⟨rfl, rfl⟩)
      go_roundw
      case rel =>
        have hM := HM.out
        have h2 := (HO.out.kept (grownBy_setCell' wr w.heap.size (.int .u64 ((M / 256 : Nat) : Int))) (.inr (by simp [Value.ownBlock]))).stored k (.int .u8 ((M % 256 : Nat) : Int))
        refine ⟨k + 1, by omega, by go_num, ?_, ?_, ?_⟩
        · have := (HB.out.set (.int .u64 ((M / 256 : Nat) : Int))).kept h2.2 (by simp)
          rw [show N / 256 ^ (k + 1) = M / 256 by rw [hM, Nat.div_div_eq_div_mul, Nat.pow_succ]]
          clear hM
          simpa using this
        · have h3 := h2.1
          have h4 := set_step (bytesLE k N) (UInt8.ofNat (N / 256 ^ k % 256)) (c - k) (by omega)
          rw [H1.out, ← bytesLE_snoc] at h4
          rw [show ((UInt8.ofNat (N / 256 ^ k % 256)).toNat : Int) = ((M % 256 : Nat) : Int) by rw [hM]; simp] at h4
          rw [h4] at h3
          clear hM
          simpa [Nat.sub_sub] using h3
        · exact (hbel.setCell (p := ⟨w.heap.size, 0, none⟩) (Nat.le_refl _) _).setCell (by simp) _
      case measure => simp [intOf]; omega
    · obtain rfl : k = c := by omega
      go_wp2
      go_ret
      refine ⟨_, rfl, ?_, hbel⟩
      have h3 := hown
      rw [Nat.sub_self] at h3
      simpa [zer] using own_base h3 (Nat.le_succ _)
end Go.Proofs.Ytgpggodabalakaa

/- A sum goes over bits: a burst of up to 32 bits in a row is never told for nothing. Plain. -/
import Derived.Test.YtfclkkbmgclfgaaDoorZT
namespace Go.Proofs.YtfclkkbmgclfgaaDoor
open Go.RowKit
/-- are these bytes sealed? -/
def okB (l : List UInt8) : Bool := decide (4 ≤ l.length) && (numLE (l.drop (l.length - 4)) == crcN (l.take (l.length - 4)))
/-- what is told of them -/
def outL (l : List UInt8) : List UInt8 := if okB l then l.take (l.length - 4) else []
set_option maxRecDepth 8000 in
theorem xor_low (m Y x : Nat) (hx : x < 2 ^ m) : (2 ^ m * Y) ^^^ x = 2 ^ m * Y + x := by
  have hp : 0 < 2 ^ m := Nat.pow_pos (by omega)
  have h1 : ((2 ^ m * Y) ^^^ x) / 2 ^ m = Y := by
    rw [Nat.xor_div_two_pow, Nat.mul_div_cancel_left _ hp, Nat.div_eq_of_lt hx, Nat.xor_zero]
  have h2 : ((2 ^ m * Y) ^^^ x) % 2 ^ m = x := by
    rw [Nat.xor_mod_two_pow, Nat.mul_mod_right, Nat.mod_eq_of_lt hx, Nat.zero_xor]
  have h3 := Nat.div_add_mod ((2 ^ m * Y) ^^^ x) (2 ^ m)
  rw [h1, h2] at h3
  exact h3.symm
set_option maxRecDepth 8000 in
theorem mul_xor (m a b : Nat) : 2 ^ m * (a ^^^ b) = (2 ^ m * a) ^^^ (2 ^ m * b) := by
  have := Nat.shiftLeft_xor_distrib (a := a) (b := b) (i := m)
  rw [Nat.shiftLeft_eq, Nat.shiftLeft_eq, Nat.shiftLeft_eq] at this
  rw [Nat.mul_comm, this, Nat.mul_comm, Nat.mul_comm b]
set_option maxRecDepth 8000 in
theorem stepsN_shift (m q : Nat) : stepsN m (2 ^ m * q) = q := by
  induction m generalizing q with
  | zero => simp [stepsN]
  | succ m ih =>
    rw [Nat.pow_succ, Nat.mul_assoc]
    simp only [stepsN]
    rw [ih, stepN_even']
set_option maxRecDepth 8000 in
theorem rawN_num (l : List UInt8) (s : Nat) : rawN s l = stepsN (8 * l.length) (s ^^^ numLE l) := by
  induction l generalizing s with
  | nil => simp [rawN, numLE, stepsN]
  | cons x l ih =>
    have hx := x.toNat_lt
    show rawN (byteN s x) l = _
    rw [ih]
    have e : s ^^^ numLE (x :: l) = (s ^^^ x.toNat) ^^^ (2 ^ 8 * numLE l) := by
      rw [numLE, Nat.xor_assoc, Nat.xor_comm x.toNat, xor_low 8 _ _ (by omega)]
      congr 1
      omega
    rw [e, List.length_cons, Nat.mul_add, Nat.mul_one, stepsN_add, stepsN_xor 8, stepsN_shift]
    rfl
set_option maxRecDepth 8000 in
theorem xor_zero_eq {a b : Nat} (h : a ^^^ b = 0) : a = b := by
  have h1 : (a ^^^ b) ^^^ b = a := by rw [Nat.xor_assoc, Nat.xor_self, Nat.xor_zero]
  rw [h, Nat.zero_xor] at h1
  exact h1.symm
set_option maxRecDepth 8000 in
theorem stepN_zero {s : Nat} (h : s < 4294967296) (h0 : stepN s = 0) : s = 0 := by
  unfold stepN at h0
  split at h0
  · omega
  · have := xor_zero_eq h0
    omega
set_option maxRecDepth 8000 in
theorem stepsN_zero (m : Nat) {s : Nat} (h : s < 4294967296) (h0 : stepsN m s = 0) : s = 0 := by
  induction m with
  | zero => exact h0
  | succ m ih => exact ih (stepN_zero (stepsN_lt m h) h0)
set_option maxRecDepth 8000 in
theorem stepsN_of_zero (m : Nat) : stepsN m 0 = 0 := by
  induction m with
  | zero => rfl
  | succ m ih => simp only [stepsN]; rw [ih]; rfl
set_option maxRecDepth 8000 in
theorem stepsN_inj (m : Nat) {a b : Nat} (ha : a < 4294967296) (hb : b < 4294967296) (h : stepsN m a = stepsN m b) : a = b := by
  have h1 : stepsN m (a ^^^ b) = 0 := by rw [stepsN_xor, h, Nat.xor_self]
  exact xor_zero_eq (stepsN_zero m (Nat.xor_lt_two_pow (n := 32) ha hb) h1)
/-- what the sum of sealed bytes, taken over all of them, always is -/
def restN : Nat := stepsN 32 4294967295
set_option maxRecDepth 8000 in
theorem okB_rest (l : List UInt8) (h4 : 4 ≤ l.length) : (okB l = true) ↔ rawN 4294967295 l = restN := by
  obtain ⟨k, hk⟩ : ∃ k, l.length = k + 4 := ⟨l.length - 4, by omega⟩
  have hd : (l.drop k).length = 4 := by simp; omega
  have ht := numLE_lt (l.drop k)
  rw [hd] at ht
  have hr := rawN_lt (s := 4294967295) (l.take k) (by omega)
  have e : rawN 4294967295 l = stepsN 32 (rawN 4294967295 (l.take k) ^^^ numLE (l.drop k)) := by
    have h1 := rawN_append 4294967295 (l.take k) (l.drop k)
    rw [List.take_append_drop, rawN_num (l.drop k), hd] at h1
    exact h1
  rw [e]
  unfold okB restN
  rw [decide_eq_true h4, Bool.true_and, hk, Nat.add_sub_cancel, beq_iff_eq]
  unfold crcN
  rw [← not_nat _ hr]
  constructor
  · intro h
    rw [h, Nat.xor_comm 4294967295, ← Nat.xor_assoc, Nat.xor_self, Nat.zero_xor]
  · intro h
    have h2 := stepsN_inj 32 (Nat.xor_lt_two_pow (n := 32) hr (by omega)) (by omega) h
    have h3 : rawN 4294967295 (l.take k) ^^^ (rawN 4294967295 (l.take k) ^^^ numLE (l.drop k)) = rawN 4294967295 (l.take k) ^^^ 4294967295 := by rw [h2]
    rw [← Nat.xor_assoc, Nat.xor_self, Nat.zero_xor] at h3
    rw [h3, Nat.xor_comm]
set_option maxRecDepth 8000 in
theorem okB_seal (l : List UInt8) : okB (sealN l) = true := by
  have e : (sealN l).length = l.length + 4 := sealN_length l
  unfold okB
  rw [decide_eq_true (by omega), Bool.true_and, e, Nat.add_sub_cancel, beq_iff_eq]
  unfold sealN
  rw [List.drop_left' rfl, List.take_left' rfl, numLE_bytesLE 4 _ (by have := crcN_lt l; omega)]
set_option maxRecDepth 8000 in
theorem outL_seal (l : List UInt8) : outL (sealN l) = l := by
  unfold outL
  rw [okB_seal, if_pos rfl, sealN_length, Nat.add_sub_cancel]
  unfold sealN
  rw [List.take_left' rfl]
set_option maxRecDepth 8000 in
/-- a burst is told: bytes that were sealed, in which the bits B from f on are turned, are sealed just where B is nothing -/
theorem okB_burst (l l' : List UInt8) (f B : Nat) (h4 : 4 ≤ l.length) (hl : l'.length = l.length) (hok : okB l = true) (hn : numLE l' = numLE l ^^^ (2 ^ f * B)) (hf : f ≤ 8 * l.length) (hB : B < 4294967296) : okB l' = decide (B = 0) := by
  rw [Bool.eq_iff_iff, okB_rest l' (by omega), decide_eq_true_eq]
  have h1 := (okB_rest l h4).1 hok
  rw [rawN_num] at h1 ⊢
  rw [hl, hn, ← Nat.xor_assoc, stepsN_xor, h1]
  have e : stepsN (8 * l.length) (2 ^ f * B) = stepsN (8 * l.length - f) B := by
    have := stepsN_add (8 * l.length - f) f (2 ^ f * B)
    rw [Nat.sub_add_cancel hf, stepsN_shift] at this
    exact this
  rw [e]
  constructor
  · intro h
    have h2 : stepsN (8 * l.length - f) B = 0 := by
      have h3 : restN ^^^ (restN ^^^ stepsN (8 * l.length - f) B) = restN ^^^ restN := by rw [h]
      rw [← Nat.xor_assoc, Nat.xor_self, Nat.zero_xor] at h3
      exact h3
    exact stepsN_zero _ hB h2
  · intro h
    rw [h, stepsN_of_zero, Nat.xor_zero]
set_option maxRecDepth 8000 in
theorem numLE_set (l : List UInt8) (j : Nat) (b : UInt8) (h : j < l.length) : numLE (l.set j (l[j] ^^^ b)) = numLE l ^^^ (256 ^ j * b.toNat) := by
  induction l generalizing j with
  | nil => simp at h
  | cons x l ih =>
    have hx := x.toNat_lt
    cases j with
    | zero =>
      simp only [List.set_cons_zero, List.getElem_cons_zero, numLE, Nat.pow_zero, Nat.one_mul]
      have hxb := (x ^^^ b).toNat_lt
      have e1 := xor_low 8 (numLE l) (x ^^^ b).toNat (by omega)
      have e2 := xor_low 8 (numLE l) x.toNat (by omega)
      rw [show (x ^^^ b).toNat + 256 * numLE l = 2 ^ 8 * numLE l + (x ^^^ b).toNat by omega, ← e1, show x.toNat + 256 * numLE l = 2 ^ 8 * numLE l + x.toNat by omega, ← e2, UInt8.toNat_xor, Nat.xor_assoc]
    | succ j =>
      simp only [List.set_cons_succ, List.getElem_cons_succ, numLE]
      rw [ih j (by simpa using h)]
      have e1 := xor_low 8 (numLE l ^^^ 256 ^ j * b.toNat) x.toNat (by omega)
      have e2 := xor_low 8 (numLE l) x.toNat (by omega)
      rw [show x.toNat + 256 * (numLE l ^^^ 256 ^ j * b.toNat) = 2 ^ 8 * (numLE l ^^^ 256 ^ j * b.toNat) + x.toNat by omega, ← e1, show x.toNat + 256 * numLE l = 2 ^ 8 * numLE l + x.toNat by omega, ← e2, mul_xor, xor_rot]
      congr 1
      show 256 * (256 ^ j * b.toNat) = 256 ^ (j + 1) * b.toNat
      rw [Nat.pow_succ, Nat.mul_comm (256 ^ j) 256, Nat.mul_assoc]
set_option maxRecDepth 8000 in
theorem bit_at (t : Nat) : 256 ^ (t / 8) * 2 ^ (t % 8) = 2 ^ t := by
  rw [show (256 : Nat) = 2 ^ 8 from rfl, ← Nat.pow_mul, ← Nat.pow_add]
  congr 1
  omega
set_option maxRecDepth 8000 in
theorem burst_more (f i B : Nat) (hB : B < 2 ^ i) : (2 ^ f * B) ^^^ 2 ^ (f + i) = 2 ^ f * (2 ^ i + B) := by
  have h := xor_low i 1 B hB
  rw [Nat.mul_one] at h
  rw [← h, mul_xor, Nat.pow_add, Nat.xor_comm]
end Go.Proofs.YtfclkkbmgclfgaaDoor

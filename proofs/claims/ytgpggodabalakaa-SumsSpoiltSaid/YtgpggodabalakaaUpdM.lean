/- Half bytes: plain. -/
import Derived.Test.YtgpggodabalakaaHalf
namespace Go.Proofs.Ytgpggodabalakaa
open Go.RowKit
theorem xor_rot (a b c : Nat) : a ^^^ b ^^^ c = a ^^^ c ^^^ b := by rw [Nat.xor_assoc, Nat.xor_comm b c, ← Nat.xor_assoc]
theorem stepN_xor (a b : Nat) : stepN (a ^^^ b) = stepN a ^^^ stepN b := by
  unfold stepN
  have h2 : (a ^^^ b) / 2 = a / 2 ^^^ b / 2 := Nat.xor_div_two
  have hm : (a ^^^ b) % 2 = (a % 2 + b % 2) % 2 := by
    have := Nat.xor_mod_two_eq_one (a := a) (b := b)
    by_cases h1 : a % 2 = 1 <;> by_cases h2 : b % 2 = 1
    · have h3 : ¬ (a ^^^ b) % 2 = 1 := fun h => this.1 h (iff_of_true h1 h2)
      omega
    · have h3 : (a ^^^ b) % 2 = 1 := this.2 fun h => h2 (h.1 h1)
      omega
    · have h3 : (a ^^^ b) % 2 = 1 := this.2 fun h => h1 (h.2 h2)
      omega
    · have h3 : ¬ (a ^^^ b) % 2 = 1 := fun h => this.1 h (iff_of_false h1 h2)
      omega
  rw [h2]
  by_cases ha : a % 2 = 0 <;> by_cases hb : b % 2 = 0
  · rw [if_pos (by omega), if_pos ha, if_pos hb]
  · rw [if_neg (by omega), if_pos ha, if_neg hb, Nat.xor_assoc]
  · rw [if_neg (by omega), if_neg ha, if_pos hb, xor_rot]
  · rw [if_pos (by omega), if_neg ha, if_neg hb, Nat.xor_assoc, Nat.xor_comm 3988292384 (b / 2 ^^^ 3988292384), Nat.xor_assoc (b / 2), Nat.xor_self, Nat.xor_zero]
theorem stepsN_xor (k a b : Nat) : stepsN k (a ^^^ b) = stepsN k a ^^^ stepsN k b := by
  induction k with
  | zero => rfl
  | succ k ih => simp only [stepsN, ih, stepN_xor]
theorem stepsN_add (j k s : Nat) : stepsN (j + k) s = stepsN j (stepsN k s) := by
  induction j with
  | zero => simp [stepsN]
  | succ j ih => rw [Nat.succ_add]; simp only [stepsN, ih]
theorem stepN_even' (q : Nat) : stepN (2 * q) = q := by
  rw [stepN, if_pos (by omega)]
  omega
theorem steps4_even (q : Nat) : stepsN 4 (16 * q) = q := by
  simp only [stepsN]
  rw [show 16 * q = 2 * (2 * (2 * (2 * q))) by omega]
  simp only [stepN_even']
theorem halfN_eq : ∀ v : Fin 16, halfN v.val = stepsN 4 v.val := by decide +kernel
theorem xor_div16 (a b : Nat) : (a ^^^ b) / 16 = a / 16 ^^^ b / 16 := Nat.xor_div_two_pow (n := 4)
theorem xor_mod16 (a b : Nat) : (a ^^^ b) % 16 = a % 16 ^^^ b % 16 := Nat.xor_mod_two_pow (n := 4)
theorem split16 (t : Nat) : 16 * (t / 16) ^^^ t % 16 = t := by
  have h1 := xor_div16 (16 * (t / 16)) (t % 16)
  have h2 := xor_mod16 (16 * (t / 16)) (t % 16)
  rw [show 16 * (t / 16) / 16 = t / 16 by omega, show t % 16 / 16 = 0 by omega, Nat.xor_zero] at h1
  rw [show 16 * (t / 16) % 16 = 0 by omega, show t % 16 % 16 = t % 16 by omega, Nat.zero_xor] at h2
  omega
theorem steps4 (t : Nat) : stepsN 4 t = t / 16 ^^^ halfN (t % 16) := by
  have h := halfN_eq ⟨t % 16, by omega⟩
  simp only at h
  rw [h]
  have := stepsN_xor 4 (16 * (t / 16)) (t % 16)
  rw [split16, steps4_even] at this
  exact this
/-- the two halves of a byte, one behind the other -/
def loN (s x : Nat) : Nat := s / 16 ^^^ halfN ((s ^^^ x) % 16)
theorem byteN_halves (s : Nat) (x : UInt8) : byteN s x = loN (loN s x.toNat) (x.toNat / 16) := by
  have hx := x.toNat_lt
  unfold byteN loN
  rw [show (8 : Nat) = 4 + 4 from rfl, stepsN_add, steps4 (s ^^^ x.toNat), xor_div16, xor_rot, steps4, xor_div16 _ (x.toNat / 16), show x.toNat / 16 / 16 = 0 by omega, Nat.xor_zero]
theorem loN_lt {s x : Nat} (hs : s < 4294967296) : loN s x < 4294967296 := Nat.xor_lt_two_pow (n := 32) (by omega) (halfN_lt _)
end Go.Proofs.Ytgpggodabalakaa

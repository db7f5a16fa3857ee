/- keys: a key made weak, by the program and by the definition: words. -/
import Derived.Test.YtliakhknmckdgaaDoorR04
import Derived.Test.YtliakhknmckdgaaDoorR05
import Derived.Test.YtliakhknmckdgaaDoorR06
namespace Go.Proofs.YtliakhknmckdgaaDoor
open Go.RowKit
/-- weak -/
def Ky.weak (x : Ky) : Ky := if x.k = 0 ∨ x.k = 1 ∨ x.k = 8 then x else if x.k = 2 ∨ x.k = 3 then { x with r := (lsN x.r.toNat 3 (rm x.k) : Nat) } else ⟨0, 0, 0, 0, 0, 0⟩
theorem weak_self {x : Ky} (h : x.k = 0 ∨ x.k = 1 ∨ x.k = 8) : x.weak = x := if_pos h
set_option maxRecDepth 8000 in
theorem weak_less {x : Ky} (h : x.k = 2 ∨ x.k = 3) : x.weak = { x with r := (lsN x.r.toNat 3 (rm x.k) : Nat) } := by
  unfold Ky.weak
  rw [if_neg (by omega), if_pos h]
set_option maxRecDepth 8000 in
theorem weak_void {x : Ky} (h : x.k ≠ 0 ∧ x.k ≠ 1 ∧ x.k ≠ 8 ∧ x.k ≠ 2 ∧ x.k ≠ 3) : x.weak = ⟨0, 0, 0, 0, 0, 0⟩ := by
  unfold Ky.weak
  rw [if_neg (by omega), if_neg (by omega)]
set_option maxRecDepth 8000 in
theorem weaken_ok (x : Ky) (w : World) (hT : Tab w) (h : x.ok) :
    Calls Tryd.prog 68 #[x.val] w fun e w' => e = .returned (.tuple #[x.weak.val, .int .i64 0]) ∧ Below w.heap.size w w' := by
  obtain ⟨k, o, c, l, r, v⟩ := x
  by_cases h1 : k = 0 ∨ k = 1 ∨ k = 8
  · rw [weak_self h1]
    exact weaken_self k o c l r v w hT h h1
  · by_cases h2 : k = 2 ∨ k = 3
    · rw [weak_less h2]
      obtain ⟨_, n, hn, _, h8⟩ := ok_of h
      simp only at hn
      subst hn
      exact weaken_less k o c l v n w hT h h2 h8
    · rw [weak_void (by simp; omega)]
      exact weaken_void k o c l r v w hT h (by omega)
set_option maxRecDepth 8000 in
theorem lsN_or (r q : Nat) (hq : q < 8) : lsN r q 7 = r ||| q := by
  have : ∀ q, q < 8 → q &&& 7 = q := by decide
  unfold lsN
  rw [this q hq]
set_option maxRecDepth 8000 in
theorem lsN_one : ∀ q, q < 8 → ∀ r, r < 8 → lsN r q 1 = r ||| (q % 2) := by decide
set_option maxRecDepth 8000 in
theorem lsN_page : ∀ r, r < 2 → lsN r 3 1 = 1 := by decide
set_option maxRecDepth 8000 in
theorem lsN_zero (r q : Nat) : lsN r q 0 = r := by simp [lsN]
set_option maxRecDepth 8000 in
theorem rm_other {k : Int} (h2 : k ≠ 2) (h3 : k ≠ 3) : rm k = 0 := by
  unfold rm kRts
  rw [if_neg (by omega), if_neg (by omega)]
  rfl
set_option maxRecDepth 8000 in
theorem rweaken_ok (x : Ky) (w : World) (h : x.ok) :
    Calls Tryd.prog 32 #[x.val] w fun e w' => e = .returned x.weak.val ∧ Below w.heap.size w w' := by
  obtain ⟨k, o, c, l, r, v⟩ := x
  obtain ⟨_, n, hn, hm, h8⟩ := ok_of h
  simp only at hn hm
  subst hn
  by_cases h2 : k = 2
  · subst h2
    rw [weak_less (.inl rfl)]
    have := rwk_2 o c l v n w h8
    rw [← lsN_or n 3 (by decide)] at this
    exact this
  · by_cases h3 : k = 3
    · subst h3
      rw [weak_less (.inr rfl)]
      have e : lsN n 3 1 = 1 := lsN_page n (by have : rm 3 = 1 := rfl; omega)
      have := rwk_3 o c l n v w
      rw [show (1 : Int) = ((lsN n 3 1 : Nat) : Int) by rw [e]; rfl] at this
      exact this
    · by_cases h1 : k = 1
      · subst h1
        rw [weak_self (.inr (.inl rfl))]
        exact rwk_1 o c l n v w
      · by_cases h8' : k = 8
        · subst h8'
          rw [weak_self (.inr (.inr rfl))]
          exact rwk_8 o c l n v w
        · by_cases h0 : k = 0
          · subst h0
            rw [weak_self (.inl rfl)]
            obtain ⟨rfl, rfl, rfl, e, rfl⟩ := void_all h
            have e' : n = 0 := by have : ((n : Nat) : Int) = 0 := e; omega
            subst e'
            exact rwk_v 0 0 0 0 0 0 w (by omega)
          · rw [weak_void (by simp; omega)]
            exact rwk_v k o c l n v w (by omega)
end Go.Proofs.YtliakhknmckdgaaDoor

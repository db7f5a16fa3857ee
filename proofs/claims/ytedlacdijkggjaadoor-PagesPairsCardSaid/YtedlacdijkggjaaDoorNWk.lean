/- keys: a key made weak, by the program and by the definition: words. -/
import Derived.Test.YtedlacdijkggjaaDoorR04
import Derived.Test.YtedlacdijkggjaaDoorR05
import Derived.Test.YtedlacdijkggjaaDoorR06
namespace Go.Proofs.YtedlacdijkggjaaDoor
open Go.RowKit
/-- weak -/
def Ky.weak (x : Ky) : Ky := if x.k = 0 ∨ x.k = 1 ∨ x.k = 8 then x else if x.k = 2 ∨ x.k = 3 then { x with r := (lsN x.r.toNat 3 (rm x.k) : Nat) } else ⟨0, 0, 0, 0, 0, 0⟩
theorem weak_self {x : Ky} (h : x.k = 0 ∨ x.k = 1 ∨ x.k = 8) : x.weak = x := if_pos h
set_option maxRecDepth 8000 in
theorem weak_less {x : Ky} (h : x.k = 2 ∨ x.k = 3) : x.weak = { x with r := (lsN x.r.toNat 3 (rm x.k) : Nat) } := by
  unfold Ky.weak
  rw [if_neg (by omega), if_pos h]
set_option maxRecDepth 8000 in
theorem weak_void {x : Ky} (h : x.k ≠ 0 ∧ x.k ≠ 1 ∧ x.k ≠ 8 ∧ x.k ≠ 2 ∧ x.k ≠ 3) : x.weak = ⟨0, 0, 0, 0, 0, 0⟩ := by
  unfold Ky.weak
  rw [if_neg (by omega), if_neg (by omega)]
set_option maxRecDepth 8000 in
theorem lsN_or (r q : Nat) (hq : q < 8) : lsN r q 7 = r ||| q := by
  have : ∀ q, q < 8 → q &&& 7 = q := by decide
  unfold lsN
  rw [this q hq]
set_option maxRecDepth 8000 in
theorem lsN_one : ∀ q, q < 8 → ∀ r, r < 8 → lsN r q 1 = r ||| (q % 2) := by decide
set_option maxRecDepth 8000 in
theorem lsN_page : ∀ r, r < 2 → lsN r 3 1 = 1 := by decide
set_option maxRecDepth 8000 in
theorem lsN_zero (r q : Nat) : lsN r q 0 = r := by simp [lsN]
set_option maxRecDepth 8000 in
theorem rm_other {k : Int} (h2 : k ≠ 2) (h3 : k ≠ 3) : rm k = 0 := by
  unfold rm kRts
  rw [if_neg (by omega), if_neg (by omega)]
  rfl
end Go.Proofs.YtedlacdijkggjaaDoor

/- keys: a key, whole: words. -/
import Derived.Test.YtlhlgfehbfankaaDoorKEq
namespace Go.Proofs.YtlhlgfehbfankaaDoor
open Go.RowKit
structure Ky where
  (k o c l r v : Int)
abbrev Ky.val (x : Ky) : Value := .agg (kc x.k x.o x.c x.l x.r x.v)
def Ky.ok (x : Ky) : Prop := OkK x.k x.o x.c x.l x.r x.v
noncomputable def Ky.okB (x : Ky) : Bool := @decide x.ok (Classical.propDecidable _)
theorem Ky.okB_yes {x : Ky} (h : x.ok) : x.okB = true := by unfold Ky.okB; simpa using h
theorem Ky.okB_no {x : Ky} (h : ¬ x.ok) : x.okB = false := by unfold Ky.okB; simpa using h
theorem ok_of {x : Ky} (h : x.ok) : (0 ≤ x.k ∧ x.k ≤ 10) ∧ ∃ n : Nat, x.r = n ∧ n ≤ rm x.k ∧ n < 8 := ⟨okK_in h, okK_r h⟩
/-- a void key -/
theorem void_all {o c l r v : Int} (h : OkK 0 o c l r v) : o = 0 ∧ c = 0 ∧ l = 0 ∧ r = 0 ∧ v = 0 := by
  obtain ⟨n, h0, _, h1, h2, h3, h4, h5, h6, h7, h8, h9⟩ := h
  obtain rfl : n = 0 := by omega
  simp [kOid, kCnt, kCall, kRts, kVal] at h2 h4 h6 h8 h9
  omega
end Go.Proofs.YtlhlgfehbfankaaDoor

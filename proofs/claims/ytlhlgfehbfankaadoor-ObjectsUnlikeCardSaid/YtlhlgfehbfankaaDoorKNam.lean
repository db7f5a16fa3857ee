/- the definition's names, Check: for every key. -/
import Derived.Test.YtlhlgfehbfankaaDoorKChk
namespace Go.Proofs.YtlhlgfehbfankaaDoor
open Go.RowKit
def nA (k : Int) : Bool := decide (2 ≤ k ∧ k ≤ 7)
def nB (k : Int) : Bool := decide (k = 2 ∨ k = 3)
def nC (k : Int) : Bool := decide (k = 7)
def nD (k : Int) : Bool := decide (k = 1 ∨ k = 6)
theorem four {k : Int} {a b c d : Bool} (h1 : a = nA k) (h2 : b = nB k) (h3 : c = nC k) (h4 : d = nD k) :
    Ending.returned (.tuple #[.bool a, .bool b, .bool c, .bool d]) = .returned (.tuple #[.bool (nA k), .bool (nB k), .bool (nC k), .bool (nD k)]) := by rw [h1, h2, h3, h4]
theorem res4 {fn : Func} {t u v x : Tmp} (h : fn.results = #[.tmp t, .tmp u, .tmp v, .tmp x]) (tmps : Array Value) (P : Program) (w : World) :
    (results fn tmps).run P w = .ok (.tuple #[tmps.getD t undef, tmps.getD u undef, tmps.getD v undef, tmps.getD x undef]) w := by simp [results, h]
theorem names_any (k : Int) (w : World) : Calls Tryd.prog 41 #[.int .i64 k] w fun e w' => e = .returned (.tuple #[.bool (nA k), .bool (nB k), .bool (nC k), .bool (nD k)]) ∧ w = w' := by
  go_enter Tryd.func41, Tryd.ntmps41
  go_wp2
  all_goals
    refine bodyPost_ret (res4 (t := 2) (u := 3) (v := 4) (x := 5) rfl _ _ _) rfl ⟨four ?_ ?_ ?_ ?_, rfl⟩
    · unfold nA; first | rfl | (rw [Bool.eq_iff_iff]; simp; omega)
    · unfold nB; first | rfl | (rw [Bool.eq_iff_iff]; simp; done) | (rw [Bool.eq_iff_iff]; simp; omega)
    · unfold nC; first | rfl | (rw [Bool.eq_iff_iff]; simp; done) | (rw [Bool.eq_iff_iff]; simp; omega)
    · unfold nD; first | rfl | (rw [Bool.eq_iff_iff]; simp; done) | (rw [Bool.eq_iff_iff]; simp; omega)
theorem bne0 {v : Int} (h : (v != 0) = true) : v ≠ 0 := by simpa using h
theorem bne1 {v : Int} (h : (v != 0) = false) : v = 0 := by simpa using h
/-- what a key must keep, by what its kind names -/
def Keeps (A B C D : Bool) (m o c l r v : Int) : Prop :=
  (0 ≤ r ∧ r ≤ if B then m else 0) ∧ (D = true ∨ v = 0) ∧ (if A then 0 ≤ o ∧ o < 64 ∧ 0 ≤ c ∧ c ≤ 4294967295 else o = 0 ∧ c = 0) ∧ (if C then 0 ≤ l ∧ l ≤ 4294967295 else l = 0)
instance (A B C D : Bool) (m o c l r v : Int) : Decidable (Keeps A B C D m o c l r v) := by unfold Keeps; infer_instance
/-- 0 where it keeps them, 2 where not -/
def verdict (A B C D : Bool) (m o c l r v : Int) : Int := if Keeps A B C D m o c l r v then 0 else 2
theorem verdict_ok {A B C D : Bool} {m o c l r v : Int} (h : Keeps A B C D m o c l r v) : 0 = verdict A B C D m o c l r v := (if_pos h).symm
theorem verdict_no {A B C D : Bool} {m o c l r v : Int} (h : ¬ Keeps A B C D m o c l r v) : 2 = verdict A B C D m o c l r v := (if_neg h).symm
theorem ret_v {n m : Int} (h : n = m) : Ending.returned (.int .i64 n) = .returned (.int .i64 m) := by rw [h]
end Go.Proofs.YtlhlgfehbfankaaDoor

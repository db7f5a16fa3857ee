/- keys: contracts with one answer each. -/
import Derived.Test.YtlhlgfehbfankaaDoorKSpec
namespace Go.Proofs.YtlhlgfehbfankaaDoor
open Go.RowKit
/-- 0 of a key that may be, 2 of others -/
noncomputable def Ky.chk (x : Ky) : Int := @ite Int x.ok (Classical.propDecidable _) 0 2
theorem Ky.chk_yes {x : Ky} (h : x.ok) : x.chk = 0 := if_pos h
theorem Ky.chk_no {x : Ky} (h : ¬ x.ok) : x.chk = 2 := if_neg h
theorem kchk_any (x : Ky) (w : World) (hT : Tab w) : Calls Tryd.prog 46 #[x.val] w fun e w' => e = .returned (.int .i64 x.chk) ∧ Below w.heap.size w w' := by
  by_cases h : x.ok
  · rw [Ky.chk_yes h]; exact chk_ok _ _ _ _ _ _ w hT h
  · rw [Ky.chk_no h]; exact chk_no _ _ _ _ _ _ w hT h
theorem rchk_any (x : Ky) (w : World) : Calls Tryd.prog 34 #[x.val] w fun e w' => e = .returned (.int .i64 x.chk) ∧ Below w.heap.size w w' := by
  by_cases h : x.ok
  · rw [Ky.chk_yes h]; exact rchk_ok _ _ _ _ _ _ w h
  · rw [Ky.chk_no h]; exact rchk_no _ _ _ _ _ _ w h
/-- is a key of an object -/
def Ky.of (x : Ky) : Prop := x.ok ∧ 2 ≤ x.k ∧ x.k ≤ 7
theorem nA_of {x : Ky} (h : x.of) : nA x.k = true := by unfold nA; simpa using h.2
theorem nA_not {x : Ky} (h : ¬ x.of) (ho : x.ok) : nA x.k = false := by
  unfold nA
  simp only [decide_eq_false_iff_not]
  exact fun h' => h ⟨ho, h'⟩
theorem wants_of {x : Ky} (h : x.of) : kWants x.k.toNat = if x.k = 3 then 2 else 1 := by
  obtain ⟨k, o, c, l, r, v⟩ := x
  obtain ⟨_, h2, h7⟩ := h
  simp only at h2 h7 ⊢
  have hcase : k = 2 ∨ k = 3 ∨ k = 4 ∨ k = 5 ∨ k = 6 ∨ k = 7 := by omega
  rcases hcase with rfl | rfl | rfl | rfl | rfl | rfl <;> rfl
theorem wants_not {x : Ky} (h : ¬ x.of) (ho : x.ok) : kWants x.k.toNat = 0 := by
  have hk := okK_in ho
  have h' : ¬ (2 ≤ x.k ∧ x.k ≤ 7) := fun h' => h ⟨ho, h'⟩
  obtain ⟨k, o, c, l, r, v⟩ := x
  simp only at h' hk ⊢
  have hcase : k = 0 ∨ k = 1 ∨ k = 8 ∨ k = 9 ∨ k = 10 := by omega
  rcases hcase with rfl | rfl | rfl | rfl | rfl <;> rfl
/-- what a key wants -/
noncomputable def Ky.want (x : Ky) : Int := @ite Int x.of (Classical.propDecidable _) (if x.k = 3 then 2 else 1) 0
theorem kwant_any (x : Ky) (w : World) (hT : Tab w) : Calls Tryd.prog 45 #[x.val] w fun e w' => e = .returned (.int .i64 x.want) ∧ Below w.heap.size w w' := by
  unfold Ky.want
  by_cases h : x.of
  · rw [if_pos h, ← wants_of h]; exact wants_any _ _ _ _ _ _ w hT h.1
  · rw [if_neg h]
    by_cases ho : x.ok
    · rw [← wants_not h ho]; exact wants_any _ _ _ _ _ _ w hT ho
    · exact wants_no _ _ _ _ _ _ w hT ho
theorem rwant_any (x : Ky) (w : World) : Calls Tryd.prog 47 #[x.val] w fun e w' => e = .returned (.int .i64 x.want) ∧ Below w.heap.size w w' := by
  unfold Ky.want
  by_cases h : x.of
  · rw [if_pos h]
    by_cases h3 : x.k = 3
    · rw [if_pos h3]; exact rw_3 _ _ _ _ _ _ w h.1 (nA_of h) h3
    · rw [if_neg h3]; exact rw_1 _ _ _ _ _ _ w h.1 (nA_of h) h3
  · rw [if_neg h]
    by_cases ho : x.ok
    · exact rw_none _ _ _ _ _ _ w ho (nA_not h ho)
    · exact rw_no _ _ _ _ _ _ w ho
theorem kname_yes (x : Ky) (w : World) (hT : Tab w) (h : x.of) : Calls Tryd.prog 37 #[x.val] w fun e w' => e = .returned (.tuple #[.int .i64 x.o, .bool true]) ∧ Below w.heap.size w w' :=
  kn_some _ _ _ _ _ _ w hT h.1 (by rw [wants_of h]; split <;> decide)
theorem kname_no (x : Ky) (w : World) (hT : Tab w) (h : ¬ x.of) : Calls Tryd.prog 37 #[x.val] w fun e w' => e = .returned (.tuple #[.int .i64 0, .bool false]) ∧ Below w.heap.size w w' := by
  by_cases ho : x.ok
  · exact kn_none _ _ _ _ _ _ w hT ho (wants_not h ho)
  · exact kn_no _ _ _ _ _ _ w hT ho
theorem rname_yes (x : Ky) (w : World) (h : x.of) : Calls Tryd.prog 23 #[x.val] w fun e w' => e = .returned (.int .i64 x.o) ∧ Below w.heap.size w w' := rn_some _ _ _ _ _ _ w h.1 (nA_of h)
theorem rname_no (x : Ky) (w : World) (h : ¬ x.of) : Calls Tryd.prog 23 #[x.val] w fun e w' => e = .returned (.int .i64 (-1)) ∧ Below w.heap.size w w' := by
  by_cases ho : x.ok
  · exact rn_none _ _ _ _ _ _ w ho (nA_not h ho)
  · exact rn_no _ _ _ _ _ _ w ho
theorem of_o {x : Ky} (h : x.of) : 0 ≤ x.o := by
  obtain ⟨⟨n, _, _, h0, _⟩, _⟩ := h
  exact h0
theorem kchk_yes (x : Ky) (w : World) (hT : Tab w) (h : x.ok) : Calls Tryd.prog 46 #[x.val] w fun e w' => e = .returned (.int .i64 0) ∧ Below w.heap.size w w' := chk_ok _ _ _ _ _ _ w hT h
theorem kchk_no (x : Ky) (w : World) (hT : Tab w) (h : ¬ x.ok) : Calls Tryd.prog 46 #[x.val] w fun e w' => e = .returned (.int .i64 2) ∧ Below w.heap.size w w' := chk_no _ _ _ _ _ _ w hT h
end Go.Proofs.YtlhlgfehbfankaaDoor

/- volume: which places may be. -/
import Derived.Test.YtpihllgdgolgpaaDoorVTab
namespace Go.Proofs.YtpihllgdgolgpaaDoor
open Go.RowKit
attribute [local go_sem] Oper.semAt_some
set_option maxRecDepth 8000 in
set_option maxHeartbeats 4000000 in
theorem maybe_t (x : Sp) (w : World) (hT : Tab w) (ht : x.t ≠ 0) : Calls Tryd.prog 19 #[x.val] w fun e w' => e = .returned (.bool (decide (mayP x))) ∧ Below w.heap.size w w' := by
  obtain ⟨k, a, t⟩ := x
  have HB := Lib.hid ((Below.refl w.heap.size w).alloc (Nat.le_refl _) (.cells (Sp.cs ⟨k, a, t⟩).toArray 30))
  have T1 := hT.alloc (.cells (Sp.cs ⟨k, a, t⟩).toArray 30)
  have n1 := T1 1 _ rfl
  have n2 := T1 2 _ rfl
  have n3 := T1 3 _ rfl
  have n4 := T1 4 _ rfl
  have n5 := T1 5 _ rfl
  clear T1 hT
  by_cases h0 : k ≤ 0
  · have e : decide (mayP ⟨k, a, t⟩) = false := decide_eq_false (by unfold mayP; simp only; omega)
    have d0 : decide (k ≤ 0) = true := decide_eq_true h0
    rw [e]
    clear e h0
    go_enter Tryd.func19, Tryd.ntmps19
    go_wp2
    go_ret
    exact ⟨rfl, HB.out⟩
  have d0 : decide (k ≤ 0) = false := decide_eq_false h0
  by_cases h1 : 6 ≤ k
  · have e : decide (mayP ⟨k, a, t⟩) = false := decide_eq_false (by unfold mayP; simp only; omega)
    have d1 : decide (6 ≤ k) = true := decide_eq_true h1
    rw [e]
    clear e h0 h1
    go_enter Tryd.func19, Tryd.ntmps19
    go_wp2
    go_ret
    exact ⟨rfl, HB.out⟩
  have d1 : decide (6 ≤ k) = false := decide_eq_false h1
  have hk : k = 1 ∨ k = 2 ∨ k = 3 ∨ k = 4 ∨ k = 5 := by omega
  have ha : a = 0 ∨ a = 1 ∨ (a ≠ 0 ∧ 0 < a ∧ ¬ a < 2) ∨ (a ≠ 0 ∧ ¬ 0 < a) := by omega
  clear h0 h1 d0 d1
  obtain ⟨b, hb⟩ : ∃ b, b = decide (mayP ⟨k, a, t⟩) := ⟨_, rfl⟩
  rw [← hb]
  simp only at ht
  have dt : (t == 0) = false := by simpa using ht
  rcases ha with rfl | rfl | ⟨a0, a1, a2⟩ | ⟨a0, a1⟩ <;> rcases hk with rfl | rfl | rfl | rfl | rfl
  all_goals
    first
      | have da : decide (a = 0) = false := decide_eq_false a0
      | skip
    first
      | have db : decide (0 < a) = true := decide_eq_true a1
      | have db : decide (0 < a) = false := decide_eq_false a1
      | skip
    first
      | have dc : decide (a < 2) = false := decide_eq_false a2
      | skip
    cases b
    all_goals try (exfalso; have hm := (mayP_mk _ _ _).1 (of_decide_eq_true hb.symm); omega)
    all_goals try (exfalso; have hm := of_decide_eq_false hb.symm; refine hm ((mayP_mk _ _ _).2 ?_); omega)
    clear hb
    go_enter Tryd.func19, Tryd.ntmps19
    go_wp2
    go_ret
    exact ⟨rfl, HB.out⟩
end Go.Proofs.YtpihllgdgolgpaaDoor

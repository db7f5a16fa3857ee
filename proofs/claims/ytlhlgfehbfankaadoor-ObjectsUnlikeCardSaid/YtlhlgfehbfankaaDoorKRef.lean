/- the definition's Check: for every key. -/
import Derived.Test.YtlhlgfehbfankaaDoorKRa
import Derived.Test.YtlhlgfehbfankaaDoorKRb
import Derived.Test.YtlhlgfehbfankaaDoorKRc
namespace Go.Proofs.YtlhlgfehbfankaaDoor
open Go.RowKit
/-- what a kind's row says of a key, and what the definition says of it, are the same -/
theorem okK_iff {k o c l r v : Int} (k0 : 0 ≤ k) (k1 : k ≤ 10) (A B C D : Bool) (m : Int) (ha : nA k = A) (hb : nB k = B) (hc : nC k = C) (hd : nD k = D) (hm : B = true → kRts k.toNat = m) : OkK k o c l r v ↔ Keeps A B C D m o c l r v := by
  subst ha hb hc hd
  obtain ⟨n, rfl⟩ := Int.eq_ofNat_of_zero_le k0
  have e : OkK (n : Int) o c l r v ↔ (0 ≤ o ∧ o ≤ kOid n ∧ 0 ≤ c ∧ c ≤ kCnt n ∧ 0 ≤ l ∧ l ≤ kCall n ∧ 0 ≤ r ∧ r ≤ kRts n ∧ (v = 0 ∨ kVal n = true)) := by
    constructor
    · rintro ⟨n', h, h0, h'⟩
      have : n' = n := by omega
      subst this
      exact h'
    · intro h
      exact ⟨n, rfl, by omega, h⟩
  rw [e]
  have hn : n ≤ 10 := by omega
  have hcase : n = 0 ∨ n = 1 ∨ n = 2 ∨ n = 3 ∨ n = 4 ∨ n = 5 ∨ n = 6 ∨ n = 7 ∨ n = 8 ∨ n = 9 ∨ n = 10 := by omega
  unfold Keeps
  rcases hcase with rfl | rfl | rfl | rfl | rfl | rfl | rfl | rfl | rfl | rfl | rfl <;> simp [nA, nB, nC, nD, kOid, kCnt, kCall, kRts, kVal] at hm ⊢ <;> omega
set_option maxHeartbeats 1000000 in
theorem rchk_noK (k o c l r v : Int) (w : World) (hk : k < 0 ∨ 10 < k) :
    Calls Tryd.prog 34 #[.agg #[.int .i64 k, .int .i64 o, .int .i64 c, .int .i64 l, .int .i64 r, .int .i64 v]] w fun e w' => e = .returned (.int .i64 2) ∧ Below w.heap.size w w' := by
  have HN : Hid (∀ w : World, Calls Tryd.prog 41 #[.int .i64 k] w fun e w' => e = .returned (.tuple #[.bool false, .bool false, .bool false, .bool false]) ∧ w = w') := by
    refine Lib.hid fun w => ?_
    have := names_any k w
    rw [show nA k = false by unfold nA; simp; omega, show nB k = false by unfold nB; simp; omega, show nC k = false by unfold nC; simp; omega, show nD k = false by unfold nD; simp; omega] at this
    exact this
  have d3 : (k == 3) = false := by simp; omega
  rcases hk with hk | hk
  · go_enter Tryd.func34, Tryd.ntmps34
    go_wp2_with (go_at_call 41; refine (HN.out _).mono ?_; rintro e w' ⟨rfl, rfl⟩)
    go_ret
    exact ⟨rfl, (Below.refl _ _).alloc (Nat.le_refl _) _⟩
  · have hk0 : ¬ k < 0 := by omega
    have d0 : decide (k < 0) = false := by simpa using hk0
    go_enter Tryd.func34, Tryd.ntmps34
    go_wp2_with (go_at_call 41; refine (HN.out _).mono ?_; rintro e w' ⟨rfl, rfl⟩)
    go_ret
    exact ⟨rfl, (Below.refl _ _).alloc (Nat.le_refl _) _⟩
theorem rchk_in (k o c l r v : Int) (w : World) (k0 : 0 ≤ k) (k1 : k ≤ 10) : ∃ n : Int, (OkK k o c l r v → n = 0) ∧ (¬ OkK k o c l r v → n = 2) ∧
    Calls Tryd.prog 34 #[.agg #[.int .i64 k, .int .i64 o, .int .i64 c, .int .i64 l, .int .i64 r, .int .i64 v]] w fun e w' => e = .returned (.int .i64 n) ∧ Below w.heap.size w w' := by
  have fin : ∀ (A B C D : Bool) (m : Int), nA k = A → nB k = B → nC k = C → nD k = D → (B = true → kRts k.toNat = m) → (Calls Tryd.prog 34 #[.agg #[.int .i64 k, .int .i64 o, .int .i64 c, .int .i64 l, .int .i64 r, .int .i64 v]] w fun e w' => e = .returned (.int .i64 (verdict A B C D m o c l r v)) ∧ Below w.heap.size w w') →
      ∃ n : Int, (OkK k o c l r v → n = 0) ∧ (¬ OkK k o c l r v → n = 2) ∧ Calls Tryd.prog 34 #[.agg #[.int .i64 k, .int .i64 o, .int .i64 c, .int .i64 l, .int .i64 r, .int .i64 v]] w fun e w' => e = .returned (.int .i64 n) ∧ Below w.heap.size w w' := by
    intro A B C D m ha hb hc hd hm hC
    have e := okK_iff (o := o) (c := c) (l := l) (r := r) (v := v) k0 k1 A B C D m ha hb hc hd hm
    exact ⟨_, fun h => (verdict_ok (e.1 h)).symm, fun h => (verdict_no (fun h' => h (e.2 h'))).symm, hC⟩
  have hcase : (k = 0 ∨ k = 8 ∨ k = 9 ∨ k = 10) ∨ k = 1 ∨ k = 2 ∨ k = 3 ∨ (k = 4 ∨ k = 5) ∨ k = 6 ∨ k = 7 := by omega
  rcases hcase with h | rfl | rfl | rfl | h | rfl | rfl
  · have ha : nA k = false := by unfold nA; simp; omega
    have hb : nB k = false := by unfold nB; simp; omega
    have hc : nC k = false := by unfold nC; simp; omega
    have hd : nD k = false := by unfold nD; simp; omega
    exact fin false false false false 0 ha hb hc hd (fun e => by cases e) (rchk_v0 k o c l r v w k0 k1 (by omega) ha hb hc hd)
  · exact fin false false false true 0 rfl rfl rfl rfl (fun e => by cases e) (rchk_v1 1 o c l r v w k0 k1 (by omega) rfl rfl rfl rfl)
  · exact fin true true false false 7 rfl rfl rfl rfl (fun _ => rfl) (rchk_v2 2 o c l r v w k0 k1 (by omega) rfl rfl rfl rfl)
  · exact fin true true false false 1 rfl rfl rfl rfl (fun _ => rfl) (rchk_v3 3 o c l r v w k0 k1 (by omega) rfl rfl rfl rfl)
  · have ha : nA k = true := by unfold nA; simp; omega
    have hb : nB k = false := by unfold nB; simp; omega
    have hc : nC k = false := by unfold nC; simp; omega
    have hd : nD k = false := by unfold nD; simp; omega
    exact fin true false false false 0 ha hb hc hd (fun e => by cases e) (rchk_v4 k o c l r v w k0 k1 (by omega) ha hb hc hd)
  · exact fin true false false true 0 rfl rfl rfl rfl (fun e => by cases e) (rchk_v6 6 o c l r v w k0 k1 (by omega) rfl rfl rfl rfl)
  · exact fin true false true false 0 rfl rfl rfl rfl (fun e => by cases e) (rchk_v7 7 o c l r v w k0 k1 (by omega) rfl rfl rfl rfl)
theorem okK_in {k o c l r v : Int} (h : OkK k o c l r v) : 0 ≤ k ∧ k ≤ 10 := by
  obtain ⟨n, rfl, h, _⟩ := h
  omega
theorem rchk_ok (k o c l r v : Int) (w : World) (h : OkK k o c l r v) :
    Calls Tryd.prog 34 #[.agg #[.int .i64 k, .int .i64 o, .int .i64 c, .int .i64 l, .int .i64 r, .int .i64 v]] w fun e w' => e = .returned (.int .i64 0) ∧ Below w.heap.size w w' := by
  obtain ⟨n, h1, _, h2⟩ := rchk_in k o c l r v w (okK_in h).1 (okK_in h).2
  rw [h1 h] at h2
  exact h2
theorem rchk_no (k o c l r v : Int) (w : World) (h : ¬ OkK k o c l r v) :
    Calls Tryd.prog 34 #[.agg #[.int .i64 k, .int .i64 o, .int .i64 c, .int .i64 l, .int .i64 r, .int .i64 v]] w fun e w' => e = .returned (.int .i64 2) ∧ Below w.heap.size w w' := by
  by_cases hk : k < 0 ∨ 10 < k
  · exact rchk_noK k o c l r v w hk
  · obtain ⟨n, _, h1, h2⟩ := rchk_in k o c l r v w (by omega) (by omega)
    rw [h1 h] at h2
    exact h2
end Go.Proofs.YtlhlgfehbfankaaDoor

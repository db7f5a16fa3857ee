/- the definition's Check: by what a kind names. -/
import Derived.Test.YtjfpmadnlpcpfaaDoorZK
namespace Go.Proofs.YtjfpmadnlpcpfaaDoor
open Go.RowKit
set_option maxRecDepth 8000 in
set_option maxHeartbeats 1000000 in
theorem rchk_v7 (k o c l r v : Int) (w : World) (k0 : 0 ≤ k) (k1 : k ≤ 10) (h3 : k ≠ 3) (ha : nA k = true) (hb : nB k = false) (hc : nC k = true) (hd : nD k = false) :
    Calls Tryd.prog 27 #[.agg #[.int .i64 k, .int .i64 o, .int .i64 c, .int .i64 l, .int .i64 r, .int .i64 v]] w fun e w' => e = .returned (.int .i64 (verdict true false true false 0 o c l r v)) ∧ Below w.heap.size w w' := by
  have HN : Hid (∀ w : World, Calls Tryd.prog 51 #[.int .i64 k] w fun e w' => e = .returned (.tuple #[.bool true, .bool false, .bool true, .bool false]) ∧ w = w') := by
    refine Lib.hid fun w => ?_
    have := names_any k w
    rw [ha, hb, hc, hd] at this
    exact this
  clear ha hb hc hd
  have d3 : (k == 3) = false := by simpa using h3
  clear h3
  go_enter Tryd.func27, Tryd.ntmps27
  go_wp2_with (go_at_call 51; refine (HN.out _).mono ?_; rintro e w' ⟨rfl, rfl⟩)
  all_goals
    go_ret
    refine ⟨ret_v ?_, (Below.refl _ _).alloc (Nat.le_refl _) _⟩
    clear HN
    try simp only [bne_iff_ne, bne_eq_false_iff_eq, ne_eq] at *
    first
      | (refine verdict_ok ?_; unfold Keeps; simp; omega)
      | (refine verdict_ok ?_; unfold Keeps; simp; done)
      | (refine verdict_no ?_; unfold Keeps; simp; omega)
set_option maxRecDepth 8000 in
set_option maxHeartbeats 1000000 in
theorem rchk_v0 (k o c l r v : Int) (w : World) (k0 : 0 ≤ k) (k1 : k ≤ 10) (h3 : k ≠ 3) (ha : nA k = false) (hb : nB k = false) (hc : nC k = false) (hd : nD k = false) :
    Calls Tryd.prog 27 #[.agg #[.int .i64 k, .int .i64 o, .int .i64 c, .int .i64 l, .int .i64 r, .int .i64 v]] w fun e w' => e = .returned (.int .i64 (verdict false false false false 0 o c l r v)) ∧ Below w.heap.size w w' := by
  have HN : Hid (∀ w : World, Calls Tryd.prog 51 #[.int .i64 k] w fun e w' => e = .returned (.tuple #[.bool false, .bool false, .bool false, .bool false]) ∧ w = w') := by
    refine Lib.hid fun w => ?_
    have := names_any k w
    rw [ha, hb, hc, hd] at this
    exact this
  clear ha hb hc hd
  have d3 : (k == 3) = false := by simpa using h3
  clear h3
  go_enter Tryd.func27, Tryd.ntmps27
  go_wp2_with (go_at_call 51; refine (HN.out _).mono ?_; rintro e w' ⟨rfl, rfl⟩)
  all_goals
    go_ret
    refine ⟨ret_v ?_, (Below.refl _ _).alloc (Nat.le_refl _) _⟩
    clear HN
    try simp only [bne_iff_ne, bne_eq_false_iff_eq, ne_eq] at *
    first
      | (refine verdict_ok ?_; unfold Keeps; simp; omega)
      | (refine verdict_ok ?_; unfold Keeps; simp; done)
      | (refine verdict_no ?_; unfold Keeps; simp; omega)
end Go.Proofs.YtjfpmadnlpcpfaaDoor

/- the definition's Weaken, Less. -/
import Derived.Test.YtmpibbgciajnkaaDoorKWi
import Derived.Test.YtmpibbgciajnkaaDoorKWith
namespace Go.Proofs.YtmpibbgciajnkaaDoor
open Go.RowKit
set_option maxHeartbeats 1000000 in
theorem rwk_2 (o c l v : Int) (r : Nat) (w : World) (hr : r < 8) :
    Calls Tryd.prog 23 #[.agg (kc 2 o c l r v)] w fun e w' => e = .returned (.agg (kc 2 o c l ((r ||| 3 : Nat) : Int) v)) ∧ Below w.heap.size w w' := by
  go_enter Tryd.func23, Tryd.ntmps23
  go_wp2_with (go_at_call 38; refine (with_any r 3 _ hr (by decide)).mono ?_; rintro e w' ⟨rfl, rfl⟩)
  refine bodyPost_ret (v := .agg (kc 2 o c l ((r ||| 3 : Nat) : Int) v)) (by simp [results, Tryd.results23, go_sem]) rfl ⟨rfl, ?_⟩
  exact ((Below.refl _ _).alloc (Nat.le_refl _) _).alloc (by simp) _
set_option maxHeartbeats 1000000 in
theorem rwk_3 (o c l r v : Int) (w : World) :
    Calls Tryd.prog 23 #[.agg (kc 3 o c l r v)] w fun e w' => e = .returned (.agg (kc 3 o c l 1 v)) ∧ Below w.heap.size w w' := by
  go_enter Tryd.func23, Tryd.ntmps23
  go_wp2_with (fail)
  refine bodyPost_ret (v := .agg (kc 3 o c l 1 v)) (by simp [results, Tryd.results23, go_sem]) rfl ⟨rfl, ?_⟩
  exact ((Below.refl _ _).alloc (Nat.le_refl _) _).alloc (by simp) _
set_option maxHeartbeats 1000000 in
theorem rwk_1 (o c l r v : Int) (w : World) :
    Calls Tryd.prog 23 #[.agg (kc 1 o c l r v)] w fun e w' => e = .returned (.agg (kc 1 o c l r v)) ∧ Below w.heap.size w w' := by
  go_enter Tryd.func23, Tryd.ntmps23
  go_wp2_with (fail)
  refine bodyPost_ret (v := .agg (kc 1 o c l r v)) (by simp [results, Tryd.results23, go_sem]) rfl ⟨rfl, ?_⟩
  exact ((Below.refl _ _).alloc (Nat.le_refl _) _).alloc (by simp) _
set_option maxHeartbeats 1000000 in
theorem rwk_8 (o c l r v : Int) (w : World) :
    Calls Tryd.prog 23 #[.agg (kc 8 o c l r v)] w fun e w' => e = .returned (.agg (kc 8 o c l r v)) ∧ Below w.heap.size w w' := by
  go_enter Tryd.func23, Tryd.ntmps23
  go_wp2_with (fail)
  refine bodyPost_ret (v := .agg (kc 8 o c l r v)) (by simp [results, Tryd.results23, go_sem]) rfl ⟨rfl, ?_⟩
  exact ((Below.refl _ _).alloc (Nat.le_refl _) _).alloc (by simp) _
set_option maxHeartbeats 1000000 in
theorem rwk_v (k o c l r v : Int) (w : World) (h : k ≠ 2 ∧ k ≠ 3 ∧ k ≠ 1 ∧ k ≠ 8) :
    Calls Tryd.prog 23 #[.agg (kc k o c l r v)] w fun e w' => e = .returned (.agg (kc 0 0 0 0 0 0)) ∧ Below w.heap.size w w' := by
  obtain ⟨h2, h3, h1, h8⟩ := h
  have e2 : (k == 2) = false := by simpa using h2
  have e3 : (k == 3) = false := by simpa using h3
  have e1 : (k == 1) = false := by simpa using h1
  have e8 : (k == 8) = false := by simpa using h8
  clear h2 h3 h1 h8
  go_enter Tryd.func23, Tryd.ntmps23
  go_wp2_with (fail)
  refine bodyPost_ret (v := .agg (kc 0 0 0 0 0 0)) (by simp [results, Tryd.results23, go_sem]) rfl ⟨rfl, ?_⟩
  exact ((Below.refl _ _).alloc (Nat.le_refl _) _).alloc (by simp) _
set_option maxHeartbeats 1000000 in
theorem rls_2 (o c l v : Int) (r q : Nat) (w : World) (hr : r < 8) (hq : q < 8) :
    Calls Tryd.prog 24 #[.agg (kc 2 o c l r v), .int .i64 q] w fun e w' => e = .returned (.agg (kc 2 o c l ((r ||| q : Nat) : Int) v)) ∧ Below w.heap.size w w' := by
  go_enter Tryd.func24, Tryd.ntmps24
  go_wp2_with (go_at_call 38; refine (with_any r q _ hr hq).mono ?_; rintro e w' ⟨rfl, rfl⟩)
  refine bodyPost_ret (v := .agg (kc 2 o c l ((r ||| q : Nat) : Int) v)) (by simp [results, Tryd.results24, go_sem]) rfl ⟨rfl, ?_⟩
  exact ((Below.refl _ _).alloc (Nat.le_refl _) _).alloc (by simp) _
set_option maxHeartbeats 1000000 in
theorem rls_3 (o c l v : Int) (r q : Nat) (w : World) (hr : r < 8) (hq : q < 8) :
    Calls Tryd.prog 24 #[.agg (kc 3 o c l r v), .int .i64 q] w fun e w' => e = .returned (.agg (kc 3 o c l ((r ||| (q % 2) : Nat) : Int) v)) ∧ Below w.heap.size w w' := by
  have hm : (q : Int) % 2 = ((q % 2 : Nat) : Int) := by omega
  have hq2 : q % 2 < 8 := by omega
  have HM := Lib.hid hm
  clear hm
  go_enter Tryd.func24, Tryd.ntmps24
  go_wp2_with (go_at_call 38; rw [HM.out]; refine (with_any r (q % 2) _ hr hq2).mono ?_; rintro e w' ⟨rfl, rfl⟩)
  refine bodyPost_ret (v := .agg (kc 3 o c l ((r ||| (q % 2) : Nat) : Int) v)) (by simp [results, Tryd.results24, go_sem]) rfl ⟨rfl, ?_⟩
  exact ((Below.refl _ _).alloc (Nat.le_refl _) _).alloc (by simp) _
set_option maxHeartbeats 1000000 in
theorem rls_o (k o c l r v q : Int) (w : World) (h : k ≠ 2 ∧ k ≠ 3) :
    Calls Tryd.prog 24 #[.agg (kc k o c l r v), .int .i64 q] w fun e w' => e = .returned (.agg (kc k o c l r v)) ∧ Below w.heap.size w w' := by
  obtain ⟨h2, h3⟩ := h
  have e2 : (k == 2) = false := by simpa using h2
  have e3 : (k == 3) = false := by simpa using h3
  clear h2 h3
  go_enter Tryd.func24, Tryd.ntmps24
  go_wp2_with (fail)
  refine bodyPost_ret (v := .agg (kc k o c l r v)) (by simp [results, Tryd.results24, go_sem]) rfl ⟨rfl, ?_⟩
  exact ((Below.refl _ _).alloc (Nat.le_refl _) _).alloc (by simp) _
end Go.Proofs.YtmpibbgciajnkaaDoor

/- the document's layer 13: Answer. -/
import Derived.Test.YtljfddeolapeaaaDoorJRh
import Derived.Test.YtljfddeolapeaaaDoorJRm
import Derived.Test.YtljfddeolapeaaaDoorJAn
namespace Go.Proofs.YtljfddeolapeaaaDoor
open Go.RowKit
attribute [local go_sem] Oper.semAt_some
section
variable {w : World} {A : Option Addr} {cap n : Nat} {l : List Oj}
set_option maxRecDepth 100000 in
set_option maxHeartbeats 2000000 in
theorem ran_m (h0 : 0 < n) (i : Int) (m : Mg) (hm : ¬ (m.d.length ≤ 32 ∧ mayS n m.k)) : Calls Tryd.prog 25 #[.slice A n cap, .int .i64 i, m.val] w fun e w' => e = .returned (.tuple #[.slice A n cap, .int .i64 2]) ∧ Below w.heap.size w w' := by
  have hml := m.len
  have dn : decide ((n : Int) = 0) = false := decide_eq_false (by omega)
  have dn' : ((n : Int) == 0) = false := by simp; omega
  have HB0 := Lib.hid ((Below.refl w.heap.size w).alloc (Nat.le_refl _) (.cells m.cells.toArray 38))
  have HM0 := Lib.hid (Blk.new w 38 m.cells.toArray)
  have HMY := Lib.hid hm
  clear hm h0
  go_enter Tryd.func25, Tryd.ntmps25
  go_wp2_with (first
    | ((with_reducible show wpList _ _ _ (Oper.mk (some 13) (.load _ _) _ _ _ _ :: _) _ _); refine wpList_yields (S := fun w' => MgAt w' w.heap.size 0 m) (y_mg (by rfl) (.tmp 5) (by rfl) w.heap.size 0 (by rfl) m (fun _ h => h)) HM0.out.mg ?_)
    | (go_at_call 56; refine (rmayM_n A cap n m HMY.out).mono ?_; rintro e w1 ⟨rfl, b_⟩; have HB1 := Lib.hid (HB0.out.trans (b_.mono HB0.out.size)); have HM1 := Lib.hid (HM0.out.keep b_); clear b_))
  go_ret2
  exact ⟨rfl, HB1.out⟩
set_option maxRecDepth 100000 in
set_option maxHeartbeats 2000000 in
theorem ran_s (hr : RdO w A l) (hn : l.length = n) (h0 : 0 < n) (i : Int) (m : Mg) (hm : m.d.length ≤ 32 ∧ mayS n m.k) (v : Int) (hv : (stA l i).getD (-1) = v) (hv1 : v ≠ 1) : Calls Tryd.prog 25 #[.slice A n cap, .int .i64 i, m.val] w fun e w' => e = .returned (.tuple #[.slice A n cap, .int .i64 230]) ∧ Below w.heap.size w w' := by
  have hml := m.len
  have dn : decide ((n : Int) = 0) = false := decide_eq_false (by omega)
  have dn' : ((n : Int) == 0) = false := by simp; omega
  have HB0 := Lib.hid ((Below.refl w.heap.size w).alloc (Nat.le_refl _) (.cells m.cells.toArray 38))
  have HM0 := Lib.hid (Blk.new w 38 m.cells.toArray)
  have HMY := Lib.hid hm
  have HV := Lib.hid hv
  have HR := Lib.hid hr
  have HNN := Lib.hid hn
  have dv : (v != 1) = true := by simpa using hv1
  clear hm h0 hv hr hv1
  go_enter Tryd.func25, Tryd.ntmps25
  go_wp2_with (first
    | ((with_reducible show wpList _ _ _ (Oper.mk (some 13) (.load _ _) _ _ _ _ :: _) _ _); refine wpList_yields (S := fun w' => MgAt w' w.heap.size 0 m) (y_mg (by rfl) (.tmp 5) (by rfl) w.heap.size 0 (by rfl) m (fun _ h => h)) HM0.out.mg ?_)
    | (go_at_call 56; refine (rmayM_y A cap n m HMY.out).mono ?_; rintro e w1 ⟨rfl, b_⟩; have HB1 := Lib.hid (HB0.out.trans (b_.mono HB0.out.size)); have HM1 := Lib.hid (HM0.out.keep b_); clear b_)
    | (go_at_call 29; refine (rst_any (HR.out.below HB1.out) HNN.out i (v := v) HV.out).mono ?_; rintro e w2 ⟨rfl, b_⟩; have HB2 := Lib.hid (HB1.out.trans (b_.mono HB1.out.size)); have HM2 := Lib.hid (HM1.out.keep b_); clear b_))
  go_ret2
  exact ⟨rfl, HB2.out⟩
set_option maxRecDepth 100000 in
set_option maxHeartbeats 2000000 in
theorem ran_y (hr : RdO w A l) (hn : l.length = n) (hl : n ≤ 1000) (h0 : 0 < n) (j : Nat) (hj : j < n) (u : Oj) (hu : l[j]? = some u) (i : Int) (hij : i = (j : Int)) (m : Mg) (hm : m.d.length ≤ 32 ∧ mayS n m.k) (v : Int) (hv : (stA l i).getD (-1) = v) (hv1 : v = 1) : Calls Tryd.prog 25 #[.slice A n cap, .int .i64 i, m.val] w fun e w' => ∃ g c, e = .returned (.tuple #[.slice (some ⟨g, 0, none⟩) n c, .int .i64 0]) ∧ w.heap.size ≤ g ∧ RdO w' (some ⟨g, 0, none⟩) (l.set j (handO u (cntM l m) zk)) ∧ Below w.heap.size w w' := by
  have hml := m.len
  have dn : decide ((n : Int) = 0) = false := decide_eq_false (by omega)
  have dn' : ((n : Int) == 0) = false := by simp; omega
  have HB0 := Lib.hid ((Below.refl w.heap.size w).alloc (Nat.le_refl _) (.cells m.cells.toArray 38))
  have HM0 := Lib.hid (Blk.new w 38 m.cells.toArray)
  subst hij
  have HMY := Lib.hid hm
  have HV := Lib.hid hv
  have HR := Lib.hid hr
  have HNN := Lib.hid hn
  have HLL := Lib.hid hl
  have H0 := Lib.hid h0
  have HJ := Lib.hid hj
  have HU := Lib.hid hu
  have HCD := Lib.hid (show (cntM l m).d.length ≤ 32 from hm.1)
  have dv : (v != 1) = false := by simpa using hv1
  clear hm h0 hv hr hv1
  go_enter Tryd.func25, Tryd.ntmps25
  go_wp2_with (first
    | ((with_reducible show wpList _ _ _ (Oper.mk (some 13) (.load _ _) _ _ _ _ :: _) _ _); refine wpList_yields (S := fun w' => MgAt w' w.heap.size 0 m) (y_mg (by rfl) (.tmp 5) (by rfl) w.heap.size 0 (by rfl) m (fun _ h => h)) HM0.out.mg ?_)
    | (go_at_call 56; refine (rmayM_y A cap n m HMY.out).mono ?_; rintro e w1 ⟨rfl, b_⟩; have HB1 := Lib.hid (HB0.out.trans (b_.mono HB0.out.size)); have HM1 := Lib.hid (HM0.out.keep b_); clear b_)
    | (go_at_call 29; refine (rst_any (HR.out.below HB1.out) HNN.out (j : Int) (v := v) HV.out).mono ?_; rintro e w2 ⟨rfl, b_⟩; have HB2 := Lib.hid (HB1.out.trans (b_.mono HB1.out.size)); have HM2 := Lib.hid (HM1.out.keep b_); clear b_)
    | ((with_reducible show wpList _ _ _ (Oper.mk (some 25) (.load _ _) _ _ _ _ :: _) _ _); refine wpList_yields (S := fun w' => MgAt w' w.heap.size 0 m) (y_mg (by rfl) (.tmp 5) (by rfl) w.heap.size 0 (by rfl) m (fun _ h => h)) HM2.out.mg ?_)
    | (go_at_call 57; refine (rcntd (HR.out.below HB2.out) HNN.out HLL.out H0.out m).mono ?_; rintro e w3 ⟨rfl, b_⟩; have HB3 := Lib.hid (HB2.out.trans (b_.mono HB2.out.size)); clear b_)
    | ((with_reducible show wpList _ _ _ (Oper.mk (some 27) (.build _ _) _ _ _ _ :: _) _ _); refine wpList_yields (S := fun _ => True) (y_build (by rfl) (by rfl) built30) trivial ?_)
    | (go_at_call 60; refine (rhand (HR.out.below HB3.out) HNN.out HLL.out j HJ.out u HU.out (cntM l m) HCD.out zk).mono ?_; rintro e w4 ⟨g, c, rfl, hg, hr4, b4⟩; have HF := Lib.hid (And.intro (Nat.le_trans HB3.out.size hg) (And.intro hr4 (HB3.out.trans (b4.mono HB3.out.size)))); clear hg hr4 b4))
  go_ret2
  exact ⟨g, c, rfl, HF.out.1, HF.out.2.1, HF.out.2.2⟩
set_option maxRecDepth 8000 in
theorem ran_no (hr : RdO w A l) (hn : l.length = n) (h0 : 0 < n) (i : Int) (m : Mg) {v : Int} (hv : (ansA l i m).2 = v) (hne : v ≠ 0) : Calls Tryd.prog 25 #[.slice A n cap, .int .i64 i, m.val] w fun e w' => e = .returned (.tuple #[.slice A n cap, .int .i64 v]) ∧ Below w.heap.size w w' := by
  subst hv hn
  by_cases hm : mayM l m
  · by_cases hs : stA l i = some 1
    · exact absurd (show (ansA l i m).2 = 0 by unfold ansA; rw [if_neg (not_not_intro hm), if_neg (not_not_intro hs)]) hne
    · rw [show (ansA l i m).2 = 230 by unfold ansA; rw [if_neg (not_not_intro hm), if_pos hs]]
      refine ran_s hr rfl h0 i m hm _ rfl fun e => hs ?_
      cases h : stA l i with
      | none => rw [h] at e; exact absurd e (by decide)
      | some z => rw [h] at e; simp at e; rw [e]
  · rw [show (ansA l i m).2 = 2 by unfold ansA; rw [if_pos hm]]
    exact ran_m h0 i m hm
set_option maxRecDepth 8000 in
theorem ran_yes (hr : RdO w A l) (hn : l.length = n) (hl : n ≤ 1000) (h0 : 0 < n) (i : Int) (m : Mg) (hv : (ansA l i m).2 = 0) : Calls Tryd.prog 25 #[.slice A n cap, .int .i64 i, m.val] w fun e w' => ∃ g c, e = .returned (.tuple #[.slice (some ⟨g, 0, none⟩) n c, .int .i64 0]) ∧ w.heap.size ≤ g ∧ RdO w' (some ⟨g, 0, none⟩) (ansA l i m).1 ∧ Below w.heap.size w w' := by
  subst hn
  by_cases hm : mayM l m
  · by_cases hs : stA l i = some 1
    · obtain ⟨j, rfl, hj⟩ := stA_in (os := l) (i := i) (by rw [hs]; simp)
      rw [show (ansA l (j : Int) m).1 = l.set j (handO l[j] (cntM l m) zk) by unfold ansA; rw [if_neg (not_not_intro hm), if_neg (not_not_intro hs), objA_in l j hj, Int.toNat_natCast]]
      exact ran_y hr rfl hl h0 j hj _ (List.getElem?_eq_getElem hj) _ rfl m hm _ rfl (by rw [hs]; rfl)
    · exact absurd hv (by unfold ansA; rw [if_neg (not_not_intro hm), if_pos hs]; simp)
  · exact absurd hv (by unfold ansA; rw [if_pos hm]; simp)
end
end Go.Proofs.YtljfddeolapeaaaDoor

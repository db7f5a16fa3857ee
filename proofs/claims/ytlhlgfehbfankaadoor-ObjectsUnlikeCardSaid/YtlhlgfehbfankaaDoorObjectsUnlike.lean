/- The law ObjectsUnlike returns true for every input: where two stores are not the same is told, and copies go on apart. No condition but that the listed variables read as the program's own text lays them; the card ties them to it. -/
import Derived.Test.YtlhlgfehbfankaaDoorOKn
import Derived.Test.YtlhlgfehbfankaaDoorOFr
import Derived.Test.YtlhlgfehbfankaaDoorRegIn
import Derived.Test.YtlhlgfehbfankaaDoorOUns
import Derived.Test.YtlhlgfehbfankaaDoorOCopy
import Derived.Test.YtlhlgfehbfankaaDoorOSame
import Derived.Test.YtlhlgfehbfankaaDoorOStp
import Derived.Test.YtlhlgfehbfankaaDoorORight
namespace Go.Proofs.YtlhlgfehbfankaaDoor.objectsUnlike
open Go.ChangeShapes Go.WideShapes Go.ChangeAt Go.RowKit
attribute [local go_sem] Oper.semAt_some
section
variable {w : World} {A A2 : Option Addr} {l l2 : List Oj} {n m cap cap2 : Nat}
theorem right_y (hr : RdO w A l) (h : rightP l) (e : l.length = n) (cap : Nat) : Calls Tryd.prog 15 #[.slice A n cap] w fun e w' => e = .returned (.bool true) ∧ Below w.heap.size w w' := by
  subst e
  exact right_yes hr h
theorem right_n (hr : RdO w A l) (h : ¬ rightP l) (e : l.length = n) (cap : Nat) : Calls Tryd.prog 15 #[.slice A n cap] w fun e w' => e = .returned (.bool false) ∧ Below w.heap.size w w' := by
  subst e
  exact right_no hr h
theorem of_y (hT : Tab w) (hr : RdO w A l) (h : rightP l) (e : l.length = n) (cap : Nat) : Calls Tryd.prog 14 #[.slice A n cap] w fun e w' => e = .returned (.tuple #[pv w.heap.size, .int .i64 0]) ∧ (∃ A' cap' ps, StAt w' w.heap.size w.heap.size A' cap' ps l) ∧ Below w.heap.size w w' := by
  subst e
  exact of_yes hT hr h
theorem rsame_y (hr : RdO w A l) (hr2 : RdO w A2 l2) (e : l.length = n) (e2 : l2.length = m) (hN : n ≤ 1000) (cap cap2 : Nat) {q : Bool} (hq : decide (l = l2) = q) : Calls Tryd.prog 27 #[.slice A n cap, .slice A2 m cap2] w fun e w' => e = .returned (.bool q) ∧ Below w.heap.size w w' := by
  subst e e2 hq
  exact rsame_any hr hr2 hN
theorem lsame_y {base p : Nat} {As : Option Addr} {cs : Nat} {ps : List Nat} (h : StAt w base p As cs ps l) (hr : RdO w A l) (e : l.length = n) (h0 : 0 < n) (hN : n ≤ 1000) (cap : Nat) : Calls Tryd.prog 16 #[pv p, .slice A n cap] w fun e w' => e = .returned (.bool true) ∧ Below w.heap.size w w' := by
  subst e
  exact same_at h h0 hN A cap hr
variable {base p : Nat} {As : Option Addr} {cs : Nat} {ps : List Nat} {base2 p2 : Nat} {As2 : Option Addr} {cs2 : Nat} {ps2 : List Nat}
theorem unlike_y (h : StAt w base p As cs ps l) (h2 : StAt w base2 p2 As2 cs2 ps2 l2) (e : l.length = n) (e2 : l2.length = m) (h0 : 0 < n) (h02 : 0 < m) (hN : n ≤ 1000) {D : List Nat} (hD : unl l l2 = D) : UnlIs w (pv p) (pv p2) D := by
  subst e e2 hD
  exact unlike_st h h2 h0 h02 hN
theorem same_y (h : StAt w base p As cs ps l) (h2 : StAt w base2 p2 As2 cs2 ps2 l2) (e : l.length = n) (e2 : l2.length = m) (h0 : 0 < n) (h02 : 0 < m) (hN : n ≤ 1000) {q : Bool} (hq : decide (l = l2) = q) : Calls Tryd.prog 26 #[pv p, pv p2] w fun e w' => e = .returned (.bool q) ∧ Below w.heap.size w w' := by
  subst e e2 hq
  exact same_st h h2 h0 h02 hN
theorem copy_y (h : StAt w base p As cs ps l) (e : l.length = n) (h0 : 0 < n) (hN : n ≤ 1000) : Calls Tryd.prog 28 #[pv p] w fun e w' => e = .returned (pv w.heap.size) ∧ (∃ A' cap' ps', StAt w' w.heap.size w.heap.size A' cap' ps' l) ∧ Below w.heap.size w w' := by
  subst e
  exact copy_at h h0 hN
theorem put_y (h : StAt w base p As cs ps l) (hT : Tab w) (hB : base ≤ w.heap.size) (h0 : 0 < l.length) (i : Int) (u : Oj) : Calls Tryd.prog 18 #[pv p, .int .i64 i, u.val] w fun e w' => (∃ r : Int, e = .returned (.int .i64 r)) ∧ Below base w w' := by
  by_cases hlo : i < 0
  · refine (put_out h h0 i (.inl hlo) u).mono ?_
    rintro e w' ⟨rfl, b⟩
    exact ⟨⟨_, rfl⟩, b.mono hB⟩
  · by_cases hhi : (l.length : Int) ≤ i
    · refine (put_out h h0 i (.inr hhi) u).mono ?_
      rintro e w' ⟨rfl, b⟩
      exact ⟨⟨_, rfl⟩, b.mono hB⟩
    · obtain ⟨j, rfl⟩ := Int.eq_ofNat_of_zero_le (show 0 ≤ i by omega)
      have hj : j < l.length := by omega
      by_cases hok : u.ok l.length
      · refine (put_ok h hT j hj u hok).mono ?_
        rintro e w' ⟨rfl, _, hf⟩
        exact ⟨⟨_, rfl⟩, hf.to_below (fun k hk => (h.pps k hk).1) hB⟩
      · refine (put_bad h hT j hj u hok).mono ?_
        rintro e w' ⟨rfl, b⟩
        exact ⟨⟨_, rfl⟩, b.mono hB⟩
theorem own_num {base n c k z : Nat} {Av : Option Addr} {D : List Nat} (h : w.ownsRow base 3 1 (.slice Av n c) n (dv D)) (hk : k < n) (hz : D[k]? = some z) : ∃ g, Av = some ⟨g, 0, none⟩ ∧ w.cell? ⟨g, k, none⟩ = some (.int .i64 (z : Int)) := by
  obtain ⟨g, c', e, _, _⟩ := h.form (by omega)
  injection e with e
  subst e
  refine ⟨g, rfl, ?_⟩
  have := h.cellAt k (by omega)
  rw [this, dv, List.getElem?_map, hz]
  rfl
end
set_option maxRecDepth 100000 in
set_option maxHeartbeats 1000000 in
theorem walk_k1 (w : World) (hT : Tab w) (A1 : Option Addr) (l1 : List Oj) (c1 : Nat) (A2 : Option Addr) (l2 : List Oj) (c2 : Nat) (x : Stp) (n m : Nat) (e1 : l1.length = n) (e2 : l2.length = m) (hr1 : RdO w A1 l1) (hr2 : RdO w A2 l2) (h1 : 20 < n) : Calls Tryd.prog 7 #[.slice A1 n c1, .slice A2 m c2, x.val] w fun e w' => e = .returned (.bool true) ∧ Below w.heap.size w w' := by
  have HT := Lib.hid hT
  have HB0 := Lib.hid ((Below.refl w.heap.size w).alloc (Nat.le_refl _) (.cells x.cells.toArray 45))
  have HP0 := Lib.hid (hr1.below ((Below.refl _ _).alloc (Nat.le_refl _) (.cells x.cells.toArray 45)))
  have HQ0 := Lib.hid (hr2.below ((Below.refl _ _).alloc (Nat.le_refl _) (.cells x.cells.toArray 45)))
  have E1 := Lib.hid e1
  have E2 := Lib.hid e2
  have d0 : decide ((20 : Int) < (n : Int)) = true := decide_eq_true (by omega)
  clear hT hr1 hr2 e1 e2 h1
  go_enter Tryd.func7, Tryd.ntmps7
  go_wp2_with (first
    | (go_at_call 11; refine (known_any _ (HT.out.below HB0.out)).mono ?_; rintro e v9 ⟨rfl, b_⟩; have B9 := Lib.hid (HB0.out.trans (b_.mono HB0.out.size)); clear b_))
  go_ret
  exact ⟨rfl, B9.out⟩
set_option maxRecDepth 100000 in
set_option maxHeartbeats 1000000 in
theorem walk_k2 (w : World) (hT : Tab w) (A1 : Option Addr) (l1 : List Oj) (c1 : Nat) (A2 : Option Addr) (l2 : List Oj) (c2 : Nat) (x : Stp) (n m : Nat) (e1 : l1.length = n) (e2 : l2.length = m) (hr1 : RdO w A1 l1) (hr2 : RdO w A2 l2) (h1 : n ≤ 20) (h2 : 20 < m) : Calls Tryd.prog 7 #[.slice A1 n c1, .slice A2 m c2, x.val] w fun e w' => e = .returned (.bool true) ∧ Below w.heap.size w w' := by
  have HT := Lib.hid hT
  have HB0 := Lib.hid ((Below.refl w.heap.size w).alloc (Nat.le_refl _) (.cells x.cells.toArray 45))
  have HP0 := Lib.hid (hr1.below ((Below.refl _ _).alloc (Nat.le_refl _) (.cells x.cells.toArray 45)))
  have HQ0 := Lib.hid (hr2.below ((Below.refl _ _).alloc (Nat.le_refl _) (.cells x.cells.toArray 45)))
  have E1 := Lib.hid e1
  have E2 := Lib.hid e2
  have d0 : decide ((20 : Int) < (n : Int)) = false := decide_eq_false (by omega)
  have d1 : decide ((20 : Int) < (m : Int)) = true := decide_eq_true (by omega)
  clear hT hr1 hr2 e1 e2 h1 h2
  go_enter Tryd.func7, Tryd.ntmps7
  go_wp2_with (first
    | (go_at_call 11; refine (known_any _ (HT.out.below HB0.out)).mono ?_; rintro e v9 ⟨rfl, b_⟩; have B9 := Lib.hid (HB0.out.trans (b_.mono HB0.out.size)); clear b_))
  go_ret
  exact ⟨rfl, B9.out⟩
set_option maxRecDepth 100000 in
set_option maxHeartbeats 1000000 in
theorem walk_k3 (w : World) (hT : Tab w) (A1 : Option Addr) (l1 : List Oj) (c1 : Nat) (A2 : Option Addr) (l2 : List Oj) (c2 : Nat) (x : Stp) (n m : Nat) (e1 : l1.length = n) (e2 : l2.length = m) (hr1 : RdO w A1 l1) (hr2 : RdO w A2 l2) (h1 : n ≤ 20) (h2 : m ≤ 20) (r1 : ¬ rightP l1) : Calls Tryd.prog 7 #[.slice A1 n c1, .slice A2 m c2, x.val] w fun e w' => e = .returned (.bool true) ∧ Below w.heap.size w w' := by
  have HT := Lib.hid hT
  have HB0 := Lib.hid ((Below.refl w.heap.size w).alloc (Nat.le_refl _) (.cells x.cells.toArray 45))
  have HP0 := Lib.hid (hr1.below ((Below.refl _ _).alloc (Nat.le_refl _) (.cells x.cells.toArray 45)))
  have HQ0 := Lib.hid (hr2.below ((Below.refl _ _).alloc (Nat.le_refl _) (.cells x.cells.toArray 45)))
  have E1 := Lib.hid e1
  have E2 := Lib.hid e2
  have d0 : decide ((20 : Int) < (n : Int)) = false := decide_eq_false (by omega)
  have d1 : decide ((20 : Int) < (m : Int)) = false := decide_eq_false (by omega)
  have R1 := Lib.hid r1
  clear hT hr1 hr2 e1 e2 h1 h2 r1
  go_enter Tryd.func7, Tryd.ntmps7
  go_wp2_with (first
    | (go_at_call 15; refine (right_n HP0.out R1.out E1.out c1).mono ?_; rintro e w1 ⟨rfl, b_⟩; have HB1 := Lib.hid (HB0.out.trans (b_.mono HB0.out.size)); have HQ1 := Lib.hid (HQ0.out.below b_); clear b_ HB0 HQ0 HP0)
    | (go_at_call 11; refine (known_any _ (HT.out.below HB1.out)).mono ?_; rintro e v9 ⟨rfl, b_⟩; have B9 := Lib.hid (HB1.out.trans (b_.mono HB1.out.size)); clear b_))
  go_ret
  exact ⟨rfl, B9.out⟩
set_option maxRecDepth 100000 in
set_option maxHeartbeats 1000000 in
theorem walk_k4 (w : World) (hT : Tab w) (A1 : Option Addr) (l1 : List Oj) (c1 : Nat) (A2 : Option Addr) (l2 : List Oj) (c2 : Nat) (x : Stp) (n m : Nat) (e1 : l1.length = n) (e2 : l2.length = m) (hr1 : RdO w A1 l1) (hr2 : RdO w A2 l2) (h1 : n ≤ 20) (h2 : m ≤ 20) (r1 : rightP l1) (r2 : ¬ rightP l2) : Calls Tryd.prog 7 #[.slice A1 n c1, .slice A2 m c2, x.val] w fun e w' => e = .returned (.bool true) ∧ Below w.heap.size w w' := by
  have HT := Lib.hid hT
  have HB0 := Lib.hid ((Below.refl w.heap.size w).alloc (Nat.le_refl _) (.cells x.cells.toArray 45))
  have HP0 := Lib.hid (hr1.below ((Below.refl _ _).alloc (Nat.le_refl _) (.cells x.cells.toArray 45)))
  have HQ0 := Lib.hid (hr2.below ((Below.refl _ _).alloc (Nat.le_refl _) (.cells x.cells.toArray 45)))
  have E1 := Lib.hid e1
  have E2 := Lib.hid e2
  have d0 : decide ((20 : Int) < (n : Int)) = false := decide_eq_false (by omega)
  have d1 : decide ((20 : Int) < (m : Int)) = false := decide_eq_false (by omega)
  have R1 := Lib.hid r1
  have R2 := Lib.hid r2
  clear hT hr1 hr2 e1 e2 h1 h2 r1 r2
  go_enter Tryd.func7, Tryd.ntmps7
  go_wp2_with (first
    | (go_at_call 15; refine (right_y HP0.out R1.out E1.out c1).mono ?_; rintro e w1 ⟨rfl, b_⟩; have HB1 := Lib.hid (HB0.out.trans (b_.mono HB0.out.size)); have HQ1 := Lib.hid (HQ0.out.below b_); clear b_ HB0 HQ0 HP0)
    | (go_at_call 15; refine (right_n HQ1.out R2.out E2.out c2).mono ?_; rintro e w2 ⟨rfl, b_⟩; have HB2 := Lib.hid (HB1.out.trans (b_.mono HB1.out.size)); clear b_ HB1 HQ1)
    | (go_at_call 11; refine (known_any _ (HT.out.below HB2.out)).mono ?_; rintro e v9 ⟨rfl, b_⟩; have B9 := Lib.hid (HB2.out.trans (b_.mono HB2.out.size)); clear b_))
  go_ret
  exact ⟨rfl, B9.out⟩
theorem HP12_of {w0 w w' : World} {A : Option Addr} {l : List Oj} (h0 : RdO w0 A l) (h : RdO w A l) (hb : Below w0.heap.size w w') : RdO w' A l := fun i hi => by
  obtain ⟨b, off, e, ho⟩ := h i hi
  obtain ⟨b', off', e', ho'⟩ := h0 i hi
  rw [e] at e'
  injection e' with e'
  injection e' with e1 e2
  subst e1 e2
  refine ⟨b, off, e, fun j v hv => (World.cell?_of_block (a := ⟨b, off + i * 163 + j, none⟩) (hb.block b ?_)).trans (ho j v hv)⟩
  exact cell_lt (ho' 0 _ rfl)
set_option maxRecDepth 100000 in
set_option maxHeartbeats 8000000 in
theorem walk_eq (w : World) (hT : Tab w) (A1 : Option Addr) (l1 : List Oj) (c1 : Nat) (A2 : Option Addr) (l2 : List Oj) (c2 : Nat) (x : Stp) (n : Nat) (e1 : l1.length = n) (e2 : l2.length = n) (hr1 : RdO w A1 l1) (hr2 : RdO w A2 l2) (h1 : n ≤ 20) (r1 : rightP l1) (r2 : rightP l2) : Calls Tryd.prog 7 #[.slice A1 n c1, .slice A2 n c2, x.val] w fun e w' => e = .returned (.bool true) ∧ Below w.heap.size w w' := by
  have HT := Lib.hid hT
  have HB0 := Lib.hid ((Below.refl w.heap.size w).alloc (Nat.le_refl _) (.cells x.cells.toArray 45))
  have HP0 := Lib.hid (hr1.below ((Below.refl _ _).alloc (Nat.le_refl _) (.cells x.cells.toArray 45)))
  have HQ0 := Lib.hid (hr2.below ((Below.refl _ _).alloc (Nat.le_refl _) (.cells x.cells.toArray 45)))
  have HX0 := Lib.hid (Blk.new w 45 x.cells.toArray).stp
  have E1 := Lib.hid e1
  have E2 := Lib.hid e2
  have R1 := Lib.hid r1
  have R2 := Lib.hid r2
  have d0 : decide ((20 : Int) < (n : Int)) = false := decide_eq_false (by omega)
  have N0 := Lib.hid (show 0 < n by have := r1.1; omega)
  have M0 := Lib.hid (show 0 < n by have := r2.1; omega)
  have N1 := Lib.hid (show n ≤ 1000 by omega)
  have HDL := Lib.hid (show (unl l1 l2).length ≤ 1000 from Nat.le_trans (unl_le _ _) (by omega))
  have HU0 := Lib.hid (show unl l1 l2 = diffs l1 l2 n by unfold unl; rw [if_pos (by omega), e1])
  clear hT hr1 hr2 e1 e2 r1 r2
  go_enter Tryd.func7, Tryd.ntmps7
  go_wp2_with (first
    | (go_at_call 15; refine (right_y HP0.out R1.out E1.out c1).mono ?_; rintro e w1 ⟨rfl, b_⟩; have HB1 := Lib.hid (HB0.out.trans (b_.mono HB0.out.size)); have HP1 := Lib.hid (HP0.out.below b_); have HQ1 := Lib.hid (HQ0.out.below b_); have HX1 := Lib.hid (HX0.out.below b_); clear b_ HB0 HP0 HQ0 HX0)
    | (go_at_call 15; refine (right_y HQ1.out R2.out E2.out c2).mono ?_; rintro e w2 ⟨rfl, b_⟩; have HB2 := Lib.hid (HB1.out.trans (b_.mono HB1.out.size)); have HP2 := Lib.hid (HP1.out.below b_); have HQ2 := Lib.hid (HQ1.out.below b_); have HX2 := Lib.hid (HX1.out.below b_); clear b_ HB1 HP1 HQ1 HX1)
    | (go_at_call 14; refine (of_y (HT.out.below HB2.out) HP2.out R1.out E1.out c1).mono ?_; rintro e w3 ⟨rfl, ⟨As, cs, ps, hs⟩, b_⟩; have HB3 := Lib.hid (HB2.out.trans (b_.mono HB2.out.size)); have HP3 := Lib.hid (HP2.out.below b_); have HQ3 := Lib.hid (HQ2.out.below b_); have HX3 := Lib.hid (HX2.out.below b_); have HS3 := Lib.hid hs; have LS3 := Lib.hid HB2.out.size; clear hs; clear b_ HB2 HP2 HQ2 HX2)
    | (go_at_call 14; refine (of_y (HT.out.below HB3.out) HQ3.out R2.out E2.out c2).mono ?_; rintro e w4 ⟨rfl, ⟨At, ct, pt, hs⟩, b_⟩; have HB4 := Lib.hid (HB3.out.trans (b_.mono HB3.out.size)); have HP4 := Lib.hid (HP3.out.below b_); have HQ4 := Lib.hid (HQ3.out.below b_); have HX4 := Lib.hid (HX3.out.below b_); have HS4 := Lib.hid (HS3.out.below b_); have HU4 := Lib.hid hs; clear hs; clear b_ HB3 HP3 HQ3 HX3 HS3))
  go_loopw [11, 12] (fun v i wr => ∃ k : Nat, k ≤ n ∧ i = .int .i64 k ∧ Below w4.heap.size w4 wr ∧ wr.ownsRow w4.heap.size 3 1 v (diffs l1 l2 k).length (dv (diffs l1 l2 k))) (fun _ i _ => n + 1 - (intOf i).toNat)
  case atStart => exact ⟨0, by omega, rfl, Below.refl _ _, ⟨rfl, .inl ⟨rfl, rfl⟩⟩⟩
  case round =>
    obtain ⟨k, hk, rfl, hb, hown⟩ := hrel
    by_cases hlt : k < n
    · obtain ⟨b, off, rfl, hob⟩ := HP4.out k (by rw [E1.out]; exact hlt)
      obtain ⟨b2, off2, rfl, hob2⟩ := HQ4.out k (by rw [E2.out]; exact hlt)
      obtain ⟨y, hy⟩ : ∃ y, l1[k]'(by rw [E1.out]; exact hlt) = y := ⟨_, rfl⟩
      obtain ⟨z, hz⟩ : ∃ z, l2[k]'(by rw [E2.out]; exact hlt) = z := ⟨_, rfl⟩
      rw [hy] at hob
      rw [hz] at hob2
      have HO := Lib.hid (hob.below hb)
      have HO2 := Lib.hid (hob2.below hb)
      have HB := Lib.hid hb
      have HOW := Lib.hid hown
      have e1 : l1[k]? = some y := by rw [List.getElem?_eq_getElem (by rw [E1.out]; exact hlt), hy]
      have e2 : l2[k]? = some z := by rw [List.getElem?_eq_getElem (by rw [E2.out]; exact hlt), hz]
      have HE := Lib.hid (show _ ∧ _ from ⟨e1, e2⟩)
      have HD := Lib.hid (show (diffs l1 l2 k).length ≤ 1000 from Nat.le_trans (diffs_le _ _ _) (by have := N1.out; omega))
      have hil : (k : Int) < (n : Int) := by omega
      clear hob hob2 hb hown hy hz e1 e2
      by_cases hyz : y = z
      · have HXY := Lib.hid (show (!decide (y = z)) = false by simpa using hyz)
        have HQ := Lib.hid hyz
        clear hyz
        go_wp2_with fail
        refine wp_region_only (S := fun w' => ObAt w' b (off + k * 163) y ∧ ObAt w' b2 (off2 + k * 163) z) (by kernel_rfl) ⟨HO.out.drew, HO2.out.drew⟩ (fun hHeld => ?_)
        refine wpAnyH_take (i := 0) (v := ?v1) rfl (by kernel_rfl) (by kernel_rfl) (by kernel_rfl) (fun _ _ _ h => h) (Or.inl ⟨by rfl, ?hy1⟩) hHeld ?rest1
        case hy1 =>
          intro w' hSw
          try dsimp only at hSw
          go_simp
          first | done | with_reducible rfl
        try simp only [Act.put, List.getElem_toArray, List.getElem_cons_zero, List.setIfInBounds_toArray, List.set_cons_zero, List.set_cons_succ]
        refine wpAnyH_take (i := 1) (v := ?v2) rfl (by kernel_rfl) (by kernel_rfl) (by kernel_rfl) (fun _ _ _ h => h) (Or.inl ⟨by rfl, ?hy2⟩) hHeld ?rest2
        case hy2 =>
          intro w' hSw
          try dsimp only at hSw
          go_simp
          first | done | with_reducible rfl
        try simp only [Act.put, List.getElem_toArray, List.getElem_cons_succ, List.getElem_cons_zero, List.setIfInBounds_toArray, List.set_cons_zero, List.set_cons_succ]
        refine wpAnyH_take (i := 2) (v := ?v3) rfl (by kernel_rfl) (by kernel_rfl) (by kernel_rfl) (fun _ _ _ h => h) (Or.inl ⟨by rfl, ?hy3⟩) hHeld ?rest3
        case hy3 =>
          intro w' hSw
          try dsimp only at hSw
          go_simp
          first | done | with_reducible rfl
        try simp only [Act.put, List.getElem_toArray, List.getElem_cons_succ, List.getElem_cons_zero, List.setIfInBounds_toArray, List.set_cons_zero, List.set_cons_succ]
        refine wpAnyH_take (i := 3) rfl (by kernel_rfl) (by kernel_rfl) (by kernel_rfl) (fun _ _ _ h => h) (y_ob (by rfl) (.tmp 66) (by rfl) b (off + k * 163) (by rfl) y (fun _ h => h.1)) hHeld ?_
        try simp only [Act.put, List.getElem_toArray, List.getElem_cons_succ, List.getElem_cons_zero, List.setIfInBounds_toArray, List.set_cons_zero, List.set_cons_succ]
        refine wpAnyH_take (i := 4) (v := ?v4) rfl (by kernel_rfl) (by kernel_rfl) (by kernel_rfl) (fun _ _ _ h => h) (Or.inl ⟨by rfl, ?hy4⟩) hHeld ?rest4
        case hy4 =>
          intro w' hSw
          try dsimp only at hSw
          go_simp
          first | done | with_reducible rfl
        try simp only [Act.put, List.getElem_toArray, List.getElem_cons_succ, List.getElem_cons_zero, List.setIfInBounds_toArray, List.set_cons_zero, List.set_cons_succ]
        refine wpAnyH_take (i := 5) (v := ?v5) rfl (by kernel_rfl) (by kernel_rfl) (by kernel_rfl) (fun _ _ _ h => h) (Or.inl ⟨by rfl, ?hy5⟩) hHeld ?rest5
        case hy5 =>
          intro w' hSw
          try dsimp only at hSw
          go_simp
          first | done | with_reducible rfl
        try simp only [Act.put, List.getElem_toArray, List.getElem_cons_succ, List.getElem_cons_zero, List.setIfInBounds_toArray, List.set_cons_zero, List.set_cons_succ]
        refine wpAnyH_take (i := 6) (v := ?v6) rfl (by kernel_rfl) (by kernel_rfl) (by kernel_rfl) (fun _ _ _ h => h) (Or.inl ⟨by rfl, ?hy6⟩) hHeld ?rest6
        case hy6 =>
          intro w' hSw
          try dsimp only at hSw
          go_simp
          first | done | with_reducible rfl
        try simp only [Act.put, List.getElem_toArray, List.getElem_cons_succ, List.getElem_cons_zero, List.setIfInBounds_toArray, List.set_cons_zero, List.set_cons_succ]
        refine wpAnyH_take (i := 7) rfl (by kernel_rfl) (by kernel_rfl) (by kernel_rfl) (fun _ _ _ h => h) (y_ob (by rfl) (.tmp 70) (by rfl) b2 (off2 + k * 163) (by rfl) z (fun _ h => h.2)) hHeld ?_
        try simp only [Act.put, List.getElem_toArray, List.getElem_cons_succ, List.getElem_cons_zero, List.setIfInBounds_toArray, List.set_cons_zero, List.set_cons_succ]
        refine wpAnyH_take (i := 8) rfl (by kernel_rfl) (by kernel_rfl) (by kernel_rfl) (fun _ _ _ h => h) (y_obne_of (by rfl) (by rfl) y z false HXY.out (by rfl) (by rfl)) hHeld ?_
        try simp only [Act.put, List.getElem_toArray, List.getElem_cons_succ, List.getElem_cons_zero, List.setIfInBounds_toArray, List.set_cons_zero, List.set_cons_succ]
        refine wpAnyH_done (by kernel_rfl) ?_ _
        refine OnlyN.normal ?_
        clear hHeld
        go_wp2
        go_roundw
        case rel => exact ⟨k + 1, by omega, by go_num, below_drew HB.out, by rw [diffs_same (by rw [HE.out.1, HE.out.2, HQ.out])]; exact own_below HOW.out (below_drew (Below.refl _ _))⟩
        case measure => simp [intOf]; omega
      · have HXY := Lib.hid (show (!decide (y = z)) = true by simpa using hyz)
        have HQ := Lib.hid hyz
        clear hyz
        go_wp2_with fail
        refine wp_region_only (S := fun w' => ObAt w' b (off + k * 163) y ∧ ObAt w' b2 (off2 + k * 163) z) (by kernel_rfl) ⟨HO.out.drew, HO2.out.drew⟩ (fun hHeld => ?_)
        refine wpAnyH_take (i := 0) (v := ?v7) rfl (by kernel_rfl) (by kernel_rfl) (by kernel_rfl) (fun _ _ _ h => h) (Or.inl ⟨by rfl, ?hy7⟩) hHeld ?rest7
        case hy7 =>
          intro w' hSw
          try dsimp only at hSw
          go_simp
          first | done | with_reducible rfl
        try simp only [Act.put, List.getElem_toArray, List.getElem_cons_zero, List.setIfInBounds_toArray, List.set_cons_zero, List.set_cons_succ]
        refine wpAnyH_take (i := 1) (v := ?v8) rfl (by kernel_rfl) (by kernel_rfl) (by kernel_rfl) (fun _ _ _ h => h) (Or.inl ⟨by rfl, ?hy8⟩) hHeld ?rest8
        case hy8 =>
          intro w' hSw
          try dsimp only at hSw
          go_simp
          first | done | with_reducible rfl
        try simp only [Act.put, List.getElem_toArray, List.getElem_cons_succ, List.getElem_cons_zero, List.setIfInBounds_toArray, List.set_cons_zero, List.set_cons_succ]
        refine wpAnyH_take (i := 2) (v := ?v9) rfl (by kernel_rfl) (by kernel_rfl) (by kernel_rfl) (fun _ _ _ h => h) (Or.inl ⟨by rfl, ?hy9⟩) hHeld ?rest9
        case hy9 =>
          intro w' hSw
          try dsimp only at hSw
          go_simp
          first | done | with_reducible rfl
        try simp only [Act.put, List.getElem_toArray, List.getElem_cons_succ, List.getElem_cons_zero, List.setIfInBounds_toArray, List.set_cons_zero, List.set_cons_succ]
        refine wpAnyH_take (i := 3) rfl (by kernel_rfl) (by kernel_rfl) (by kernel_rfl) (fun _ _ _ h => h) (y_ob (by rfl) (.tmp 66) (by rfl) b (off + k * 163) (by rfl) y (fun _ h => h.1)) hHeld ?_
        try simp only [Act.put, List.getElem_toArray, List.getElem_cons_succ, List.getElem_cons_zero, List.setIfInBounds_toArray, List.set_cons_zero, List.set_cons_succ]
        refine wpAnyH_take (i := 4) (v := ?v10) rfl (by kernel_rfl) (by kernel_rfl) (by kernel_rfl) (fun _ _ _ h => h) (Or.inl ⟨by rfl, ?hy10⟩) hHeld ?rest10
        case hy10 =>
          intro w' hSw
          try dsimp only at hSw
          go_simp
          first | done | with_reducible rfl
        try simp only [Act.put, List.getElem_toArray, List.getElem_cons_succ, List.getElem_cons_zero, List.setIfInBounds_toArray, List.set_cons_zero, List.set_cons_succ]
        refine wpAnyH_take (i := 5) (v := ?v11) rfl (by kernel_rfl) (by kernel_rfl) (by kernel_rfl) (fun _ _ _ h => h) (Or.inl ⟨by rfl, ?hy11⟩) hHeld ?rest11
        case hy11 =>
          intro w' hSw
          try dsimp only at hSw
          go_simp
          first | done | with_reducible rfl
        try simp only [Act.put, List.getElem_toArray, List.getElem_cons_succ, List.getElem_cons_zero, List.setIfInBounds_toArray, List.set_cons_zero, List.set_cons_succ]
        refine wpAnyH_take (i := 6) (v := ?v12) rfl (by kernel_rfl) (by kernel_rfl) (by kernel_rfl) (fun _ _ _ h => h) (Or.inl ⟨by rfl, ?hy12⟩) hHeld ?rest12
        case hy12 =>
          intro w' hSw
          try dsimp only at hSw
          go_simp
          first | done | with_reducible rfl
        try simp only [Act.put, List.getElem_toArray, List.getElem_cons_succ, List.getElem_cons_zero, List.setIfInBounds_toArray, List.set_cons_zero, List.set_cons_succ]
        refine wpAnyH_take (i := 7) rfl (by kernel_rfl) (by kernel_rfl) (by kernel_rfl) (fun _ _ _ h => h) (y_ob (by rfl) (.tmp 70) (by rfl) b2 (off2 + k * 163) (by rfl) z (fun _ h => h.2)) hHeld ?_
        try simp only [Act.put, List.getElem_toArray, List.getElem_cons_succ, List.getElem_cons_zero, List.setIfInBounds_toArray, List.set_cons_zero, List.set_cons_succ]
        refine wpAnyH_take (i := 8) rfl (by kernel_rfl) (by kernel_rfl) (by kernel_rfl) (fun _ _ _ h => h) (y_obne_of (by rfl) (by rfl) y z true HXY.out (by rfl) (by rfl)) hHeld ?_
        try simp only [Act.put, List.getElem_toArray, List.getElem_cons_succ, List.getElem_cons_zero, List.setIfInBounds_toArray, List.set_cons_zero, List.set_cons_succ]
        refine wpAnyH_done (by kernel_rfl) ?_ _
        refine OnlyN.normal ?_
        clear hHeld
        have HOW2 := Lib.hid (own_below HOW.out (below_drew (Below.refl wr.heap.size wr)))
        have HBD := Lib.hid (below_drew HB.out)
        have HSZ := Lib.hid (show w4.heap.size ≤ wr.drew.heap.size from HB.out.size)
        clear HOW HB
        go_wp2_with (refine wpList_append_int rfl (.tmp 73) (.tmp 75) rfl (by rfl) HOW2.out (k : Int) (by first | rfl | simp) HD.out HSZ.out ?_; intro g' c' w' hw1 hw2)
        go_roundw
        case rel => exact ⟨k + 1, by omega, by go_num, HBD.out.trans hw2, by rw [diffs_other (by rw [HE.out.1, HE.out.2]; intro e; injection e with e; exact HQ.out e)]; simpa [dv] using hw1⟩
        case measure => simp [intOf]; omega
    · obtain rfl : k = n := by omega
      rw [← HU0.out] at hown
      obtain ⟨Aw, cw, rfl⟩ := own_shape hown
      obtain ⟨D, hD⟩ : ∃ D, unl l1 l2 = D := ⟨_, rfl⟩
      rw [hD] at hown ⊢
      have hDL : D.length ≤ 1000 := hD ▸ HDL.out
      obtain ⟨q, hq⟩ : ∃ q, decide (l1 = l2) = q := ⟨_, rfl⟩
      have qq : (q != q) = false := by simp
      have qq2 : (q == q) = true := by simp
      have HD := Lib.hid hD
      have HQQ := Lib.hid hq
      have HW5 := Lib.hid hown
      have HB5 := Lib.hid (HB4.out.trans (hb.mono HB4.out.size))
      have HP5 := Lib.hid (HP4.out.below hb)
      have HQ5 := Lib.hid (HQ4.out.below hb)
      have HX5 := Lib.hid (HX4.out.below hb)
      have HS5 := Lib.hid (HS4.out.below hb)
      have HU5 := Lib.hid (HU4.out.below hb)
      clear hb hown hD hq HB4 HP4 HQ4 HX4 HS4 HU4 HU0
      go_wp2_with (first
        | (go_at_call 25; refine (unlike_y HS5.out HU5.out E1.out E2.out N0.out M0.out N1.out HD.out).mono ?_; rintro e w6 ⟨v6, rfl, hv, b_⟩; have HB6 := Lib.hid (HB5.out.trans (b_.mono HB5.out.size)); have HP6 := Lib.hid (HP5.out.below b_); have HQ6 := Lib.hid (HQ5.out.below b_); have HX6 := Lib.hid (HX5.out.below b_); have HS6 := Lib.hid (HS5.out.below b_); have HU6 := Lib.hid (HU5.out.below b_); have HW6 := Lib.hid (own_below HW5.out b_); obtain ⟨Av, cv, rfl⟩ := own_shape hv; have HV6 := Lib.hid hv; clear hv; clear b_ HB5 HP5 HQ5 HX5 HS5 HU5 HW5)
        | (go_at_call 26; refine (same_y HS6.out HU6.out E1.out E2.out N0.out M0.out N1.out HQQ.out).mono ?_; rintro e w7 ⟨rfl, b_⟩; have HB7 := Lib.hid (HB6.out.trans (b_.mono HB6.out.size)); have HP7 := Lib.hid (HP6.out.below b_); have HQ7 := Lib.hid (HQ6.out.below b_); have HX7 := Lib.hid (HX6.out.below b_); have HS7 := Lib.hid (HS6.out.below b_); have HU7 := Lib.hid (HU6.out.below b_); have HW7 := Lib.hid (own_below HW6.out b_); have HV7 := Lib.hid (own_below HV6.out b_); clear b_ HB6 HP6 HQ6 HX6 HS6 HU6 HW6 HV6)
        | (go_at_call 27; refine (rsame_y HP7.out HQ7.out E1.out E2.out N1.out c1 c2 HQQ.out).mono ?_; rintro e w8 ⟨rfl, b_⟩; have HB8 := Lib.hid (HB7.out.trans (b_.mono HB7.out.size)); have HP8 := Lib.hid (HP7.out.below b_); have HX8 := Lib.hid (HX7.out.below b_); have HS8 := Lib.hid (HS7.out.below b_); have HW8 := Lib.hid (own_below HW7.out b_); have HV8 := Lib.hid (own_below HV7.out b_); clear b_ HB7 HP7 HX7 HS7 HW7 HV7 HQ7 HU7)
        | (go_at_call 26; refine (same_y HS8.out HS8.out E1.out E1.out N0.out N0.out N1.out (decide_eq_true rfl)).mono ?_; rintro e w9 ⟨rfl, b_⟩; have HB9 := Lib.hid (HB8.out.trans (b_.mono HB8.out.size)); have HP9 := Lib.hid (HP8.out.below b_); have HX9 := Lib.hid (HX8.out.below b_); have HS9 := Lib.hid (HS8.out.below b_); have HW9 := Lib.hid (own_below HW8.out b_); have HV9 := Lib.hid (own_below HV8.out b_); clear b_ HB8 HP8 HX8 HS8 HW8 HV8))
      go_loopw [14] (fun i ws => ∃ j : Nat, j ≤ D.length ∧ i = .int .i64 j ∧ Below w9.heap.size w9 ws) (fun i _ => D.length + 1 - (intOf i).toNat)
      case atStart => exact ⟨0, by omega, rfl, Below.refl _ _⟩
      case round =>
        obtain ⟨j, hj, rfl, hb⟩ := hrel
        by_cases hlt : j < D.length
        · obtain ⟨z, hz⟩ : ∃ z, D[j]? = some z := ⟨_, List.getElem?_eq_getElem hlt⟩
          obtain ⟨gv, rfl, hv⟩ := own_num (own_below HV9.out hb) hlt hz
          obtain ⟨gw, rfl, hw⟩ := own_num (own_below HW9.out hb) hlt hz
          have HCV := Lib.hid hv
          have HCW := Lib.hid hw
          have HB := Lib.hid hb
          have hil : (j : Int) < (D.length : Int) := by omega
          have zz : ((z : Int) != (z : Int)) = false := by simp
          clear hv hw hb hz
          go_wp2_with fail
          refine wp_region_only (S := fun w' => w'.cell? ⟨gv, j, none⟩ = some (.int .i64 (z : Int)) ∧ w'.cell? ⟨gw, j, none⟩ = some (.int .i64 (z : Int))) (by kernel_rfl) ⟨HCV.out, HCW.out⟩ (fun hHeld => ?_)
          refine wpAnyH_take (i := 0) (v := ?v13) rfl (by kernel_rfl) (by kernel_rfl) (by kernel_rfl) (fun _ _ _ h => h) (Or.inl ⟨by rfl, ?hy13⟩) hHeld ?rest13
          case hy13 =>
            intro w' hSw
            try dsimp only at hSw
            go_simp
            first | done | with_reducible rfl
          try simp only [Act.put, List.getElem_toArray, List.getElem_cons_zero, List.setIfInBounds_toArray, List.set_cons_zero, List.set_cons_succ]
          refine wpAnyH_take (i := 1) (v := ?v14) rfl (by kernel_rfl) (by kernel_rfl) (by kernel_rfl) (fun _ _ _ h => h) (Or.inl ⟨by rfl, ?hy14⟩) hHeld ?rest14
          case hy14 =>
            intro w' hSw
            try dsimp only at hSw
            go_simp
            first | done | with_reducible rfl
          try simp only [Act.put, List.getElem_toArray, List.getElem_cons_succ, List.getElem_cons_zero, List.setIfInBounds_toArray, List.set_cons_zero, List.set_cons_succ]
          refine wpAnyH_take (i := 2) (v := ?v15) rfl (by kernel_rfl) (by kernel_rfl) (by kernel_rfl) (fun _ _ _ h => h) (Or.inl ⟨by rfl, ?hy15⟩) hHeld ?rest15
          case hy15 =>
            intro w' hSw
            try dsimp only at hSw
            go_simp
            first | done | with_reducible rfl
          try simp only [Act.put, List.getElem_toArray, List.getElem_cons_succ, List.getElem_cons_zero, List.setIfInBounds_toArray, List.set_cons_zero, List.set_cons_succ]
          refine wpAnyH_take (i := 3) (v := ?v16) rfl (by kernel_rfl) (by kernel_rfl) (by kernel_rfl) (fun _ _ _ h => h) (Or.inl ⟨by rfl, ?hy16⟩) hHeld ?rest16
          case hy16 =>
            intro w' hSw
            try dsimp only at hSw
            go_simp
            first | done | with_reducible rfl
          try simp only [Act.put, List.getElem_toArray, List.getElem_cons_succ, List.getElem_cons_zero, List.setIfInBounds_toArray, List.set_cons_zero, List.set_cons_succ]
          refine wpAnyH_take (i := 4) (v := ?v17) rfl (by kernel_rfl) (by kernel_rfl) (by kernel_rfl) (fun _ _ _ h => h) (Or.inl ⟨by rfl, ?hy17⟩) hHeld ?rest17
          case hy17 =>
            intro w' hSw
            try dsimp only at hSw
            go_simp
            first | done | with_reducible rfl
          try simp only [Act.put, List.getElem_toArray, List.getElem_cons_succ, List.getElem_cons_zero, List.setIfInBounds_toArray, List.set_cons_zero, List.set_cons_succ]
          refine wpAnyH_take (i := 5) (v := ?v18) rfl (by kernel_rfl) (by kernel_rfl) (by kernel_rfl) (fun _ _ _ h => h) (Or.inl ⟨by rfl, ?hy18⟩) hHeld ?rest18
          case hy18 =>
            intro w' hSw
            try dsimp only at hSw
            go_simp
            first | done | with_reducible rfl
          try simp only [Act.put, List.getElem_toArray, List.getElem_cons_succ, List.getElem_cons_zero, List.setIfInBounds_toArray, List.set_cons_zero, List.set_cons_succ]
          refine wpAnyH_take (i := 6) (v := ?v19) rfl (by kernel_rfl) (by kernel_rfl) (by kernel_rfl) (fun _ _ _ h => h) (Or.inl ⟨by rfl, ?hy19⟩) hHeld ?rest19
          case hy19 =>
            intro w' hSw
            try dsimp only at hSw
            go_simp
            first | done | with_reducible rfl
          try simp only [Act.put, List.getElem_toArray, List.getElem_cons_succ, List.getElem_cons_zero, List.setIfInBounds_toArray, List.set_cons_zero, List.set_cons_succ]
          refine wpAnyH_take (i := 7) (v := ?v20) rfl (by kernel_rfl) (by kernel_rfl) (by kernel_rfl) (fun _ _ _ h => h) (Or.inl ⟨by rfl, ?hy20⟩) hHeld ?rest20
          case hy20 =>
            intro w' hSw
            try dsimp only at hSw
            go_simp
            first | done | with_reducible rfl
          try simp only [Act.put, List.getElem_toArray, List.getElem_cons_succ, List.getElem_cons_zero, List.setIfInBounds_toArray, List.set_cons_zero, List.set_cons_succ]
          refine wpAnyH_take (i := 8) (v := ?v21) rfl (by kernel_rfl) (by kernel_rfl) (by kernel_rfl) (fun _ _ _ h => h) (Or.inl ⟨by rfl, ?hy21⟩) hHeld ?rest21
          case hy21 =>
            intro w' hSw
            try dsimp only at hSw
            go_simp
            first | done | with_reducible rfl
          try simp only [Act.put, List.getElem_toArray, List.getElem_cons_succ, List.getElem_cons_zero, List.setIfInBounds_toArray, List.set_cons_zero, List.set_cons_succ]
          refine wpAnyH_done (by kernel_rfl) ?_ _
          refine OnlyN.normal ?_
          clear hHeld
          go_wp2
          go_roundw
          case rel => exact ⟨j + 1, by omega, by go_num, below_drew HB.out⟩
          case measure => simp [intOf]; omega
        · obtain rfl : j = D.length := by omega
          have HB10 := Lib.hid (HB9.out.trans (hb.mono HB9.out.size))
          have HP10 := Lib.hid (HP9.out.below hb)
          have HX10 := Lib.hid (HX9.out.below hb)
          have HS10 := Lib.hid (HS9.out.below hb)
          clear hb HB9 HP9 HX9 HS9 HW9 HV9
          go_wp2_with (first
            | (go_at_call 28; refine (copy_y HS10.out E1.out N0.out N1.out).mono ?_; rintro e w11 ⟨rfl, ⟨Ac, cc, pc, hs⟩, b_⟩; have HB11 := Lib.hid (HB10.out.trans (b_.mono HB10.out.size)); have HP11 := Lib.hid (HP10.out.below b_); have HX11 := Lib.hid (HX10.out.below b_); have HS11 := Lib.hid (HS10.out.below b_); have HC11 := Lib.hid hs; have HL11 := Lib.hid b_.size; have HL10 := Lib.hid HB10.out.size; have HS11b := Lib.hid (fun k hk => (HS10.out.lt k hk).2); have HP11b := Lib.hid (HP10.out); clear hs; have x1 := HX11.out.c1; simp only [Nat.zero_add] at x1; clear b_ HB10 HP10 HX10 HS10)
            | (refine wpList_yields (S := fun w' => ObAt w' w.heap.size 2 x.o) (y_ob (by rfl) (.tmp 120) (by rfl) w.heap.size 2 (by rfl) x.o (fun _ h => h)) HX11.out.ob0 ?_)
            | (go_at_call 18; refine (put_y HC11.out (HT.out.below HB11.out) HL11.out (by rw [E1.out]; exact N0.out) x.oid x.o).mono ?_; rintro e w12 ⟨⟨r, rfl⟩, b_⟩; have HB12 := Lib.hid (HB11.out.trans (b_.mono HL10.out)); have HS12 := Lib.hid (HS11.out.keep fun k hk => b_.block k (HS11b.out k hk)); have HP12 := Lib.hid (HP12_of HP11b.out HP11.out b_); clear b_ x1)
            | (go_at_call 16; refine (lsame_y HS12.out HP12.out E1.out N0.out N1.out c1).mono ?_; rintro e w13 ⟨rfl, b_⟩; have HB13 := Lib.hid (HB12.out.trans (b_.mono HB12.out.size)); clear b_ HB12 )
            | (go_at_call 11; refine (known_any _ (HT.out.below HB13.out)).mono ?_; rintro e v9 ⟨rfl, b_⟩; have B9 := Lib.hid (HB13.out.trans (b_.mono HB13.out.size)); clear b_))
          go_ret
          exact ⟨rfl, B9.out⟩
set_option maxRecDepth 100000 in
set_option maxHeartbeats 8000000 in
theorem walk_ne (w : World) (hT : Tab w) (A1 : Option Addr) (l1 : List Oj) (c1 : Nat) (A2 : Option Addr) (l2 : List Oj) (c2 : Nat) (x : Stp) (n m : Nat) (e1 : l1.length = n) (e2 : l2.length = m) (hr1 : RdO w A1 l1) (hr2 : RdO w A2 l2) (h1 : n ≤ 20) (h2 : m ≤ 20) (r1 : rightP l1) (r2 : rightP l2) (hnm : n ≠ m) : Calls Tryd.prog 7 #[.slice A1 n c1, .slice A2 m c2, x.val] w fun e w' => e = .returned (.bool true) ∧ Below w.heap.size w w' := by
  have HT := Lib.hid hT
  have HB0 := Lib.hid ((Below.refl w.heap.size w).alloc (Nat.le_refl _) (.cells x.cells.toArray 45))
  have HP0 := Lib.hid (hr1.below ((Below.refl _ _).alloc (Nat.le_refl _) (.cells x.cells.toArray 45)))
  have HQ0 := Lib.hid (hr2.below ((Below.refl _ _).alloc (Nat.le_refl _) (.cells x.cells.toArray 45)))
  have HX0 := Lib.hid (Blk.new w 45 x.cells.toArray).stp
  have E1 := Lib.hid e1
  have E2 := Lib.hid e2
  have R1 := Lib.hid r1
  have R2 := Lib.hid r2
  have d0 : decide ((20 : Int) < (n : Int)) = false := decide_eq_false (by omega)
  have d1 : decide ((20 : Int) < (m : Int)) = false := decide_eq_false (by omega)
  have N0 := Lib.hid (show 0 < n by have := r1.1; omega)
  have M0 := Lib.hid (show 0 < m by have := r2.1; omega)
  have N1 := Lib.hid (show n ≤ 1000 by omega)
  have HDL := Lib.hid (show (unl l1 l2).length ≤ 1000 from Nat.le_trans (unl_le _ _) (by omega))
  have f1 : ((n : Int) == (m : Int)) = false := by simp; omega
  have f2 : (n == m) = false := by simp; omega
  have f3 : decide (n = m) = false := decide_eq_false hnm
  have HU0 := Lib.hid (show unl l1 l2 = [] from if_neg (by omega))
  clear hT hr1 hr2 e1 e2 r1 r2 h2 hnm
  go_enter Tryd.func7, Tryd.ntmps7
  go_wp2_with (first
    | (go_at_call 15; refine (right_y HP0.out R1.out E1.out c1).mono ?_; rintro e w1 ⟨rfl, b_⟩; have HB1 := Lib.hid (HB0.out.trans (b_.mono HB0.out.size)); have HP1 := Lib.hid (HP0.out.below b_); have HQ1 := Lib.hid (HQ0.out.below b_); have HX1 := Lib.hid (HX0.out.below b_); clear b_ HB0 HP0 HQ0 HX0)
    | (go_at_call 15; refine (right_y HQ1.out R2.out E2.out c2).mono ?_; rintro e w2 ⟨rfl, b_⟩; have HB2 := Lib.hid (HB1.out.trans (b_.mono HB1.out.size)); have HP2 := Lib.hid (HP1.out.below b_); have HQ2 := Lib.hid (HQ1.out.below b_); have HX2 := Lib.hid (HX1.out.below b_); clear b_ HB1 HP1 HQ1 HX1)
    | (go_at_call 14; refine (of_y (HT.out.below HB2.out) HP2.out R1.out E1.out c1).mono ?_; rintro e w3 ⟨rfl, ⟨As, cs, ps, hs⟩, b_⟩; have HB3 := Lib.hid (HB2.out.trans (b_.mono HB2.out.size)); have HP3 := Lib.hid (HP2.out.below b_); have HQ3 := Lib.hid (HQ2.out.below b_); have HX3 := Lib.hid (HX2.out.below b_); have HS3 := Lib.hid hs; have LS3 := Lib.hid HB2.out.size; clear hs; clear b_ HB2 HP2 HQ2 HX2)
    | (go_at_call 14; refine (of_y (HT.out.below HB3.out) HQ3.out R2.out E2.out c2).mono ?_; rintro e w4 ⟨rfl, ⟨At, ct, pt, hs⟩, b_⟩; have HB4 := Lib.hid (HB3.out.trans (b_.mono HB3.out.size)); have HP4 := Lib.hid (HP3.out.below b_); have HQ4 := Lib.hid (HQ3.out.below b_); have HX4 := Lib.hid (HX3.out.below b_); have HS4 := Lib.hid (HS3.out.below b_); have HU4 := Lib.hid hs; clear hs; clear b_ HB3 HP3 HQ3 HX3 HS3))
  go_loopw [11, 12] (fun v i wr => ∃ k : Nat, k ≤ n ∧ i = .int .i64 k ∧ Below w4.heap.size w4 wr ∧ k = 0 ∧ wr.ownsRow w4.heap.size 3 1 v ([] : List Nat).length (dv [])) (fun _ i _ => n + 1 - (intOf i).toNat)
  case atStart => exact ⟨0, by omega, rfl, Below.refl _ _, rfl, ⟨rfl, .inl ⟨rfl, rfl⟩⟩⟩
  case round =>
    obtain ⟨k, hk, rfl, hb, rfl, hown⟩ := hrel
    have hn0 : (0 : Int) < (n : Int) := by have := N0.out; omega
    rw [← HU0.out] at hown
    skip
    obtain ⟨Aw, cw, rfl⟩ := own_shape hown
    obtain ⟨D, hD⟩ : ∃ D, unl l1 l2 = D := ⟨_, rfl⟩
    rw [hD] at hown ⊢
    have hDL : D.length ≤ 1000 := hD ▸ HDL.out
    obtain ⟨q, hq⟩ : ∃ q, decide (l1 = l2) = q := ⟨_, rfl⟩
    have qq : (q != q) = false := by simp
    have qq2 : (q == q) = true := by simp
    have HD := Lib.hid hD
    have HQQ := Lib.hid hq
    have HW5 := Lib.hid hown
    have HB5 := Lib.hid (HB4.out.trans (hb.mono HB4.out.size))
    have HP5 := Lib.hid (HP4.out.below hb)
    have HQ5 := Lib.hid (HQ4.out.below hb)
    have HX5 := Lib.hid (HX4.out.below hb)
    have HS5 := Lib.hid (HS4.out.below hb)
    have HU5 := Lib.hid (HU4.out.below hb)
    clear hb hown hD hq HB4 HP4 HQ4 HX4 HS4 HU4 HU0
    go_wp2_with (first
      | (go_at_call 25; refine (unlike_y HS5.out HU5.out E1.out E2.out N0.out M0.out N1.out HD.out).mono ?_; rintro e w6 ⟨v6, rfl, hv, b_⟩; have HB6 := Lib.hid (HB5.out.trans (b_.mono HB5.out.size)); have HP6 := Lib.hid (HP5.out.below b_); have HQ6 := Lib.hid (HQ5.out.below b_); have HX6 := Lib.hid (HX5.out.below b_); have HS6 := Lib.hid (HS5.out.below b_); have HU6 := Lib.hid (HU5.out.below b_); have HW6 := Lib.hid (own_below HW5.out b_); obtain ⟨Av, cv, rfl⟩ := own_shape hv; have HV6 := Lib.hid hv; clear hv; clear b_ HB5 HP5 HQ5 HX5 HS5 HU5 HW5)
      | (go_at_call 26; refine (same_y HS6.out HU6.out E1.out E2.out N0.out M0.out N1.out HQQ.out).mono ?_; rintro e w7 ⟨rfl, b_⟩; have HB7 := Lib.hid (HB6.out.trans (b_.mono HB6.out.size)); have HP7 := Lib.hid (HP6.out.below b_); have HQ7 := Lib.hid (HQ6.out.below b_); have HX7 := Lib.hid (HX6.out.below b_); have HS7 := Lib.hid (HS6.out.below b_); have HU7 := Lib.hid (HU6.out.below b_); have HW7 := Lib.hid (own_below HW6.out b_); have HV7 := Lib.hid (own_below HV6.out b_); clear b_ HB6 HP6 HQ6 HX6 HS6 HU6 HW6 HV6)
      | (go_at_call 27; refine (rsame_y HP7.out HQ7.out E1.out E2.out N1.out c1 c2 HQQ.out).mono ?_; rintro e w8 ⟨rfl, b_⟩; have HB8 := Lib.hid (HB7.out.trans (b_.mono HB7.out.size)); have HP8 := Lib.hid (HP7.out.below b_); have HX8 := Lib.hid (HX7.out.below b_); have HS8 := Lib.hid (HS7.out.below b_); have HW8 := Lib.hid (own_below HW7.out b_); have HV8 := Lib.hid (own_below HV7.out b_); clear b_ HB7 HP7 HX7 HS7 HW7 HV7 HQ7 HU7)
      | (go_at_call 26; refine (same_y HS8.out HS8.out E1.out E1.out N0.out N0.out N1.out (decide_eq_true rfl)).mono ?_; rintro e w9 ⟨rfl, b_⟩; have HB9 := Lib.hid (HB8.out.trans (b_.mono HB8.out.size)); have HP9 := Lib.hid (HP8.out.below b_); have HX9 := Lib.hid (HX8.out.below b_); have HS9 := Lib.hid (HS8.out.below b_); have HW9 := Lib.hid (own_below HW8.out b_); have HV9 := Lib.hid (own_below HV8.out b_); clear b_ HB8 HP8 HX8 HS8 HW8 HV8))
    go_loopw [14] (fun i ws => ∃ j : Nat, j ≤ D.length ∧ i = .int .i64 j ∧ Below w9.heap.size w9 ws) (fun i _ => D.length + 1 - (intOf i).toNat)
    case atStart => exact ⟨0, by omega, rfl, Below.refl _ _⟩
    case round =>
      obtain ⟨j, hj, rfl, hb⟩ := hrel
      by_cases hlt : j < D.length
      · obtain ⟨z, hz⟩ : ∃ z, D[j]? = some z := ⟨_, List.getElem?_eq_getElem hlt⟩
        obtain ⟨gv, rfl, hv⟩ := own_num (own_below HV9.out hb) hlt hz
        obtain ⟨gw, rfl, hw⟩ := own_num (own_below HW9.out hb) hlt hz
        have HCV := Lib.hid hv
        have HCW := Lib.hid hw
        have HB := Lib.hid hb
        have hil : (j : Int) < (D.length : Int) := by omega
        have zz : ((z : Int) != (z : Int)) = false := by simp
        clear hv hw hb hz
        go_wp2_with fail
        refine wp_region_only (S := fun w' => w'.cell? ⟨gv, j, none⟩ = some (.int .i64 (z : Int)) ∧ w'.cell? ⟨gw, j, none⟩ = some (.int .i64 (z : Int))) (by kernel_rfl) ⟨HCV.out, HCW.out⟩ (fun hHeld => ?_)
        refine wpAnyH_take (i := 0) (v := ?v22) rfl (by kernel_rfl) (by kernel_rfl) (by kernel_rfl) (fun _ _ _ h => h) (Or.inl ⟨by rfl, ?hy22⟩) hHeld ?rest22
        case hy22 =>
          intro w' hSw
          try dsimp only at hSw
          go_simp
          first | done | with_reducible rfl
        try simp only [Act.put, List.getElem_toArray, List.getElem_cons_zero, List.setIfInBounds_toArray, List.set_cons_zero, List.set_cons_succ]
        refine wpAnyH_take (i := 1) (v := ?v23) rfl (by kernel_rfl) (by kernel_rfl) (by kernel_rfl) (fun _ _ _ h => h) (Or.inl ⟨by rfl, ?hy23⟩) hHeld ?rest23
        case hy23 =>
          intro w' hSw
          try dsimp only at hSw
          go_simp
          first | done | with_reducible rfl
        try simp only [Act.put, List.getElem_toArray, List.getElem_cons_succ, List.getElem_cons_zero, List.setIfInBounds_toArray, List.set_cons_zero, List.set_cons_succ]
        refine wpAnyH_take (i := 2) (v := ?v24) rfl (by kernel_rfl) (by kernel_rfl) (by kernel_rfl) (fun _ _ _ h => h) (Or.inl ⟨by rfl, ?hy24⟩) hHeld ?rest24
        case hy24 =>
          intro w' hSw
          try dsimp only at hSw
          go_simp
          first | done | with_reducible rfl
        try simp only [Act.put, List.getElem_toArray, List.getElem_cons_succ, List.getElem_cons_zero, List.setIfInBounds_toArray, List.set_cons_zero, List.set_cons_succ]
        refine wpAnyH_take (i := 3) (v := ?v25) rfl (by kernel_rfl) (by kernel_rfl) (by kernel_rfl) (fun _ _ _ h => h) (Or.inl ⟨by rfl, ?hy25⟩) hHeld ?rest25
        case hy25 =>
          intro w' hSw
          try dsimp only at hSw
          go_simp
          first | done | with_reducible rfl
        try simp only [Act.put, List.getElem_toArray, List.getElem_cons_succ, List.getElem_cons_zero, List.setIfInBounds_toArray, List.set_cons_zero, List.set_cons_succ]
        refine wpAnyH_take (i := 4) (v := ?v26) rfl (by kernel_rfl) (by kernel_rfl) (by kernel_rfl) (fun _ _ _ h => h) (Or.inl ⟨by rfl, ?hy26⟩) hHeld ?rest26
        case hy26 =>
          intro w' hSw
          try dsimp only at hSw
          go_simp
          first | done | with_reducible rfl
        try simp only [Act.put, List.getElem_toArray, List.getElem_cons_succ, List.getElem_cons_zero, List.setIfInBounds_toArray, List.set_cons_zero, List.set_cons_succ]
        refine wpAnyH_take (i := 5) (v := ?v27) rfl (by kernel_rfl) (by kernel_rfl) (by kernel_rfl) (fun _ _ _ h => h) (Or.inl ⟨by rfl, ?hy27⟩) hHeld ?rest27
        case hy27 =>
          intro w' hSw
          try dsimp only at hSw
          go_simp
          first | done | with_reducible rfl
        try simp only [Act.put, List.getElem_toArray, List.getElem_cons_succ, List.getElem_cons_zero, List.setIfInBounds_toArray, List.set_cons_zero, List.set_cons_succ]
        refine wpAnyH_take (i := 6) (v := ?v28) rfl (by kernel_rfl) (by kernel_rfl) (by kernel_rfl) (fun _ _ _ h => h) (Or.inl ⟨by rfl, ?hy28⟩) hHeld ?rest28
        case hy28 =>
          intro w' hSw
          try dsimp only at hSw
          go_simp
          first | done | with_reducible rfl
        try simp only [Act.put, List.getElem_toArray, List.getElem_cons_succ, List.getElem_cons_zero, List.setIfInBounds_toArray, List.set_cons_zero, List.set_cons_succ]
        refine wpAnyH_take (i := 7) (v := ?v29) rfl (by kernel_rfl) (by kernel_rfl) (by kernel_rfl) (fun _ _ _ h => h) (Or.inl ⟨by rfl, ?hy29⟩) hHeld ?rest29
        case hy29 =>
          intro w' hSw
          try dsimp only at hSw
          go_simp
          first | done | with_reducible rfl
        try simp only [Act.put, List.getElem_toArray, List.getElem_cons_succ, List.getElem_cons_zero, List.setIfInBounds_toArray, List.set_cons_zero, List.set_cons_succ]
        refine wpAnyH_take (i := 8) (v := ?v30) rfl (by kernel_rfl) (by kernel_rfl) (by kernel_rfl) (fun _ _ _ h => h) (Or.inl ⟨by rfl, ?hy30⟩) hHeld ?rest30
        case hy30 =>
          intro w' hSw
          try dsimp only at hSw
          go_simp
          first | done | with_reducible rfl
        try simp only [Act.put, List.getElem_toArray, List.getElem_cons_succ, List.getElem_cons_zero, List.setIfInBounds_toArray, List.set_cons_zero, List.set_cons_succ]
        refine wpAnyH_done (by kernel_rfl) ?_ _
        refine OnlyN.normal ?_
        clear hHeld
        go_wp2
        go_roundw
        case rel => exact ⟨j + 1, by omega, by go_num, below_drew HB.out⟩
        case measure => simp [intOf]; omega
      · obtain rfl : j = D.length := by omega
        have HB10 := Lib.hid (HB9.out.trans (hb.mono HB9.out.size))
        have HP10 := Lib.hid (HP9.out.below hb)
        have HX10 := Lib.hid (HX9.out.below hb)
        have HS10 := Lib.hid (HS9.out.below hb)
        clear hb HB9 HP9 HX9 HS9 HW9 HV9
        go_wp2_with (first
          | (go_at_call 28; refine (copy_y HS10.out E1.out N0.out N1.out).mono ?_; rintro e w11 ⟨rfl, ⟨Ac, cc, pc, hs⟩, b_⟩; have HB11 := Lib.hid (HB10.out.trans (b_.mono HB10.out.size)); have HP11 := Lib.hid (HP10.out.below b_); have HX11 := Lib.hid (HX10.out.below b_); have HS11 := Lib.hid (HS10.out.below b_); have HC11 := Lib.hid hs; have HL11 := Lib.hid b_.size; have HL10 := Lib.hid HB10.out.size; have HS11b := Lib.hid (fun k hk => (HS10.out.lt k hk).2); have HP11b := Lib.hid (HP10.out); clear hs; have x1 := HX11.out.c1; simp only [Nat.zero_add] at x1; clear b_ HB10 HP10 HX10 HS10)
          | (refine wpList_yields (S := fun w' => ObAt w' w.heap.size 2 x.o) (y_ob (by rfl) (.tmp 120) (by rfl) w.heap.size 2 (by rfl) x.o (fun _ h => h)) HX11.out.ob0 ?_)
          | (go_at_call 18; refine (put_y HC11.out (HT.out.below HB11.out) HL11.out (by rw [E1.out]; exact N0.out) x.oid x.o).mono ?_; rintro e w12 ⟨⟨r, rfl⟩, b_⟩; have HB12 := Lib.hid (HB11.out.trans (b_.mono HL10.out)); have HS12 := Lib.hid (HS11.out.keep fun k hk => b_.block k (HS11b.out k hk)); have HP12 := Lib.hid (HP12_of HP11b.out HP11.out b_); clear b_ x1)
          | (go_at_call 16; refine (lsame_y HS12.out HP12.out E1.out N0.out N1.out c1).mono ?_; rintro e w13 ⟨rfl, b_⟩; have HB13 := Lib.hid (HB12.out.trans (b_.mono HB12.out.size)); clear b_ HB12 )
          | (go_at_call 11; refine (known_any _ (HT.out.below HB13.out)).mono ?_; rintro e v9 ⟨rfl, b_⟩; have B9 := Lib.hid (HB13.out.trans (b_.mono HB13.out.size)); clear b_))
        go_ret
        exact ⟨rfl, B9.out⟩
theorem walk (w : World) (hL : laidMetH Tryd.prog laidK w) (A1 : Option Addr) (l1 : List Oj) (c1 : Nat) (_ : l1.length ≤ c1) (_ : c1 ≤ maxLen) (hr1 : RdO w A1 l1) (A2 : Option Addr) (l2 : List Oj) (c2 : Nat) (_ : l2.length ≤ c2) (_ : c2 ≤ maxLen) (hr2 : RdO w A2 l2) (x : Stp) : Calls Tryd.prog 7 #[.slice A1 l1.length c1, .slice A2 l2.length c2, x.val] w fun e w' => e = .returned (.bool true) ∧ Below w.heap.size w w' := by
  by_cases h1 : l1.length ≤ 20
  · by_cases h2 : l2.length ≤ 20
    · by_cases r1 : rightP l1
      · by_cases r2 : rightP l2
        · by_cases e : l1.length = l2.length
          · rw [← e]
            exact walk_eq w (tab_of hL) A1 l1 c1 A2 l2 c2 x _ rfl e.symm hr1 hr2 h1 r1 r2
          · exact walk_ne w (tab_of hL) A1 l1 c1 A2 l2 c2 x _ _ rfl rfl hr1 hr2 h1 h2 r1 r2 e
        · exact walk_k4 w (tab_of hL) A1 l1 c1 A2 l2 c2 x _ _ rfl rfl hr1 hr2 h1 h2 r1 r2
      · exact walk_k3 w (tab_of hL) A1 l1 c1 A2 l2 c2 x _ _ rfl rfl hr1 hr2 h1 h2 r1
    · exact walk_k2 w (tab_of hL) A1 l1 c1 A2 l2 c2 x _ _ rfl rfl hr1 hr2 h1 (by omega)
  · exact walk_k1 w (tab_of hL) A1 l1 c1 A2 l2 c2 x _ _ rfl rfl hr1 hr2 (by omega)
set_option maxRecDepth 100000 in
theorem lifted (os : Os) (started : os.Started) (H : Type) (enc : TypeId × Value → H) :
    ReturnsInHanded {} Tryd.checked os 7 .any (fun w args => (Rows.objectsUnlikeSpec.pre enc Tryd.prog Tryd.f7 [] false w args ∧ laidMetH Tryd.prog laidK w) ∧ sizedMet enc Tryd.prog Tryd.f7 (OpenSpec.ofChange Rows.objectsUnlikeSpec) false w args) (Rows.objectsUnlikeSpec.post enc Tryd.prog Tryd.f7 false true false false) := by
  refine returnsInHanded_of_change_and (C := Tryd.checked) (X := fun w _ => laidMetH Tryd.prog laidK w) (fun _ _ _ hh h => h.of_heap hh) own started (by kernel_rfl) Tryd.func7
    (ChangeSpec.witness_shaped (enc := enc) (C := Tryd.checked) (os := os) (X := fun w _ => laidMetH Tryd.prog laidK w) false (World.doorLaid Tryd.prog 40 os) #[.slice none 0 0, .slice none 0 0, .agg (Value.bool false :: (List.replicate 100 (Value.int .i64 0) ++ List.replicate 64 (Value.int .u8 0))).toArray] 8 rfl (World.shaped_of_RefB (by kernel_rfl) (by kernel_rfl)) (by kernel_rfl) (by kernel_rfl) (by kernel_rfl) (door_met os _)) ?_
  intro W base args ds gs before hval0 hW _ _ hL _
  have hval : ∀ (j : Nat) t v, Tryd.f7.params[j]? = some t → args[j]? = some v → Value.okWide Tryd.prog W .any base t v := hval0
  have hW' := hW
  obtain ⟨p, q, hA0, hV, rfl, hfz, hnd⟩ := hW
  have hA : DataW.TrodAll enc Tryd.prog W 0 (fun _ => true) true Tryd.f7.params.toList args.toList ds p := hA0
  rw [Tryd.params7] at hA hval
  obtain ⟨v0, vs0, d0, ds0, p0, q0, hargs, rfl, rfl, h0, t0⟩ := trodAll_cons hA
  obtain ⟨v1, vs1, d1, ds1, p1, q1, rfl, rfl, rfl, h1, t1⟩ := trodAll_cons t0
  obtain ⟨v2, vs2, d2, ds2, p2, q2, rfl, rfl, rfl, h2, t2⟩ := trodAll_cons t1
  obtain ⟨rfl, rfl, rfl⟩ := trodAll_nil t2
  obtain rfl : args = #[v0, v1, v2] := by cases args; simp_all
  obtain ⟨rfl, rfl⟩ := trodVars_none hV
  have k0 := h0
  have lt0 : ∀ x ∈ p0, x.block < W.heap.size := by obtain ⟨m, hm⟩ := k0; exact DataW.trod_lt m _ _ _ hm
  obtain ⟨A0, l0, c0, rfl, hlc0, hcm0, hr0⟩ := open_obs (hval 0 22 v0 rfl rfl) h0
  have k1 := h1
  have lt1 : ∀ x ∈ p1, x.block < W.heap.size := by obtain ⟨m, hm⟩ := k1; exact DataW.trod_lt m _ _ _ hm
  obtain ⟨A1, l1, c1, rfl, hlc1, hcm1, hr1⟩ := open_obs (hval 1 22 v1 rfl rfl) h1
  have k2 := h2
  have lt2 : ∀ x ∈ p2, x.block < W.heap.size := by obtain ⟨m, hm⟩ := k2; exact DataW.trod_lt m _ _ _ hm
  obtain ⟨x2, rfl⟩ := open_stp (hval 2 45 v2 rfl rfl) h2
  clear hA0 hval0
  refine (walk W hL A0 l0 c0 hlc0 hcm0 hr0 A1 l1 c1 hlc1 hcm1 hr1 x2).mono fun e W' ⟨he, bel⟩ => ?_
  subst he
  exact ⟨_, rfl, _, _, _, [], _, [], hW', trodAll_mk1 (shut_bool Tryd.underlying4 _), (trodAll_cons_mk (Below.trod laidOut (by kernel_rfl) (of_decide_eq_true (by kernel_rfl)) k0 bel lt0) (trodAll_cons_mk (Below.trod laidOut (by kernel_rfl) (of_decide_eq_true (by kernel_rfl)) k1 bel lt1) (trodAll_cons_mk (Below.trod laidOut (by kernel_rfl) (of_decide_eq_true (by kernel_rfl)) k2 bel lt2) trodAll_mk0))), rfl, bel.frame _, fun h => by cases h⟩
theorem over : Rows.objectsUnlikeRow.holds Tryd.pinned (OpenSpec.ofChange Rows.objectsUnlikeSpec) :=
  OpenClaim.holds_of_wide 7 Tryd.f7 rfl rfl rfl rfl rfl rfl rfl ⟨rfl, rfl, rfl, rfl, rfl⟩ rfl rfl rfl rfl rfl (by kernel_rfl) Tryd.func7 (by kernel_rfl)
    (of_decide_eq_true (by kernel_rfl)) (by unfold Func.isWrapper; first | (rw [if_pos (by decide +kernel)]; kernel_rfl) | (rw [if_neg (by decide +kernel)]; exact ⟨rfl, rfl⟩))
    (fun os started H enc _ => lifted os started H enc)
theorem proved : Rows.ObjectsUnlikeCardSaid :=
  Claim7.holds_tied_plain_at .later [] [.data] true Rows.objectsUnlikeCard.stood.harness false
    over (fun _ h => by cases h) (by kernel_rfl) (fun _ h => by cases h) objectsUnlike_row_tie rfl ⟨rfl, rfl⟩ (by kernel_rfl) rfl
    (fun f fn hf hfn => by
      obtain rfl : f = 7 := Option.some.inj ((show Tryd.prog.funcNamed "chatelaine/chatelainelaw04.ObjectsUnlike" = some 7 by kernel_rfl).symm.trans hf) |>.symm
      obtain rfl : fn = Tryd.f7 := (Option.some.inj (Tryd.func7.symm.trans hfn)).symm
      exact ⟨by kernel_rfl, fun j t ht => by
        rw [Tryd.params7] at ht
        have hm : t ∈ [22, 22, 45] := by simpa using Array.mem_of_getElem? ht
        have hall : ([22, 22, 45].all fun u => !Tryd.prog.wantsStandIn u) = true := by kernel_rfl
        exact (show Tryd.prog.wantsStandIn t = false by simpa using List.all_eq_true.1 hall t hm)⟩)
    (by kernel_rfl)
end Go.Proofs.YtlhlgfehbfankaaDoor.objectsUnlike

/- objects: kindHas, Check. -/
import Derived.Test.YtlhlgfehbfankaaDoorOMany
namespace Go.Proofs.YtlhlgfehbfankaaDoor
open Go.RowKit
/-- has it nothing that its kind has not, in a store of n -/
def Oj.has (n : Int) (o : Oj) : Prop := (o.k = 1 ∧ mayS n o.s) ∨ (o.k = 2 ∧ o.l = 0 ∧ o.s = zks) ∨ ((o.k = 0 ∨ o.k = 3) ∧ o.b = zbs ∧ o.l = 0 ∧ o.s = zks)
noncomputable def Oj.hasB (n : Int) (o : Oj) : Bool := @decide (o.has n) (Classical.propDecidable _)
theorem Oj.hasB_eq {n : Int} {o : Oj} {b : Bool} (h : o.has n ↔ b = true) : b = o.hasB n := by
  unfold Oj.hasB
  rw [Bool.eq_iff_iff]
  simp [h]
theorem ret_b {a b : Bool} (h : a = b) : Ending.returned (.bool a) = .returned (.bool b) := by rw [h]
set_option maxHeartbeats 1000000 in
theorem has_0b (o : Oj) (n : Int) (w : World) (hk : o.k = 0) (hb : o.b ≠ zbs) :
    Calls Tryd.prog 33 #[o.val, .int .i64 n] w fun e w' => e = .returned (.bool (o.hasB n)) ∧ Below w.heap.size w w' := by
  have HB := Lib.hid ((Below.refl w.heap.size w).alloc (Nat.le_refl _) (.cells o.cells.toArray 34))
  have HG := Lib.hid (Blk.new w 34 o.cells.toArray).ob
  have DV := Lib.hid (show (!decide (o.b = zbs)) = true by simpa using hb)
  obtain ⟨c0, _, c2⟩ := HG.out.cells
  rw [hk] at c0
  go_enter Tryd.func33, Tryd.ntmps33
  go_wp2_with (first
    | (refine wpList_yields (S := fun w' => w'.rangeAt w.heap.size 99 (bv o.b)) (y_bs (by rfl) (.tmp 14) (by rfl) w.heap.size 99 (by rfl) o.b o.hb (fun _ h => h)) (by simpa using HG.out.bytes) ?_)
    | (refine wpList_yields (S := fun _ => True) (y_build (by rfl) (by rfl) built32) trivial ?_)
    | (refine wpList_yields (S := fun _ => True) (DV.out ▸ y_bsne (by rfl) (by rfl) o.b zbs o.hb rfl (by rfl) (by rfl)) trivial ?_))
  go_ret
  exact ⟨ret_b (Oj.hasB_eq (by unfold Oj.has; simp [hk, hb])), HB.out⟩
set_option maxHeartbeats 1000000 in
theorem has_0l (o : Oj) (n : Int) (w : World) (hk : o.k = 0) (hb : o.b = zbs) (hl : o.l ≠ 0) :
    Calls Tryd.prog 33 #[o.val, .int .i64 n] w fun e w' => e = .returned (.bool (o.hasB n)) ∧ Below w.heap.size w w' := by
  have HB := Lib.hid ((Below.refl w.heap.size w).alloc (Nat.le_refl _) (.cells o.cells.toArray 34))
  have HG := Lib.hid (Blk.new w 34 o.cells.toArray).ob
  have DV := Lib.hid (show (!decide (o.b = zbs)) = false by simpa using hb)
  obtain ⟨c0, _, c2⟩ := HG.out.cells
  rw [hk] at c0
  have dl : (o.l == 0) = false := by simpa using hl
  go_enter Tryd.func33, Tryd.ntmps33
  go_wp2_with (first
    | (refine wpList_yields (S := fun w' => w'.rangeAt w.heap.size 99 (bv o.b)) (y_bs (by rfl) (.tmp 14) (by rfl) w.heap.size 99 (by rfl) o.b o.hb (fun _ h => h)) (by simpa using HG.out.bytes) ?_)
    | (refine wpList_yields (S := fun _ => True) (y_build (by rfl) (by rfl) built32) trivial ?_)
    | (refine wpList_yields (S := fun _ => True) (DV.out ▸ y_bsne (by rfl) (by rfl) o.b zbs o.hb rfl (by rfl) (by rfl)) trivial ?_))
  go_ret
  exact ⟨ret_b (Oj.hasB_eq (by unfold Oj.has; simp [hk, hl])), HB.out⟩
set_option maxHeartbeats 1000000 in
theorem has_0s (o : Oj) (n : Int) (w : World) (hk : o.k = 0) (hb : o.b = zbs) (hl : o.l = 0) :
    Calls Tryd.prog 33 #[o.val, .int .i64 n] w fun e w' => e = .returned (.bool (o.hasB n)) ∧ Below w.heap.size w w' := by
  have HB := Lib.hid ((Below.refl w.heap.size w).alloc (Nat.le_refl _) (.cells o.cells.toArray 34))
  have HG := Lib.hid (Blk.new w 34 o.cells.toArray).ob
  have DV := Lib.hid (show (!decide (o.b = zbs)) = false by simpa using hb)
  obtain ⟨c0, _, c2⟩ := HG.out.cells
  rw [hk] at c0
  rw [hl] at c2
  go_enter Tryd.func33, Tryd.ntmps33
  go_wp2_with (first
    | (refine wpList_yields (S := fun w' => w'.rangeAt w.heap.size 99 (bv o.b)) (y_bs (by rfl) (.tmp 14) (by rfl) w.heap.size 99 (by rfl) o.b o.hb (fun _ h => h)) (by simpa using HG.out.bytes) ?_)
    | (refine wpList_yields (S := fun _ => True) (y_build (by rfl) (by rfl) built32) trivial ?_)
    | (refine wpList_yields (S := fun _ => True) (DV.out ▸ y_bsne (by rfl) (by rfl) o.b zbs o.hb rfl (by rfl) (by rfl)) trivial ?_)
    | (refine wpList_yields (S := fun w' => w'.rangeAt w.heap.size 3 (kcs o.s)) (y_ks (by rfl) (.tmp 22) (by rfl) w.heap.size 3 (by rfl) o.s o.hs (fun _ h => h)) (by simpa using HG.out.slots) ?_)
    | (refine wpList_yields (S := fun _ => True) (y_build (by rfl) (by rfl) built31) trivial ?_)
    | (refine wpList_yields (S := fun _ => True) (y_kseq (by rfl) (by rfl) o.s zks o.hs rfl (by rfl) (by rfl)) trivial ?_))
  go_ret
  exact ⟨ret_b (Oj.hasB_eq (by unfold Oj.has; simp [hk, hl, hb])), HB.out⟩
set_option maxHeartbeats 1000000 in
theorem has_3b (o : Oj) (n : Int) (w : World) (hk : o.k = 3) (hb : o.b ≠ zbs) :
    Calls Tryd.prog 33 #[o.val, .int .i64 n] w fun e w' => e = .returned (.bool (o.hasB n)) ∧ Below w.heap.size w w' := by
  have HB := Lib.hid ((Below.refl w.heap.size w).alloc (Nat.le_refl _) (.cells o.cells.toArray 34))
  have HG := Lib.hid (Blk.new w 34 o.cells.toArray).ob
  have DV := Lib.hid (show (!decide (o.b = zbs)) = true by simpa using hb)
  obtain ⟨c0, _, c2⟩ := HG.out.cells
  rw [hk] at c0
  go_enter Tryd.func33, Tryd.ntmps33
  go_wp2_with (first
    | (refine wpList_yields (S := fun w' => w'.rangeAt w.heap.size 99 (bv o.b)) (y_bs (by rfl) (.tmp 14) (by rfl) w.heap.size 99 (by rfl) o.b o.hb (fun _ h => h)) (by simpa using HG.out.bytes) ?_)
    | (refine wpList_yields (S := fun _ => True) (y_build (by rfl) (by rfl) built32) trivial ?_)
    | (refine wpList_yields (S := fun _ => True) (DV.out ▸ y_bsne (by rfl) (by rfl) o.b zbs o.hb rfl (by rfl) (by rfl)) trivial ?_))
  go_ret
  exact ⟨ret_b (Oj.hasB_eq (by unfold Oj.has; simp [hk, hb])), HB.out⟩
set_option maxHeartbeats 1000000 in
theorem has_3l (o : Oj) (n : Int) (w : World) (hk : o.k = 3) (hb : o.b = zbs) (hl : o.l ≠ 0) :
    Calls Tryd.prog 33 #[o.val, .int .i64 n] w fun e w' => e = .returned (.bool (o.hasB n)) ∧ Below w.heap.size w w' := by
  have HB := Lib.hid ((Below.refl w.heap.size w).alloc (Nat.le_refl _) (.cells o.cells.toArray 34))
  have HG := Lib.hid (Blk.new w 34 o.cells.toArray).ob
  have DV := Lib.hid (show (!decide (o.b = zbs)) = false by simpa using hb)
  obtain ⟨c0, _, c2⟩ := HG.out.cells
  rw [hk] at c0
  have dl : (o.l == 0) = false := by simpa using hl
  go_enter Tryd.func33, Tryd.ntmps33
  go_wp2_with (first
    | (refine wpList_yields (S := fun w' => w'.rangeAt w.heap.size 99 (bv o.b)) (y_bs (by rfl) (.tmp 14) (by rfl) w.heap.size 99 (by rfl) o.b o.hb (fun _ h => h)) (by simpa using HG.out.bytes) ?_)
    | (refine wpList_yields (S := fun _ => True) (y_build (by rfl) (by rfl) built32) trivial ?_)
    | (refine wpList_yields (S := fun _ => True) (DV.out ▸ y_bsne (by rfl) (by rfl) o.b zbs o.hb rfl (by rfl) (by rfl)) trivial ?_))
  go_ret
  exact ⟨ret_b (Oj.hasB_eq (by unfold Oj.has; simp [hk, hl])), HB.out⟩
set_option maxHeartbeats 1000000 in
theorem has_3s (o : Oj) (n : Int) (w : World) (hk : o.k = 3) (hb : o.b = zbs) (hl : o.l = 0) :
    Calls Tryd.prog 33 #[o.val, .int .i64 n] w fun e w' => e = .returned (.bool (o.hasB n)) ∧ Below w.heap.size w w' := by
  have HB := Lib.hid ((Below.refl w.heap.size w).alloc (Nat.le_refl _) (.cells o.cells.toArray 34))
  have HG := Lib.hid (Blk.new w 34 o.cells.toArray).ob
  have DV := Lib.hid (show (!decide (o.b = zbs)) = false by simpa using hb)
  obtain ⟨c0, _, c2⟩ := HG.out.cells
  rw [hk] at c0
  rw [hl] at c2
  go_enter Tryd.func33, Tryd.ntmps33
  go_wp2_with (first
    | (refine wpList_yields (S := fun w' => w'.rangeAt w.heap.size 99 (bv o.b)) (y_bs (by rfl) (.tmp 14) (by rfl) w.heap.size 99 (by rfl) o.b o.hb (fun _ h => h)) (by simpa using HG.out.bytes) ?_)
    | (refine wpList_yields (S := fun _ => True) (y_build (by rfl) (by rfl) built32) trivial ?_)
    | (refine wpList_yields (S := fun _ => True) (DV.out ▸ y_bsne (by rfl) (by rfl) o.b zbs o.hb rfl (by rfl) (by rfl)) trivial ?_)
    | (refine wpList_yields (S := fun w' => w'.rangeAt w.heap.size 3 (kcs o.s)) (y_ks (by rfl) (.tmp 22) (by rfl) w.heap.size 3 (by rfl) o.s o.hs (fun _ h => h)) (by simpa using HG.out.slots) ?_)
    | (refine wpList_yields (S := fun _ => True) (y_build (by rfl) (by rfl) built31) trivial ?_)
    | (refine wpList_yields (S := fun _ => True) (y_kseq (by rfl) (by rfl) o.s zks o.hs rfl (by rfl) (by rfl)) trivial ?_))
  go_ret
  exact ⟨ret_b (Oj.hasB_eq (by unfold Oj.has; simp [hk, hl, hb])), HB.out⟩
set_option maxHeartbeats 1000000 in
theorem has_2l (o : Oj) (n : Int) (w : World) (hk : o.k = 2) (hl : o.l ≠ 0) :
    Calls Tryd.prog 33 #[o.val, .int .i64 n] w fun e w' => e = .returned (.bool (o.hasB n)) ∧ Below w.heap.size w w' := by
  have HB := Lib.hid ((Below.refl w.heap.size w).alloc (Nat.le_refl _) (.cells o.cells.toArray 34))
  have HG := Lib.hid (Blk.new w 34 o.cells.toArray).ob
  obtain ⟨c0, _, c2⟩ := HG.out.cells
  rw [hk] at c0
  have dl : (o.l == 0) = false := by simpa using hl
  go_enter Tryd.func33, Tryd.ntmps33
  go_wp2_with (first
    | (refine wpList_yields (S := fun w' => w'.rangeAt w.heap.size 3 (kcs o.s)) (y_ks (by rfl) (.tmp 22) (by rfl) w.heap.size 3 (by rfl) o.s o.hs (fun _ h => h)) (by simpa using HG.out.slots) ?_))
  go_ret
  exact ⟨ret_b (Oj.hasB_eq (by unfold Oj.has; simp [hk, hl])), HB.out⟩
set_option maxHeartbeats 1000000 in
theorem has_2s (o : Oj) (n : Int) (w : World) (hk : o.k = 2) (hl : o.l = 0) :
    Calls Tryd.prog 33 #[o.val, .int .i64 n] w fun e w' => e = .returned (.bool (o.hasB n)) ∧ Below w.heap.size w w' := by
  have HB := Lib.hid ((Below.refl w.heap.size w).alloc (Nat.le_refl _) (.cells o.cells.toArray 34))
  have HG := Lib.hid (Blk.new w 34 o.cells.toArray).ob
  obtain ⟨c0, _, c2⟩ := HG.out.cells
  rw [hk] at c0
  rw [hl] at c2
  go_enter Tryd.func33, Tryd.ntmps33
  go_wp2_with (first
    | (refine wpList_yields (S := fun w' => w'.rangeAt w.heap.size 3 (kcs o.s)) (y_ks (by rfl) (.tmp 22) (by rfl) w.heap.size 3 (by rfl) o.s o.hs (fun _ h => h)) (by simpa using HG.out.slots) ?_)
    | (refine wpList_yields (S := fun _ => True) (y_build (by rfl) (by rfl) built31) trivial ?_)
    | (refine wpList_yields (S := fun _ => True) (y_kseq (by rfl) (by rfl) o.s zks o.hs rfl (by rfl) (by rfl)) trivial ?_))
  go_ret
  exact ⟨ret_b (Oj.hasB_eq (by unfold Oj.has; simp [hk, hl])), HB.out⟩
set_option maxHeartbeats 1000000 in
theorem has_1 (o : Oj) (n : Int) (w : World) (hT : Tab w) (hk : o.k = 1) :
    Calls Tryd.prog 33 #[o.val, .int .i64 n] w fun e w' => e = .returned (.bool (o.hasB n)) ∧ Below w.heap.size w w' := by
  have HB := Lib.hid ((Below.refl w.heap.size w).alloc (Nat.le_refl _) (.cells o.cells.toArray 34))
  have HG := Lib.hid (Blk.new w 34 o.cells.toArray).ob
  have HT := Lib.hid hT
  obtain ⟨c0, _, c2⟩ := HG.out.cells
  rw [hk] at c0
  clear hT
  go_enter Tryd.func33, Tryd.ntmps33
  go_wp2_with (first
    | (refine wpList_yields (S := fun w' => w'.rangeAt w.heap.size 3 (kcs o.s)) (y_ks (by rfl) (.tmp 27) (by rfl) w.heap.size 3 (by rfl) o.s o.hs (fun _ h => h)) (by simpa using HG.out.slots) ?_)
    | (go_at_call 44; refine (mayHold_any o.s o.hs n _ (HT.out.alloc _)).mono ?_; rintro e w1 ⟨rfl, b1⟩; have HB1 := Lib.hid (HB.out.trans (b1.mono HB.out.size)); clear b1))
  go_ret
  exact ⟨ret_b (Oj.hasB_eq (by unfold Oj.has mayB; simp [hk])), HB1.out⟩
set_option maxHeartbeats 1000000 in
theorem has_x (o : Oj) (n : Int) (w : World) (h0 : o.k ≠ 0) (h1 : o.k ≠ 1) (h2 : o.k ≠ 2) (h3 : o.k ≠ 3) :
    Calls Tryd.prog 33 #[o.val, .int .i64 n] w fun e w' => e = .returned (.bool (o.hasB n)) ∧ Below w.heap.size w w' := by
  have HB := Lib.hid ((Below.refl w.heap.size w).alloc (Nat.le_refl _) (.cells o.cells.toArray 34))
  have HG := Lib.hid (Blk.new w 34 o.cells.toArray).ob
  obtain ⟨c0, _, c2⟩ := HG.out.cells
  have d0 : (o.k == 0) = false := by simpa using h0
  have d1 : (o.k == 1) = false := by simpa using h1
  have d2 : (o.k == 2) = false := by simpa using h2
  have d3 : (o.k == 3) = false := by simpa using h3
  go_enter Tryd.func33, Tryd.ntmps33
  go_wp2_with (first
    | (refine wpList_yields (S := fun w' => w'.rangeAt w.heap.size 3 (kcs o.s)) (y_ks (by rfl) (.tmp 27) (by rfl) w.heap.size 3 (by rfl) o.s o.hs (fun _ h => h)) (by simpa using HG.out.slots) ?_))
  go_ret
  exact ⟨ret_b (Oj.hasB_eq (by unfold Oj.has; simp [h0, h1, h2, h3])), HB.out⟩
theorem kindHas_any (o : Oj) (n : Int) (w : World) (hT : Tab w) :
    Calls Tryd.prog 33 #[o.val, .int .i64 n] w fun e w' => e = .returned (.bool (o.hasB n)) ∧ Below w.heap.size w w' := by
  by_cases h1 : o.k = 1
  · exact has_1 o n w hT h1
  · by_cases h2 : o.k = 2
    · by_cases hl : o.l = 0
      · exact has_2s o n w h2 hl
      · exact has_2l o n w h2 hl
    · by_cases h0 : o.k = 0
      · by_cases hb : o.b = zbs
        · by_cases hl : o.l = 0
          · exact has_0s o n w h0 hb hl
          · exact has_0l o n w h0 hb hl
        · exact has_0b o n w h0 hb
      · by_cases h3 : o.k = 3
        · by_cases hb : o.b = zbs
          · by_cases hl : o.l = 0
            · exact has_3s o n w h3 hb hl
            · exact has_3l o n w h3 hb hl
          · exact has_3b o n w h3 hb
        · exact has_x o n w h0 h1 h2 h3
/-- may an object be in a store of n -/
def Oj.ok (n : Int) (o : Oj) : Prop := (1 ≤ n ∧ n ≤ 64) ∧ (0 ≤ o.c ∧ o.c ≤ 4294967295) ∧ (0 ≤ o.l ∧ o.l ≤ 4294967295) ∧ o.has n
noncomputable def Oj.chk (n : Int) (o : Oj) : Int := @ite Int (o.ok n) (Classical.propDecidable _) 0 2
theorem Oj.chk_yes {n : Int} {o : Oj} (h : o.ok n) : o.chk n = 0 := if_pos h
theorem Oj.chk_no {n : Int} {o : Oj} (h : ¬ o.ok n) : o.chk n = 2 := if_neg h
theorem ret_n {a b : Int} (h : a = b) : Ending.returned (.int .i64 a) = .returned (.int .i64 b) := by rw [h]
theorem Oj.hasB_yes {n : Int} {o : Oj} (h : o.has n) : o.hasB n = true := by unfold Oj.hasB; simpa using h
theorem Oj.hasB_no {n : Int} {o : Oj} (h : ¬ o.has n) : o.hasB n = false := by unfold Oj.hasB; simpa using h
set_option maxHeartbeats 1000000 in
theorem chk_m (o : Oj) (n : Int) (w : World) (hT : Tab w) (hm : ¬ (1 ≤ n ∧ n ≤ 64)) :
    Calls Tryd.prog 12 #[o.val, .int .i64 n] w fun e w' => e = .returned (.int .i64 2) ∧ Below w.heap.size w w' := by
  have HB := Lib.hid ((Below.refl w.heap.size w).alloc (Nat.le_refl _) (.cells o.cells.toArray 34))
  have HG := Lib.hid (Blk.new w 34 o.cells.toArray).ob
  have HT := Lib.hid hT
  obtain ⟨_, c1, c2⟩ := HG.out.cells
  have DM := Lib.hid (show decide (1 ≤ n ∧ n ≤ 64) = false from decide_eq_false hm)
  clear hm
  clear hT
  go_enter Tryd.func12, Tryd.ntmps12
  go_wp2_with (first
    | (go_at_call 31; refine (DM.out ▸ many_any n _).mono ?_; rintro e w1 ⟨rfl, rfl⟩))
  go_ret
  exact ⟨rfl, HB.out⟩
set_option maxHeartbeats 1000000 in
theorem chk_c (o : Oj) (n : Int) (w : World) (hT : Tab w) (hm : 1 ≤ n ∧ n ≤ 64) (hc : ¬ (0 ≤ o.c ∧ o.c ≤ 4294967295)) :
    Calls Tryd.prog 12 #[o.val, .int .i64 n] w fun e w' => e = .returned (.int .i64 2) ∧ Below w.heap.size w w' := by
  have HB := Lib.hid ((Below.refl w.heap.size w).alloc (Nat.le_refl _) (.cells o.cells.toArray 34))
  have HG := Lib.hid (Blk.new w 34 o.cells.toArray).ob
  have HT := Lib.hid hT
  obtain ⟨_, c1, c2⟩ := HG.out.cells
  have DM := Lib.hid (show decide (1 ≤ n ∧ n ≤ 64) = true by simpa using hm)
  have DC := Lib.hid (show decide (0 ≤ o.c ∧ o.c ≤ 4294967295) = false from decide_eq_false hc)
  clear hm hc
  clear hT
  go_enter Tryd.func12, Tryd.ntmps12
  go_wp2_with (first
    | (go_at_call 31; refine (DM.out ▸ many_any n _).mono ?_; rintro e w1 ⟨rfl, rfl⟩)
    | (go_at_call 32; (with_reducible refine (DC.out ▸ counted_any o.c _).mono ?_); rintro e w1 ⟨rfl, rfl⟩))
  go_ret
  exact ⟨rfl, HB.out⟩
set_option maxHeartbeats 1000000 in
theorem chk_l (o : Oj) (n : Int) (w : World) (hT : Tab w) (hm : 1 ≤ n ∧ n ≤ 64) (hc : 0 ≤ o.c ∧ o.c ≤ 4294967295) (hl : ¬ (0 ≤ o.l ∧ o.l ≤ 4294967295)) :
    Calls Tryd.prog 12 #[o.val, .int .i64 n] w fun e w' => e = .returned (.int .i64 2) ∧ Below w.heap.size w w' := by
  have HB := Lib.hid ((Below.refl w.heap.size w).alloc (Nat.le_refl _) (.cells o.cells.toArray 34))
  have HG := Lib.hid (Blk.new w 34 o.cells.toArray).ob
  have HT := Lib.hid hT
  obtain ⟨_, c1, c2⟩ := HG.out.cells
  have DM := Lib.hid (show decide (1 ≤ n ∧ n ≤ 64) = true by simpa using hm)
  have DC := Lib.hid (show decide (0 ≤ o.c ∧ o.c ≤ 4294967295) = true by simpa using hc)
  have DL := Lib.hid (show decide (0 ≤ o.l ∧ o.l ≤ 4294967295) = false from decide_eq_false hl)
  clear hm hc hl
  clear hT
  go_enter Tryd.func12, Tryd.ntmps12
  go_wp2_with (first
    | (go_at_call 31; refine (DM.out ▸ many_any n _).mono ?_; rintro e w1 ⟨rfl, rfl⟩)
    | (go_at_call 32; (with_reducible refine (DC.out ▸ counted_any o.c _).mono ?_); rintro e w1 ⟨rfl, rfl⟩)
    | (go_at_call 32; (with_reducible refine (DL.out ▸ counted_any o.l _).mono ?_); rintro e w1 ⟨rfl, rfl⟩))
  go_ret
  exact ⟨rfl, HB.out⟩
set_option maxHeartbeats 1000000 in
theorem chk_h (o : Oj) (n : Int) (w : World) (hT : Tab w) (hm : 1 ≤ n ∧ n ≤ 64) (hc : 0 ≤ o.c ∧ o.c ≤ 4294967295) (hl : 0 ≤ o.l ∧ o.l ≤ 4294967295) (hh : ¬ o.has n) :
    Calls Tryd.prog 12 #[o.val, .int .i64 n] w fun e w' => e = .returned (.int .i64 2) ∧ Below w.heap.size w w' := by
  have HB := Lib.hid ((Below.refl w.heap.size w).alloc (Nat.le_refl _) (.cells o.cells.toArray 34))
  have HG := Lib.hid (Blk.new w 34 o.cells.toArray).ob
  have HT := Lib.hid hT
  obtain ⟨_, c1, c2⟩ := HG.out.cells
  have DM := Lib.hid (show decide (1 ≤ n ∧ n ≤ 64) = true by simpa using hm)
  have DC := Lib.hid (show decide (0 ≤ o.c ∧ o.c ≤ 4294967295) = true by simpa using hc)
  have DL := Lib.hid (show decide (0 ≤ o.l ∧ o.l ≤ 4294967295) = true by simpa using hl)
  have DH := Lib.hid (Oj.hasB_no hh)
  clear hm hc hl hh
  clear hT
  go_enter Tryd.func12, Tryd.ntmps12
  go_wp2_with (first
    | (go_at_call 31; refine (DM.out ▸ many_any n _).mono ?_; rintro e w1 ⟨rfl, rfl⟩)
    | (go_at_call 32; (with_reducible refine (DC.out ▸ counted_any o.c _).mono ?_); rintro e w1 ⟨rfl, rfl⟩)
    | (go_at_call 32; (with_reducible refine (DL.out ▸ counted_any o.l _).mono ?_); rintro e w1 ⟨rfl, rfl⟩)
    | (refine wpList_yields (S := fun w' => ObAt w' w.heap.size 0 o) (y_ob (by rfl) (.tmp 2) (by rfl) w.heap.size 0 (by rfl) o (fun _ h => h)) HG.out ?_)
    | (go_at_call 33; refine (DH.out ▸ kindHas_any o n _ (HT.out.alloc _)).mono ?_; rintro e w1 ⟨rfl, b1⟩; have HB1 := Lib.hid (HB.out.trans (b1.mono HB.out.size)); clear b1))
  go_ret
  exact ⟨rfl, HB1.out⟩
set_option maxHeartbeats 1000000 in
theorem chk_y (o : Oj) (n : Int) (w : World) (hT : Tab w) (hm : 1 ≤ n ∧ n ≤ 64) (hc : 0 ≤ o.c ∧ o.c ≤ 4294967295) (hl : 0 ≤ o.l ∧ o.l ≤ 4294967295) (hh : o.has n) :
    Calls Tryd.prog 12 #[o.val, .int .i64 n] w fun e w' => e = .returned (.int .i64 0) ∧ Below w.heap.size w w' := by
  have HB := Lib.hid ((Below.refl w.heap.size w).alloc (Nat.le_refl _) (.cells o.cells.toArray 34))
  have HG := Lib.hid (Blk.new w 34 o.cells.toArray).ob
  have HT := Lib.hid hT
  obtain ⟨_, c1, c2⟩ := HG.out.cells
  have DM := Lib.hid (show decide (1 ≤ n ∧ n ≤ 64) = true by simpa using hm)
  have DC := Lib.hid (show decide (0 ≤ o.c ∧ o.c ≤ 4294967295) = true by simpa using hc)
  have DL := Lib.hid (show decide (0 ≤ o.l ∧ o.l ≤ 4294967295) = true by simpa using hl)
  have DH := Lib.hid (Oj.hasB_yes hh)
  clear hm hc hl hh
  clear hT
  go_enter Tryd.func12, Tryd.ntmps12
  go_wp2_with (first
    | (go_at_call 31; refine (DM.out ▸ many_any n _).mono ?_; rintro e w1 ⟨rfl, rfl⟩)
    | (go_at_call 32; (with_reducible refine (DC.out ▸ counted_any o.c _).mono ?_); rintro e w1 ⟨rfl, rfl⟩)
    | (go_at_call 32; (with_reducible refine (DL.out ▸ counted_any o.l _).mono ?_); rintro e w1 ⟨rfl, rfl⟩)
    | (refine wpList_yields (S := fun w' => ObAt w' w.heap.size 0 o) (y_ob (by rfl) (.tmp 2) (by rfl) w.heap.size 0 (by rfl) o (fun _ h => h)) HG.out ?_)
    | (go_at_call 33; refine (DH.out ▸ kindHas_any o n _ (HT.out.alloc _)).mono ?_; rintro e w1 ⟨rfl, b1⟩; have HB1 := Lib.hid (HB.out.trans (b1.mono HB.out.size)); clear b1))
  go_ret
  exact ⟨rfl, HB1.out⟩
theorem check_any (o : Oj) (n : Int) (w : World) (hT : Tab w) :
    Calls Tryd.prog 12 #[o.val, .int .i64 n] w fun e w' => e = .returned (.int .i64 (o.chk n)) ∧ Below w.heap.size w w' := by
  by_cases hm : 1 ≤ n ∧ n ≤ 64
  · by_cases hc : 0 ≤ o.c ∧ o.c ≤ 4294967295
    · by_cases hl : 0 ≤ o.l ∧ o.l ≤ 4294967295
      · by_cases hh : o.has n
        · rw [Oj.chk_yes ⟨hm, hc, hl, hh⟩]; exact chk_y o n w hT hm hc hl hh
        · rw [Oj.chk_no fun h => hh h.2.2.2]; exact chk_h o n w hT hm hc hl hh
      · rw [Oj.chk_no fun h => hl h.2.2.1]; exact chk_l o n w hT hm hc hl
    · rw [Oj.chk_no fun h => hc h.2.1]; exact chk_c o n w hT hm hc
  · rw [Oj.chk_no fun h => hm h.1]; exact chk_m o n w hT hm
end Go.Proofs.YtlhlgfehbfankaaDoor

/- objects: many, counted, mayHold. -/
import Derived.Test.YtjolojomgfcfbaaDoorR07
import Derived.Test.YtjolojomgfcfbaaDoorR01
import Derived.Deep.RegionWith
import Derived.Deep.AppendLies
namespace Go.Proofs.YtjolojomgfcfbaaDoor
open Go.RowKit
set_option maxRecDepth 8000 in
theorem many_any (n : Int) (w : World) : Calls Tryd.prog 17 #[.int .i64 n] w fun e w' => e = .returned (.bool (decide (1 ≤ n ∧ n ≤ 64))) ∧ w = w' := by
  by_cases h0 : 1 ≤ n
  · have d0 : decide (1 ≤ n) = true := by simpa using h0
    by_cases h1 : n ≤ 64
    · rw [show decide (1 ≤ n ∧ n ≤ 64) = true by simp; omega]
      go_enter Tryd.func17, Tryd.ntmps17
      go_wp2
      go_ret
      exact ⟨rfl, rfl⟩
    · rw [show decide (1 ≤ n ∧ n ≤ 64) = false by simp; omega]
      have d1 : decide (n ≤ 64) = false := by simpa using h1
      go_enter Tryd.func17, Tryd.ntmps17
      go_wp2
      go_ret
      exact ⟨rfl, rfl⟩
  · rw [show decide (1 ≤ n ∧ n ≤ 64) = false by simp; omega]
    have d0 : decide (1 ≤ n) = false := by simpa using h0
    go_enter Tryd.func17, Tryd.ntmps17
    go_wp2
    go_ret
    exact ⟨rfl, rfl⟩
set_option maxRecDepth 8000 in
theorem counted_any (n : Int) (w : World) : Calls Tryd.prog 30 #[.int .i64 n] w fun e w' => e = .returned (.bool (decide (0 ≤ n ∧ n ≤ 4294967295))) ∧ w = w' := by
  by_cases h0 : 0 ≤ n
  · have d0 : decide (0 ≤ n) = true := by simpa using h0
    by_cases h1 : n ≤ 4294967295
    · rw [show decide (0 ≤ n ∧ n ≤ 4294967295) = true by simp; omega]
      go_enter Tryd.func30, Tryd.ntmps30
      go_wp2
      go_ret
      exact ⟨rfl, rfl⟩
    · rw [show decide (0 ≤ n ∧ n ≤ 4294967295) = false by simp; omega]
      have d1 : decide (n ≤ 4294967295) = false := by simpa using h1
      go_enter Tryd.func30, Tryd.ntmps30
      go_wp2
      go_ret
      exact ⟨rfl, rfl⟩
  · rw [show decide (0 ≤ n ∧ n ≤ 4294967295) = false by simp; omega]
    have d0 : decide (0 ≤ n) = false := by simpa using h0
    go_enter Tryd.func30, Tryd.ntmps30
    go_wp2
    go_ret
    exact ⟨rfl, rfl⟩
/-- may a node have this key, in a store of n -/
def Ky.may (n : Int) (x : Ky) : Prop := x.ok ∧ (x.of → x.o < n)
def mayS (n : Int) (s : List Ky) : Prop := ∀ x ∈ s, x.may n
noncomputable def mayB (n : Int) (s : List Ky) : Bool := @decide (mayS n s) (Classical.propDecidable _)
set_option maxRecDepth 8000 in
theorem mayB_yes {n : Int} {s : List Ky} (h : mayS n s) : mayB n s = true := by unfold mayB; simpa using h
set_option maxRecDepth 8000 in
theorem mayB_no {n : Int} {s : List Ky} {x : Ky} (hx : x ∈ s) (h : ¬ x.may n) : mayB n s = false := by
  unfold mayB
  simp only [decide_eq_false_iff_not]
  exact fun hh => h (hh x hx)
set_option maxRecDepth 8000 in
theorem mayS_snoc {n : Int} {s : List Ky} {k : Nat} (hk : k < s.length) (h : mayS n (s.take k)) (hx : s[k].may n) : mayS n (s.take (k + 1)) := by
  rw [List.take_succ_eq_append_getElem hk]
  intro y hy
  rcases List.mem_append.1 hy with h' | h'
  · exact h y h'
  · obtain rfl : y = s[k] := by simpa using h'
    exact hx
set_option maxRecDepth 8000 in
set_option maxHeartbeats 1000000 in
theorem mayHold_any (s : List Ky) (hs : s.length = 16) (n : Int) (w : World) (hT : Tab w) :
    Calls Tryd.prog 42 #[.agg (kcs s).toArray, .int .i64 n] w fun e w' => e = .returned (.bool (mayB n s)) ∧ Below w.heap.size w w' := by
  have HT := Lib.hid (hT.alloc (.cells (kcs s).toArray 30))
  have HB := Lib.hid (((Below.refl w.heap.size w).alloc (Nat.le_refl _) (.cells (kcs s).toArray 30)))
  have HG := Lib.hid (Blk.new w 30 (kcs s).toArray)
  have HS := Lib.hid hs
  clear hT
  go_enter Tryd.func42, Tryd.ntmps42
  go_wp2_with (refine wpList_yields (S := fun w' => w'.rangeAt w.heap.size 0 (kcs s)) (y_ks (by rfl) (.tmp 2) (by rfl) w.heap.size 0 (by rfl) s HS.out (fun _ h => h)) HG.out.kx ?_)
  generalize w.alloc (.cells (kcs s).toArray 30) = w0 at HT HB HG ⊢
  go_loopw [6, 7, 8, 10] (fun _ _ _ i wr => ∃ k : Nat, k ≤ 16 ∧ i = .int .i64 k ∧ Below w.heap.size w wr ∧ Tab wr ∧ mayS n (s.take k)) (fun _ _ _ i _ => 17 - (intOf i).toNat)
  case atStart => exact ⟨0, by omega, rfl, HB.out, HT.out, fun x hx => by simp at hx⟩
  case round =>
    obtain ⟨k, hk, rfl, hb, ht, hm⟩ := hrel
    clear HT HB HG
    have HB0 := Lib.hid hb
    have HT0 := Lib.hid ht
    have HM := Lib.hid hm
    clear hb ht hm
    by_cases hlt : k < 16
    · have hks : k < s.length := by omega
      have HKS := Lib.hid hks
      obtain ⟨x, hx⟩ : ∃ x, x = s[k] := ⟨_, rfl⟩
      have HX := Lib.hid hx
      clear hs hx
      by_cases hof : x.of
      · have HOF := Lib.hid hof
        clear hof
        by_cases hq : x.o < n
        · have dq : decide (n ≤ x.o) = false := by simpa using hq
          have HQ := Lib.hid hq
          clear hq
          go_wp2_with (first
        | (refine wpList_yields (S := fun _ => True) (HX.out ▸ y_index (by rfl) (.tmp 9) (.tmp 10) (by rfl) s HS.out k HKS.out (by rfl) (by rfl)) trivial ?_)
        | (go_at_call 34; refine (kname_yes x _ (HT0.out.alloc _) HOF.out).mono ?_; rintro e w1 ⟨rfl, b1⟩; obtain ⟨B1, b2⟩ := box1 b1; have HT1 := Lib.hid (HT0.out.below b2); have HB1 := Lib.hid (HB0.out.trans (b2.mono HB0.out.size)); have G1 := Lib.hid B1; obtain ⟨c0, c1, c2, c3, c4, c5⟩ := B1.six; clear b1 b2 B1)
        | (go_at_call 36; refine (kchk_yes x _ HT1.out HOF.out.1).mono ?_; rintro e w2 ⟨rfl, b2⟩; have HT2 := Lib.hid (HT1.out.below b2); have HB2 := Lib.hid (HB1.out.trans (b2.mono HB1.out.size)); clear b2 c0 c1 c2 c3 c4 c5))
          go_roundw
          case rel => exact ⟨k + 1, by omega, by go_num, HB2.out, HT2.out, mayS_snoc HKS.out HM.out (HX.out ▸ ⟨HOF.out.1, fun _ => HQ.out⟩)⟩
          case measure => simp [intOf]; omega
        · have dq : decide (n ≤ x.o) = true := by simpa using hq
          have HQ := Lib.hid hq
          clear hq
          go_wp2_with (first
        | (refine wpList_yields (S := fun _ => True) (HX.out ▸ y_index (by rfl) (.tmp 9) (.tmp 10) (by rfl) s HS.out k HKS.out (by rfl) (by rfl)) trivial ?_)
        | (go_at_call 34; refine (kname_yes x _ (HT0.out.alloc _) HOF.out).mono ?_; rintro e w1 ⟨rfl, b1⟩; obtain ⟨B1, b2⟩ := box1 b1; have HT1 := Lib.hid (HT0.out.below b2); have HB1 := Lib.hid (HB0.out.trans (b2.mono HB0.out.size)); have G1 := Lib.hid B1; obtain ⟨c0, c1, c2, c3, c4, c5⟩ := B1.six; clear b1 b2 B1)
        | (go_at_call 36; refine (kchk_yes x _ HT1.out HOF.out.1).mono ?_; rintro e w2 ⟨rfl, b2⟩; have HT2 := Lib.hid (HT1.out.below b2); have HB2 := Lib.hid (HB1.out.trans (b2.mono HB1.out.size)); clear b2 c0 c1 c2 c3 c4 c5))
          go_ret
          exact ⟨by rw [mayB_no (List.getElem_mem HKS.out) (HX.out ▸ fun h => by have h1 := HQ.out; have h2 := h.2 HOF.out; omega)]; rfl, HB2.out⟩
      · have HOF := Lib.hid hof
        clear hof
        by_cases hok : x.ok
        · have HOK := Lib.hid hok
          clear hok
          go_wp2_with (first
        | (refine wpList_yields (S := fun _ => True) (HX.out ▸ y_index (by rfl) (.tmp 9) (.tmp 10) (by rfl) s HS.out k HKS.out (by rfl) (by rfl)) trivial ?_)
        | (go_at_call 34; refine (kname_no x _ (HT0.out.alloc _) HOF.out).mono ?_; rintro e w1 ⟨rfl, b1⟩; obtain ⟨B1, b2⟩ := box1 b1; have HT1 := Lib.hid (HT0.out.below b2); have HB1 := Lib.hid (HB0.out.trans (b2.mono HB0.out.size)); have G1 := Lib.hid B1; obtain ⟨c0, c1, c2, c3, c4, c5⟩ := B1.six; clear b1 b2 B1)
        | (go_at_call 36; refine (kchk_yes x _ HT1.out HOK.out).mono ?_; rintro e w2 ⟨rfl, b2⟩; have HT2 := Lib.hid (HT1.out.below b2); have HB2 := Lib.hid (HB1.out.trans (b2.mono HB1.out.size)); clear b2 c0 c1 c2 c3 c4 c5))
          go_roundw
          case rel => exact ⟨k + 1, by omega, by go_num, HB2.out, HT2.out, mayS_snoc HKS.out HM.out (HX.out ▸ ⟨HOK.out, fun h => absurd h HOF.out⟩)⟩
          case measure => simp [intOf]; omega
        · have HOK := Lib.hid hok
          clear hok
          go_wp2_with (first
        | (refine wpList_yields (S := fun _ => True) (HX.out ▸ y_index (by rfl) (.tmp 9) (.tmp 10) (by rfl) s HS.out k HKS.out (by rfl) (by rfl)) trivial ?_)
        | (go_at_call 34; refine (kname_no x _ (HT0.out.alloc _) HOF.out).mono ?_; rintro e w1 ⟨rfl, b1⟩; obtain ⟨B1, b2⟩ := box1 b1; have HT1 := Lib.hid (HT0.out.below b2); have HB1 := Lib.hid (HB0.out.trans (b2.mono HB0.out.size)); have G1 := Lib.hid B1; obtain ⟨c0, c1, c2, c3, c4, c5⟩ := B1.six; clear b1 b2 B1)
        | (go_at_call 36; refine (kchk_no x _ HT1.out HOK.out).mono ?_; rintro e w2 ⟨rfl, b2⟩; have HT2 := Lib.hid (HT1.out.below b2); have HB2 := Lib.hid (HB1.out.trans (b2.mono HB1.out.size)); clear b2 c0 c1 c2 c3 c4 c5))
          go_ret
          exact ⟨by rw [mayB_no (List.getElem_mem HKS.out) (HX.out ▸ fun h => HOK.out h.1)]; rfl, HB2.out⟩
    · obtain rfl : k = 16 := by omega
      go_wp2
      go_ret
      exact ⟨by rw [mayB_yes (by have h := HM.out; rwa [List.take_of_length_le (by have := HS.out; omega)] at h)]; rfl, HB0.out⟩
end Go.Proofs.YtjolojomgfcfbaaDoor
namespace Go.Proofs.YtjolojomgfcfbaaDoor
open Go.RowKit
/-- has it nothing that its kind has not, in a store of n -/
def Oj.has (n : Int) (o : Oj) : Prop := (o.k = 1 ∧ mayS n o.s) ∨ (o.k = 2 ∧ o.l = 0 ∧ o.s = zks) ∨ ((o.k = 0 ∨ o.k = 3) ∧ o.b = zbs ∧ o.l = 0 ∧ o.s = zks)
noncomputable def Oj.hasB (n : Int) (o : Oj) : Bool := @decide (o.has n) (Classical.propDecidable _)
set_option maxRecDepth 8000 in
theorem Oj.hasB_eq {n : Int} {o : Oj} {b : Bool} (h : o.has n ↔ b = true) : b = o.hasB n := by
  unfold Oj.hasB
  rw [Bool.eq_iff_iff]
  simp [h]
set_option maxRecDepth 8000 in
theorem ret_b {a b : Bool} (h : a = b) : Ending.returned (.bool a) = .returned (.bool b) := by rw [h]
set_option maxRecDepth 8000 in
set_option maxHeartbeats 1000000 in
theorem has_0b (o : Oj) (n : Int) (w : World) (hk : o.k = 0) (hb : o.b ≠ zbs) :
    Calls Tryd.prog 31 #[o.val, .int .i64 n] w fun e w' => e = .returned (.bool (o.hasB n)) ∧ Below w.heap.size w w' := by
  have HB := Lib.hid ((Below.refl w.heap.size w).alloc (Nat.le_refl _) (.cells o.cells.toArray 33))
  have HG := Lib.hid (Blk.new w 33 o.cells.toArray).ob
  have DV := Lib.hid (show (!decide (o.b = zbs)) = true by simpa using hb)
  obtain ⟨c0, _, c2⟩ := HG.out.cells
  rw [hk] at c0
  go_enter Tryd.func31, Tryd.ntmps31
  go_wp2_with (first
    | (refine wpList_yields (S := fun w' => w'.rangeAt w.heap.size 99 (bv o.b)) (y_bs (by rfl) (.tmp 14) (by rfl) w.heap.size 99 (by rfl) o.b o.hb (fun _ h => h)) (by simpa using HG.out.bytes) ?_)
    | (refine wpList_yields (S := fun _ => True) (y_build (by rfl) (by rfl) built32) trivial ?_)
    | (refine wpList_yields (S := fun _ => True) (DV.out ▸ y_bsne (by rfl) (by rfl) o.b zbs o.hb rfl (by rfl) (by rfl)) trivial ?_))
  go_ret
  exact ⟨ret_b (Oj.hasB_eq (by unfold Oj.has; simp [hk, hb])), HB.out⟩
set_option maxRecDepth 8000 in
set_option maxHeartbeats 1000000 in
theorem has_0l (o : Oj) (n : Int) (w : World) (hk : o.k = 0) (hb : o.b = zbs) (hl : o.l ≠ 0) :
    Calls Tryd.prog 31 #[o.val, .int .i64 n] w fun e w' => e = .returned (.bool (o.hasB n)) ∧ Below w.heap.size w w' := by
  have HB := Lib.hid ((Below.refl w.heap.size w).alloc (Nat.le_refl _) (.cells o.cells.toArray 33))
  have HG := Lib.hid (Blk.new w 33 o.cells.toArray).ob
  have DV := Lib.hid (show (!decide (o.b = zbs)) = false by simpa using hb)
  obtain ⟨c0, _, c2⟩ := HG.out.cells
  rw [hk] at c0
  have dl : (o.l == 0) = false := by simpa using hl
  go_enter Tryd.func31, Tryd.ntmps31
  go_wp2_with (first
    | (refine wpList_yields (S := fun w' => w'.rangeAt w.heap.size 99 (bv o.b)) (y_bs (by rfl) (.tmp 14) (by rfl) w.heap.size 99 (by rfl) o.b o.hb (fun _ h => h)) (by simpa using HG.out.bytes) ?_)
    | (refine wpList_yields (S := fun _ => True) (y_build (by rfl) (by rfl) built32) trivial ?_)
    | (refine wpList_yields (S := fun _ => True) (DV.out ▸ y_bsne (by rfl) (by rfl) o.b zbs o.hb rfl (by rfl) (by rfl)) trivial ?_))
  go_ret
  exact ⟨ret_b (Oj.hasB_eq (by unfold Oj.has; simp [hk, hl])), HB.out⟩
set_option maxRecDepth 8000 in
set_option maxHeartbeats 1000000 in
theorem has_0s (o : Oj) (n : Int) (w : World) (hk : o.k = 0) (hb : o.b = zbs) (hl : o.l = 0) :
    Calls Tryd.prog 31 #[o.val, .int .i64 n] w fun e w' => e = .returned (.bool (o.hasB n)) ∧ Below w.heap.size w w' := by
  have HB := Lib.hid ((Below.refl w.heap.size w).alloc (Nat.le_refl _) (.cells o.cells.toArray 33))
  have HG := Lib.hid (Blk.new w 33 o.cells.toArray).ob
  have DV := Lib.hid (show (!decide (o.b = zbs)) = false by simpa using hb)
  obtain ⟨c0, _, c2⟩ := HG.out.cells
  rw [hk] at c0
  rw [hl] at c2
  go_enter Tryd.func31, Tryd.ntmps31
  go_wp2_with (first
    | (refine wpList_yields (S := fun w' => w'.rangeAt w.heap.size 99 (bv o.b)) (y_bs (by rfl) (.tmp 14) (by rfl) w.heap.size 99 (by rfl) o.b o.hb (fun _ h => h)) (by simpa using HG.out.bytes) ?_)
    | (refine wpList_yields (S := fun _ => True) (y_build (by rfl) (by rfl) built32) trivial ?_)
    | (refine wpList_yields (S := fun _ => True) (DV.out ▸ y_bsne (by rfl) (by rfl) o.b zbs o.hb rfl (by rfl) (by rfl)) trivial ?_)
    | (refine wpList_yields (S := fun w' => w'.rangeAt w.heap.size 3 (kcs o.s)) (y_ks (by rfl) (.tmp 22) (by rfl) w.heap.size 3 (by rfl) o.s o.hs (fun _ h => h)) (by simpa using HG.out.slots) ?_)
    | (refine wpList_yields (S := fun _ => True) (y_build (by rfl) (by rfl) built31) trivial ?_)
    | (refine wpList_yields (S := fun _ => True) (y_kseq (by rfl) (by rfl) o.s zks o.hs rfl (by rfl) (by rfl)) trivial ?_))
  go_ret
  exact ⟨ret_b (Oj.hasB_eq (by unfold Oj.has; simp [hk, hl, hb])), HB.out⟩
set_option maxRecDepth 8000 in
set_option maxHeartbeats 1000000 in
theorem has_3b (o : Oj) (n : Int) (w : World) (hk : o.k = 3) (hb : o.b ≠ zbs) :
    Calls Tryd.prog 31 #[o.val, .int .i64 n] w fun e w' => e = .returned (.bool (o.hasB n)) ∧ Below w.heap.size w w' := by
  have HB := Lib.hid ((Below.refl w.heap.size w).alloc (Nat.le_refl _) (.cells o.cells.toArray 33))
  have HG := Lib.hid (Blk.new w 33 o.cells.toArray).ob
  have DV := Lib.hid (show (!decide (o.b = zbs)) = true by simpa using hb)
  obtain ⟨c0, _, c2⟩ := HG.out.cells
  rw [hk] at c0
  go_enter Tryd.func31, Tryd.ntmps31
  go_wp2_with (first
    | (refine wpList_yields (S := fun w' => w'.rangeAt w.heap.size 99 (bv o.b)) (y_bs (by rfl) (.tmp 14) (by rfl) w.heap.size 99 (by rfl) o.b o.hb (fun _ h => h)) (by simpa using HG.out.bytes) ?_)
    | (refine wpList_yields (S := fun _ => True) (y_build (by rfl) (by rfl) built32) trivial ?_)
    | (refine wpList_yields (S := fun _ => True) (DV.out ▸ y_bsne (by rfl) (by rfl) o.b zbs o.hb rfl (by rfl) (by rfl)) trivial ?_))
  go_ret
  exact ⟨ret_b (Oj.hasB_eq (by unfold Oj.has; simp [hk, hb])), HB.out⟩
set_option maxRecDepth 8000 in
set_option maxHeartbeats 1000000 in
theorem has_3l (o : Oj) (n : Int) (w : World) (hk : o.k = 3) (hb : o.b = zbs) (hl : o.l ≠ 0) :
    Calls Tryd.prog 31 #[o.val, .int .i64 n] w fun e w' => e = .returned (.bool (o.hasB n)) ∧ Below w.heap.size w w' := by
  have HB := Lib.hid ((Below.refl w.heap.size w).alloc (Nat.le_refl _) (.cells o.cells.toArray 33))
  have HG := Lib.hid (Blk.new w 33 o.cells.toArray).ob
  have DV := Lib.hid (show (!decide (o.b = zbs)) = false by simpa using hb)
  obtain ⟨c0, _, c2⟩ := HG.out.cells
  rw [hk] at c0
  have dl : (o.l == 0) = false := by simpa using hl
  go_enter Tryd.func31, Tryd.ntmps31
  go_wp2_with (first
    | (refine wpList_yields (S := fun w' => w'.rangeAt w.heap.size 99 (bv o.b)) (y_bs (by rfl) (.tmp 14) (by rfl) w.heap.size 99 (by rfl) o.b o.hb (fun _ h => h)) (by simpa using HG.out.bytes) ?_)
    | (refine wpList_yields (S := fun _ => True) (y_build (by rfl) (by rfl) built32) trivial ?_)
    | (refine wpList_yields (S := fun _ => True) (DV.out ▸ y_bsne (by rfl) (by rfl) o.b zbs o.hb rfl (by rfl) (by rfl)) trivial ?_))
  go_ret
  exact ⟨ret_b (Oj.hasB_eq (by unfold Oj.has; simp [hk, hl])), HB.out⟩
set_option maxRecDepth 8000 in
set_option maxHeartbeats 1000000 in
theorem has_3s (o : Oj) (n : Int) (w : World) (hk : o.k = 3) (hb : o.b = zbs) (hl : o.l = 0) :
    Calls Tryd.prog 31 #[o.val, .int .i64 n] w fun e w' => e = .returned (.bool (o.hasB n)) ∧ Below w.heap.size w w' := by
  have HB := Lib.hid ((Below.refl w.heap.size w).alloc (Nat.le_refl _) (.cells o.cells.toArray 33))
  have HG := Lib.hid (Blk.new w 33 o.cells.toArray).ob
  have DV := Lib.hid (show (!decide (o.b = zbs)) = false by simpa using hb)
  obtain ⟨c0, _, c2⟩ := HG.out.cells
  rw [hk] at c0
  rw [hl] at c2
  go_enter Tryd.func31, Tryd.ntmps31
  go_wp2_with (first
    | (refine wpList_yields (S := fun w' => w'.rangeAt w.heap.size 99 (bv o.b)) (y_bs (by rfl) (.tmp 14) (by rfl) w.heap.size 99 (by rfl) o.b o.hb (fun _ h => h)) (by simpa using HG.out.bytes) ?_)
    | (refine wpList_yields (S := fun _ => True) (y_build (by rfl) (by rfl) built32) trivial ?_)
    | (refine wpList_yields (S := fun _ => True) (DV.out ▸ y_bsne (by rfl) (by rfl) o.b zbs o.hb rfl (by rfl) (by rfl)) trivial ?_)
    | (refine wpList_yields (S := fun w' => w'.rangeAt w.heap.size 3 (kcs o.s)) (y_ks (by rfl) (.tmp 22) (by rfl) w.heap.size 3 (by rfl) o.s o.hs (fun _ h => h)) (by simpa using HG.out.slots) ?_)
    | (refine wpList_yields (S := fun _ => True) (y_build (by rfl) (by rfl) built31) trivial ?_)
    | (refine wpList_yields (S := fun _ => True) (y_kseq (by rfl) (by rfl) o.s zks o.hs rfl (by rfl) (by rfl)) trivial ?_))
  go_ret
  exact ⟨ret_b (Oj.hasB_eq (by unfold Oj.has; simp [hk, hl, hb])), HB.out⟩
set_option maxRecDepth 8000 in
set_option maxHeartbeats 1000000 in
theorem has_2l (o : Oj) (n : Int) (w : World) (hk : o.k = 2) (hl : o.l ≠ 0) :
    Calls Tryd.prog 31 #[o.val, .int .i64 n] w fun e w' => e = .returned (.bool (o.hasB n)) ∧ Below w.heap.size w w' := by
  have HB := Lib.hid ((Below.refl w.heap.size w).alloc (Nat.le_refl _) (.cells o.cells.toArray 33))
  have HG := Lib.hid (Blk.new w 33 o.cells.toArray).ob
  obtain ⟨c0, _, c2⟩ := HG.out.cells
  rw [hk] at c0
  have dl : (o.l == 0) = false := by simpa using hl
  go_enter Tryd.func31, Tryd.ntmps31
  go_wp2_with (first
    | (refine wpList_yields (S := fun w' => w'.rangeAt w.heap.size 3 (kcs o.s)) (y_ks (by rfl) (.tmp 22) (by rfl) w.heap.size 3 (by rfl) o.s o.hs (fun _ h => h)) (by simpa using HG.out.slots) ?_))
  go_ret
  exact ⟨ret_b (Oj.hasB_eq (by unfold Oj.has; simp [hk, hl])), HB.out⟩
set_option maxRecDepth 8000 in
set_option maxHeartbeats 1000000 in
theorem has_2s (o : Oj) (n : Int) (w : World) (hk : o.k = 2) (hl : o.l = 0) :
    Calls Tryd.prog 31 #[o.val, .int .i64 n] w fun e w' => e = .returned (.bool (o.hasB n)) ∧ Below w.heap.size w w' := by
  have HB := Lib.hid ((Below.refl w.heap.size w).alloc (Nat.le_refl _) (.cells o.cells.toArray 33))
  have HG := Lib.hid (Blk.new w 33 o.cells.toArray).ob
  obtain ⟨c0, _, c2⟩ := HG.out.cells
  rw [hk] at c0
  rw [hl] at c2
  go_enter Tryd.func31, Tryd.ntmps31
  go_wp2_with (first
    | (refine wpList_yields (S := fun w' => w'.rangeAt w.heap.size 3 (kcs o.s)) (y_ks (by rfl) (.tmp 22) (by rfl) w.heap.size 3 (by rfl) o.s o.hs (fun _ h => h)) (by simpa using HG.out.slots) ?_)
    | (refine wpList_yields (S := fun _ => True) (y_build (by rfl) (by rfl) built31) trivial ?_)
    | (refine wpList_yields (S := fun _ => True) (y_kseq (by rfl) (by rfl) o.s zks o.hs rfl (by rfl) (by rfl)) trivial ?_))
  go_ret
  exact ⟨ret_b (Oj.hasB_eq (by unfold Oj.has; simp [hk, hl])), HB.out⟩
set_option maxRecDepth 8000 in
set_option maxHeartbeats 1000000 in
theorem has_1 (o : Oj) (n : Int) (w : World) (hT : Tab w) (hk : o.k = 1) :
    Calls Tryd.prog 31 #[o.val, .int .i64 n] w fun e w' => e = .returned (.bool (o.hasB n)) ∧ Below w.heap.size w w' := by
  have HB := Lib.hid ((Below.refl w.heap.size w).alloc (Nat.le_refl _) (.cells o.cells.toArray 33))
  have HG := Lib.hid (Blk.new w 33 o.cells.toArray).ob
  have HT := Lib.hid hT
  obtain ⟨c0, _, c2⟩ := HG.out.cells
  rw [hk] at c0
  clear hT
  go_enter Tryd.func31, Tryd.ntmps31
  go_wp2_with (first
    | (refine wpList_yields (S := fun w' => w'.rangeAt w.heap.size 3 (kcs o.s)) (y_ks (by rfl) (.tmp 27) (by rfl) w.heap.size 3 (by rfl) o.s o.hs (fun _ h => h)) (by simpa using HG.out.slots) ?_)
    | (go_at_call 42; refine (mayHold_any o.s o.hs n _ (HT.out.alloc _)).mono ?_; rintro e w1 ⟨rfl, b1⟩; have HB1 := Lib.hid (HB.out.trans (b1.mono HB.out.size)); clear b1))
  go_ret
  exact ⟨ret_b (Oj.hasB_eq (by unfold Oj.has mayB; simp [hk])), HB1.out⟩
set_option maxRecDepth 8000 in
set_option maxHeartbeats 1000000 in
theorem has_x (o : Oj) (n : Int) (w : World) (h0 : o.k ≠ 0) (h1 : o.k ≠ 1) (h2 : o.k ≠ 2) (h3 : o.k ≠ 3) :
    Calls Tryd.prog 31 #[o.val, .int .i64 n] w fun e w' => e = .returned (.bool (o.hasB n)) ∧ Below w.heap.size w w' := by
  have HB := Lib.hid ((Below.refl w.heap.size w).alloc (Nat.le_refl _) (.cells o.cells.toArray 33))
  have HG := Lib.hid (Blk.new w 33 o.cells.toArray).ob
  obtain ⟨c0, _, c2⟩ := HG.out.cells
  have d0 : (o.k == 0) = false := by simpa using h0
  have d1 : (o.k == 1) = false := by simpa using h1
  have d2 : (o.k == 2) = false := by simpa using h2
  have d3 : (o.k == 3) = false := by simpa using h3
  go_enter Tryd.func31, Tryd.ntmps31
  go_wp2_with (first
    | (refine wpList_yields (S := fun w' => w'.rangeAt w.heap.size 3 (kcs o.s)) (y_ks (by rfl) (.tmp 27) (by rfl) w.heap.size 3 (by rfl) o.s o.hs (fun _ h => h)) (by simpa using HG.out.slots) ?_))
  go_ret
  exact ⟨ret_b (Oj.hasB_eq (by unfold Oj.has; simp [h0, h1, h2, h3])), HB.out⟩
set_option maxRecDepth 8000 in
theorem kindHas_any (o : Oj) (n : Int) (w : World) (hT : Tab w) :
    Calls Tryd.prog 31 #[o.val, .int .i64 n] w fun e w' => e = .returned (.bool (o.hasB n)) ∧ Below w.heap.size w w' := by
  by_cases h1 : o.k = 1
  · exact has_1 o n w hT h1
  · by_cases h2 : o.k = 2
    · by_cases hl : o.l = 0
      · exact has_2s o n w h2 hl
      · exact has_2l o n w h2 hl
    · by_cases h0 : o.k = 0
      · by_cases hb : o.b = zbs
        · by_cases hl : o.l = 0
          · exact has_0s o n w h0 hb hl
          · exact has_0l o n w h0 hb hl
        · exact has_0b o n w h0 hb
      · by_cases h3 : o.k = 3
        · by_cases hb : o.b = zbs
          · by_cases hl : o.l = 0
            · exact has_3s o n w h3 hb hl
            · exact has_3l o n w h3 hb hl
          · exact has_3b o n w h3 hb
        · exact has_x o n w h0 h1 h2 h3
/-- may an object be in a store of n -/
def Oj.ok (n : Int) (o : Oj) : Prop := (1 ≤ n ∧ n ≤ 64) ∧ (0 ≤ o.c ∧ o.c ≤ 4294967295) ∧ (0 ≤ o.l ∧ o.l ≤ 4294967295) ∧ o.has n
noncomputable def Oj.chk (n : Int) (o : Oj) : Int := @ite Int (o.ok n) (Classical.propDecidable _) 0 2
theorem Oj.chk_yes {n : Int} {o : Oj} (h : o.ok n) : o.chk n = 0 := if_pos h
theorem Oj.chk_no {n : Int} {o : Oj} (h : ¬ o.ok n) : o.chk n = 2 := if_neg h
set_option maxRecDepth 8000 in
theorem ret_n {a b : Int} (h : a = b) : Ending.returned (.int .i64 a) = .returned (.int .i64 b) := by rw [h]
set_option maxRecDepth 8000 in
theorem Oj.hasB_yes {n : Int} {o : Oj} (h : o.has n) : o.hasB n = true := by unfold Oj.hasB; simpa using h
set_option maxRecDepth 8000 in
theorem Oj.hasB_no {n : Int} {o : Oj} (h : ¬ o.has n) : o.hasB n = false := by unfold Oj.hasB; simpa using h
set_option maxRecDepth 8000 in
set_option maxHeartbeats 1000000 in
theorem chk_m (o : Oj) (n : Int) (w : World) (hT : Tab w) (hm : ¬ (1 ≤ n ∧ n ≤ 64)) :
    Calls Tryd.prog 18 #[o.val, .int .i64 n] w fun e w' => e = .returned (.int .i64 2) ∧ Below w.heap.size w w' := by
  have HB := Lib.hid ((Below.refl w.heap.size w).alloc (Nat.le_refl _) (.cells o.cells.toArray 33))
  have HG := Lib.hid (Blk.new w 33 o.cells.toArray).ob
  have HT := Lib.hid hT
  obtain ⟨_, c1, c2⟩ := HG.out.cells
  have DM := Lib.hid (show decide (1 ≤ n ∧ n ≤ 64) = false from decide_eq_false hm)
  clear hm
  clear hT
  go_enter Tryd.func18, Tryd.ntmps18
  go_wp2_with (first
    | (go_at_call 17; refine (DM.out ▸ many_any n _).mono ?_; rintro e w1 ⟨rfl, rfl⟩))
  go_ret
  exact ⟨rfl, HB.out⟩
set_option maxRecDepth 8000 in
set_option maxHeartbeats 1000000 in
theorem chk_c (o : Oj) (n : Int) (w : World) (hT : Tab w) (hm : 1 ≤ n ∧ n ≤ 64) (hc : ¬ (0 ≤ o.c ∧ o.c ≤ 4294967295)) :
    Calls Tryd.prog 18 #[o.val, .int .i64 n] w fun e w' => e = .returned (.int .i64 2) ∧ Below w.heap.size w w' := by
  have HB := Lib.hid ((Below.refl w.heap.size w).alloc (Nat.le_refl _) (.cells o.cells.toArray 33))
  have HG := Lib.hid (Blk.new w 33 o.cells.toArray).ob
  have HT := Lib.hid hT
  obtain ⟨_, c1, c2⟩ := HG.out.cells
  have DM := Lib.hid (show decide (1 ≤ n ∧ n ≤ 64) = true by simpa using hm)
  have DC := Lib.hid (show decide (0 ≤ o.c ∧ o.c ≤ 4294967295) = false from decide_eq_false hc)
  clear hm hc
  clear hT
  go_enter Tryd.func18, Tryd.ntmps18
  go_wp2_with (first
    | (go_at_call 17; refine (DM.out ▸ many_any n _).mono ?_; rintro e w1 ⟨rfl, rfl⟩)
    | (go_at_call 30; (with_reducible refine (DC.out ▸ counted_any o.c _).mono ?_); rintro e w1 ⟨rfl, rfl⟩))
  go_ret
  exact ⟨rfl, HB.out⟩
set_option maxRecDepth 8000 in
set_option maxHeartbeats 1000000 in
theorem chk_l (o : Oj) (n : Int) (w : World) (hT : Tab w) (hm : 1 ≤ n ∧ n ≤ 64) (hc : 0 ≤ o.c ∧ o.c ≤ 4294967295) (hl : ¬ (0 ≤ o.l ∧ o.l ≤ 4294967295)) :
    Calls Tryd.prog 18 #[o.val, .int .i64 n] w fun e w' => e = .returned (.int .i64 2) ∧ Below w.heap.size w w' := by
  have HB := Lib.hid ((Below.refl w.heap.size w).alloc (Nat.le_refl _) (.cells o.cells.toArray 33))
  have HG := Lib.hid (Blk.new w 33 o.cells.toArray).ob
  have HT := Lib.hid hT
  obtain ⟨_, c1, c2⟩ := HG.out.cells
  have DM := Lib.hid (show decide (1 ≤ n ∧ n ≤ 64) = true by simpa using hm)
  have DC := Lib.hid (show decide (0 ≤ o.c ∧ o.c ≤ 4294967295) = true by simpa using hc)
  have DL := Lib.hid (show decide (0 ≤ o.l ∧ o.l ≤ 4294967295) = false from decide_eq_false hl)
  clear hm hc hl
  clear hT
  go_enter Tryd.func18, Tryd.ntmps18
  go_wp2_with (first
    | (go_at_call 17; refine (DM.out ▸ many_any n _).mono ?_; rintro e w1 ⟨rfl, rfl⟩)
    | (go_at_call 30; (with_reducible refine (DC.out ▸ counted_any o.c _).mono ?_); rintro e w1 ⟨rfl, rfl⟩)
    | (go_at_call 30; (with_reducible refine (DL.out ▸ counted_any o.l _).mono ?_); rintro e w1 ⟨rfl, rfl⟩))
  go_ret
  exact ⟨rfl, HB.out⟩
set_option maxRecDepth 8000 in
set_option maxHeartbeats 1000000 in
theorem chk_h (o : Oj) (n : Int) (w : World) (hT : Tab w) (hm : 1 ≤ n ∧ n ≤ 64) (hc : 0 ≤ o.c ∧ o.c ≤ 4294967295) (hl : 0 ≤ o.l ∧ o.l ≤ 4294967295) (hh : ¬ o.has n) :
    Calls Tryd.prog 18 #[o.val, .int .i64 n] w fun e w' => e = .returned (.int .i64 2) ∧ Below w.heap.size w w' := by
  have HB := Lib.hid ((Below.refl w.heap.size w).alloc (Nat.le_refl _) (.cells o.cells.toArray 33))
  have HG := Lib.hid (Blk.new w 33 o.cells.toArray).ob
  have HT := Lib.hid hT
  obtain ⟨_, c1, c2⟩ := HG.out.cells
  have DM := Lib.hid (show decide (1 ≤ n ∧ n ≤ 64) = true by simpa using hm)
  have DC := Lib.hid (show decide (0 ≤ o.c ∧ o.c ≤ 4294967295) = true by simpa using hc)
  have DL := Lib.hid (show decide (0 ≤ o.l ∧ o.l ≤ 4294967295) = true by simpa using hl)
  have DH := Lib.hid (Oj.hasB_no hh)
  clear hm hc hl hh
  clear hT
  go_enter Tryd.func18, Tryd.ntmps18
  go_wp2_with (first
    | (go_at_call 17; refine (DM.out ▸ many_any n _).mono ?_; rintro e w1 ⟨rfl, rfl⟩)
    | (go_at_call 30; (with_reducible refine (DC.out ▸ counted_any o.c _).mono ?_); rintro e w1 ⟨rfl, rfl⟩)
    | (go_at_call 30; (with_reducible refine (DL.out ▸ counted_any o.l _).mono ?_); rintro e w1 ⟨rfl, rfl⟩)
    | (refine wpList_yields (S := fun w' => ObAt w' w.heap.size 0 o) (y_ob (by rfl) (.tmp 2) (by rfl) w.heap.size 0 (by rfl) o (fun _ h => h)) HG.out ?_)
    | (go_at_call 31; refine (DH.out ▸ kindHas_any o n _ (HT.out.alloc _)).mono ?_; rintro e w1 ⟨rfl, b1⟩; have HB1 := Lib.hid (HB.out.trans (b1.mono HB.out.size)); clear b1))
  go_ret
  exact ⟨rfl, HB1.out⟩
set_option maxRecDepth 8000 in
set_option maxHeartbeats 1000000 in
theorem chk_y (o : Oj) (n : Int) (w : World) (hT : Tab w) (hm : 1 ≤ n ∧ n ≤ 64) (hc : 0 ≤ o.c ∧ o.c ≤ 4294967295) (hl : 0 ≤ o.l ∧ o.l ≤ 4294967295) (hh : o.has n) :
    Calls Tryd.prog 18 #[o.val, .int .i64 n] w fun e w' => e = .returned (.int .i64 0) ∧ Below w.heap.size w w' := by
  have HB := Lib.hid ((Below.refl w.heap.size w).alloc (Nat.le_refl _) (.cells o.cells.toArray 33))
  have HG := Lib.hid (Blk.new w 33 o.cells.toArray).ob
  have HT := Lib.hid hT
  obtain ⟨_, c1, c2⟩ := HG.out.cells
  have DM := Lib.hid (show decide (1 ≤ n ∧ n ≤ 64) = true by simpa using hm)
  have DC := Lib.hid (show decide (0 ≤ o.c ∧ o.c ≤ 4294967295) = true by simpa using hc)
  have DL := Lib.hid (show decide (0 ≤ o.l ∧ o.l ≤ 4294967295) = true by simpa using hl)
  have DH := Lib.hid (Oj.hasB_yes hh)
  clear hm hc hl hh
  clear hT
  go_enter Tryd.func18, Tryd.ntmps18
  go_wp2_with (first
    | (go_at_call 17; refine (DM.out ▸ many_any n _).mono ?_; rintro e w1 ⟨rfl, rfl⟩)
    | (go_at_call 30; (with_reducible refine (DC.out ▸ counted_any o.c _).mono ?_); rintro e w1 ⟨rfl, rfl⟩)
    | (go_at_call 30; (with_reducible refine (DL.out ▸ counted_any o.l _).mono ?_); rintro e w1 ⟨rfl, rfl⟩)
    | (refine wpList_yields (S := fun w' => ObAt w' w.heap.size 0 o) (y_ob (by rfl) (.tmp 2) (by rfl) w.heap.size 0 (by rfl) o (fun _ h => h)) HG.out ?_)
    | (go_at_call 31; refine (DH.out ▸ kindHas_any o n _ (HT.out.alloc _)).mono ?_; rintro e w1 ⟨rfl, b1⟩; have HB1 := Lib.hid (HB.out.trans (b1.mono HB.out.size)); clear b1))
  go_ret
  exact ⟨rfl, HB1.out⟩
set_option maxRecDepth 8000 in
theorem check_any (o : Oj) (n : Int) (w : World) (hT : Tab w) :
    Calls Tryd.prog 18 #[o.val, .int .i64 n] w fun e w' => e = .returned (.int .i64 (o.chk n)) ∧ Below w.heap.size w w' := by
  by_cases hm : 1 ≤ n ∧ n ≤ 64
  · by_cases hc : 0 ≤ o.c ∧ o.c ≤ 4294967295
    · by_cases hl : 0 ≤ o.l ∧ o.l ≤ 4294967295
      · by_cases hh : o.has n
        · rw [Oj.chk_yes ⟨hm, hc, hl, hh⟩]; exact chk_y o n w hT hm hc hl hh
        · rw [Oj.chk_no fun h => hh h.2.2.2]; exact chk_h o n w hT hm hc hl hh
      · rw [Oj.chk_no fun h => hl h.2.2.1]; exact chk_l o n w hT hm hc hl
    · rw [Oj.chk_no fun h => hc h.2.1]; exact chk_c o n w hT hm hc
  · rw [Oj.chk_no fun h => hm h.1]; exact chk_m o n w hT hm
end Go.Proofs.YtjolojomgfcfbaaDoor
namespace Go.Proofs.YtjolojomgfcfbaaDoor
open Go.RowKit
end Go.Proofs.YtjolojomgfcfbaaDoor
namespace Go.Proofs.YtjolojomgfcfbaaDoor
open Go.RowKit
abbrev pv (b : Nat) : Value := .pointer (some ⟨b, 0, none⟩)
/-- the block of a row -/
def rowOf (A : Option Addr) : Option Nat := A.map (·.block)
/-- a store as it lies in p: its row A, the blocks ps of its objects os; all from base on -/
structure StAt (w : World) (base p : Nat) (A : Option Addr) (cap : Nat) (ps : List Nat) (os : List Oj) : Prop where
  blk : Blk w p 62 #[.slice A os.length cap]
  own : w.ownsRow base 79 1 (.slice A os.length cap) os.length (ps.map pv)
  len : ps.length = os.length
  obj : ∀ i (h : i < os.length) (h' : i < ps.length), Blk w ps[i] 33 os[i].cells.toArray
  pge : base ≤ p
  pn : rowOf A ≠ some p
  pps : ∀ b ∈ ps, base ≤ b ∧ b ≠ p ∧ rowOf A ≠ some b
  nd : ps.Nodup
/-- the blocks of a store -/
def stHas (p : Nat) (A : Option Addr) (ps : List Nat) (k : Nat) : Prop := k = p ∨ rowOf A = some k ∨ k ∈ ps
section
variable {w w' : World} {base p : Nat} {A : Option Addr} {cap : Nat} {ps : List Nat} {os : List Oj}
set_option maxRecDepth 8000 in
theorem own_keep {e : TypeId} {n : Nat} {xs : List Value} (h : w.ownsRow base e 1 (.slice A n cap) n xs) (hk : ∀ k, rowOf A = some k → w'.heap[k]? = w.heap[k]?) : w'.ownsRow base e 1 (.slice A n cap) n xs := by
  refine ⟨h.1, ?_⟩
  rcases h.2 with h0 | ⟨g, c, cur, h1, h2, h3, h4⟩
  · exact .inl h0
  · refine .inr ⟨g, c, cur, h1, h2, (hk g ?_).trans h3, h4⟩
    injection h1 with h1
    rw [h1]
    rfl
theorem StAt.keep (h : StAt w base p A cap ps os) (hk : ∀ k, stHas p A ps k → w'.heap[k]? = w.heap[k]?) : StAt w' base p A cap ps os where
  blk := (hk p (.inl rfl)).trans h.blk
  own := own_keep h.own (fun k hr => hk k (.inr (.inl hr)))
  len := h.len
  obj := fun i h1 h2 => (hk _ (.inr (.inr (List.getElem_mem h2)))).trans (h.obj i h1 h2)
  pge := h.pge
  pn := h.pn
  pps := h.pps
  nd := h.nd
set_option maxRecDepth 8000 in
theorem StAt.own_lt (h : StAt w base p A cap ps os) {k : Nat} (hr : rowOf A = some k) : base ≤ k ∧ k < w.heap.size := by
  rcases h.own.2 with ⟨h0, _⟩ | ⟨g, c, cur, h1, h2, h3, _⟩
  · injection h0 with h0
    rw [h0] at hr
    cases hr
  · injection h1 with h1
    rw [h1] at hr
    injection hr with hr
    simp only at hr
    subst hr
    exact ⟨h2, (Array.getElem?_eq_some_iff.1 h3).1⟩
set_option maxRecDepth 8000 in
theorem StAt.lt (h : StAt w base p A cap ps os) (k : Nat) (hk : stHas p A ps k) : base ≤ k ∧ k < w.heap.size := by
  rcases hk with rfl | hk | hk
  · exact ⟨h.pge, h.blk.lt⟩
  · exact h.own_lt hk
  · obtain ⟨i, hi, rfl⟩ := List.mem_iff_getElem.1 hk
    exact ⟨(h.pps _ hk).1, (h.obj i (by rw [← h.len]; exact hi) hi).lt⟩
theorem StAt.below (h : StAt w base p A cap ps os) (hb : Below w.heap.size w w') : StAt w' base p A cap ps os := h.keep fun k hk => hb.block k (h.lt k hk).2
theorem StAt.alloc (h : StAt w base p A cap ps os) (o : Obj) : StAt (w.alloc o) base p A cap ps os := h.below ((Below.refl _ _).alloc (Nat.le_refl _) _)
theorem StAt.drew (h : StAt w base p A cap ps os) : StAt w.drew base p A cap ps os := h.keep fun _ _ => rfl
theorem StAt.fr {S : Nat → Prop} (h : StAt w base p A cap ps os) (hf : Fr S w w') (hS : ∀ k, stHas p A ps k → ¬ S k) : StAt w' base p A cap ps os := h.keep fun k hk => hf.block k (h.lt k hk).2 (hS k hk)
/-- its own cell -/
theorem StAt.c0 (h : StAt w base p A cap ps os) : w.cell? ⟨p, 0, none⟩ = some (.slice A os.length cap) := (h.blk.cell 0).trans rfl
set_option maxRecDepth 8000 in
/-- the row, where it is not empty -/
theorem StAt.row (h : StAt w base p A cap ps os) {i : Nat} (hi : i < os.length) : ∃ g, A = some ⟨g, 0, none⟩ ∧ ∀ (h' : i < ps.length), w.cell? ⟨g, i, none⟩ = some (pv ps[i]) := by
  obtain ⟨g, c, e, _, _⟩ := h.own.form (by omega)
  injection e with e
  subst e
  refine ⟨g, rfl, fun h' => ?_⟩
  have := h.own.cellAt i (by omega)
  rw [this, List.getElem?_map, List.getElem?_eq_getElem h']
  rfl
set_option maxRecDepth 8000 in
theorem StAt.at_ (h : StAt w base p A cap ps os) {i : Nat} (hi : i < os.length) : ∃ g b o, A = some ⟨g, 0, none⟩ ∧ w.cell? ⟨g, i, none⟩ = some (pv b) ∧ os[i] = o ∧ ObAt w b 0 o := by
  obtain ⟨g, e, hc⟩ := h.row hi
  have hp : i < ps.length := by rw [h.len]; exact hi
  exact ⟨g, ps[i], os[i], e, hc hp, rfl, (h.obj i hi hp).ob⟩
set_option maxRecDepth 8000 in
theorem there_at (h : StAt w base p A cap ps os) : Calls Tryd.prog 45 #[pv p] w fun e w' => e = .returned (.bool (decide (0 < os.length))) ∧ w = w' := by
  have c0 := h.c0
  clear h
  go_enter Tryd.func45, Tryd.ntmps45
  go_wp2
  go_ret
  exact ⟨rfl, rfl⟩
set_option maxRecDepth 8000 in
theorem there_yes (h : StAt w base p A cap ps os) (hn : 0 < os.length) : Calls Tryd.prog 45 #[pv p] w fun e w' => e = .returned (.bool true) ∧ w = w' := by
  have := there_at h
  rwa [show decide (0 < os.length) = true by simpa using hn] at this
set_option maxRecDepth 8000 in
theorem asked_ok (h : StAt w base p A cap ps os) (i : Nat) (hi : i < os.length) : Calls Tryd.prog 53 #[pv p, .int .i64 (i : Int)] w fun e w' => e = .returned (.int .i64 0) ∧ w = w' := by
  have H := Lib.hid h
  have HI := Lib.hid hi
  have c0 := h.c0
  have d0 : decide ((i : Int) < 0) = false := decide_eq_false (by omega)
  have d1 : decide (os.length ≤ i) = false := decide_eq_false (by omega)
  clear h hi
  go_enter Tryd.func53, Tryd.ntmps53
  go_wp2_with (go_at_call 45; refine (there_yes H.out (Nat.lt_of_le_of_lt (Nat.zero_le _) HI.out)).mono ?_; rintro e w1 ⟨rfl, rfl⟩)
  go_ret
  exact ⟨rfl, rfl⟩
set_option maxRecDepth 8000 in
theorem asked_lo (h : StAt w base p A cap ps os) (hn : 0 < os.length) (n : Int) (hi : n < 0) : Calls Tryd.prog 53 #[pv p, .int .i64 n] w fun e w' => e = .returned (.int .i64 4) ∧ w = w' := by
  have H := Lib.hid h
  have HI := Lib.hid hn
  have d0 : decide (n < 0) = true := by simpa using hi
  clear h hi hn
  go_enter Tryd.func53, Tryd.ntmps53
  go_wp2_with (go_at_call 45; refine (there_yes H.out HI.out).mono ?_; rintro e w1 ⟨rfl, rfl⟩)
  go_ret
  exact ⟨rfl, rfl⟩
set_option maxRecDepth 8000 in
theorem asked_hi (h : StAt w base p A cap ps os) (hn : 0 < os.length) (n : Int) (h0 : 0 ≤ n) (hi : (os.length : Int) ≤ n) : Calls Tryd.prog 53 #[pv p, .int .i64 n] w fun e w' => e = .returned (.int .i64 4) ∧ w = w' := by
  have H := Lib.hid h
  have HI := Lib.hid hn
  have c0 := h.c0
  have d0 : decide (n < 0) = false := decide_eq_false (by omega)
  have d1 : decide ((os.length : Int) ≤ n) = true := by simpa using hi
  clear h hi hn h0
  go_enter Tryd.func53, Tryd.ntmps53
  go_wp2_with (go_at_call 45; refine (there_yes H.out HI.out).mono ?_; rintro e w1 ⟨rfl, rfl⟩)
  go_ret
  exact ⟨rfl, rfl⟩
set_option maxRecDepth 8000 in
theorem asked_no (h : StAt w base p A cap ps os) (hn : 0 < os.length) (n : Int) (hi : n < 0 ∨ (os.length : Int) ≤ n) : Calls Tryd.prog 53 #[pv p, .int .i64 n] w fun e w' => e = .returned (.int .i64 4) ∧ w = w' := by
  by_cases h0 : n < 0
  · exact asked_lo h hn n h0
  · exact asked_hi h hn n (by omega) (by omega)
set_option maxRecDepth 8000 in
theorem size_at (h : StAt w base p A cap ps os) (hn : 0 < os.length) : Calls Tryd.prog 35 #[pv p] w fun e w' => e = .returned (.int .i64 (os.length : Int)) ∧ w = w' := by
  have H := Lib.hid h
  have HI := Lib.hid hn
  have c0 := h.c0
  clear h hn
  go_enter Tryd.func35, Tryd.ntmps35
  go_wp2_with (go_at_call 45; refine (there_yes H.out HI.out).mono ?_; rintro e w1 ⟨rfl, rfl⟩)
  go_ret
  exact ⟨rfl, rfl⟩
end
end Go.Proofs.YtjolojomgfcfbaaDoor

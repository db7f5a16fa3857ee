/- law 11: known, made. -/
import Derived.Test.YtjolojomgfcfbaaDoorWFn
import Derived.Test.YtjolojomgfcfbaaDoorR21
namespace Go.Proofs.YtjolojomgfcfbaaDoor
open Go.RowKit
theorem kn11_may : knk10.may ([kn10] : List Oj).length := ⟨knk10_ok, fun _ => by decide⟩
set_option maxRecDepth 8000 in
theorem kn11_ref (a : Int) (h : 0 ≤ a) : refA [kn10] knk10 a 0 = 0 := by unfold refA; rw [if_pos kn11_may, if_pos ⟨h, by decide, by decide⟩]
set_option maxRecDepth 8000 in
theorem kn11_walk : walkA [kn10] knk10 9 = ((⟨knk10, 9, zk, 0⟩ : Fo), zfa, 0) := by
  unfold walkA
  rw [if_pos (kn11_ref 9 (by decide))]
  have : goneW [kn10] knk10 9 = .found knk10 9 zk 0 := by
    unfold goneW
    rw [run_succ, show Int.toNat 9 = 9 from rfl, stepW_page (s := ws0 knk10 9) kn10_d.is (by decide)]
    rfl
  rw [this]
  rfl
set_option maxRecDepth 8000 in
theorem kn11_far : walkA [kn10] knk10 64 = (zfo, (⟨2, zk, 64⟩ : Fa), 0) := by
  unfold walkA
  rw [if_pos (kn11_ref 64 (by decide))]
  have : goneW [kn10] knk10 64 = .fault 2 zk := by
    unfold goneW
    rw [run_succ, show Int.toNat 64 = 64 from rfl, stepW_far (s := ws0 knk10 64) kn10_d.is (by decide)]
    rfl
  rw [this]
  rfl
theorem kn11_span : spanA 1 = 896 := rfl
set_option maxRecDepth 8000 in
theorem y_kyeq_11 {ops : Array Oper} {o : Oper} {a : Act} {S : World → Prop} {p q : Operand} (hw : Region.wanted o (yielded ops a.tmps) = true) (ho : o.op = .binOp .eql 29 p q 29) (x : Ky) (hx : a.eval p = x.val) (hy : a.eval q = x.val) : YieldsIf Tryd.prog ops S o (.bool true) a := by
  have := y_kyeq (S := S) hw ho x x hx hy
  rwa [decide_eq_true rfl] at this
/-- two blocks that are stored whole -/
theorem two_rows {w0 W : World} {g : Nat} {fo : Fo} {fa : Fa} {B : Nat} (hb : Below B w0 W) (hg : B ≤ g) : Below B w0 ((W.setRow g fo.cells.toArray).setRow (g + 1) fa.cells.toArray) := below_setRow (below_setRow hb hg _) (by omega) _
set_option maxRecDepth 100000 in
set_option maxHeartbeats 4000000 in
theorem known_w (w : World) (hT : Tab w) : Calls Tryd.prog 4 #[] w fun e w' => e = .returned (.bool true) ∧ Below w.heap.size w w' := by
  have HT := Lib.hid hT
  obtain ⟨u, hu⟩ : ∃ u, u = kn10 := ⟨_, rfl⟩
  obtain ⟨x, hx⟩ : ∃ x, x = knk10 := ⟨_, rfl⟩
  have H1 := Lib.hid (show Tryd.prog.built 33 [(0, .int .i64 2), (1, .int .i64 1)] = some u.cells.toArray from by rw [hu]; exact built10)
  have H2 := Lib.hid (show Tryd.prog.built 29 [(0, .int .i64 3), (2, .int .i64 1)] = some (kl x).toArray from by rw [hx]; exact builtK10)
  have HRP := Lib.hid (show rightP [u] from by rw [hu]; exact kn10_right)
  have HR := Lib.hid (rdo_one (Blk.new w 33 u.cells.toArray))
  have HB0 := Lib.hid ((Below.refl w.heap.size w).alloc (Nat.le_refl _) (.cells u.cells.toArray 33))
  have HO := Lib.hid (fun (W : World) (A : Option Addr) (hT : Tab W) (hA : RdO W A [u]) => (of_yes (cap := 1) hT hA HRP.out).mono fun e w' (h : _ ∧ _ ∧ _) => (show ∃ q, e = .returned (.tuple #[pv q, .int .i64 0]) ∧ W.heap.size ≤ q ∧ (∃ A' cap' ps, StAt w' q q A' cap' ps [u]) ∧ Below W.heap.size W w' from ⟨W.heap.size, h.1, Nat.le_refl _, h.2.1, h.2.2⟩))
  have HWK9 : Hid (∀ (W : World) (base p : Nat) (A : Option Addr) (cap : Nat) (ps : List Nat), StAt W base p A cap ps [u] → Tab W → Calls Tryd.prog 6 #[pv p, x.val, .int .i64 9] W fun e w' => e = .returned (.tuple #[(⟨x, 9, zk, 0⟩ : Fo).val, zfa.val, .int .i64 0]) ∧ Below W.heap.size W w') := Lib.hid fun W base p A cap ps h hT => by
    subst hu hx
    have := walk_all h Nat.zero_lt_one kn10_right.2.2 hT knk10 9 (by decide)
    rw [kn11_walk] at this
    exact this
  have HWK64 : Hid (∀ (W : World) (base p : Nat) (A : Option Addr) (cap : Nat) (ps : List Nat), StAt W base p A cap ps [u] → Tab W → Calls Tryd.prog 6 #[pv p, x.val, .int .i64 64] W fun e w' => e = .returned (.tuple #[zfo.val, (⟨2, zk, 64⟩ : Fa).val, .int .i64 0]) ∧ Below W.heap.size W w') := Lib.hid fun W base p A cap ps h hT => by
    subst hu hx
    have := walk_all h Nat.zero_lt_one kn10_right.2.2 hT knk10 64 (by decide)
    rw [kn11_far] at this
    exact this
  have M0 := Lib.hid trivial
  have hz6 := z59
  have hz7 := z35
  clear hT hu hx
  go_enter Tryd.func4, Tryd.ntmps4
  go_wp2_with (first
    | (show wpList _ _ _ ({ dst := some 11, op := .build _ _, type := _, pos := _, after := _, guard := _ } :: _) _ _; refine wpList_yields (S := fun _ => True) (y_build2 (by rfl) (by rfl) H1.out) trivial ?_)
    | (refine wpList_buildSlice34 rfl (.tmp 11) rfl u rfl ?_)
    | (go_at_call 8; refine (HO.out _ _ (HT.out.below HB0.out) HR.out).mono ?_; rintro e w1 ⟨q, rfl, hq, ⟨A1, cap1, ps1, hs⟩, b1⟩; have HQ := Lib.hid hq; have HB1 := Lib.hid ((HB0.out.trans (b1.mono HB0.out.size)).alloc (Nat.le_trans HB0.out.size b1.size) (.cells (kl x).toArray 29)); have HX1 := Lib.hid (Blk.new w1 29 (kl x).toArray); have HS1 := Lib.hid (hs.alloc (.cells (kl x).toArray 29)); have HN1 := Lib.hid (show w.heap.size ≤ w1.heap.size from Nat.le_trans HB0.out.size b1.size); clear b1 hq hs; obtain ⟨c0, c1, c2, c3, c4, c5⟩ := (show Blk _ _ _ (kc x.k x.o x.c x.l x.r x.v) from HX1.out).six)
    | (show wpList _ _ _ ({ dst := some 16, op := .build _ _, type := _, pos := _, after := _, guard := _ } :: _) _ _; refine wpList_yields (S := fun _ => True) (y_build2 (by rfl) (by rfl) H2.out) trivial ?_)
    | (show wpList _ _ _ ({ dst := none, op := .store _ (.tmp 3) (.tmp 16), type := _, pos := _, after := _, guard := _ } :: _) _ _; refine wpList_store_new (l := kl x) (l0 := kl zk) (ty := 29) rfl (.tmp 3) (.tmp 16) (by rfl) _ rfl (by rfl) (by rfl) size30 rfl (kl_one _) ?_)
    | (go_at_call 6; first
        | (clear M0; refine (HWK9.out _ _ _ _ _ _ HS1.out (HT.out.below HB1.out)).mono ?_; rintro e w2 ⟨rfl, b_⟩; have HB2 := Lib.hid (HB1.out.trans (b_.mono HB1.out.size)); have HS2 := Lib.hid (HS1.out.below b_); have HX2 := Lib.hid (HX1.out.keep b_); have HL2 := Lib.hid (show w1.heap.size < w2.heap.size from HX2.out.lt); clear b_ c0 c1 c2 c3 c4 c5)
        | (refine (HWK64.out _ _ _ _ _ _ HS3.out (HT.out.below HB3.out)).mono ?_; rintro e w4 ⟨rfl, b_⟩; have HB4 := Lib.hid (HB3.out.trans (b_.mono HB3.out.size)); have HX4 := Lib.hid (HX3.out.keep b_); have HP4 := Lib.hid (And.intro (HP3.out.1.keep b_) (HP3.out.2.keep b_)); have HL4 := Lib.hid (show w2.heap.size + 1 < w4.heap.size from HP4.out.2.lt); clear b_ c0 c1 c2 c3 c4 c5))
    | (show wpList _ _ _ ({ dst := none, op := .store _ (.tmp 4) (.tmp 21), type := _, pos := _, after := _, guard := _ } :: _) _ _; refine wpList_store_big (l0 := zfo.cells) ((Blk.new w2 38 zfo.cells.toArray).alloc (.cells zfa.cells.toArray 41)) rfl (.tmp 4) (.tmp 21) (ty := 38) (l := Fo.cells ⟨x, 9, zk, 0⟩) rfl (by rfl) (by rfl) sizeFo rfl (Fo.one _) ?_)
    | (show wpList _ _ _ ({ dst := none, op := .store _ (.tmp 5) (.tmp 22), type := _, pos := _, after := _, guard := _ } :: _) _ _; refine wpList_store_big (l0 := zfa.cells) (Blk.row_far (Blk.new_of (w2.alloc (.cells zfo.cells.toArray 38)) 41 zfa.cells.toArray (g := w2.heap.size + 1) (by simp)) (b := w2.heap.size) (by omega) (Fo.cells ⟨x, 9, zk, 0⟩).toArray) rfl (.tmp 5) (.tmp 22) (ty := 41) (l := Fa.cells zfa) rfl (by rfl) (by rfl) sizeFa rfl (Fa.one _) ?_; have HP3 := Lib.hid (And.intro ((Blk.setRow ((Blk.new w2 38 zfo.cells.toArray).alloc (.cells zfa.cells.toArray 41)) (Fo.cells ⟨x, 9, zk, 0⟩).toArray).row_far (b := w2.heap.size + 1) (by omega) (Fa.cells zfa).toArray) ((Blk.row_far (Blk.new_of (w2.alloc (.cells zfo.cells.toArray 38)) 41 zfa.cells.toArray (g := w2.heap.size + 1) (by simp)) (b := w2.heap.size) (by omega) (Fo.cells ⟨x, 9, zk, 0⟩).toArray).setRow (Fa.cells zfa).toArray)); have HX3 := Lib.hid (((HX2.out.alloc (.cells zfo.cells.toArray 38)).alloc (.cells zfa.cells.toArray 41)).row_far (b := w2.heap.size) (by have := HL2.out; omega) (Fo.cells ⟨x, 9, zk, 0⟩).toArray |>.row_far (b := w2.heap.size + 1) (by have := HL2.out; omega) (Fa.cells zfa).toArray); have HB3 := Lib.hid (two_rows (fo := ⟨x, 9, zk, 0⟩) (fa := zfa) (g := w2.heap.size) ((HB2.out.alloc HB2.out.size (.cells zfo.cells.toArray 38)).alloc (by have := HB2.out.size; simp; omega) (.cells zfa.cells.toArray 41)) HB2.out.size); have HS3 := Lib.hid (((HS2.out.alloc (.cells zfo.cells.toArray 38)).alloc (.cells zfa.cells.toArray 41)).fr (setRow_fr _ w2.heap.size (Fo.cells ⟨x, 9, zk, 0⟩).toArray) (fun k hk e => by have := (HS2.out.lt k hk).2; omega) |>.fr (setRow_fr _ (w2.heap.size + 1) (Fa.cells zfa).toArray) (fun k hk e => by have := (HS2.out.lt k hk).2; omega)); generalize (((w2.alloc (.cells zfo.cells.toArray 38)).alloc (.cells zfa.cells.toArray 41)).setRow w2.heap.size (Fo.cells ⟨x, 9, zk, 0⟩).toArray).setRow (w2.heap.size + 1) (Fa.cells zfa).toArray = W3 at HP3 HX3 HB3 HS3 ⊢; obtain ⟨c0, c1, c2, c3, c4, c5⟩ := (show Blk _ _ _ (kc x.k x.o x.c x.l x.r x.v) from HX3.out).six)
    | (show wpList _ _ _ ({ dst := none, op := .store _ (.tmp 7) (.tmp 28), type := _, pos := _, after := _, guard := _ } :: _) _ _; refine wpList_store_big (l0 := zfo.cells) ((Blk.new w4 38 zfo.cells.toArray).alloc (.cells zfa.cells.toArray 41)) rfl (.tmp 7) (.tmp 28) (ty := 38) (l := Fo.cells zfo) rfl (by rfl) (by rfl) sizeFo rfl (Fo.one _) ?_)
    | (show wpList _ _ _ ({ dst := none, op := .store _ (.tmp 8) (.tmp 29), type := _, pos := _, after := _, guard := _ } :: _) _ _; refine wpList_store_big (l0 := zfa.cells) (Blk.row_far (Blk.new_of (w4.alloc (.cells zfo.cells.toArray 38)) 41 zfa.cells.toArray (g := w4.heap.size + 1) (by simp)) (b := w4.heap.size) (by omega) (Fo.cells zfo).toArray) rfl (.tmp 8) (.tmp 29) (ty := 41) (l := Fa.cells ⟨2, zk, 64⟩) rfl (by rfl) (by rfl) sizeFa rfl (Fa.one _) ?_; have HA5 := Lib.hid ((Blk.row_far (Blk.new_of (w4.alloc (.cells zfo.cells.toArray 38)) 41 zfa.cells.toArray (g := w4.heap.size + 1) (by simp)) (b := w4.heap.size) (by omega) (Fo.cells zfo).toArray).setRow (Fa.cells ⟨2, zk, 64⟩).toArray); have HX5 := Lib.hid (((HX4.out.alloc (.cells zfo.cells.toArray 38)).alloc (.cells zfa.cells.toArray 41)) |>.row_far (b := w4.heap.size) (by have := HL4.out; have := HL2.out; omega) (Fo.cells zfo).toArray |>.row_far (b := w4.heap.size + 1) (by have := HL4.out; have := HL2.out; omega) (Fa.cells ⟨2, zk, 64⟩).toArray); have HP5 := Lib.hid (And.intro (((HP4.out.1.alloc (.cells zfo.cells.toArray 38)).alloc (.cells zfa.cells.toArray 41)) |>.row_far (b := w4.heap.size) (by have := HL4.out; have := HL2.out; omega) (Fo.cells zfo).toArray |>.row_far (b := w4.heap.size + 1) (by have := HL4.out; have := HL2.out; omega) (Fa.cells ⟨2, zk, 64⟩).toArray) (((HP4.out.2.alloc (.cells zfo.cells.toArray 38)).alloc (.cells zfa.cells.toArray 41)) |>.row_far (b := w4.heap.size) (by have := HL4.out; have := HL2.out; omega) (Fo.cells zfo).toArray |>.row_far (b := w4.heap.size + 1) (by have := HL4.out; have := HL2.out; omega) (Fa.cells ⟨2, zk, 64⟩).toArray)); have HB5 := Lib.hid (two_rows (fo := zfo) (fa := ⟨2, zk, 64⟩) (g := w4.heap.size) ((HB4.out.alloc HB4.out.size (.cells zfo.cells.toArray 38)).alloc (by have := HB4.out.size; simp; omega) (.cells zfa.cells.toArray 41)) HB4.out.size); generalize (((w4.alloc (.cells zfo.cells.toArray 38)).alloc (.cells zfa.cells.toArray 41)).setRow w4.heap.size (Fo.cells zfo).toArray).setRow (w4.heap.size + 1) (Fa.cells ⟨2, zk, 64⟩).toArray = W5 at HA5 HX5 HP5 HB5 ⊢; obtain ⟨c0, c1, c2, c3, c4, c5⟩ := (show Blk _ _ _ (kc x.k x.o x.c x.l x.r x.v) from HX5.out).six; have p0 : W5.cell? ⟨w2.heap.size, 0, none⟩ = some (.int .i64 x.k) := HP5.out.1.cell 0; have p1 : W5.cell? ⟨w2.heap.size, 1, none⟩ = some (.int .i64 x.o) := HP5.out.1.cell 1; have p2 : W5.cell? ⟨w2.heap.size, 2, none⟩ = some (.int .i64 x.c) := HP5.out.1.cell 2; have p3 : W5.cell? ⟨w2.heap.size, 3, none⟩ = some (.int .i64 x.l) := HP5.out.1.cell 3; have p4 : W5.cell? ⟨w2.heap.size, 4, none⟩ = some (.int .i64 x.r) := HP5.out.1.cell 4; have p5 : W5.cell? ⟨w2.heap.size, 5, none⟩ = some (.int .i64 x.v) := HP5.out.1.cell 5; have p6 : W5.cell? ⟨w2.heap.size, 6, none⟩ = some (.int .i64 9) := HP5.out.1.cell 6; have r0 : W5.cell? ⟨w2.heap.size + 1, 0, none⟩ = some (.int .i64 0) := HP5.out.2.cell 0; have t0 : W5.cell? ⟨w4.heap.size + 1, 0, none⟩ = some (.int .i64 2) := HA5.out.cell 0)
    | (show wpList _ _ _ ({ dst := some 47, op := .binOp _ _ _ _ _, type := _, pos := _, after := _, guard := _ } :: _) _ _; refine wpList_yields (S := fun _ => True) (y_kyeq_11 (by rfl) (by rfl) x (by rfl) (by rfl)) trivial ?_)
    | (go_at_call 9; refine (span_any 1 (m := 896) rfl _).mono ?_; rintro e w6 ⟨rfl, rfl⟩))
  go_ret
  exact ⟨rfl, HB5.out⟩
set_option maxRecDepth 8000 in
theorem made_w {w : World} {A : Option Addr} {l : List Oj} {cap : Nat} (hT : Tab w) (hr : RdO w A l) (h : madeP l) :
    Calls Tryd.prog 5 #[.slice A l.length cap] w fun e w' => ∃ q, e = .returned (pv q) ∧ w.heap.size ≤ q ∧ (∃ A' cap' ps, StAt w' q q A' cap' ps l) ∧ Below w.heap.size w w' := by
  have HT := Lib.hid hT
  have HR := Lib.hid hr
  have H := Lib.hid h.2
  have d1 : decide ((20 : Int) < (l.length : Int)) = false := decide_eq_false (by have := h.1; omega)
  have d2 : decide (20 < l.length) = false := decide_eq_false (by have := h.1; omega)
  have HB0 := Lib.hid (Below.refl w.heap.size w)
  clear hT hr h
  go_enter Tryd.func5, Tryd.ntmps5
  go_wp2_with (first
    | (go_at_call 10; refine (right_yes HR.out H.out).mono ?_; rintro e w1 ⟨rfl, b1⟩; have HB1 := Lib.hid (HB0.out.trans b1); clear b1)
    | (go_at_call 8; refine (of_yes (HT.out.below HB1.out) (HR.out.below HB1.out) H.out).mono ?_; rintro e w2 ⟨rfl, hs, b2⟩; have HS := Lib.hid hs; have HB2 := Lib.hid (HB1.out.trans (b2.mono HB1.out.size)); clear b2 hs))
  go_ret
  obtain ⟨A', cap', ps, hs⟩ := HS.out
  have hb := HB1.out.size
  exact ⟨_, rfl, hb, ⟨A', cap', ps, hs⟩, HB2.out⟩
set_option maxRecDepth 8000 in
theorem made_n {w : World} {A : Option Addr} {l : List Oj} {cap : Nat} (hr : RdO w A l) (h : ¬ madeP l) :
    Calls Tryd.prog 5 #[.slice A l.length cap] w fun e w' => e = .returned (.pointer none) ∧ Below w.heap.size w w' := by
  have HR := Lib.hid hr
  have HB0 := Lib.hid (Below.refl w.heap.size w)
  by_cases h1 : l.length ≤ 20
  · have H := Lib.hid (fun hp => h ⟨h1, hp⟩ : ¬ rightP l)
    have d1 : decide ((20 : Int) < (l.length : Int)) = false := decide_eq_false (by omega)
    have d2 : decide (20 < l.length) = false := decide_eq_false (by omega)
    clear hr h h1
    go_enter Tryd.func5, Tryd.ntmps5
    go_wp2_with (first
      | (go_at_call 10; refine (right_no HR.out H.out).mono ?_; rintro e w1 ⟨rfl, b1⟩; have HB1 := Lib.hid (HB0.out.trans b1); clear b1))
    go_ret
    exact ⟨rfl, HB1.out⟩
  · have d1 : decide ((20 : Int) < (l.length : Int)) = true := decide_eq_true (by omega)
    have d2 : decide (20 < l.length) = true := decide_eq_true (by omega)
    clear hr h h1
    go_enter Tryd.func5, Tryd.ntmps5
    go_wp2_with fail
    go_ret
    exact ⟨rfl, HB0.out⟩
end Go.Proofs.YtjolojomgfcfbaaDoor

/- law 13: known, made: words. -/
import Derived.Test.YtljfddeolapeaaaDoorJKp
namespace Go.Proofs.YtljfddeolapeaaaDoor
open Go.RowKit
set_option maxRecDepth 8000 in
theorem made_yes {w : World} {A : Option Addr} {l : List Oj} {cap : Nat} (hT : Tab w) (hr : RdO w A l) (h : madeP l) :
    Calls Tryd.prog 7 #[.slice A l.length cap] w fun e w' => ∃ q, e = .returned (pv q) ∧ w.heap.size ≤ q ∧ (∃ A' cap' ps, StAt w' q q A' cap' ps l) ∧ Below w.heap.size w w' := by
  have HT := Lib.hid hT
  have HR := Lib.hid hr
  have H := Lib.hid h.2
  have d1 : decide ((20 : Int) < (l.length : Int)) = false := decide_eq_false (by have := h.1; omega)
  have d2 : decide (20 < l.length) = false := decide_eq_false (by have := h.1; omega)
  have HB0 := Lib.hid (Below.refl w.heap.size w)
  clear hT hr h
  go_enter Tryd.func7, Tryd.ntmps7
  go_wp2_with (first
    | (go_at_call 19; refine (right_yes HR.out H.out).mono ?_; rintro e w1 ⟨rfl, b1⟩; have HB1 := Lib.hid (HB0.out.trans b1); clear b1)
    | (go_at_call 20; refine (of_yes (HT.out.below HB1.out) (HR.out.below HB1.out) H.out).mono ?_; rintro e w2 ⟨rfl, hs, b2⟩; have HS := Lib.hid hs; have HB2 := Lib.hid (HB1.out.trans (b2.mono HB1.out.size)); clear b2 hs))
  go_ret
  obtain ⟨A', cap', ps, hs⟩ := HS.out
  have hb := HB1.out.size
  exact ⟨_, rfl, hb, ⟨A', cap', ps, hs⟩, HB2.out⟩
set_option maxRecDepth 8000 in
theorem made_no {w : World} {A : Option Addr} {l : List Oj} {cap : Nat} (hr : RdO w A l) (h : ¬ madeP l) :
    Calls Tryd.prog 7 #[.slice A l.length cap] w fun e w' => e = .returned (.pointer none) ∧ Below w.heap.size w w' := by
  have HR := Lib.hid hr
  have HB0 := Lib.hid (Below.refl w.heap.size w)
  by_cases h1 : l.length ≤ 20
  · have H := Lib.hid (fun hp => h ⟨h1, hp⟩ : ¬ rightP l)
    have d1 : decide ((20 : Int) < (l.length : Int)) = false := decide_eq_false (by omega)
    have d2 : decide (20 < l.length) = false := decide_eq_false (by omega)
    clear hr h h1
    go_enter Tryd.func7, Tryd.ntmps7
    go_wp2_with (first
      | (go_at_call 19; refine (right_no HR.out H.out).mono ?_; rintro e w1 ⟨rfl, b1⟩; have HB1 := Lib.hid (HB0.out.trans b1); clear b1))
    go_ret
    exact ⟨rfl, HB1.out⟩
  · have d1 : decide ((20 : Int) < (l.length : Int)) = true := decide_eq_true (by omega)
    have d2 : decide (20 < l.length) = true := decide_eq_true (by omega)
    clear hr h h1
    go_enter Tryd.func7, Tryd.ntmps7
    go_wp2_with fail
    go_ret
    exact ⟨rfl, HB0.out⟩
set_option maxRecDepth 8000 in
theorem run_bs2 (w : World) (u v : Oj) :
    (Instr.buildSlice 22 2 #[(0, u.val), (1, v.val)]).run Tryd.prog w = .ok (.slice (some ⟨w.heap.size, 0, none⟩) 2 2) (w.alloc (.cells (u.cells ++ v.cells).toArray 56)) := by
  have hz := z34 w
  have hs := run_sizeOf (P := Tryd.prog) size34 w
  have hol := oz_len
  have c1 : ∀ cs : Array Value, cs.size = 326 → Instr.fill (fun i => some (i * 163, 163)) cs [(0, u.val), (1, v.val)] = some (u.cells ++ v.cells).toArray := by
    intro cs hcs
    have e0 : cs = ([] ++ cs.toList.take 163 ++ cs.toList.drop 163).toArray := by simp
    have hl : cs.toList.length = 326 := by rw [Array.length_toList, hcs]
    rw [e0]
    refine (fill_mid (fun i => some (i * 163, 163)) [] (cs.toList.take 163) (cs.toList.drop 163) 0 u.val u.cells [(1, v.val)] 0 163 rfl rfl u.len rfl (by rw [List.length_take, hl]; rfl)).trans ?_
    rw [show [] ++ u.cells ++ cs.toList.drop 163 = u.cells ++ cs.toList.drop 163 ++ [] by simp]
    refine (fill_mid (fun i => some (i * 163, 163)) u.cells (cs.toList.drop 163) [] 1 v.val v.cells [] 163 163 rfl rfl v.len u.len (by rw [List.length_drop, hl])).trans ?_
    simp [Instr.fill]
  have h2 := c1 ((Array.range (2 * 163)).map (oz.val.cells[· % oz.val.cells.size]!)) (by simp)
  simp only [Instr.buildSlice, Sem.run_bind, run_underlying Tryd.underlying22, Result.andThen_ok, hs]
  rw [if_neg (by decide), if_neg (by decide)]
  simp only [Sem.run_bind, hz, Result.andThen_ok, Sem.run_pure, h2]
  simp [newRow, Result.andThen]
set_option maxRecDepth 8000 in
theorem wpList_bs2 {ops : Array Oper} {rest : List Oper} {o : Oper} {a : Act} {Q : Exit → Act → World → Prop} {w : World} (hgd : o.guard = none) (x y : Operand) (ho : o.op = .buildSlice 22 2 #[(0, x), (1, y)]) (u v : Oj) (hx : a.eval x = u.val) (hy : a.eval y = v.val)
    (h : wpList Tryd.prog ops Q rest (a.put o.dst (.slice (some ⟨w.heap.size, 0, none⟩) 2 2)) (w.alloc (.cells (u.cells ++ v.cells).toArray 56))) : wpList Tryd.prog ops Q (o :: rest) a w := by
  refine wpList_plain hgd fun K hK => ?_
  unfold Oper.wp
  simp [execOp, ho, hx, hy, run_bs2 w u v, Result.andThen]
  exact hK _ _ h
theorem rdo_two {w : World} {g : Nat} {t : TypeId} {u v : Oj} (h : Blk w g t (u.cells ++ v.cells).toArray) : RdO w (some ⟨g, 0, none⟩) [u, v] := fun i hi => by
  have hr := Blk.range h
  match i, hi with
  | 0, _ =>
    refine ⟨g, 0, rfl, ?_⟩
    have := range_mid (w := w) (g := g) (off := 0) (a := []) (m := u.cells) (b := v.cells) (by simpa using hr)
    exact this
  | 1, _ =>
    refine ⟨g, 0, rfl, ?_⟩
    have := range_mid (w := w) (g := g) (off := 0) (a := u.cells) (m := v.cells) (b := []) (by simpa using hr)
    rw [u.len] at this
    exact this
set_option maxRecDepth 8000 in
theorem builtOc (c : Int) : Tryd.prog.built 56 [(0, .int .i64 1), (1, .int .i64 1), (2, .int .i64 c)] = some (callsAs (oKC 1 1) c).cells.toArray := by kernel_rfl
theorem jR_right {c : Int} (h : 0 ≤ c ∧ c ≤ 4294967295) : rightP [jR c, jW] := ⟨(by decide : 1 ≤ 2), (by decide : 2 ≤ 64), two_all (jR_ok h) jW_ok⟩
set_option maxRecDepth 8000 in
theorem builtMk : Tryd.prog.built 38 [(0, .int .i64 5), (1, .string (st [104, 105]))] = some jM.cells.toArray := by kernel_rfl
set_option maxRecDepth 8000 in
theorem builtS : Tryd.prog.built 33 [(0, .int .i64 6), (1, .int .i64 1), (2, .int .i64 1)] = some (kl (jS 0)).toArray := by kernel_rfl
theorem jR0 : slotAs (oKC 1 1) 2 (nmk 1) = jR 0 := rfl
set_option maxRecDepth 100000 in
set_option maxHeartbeats 4000000 in
theorem known_any (w : World) (hT : Tab w) : Calls Tryd.prog 9 #[] w fun e w' => e = .returned (.bool true) ∧ Below w.heap.size w w' := by
  have hz := z34
  have hzl := oz_len
  have hml := jM.len
  have HT := Lib.hid hT
  have Ou0 := Lib.hid ((Blk.new w 56 oz.cells.toArray).alloc (.cells oz.cells.toArray 56))
  have Ov0 := Lib.hid (Blk.new_of (w.alloc (.cells oz.cells.toArray 56)) 56 oz.cells.toArray (g := w.heap.size + 1) (by simp))
  have HBo0 := Lib.hid (((Below.refl w.heap.size w).alloc (Nat.le_refl _) (.cells oz.cells.toArray 56)).alloc (by simp) (.cells oz.cells.toArray 56))
  have hol := (oKC 1 1).len
  have HOF := Lib.hid (fun (W : World) (A : Option Addr) (hT : Tab W) (hA : RdO W A [slotAs (oKC 1 1) 2 (nmk 1), jW]) => (of_yes (cap := 2) hT hA (jR0 ▸ jR_right (c := 0) (by decide))).mono fun e w' h => (⟨W.heap.size, h.1, Nat.le_refl _, h.2.1, h.2.2⟩ : ∃ q, e = .returned (.tuple #[pv q, .int .i64 0]) ∧ W.heap.size ≤ q ∧ (∃ A' cap' ps, StAt w' q q A' cap' ps [slotAs (oKC 1 1) 2 (nmk 1), jW]) ∧ Below W.heap.size W w'))
  have HIN := Lib.hid (fun (W : World) (base p : Nat) (A : Option Addr) (cap : Nat) (ps : List Nat) (h : StAt W base p A cap ps [slotAs (oKC 1 1) 2 (nmk 1), jW]) (hT : TabB base W) => (by
    have := inv_all h (two_all (jR_ok (c := 0) (by decide)) jW_ok) (by decide) (by decide) hT 0 (jS 0) 1 jM
    rw [jR0, inv1 (by decide) 0 (by decide) jM_q] at this
    exact this : Calls Tryd.prog 14 #[pv p, .int .i64 0, (jS 0).val, .int .i64 1, jM.val] W fun e w' => e = .returned (.int .i64 0) ∧ StAt w' base p A cap ps (L1 0 jM) ∧ Fr (fun k => k ∈ ps) W w'))
  have HTL := Lib.hid (fun (W : World) (base p : Nat) (A : Option Addr) (cap : Nat) (ps : List Nat) (h : StAt W base p A cap ps (L1 0 jM)) (hT : Tab W) => (by
    have := tol_all h (by show 0 < 2; decide) hT 1
    rw [tol1 0 (by decide) jM_q] at this
    exact this : Calls Tryd.prog 21 #[pv p, .int .i64 1] W fun e w' => e = .returned (.tuple #[jM.val, .int .i64 0]) ∧ Below W.heap.size W w'))
  have HST := Lib.hid (fun (W : World) (base p : Nat) (A : Option Addr) (cap : Nat) (ps : List Nat) (h : StAt W base p A cap ps (L1 0 jM)) => (by
    have := stt_all h (by show 0 < 2; decide) 0
    rw [st1 0 jM] at this
    exact this : Calls Tryd.prog 22 #[pv p, .int .i64 0] W fun e w' => e = .returned (.tuple #[.int .i64 2, .bool true]) ∧ Below W.heap.size W w'))
  have hmz := zM
  have hmzl := mz.len
  clear hT
  go_enter Tryd.func9, Tryd.ntmps9
  go_wp2_with (first
    | (show wpList _ _ _ (Oper.mk (some 10) (.build _ _) _ _ _ _ :: _) _ _; refine wpList_yields (S := fun _ => True) (y_build2 (by rfl) (by rfl) (builtO 1 1)) trivial ?_)
    | (show wpList _ _ _ (Oper.mk (some 11) (.build _ _) _ _ _ _ :: _) _ _; refine wpList_yields (S := fun _ => True) (y_build2 (by rfl) (by rfl) (builtO 1 1)) trivial ?_)
    | (show wpList _ _ _ (Oper.mk none (.store _ (.tmp 1) (.tmp 10)) _ _ _ _ :: _) _ _; refine wpList_store_big (l0 := Oj.cells oz) (l := Oj.cells (oKC 1 1)) Ou0.out rfl (.tmp 1) (.tmp 10) (ty := 56) rfl (by rfl) (by rfl) (by rw [Oj.len]; exact size34) (by rw [Oj.len, Oj.len]) (Oj.one _) ?_; have Ou1 := Lib.hid (Ou0.out.setRow (Oj.cells (oKC 1 1)).toArray); have Ov1 := Lib.hid (Blk.row_far (b := w.heap.size) Ov0.out (by omega) (Oj.cells (oKC 1 1)).toArray); have HBo1 := Lib.hid (below_setRow HBo0.out (show w.heap.size ≤ w.heap.size by omega) (Oj.cells (oKC 1 1)).toArray); generalize World.setRow _ _ (Oj.cells (oKC 1 1)).toArray = WA0 at Ou1 Ov1 HBo1 ⊢)
    | (show wpList _ _ _ (Oper.mk none (.store _ (.tmp 2) (.tmp 11)) _ _ _ _ :: _) _ _; refine wpList_store_big (l0 := Oj.cells oz) (l := Oj.cells (oKC 1 1)) Ov1.out rfl (.tmp 2) (.tmp 11) (ty := 56) rfl (by rfl) (by rfl) (by rw [Oj.len]; exact size34) (by rw [Oj.len, Oj.len]) (Oj.one _) ?_; have Ov2 := Lib.hid (Ov1.out.setRow (Oj.cells (oKC 1 1)).toArray); have Ou2 := Lib.hid (Blk.row_far (b := w.heap.size + 1) Ou1.out (by omega) (Oj.cells (oKC 1 1)).toArray); have HBo2 := Lib.hid (below_setRow HBo1.out (show w.heap.size ≤ w.heap.size + 1 by omega) (Oj.cells (oKC 1 1)).toArray); generalize World.setRow _ _ (Oj.cells (oKC 1 1)).toArray = WA1 at Ov2 Ou2 HBo2 ⊢)
    | (show wpList _ _ _ (Oper.mk (some 12) (.build _ _) _ _ _ _ :: _) _ _; refine wpList_yields (S := fun _ => True) (y_build2 (by rfl) (by rfl) (builtN 1 1)) trivial ?_)
    | (show wpList _ _ _ (Oper.mk (some 13) (.build _ _) _ _ _ _ :: _) _ _; refine wpList_yields (S := fun _ => True) (y_bl1 (by rfl) (.const (.int .i64 1)) (by rfl) (by rfl) (builtK1 1)) trivial ?_)
    | (show wpList _ _ _ (Oper.mk none (.store _ (.tmp 15) (.tmp 12)) _ _ _ _ :: _) _ _; refine wpList_store_in Ou2.out rfl (.tmp 15) (.tmp 12) (ty := 33) (l := kl (nmk 1)) (off := 15) (by rfl) (by rfl) (by rfl) size30 (by rw [Oj.len]; exact (by decide : 15 + 6 ≤ 163)) (kl_one _) (slot_fit (oKC 1 1) 2 (by decide) (nmk 1)) ?_; have Ou3 := Lib.hid (Ou2.out.setRow (Oj.cells (slotAs (oKC 1 1) 2 (nmk 1))).toArray); have Ov3 := Lib.hid (Blk.row_far (b := w.heap.size) Ov2.out (by omega) (Oj.cells (slotAs (oKC 1 1) 2 (nmk 1))).toArray); have HBo3 := Lib.hid (below_setRow HBo2.out (show w.heap.size ≤ w.heap.size by omega) (Oj.cells (slotAs (oKC 1 1) 2 (nmk 1))).toArray); generalize World.setRow _ _ (Oj.cells (slotAs (oKC 1 1) 2 (nmk 1))).toArray = WA2 at Ou3 Ov3 HBo3 ⊢)
    | (show wpList _ _ _ (Oper.mk none (.store _ (.tmp 17) (.tmp 13)) _ _ _ _ :: _) _ _; refine wpList_store_in Ov3.out rfl (.tmp 17) (.tmp 13) (ty := 33) (l := kl (nmk 0)) (off := 15) (by rfl) (by rfl) (by rfl) size30 (by rw [Oj.len]; exact (by decide : 15 + 6 ≤ 163)) (kl_one _) (slot_fit (oKC 1 1) 2 (by decide) (nmk 0)) ?_; have Ov4 := Lib.hid (Ov3.out.setRow (Oj.cells (slotAs (oKC 1 1) 2 (nmk 0))).toArray); have Ou4 := Lib.hid (Blk.row_far (b := w.heap.size + 1) Ou3.out (by omega) (Oj.cells (slotAs (oKC 1 1) 2 (nmk 0))).toArray); have HBo4 := Lib.hid (below_setRow HBo3.out (show w.heap.size ≤ w.heap.size + 1 by omega) (Oj.cells (slotAs (oKC 1 1) 2 (nmk 0))).toArray); generalize World.setRow _ _ (Oj.cells (slotAs (oKC 1 1) 2 (nmk 0))).toArray = WA3 at Ov4 Ou4 HBo4 ⊢)
    | (show wpList _ _ _ (Oper.mk (some 19) (.load _ _) _ _ _ _ :: _) _ _; refine wpList_yields (S := fun w' => ObAt w' (w.heap.size) 0 (slotAs (oKC 1 1) 2 (nmk 1))) (y_ob (by rfl) (.tmp 1) (by rfl) (w.heap.size) 0 (by rfl) (slotAs (oKC 1 1) 2 (nmk 1)) (fun _ h => h)) Ou4.out.ob ?_)
    | (show wpList _ _ _ (Oper.mk (some 20) (.load _ _) _ _ _ _ :: _) _ _; refine wpList_yields (S := fun w' => ObAt w' (w.heap.size + 1) 0 (slotAs (oKC 1 1) 2 (nmk 0))) (y_ob (by rfl) (.tmp 2) (by rfl) (w.heap.size + 1) 0 (by rfl) (slotAs (oKC 1 1) 2 (nmk 0)) (fun _ h => h)) Ov4.out.ob ?_)
    | (show wpList _ _ _ (Oper.mk (some 21) (.buildSlice _ _ _) _ _ _ _ :: _) _ _; refine wpList_bs2 rfl (.tmp 19) (.tmp 20) (by rfl) (slotAs (oKC 1 1) 2 (nmk 1)) (slotAs (oKC 1 1) 2 (nmk 0)) (by rfl) (by rfl) ?_; have HBs := Lib.hid (HBo4.out.alloc HBo4.out.size (.cells (Oj.cells (slotAs (oKC 1 1) 2 (nmk 1)) ++ Oj.cells (slotAs (oKC 1 1) 2 (nmk 0))).toArray 56)); have HRs := Lib.hid (rdo_two (Blk.new WA3 56 (Oj.cells (slotAs (oKC 1 1) 2 (nmk 1)) ++ Oj.cells (slotAs (oKC 1 1) 2 (nmk 0))).toArray)); clear Ou0 Ov0 HBo0 Ou1 Ov1 HBo1 Ou2 Ov2 HBo2 Ou3 Ov3 HBo3)
    | (go_at_call 20; refine (HOF.out _ _ (HT.out.below HBs.out) HRs.out).mono ?_; rintro e w1 ⟨q, rfl, hq, ⟨A1, cap1, ps1, hs⟩, b1⟩; have HB1 := Lib.hid (HBs.out.trans (b1.mono HBs.out.size)); have HS1 := Lib.hid hs; have HTB := Lib.hid (TabB.of HT.out HB1.out (Nat.le_trans HBs.out.size hq)); have HGQ := Lib.hid (Nat.le_trans HBs.out.size hq); clear b1 hs hq)
    | (show wpList _ _ _ (Oper.mk (some 26) (.build _ _) _ _ _ _ :: _) _ _; refine wpList_yields (S := fun _ => True) (y_bl3 (by rfl) (.const (.int .i64 6)) (.const (.int .i64 1)) (.const (.int .i64 1)) (by rfl) (by rfl) (by rfl) (by rfl) builtS) trivial ?_)
    | (show wpList _ _ _ (Oper.mk (some 27) (.build _ _) _ _ _ _ :: _) _ _; refine wpList_yields (S := fun _ => True) (y_build2 (by rfl) (by rfl) builtMk) trivial ?_)
    | (go_at_call 14; refine (HIN.out _ _ _ _ _ _ HS1.out HTB.out).mono ?_; rintro e w2 ⟨rfl, hs2, f2⟩; have HS2 := Lib.hid hs2; have HB2 := Lib.hid (HB1.out.trans (f2.to_below (fun k hk => by have h1 := (HS1.out.pps k hk).1; have h2 := HS1.out.base_le; have h3 := HBs.out.size; exact Nat.le_trans HGQ.out h1) HB1.out.size)); have HTW2 := Lib.hid (HTB.out.fr HS1.out f2); clear f2 hs2)
    | (go_at_call 21; refine (HTL.out _ _ _ _ _ _ HS2.out HTW2.out.tab).mono ?_; rintro e w3 ⟨rfl, b3⟩; have HB3 := Lib.hid ((HB2.out.trans (b3.mono HB2.out.size)).alloc (Nat.le_trans HB2.out.size b3.size) (.cells jM.cells.toArray 38)); have HS3 := Lib.hid ((HS2.out.below b3).alloc (.cells jM.cells.toArray 38)); have HM3 := Lib.hid (Blk.new w3 38 jM.cells.toArray); clear b3)
    | (show wpList _ _ _ (Oper.mk none (.store _ (.tmp 6) (.tmp 32)) _ _ _ _ :: _) _ _; refine wpList_store_new (l := jM.cells) (l0 := mz.cells) (ty := 38) rfl (.tmp 6) (.tmp 32) (by rfl) w3.heap.size rfl (by rfl) (by rfl) (by rw [Mg.len]; exact sizeM) (by rw [Mg.len, Mg.len]) (Mg.one _) ?_)
    | (go_at_call 22; refine (HST.out _ _ _ _ _ _ HS3.out).mono ?_; rintro e w4 ⟨rfl, b4⟩; have HB4 := Lib.hid (HB3.out.trans (b4.mono HB3.out.size)); have HM4 := Lib.hid (HM3.out.keep b4); have m0 : w4.cell? ⟨w3.heap.size, 0, none⟩ = some (.int .i64 5) := HM4.out.cell 0; have m1 : w4.cell? ⟨w3.heap.size, 1, none⟩ = some (.string ⟨#[104, 105]⟩) := HM4.out.cell 1; clear b4))
  go_ret
  exact ⟨rfl, HB4.out⟩
end Go.Proofs.YtljfddeolapeaaaDoor

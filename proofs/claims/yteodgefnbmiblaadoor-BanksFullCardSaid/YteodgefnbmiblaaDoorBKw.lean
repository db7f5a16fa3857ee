/- law 12: known: the walk. -/
import Derived.Test.YteodgefnbmiblaaDoorBMake
import Derived.Test.YteodgefnbmiblaaDoorR17
import Derived.Test.YteodgefnbmiblaaDoorR14
namespace Go.Proofs.YteodgefnbmiblaaDoor
open Go.RowKit
section
variable {w : World}
set_option maxRecDepth 8000 in
theorem run_buildSlice3 (w : World) (u1 u2 u3 : Oj) :
    (Instr.buildSlice 22 3 #[(0, u1.val), (1, u2.val), (2, u3.val)]).run Tryd.prog w = .ok (.slice (some ⟨w.heap.size, 0, none⟩) 3 3) (w.alloc (.cells (ocs [u1, u2, u3]).toArray 47)) := by
  have hz := z34 w
  have hs := run_sizeOf (P := Tryd.prog) size34 w
  have hol := oz_len
  have c1 : ∀ cs : Array Value, cs.size = 489 → Instr.fill (fun i => some (i * 163, 163)) cs [(0, u1.val), (1, u2.val), (2, u3.val)] = some (ocs [u1, u2, u3]).toArray := by
    intro cs hcs
    obtain ⟨zs⟩ := cs
    have hz : zs.length = 489 := by simpa using hcs
    have e1 : u1.val.cells.size = 163 := by show u1.cells.toArray.size = 163; rw [List.size_toArray, u1.len]
    have e2 : u2.val.cells.size = 163 := by show u2.cells.toArray.size = 163; rw [List.size_toArray, u2.len]
    have e3 : u3.val.cells.size = 163 := by show u3.cells.toArray.size = 163; rw [List.size_toArray, u3.len]
    rw [fill_one _ _ 0 u1.val _ 0 (by rw [e1]) (by rw [e1]; simp; omega)]
    rw [fill_one _ _ 1 u2.val _ 163 (by rw [e2]) (by rw [e2]; simp [e1]; omega)]
    rw [fill_one _ _ 2 u3.val _ 326 (by rw [e3]) (by rw [e3]; simp [e1, e2]; omega)]
    have c1 : u1.val.cells = u1.cells.toArray := rfl
    have c2 : u2.val.cells = u2.cells.toArray := rfl
    have c3 : u3.val.cells = u3.cells.toArray := rfl
    have l1 := u1.len
    have l2 := u2.len
    have l3 := u3.len
    simp only [Instr.fill, ocs, c1, c2, c3, List.size_toArray]
    generalize u1.cells = a at l1 ⊢
    generalize u2.cells = b at l2 ⊢
    generalize u3.cells = c at l3 ⊢
    congr 2
    simp only [l1, l2, l3, List.take_zero, List.nil_append]
    have t1 : (a ++ zs.drop (0 + 163)).take 163 = a := by rw [← l1, List.take_left]
    have d1 : (a ++ zs.drop (0 + 163)).drop (163 + 163) = zs.drop 326 := by
      rw [List.drop_append, List.drop_eq_nil_of_le (by omega), l1, List.nil_append, List.drop_drop]
    rw [t1, d1]
    have t2 : (a ++ b ++ zs.drop 326).take 326 = a ++ b := by rw [show 326 = (a ++ b).length by simp [l1, l2], List.take_left]
    have d2 : (a ++ b ++ zs.drop 326).drop (326 + 163) = [] := by
      rw [List.drop_eq_nil_of_le]
      simp [l1, l2, hz]
    rw [t2, d2]
    simp
  have h2 := c1 ((Array.range (3 * 163)).map (oz.val.cells[· % oz.val.cells.size]!)) (by simp)
  simp only [Instr.buildSlice, Sem.run_bind, run_underlying Tryd.underlying22, Result.andThen_ok, hs]
  rw [if_neg (by decide), if_neg (by decide)]
  simp only [Sem.run_bind, hz, Result.andThen_ok, Sem.run_pure, h2]
  simp [newRow, Result.andThen]
set_option maxRecDepth 8000 in
theorem wpList_buildSlice3 {ops : Array Oper} {rest : List Oper} {o : Oper} {a : Act} {Q : Exit → Act → World → Prop} (hgd : o.guard = none) (x y z : Operand) (ho : o.op = .buildSlice 22 3 #[(0, x), (1, y), (2, z)]) (u1 u2 u3 : Oj) (hx : a.eval x = u1.val) (hy : a.eval y = u2.val) (hz : a.eval z = u3.val)
    (h : wpList Tryd.prog ops Q rest (a.put o.dst (.slice (some ⟨w.heap.size, 0, none⟩) 3 3)) (w.alloc (.cells (ocs [u1, u2, u3]).toArray 47))) : wpList Tryd.prog ops Q (o :: rest) a w := by
  refine wpList_plain hgd fun K hK => ?_
  unfold Oper.wp
  simp [execOp, ho, hx, hy, hz, run_buildSlice3 w u1 u2 u3, Result.andThen]
  exact hK _ _ h
end
set_option maxRecDepth 8000 in
theorem builtO4 : Tryd.prog.built 47 [(1, .int .i64 4)] = some (oKC 0 4).cells.toArray := by kernel_rfl
set_option maxRecDepth 100000 in
set_option maxHeartbeats 1000000 in
theorem known12_aux (w : World) (hT : Tab w) (b0 b1 b2 o4 : Oj) (n1 n2 x y : Ky) (h0 : Tryd.prog.built 47 [(0, .int .i64 1), (1, .int .i64 1)] = some b0.cells.toArray) (hn1 : Tryd.prog.built 33 [(0, .int .i64 1), (5, .int .i64 1)] = some (kl n1).toArray) (hn2 : Tryd.prog.built 33 [(0, .int .i64 1), (5, .int .i64 2)] = some (kl n2).toArray)
    (e1 : slotAs b0 0 n1 = b1) (e2 : slotAs b1 1 n2 = b2) (h4 : Tryd.prog.built 47 [(1, .int .i64 4)] = some o4.cells.toArray) (hx : Tryd.prog.built 33 [(0, .int .i64 4), (2, .int .i64 1)] = some (kl x).toArray) (hy : Tryd.prog.built 33 [(0, .int .i64 2), (1, .int .i64 1), (2, .int .i64 5)] = some (kl y).toArray) (hr : rightP [b2, o4, oz]) (L : List Oj) (hm : mkA [b2, o4, oz] x 1 = (L, y, 0)) :
    Calls Tryd.prog 8 #[] w fun e w' => e = .returned (.bool true) ∧ Below w.heap.size w w' := by
  have HT := Lib.hid hT
  have HO := Lib.hid (show ∀ (W : World) (A : Option Addr), Tab W → RdO W A [b2, o4, oz] → Calls Tryd.prog 22 #[.slice A 3 3] W fun e w' => ∃ q, e = .returned (.tuple #[pv q, .int .i64 0]) ∧ W.heap.size ≤ q ∧ (∃ A' cap' ps, StAt w' q q A' cap' ps [b2, o4, oz]) ∧ Below W.heap.size W w' from fun W A hT hA => (of_yes (cap := 3) hT hA hr).mono fun e w' h => ⟨W.heap.size, h.1, Nat.le_refl _, h.2.1, h.2.2⟩)
  have HM := Lib.hid (show ∀ (W : World) (base p : Nat) (A : Option Addr) (cap : Nat) (ps : List Nat), StAt W base p A cap ps [b2, o4, oz] → TabB base W → Calls Tryd.prog 10 #[pv p, x.val, .int .i64 1] W fun e w' => e = .returned (.tuple #[y.val, .int .i64 0]) ∧ StAt w' base p A cap ps L ∧ Fr (fun k => k ∈ ps) W w' from fun W base p A cap ps h hT => by
    have := bmake_all h hr.2.2 (by decide : 0 < 3) (by decide : 3 ≤ 64) hT x 1
    rw [hm] at this
    exact this)
  have hz := z34
  have hol := oz_len
  have HB1 := Lib.hid ((Below.refl w.heap.size w).alloc (Nat.le_refl _) (.cells b2.cells.toArray 47))
  have HG1 := Lib.hid (Blk.new w 47 b2.cells.toArray)
  have HR1 := Lib.hid (show RdO ((w.alloc (.cells b2.cells.toArray 47)).alloc (.cells (ocs [b2, o4, oz]).toArray 47)) (some ⟨w.heap.size + 1, 0, none⟩) [b2, o4, oz] from (Blk.new_of (w.alloc (.cells b2.cells.toArray 47)) 47 (ocs [b2, o4, oz]).toArray (g := w.heap.size + 1) (by simp)).rdo)
  have HB2 := Lib.hid (((Below.refl w.heap.size w).alloc (Nat.le_refl _) (.cells b2.cells.toArray 47)).alloc (by simp) (.cells (ocs [b2, o4, oz]).toArray 47))
  have SZ2 := Lib.hid (show ((w.alloc (.cells b2.cells.toArray 47)).alloc (.cells (ocs [b2, o4, oz]).toArray 47)).heap.size = w.heap.size + 2 by simp)
  have H0 := Lib.hid h0
  have HN1 := Lib.hid hn1
  have HN2 := Lib.hid hn2
  have H4 := Lib.hid h4
  have HX := Lib.hid hx
  have HY := Lib.hid hy
  have E1 := Lib.hid e1
  have E2 := Lib.hid e2
  clear h0 hn1 hn2 h4 hx hy e1 e2 hr hm hT
  go_enter Tryd.func8, Tryd.ntmps8
  go_wp2_with (first
    | (show wpList _ _ _ ({ dst := some 6, op := .build _ _, type := _, pos := _, after := _, guard := _ } :: _) _ _; refine wpList_yields (S := fun _ => True) (y_build2 (by rfl) (by rfl) H0.out) trivial ?_)
    | (show wpList _ _ _ ({ dst := none, op := .store _ (.tmp 1) (.tmp 6), type := _, pos := _, after := _, guard := _ } :: _) _ _; refine wpList_store_last rfl (.tmp 1) (.tmp 6) rfl _ rfl rfl b0 oz rfl ?_)
    | (show wpList _ _ _ ({ dst := some 7, op := .build _ _, type := _, pos := _, after := _, guard := _ } :: _) _ _; refine wpList_yields (S := fun _ => True) (y_build2 (by rfl) (by rfl) HN1.out) trivial ?_)
    | (show wpList _ _ _ ({ dst := some 8, op := .build _ _, type := _, pos := _, after := _, guard := _ } :: _) _ _; refine wpList_yields (S := fun _ => True) (y_build2 (by rfl) (by rfl) HN2.out) trivial ?_)
    | (show wpList _ _ _ ({ dst := none, op := .store _ (.tmp 10) (.tmp 7), type := _, pos := _, after := _, guard := _ } :: _) _ _; refine wpList_store_slot b0 0 n1 rfl (.tmp 10) (.tmp 7) rfl w.heap.size 3 rfl rfl (by decide) rfl rfl ?_; rw [E1.out])
    | (show wpList _ _ _ ({ dst := none, op := .store _ (.tmp 12) (.tmp 8), type := _, pos := _, after := _, guard := _ } :: _) _ _; refine wpList_store_slot b1 1 n2 rfl (.tmp 12) (.tmp 8) rfl w.heap.size 9 rfl rfl (by decide) rfl rfl ?_; rw [E2.out])
    | (show wpList _ _ _ ({ dst := some 14, op := .load _ _, type := _, pos := _, after := _, guard := _ } :: _) _ _; refine wpList_yields (S := fun w' => ObAt w' w.heap.size 0 b2) (y_ob (by rfl) (.tmp 1) (by rfl) w.heap.size 0 (by rfl) b2 (fun _ h => h)) HG1.out.ob ?_)
    | (show wpList _ _ _ ({ dst := some 15, op := .build _ _, type := _, pos := _, after := _, guard := _ } :: _) _ _; refine wpList_yields (S := fun _ => True) (y_bl1 (by rfl) _ (by rfl) (by rfl) H4.out) trivial ?_)
    | (show wpList _ _ _ ({ dst := some 16, op := .build _ _, type := _, pos := _, after := _, guard := _ } :: _) _ _; refine wpList_yields (S := fun _ => True) (y_build (by rfl) (by rfl) built34) trivial ?_)
    | (show wpList _ _ _ ({ dst := some 17, op := .buildSlice _ _ _, type := _, pos := _, after := _, guard := _ } :: _) _ _; refine wpList_buildSlice3 rfl (.tmp 14) (.tmp 15) (.tmp 16) rfl b2 o4 oz rfl rfl rfl ?_)
    | (go_at_call 22; refine (HO.out _ _ (HT.out.below HB2.out) HR1.out).mono ?_; rintro e w1 ⟨q, rfl, hq, ⟨A1, cap1, ps1, hs⟩, b1⟩; have HQ := Lib.hid hq; have HB3 := Lib.hid (HB2.out.trans (b1.mono HB2.out.size)); have HS := Lib.hid hs; have HTB := Lib.hid (TabB.of (base := q) HT.out HB3.out (by have := HB2.out.size; have := HQ.out; omega)); clear b1 hs hq)
    | (show wpList _ _ _ ({ dst := some 23, op := .build _ _, type := _, pos := _, after := _, guard := _ } :: _) _ _; refine wpList_yields (S := fun _ => True) (y_build2 (by rfl) (by rfl) HX.out) trivial ?_)
    | (go_at_call 10; refine (HM.out _ _ _ _ _ _ HS.out HTB.out).mono ?_; rintro e w2 ⟨rfl, hs2, f2⟩; have HB4 := Lib.hid (HB3.out.trans ((HS.out.down f2).mono (by have := HB2.out.size; have := HQ.out; omega))); have HB5 := Lib.hid (HB4.out.alloc HB4.out.size (.cells (kl y).toArray 33)); have HG5 := Lib.hid (Blk.new w2 33 (kl y).toArray); clear hs2 f2)
    | (show wpList _ _ _ ({ dst := none, op := .store _ (.tmp 4) (.tmp 25), type := _, pos := _, after := _, guard := _ } :: _) _ _; refine wpList_store_new (l := kl y) (l0 := kl zk) (ty := 33) rfl (.tmp 4) (.tmp 25) (by rfl) _ rfl (by rfl) (by rfl) size30 rfl (kl_one _) ?_)
    | (show wpList _ _ _ ({ dst := some 30, op := .load _ _, type := _, pos := _, after := _, guard := _ } :: _) _ _; refine wpList_yields (S := fun w' => KeyAt w' w2.heap.size 0 y) (y_kyB (by rfl) (.tmp 4) (by rfl) w2.heap.size 0 (by rfl) y (fun _ h => h)) HG5.out.six ?_)
    | (show wpList _ _ _ ({ dst := some 31, op := .build _ _, type := _, pos := _, after := _, guard := _ } :: _) _ _; refine wpList_yields (S := fun _ => True) (y_bl3 (by rfl) _ _ _ (by rfl) (by rfl) (by rfl) (by rfl) HY.out) trivial ?_)
    | (show wpList _ _ _ ({ dst := some 32, op := .binOp _ _ _ _ _, type := _, pos := _, after := _, guard := _ } :: _) _ _; refine wpList_yields (S := fun _ => True) (y_kyeq (by rfl) (by rfl) y y (by rfl) (by rfl)) trivial ?_))
  go_ret
  exact ⟨rfl, HB5.out⟩
end Go.Proofs.YteodgefnbmiblaaDoor

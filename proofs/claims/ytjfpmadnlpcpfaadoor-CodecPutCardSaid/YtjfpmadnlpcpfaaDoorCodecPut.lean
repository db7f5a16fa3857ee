/- The law CodecPut returns true for every input: codec.Put of any object is the definition's. No condition but that the listed variables read as the program's own text lays them; the card ties them to it. -/
import Derived.Test.YtjfpmadnlpcpfaaDoorFr4
import Derived.Test.YtjfpmadnlpcpfaaDoorRegIn
namespace Go.Proofs.YtjfpmadnlpcpfaaDoor.codecPut
open Go.ChangeShapes Go.WideShapes Go.ChangeAt Go.RowKit
attribute [local go_sem] Oper.semAt_some
set_option maxRecDepth 100000 in
set_option maxHeartbeats 2000000 in
theorem walk_yes (w : World) (hT : Tab w) (u : Oj) (n : Int) (h : u.ok n ∧ u.fit) :
    Calls Tryd.prog 5 #[u.val, .int .i64 n] w fun e w' => e = .returned (.bool true) ∧ Below w.heap.size w w' := by
  have hz := z45
  have HT0 := Lib.hid (hT.alloc (.cells u.cells.toArray 44))
  have HG0 := Lib.hid (Blk.new w 44 u.cells.toArray)
  have HB0 := Lib.hid ((Below.refl w.heap.size w).alloc (Nat.le_refl _) (.cells u.cells.toArray 44))
  have HL := Lib.hid (show (sealN (obs u)).length = 512 from sealed_len u)
  have HA := Lib.hid (show (Tryd.prog.info? 45).map (·.size) = some (bv (sealN (obs u))).toArray.size by rw [List.size_toArray, bv_length, HL.out]; exact size45)
  have HO := Lib.hid (show (bv z512).toArray.size = (bv (sealN (obs u))).toArray.size by rw [List.size_toArray, List.size_toArray, bv_length, bv_length, HL.out]; rfl)
  have HX := Lib.hid h
  clear hT h
  go_enter Tryd.func5, Tryd.ntmps5
  go_wp2_with (first
    | (show wpList _ _ _ ({ dst := some 10, op := .load 44 (.tmp 2), type := _, pos := _, after := _, guard := _ } :: _) _ _; refine wpList_yields (S := fun w' => ObAt w' w.heap.size 0 u) (y_ob (by rfl) (.tmp 2) (by rfl) w.heap.size 0 (by rfl) u (fun _ h => h)) (HG0.out.ob) ?_)
    | (go_at_call 17; refine (cput_yes u n _ HT0.out HX.out.1 HX.out.2).mono ?_; rintro e w1 ⟨rfl, hb⟩; have HB1 := Lib.hid ((HB0.out.trans (hb.mono HB0.out.size)).alloc (Nat.le_trans HB0.out.size hb.size) (.cells (bv (sealN (obs u))).toArray 45)); have HT1 := Lib.hid ((HT0.out.below hb).alloc (.cells (bv (sealN (obs u))).toArray 45)); have HG1 := Lib.hid ((Blk.keep HG0.out hb).alloc (.cells (bv (sealN (obs u))).toArray 45)); clear hb)
    | (show wpList _ _ _ ({ dst := none, op := .store 45 (.tmp 5) (.tmp 13), type := _, pos := _, after := _, guard := _ } :: _) _ _; refine wpList_store_new rfl 45 (.tmp 5) (.tmp 13) rfl w1.heap.size rfl rfl (bv (sealN (obs u))).toArray (bv z512).toArray rfl HA.out (by first | exact HO.out | rfl) (bv_all _) ?_)
    | (show wpList _ _ _ ({ dst := some 16, op := .load 44 (.tmp 2), type := _, pos := _, after := _, guard := _ } :: _) _ _; refine wpList_yields (S := fun w' => ObAt w' w.heap.size 0 u) (y_ob (by rfl) (.tmp 2) (by rfl) w.heap.size 0 (by rfl) u (fun _ h => h)) (HG1.out.ob) ?_)
    | (go_at_call 18; refine (rcput_yes u n _ HX.out.1 HX.out.2).mono ?_; rintro e w2 ⟨rfl, hb⟩; have HB2 := Lib.hid ((HB1.out.trans (hb.mono HB1.out.size)).alloc (Nat.le_trans HB1.out.size hb.size) (.cells (bv (sealN (obs u))).toArray 45)); have HT2 := Lib.hid ((HT1.out.below hb).alloc (.cells (bv (sealN (obs u))).toArray 45)); have HS2 := Lib.hid ((Blk.keep (Blk.new w1 45 (bv (sealN (obs u))).toArray) hb).alloc (.cells (bv (sealN (obs u))).toArray 45)); clear hb)
    | (show wpList _ _ _ ({ dst := none, op := .store 45 (.tmp 7) (.tmp 19), type := _, pos := _, after := _, guard := _ } :: _) _ _; refine wpList_store_new rfl 45 (.tmp 7) (.tmp 19) rfl w2.heap.size rfl rfl (bv (sealN (obs u))).toArray (bv z512).toArray rfl HA.out (by first | exact HO.out | rfl) (bv_all _) ?_)
    | (show wpList _ _ _ ({ dst := some 21, op := .load 45 (.tmp 5), type := _, pos := _, after := _, guard := _ } :: _) _ _; refine wpList_yields (S := fun w' => w'.rangeAt w1.heap.size 0 (bv (sealN (obs u)))) (y_sec (by rfl) (.tmp 5) (by rfl) w1.heap.size 0 (by rfl) (sealN (obs u)) HL.out (fun _ h => h)) (rd_range (rd_blk (HS2.out))) ?_)
    | (show wpList _ _ _ ({ dst := some 22, op := .load 45 (.tmp 7), type := _, pos := _, after := _, guard := _ } :: _) _ _; refine wpList_yields (S := fun w' => w'.rangeAt w2.heap.size 0 (bv (sealN (obs u)))) (y_sec (by rfl) (.tmp 7) (by rfl) w2.heap.size 0 (by rfl) (sealN (obs u)) HL.out (fun _ h => h)) (rd_range (rd_blk (Blk.new w2 45 (bv (sealN (obs u))).toArray))) ?_)
    | (show wpList _ _ _ ({ dst := some 23, op := .binOp .eql 45 (.tmp 21) (.tmp 22) 45, type := _, pos := _, after := _, guard := _ } :: _) _ _; refine wpList_yields (S := fun _ => True) (y_seceq (by rfl) (by rfl) (sealN (obs u)) (sealN (obs u)) HL.out HL.out true (decide_eq_true rfl) (by rfl) (by rfl)) trivial ?_)
    | (go_at_call 13; refine (cnum_any _ _).mono ?_; rintro e y ⟨rfl, rfl⟩)
    | (go_at_call 14; refine (works_any _ HT2.out).mono ?_; rintro e w9 ⟨rfl, hb⟩; have B9 := Lib.hid (HB2.out.trans (hb.mono HB2.out.size)); clear hb))
  go_ret
  exact ⟨rfl, B9.out⟩
set_option maxRecDepth 100000 in
set_option maxHeartbeats 2000000 in
theorem walk_no (w : World) (hT : Tab w) (u : Oj) (n : Int) (h : ¬ u.ok n) :
    Calls Tryd.prog 5 #[u.val, .int .i64 n] w fun e w' => e = .returned (.bool true) ∧ Below w.heap.size w w' := by
  have hz := z45
  have HT0 := Lib.hid (hT.alloc (.cells u.cells.toArray 44))
  have HG0 := Lib.hid (Blk.new w 44 u.cells.toArray)
  have HB0 := Lib.hid ((Below.refl w.heap.size w).alloc (Nat.le_refl _) (.cells u.cells.toArray 44))
  have HL := Lib.hid (show z512.length = 512 from List.length_replicate)
  have HA := Lib.hid (show (Tryd.prog.info? 45).map (·.size) = some (bv z512).toArray.size by rw [List.size_toArray, bv_length, HL.out]; exact size45)
  have HO := Lib.hid (show (bv z512).toArray.size = (bv z512).toArray.size from rfl)
  have HX := Lib.hid h
  clear hT h
  go_enter Tryd.func5, Tryd.ntmps5
  go_wp2_with (first
    | (show wpList _ _ _ ({ dst := some 10, op := .load 44 (.tmp 2), type := _, pos := _, after := _, guard := _ } :: _) _ _; refine wpList_yields (S := fun w' => ObAt w' w.heap.size 0 u) (y_ob (by rfl) (.tmp 2) (by rfl) w.heap.size 0 (by rfl) u (fun _ h => h)) (HG0.out.ob) ?_)
    | (go_at_call 17; refine (cput_no u n _ HT0.out HX.out).mono ?_; rintro e w1 ⟨rfl, hb⟩; have HB1 := Lib.hid ((HB0.out.trans (hb.mono HB0.out.size)).alloc (Nat.le_trans HB0.out.size hb.size) (.cells (bv z512).toArray 45)); have HT1 := Lib.hid ((HT0.out.below hb).alloc (.cells (bv z512).toArray 45)); have HG1 := Lib.hid ((Blk.keep HG0.out hb).alloc (.cells (bv z512).toArray 45)); clear hb)
    | (show wpList _ _ _ ({ dst := none, op := .store 45 (.tmp 5) (.tmp 13), type := _, pos := _, after := _, guard := _ } :: _) _ _; refine wpList_store_new rfl 45 (.tmp 5) (.tmp 13) rfl w1.heap.size rfl rfl (bv z512).toArray (bv z512).toArray rfl HA.out (by first | exact HO.out | rfl) (bv_all _) ?_)
    | (show wpList _ _ _ ({ dst := some 16, op := .load 44 (.tmp 2), type := _, pos := _, after := _, guard := _ } :: _) _ _; refine wpList_yields (S := fun w' => ObAt w' w.heap.size 0 u) (y_ob (by rfl) (.tmp 2) (by rfl) w.heap.size 0 (by rfl) u (fun _ h => h)) (HG1.out.ob) ?_)
    | (go_at_call 18; refine (rcput_no u n _ HX.out).mono ?_; rintro e w2 ⟨rfl, hb⟩; have HB2 := Lib.hid ((HB1.out.trans (hb.mono HB1.out.size)).alloc (Nat.le_trans HB1.out.size hb.size) (.cells (bv z512).toArray 45)); have HT2 := Lib.hid ((HT1.out.below hb).alloc (.cells (bv z512).toArray 45)); have HS2 := Lib.hid ((Blk.keep (Blk.new w1 45 (bv z512).toArray) hb).alloc (.cells (bv z512).toArray 45)); clear hb)
    | (show wpList _ _ _ ({ dst := none, op := .store 45 (.tmp 7) (.tmp 19), type := _, pos := _, after := _, guard := _ } :: _) _ _; refine wpList_store_new rfl 45 (.tmp 7) (.tmp 19) rfl w2.heap.size rfl rfl (bv z512).toArray (bv z512).toArray rfl HA.out (by first | exact HO.out | rfl) (bv_all _) ?_)
    | (show wpList _ _ _ ({ dst := some 21, op := .load 45 (.tmp 5), type := _, pos := _, after := _, guard := _ } :: _) _ _; refine wpList_yields (S := fun w' => w'.rangeAt w1.heap.size 0 (bv z512)) (y_sec (by rfl) (.tmp 5) (by rfl) w1.heap.size 0 (by rfl) z512 HL.out (fun _ h => h)) (rd_range (rd_blk (HS2.out))) ?_)
    | (show wpList _ _ _ ({ dst := some 22, op := .load 45 (.tmp 7), type := _, pos := _, after := _, guard := _ } :: _) _ _; refine wpList_yields (S := fun w' => w'.rangeAt w2.heap.size 0 (bv z512)) (y_sec (by rfl) (.tmp 7) (by rfl) w2.heap.size 0 (by rfl) z512 HL.out (fun _ h => h)) (rd_range (rd_blk (Blk.new w2 45 (bv z512).toArray))) ?_)
    | (show wpList _ _ _ ({ dst := some 23, op := .binOp .eql 45 (.tmp 21) (.tmp 22) 45, type := _, pos := _, after := _, guard := _ } :: _) _ _; refine wpList_yields (S := fun _ => True) (y_seceq (by rfl) (by rfl) z512 z512 HL.out HL.out true (decide_eq_true rfl) (by rfl) (by rfl)) trivial ?_)
    | (go_at_call 13; refine (cnum_any _ _).mono ?_; rintro e y ⟨rfl, rfl⟩)
    | (go_at_call 14; refine (works_any _ HT2.out).mono ?_; rintro e w9 ⟨rfl, hb⟩; have B9 := Lib.hid (HB2.out.trans (hb.mono HB2.out.size)); clear hb))
  go_ret
  exact ⟨rfl, B9.out⟩
set_option maxRecDepth 8000 in
theorem walk (w : World) (hL : laidMetH Tryd.prog laidK w) (u : Oj) (hu : ∀ x ∈ u.s, x.vb) (n : Int) :
    Calls Tryd.prog 5 #[u.val, .int .i64 n] w fun e w' => e = .returned (.bool true) ∧ Below w.heap.size w w' := by
  by_cases h : u.ok n
  · exact walk_yes w (tab_of hL) u n ⟨h, ofit_of h hu⟩
  · exact walk_no w (tab_of hL) u n h
set_option maxRecDepth 100000 in
theorem lifted (os : Os) (started : os.Started) (H : Type) (enc : TypeId × Value → H) :
    ReturnsInHanded {} Tryd.checked os 5 .any (fun w args => (Rows.codecPutSpec.pre enc Tryd.prog Tryd.f5 [] false w args ∧ laidMetH Tryd.prog laidK w) ∧ sizedMet enc Tryd.prog Tryd.f5 (OpenSpec.ofChange Rows.codecPutSpec) false w args) (Rows.codecPutSpec.post enc Tryd.prog Tryd.f5 false true false false) := by
  refine returnsInHanded_of_change_and (C := Tryd.checked) (X := fun w _ => laidMetH Tryd.prog laidK w) (fun _ _ _ hh h => h.of_heap hh) own started (by kernel_rfl) Tryd.func5
    (ChangeSpec.witness_shaped (enc := enc) (C := Tryd.checked) (os := os) (X := fun w _ => laidMetH Tryd.prog laidK w) false (World.doorLaid Tryd.prog 40 os) #[.agg (List.replicate 99 (Value.int .i64 0) ++ List.replicate 64 (Value.int .u8 0)).toArray, .int .i64 0] 8 rfl (World.shaped_of_RefB (by kernel_rfl) (by kernel_rfl)) (by kernel_rfl) (by kernel_rfl) (by kernel_rfl) (door_met os _)) ?_
  intro W base args ds gs before hval0 hW _ _ hL _
  have hval : ∀ (j : Nat) t v, Tryd.f5.params[j]? = some t → args[j]? = some v → Value.okWide Tryd.prog W .any base t v := hval0
  have hW' := hW
  obtain ⟨p, q, hA0, hV, rfl, hfz, hnd⟩ := hW
  have hA : DataW.TrodAll enc Tryd.prog W 0 (fun _ => true) true Tryd.f5.params.toList args.toList ds p := hA0
  rw [Tryd.params5] at hA hval
  obtain ⟨v0, vs0, d0, ds0, p0, q0, hargs, rfl, rfl, h0, t0⟩ := trodAll_cons hA
  obtain ⟨v1, vs1, d1, ds1, p1, q1, rfl, rfl, rfl, h1, t1⟩ := trodAll_cons t0
  obtain ⟨rfl, rfl, rfl⟩ := trodAll_nil t1
  obtain rfl : args = #[v0, v1] := by cases args; simp_all
  obtain ⟨rfl, rfl⟩ := trodVars_none hV
  have k0 := h0
  have lt0 : ∀ x ∈ p0, x.block < W.heap.size := by obtain ⟨m, hm⟩ := k0; exact DataW.trod_lt m _ _ _ hm
  obtain ⟨o0, rfl, ho0⟩ := open_ob (hval 0 44 v0 rfl rfl) h0
  have k1 := h1
  have lt1 : ∀ x ∈ p1, x.block < W.heap.size := by obtain ⟨m, hm⟩ := k1; exact DataW.trod_lt m _ _ _ hm
  obtain ⟨a1, rfl, rfl, rfl, _⟩ := open_int Tryd.underlying3 (hval 1 3 v1 rfl rfl) h1
  clear hA0 hval0
  refine (walk W hL o0 ho0 a1).mono fun e W' ⟨he, bel⟩ => ?_
  subst he
  exact ⟨_, rfl, _, _, _, [], _, [], hW', trodAll_mk1 (shut_bool Tryd.underlying4 _), (trodAll_cons_mk (Below.trod laidOut (by kernel_rfl) (of_decide_eq_true (by kernel_rfl)) k0 bel lt0) (trodAll_cons_mk (Below.trod laidOut (by kernel_rfl) (of_decide_eq_true (by kernel_rfl)) k1 bel lt1) trodAll_mk0)), rfl, bel.frame _, fun h => by cases h⟩
theorem over : Rows.codecPutRow.holds Tryd.pinned (OpenSpec.ofChange Rows.codecPutSpec) :=
  OpenClaim.holds_of_wide 5 Tryd.f5 rfl rfl rfl rfl rfl rfl rfl ⟨rfl, rfl, rfl, rfl, rfl⟩ rfl rfl rfl rfl rfl (by kernel_rfl) Tryd.func5 (by kernel_rfl)
    (of_decide_eq_true (by kernel_rfl)) (by unfold Func.isWrapper; first | (rw [if_pos (by decide +kernel)]; kernel_rfl) | (rw [if_neg (by decide +kernel)]; exact ⟨rfl, rfl⟩))
    (fun os started H enc _ => lifted os started H enc)
set_option maxRecDepth 8000 in
theorem proved : Rows.CodecPutCardSaid :=
  Claim7.holds_tied_plain_at .later [] [.data] true Rows.codecPutCard.stood.harness true
    over (fun _ h => by cases h) (by kernel_rfl) (fun _ h => by cases h) codecPut_row_tie rfl ⟨rfl, rfl⟩ (by kernel_rfl) rfl
    (fun f fn hf hfn => by
      obtain rfl : f = 5 := Option.some.inj ((show Tryd.prog.funcNamed "chatelaine/chatelainelaw05.CodecPut" = some 5 by kernel_rfl).symm.trans hf) |>.symm
      obtain rfl : fn = Tryd.f5 := (Option.some.inj (Tryd.func5.symm.trans hfn)).symm
      exact ⟨by kernel_rfl, fun j t ht => by
        rw [Tryd.params5] at ht
        have hm : t ∈ [44, 3] := by simpa using Array.mem_of_getElem? ht
        have hall : ([44, 3].all fun u => !Tryd.prog.wantsStandIn u) = true := by kernel_rfl
        exact (show Tryd.prog.wantsStandIn t = false by simpa using List.all_eq_true.1 hall t hm)⟩)
    (by kernel_rfl)
end Go.Proofs.YtjfpmadnlpcpfaaDoor.codecPut

/- The law CodecSlots returns true for every input: a node's sector, by one of its keys, is the definition's. No condition but that the listed variables read as the program's own text lays them; the card ties them to it. -/
import Derived.Test.YtjfpmadnlpcpfaaDoorFr5
import Derived.Test.YtjfpmadnlpcpfaaDoorRegIn
namespace Go.Proofs.YtjfpmadnlpcpfaaDoor.codecSlots
open Go.ChangeShapes Go.WideShapes Go.ChangeAt Go.RowKit
attribute [local go_sem] Oper.semAt_some
set_option maxRecDepth 100000 in
set_option maxHeartbeats 1000000 in
theorem walk_lo (w : World) (hT : Tab w) (x : Ky) (c : Int) (s : Int) (hs : s < 0) :
    Calls Tryd.prog 9 #[x.val, .int .i64 s, .int .i64 c] w fun e w' => e = .returned (.bool true) ∧ Below w.heap.size w w' := by
  have HT0 := Lib.hid (hT.alloc (.cells (kl x).toArray 25))
  have HB0 := Lib.hid ((Below.refl w.heap.size w).alloc (Nat.le_refl _) (.cells (kl x).toArray 25))
  have d0 : decide (s < 0) = true := decide_eq_true hs
  clear hs
  clear hT
  go_enter Tryd.func9, Tryd.ntmps9
  go_wp2_with (go_at_call 14; refine (works_any _ HT0.out).mono ?_; rintro e w9 ⟨rfl, hb⟩; have B9 := Lib.hid (HB0.out.trans (hb.mono HB0.out.size)); clear hb)
  go_ret
  exact ⟨rfl, B9.out⟩
set_option maxRecDepth 100000 in
set_option maxHeartbeats 1000000 in
theorem walk_hi (w : World) (hT : Tab w) (x : Ky) (c : Int) (s : Int) (hs : 15 < s) :
    Calls Tryd.prog 9 #[x.val, .int .i64 s, .int .i64 c] w fun e w' => e = .returned (.bool true) ∧ Below w.heap.size w w' := by
  have HT0 := Lib.hid (hT.alloc (.cells (kl x).toArray 25))
  have HB0 := Lib.hid ((Below.refl w.heap.size w).alloc (Nat.le_refl _) (.cells (kl x).toArray 25))
  have d0 : decide (s < 0) = false := decide_eq_false (by omega)
  have d1 : decide (15 < s) = true := decide_eq_true hs
  clear hs
  clear hT
  go_enter Tryd.func9, Tryd.ntmps9
  go_wp2_with (go_at_call 14; refine (works_any _ HT0.out).mono ?_; rintro e w9 ⟨rfl, hb⟩; have B9 := Lib.hid (HB0.out.trans (hb.mono HB0.out.size)); clear hb)
  go_ret
  exact ⟨rfl, B9.out⟩
set_option maxRecDepth 100000 in
set_option maxHeartbeats 2000000 in
theorem walk_yes (w : World) (hT : Tab w) (x : Ky) (c : Int) (i : Nat) (hi : i < 16) (h : (os1 c i x).ok 64 ∧ (os1 c i x).fit) :
    Calls Tryd.prog 9 #[x.val, .int .i64 (i : Int), .int .i64 c] w fun e w' => e = .returned (.bool true) ∧ Below w.heap.size w w' := by
  have hz := z45
  have hz2 := z34
  have hbl := oz_len
  have HT0 := Lib.hid ((hT.alloc (.cells (kl x).toArray 25)).alloc (.cells (os1 c i x).cells.toArray 44))
  have HG0 := Lib.hid (Blk.new_of (w.alloc (.cells (kl x).toArray 25)) 44 (os1 c i x).cells.toArray (g := w.heap.size + 1) (by simp))
  have HB0 := Lib.hid (((Below.refl w.heap.size w).alloc (Nat.le_refl _) (.cells (kl x).toArray 25)).alloc (by simp) (.cells (os1 c i x).cells.toArray 44))
  obtain ⟨c0, c1, c2, c3, c4, c5⟩ := Blk.six ((Blk.new w 25 (kl x).toArray).alloc (.cells (oc c).cells.toArray 44))
  have HL := Lib.hid (show (sealN (obs (os1 c i x))).length = 512 from sealed_len _)
  have HA := Lib.hid (show (Tryd.prog.info? 45).map (·.size) = some (bv (sealN (obs (os1 c i x)))).toArray.size by rw [List.size_toArray, bv_length, HL.out]; exact size45)
  have HO := Lib.hid (show (bv z512).toArray.size = (bv (sealN (obs (os1 c i x)))).toArray.size by rw [List.size_toArray, List.size_toArray, bv_length, bv_length, HL.out]; rfl)
  have HX := Lib.hid h
  have HI := Lib.hid hi
  have i1 : ¬ ((i : Int) < 0) := by omega
  have i2 : ¬ (15 : Int) < (i : Int) := by omega
  have i3 : (i : Int) < 16 := by omega
  clear hT h
  go_enter Tryd.func9, Tryd.ntmps9
  go_wp2_with (first
    | (show wpList _ _ _ ({ dst := some 20, op := .build _ _, type := _, pos := _, after := _, guard := _ } :: _) _ _; refine wpList_yields (S := fun _ => True) (y_build_2 (.const (.int .i64 1)) (.tmp 19) (.int .i64 1) (.int .i64 c) (by rfl) rfl (by rfl) (by rfl) (built_oc c)) trivial ?_)
    | (show wpList _ _ _ ({ dst := none, op := .store 44 (.tmp 7) (.tmp 20), type := _, pos := _, after := _, guard := _ } :: _) _ _; refine wpList_store_new rfl 44 (.tmp 7) (.tmp 20) rfl (w.heap.size + 1) (by simp) rfl (oc c).cells.toArray oz.cells.toArray rfl (by rw [List.size_toArray, Oj.len]; exact size34) (by simp only [List.size_toArray, Oj.len]) (Oj.allOne _) ?_)
    | (show wpList _ _ _ ({ dst := none, op := .store 25 (.tmp 24) (.tmp 22), type := _, pos := _, after := _, guard := _ } :: _) _ _; refine wpList_store_slot1 rfl (.tmp 24) (.tmp 22) rfl (w.heap.size + 1) (by simp) c i x HI.out rfl rfl ?_; clear c0 c1 c2 c3 c4 c5)
    | (show wpList _ _ _ ({ dst := some 26, op := .load 44 (.tmp 7), type := _, pos := _, after := _, guard := _ } :: _) _ _; refine wpList_yields (S := fun w' => ObAt w' (w.heap.size + 1) 0 (os1 c i x)) (y_ob (by rfl) (.tmp 7) (by rfl) (w.heap.size + 1) 0 (by rfl) (os1 c i x) (fun _ h => h)) (HG0.out.ob) ?_)
    | (go_at_call 17; refine (cput_yes (os1 c i x) 64 _ HT0.out HX.out.1 HX.out.2).mono ?_; rintro e w1 ⟨rfl, hb⟩; have HB1 := Lib.hid ((HB0.out.trans (hb.mono HB0.out.size)).alloc (Nat.le_trans HB0.out.size hb.size) (.cells (bv (sealN (obs (os1 c i x)))).toArray 45)); have HT1 := Lib.hid ((HT0.out.below hb).alloc (.cells (bv (sealN (obs (os1 c i x)))).toArray 45)); have HG1 := Lib.hid ((Blk.keep HG0.out hb).alloc (.cells (bv (sealN (obs (os1 c i x)))).toArray 45)); clear hb)
    | (show wpList _ _ _ ({ dst := none, op := .store 45 (.tmp 8) (.tmp 28), type := _, pos := _, after := _, guard := _ } :: _) _ _; refine wpList_store_new rfl 45 (.tmp 8) (.tmp 28) rfl w1.heap.size rfl rfl (bv (sealN (obs (os1 c i x)))).toArray (bv z512).toArray rfl HA.out (by first | exact HO.out | rfl) (bv_all _) ?_)
    | (show wpList _ _ _ ({ dst := some 31, op := .load 44 (.tmp 7), type := _, pos := _, after := _, guard := _ } :: _) _ _; refine wpList_yields (S := fun w' => ObAt w' (w.heap.size + 1) 0 (os1 c i x)) (y_ob (by rfl) (.tmp 7) (by rfl) (w.heap.size + 1) 0 (by rfl) (os1 c i x) (fun _ h => h)) (HG1.out.ob) ?_)
    | (go_at_call 18; refine (rcput_yes (os1 c i x) 64 _ HX.out.1 HX.out.2).mono ?_; rintro e w2 ⟨rfl, hb⟩; have HB2 := Lib.hid ((HB1.out.trans (hb.mono HB1.out.size)).alloc (Nat.le_trans HB1.out.size hb.size) (.cells (bv (sealN (obs (os1 c i x)))).toArray 45)); have HT2 := Lib.hid ((HT1.out.below hb).alloc (.cells (bv (sealN (obs (os1 c i x)))).toArray 45)); have HS2 := Lib.hid ((Blk.keep (Blk.new w1 45 (bv (sealN (obs (os1 c i x)))).toArray) hb).alloc (.cells (bv (sealN (obs (os1 c i x)))).toArray 45)); clear hb)
    | (show wpList _ _ _ ({ dst := none, op := .store 45 (.tmp 10) (.tmp 33), type := _, pos := _, after := _, guard := _ } :: _) _ _; refine wpList_store_new rfl 45 (.tmp 10) (.tmp 33) rfl w2.heap.size rfl rfl (bv (sealN (obs (os1 c i x)))).toArray (bv z512).toArray rfl HA.out (by first | exact HO.out | rfl) (bv_all _) ?_)
    | (show wpList _ _ _ ({ dst := some 35, op := .load 45 (.tmp 8), type := _, pos := _, after := _, guard := _ } :: _) _ _; refine wpList_yields (S := fun w' => w'.rangeAt w1.heap.size 0 (bv (sealN (obs (os1 c i x))))) (y_sec (by rfl) (.tmp 8) (by rfl) w1.heap.size 0 (by rfl) (sealN (obs (os1 c i x))) HL.out (fun _ h => h)) (rd_range (rd_blk (HS2.out))) ?_)
    | (show wpList _ _ _ ({ dst := some 36, op := .load 45 (.tmp 10), type := _, pos := _, after := _, guard := _ } :: _) _ _; refine wpList_yields (S := fun w' => w'.rangeAt w2.heap.size 0 (bv (sealN (obs (os1 c i x))))) (y_sec (by rfl) (.tmp 10) (by rfl) w2.heap.size 0 (by rfl) (sealN (obs (os1 c i x))) HL.out (fun _ h => h)) (rd_range (rd_blk (Blk.new w2 45 (bv (sealN (obs (os1 c i x)))).toArray))) ?_)
    | (show wpList _ _ _ ({ dst := some 37, op := .binOp .eql 45 (.tmp 35) (.tmp 36) 45, type := _, pos := _, after := _, guard := _ } :: _) _ _; refine wpList_yields (S := fun _ => True) (y_seceq (by rfl) (by rfl) (sealN (obs (os1 c i x))) (sealN (obs (os1 c i x))) HL.out HL.out true (decide_eq_true rfl) (by rfl) (by rfl)) trivial ?_)
    | (go_at_call 13; refine (cnum_any _ _).mono ?_; rintro e y ⟨rfl, rfl⟩)
    | (go_at_call 14; refine (works_any _ HT2.out).mono ?_; rintro e w9 ⟨rfl, hb⟩; have B9 := Lib.hid (HB2.out.trans (hb.mono HB2.out.size)); clear hb))
  go_ret
  exact ⟨rfl, B9.out⟩
set_option maxRecDepth 100000 in
set_option maxHeartbeats 2000000 in
theorem walk_no (w : World) (hT : Tab w) (x : Ky) (c : Int) (i : Nat) (hi : i < 16) (h : ¬ (os1 c i x).ok 64) :
    Calls Tryd.prog 9 #[x.val, .int .i64 (i : Int), .int .i64 c] w fun e w' => e = .returned (.bool true) ∧ Below w.heap.size w w' := by
  have hz := z45
  have hz2 := z34
  have hbl := oz_len
  have HT0 := Lib.hid ((hT.alloc (.cells (kl x).toArray 25)).alloc (.cells (os1 c i x).cells.toArray 44))
  have HG0 := Lib.hid (Blk.new_of (w.alloc (.cells (kl x).toArray 25)) 44 (os1 c i x).cells.toArray (g := w.heap.size + 1) (by simp))
  have HB0 := Lib.hid (((Below.refl w.heap.size w).alloc (Nat.le_refl _) (.cells (kl x).toArray 25)).alloc (by simp) (.cells (os1 c i x).cells.toArray 44))
  obtain ⟨c0, c1, c2, c3, c4, c5⟩ := Blk.six ((Blk.new w 25 (kl x).toArray).alloc (.cells (oc c).cells.toArray 44))
  have HL := Lib.hid (show z512.length = 512 from List.length_replicate)
  have HA := Lib.hid (show (Tryd.prog.info? 45).map (·.size) = some (bv z512).toArray.size by rw [List.size_toArray, bv_length, HL.out]; exact size45)
  have HO := Lib.hid (show (bv z512).toArray.size = (bv z512).toArray.size from rfl)
  have HX := Lib.hid h
  have HI := Lib.hid hi
  have i1 : ¬ ((i : Int) < 0) := by omega
  have i2 : ¬ (15 : Int) < (i : Int) := by omega
  have i3 : (i : Int) < 16 := by omega
  clear hT h
  go_enter Tryd.func9, Tryd.ntmps9
  go_wp2_with (first
    | (show wpList _ _ _ ({ dst := some 20, op := .build _ _, type := _, pos := _, after := _, guard := _ } :: _) _ _; refine wpList_yields (S := fun _ => True) (y_build_2 (.const (.int .i64 1)) (.tmp 19) (.int .i64 1) (.int .i64 c) (by rfl) rfl (by rfl) (by rfl) (built_oc c)) trivial ?_)
    | (show wpList _ _ _ ({ dst := none, op := .store 44 (.tmp 7) (.tmp 20), type := _, pos := _, after := _, guard := _ } :: _) _ _; refine wpList_store_new rfl 44 (.tmp 7) (.tmp 20) rfl (w.heap.size + 1) (by simp) rfl (oc c).cells.toArray oz.cells.toArray rfl (by rw [List.size_toArray, Oj.len]; exact size34) (by simp only [List.size_toArray, Oj.len]) (Oj.allOne _) ?_)
    | (show wpList _ _ _ ({ dst := none, op := .store 25 (.tmp 24) (.tmp 22), type := _, pos := _, after := _, guard := _ } :: _) _ _; refine wpList_store_slot1 rfl (.tmp 24) (.tmp 22) rfl (w.heap.size + 1) (by simp) c i x HI.out rfl rfl ?_; clear c0 c1 c2 c3 c4 c5)
    | (show wpList _ _ _ ({ dst := some 26, op := .load 44 (.tmp 7), type := _, pos := _, after := _, guard := _ } :: _) _ _; refine wpList_yields (S := fun w' => ObAt w' (w.heap.size + 1) 0 (os1 c i x)) (y_ob (by rfl) (.tmp 7) (by rfl) (w.heap.size + 1) 0 (by rfl) (os1 c i x) (fun _ h => h)) (HG0.out.ob) ?_)
    | (go_at_call 17; refine (cput_no (os1 c i x) 64 _ HT0.out HX.out).mono ?_; rintro e w1 ⟨rfl, hb⟩; have HB1 := Lib.hid ((HB0.out.trans (hb.mono HB0.out.size)).alloc (Nat.le_trans HB0.out.size hb.size) (.cells (bv z512).toArray 45)); have HT1 := Lib.hid ((HT0.out.below hb).alloc (.cells (bv z512).toArray 45)); have HG1 := Lib.hid ((Blk.keep HG0.out hb).alloc (.cells (bv z512).toArray 45)); clear hb)
    | (show wpList _ _ _ ({ dst := none, op := .store 45 (.tmp 8) (.tmp 28), type := _, pos := _, after := _, guard := _ } :: _) _ _; refine wpList_store_new rfl 45 (.tmp 8) (.tmp 28) rfl w1.heap.size rfl rfl (bv z512).toArray (bv z512).toArray rfl HA.out (by first | exact HO.out | rfl) (bv_all _) ?_)
    | (show wpList _ _ _ ({ dst := some 31, op := .load 44 (.tmp 7), type := _, pos := _, after := _, guard := _ } :: _) _ _; refine wpList_yields (S := fun w' => ObAt w' (w.heap.size + 1) 0 (os1 c i x)) (y_ob (by rfl) (.tmp 7) (by rfl) (w.heap.size + 1) 0 (by rfl) (os1 c i x) (fun _ h => h)) (HG1.out.ob) ?_)
    | (go_at_call 18; refine (rcput_no (os1 c i x) 64 _ HX.out).mono ?_; rintro e w2 ⟨rfl, hb⟩; have HB2 := Lib.hid ((HB1.out.trans (hb.mono HB1.out.size)).alloc (Nat.le_trans HB1.out.size hb.size) (.cells (bv z512).toArray 45)); have HT2 := Lib.hid ((HT1.out.below hb).alloc (.cells (bv z512).toArray 45)); have HS2 := Lib.hid ((Blk.keep (Blk.new w1 45 (bv z512).toArray) hb).alloc (.cells (bv z512).toArray 45)); clear hb)
    | (show wpList _ _ _ ({ dst := none, op := .store 45 (.tmp 10) (.tmp 33), type := _, pos := _, after := _, guard := _ } :: _) _ _; refine wpList_store_new rfl 45 (.tmp 10) (.tmp 33) rfl w2.heap.size rfl rfl (bv z512).toArray (bv z512).toArray rfl HA.out (by first | exact HO.out | rfl) (bv_all _) ?_)
    | (show wpList _ _ _ ({ dst := some 35, op := .load 45 (.tmp 8), type := _, pos := _, after := _, guard := _ } :: _) _ _; refine wpList_yields (S := fun w' => w'.rangeAt w1.heap.size 0 (bv z512)) (y_sec (by rfl) (.tmp 8) (by rfl) w1.heap.size 0 (by rfl) z512 HL.out (fun _ h => h)) (rd_range (rd_blk (HS2.out))) ?_)
    | (show wpList _ _ _ ({ dst := some 36, op := .load 45 (.tmp 10), type := _, pos := _, after := _, guard := _ } :: _) _ _; refine wpList_yields (S := fun w' => w'.rangeAt w2.heap.size 0 (bv z512)) (y_sec (by rfl) (.tmp 10) (by rfl) w2.heap.size 0 (by rfl) z512 HL.out (fun _ h => h)) (rd_range (rd_blk (Blk.new w2 45 (bv z512).toArray))) ?_)
    | (show wpList _ _ _ ({ dst := some 37, op := .binOp .eql 45 (.tmp 35) (.tmp 36) 45, type := _, pos := _, after := _, guard := _ } :: _) _ _; refine wpList_yields (S := fun _ => True) (y_seceq (by rfl) (by rfl) z512 z512 HL.out HL.out true (decide_eq_true rfl) (by rfl) (by rfl)) trivial ?_)
    | (go_at_call 13; refine (cnum_any _ _).mono ?_; rintro e y ⟨rfl, rfl⟩)
    | (go_at_call 14; refine (works_any _ HT2.out).mono ?_; rintro e w9 ⟨rfl, hb⟩; have B9 := Lib.hid (HB2.out.trans (hb.mono HB2.out.size)); clear hb))
  go_ret
  exact ⟨rfl, B9.out⟩
set_option maxRecDepth 8000 in
theorem walk (w : World) (hL : laidMetH Tryd.prog laidK w) (x : Ky) (hx : x.vb) (s c : Int) :
    Calls Tryd.prog 9 #[x.val, .int .i64 s, .int .i64 c] w fun e w' => e = .returned (.bool true) ∧ Below w.heap.size w w' := by
  by_cases h0 : s < 0
  · exact walk_lo w (tab_of hL) x c s h0
  by_cases h1 : 15 < s
  · exact walk_hi w (tab_of hL) x c s h1
  obtain ⟨i, rfl⟩ := Int.eq_ofNat_of_zero_le (show 0 ≤ s by omega)
  have hi : i < 16 := by omega
  by_cases h : (os1 c i x).ok 64
  · exact walk_yes w (tab_of hL) x c i hi ⟨h, ofit_of h (os1_vb c i x hx)⟩
  · exact walk_no w (tab_of hL) x c i hi h
set_option maxRecDepth 100000 in
theorem lifted (os : Os) (started : os.Started) (H : Type) (enc : TypeId × Value → H) :
    ReturnsInHanded {} Tryd.checked os 9 .any (fun w args => (Rows.codecSlotsSpec.pre enc Tryd.prog Tryd.f9 [] false w args ∧ laidMetH Tryd.prog laidK w) ∧ sizedMet enc Tryd.prog Tryd.f9 (OpenSpec.ofChange Rows.codecSlotsSpec) false w args) (Rows.codecSlotsSpec.post enc Tryd.prog Tryd.f9 false true false false) := by
  refine returnsInHanded_of_change_and (C := Tryd.checked) (X := fun w _ => laidMetH Tryd.prog laidK w) (fun _ _ _ hh h => h.of_heap hh) own started (by kernel_rfl) Tryd.func9
    (ChangeSpec.witness_shaped (enc := enc) (C := Tryd.checked) (os := os) (X := fun w _ => laidMetH Tryd.prog laidK w) false (World.doorLaid Tryd.prog 40 os) #[.agg #[.int .i64 0, .int .i64 0, .int .i64 0, .int .i64 0, .int .i64 0, .int .i64 0], .int .i64 0, .int .i64 0] 8 rfl (World.shaped_of_RefB (by kernel_rfl) (by kernel_rfl)) (by kernel_rfl) (by kernel_rfl) (by kernel_rfl) (door_met os _)) ?_
  intro W base args ds gs before hval0 hW _ _ hL _
  have hval : ∀ (j : Nat) t v, Tryd.f9.params[j]? = some t → args[j]? = some v → Value.okWide Tryd.prog W .any base t v := hval0
  have hW' := hW
  obtain ⟨p, q, hA0, hV, rfl, hfz, hnd⟩ := hW
  have hA : DataW.TrodAll enc Tryd.prog W 0 (fun _ => true) true Tryd.f9.params.toList args.toList ds p := hA0
  rw [Tryd.params9] at hA hval
  obtain ⟨v0, vs0, d0, ds0, p0, q0, hargs, rfl, rfl, h0, t0⟩ := trodAll_cons hA
  obtain ⟨v1, vs1, d1, ds1, p1, q1, rfl, rfl, rfl, h1, t1⟩ := trodAll_cons t0
  obtain ⟨v2, vs2, d2, ds2, p2, q2, rfl, rfl, rfl, h2, t2⟩ := trodAll_cons t1
  obtain ⟨rfl, rfl, rfl⟩ := trodAll_nil t2
  obtain rfl : args = #[v0, v1, v2] := by cases args; simp_all
  obtain ⟨rfl, rfl⟩ := trodVars_none hV
  have k0 := h0
  have lt0 : ∀ x ∈ p0, x.block < W.heap.size := by obtain ⟨m, hm⟩ := k0; exact DataW.trod_lt m _ _ _ hm
  obtain ⟨x0, rfl, hx0⟩ := open_keyv (hval 0 25 v0 rfl rfl) h0
  have k1 := h1
  have lt1 : ∀ x ∈ p1, x.block < W.heap.size := by obtain ⟨m, hm⟩ := k1; exact DataW.trod_lt m _ _ _ hm
  obtain ⟨a1, rfl, rfl, rfl, _⟩ := open_int Tryd.underlying3 (hval 1 3 v1 rfl rfl) h1
  have k2 := h2
  have lt2 : ∀ x ∈ p2, x.block < W.heap.size := by obtain ⟨m, hm⟩ := k2; exact DataW.trod_lt m _ _ _ hm
  obtain ⟨a2, rfl, rfl, rfl, _⟩ := open_int Tryd.underlying2 (hval 2 2 v2 rfl rfl) h2
  clear hA0 hval0
  refine (walk W hL x0 hx0 a1 a2).mono fun e W' ⟨he, bel⟩ => ?_
  subst he
  exact ⟨_, rfl, _, _, _, [], _, [], hW', trodAll_mk1 (shut_bool Tryd.underlying4 _), (trodAll_cons_mk (Below.trod laidOut (by kernel_rfl) (of_decide_eq_true (by kernel_rfl)) k0 bel lt0) (trodAll_cons_mk (Below.trod laidOut (by kernel_rfl) (of_decide_eq_true (by kernel_rfl)) k1 bel lt1) (trodAll_cons_mk (Below.trod laidOut (by kernel_rfl) (of_decide_eq_true (by kernel_rfl)) k2 bel lt2) trodAll_mk0))), rfl, bel.frame _, fun h => by cases h⟩
theorem over : Rows.codecSlotsRow.holds Tryd.pinned (OpenSpec.ofChange Rows.codecSlotsSpec) :=
  OpenClaim.holds_of_wide 9 Tryd.f9 rfl rfl rfl rfl rfl rfl rfl ⟨rfl, rfl, rfl, rfl, rfl⟩ rfl rfl rfl rfl rfl (by kernel_rfl) Tryd.func9 (by kernel_rfl)
    (of_decide_eq_true (by kernel_rfl)) (by unfold Func.isWrapper; first | (rw [if_pos (by decide +kernel)]; kernel_rfl) | (rw [if_neg (by decide +kernel)]; exact ⟨rfl, rfl⟩))
    (fun os started H enc _ => lifted os started H enc)
set_option maxRecDepth 8000 in
theorem proved : Rows.CodecSlotsCardSaid :=
  Claim7.holds_tied_plain_at .later [] [.data] true Rows.codecSlotsCard.stood.harness true
    over (fun _ h => by cases h) (by kernel_rfl) (fun _ h => by cases h) codecSlots_row_tie rfl ⟨rfl, rfl⟩ (by kernel_rfl) rfl
    (fun f fn hf hfn => by
      obtain rfl : f = 9 := Option.some.inj ((show Tryd.prog.funcNamed "chatelaine/chatelainelaw05.CodecSlots" = some 9 by kernel_rfl).symm.trans hf) |>.symm
      obtain rfl : fn = Tryd.f9 := (Option.some.inj (Tryd.func9.symm.trans hfn)).symm
      exact ⟨by kernel_rfl, fun j t ht => by
        rw [Tryd.params9] at ht
        have hm : t ∈ [25, 3, 2] := by simpa using Array.mem_of_getElem? ht
        have hall : ([25, 3, 2].all fun u => !Tryd.prog.wantsStandIn u) = true := by kernel_rfl
        exact (show Tryd.prog.wantsStandIn t = false by simpa using List.all_eq_true.1 hall t hm)⟩)
    (by kernel_rfl)
end Go.Proofs.YtjfpmadnlpcpfaaDoor.codecSlots

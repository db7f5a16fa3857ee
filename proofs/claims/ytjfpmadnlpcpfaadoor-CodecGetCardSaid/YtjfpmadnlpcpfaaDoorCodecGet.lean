/- The law CodecGet returns true for every input: codec.Get of any sector is the definition's. No condition but that the listed variables read as the program's own text lays them; the card ties them to it. -/
import Derived.Test.YtjfpmadnlpcpfaaDoorFr9
import Derived.Test.YtjfpmadnlpcpfaaDoorRegIn
namespace Go.Proofs.YtjfpmadnlpcpfaaDoor.codecGet
open Go.ChangeShapes Go.WideShapes Go.ChangeAt Go.RowKit
attribute [local go_sem] Oper.semAt_some
set_option maxRecDepth 100000 in
set_option maxHeartbeats 4000000 in
theorem walk_any (w : World) (hT : Tab w) (l : List UInt8) (hl : l.length = 512) (n : Int) (v : Oj) (e0 : Int)
    (H1 : ∀ (W : World), Tab W → Calls Tryd.prog 19 #[sv l, .int .i64 n] W fun e w' => e = .returned (.tuple #[v.val, .int .i64 e0]) ∧ Below W.heap.size W w')
    (H2 : ∀ (W : World), Calls Tryd.prog 20 #[sv l, .int .i64 n] W fun e w' => e = .returned (.tuple #[v.val, .int .i64 e0]) ∧ Below W.heap.size W w') :
    Calls Tryd.prog 6 #[sv l, .int .i64 n] w fun e w' => e = .returned (.bool true) ∧ Below w.heap.size w w' := by
  have hz := z34
  have hbl := oz_len
  have HT0 := Lib.hid (hT.alloc (.cells (bv l).toArray 45))
  have HB0 := Lib.hid ((Below.refl w.heap.size w).alloc (Nat.le_refl _) (.cells (bv l).toArray 45))
  have HS0 := Lib.hid (Blk.new w 45 (bv l).toArray)
  have HL := Lib.hid hl
  have HH1 := Lib.hid H1
  have HH2 := Lib.hid H2
  clear hT hl H1 H2
  go_enter Tryd.func6, Tryd.ntmps6
  go_wp2_with (first
    | (show wpList _ _ _ ({ dst := some 10, op := .load 45 (.tmp 2), type := _, pos := _, after := _, guard := _ } :: _) _ _; refine wpList_yields (S := fun w' => w'.rangeAt (w.heap.size) 0 (bv l)) (y_sec (by rfl) (.tmp 2) (by rfl) (w.heap.size) 0 (by rfl) l HL.out (fun _ h => h)) (rd_range (rd_blk HS0.out)) ?_)
    | (go_at_call 19; refine (HH1.out _ HT0.out).mono ?_; rintro e w3 ⟨rfl, hb⟩; have HB3 := Lib.hid ((HB0.out.trans (hb.mono HB0.out.size)).alloc (Nat.le_trans HB0.out.size hb.size) (.cells v.cells.toArray 44)); have HT3 := Lib.hid ((HT0.out.below hb).alloc (.cells v.cells.toArray 44)); have HS3 := Lib.hid ((Blk.keep HS0.out hb).alloc (.cells v.cells.toArray 44)); clear hb)
    | (show wpList _ _ _ ({ dst := none, op := .store 44 (.tmp 5) (.tmp 13), type := _, pos := _, after := _, guard := _ } :: _) _ _; refine wpList_store_new rfl 44 (.tmp 5) (.tmp 13) rfl w3.heap.size rfl rfl v.cells.toArray oz.cells.toArray rfl (by rw [List.size_toArray, Oj.len]; exact size34) (by simp only [List.size_toArray, Oj.len]) (Oj.allOne _) ?_)
    | (show wpList _ _ _ ({ dst := some 16, op := .load 45 (.tmp 2), type := _, pos := _, after := _, guard := _ } :: _) _ _; refine wpList_yields (S := fun w' => w'.rangeAt (w.heap.size) 0 (bv l)) (y_sec (by rfl) (.tmp 2) (by rfl) (w.heap.size) 0 (by rfl) l HL.out (fun _ h => h)) (rd_range (rd_blk HS3.out)) ?_)
    | (go_at_call 20; refine (HH2.out _).mono ?_; rintro e w4 ⟨rfl, hb⟩; have HB4 := Lib.hid ((HB3.out.trans (hb.mono HB3.out.size)).alloc (Nat.le_trans HB3.out.size hb.size) (.cells v.cells.toArray 44)); have HT4 := Lib.hid ((HT3.out.below hb).alloc (.cells v.cells.toArray 44)); have HO4 := Lib.hid ((Blk.keep (Blk.new w3 44 v.cells.toArray) hb).alloc (.cells v.cells.toArray 44)); clear hb)
    | (show wpList _ _ _ ({ dst := none, op := .store 44 (.tmp 7) (.tmp 19), type := _, pos := _, after := _, guard := _ } :: _) _ _; refine wpList_store_new rfl 44 (.tmp 7) (.tmp 19) rfl w4.heap.size rfl rfl v.cells.toArray oz.cells.toArray rfl (by rw [List.size_toArray, Oj.len]; exact size34) (by simp only [List.size_toArray, Oj.len]) (Oj.allOne _) ?_)
    | (show wpList _ _ _ ({ dst := some 21, op := .load 44 (.tmp 5), type := _, pos := _, after := _, guard := _ } :: _) _ _; refine wpList_yields (S := fun w' => ObAt w' w3.heap.size 0 v) (y_ob (by rfl) (.tmp 5) (by rfl) w3.heap.size 0 (by rfl) v (fun _ h => h)) (HO4.out.ob) ?_)
    | (show wpList _ _ _ ({ dst := some 22, op := .load 44 (.tmp 7), type := _, pos := _, after := _, guard := _ } :: _) _ _; refine wpList_yields (S := fun w' => ObAt w' w4.heap.size 0 v) (y_ob (by rfl) (.tmp 7) (by rfl) w4.heap.size 0 (by rfl) v (fun _ h => h)) (Blk.ob (Blk.new w4 44 v.cells.toArray)) ?_)
    | (show wpList _ _ _ ({ dst := some 23, op := .binOp .eql 44 (.tmp 21) (.tmp 22) 44, type := _, pos := _, after := _, guard := _ } :: _) _ _; refine wpList_yields (S := fun _ => True) (y_obeq_self (by rfl) (by rfl) v (by rfl) (by rfl)) trivial ?_)
    | (go_at_call 13; refine (cnum_any _ _).mono ?_; rintro e y ⟨rfl, rfl⟩)
    | (go_at_call 14; refine (works_any _ HT4.out).mono ?_; rintro e w9 ⟨rfl, hb⟩; have B9 := Lib.hid (HB4.out.trans (hb.mono HB4.out.size)); clear hb))
  go_ret
  exact ⟨rfl, B9.out⟩
set_option maxRecDepth 8000 in
theorem walk (w : World) (hL : laidMetH Tryd.prog laidK w) (l : List UInt8) (hl : l.length = 512) (n : Int) :
    Calls Tryd.prog 6 #[sv l, .int .i64 n] w fun e w' => e = .returned (.bool true) ∧ Below w.heap.size w w' := by
  obtain ⟨v, e0, h1, h2⟩ := get_both l hl n
  exact walk_any w (tab_of hL) l hl n v e0 h1 h2
set_option maxRecDepth 100000 in
theorem lifted (os : Os) (started : os.Started) (H : Type) (enc : TypeId × Value → H) :
    ReturnsInHanded {} Tryd.checked os 6 .any (fun w args => (Rows.codecGetSpec.pre enc Tryd.prog Tryd.f6 [] false w args ∧ laidMetH Tryd.prog laidK w) ∧ sizedMet enc Tryd.prog Tryd.f6 (OpenSpec.ofChange Rows.codecGetSpec) false w args) (Rows.codecGetSpec.post enc Tryd.prog Tryd.f6 false true false false) := by
  refine returnsInHanded_of_change_and (C := Tryd.checked) (X := fun w _ => laidMetH Tryd.prog laidK w) (fun _ _ _ hh h => h.of_heap hh) own started (by kernel_rfl) Tryd.func6
    (ChangeSpec.witness_shaped (enc := enc) (C := Tryd.checked) (os := os) (X := fun w _ => laidMetH Tryd.prog laidK w) false (World.doorLaid Tryd.prog 40 os) #[.agg (List.replicate 512 (Value.int .u8 0)).toArray, .int .i64 0] 8 rfl (World.shaped_of_RefB (by kernel_rfl) (by kernel_rfl)) (by kernel_rfl) (by kernel_rfl) (by kernel_rfl) (door_met os _)) ?_
  intro W base args ds gs before hval0 hW _ _ hL _
  have hval : ∀ (j : Nat) t v, Tryd.f6.params[j]? = some t → args[j]? = some v → Value.okWide Tryd.prog W .any base t v := hval0
  have hW' := hW
  obtain ⟨p, q, hA0, hV, rfl, hfz, hnd⟩ := hW
  have hA : DataW.TrodAll enc Tryd.prog W 0 (fun _ => true) true Tryd.f6.params.toList args.toList ds p := hA0
  rw [Tryd.params6] at hA hval
  obtain ⟨v0, vs0, d0, ds0, p0, q0, hargs, rfl, rfl, h0, t0⟩ := trodAll_cons hA
  obtain ⟨v1, vs1, d1, ds1, p1, q1, rfl, rfl, rfl, h1, t1⟩ := trodAll_cons t0
  obtain ⟨rfl, rfl, rfl⟩ := trodAll_nil t1
  obtain rfl : args = #[v0, v1] := by cases args; simp_all
  obtain ⟨rfl, rfl⟩ := trodVars_none hV
  have k0 := h0
  have lt0 : ∀ x ∈ p0, x.block < W.heap.size := by obtain ⟨m, hm⟩ := k0; exact DataW.trod_lt m _ _ _ hm
  obtain ⟨l0, rfl, hl0⟩ := open_sec (hval 0 45 v0 rfl rfl) h0
  have k1 := h1
  have lt1 : ∀ x ∈ p1, x.block < W.heap.size := by obtain ⟨m, hm⟩ := k1; exact DataW.trod_lt m _ _ _ hm
  obtain ⟨a1, rfl, rfl, rfl, _⟩ := open_int Tryd.underlying3 (hval 1 3 v1 rfl rfl) h1
  clear hA0 hval0
  refine (walk W hL l0 hl0 a1).mono fun e W' ⟨he, bel⟩ => ?_
  subst he
  exact ⟨_, rfl, _, _, _, [], _, [], hW', trodAll_mk1 (shut_bool Tryd.underlying4 _), (trodAll_cons_mk (Below.trod laidOut (by kernel_rfl) (of_decide_eq_true (by kernel_rfl)) k0 bel lt0) (trodAll_cons_mk (Below.trod laidOut (by kernel_rfl) (of_decide_eq_true (by kernel_rfl)) k1 bel lt1) trodAll_mk0)), rfl, bel.frame _, fun h => by cases h⟩
theorem over : Rows.codecGetRow.holds Tryd.pinned (OpenSpec.ofChange Rows.codecGetSpec) :=
  OpenClaim.holds_of_wide 6 Tryd.f6 rfl rfl rfl rfl rfl rfl rfl ⟨rfl, rfl, rfl, rfl, rfl⟩ rfl rfl rfl rfl rfl (by kernel_rfl) Tryd.func6 (by kernel_rfl)
    (of_decide_eq_true (by kernel_rfl)) (by unfold Func.isWrapper; first | (rw [if_pos (by decide +kernel)]; kernel_rfl) | (rw [if_neg (by decide +kernel)]; exact ⟨rfl, rfl⟩))
    (fun os started H enc _ => lifted os started H enc)
set_option maxRecDepth 8000 in
theorem proved : Rows.CodecGetCardSaid :=
  Claim7.holds_tied_plain_at .later [] [.data] true Rows.codecGetCard.stood.harness true
    over (fun _ h => by cases h) (by kernel_rfl) (fun _ h => by cases h) codecGet_row_tie rfl ⟨rfl, rfl⟩ (by kernel_rfl) rfl
    (fun f fn hf hfn => by
      obtain rfl : f = 6 := Option.some.inj ((show Tryd.prog.funcNamed "chatelaine/chatelainelaw05.CodecGet" = some 6 by kernel_rfl).symm.trans hf) |>.symm
      obtain rfl : fn = Tryd.f6 := (Option.some.inj (Tryd.func6.symm.trans hfn)).symm
      exact ⟨by kernel_rfl, fun j t ht => by
        rw [Tryd.params6] at ht
        have hm : t ∈ [45, 3] := by simpa using Array.mem_of_getElem? ht
        have hall : ([45, 3].all fun u => !Tryd.prog.wantsStandIn u) = true := by kernel_rfl
        exact (show Tryd.prog.wantsStandIn t = false by simpa using List.all_eq_true.1 hall t hm)⟩)
    (by kernel_rfl)
end Go.Proofs.YtjfpmadnlpcpfaaDoor.codecGet

/- The law CodecPutKey returns true for every input: codec.PutKey of any key is the definition's. No condition but that the listed variables read as the program's own text lays them; the card ties them to it. -/
import Derived.Test.YtmfphiljhllaeaaDoorZW
import Derived.Test.YtmfphiljhllaeaaDoorRegIn
namespace Go.Proofs.YtmfphiljhllaeaaDoor.codecPutKey
open Go.ChangeShapes Go.WideShapes Go.ChangeAt Go.RowKit
attribute [local go_sem] Oper.semAt_some
set_option maxRecDepth 100000 in
set_option maxHeartbeats 1000000 in
theorem walk_yes (w : World) (hT : Tab w) (x : Ky) (h : x.ok ∧ x.fit) :
    Calls Tryd.prog 3 #[x.val] w fun e w' => e = .returned (.bool true) ∧ Below w.heap.size w w' := by
  have HT := Lib.hid (hT.alloc (.cells (kl x).toArray 25))
  have HK := Lib.hid (Blk.new w 25 (kl x).toArray)
  have HB := Lib.hid ((Below.refl w.heap.size w).alloc (Nat.le_refl _) (.cells (kl x).toArray 25))
  have HX := Lib.hid h
  have hq : ((st (kbs x)).toList == (st (kbs x)).toList) = true := st_beq rfl
  clear hT h
  go_enter Tryd.func3, Tryd.ntmps3
  go_wp2_with (first
    | (go_at_call 11; refine (putkey_yes x _ HT.out HX.out.1 HX.out.2).mono ?_; rintro e w1 ⟨v, rfl, ho, hb⟩; obtain ⟨D, cp, rfl, -, -, -, hrd, -⟩ := own_cell (by decide) ho; have B1 := Lib.hid (HB.out.trans (hb.mono HB.out.size)); have T1 := Lib.hid (HT.out.below hb); have D1 := Lib.hid hrd; obtain ⟨c0, c1, c2, c3, c4, c5⟩ := Blk.six (Blk.keep HK.out hb); clear ho hb hrd)
    | (go_at_call 12; refine (rputkey_yes x HX.out.1 HX.out.2 _).mono ?_; rintro e w2 ⟨v, rfl, ho, hb⟩; obtain ⟨D', cp', rfl, -, -, -, hrd, -⟩ := own_cell (by decide) ho; have B2 := Lib.hid (B1.out.trans (hb.mono B1.out.size)); have T2 := Lib.hid (T1.out.below hb); have s1 := str26 (c := cp) (kbs_length x) (D1.out.below hb); have s2 := str26 (c := cp') (kbs_length x) hrd; clear ho hb hrd c0 c1 c2 c3 c4 c5)
    | (go_at_call 13; refine (cnum_any _ _).mono ?_; rintro e y ⟨rfl, rfl⟩)
    | (go_at_call 14; refine (works_any _ T2.out).mono ?_; rintro e w9 ⟨rfl, hb⟩; have B9 := Lib.hid (B2.out.trans (hb.mono B2.out.size)); clear hb))
  go_ret
  exact ⟨rfl, B9.out⟩
set_option maxRecDepth 100000 in
set_option maxHeartbeats 1000000 in
theorem walk_no (w : World) (hT : Tab w) (x : Ky) (h : ¬ x.ok) :
    Calls Tryd.prog 3 #[x.val] w fun e w' => e = .returned (.bool true) ∧ Below w.heap.size w w' := by
  have HT := Lib.hid (hT.alloc (.cells (kl x).toArray 25))
  have HK := Lib.hid (Blk.new w 25 (kl x).toArray)
  have HB := Lib.hid ((Below.refl w.heap.size w).alloc (Nat.le_refl _) (.cells (kl x).toArray 25))
  have HX := Lib.hid h
  have hq : ((st ([])).toList == (st ([])).toList) = true := st_beq rfl
  clear hT h
  go_enter Tryd.func3, Tryd.ntmps3
  go_wp2_with (first
    | (go_at_call 11; refine (putkey_no x _ HT.out HX.out).mono ?_; rintro e w1 ⟨rfl, hb⟩; have B1 := Lib.hid (HB.out.trans (hb.mono HB.out.size)); have T1 := Lib.hid (HT.out.below hb); obtain ⟨c0, c1, c2, c3, c4, c5⟩ := Blk.six (Blk.keep HK.out hb); clear hb)
    | (go_at_call 12; refine (rputkey_no x HX.out _).mono ?_; rintro e w2 ⟨rfl, hb⟩; have B2 := Lib.hid (B1.out.trans (hb.mono B1.out.size)); have T2 := Lib.hid (T1.out.below hb); have s1 := str26 (w := w2) (A := none) (n := 0) (c := 0) (l := []) rfl Rd.none_; clear hb c0 c1 c2 c3 c4 c5)
    | (go_at_call 13; refine (cnum_any _ _).mono ?_; rintro e y ⟨rfl, rfl⟩)
    | (go_at_call 14; refine (works_any _ T2.out).mono ?_; rintro e w9 ⟨rfl, hb⟩; have B9 := Lib.hid (B2.out.trans (hb.mono B2.out.size)); clear hb))
  go_ret
  exact ⟨rfl, B9.out⟩
set_option maxRecDepth 8000 in
theorem walk (w : World) (hL : laidMetH Tryd.prog laidK w) (x : Ky) (hx : x.vb) :
    Calls Tryd.prog 3 #[x.val] w fun e w' => e = .returned (.bool true) ∧ Below w.heap.size w w' := by
  by_cases h : x.ok
  · exact walk_yes w (tab_of hL) x ⟨h, fit_of h hx.1 hx.2⟩
  · exact walk_no w (tab_of hL) x h
set_option maxRecDepth 100000 in
theorem lifted (os : Os) (started : os.Started) (H : Type) (enc : TypeId × Value → H) :
    ReturnsInHanded {} Tryd.checked os 3 .any (fun w args => (Rows.codecPutKeySpec.pre enc Tryd.prog Tryd.f3 [] false w args ∧ laidMetH Tryd.prog laidK w) ∧ sizedMet enc Tryd.prog Tryd.f3 (OpenSpec.ofChange Rows.codecPutKeySpec) false w args) (Rows.codecPutKeySpec.post enc Tryd.prog Tryd.f3 false true false false) := by
  refine returnsInHanded_of_change_and (C := Tryd.checked) (X := fun w _ => laidMetH Tryd.prog laidK w) (fun _ _ _ hh h => h.of_heap hh) own started (by kernel_rfl) Tryd.func3
    (ChangeSpec.witness_shaped (enc := enc) (C := Tryd.checked) (os := os) (X := fun w _ => laidMetH Tryd.prog laidK w) false (World.doorLaid Tryd.prog 40 os) #[.agg #[.int .i64 0, .int .i64 0, .int .i64 0, .int .i64 0, .int .i64 0, .int .i64 0]] 8 rfl (World.shaped_of_RefB (by kernel_rfl) (by kernel_rfl)) (by kernel_rfl) (by kernel_rfl) (by kernel_rfl) (door_met os _)) ?_
  intro W base args ds gs before hval0 hW _ _ hL _
  have hval : ∀ (j : Nat) t v, Tryd.f3.params[j]? = some t → args[j]? = some v → Value.okWide Tryd.prog W .any base t v := hval0
  have hW' := hW
  obtain ⟨p, q, hA0, hV, rfl, hfz, hnd⟩ := hW
  have hA : DataW.TrodAll enc Tryd.prog W 0 (fun _ => true) true Tryd.f3.params.toList args.toList ds p := hA0
  rw [Tryd.params3] at hA hval
  obtain ⟨v0, vs0, d0, ds0, p0, q0, hargs, rfl, rfl, h0, t0⟩ := trodAll_cons hA
  obtain ⟨rfl, rfl, rfl⟩ := trodAll_nil t0
  obtain rfl : args = #[v0] := by cases args; simp_all
  obtain ⟨rfl, rfl⟩ := trodVars_none hV
  have k0 := h0
  have lt0 : ∀ x ∈ p0, x.block < W.heap.size := by obtain ⟨m, hm⟩ := k0; exact DataW.trod_lt m _ _ _ hm
  obtain ⟨x0, rfl, hx0⟩ := open_keyv (hval 0 25 v0 rfl rfl) h0
  clear hA0 hval0
  refine (walk W hL x0 hx0).mono fun e W' ⟨he, bel⟩ => ?_
  subst he
  exact ⟨_, rfl, _, _, _, [], _, [], hW', trodAll_mk1 (shut_bool Tryd.underlying4 _), (trodAll_cons_mk (Below.trod laidOut (by kernel_rfl) (of_decide_eq_true (by kernel_rfl)) k0 bel lt0) trodAll_mk0), rfl, bel.frame _, fun h => by cases h⟩
theorem over : Rows.codecPutKeyRow.holds Tryd.pinned (OpenSpec.ofChange Rows.codecPutKeySpec) :=
  OpenClaim.holds_of_wide 3 Tryd.f3 rfl rfl rfl rfl rfl rfl rfl ⟨rfl, rfl, rfl, rfl, rfl⟩ rfl rfl rfl rfl rfl (by kernel_rfl) Tryd.func3 (by kernel_rfl)
    (of_decide_eq_true (by kernel_rfl)) (by unfold Func.isWrapper; first | (rw [if_pos (by decide +kernel)]; kernel_rfl) | (rw [if_neg (by decide +kernel)]; exact ⟨rfl, rfl⟩))
    (fun os started H enc _ => lifted os started H enc)
set_option maxRecDepth 8000 in
theorem proved : Rows.CodecPutKeyCardSaid :=
  Claim7.holds_tied_plain_at .later [] [.data] true Rows.codecPutKeyCard.stood.harness true
    over (fun _ h => by cases h) (by kernel_rfl) (fun _ h => by cases h) codecPutKey_row_tie rfl ⟨rfl, rfl⟩ (by kernel_rfl) rfl
    (fun f fn hf hfn => by
      obtain rfl : f = 3 := Option.some.inj ((show Tryd.prog.funcNamed "chatelaine/chatelainelaw05.CodecPutKey" = some 3 by kernel_rfl).symm.trans hf) |>.symm
      obtain rfl : fn = Tryd.f3 := (Option.some.inj (Tryd.func3.symm.trans hfn)).symm
      exact ⟨by kernel_rfl, fun j t ht => by
        rw [Tryd.params3] at ht
        have hm : t ∈ [25] := by simpa using Array.mem_of_getElem? ht
        have hall : ([25].all fun u => !Tryd.prog.wantsStandIn u) = true := by kernel_rfl
        exact (show Tryd.prog.wantsStandIn t = false by simpa using List.all_eq_true.1 hall t hm)⟩)
    (by kernel_rfl)
end Go.Proofs.YtmfphiljhllaeaaDoor.codecPutKey

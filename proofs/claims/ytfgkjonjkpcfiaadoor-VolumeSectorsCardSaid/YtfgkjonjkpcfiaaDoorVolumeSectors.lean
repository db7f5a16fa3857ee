/- The law VolumeSectors returns true for every input: which sector a place is, is as the definition says. No condition but that the listed variables read as the program's own text lays them; the card ties them to it. -/
import Derived.Test.YtfgkjonjkpcfiaaDoorVW
import Derived.Test.YtfgkjonjkpcfiaaDoorVFr
namespace Go.Proofs.YtfgkjonjkpcfiaaDoor.volumeSectors
open Go.ChangeShapes Go.WideShapes Go.ChangeAt Go.RowKit
attribute [local go_sem] Oper.semAt_some
set_option maxRecDepth 10000 in
set_option maxHeartbeats 2000000 in
theorem walk0 (w : World) (hT : Tab w) (n : Int) (x : Sp) :
    Calls Tryd.prog 4 #[plan n, x.val] w fun e w' => e = .returned (.bool true) ∧ Below w.heap.size w w' := by
  obtain ⟨k, a, t⟩ := x
  have HB0 := Lib.hid (((Below.refl w.heap.size w).alloc (Nat.le_refl _) (.cells #[.int .i64 n] 23)).alloc (by simp) (.cells #[.int .i64 k, .int .i64 a, .int .i64 t] 37))
  have HT0 := Lib.hid ((hT.alloc (.cells #[.int .i64 n] 23)).alloc (.cells #[.int .i64 k, .int .i64 a, .int .i64 t] 37))
  have HP0 := Lib.hid ((Blk.new w 23 #[.int .i64 n]).alloc (.cells #[.int .i64 k, .int .i64 a, .int .i64 t] 37))
  have HX0 := Lib.hid (show Blk ((w.alloc (.cells #[.int .i64 n] 23)).alloc (.cells #[.int .i64 k, .int .i64 a, .int .i64 t] 37)) (w.heap.size + 1) 37 #[.int .i64 k, .int .i64 a, .int .i64 t] by have := Blk.new (w.alloc (.cells #[.int .i64 n] 23)) 37 #[.int .i64 k, .int .i64 a, .int .i64 t]; simpa using this)
  obtain ⟨q, hq⟩ : ∃ q, secP n ⟨k, a, t⟩ = q := ⟨_, rfl⟩
  have HQ := Lib.hid hq
  clear hq
  clear hT
  go_enter Tryd.func4, Tryd.ntmps4
  go_wp2_with (first
    | (go_at_call 16; refine (sector_any n ⟨k, a, t⟩ _ HT0.out).mono ?_; rw [HQ.out]; rintro r w1 ⟨rfl, hb⟩; have HB1 := Lib.hid (HB0.out.trans (hb.mono HB0.out.size)); have HT1 := Lib.hid (HT0.out.below hb); have HP1 := Lib.hid ((HP0.out.keep hb)); have HX1 := Lib.hid ((HX0.out.keep hb)); have cp := HP1.out.one; obtain ⟨c0, c1, c2⟩ := HX1.out.three; clear hb)
    | (go_at_call 17; refine (rsector_any n ⟨k, a, t⟩ _).mono ?_; rw [HQ.out]; rintro r w2 ⟨rfl, hb⟩; have HB2 := Lib.hid (HB1.out.trans (hb.mono HB1.out.size)); have HT2 := Lib.hid (HT1.out.below hb); have HP2 := Lib.hid ((HP1.out.keep hb)); have HX2 := Lib.hid ((HX1.out.keep hb)); have cp := HP2.out.one; obtain ⟨c0, c1, c2⟩ := HX2.out.three; clear hb)
    | (go_at_call 13; refine (num_any _ _).mono ?_; rintro r y ⟨rfl, rfl⟩)
    | (go_at_call 14; refine (works_any _ HT2.out).mono ?_; rintro r w9 ⟨rfl, hb⟩; have HB9 := Lib.hid (HB2.out.trans (hb.mono HB2.out.size)); clear hb))
  go_ret
  exact ⟨rfl, HB9.out⟩
theorem walk (w : World) (hL : laidMetH Tryd.prog laidK w) (n : Int) (x : Sp) : Calls Tryd.prog 4 #[plan n, x.val] w fun e w' => e = .returned (.bool true) ∧ Below w.heap.size w w' := walk0 w (tab_of hL) n x
set_option maxRecDepth 100000 in
theorem lifted (os : Os) (started : os.Started) (H : Type) (enc : TypeId × Value → H) :
    ReturnsInHanded {} Tryd.checked os 4 .any (fun w args => (Rows.volumeSectorsSpec.pre enc Tryd.prog Tryd.f4 [] false w args ∧ laidMetH Tryd.prog laidK w) ∧ sizedMet enc Tryd.prog Tryd.f4 (OpenSpec.ofChange Rows.volumeSectorsSpec) false w args) (Rows.volumeSectorsSpec.post enc Tryd.prog Tryd.f4 false true false false) := by
  refine returnsInHanded_of_change_and (C := Tryd.checked) (X := fun w _ => laidMetH Tryd.prog laidK w) (fun _ _ _ hh h => h.of_heap hh) own started (by kernel_rfl) Tryd.func4
    (ChangeSpec.witness_shaped (enc := enc) (C := Tryd.checked) (os := os) (X := fun w _ => laidMetH Tryd.prog laidK w) false (World.doorLaid Tryd.prog 40 os) #[.agg #[.int .i64 0], .agg #[.int .i64 0, .int .i64 0, .int .i64 0]] 8 rfl (World.shaped_of_RefB (by kernel_rfl) (by kernel_rfl)) (by kernel_rfl) (by kernel_rfl) (by kernel_rfl) (door_met os _)) ?_
  intro W base args ds gs before hval0 hW _ _ hL _
  have hval : ∀ (j : Nat) t v, Tryd.f4.params[j]? = some t → args[j]? = some v → Value.okWide Tryd.prog W .any base t v := hval0
  have hW' := hW
  obtain ⟨p, q, hA0, hV, rfl, hfz, hnd⟩ := hW
  have hA : DataW.TrodAll enc Tryd.prog W 0 (fun _ => true) true Tryd.f4.params.toList args.toList ds p := hA0
  rw [Tryd.params4] at hA hval
  obtain ⟨v0, vs0, d0, ds0, p0, q0, hargs, rfl, rfl, h0, t0⟩ := trodAll_cons hA
  obtain ⟨v1, vs1, d1, ds1, p1, q1, rfl, rfl, rfl, h1, t1⟩ := trodAll_cons t0
  obtain ⟨rfl, rfl, rfl⟩ := trodAll_nil t1
  obtain rfl : args = #[v0, v1] := by cases args; simp_all
  obtain ⟨rfl, rfl⟩ := trodVars_none hV
  have k0 := h0
  have lt0 : ∀ x ∈ p0, x.block < W.heap.size := by obtain ⟨m, hm⟩ := k0; exact DataW.trod_lt m _ _ _ hm
  obtain ⟨n0, rfl, hn0⟩ := open_plan (hval 0 23 v0 rfl rfl) h0
  have k1 := h1
  have lt1 : ∀ x ∈ p1, x.block < W.heap.size := by obtain ⟨m, hm⟩ := k1; exact DataW.trod_lt m _ _ _ hm
  obtain ⟨x1, rfl⟩ := open_spot (hval 1 37 v1 rfl rfl) h1
  clear hA0 hval0
  refine (walk W hL n0 x1).mono fun e W' ⟨he, bel⟩ => ?_
  subst he
  exact ⟨_, rfl, _, _, _, [], _, [], hW', trodAll_mk1 (shut_bool Tryd.underlying4 _), (trodAll_cons_mk (Below.trod laidOut (by kernel_rfl) (of_decide_eq_true (by kernel_rfl)) k0 bel lt0) (trodAll_cons_mk (Below.trod laidOut (by kernel_rfl) (of_decide_eq_true (by kernel_rfl)) k1 bel lt1) trodAll_mk0)), rfl, bel.frame _, fun h => by cases h⟩
theorem over : Rows.volumeSectorsRow.holds Tryd.pinned (OpenSpec.ofChange Rows.volumeSectorsSpec) :=
  OpenClaim.holds_of_wide 4 Tryd.f4 rfl rfl rfl rfl rfl rfl rfl ⟨rfl, rfl, rfl, rfl, rfl⟩ rfl rfl rfl rfl rfl (by kernel_rfl) Tryd.func4 (by kernel_rfl)
    (of_decide_eq_true (by kernel_rfl)) (by unfold Func.isWrapper; first | (rw [if_pos (by decide +kernel)]; kernel_rfl) | (rw [if_neg (by decide +kernel)]; exact ⟨rfl, rfl⟩))
    (fun os started H enc _ => lifted os started H enc)
set_option maxRecDepth 8000 in
theorem proved : Rows.VolumeSectorsCardSaid :=
  Claim7.holds_tied_plain_at .later [] [.data] true Rows.volumeSectorsCard.stood.harness false
    over (fun _ h => by cases h) (by kernel_rfl) (fun _ h => by cases h) volumeSectors_row_tie rfl ⟨rfl, rfl⟩ (by kernel_rfl) rfl
    (fun f fn hf hfn => by
      obtain rfl : f = 4 := Option.some.inj ((show Tryd.prog.funcNamed "chatelaine/chatelainelaw06.VolumeSectors" = some 4 by kernel_rfl).symm.trans hf) |>.symm
      obtain rfl : fn = Tryd.f4 := (Option.some.inj (Tryd.func4.symm.trans hfn)).symm
      exact ⟨by kernel_rfl, fun j t ht => by
        rw [Tryd.params4] at ht
        have hm : t ∈ [23, 37] := by simpa using Array.mem_of_getElem? ht
        have hall : ([23, 37].all fun u => !Tryd.prog.wantsStandIn u) = true := by kernel_rfl
        exact (show Tryd.prog.wantsStandIn t = false by simpa using List.all_eq_true.1 hall t hm)⟩)
    (by kernel_rfl)

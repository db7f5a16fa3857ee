/- The law VolumeHomes returns true for every input: objects are at home behind all else, by Oid. No condition but that the listed variables read as the program's own text lays them; the card ties them to it. -/
import Derived.Test.YtfgkjonjkpcfiaaDoorVW
import Derived.Test.YtfgkjonjkpcfiaaDoorVFr
namespace Go.Proofs.YtfgkjonjkpcfiaaDoor.volumeHomes
open Go.ChangeShapes Go.WideShapes Go.ChangeAt Go.RowKit
attribute [local go_sem] Oper.semAt_some
set_option maxRecDepth 10000 in
set_option maxHeartbeats 2000000 in
theorem walk_no (w : World) (hT : Tab w) (n s : Int) (hr : ¬ (1 ≤ n ∧ n ≤ 64)) :
    Calls Tryd.prog 7 #[plan n, .int .i64 s] w fun e w' => e = .returned (.bool true) ∧ Below w.heap.size w w' := by
  have HB0 := Lib.hid ((Below.refl w.heap.size w).alloc (Nat.le_refl _) (.cells #[.int .i64 n] 23))
  have HT0 := Lib.hid (hT.alloc (.cells #[.int .i64 n] 23))
  have HP0 := Lib.hid (Blk.new w 23 #[.int .i64 n])
  have HQ := Lib.hid (show secP n ⟨5, 0, s⟩ = (0, 2) from secP_no fun h => hr h.1)
  have HI := Lib.hid hr
  clear hr
  clear hT
  go_enter Tryd.func7, Tryd.ntmps7
  go_wp2_with (first
    | (go_at_call 16; refine (sector_any n ⟨5, 0, s⟩ _ HT0.out).mono ?_; rw [HQ.out]; rintro r w1 ⟨rfl, hb⟩; have HB1 := Lib.hid (HB0.out.trans (hb.mono HB0.out.size)); have HT1 := Lib.hid (HT0.out.below hb); have HP1 := Lib.hid ((HP0.out.keep hb)); have cp := HP1.out.one; clear hb)
    | (go_at_call 17; refine (rsector_any n ⟨5, 0, s⟩ _).mono ?_; rw [HQ.out]; rintro r w2 ⟨rfl, hb⟩; have HB2 := Lib.hid (HB1.out.trans (hb.mono HB1.out.size)); have HT2 := Lib.hid (HT1.out.below hb); have HP2 := Lib.hid ((HP1.out.keep hb)); have cp := HP2.out.one; clear hb)
    | (go_at_call 9; refine (size_any n _).mono ?_; rw [if_neg HI.out, if_neg HI.out]; rintro r w3 ⟨rfl, hb⟩; have HB3 := Lib.hid (HB2.out.trans (hb.mono HB2.out.size)); have HT3 := Lib.hid (HT2.out.below hb); have HP3 := Lib.hid ((HP2.out.keep hb)); have cp := HP3.out.one; clear hb)
    | (go_at_call 13; refine (num_any _ _).mono ?_; rintro r y ⟨rfl, rfl⟩)
    | (go_at_call 14; refine (works_any _ HT3.out).mono ?_; rintro r w9 ⟨rfl, hb⟩; have HB9 := Lib.hid (HB3.out.trans (hb.mono HB3.out.size)); clear hb))
  go_ret
  exact ⟨rfl, HB9.out⟩
set_option maxRecDepth 10000 in
set_option maxHeartbeats 2000000 in
theorem walk_out (w : World) (hT : Tab w) (nn : Nat) (s : Int) (hr : 1 ≤ nn ∧ nn ≤ 64) (hq : secP nn ⟨5, 0, s⟩ = (0, 4)) :
    Calls Tryd.prog 7 #[plan nn, .int .i64 s] w fun e w' => e = .returned (.bool true) ∧ Below w.heap.size w w' := by
  have HB0 := Lib.hid ((Below.refl w.heap.size w).alloc (Nat.le_refl _) (.cells #[.int .i64 nn] 23))
  have HT0 := Lib.hid (hT.alloc (.cells #[.int .i64 nn] 23))
  have HP0 := Lib.hid (Blk.new w 23 #[.int .i64 nn])
  have HQ := Lib.hid hq
  have HI := Lib.hid (show 1 ≤ (nn : Int) ∧ (nn : Int) ≤ 64 by omega)
  clear hr hq
  clear hT
  go_enter Tryd.func7, Tryd.ntmps7
  go_wp2_with (first
    | (go_at_call 16; refine (sector_any nn ⟨5, 0, s⟩ _ HT0.out).mono ?_; rw [HQ.out]; rintro r w1 ⟨rfl, hb⟩; have HB1 := Lib.hid (HB0.out.trans (hb.mono HB0.out.size)); have HT1 := Lib.hid (HT0.out.below hb); have HP1 := Lib.hid ((HP0.out.keep hb)); have cp := HP1.out.one; clear hb)
    | (go_at_call 17; refine (rsector_any nn ⟨5, 0, s⟩ _).mono ?_; rw [HQ.out]; rintro r w2 ⟨rfl, hb⟩; have HB2 := Lib.hid (HB1.out.trans (hb.mono HB1.out.size)); have HT2 := Lib.hid (HT1.out.below hb); have HP2 := Lib.hid ((HP1.out.keep hb)); have cp := HP2.out.one; clear hb)
    | (go_at_call 9; refine (size_any nn _).mono ?_; rw [if_pos HI.out, if_pos HI.out]; rintro r w3 ⟨rfl, hb⟩; have HB3 := Lib.hid (HB2.out.trans (hb.mono HB2.out.size)); have HT3 := Lib.hid (HT2.out.below hb); have HP3 := Lib.hid ((HP2.out.keep hb)); have cp := HP3.out.one; clear hb)
    | (go_at_call 13; refine (num_any _ _).mono ?_; rintro r y ⟨rfl, rfl⟩)
    | (go_at_call 14; refine (works_any _ HT3.out).mono ?_; rintro r w9 ⟨rfl, hb⟩; have HB9 := Lib.hid (HB3.out.trans (hb.mono HB3.out.size)); clear hb))
  go_ret
  exact ⟨rfl, HB9.out⟩
set_option maxRecDepth 10000 in
set_option maxHeartbeats 2000000 in
theorem walk_ok (w : World) (hT : Tab w) (nn i : Nat) (hr : 1 ≤ nn ∧ nn ≤ 64) (hi : i < nn) (hq : secP nn ⟨5, 0, (i : Int)⟩ = (20 + 2 * (nn : Int) + i, 0)) :
    Calls Tryd.prog 7 #[plan nn, .int .i64 (i : Int)] w fun e w' => e = .returned (.bool true) ∧ Below w.heap.size w w' := by
  have HB0 := Lib.hid ((Below.refl w.heap.size w).alloc (Nat.le_refl _) (.cells #[.int .i64 nn] 23))
  have HT0 := Lib.hid (hT.alloc (.cells #[.int .i64 nn] 23))
  have HP0 := Lib.hid (Blk.new w 23 #[.int .i64 nn])
  have HQ := Lib.hid hq
  have HI := Lib.hid (show 1 ≤ (nn : Int) ∧ (nn : Int) ≤ 64 by omega)
  have eq : ((20 + 2 * (nn : Int) + (i : Int)) == (20 + 3 * (nn : Int) - (nn : Int) + (i : Int))) = true := by simp only [beq_iff_eq]; omega
  clear hq
  clear hT
  go_enter Tryd.func7, Tryd.ntmps7
  go_wp2_with (first
    | (go_at_call 16; refine (sector_any nn ⟨5, 0, (i : Int)⟩ _ HT0.out).mono ?_; rw [HQ.out]; rintro r w1 ⟨rfl, hb⟩; have HB1 := Lib.hid (HB0.out.trans (hb.mono HB0.out.size)); have HT1 := Lib.hid (HT0.out.below hb); have HP1 := Lib.hid ((HP0.out.keep hb)); have cp := HP1.out.one; clear hb)
    | (go_at_call 17; refine (rsector_any nn ⟨5, 0, (i : Int)⟩ _).mono ?_; rw [HQ.out]; rintro r w2 ⟨rfl, hb⟩; have HB2 := Lib.hid (HB1.out.trans (hb.mono HB1.out.size)); have HT2 := Lib.hid (HT1.out.below hb); have HP2 := Lib.hid ((HP1.out.keep hb)); have cp := HP2.out.one; clear hb)
    | (go_at_call 9; refine (size_any nn _).mono ?_; rw [if_pos HI.out, if_pos HI.out]; rintro r w3 ⟨rfl, hb⟩; have HB3 := Lib.hid (HB2.out.trans (hb.mono HB2.out.size)); have HT3 := Lib.hid (HT2.out.below hb); have HP3 := Lib.hid ((HP2.out.keep hb)); have cp := HP3.out.one; clear hb)
    | (go_at_call 13; refine (num_any _ _).mono ?_; rintro r y ⟨rfl, rfl⟩)
    | (go_at_call 14; refine (works_any _ HT3.out).mono ?_; rintro r w9 ⟨rfl, hb⟩; have HB9 := Lib.hid (HB3.out.trans (hb.mono HB3.out.size)); clear hb))
  go_ret
  exact ⟨rfl, HB9.out⟩
set_option maxRecDepth 8000 in
theorem walk (w : World) (hL : laidMetH Tryd.prog laidK w) (n s : Int) : Calls Tryd.prog 7 #[plan n, .int .i64 s] w fun e w' => e = .returned (.bool true) ∧ Below w.heap.size w w' := by
  by_cases hr : 1 ≤ n ∧ n ≤ 64
  · obtain ⟨nn, rfl⟩ := Int.eq_ofNat_of_zero_le (show 0 ≤ n by omega)
    have hm : mayP ⟨5, 0, s⟩ := (mayP_mk _ _ _).2 (by omega)
    by_cases hs : 0 ≤ s ∧ s < nn
    · obtain ⟨i, rfl⟩ := Int.eq_ofNat_of_zero_le hs.1
      exact walk_ok w (tab_of hL) nn i (by omega) (by omega) (secP_of nn (by omega) 5 0 i _ _ hm (b50 _ _) (by omega) (by omega))
    · exact walk_out w (tab_of hL) nn s (by omega) (secP_out ⟨hr, hm⟩ (by rw [b50]; simp only; omega))
  · exact walk_no w (tab_of hL) n s hr
set_option maxRecDepth 100000 in
theorem lifted (os : Os) (started : os.Started) (H : Type) (enc : TypeId × Value → H) :
    ReturnsInHanded {} Tryd.checked os 7 .any (fun w args => (Rows.volumeHomesSpec.pre enc Tryd.prog Tryd.f7 [] false w args ∧ laidMetH Tryd.prog laidK w) ∧ sizedMet enc Tryd.prog Tryd.f7 (OpenSpec.ofChange Rows.volumeHomesSpec) false w args) (Rows.volumeHomesSpec.post enc Tryd.prog Tryd.f7 false true false false) := by
  refine returnsInHanded_of_change_and (C := Tryd.checked) (X := fun w _ => laidMetH Tryd.prog laidK w) (fun _ _ _ hh h => h.of_heap hh) own started (by kernel_rfl) Tryd.func7
    (ChangeSpec.witness_shaped (enc := enc) (C := Tryd.checked) (os := os) (X := fun w _ => laidMetH Tryd.prog laidK w) false (World.doorLaid Tryd.prog 40 os) #[.agg #[.int .i64 0], .int .i64 0] 8 rfl (World.shaped_of_RefB (by kernel_rfl) (by kernel_rfl)) (by kernel_rfl) (by kernel_rfl) (by kernel_rfl) (door_met os _)) ?_
  intro W base args ds gs before hval0 hW _ _ hL _
  have hval : ∀ (j : Nat) t v, Tryd.f7.params[j]? = some t → args[j]? = some v → Value.okWide Tryd.prog W .any base t v := hval0
  have hW' := hW
  obtain ⟨p, q, hA0, hV, rfl, hfz, hnd⟩ := hW
  have hA : DataW.TrodAll enc Tryd.prog W 0 (fun _ => true) true Tryd.f7.params.toList args.toList ds p := hA0
  rw [Tryd.params7] at hA hval
  obtain ⟨v0, vs0, d0, ds0, p0, q0, hargs, rfl, rfl, h0, t0⟩ := trodAll_cons hA
  obtain ⟨v1, vs1, d1, ds1, p1, q1, rfl, rfl, rfl, h1, t1⟩ := trodAll_cons t0
  obtain ⟨rfl, rfl, rfl⟩ := trodAll_nil t1
  obtain rfl : args = #[v0, v1] := by cases args; simp_all
  obtain ⟨rfl, rfl⟩ := trodVars_none hV
  have k0 := h0
  have lt0 : ∀ x ∈ p0, x.block < W.heap.size := by obtain ⟨m, hm⟩ := k0; exact DataW.trod_lt m _ _ _ hm
  obtain ⟨n0, rfl, hn0⟩ := open_plan (hval 0 23 v0 rfl rfl) h0
  have k1 := h1
  have lt1 : ∀ x ∈ p1, x.block < W.heap.size := by obtain ⟨m, hm⟩ := k1; exact DataW.trod_lt m _ _ _ hm
  obtain ⟨a1, rfl, rfl, rfl, _⟩ := open_int Tryd.underlying3 (hval 1 3 v1 rfl rfl) h1
  clear hA0 hval0
  refine (walk W hL n0 a1).mono fun e W' ⟨he, bel⟩ => ?_
  subst he
  exact ⟨_, rfl, _, _, _, [], _, [], hW', trodAll_mk1 (shut_bool Tryd.underlying4 _), (trodAll_cons_mk (Below.trod laidOut (by kernel_rfl) (of_decide_eq_true (by kernel_rfl)) k0 bel lt0) (trodAll_cons_mk (Below.trod laidOut (by kernel_rfl) (of_decide_eq_true (by kernel_rfl)) k1 bel lt1) trodAll_mk0)), rfl, bel.frame _, fun h => by cases h⟩
theorem over : Rows.volumeHomesRow.holds Tryd.pinned (OpenSpec.ofChange Rows.volumeHomesSpec) :=
  OpenClaim.holds_of_wide 7 Tryd.f7 rfl rfl rfl rfl rfl rfl rfl ⟨rfl, rfl, rfl, rfl, rfl⟩ rfl rfl rfl rfl rfl (by kernel_rfl) Tryd.func7 (by kernel_rfl)
    (of_decide_eq_true (by kernel_rfl)) (by unfold Func.isWrapper; first | (rw [if_pos (by decide +kernel)]; kernel_rfl) | (rw [if_neg (by decide +kernel)]; exact ⟨rfl, rfl⟩))
    (fun os started H enc _ => lifted os started H enc)
set_option maxRecDepth 8000 in
theorem proved : Rows.VolumeHomesCardSaid :=
  Claim7.holds_tied_plain_at .later [] [.data] true Rows.volumeHomesCard.stood.harness false
    over (fun _ h => by cases h) (by kernel_rfl) (fun _ h => by cases h) volumeHomes_row_tie rfl ⟨rfl, rfl⟩ (by kernel_rfl) rfl
    (fun f fn hf hfn => by
      obtain rfl : f = 7 := Option.some.inj ((show Tryd.prog.funcNamed "chatelaine/chatelainelaw06.VolumeHomes" = some 7 by kernel_rfl).symm.trans hf) |>.symm
      obtain rfl : fn = Tryd.f7 := (Option.some.inj (Tryd.func7.symm.trans hfn)).symm
      exact ⟨by kernel_rfl, fun j t ht => by
        rw [Tryd.params7] at ht
        have hm : t ∈ [23, 3] := by simpa using Array.mem_of_getElem? ht
        have hall : ([23, 3].all fun u => !Tryd.prog.wantsStandIn u) = true := by kernel_rfl
        exact (show Tryd.prog.wantsStandIn t = false by simpa using List.all_eq_true.1 hall t hm)⟩)
    (by kernel_rfl)

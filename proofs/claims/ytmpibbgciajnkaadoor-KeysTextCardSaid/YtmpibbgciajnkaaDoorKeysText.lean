/- The law KeysText returns true for every input: keys.Text of up to 60 keys is the definition's. No condition but that the listed variables read as the program's own text lays them; the card ties them to it. -/
import Derived.Test.YtmpibbgciajnkaaDoorKAny
import Derived.Test.YtmpibbgciajnkaaDoorKFr
import Derived.Test.YtmpibbgciajnkaaDoorRegIn
import Derived.Test.YtmpibbgciajnkaaDoorKTxt
import Derived.Stop.LaidErr
namespace Go.Proofs.YtmpibbgciajnkaaDoor.keysText
open Go.ChangeShapes Go.WideShapes Go.ChangeAt Go.RowKit
attribute [local go_sem] Oper.semAt_some
abbrev laid4 : List (String × DataW Unit) := [("math/bits.deBruijn32tab", Rows.laid_math_bits_deBruijn32tab), ("math/bits.deBruijn64tab", Rows.laid_math_bits_deBruijn64tab), ("internal/strconv.uint64pow10", Rows.laid_internal_strconv_uint64pow10), ("chatelaine/keys.kinds", Rows.laid_chatelaine_keys_kinds)]
set_option maxRecDepth 100000 in
theorem door_met4 (os : Os) (args : Array Value) : laidMetH Tryd.prog laid4 ((World.doorLaid Tryd.prog 40 os).forCall (fun _ _ => 0) ⟨#[], args, []⟩).memory :=
  laidMetH_of_parts3 (fuel := 8) (laidMet_of_run' 8 (by kernel_rfl) (by kernel_rfl)) (by kernel_rfl) (by kernel_rfl)
theorem tPow : (Tryd.prog.globals[1]?).map (·.type) = some 96 := by kernel_rfl
theorem pow_data : (Rows.laid_internal_strconv_uint64pow10 : DataW Unit) = Lib.tabData .u64 Lib.pow10Tab := by rfl
theorem both_of {W : World} (h : laidMetH Tryd.prog laid4 W) : Tab W ∧ P10 W := by
  rw [MakeChecks.laidMetH_plain _ _ _ (by kernel_rfl)] at h
  have h2 := laidMet.tail (laidMet.tail h)
  have h3 := laidMet.tail h2
  refine ⟨tab_of (by rw [MakeChecks.laidMetH_plain _ _ _ (by kernel_rfl)]; exact h3), ?_⟩
  rw [pow_data] at h2
  have ht := Lib.tabIs_of_head gPow tPow Tryd.underlying96 Tryd.underlying86 (by kernel_rfl) (by kernel_rfl) h2
  exact ⟨ht, cell_lt (Lib.TabIs.cell ht gPow 0 (by decide))⟩
set_option maxRecDepth 100000 in
set_option maxHeartbeats 1000000 in
theorem walk_big (w : World) (hT : Tab w) (A : Option Addr) (l : List Ky) (cap : Nat) (hl : 60 < l.length) :
    Calls Tryd.prog 9 #[.slice A l.length cap] w fun e w' => e = .returned (.bool true) ∧ Below w.heap.size w w' := by
  have HT := Lib.hid hT
  have h60 : (60 : Int) < (l.length : Int) := by omega
  have d60 : decide ((60 : Int) < (l.length : Int)) = true := by simpa using h60
  clear hT h60
  go_enter Tryd.func9, Tryd.ntmps9
  go_wp2_with (go_at_call 18; refine (known_any _ HT.out).mono ?_; rintro e w1 ⟨rfl, b1⟩)
  go_ret
  exact ⟨rfl, b1⟩
set_option maxRecDepth 100000 in
set_option maxHeartbeats 4000000 in
theorem walk_small (w : World) (hT : Tab w) (hP : P10 w) (A : Option Addr) (l : List Ky) (cap : Nat) (hl : l.length ≤ 60) (hr : RdK w A l) (hv : ∀ i (h : i < l.length), Vb l[i]) :
    Calls Tryd.prog 9 #[.slice A l.length cap] w fun e w' => e = .returned (.bool true) ∧ Below w.heap.size w w' := by
  have HT := Lib.hid hT
  have HP := Lib.hid hP
  have HR := Lib.hid hr
  have HVB := Lib.hid hv
  have h60 : ¬ (60 : Int) < (l.length : Int) := by omega
  have d60 : decide ((60 : Int) < (l.length : Int)) = false := by simpa using h60
  clear hT hr h60 hP hv
  go_enter Tryd.func9, Tryd.ntmps9
  go_wp2
  go_loopw [3] (fun i wr => ∃ k : Nat, k ≤ l.length ∧ i = .int .i64 k ∧ Below w.heap.size w wr ∧ RdK wr A l ∧ Tab wr ∧ P10 wr) (fun i _ => l.length + 1 - (intOf i).toNat)
  case atStart => exact ⟨0, by omega, rfl, Below.refl _ _, HR.out, HT.out, HP.out⟩
  case round =>
    obtain ⟨k, hk, rfl, hb, hrd, ht, hp⟩ := hrel
    clear HT HR HP
    by_cases hlt : k < l.length
    · obtain ⟨b, o, rfl, hke⟩ := hrd k hlt
      have hvx := HVB.out k hlt
      obtain ⟨x, hx⟩ : ∃ x, x = l[k] := ⟨_, rfl⟩
      rw [← hx] at hke hvx
      have HB0 := Lib.hid hb
      have HT0 := Lib.hid ht
      have HP0 := Lib.hid hp
      have K0 := Lib.hid hke
      have R0 := Lib.hid hrd
      have VX := Lib.hid hvx
      obtain ⟨c0, c1, c2, c3, c4, c5⟩ := hke.six
      clear hb ht hke hrd hx hp hvx
      by_cases hok : x.ok
      · have HO := Lib.hid hok
        obtain ⟨tx, htx⟩ : ∃ t : ByteArray, x.txt = t := ⟨_, rfl⟩
        have HTX := Lib.hid htx
        clear hok htx
        go_wp2_with (first
          | (go_at_call 27; refine (HTX.out ▸ ktext_any x _ HT0.out HP0.out HO.out VX.out).mono ?_; rintro e w1 ⟨rfl, b_⟩; have T1 := Lib.hid (HT0.out.below b_); have P1 := Lib.hid (HP0.out.below b_); have B1 := Lib.hid (HB0.out.trans (b_.mono HB0.out.size)); have K1 := Lib.hid (K0.out.keep b_); have R1 := Lib.hid (R0.out.keep b_); clear c0 c1 c2 c3 c4 c5 b_; obtain ⟨c0, c1, c2, c3, c4, c5⟩ := K1.out.six)
          | (go_at_call 15; refine (rchk_ok x.k x.o x.c x.l x.r x.v _ HO.out).mono ?_; rintro e w2 ⟨rfl, b_⟩; have T2 := Lib.hid (T1.out.below b_); have P2 := Lib.hid (P1.out.below b_); have B2 := Lib.hid (B1.out.trans (b_.mono B1.out.size)); have K2 := Lib.hid (K1.out.keep b_); have R2 := Lib.hid (R1.out.keep b_); clear c0 c1 c2 c3 c4 c5 b_; obtain ⟨c0, c1, c2, c3, c4, c5⟩ := K2.out.six)
          | (go_at_call 28; refine (HTX.out ▸ rtext_any x _ P2.out HO.out VX.out).mono ?_; rintro e w3 ⟨rfl, b_⟩; have T3 := Lib.hid (T2.out.below b_); have P3 := Lib.hid (P2.out.below b_); have B3 := Lib.hid (B2.out.trans (b_.mono B2.out.size)); have K3 := Lib.hid (K2.out.keep b_); have R3 := Lib.hid (R2.out.keep b_); clear c0 c1 c2 c3 c4 c5 b_; obtain ⟨c0, c1, c2, c3, c4, c5⟩ := K3.out.six))
        go_roundw
        case rel => exact ⟨k + 1, by omega, by go_num, B3.out, R3.out, T3.out, P3.out⟩
        case measure => simp [intOf]; omega
      · have HO := Lib.hid hok
        clear hok
        go_wp2_with (first
          | (go_at_call 27; refine (ktext_no x _ HT0.out HO.out).mono ?_; rintro e w1 ⟨rfl, b_⟩; have T1 := Lib.hid (HT0.out.below b_); have P1 := Lib.hid (HP0.out.below b_); have B1 := Lib.hid (HB0.out.trans (b_.mono HB0.out.size)); have K1 := Lib.hid (K0.out.keep b_); have R1 := Lib.hid (R0.out.keep b_); clear c0 c1 c2 c3 c4 c5 b_; obtain ⟨c0, c1, c2, c3, c4, c5⟩ := K1.out.six)
          | (go_at_call 15; refine (rchk_no x.k x.o x.c x.l x.r x.v _ HO.out).mono ?_; rintro e w2 ⟨rfl, b_⟩; have T2 := Lib.hid (T1.out.below b_); have P2 := Lib.hid (P1.out.below b_); have B2 := Lib.hid (B1.out.trans (b_.mono B1.out.size)); have K2 := Lib.hid (K1.out.keep b_); have R2 := Lib.hid (R1.out.keep b_); clear c0 c1 c2 c3 c4 c5 b_; obtain ⟨c0, c1, c2, c3, c4, c5⟩ := K2.out.six))
        go_roundw
        case rel => exact ⟨k + 1, by omega, by go_num, B2.out, R2.out, T2.out, P2.out⟩
        case measure => simp [intOf]; omega
    · obtain rfl : k = l.length := by omega
      have HB0 := Lib.hid hb
      have HT0 := Lib.hid ht
      clear hb ht hrd hp
      go_wp2_with (go_at_call 18; refine (known_any _ HT0.out).mono ?_; rintro e v9 ⟨rfl, b_⟩; have B9 := Lib.hid (HB0.out.trans (b_.mono HB0.out.size)); clear b_)
      go_ret
      exact ⟨rfl, B9.out⟩
theorem walk (w : World) (hL : laidMetH Tryd.prog laid4 w) (A : Option Addr) (l : List Ky) (cap : Nat) (_ : l.length ≤ cap) (_ : cap ≤ maxLen) (hr : RdK w A l) (hv : ∀ i (h : i < l.length), Vb l[i]) : Calls Tryd.prog 9 #[.slice A l.length cap] w fun e w' => e = .returned (.bool true) ∧ Below w.heap.size w w' := by
  by_cases h : l.length ≤ 60
  · exact walk_small w (both_of hL).1 (both_of hL).2 A l cap h hr hv
  · exact walk_big w (both_of hL).1 A l cap (by omega)
set_option maxRecDepth 100000 in
theorem lifted (os : Os) (started : os.Started) (H : Type) (enc : TypeId × Value → H) :
    ReturnsInHanded {} Tryd.checked os 9 .any (fun w args => (Rows.keysTextSpec.pre enc Tryd.prog Tryd.f9 [] false w args ∧ laidMetH Tryd.prog laid4 w) ∧ sizedMet enc Tryd.prog Tryd.f9 (OpenSpec.ofChange Rows.keysTextSpec) false w args) (Rows.keysTextSpec.post enc Tryd.prog Tryd.f9 false true false false) := by
  refine returnsInHanded_of_change_and (C := Tryd.checked) (X := fun w _ => laidMetH Tryd.prog laid4 w) (fun _ _ _ hh h => h.of_heap hh) own started (by kernel_rfl) Tryd.func9
    (ChangeSpec.witness_shaped (enc := enc) (C := Tryd.checked) (os := os) (X := fun w _ => laidMetH Tryd.prog laid4 w) false (World.doorLaid Tryd.prog 40 os) #[.slice none 0 0] 8 rfl (World.shaped_of_RefB (by kernel_rfl) (by kernel_rfl)) (by kernel_rfl) (by kernel_rfl) (by kernel_rfl) (door_met4 os _)) ?_
  intro W base args ds gs before hval0 hW _ _ hL _
  have hval : ∀ (j : Nat) t v, Tryd.f9.params[j]? = some t → args[j]? = some v → Value.okWide Tryd.prog W .any base t v := hval0
  have hW' := hW
  obtain ⟨p, q, hA0, hV, rfl, hfz, hnd⟩ := hW
  have hA : DataW.TrodAll enc Tryd.prog W 0 (fun _ => true) true Tryd.f9.params.toList args.toList ds p := hA0
  rw [Tryd.params9] at hA hval
  obtain ⟨v0, vs0, d0, ds0, p0, q0, hargs, rfl, rfl, h0, t0⟩ := trodAll_cons hA
  obtain ⟨rfl, rfl, rfl⟩ := trodAll_nil t0
  obtain rfl : args = #[v0] := by cases args; simp_all
  obtain ⟨rfl, rfl⟩ := trodVars_none hV
  have k0 := h0
  have lt0 : ∀ x ∈ p0, x.block < W.heap.size := by obtain ⟨m, hm⟩ := k0; exact DataW.trod_lt m _ _ _ hm
  obtain ⟨A0, l0, c0, rfl, hlc0, hcm0, hr0, hvb0⟩ := open_keys_wf (hval 0 35 v0 rfl rfl) h0
  clear hA0 hval0
  refine (walk W hL A0 l0 c0 hlc0 hcm0 hr0 hvb0).mono fun e W' ⟨he, bel⟩ => ?_
  subst he
  exact ⟨_, rfl, _, _, _, [], _, [], hW', trodAll_mk1 (shut_bool Tryd.underlying4 _), (trodAll_cons_mk (Below.trod laidOut (by kernel_rfl) (of_decide_eq_true (by kernel_rfl)) k0 bel lt0) trodAll_mk0), rfl, bel.frame _, fun h => by cases h⟩
theorem over : Rows.keysTextRow.holds Tryd.pinned (OpenSpec.ofChange Rows.keysTextSpec) :=
  OpenClaim.holds_of_wide 9 Tryd.f9 rfl rfl rfl rfl rfl rfl rfl ⟨rfl, rfl, rfl, rfl, rfl⟩ rfl rfl rfl rfl rfl (by kernel_rfl) Tryd.func9 (by kernel_rfl)
    (of_decide_eq_true (by kernel_rfl)) (by unfold Func.isWrapper; first | (rw [if_pos (by decide +kernel)]; kernel_rfl) | (rw [if_neg (by decide +kernel)]; exact ⟨rfl, rfl⟩))
    (fun os started H enc _ => lifted os started H enc)
theorem proved : Rows.KeysTextCardSaid :=
  Claim7.holds_tied_plain_at .later [] [.data, .data, .data, .data] true Rows.keysTextCard.stood.harness false
    over (fun _ h => by cases h) (by kernel_rfl) (fun _ h => by cases h) keysText_row_tie rfl ⟨rfl, rfl⟩ (by kernel_rfl) rfl
    (fun f fn hf hfn => by
      obtain rfl : f = 9 := Option.some.inj ((show Tryd.prog.funcNamed "chatelaine/chatelainelaw03.KeysText" = some 9 by kernel_rfl).symm.trans hf) |>.symm
      obtain rfl : fn = Tryd.f9 := (Option.some.inj (Tryd.func9.symm.trans hfn)).symm
      exact ⟨by kernel_rfl, fun j t ht => by
        rw [Tryd.params9] at ht
        have hm : t ∈ [35] := by simpa using Array.mem_of_getElem? ht
        have hall : ([35].all fun u => !Tryd.prog.wantsStandIn u) = true := by kernel_rfl
        exact (show Tryd.prog.wantsStandIn t = false by simpa using List.all_eq_true.1 hall t hm)⟩)
    (by kernel_rfl)
end Go.Proofs.YtmpibbgciajnkaaDoor.keysText

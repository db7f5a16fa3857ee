/- The law ProcsOne returns true for every input: each of several calls, on the same objects, answers and leaves what the document says (at most 20 objects, at most 30 calls). No condition but that the listed variables read as the program's own text lays them; the card ties them to it. -/
import Derived.Test.YtljfddeolapeaaaDoorJQ
import Derived.Test.YtljfddeolapeaaaDoorJVr
import Derived.Test.YtljfddeolapeaaaDoorJKn
import Derived.Test.YtljfddeolapeaaaDoorR07
namespace Go.Proofs.YtljfddeolapeaaaDoor.procsOne
open Go.ChangeShapes Go.WideShapes Go.ChangeAt Go.RowKit
attribute [local go_sem] Oper.semAt_some
set_option maxRecDepth 8000 in
set_option maxHeartbeats 1000000 in
theorem walk_no (w : World) (hT : Tab w) (A : Option Addr) (l : List Oj) (cap : Nat) (A2 : Option Addr) (aa : List Ja) (cap2 : Nat) (hr : RdO w A l) (h : ¬ madeP l) :
    Calls Tryd.prog 4 #[.slice A l.length cap, .slice A2 aa.length cap2] w fun e w' => e = .returned (.bool true) ∧ Below w.heap.size w w' := by
  have HT := Lib.hid hT
  have HR := Lib.hid hr
  have H := Lib.hid h
  have HB := Lib.hid (Below.refl w.heap.size w)
  clear hT hr h
  go_enter Tryd.func4, Tryd.ntmps4
  go_wp2_with (first
    | (go_at_call 7; refine (made_no HR.out H.out).mono ?_; rintro e w1 ⟨rfl, b1⟩; have HB1 := Lib.hid (HB.out.trans b1); clear b1)
    | (go_at_call 9; refine (known_any _ (HT.out.below HB1.out)).mono ?_; rintro e v9 ⟨rfl, b_⟩; have B9 := Lib.hid (HB1.out.trans (b_.mono (HB1.out).size)); clear b_))
  go_ret
  exact ⟨rfl, B9.out⟩
set_option maxRecDepth 8000 in
set_option maxHeartbeats 1000000 in
theorem walk_big (w : World) (hT : Tab w) (A : Option Addr) (l : List Oj) (cap : Nat) (A2 : Option Addr) (aa : List Ja) (cap2 : Nat) (hr : RdO w A l) (hra : RdJ w A2 aa) (h : madeP l) (hl : ¬ fewJ aa) :
    Calls Tryd.prog 4 #[.slice A l.length cap, .slice A2 aa.length cap2] w fun e w' => e = .returned (.bool true) ∧ Below w.heap.size w w' := by
  have HT := Lib.hid hT
  have HR := Lib.hid hr
  have HA := Lib.hid hra
  have H := Lib.hid h
  have HFW := Lib.hid hl
  have HB := Lib.hid (Below.refl w.heap.size w)
  clear hT hr hra h hl
  go_enter Tryd.func4, Tryd.ntmps4
  go_wp2_with (first
    | (go_at_call 7; refine (made_yes HT.out HR.out H.out).mono ?_; rintro e w1 ⟨q, rfl, hq, hs, b1⟩; have HB1 := Lib.hid (HB.out.trans b1); clear b1)
    | (go_at_call 8; refine (vast_yes (HA.out.below HB1.out) HFW.out).mono ?_; rintro e w2 ⟨rfl, b2⟩; have HB2 := Lib.hid (HB1.out.trans (b2.mono HB1.out.size)); clear b2)
    | (go_at_call 9; refine (known_any _ (HT.out.below HB2.out)).mono ?_; rintro e v9 ⟨rfl, b_⟩; have B9 := Lib.hid (HB2.out.trans (b_.mono (HB2.out).size)); clear b_))
  go_ret
  exact ⟨rfl, B9.out⟩
set_option maxRecDepth 100000 in
set_option maxHeartbeats 4000000 in
theorem walk_ok (w : World) (hT : Tab w) (A : Option Addr) (l : List Oj) (cap : Nat) (A2 : Option Addr) (aa : List Ja) (cap2 : Nat) (hr : RdO w A l) (hra : RdJ w A2 aa) (h : madeP l) (hl : fewJ aa) :
    Calls Tryd.prog 4 #[.slice A l.length cap, .slice A2 aa.length cap2] w fun e w' => e = .returned (.bool true) ∧ Below w.heap.size w w' := by
  have HT := Lib.hid hT
  have HR := Lib.hid hr
  have HA := Lib.hid hra
  have H := Lib.hid h
  have HFW := Lib.hid hl
  have HB := Lib.hid (Below.refl w.heap.size w)
  obtain ⟨n, hn⟩ : ∃ n, l.length = n := ⟨_, rfl⟩
  have HN := Lib.hid (show 0 < n by have := h.2.1; omega)
  have HN' := Lib.hid (show n ≤ 64 by have := h.1; omega)
  have HN1 := Lib.hid (show n ≤ 1000 by have := h.1; omega)
  have hl30 : aa.length ≤ 30 := hl.1
  have HLB := Lib.hid (show ∀ a, A = some a → a.block < w.heap.size by
    intro a e
    obtain ⟨b, off, e2, ho⟩ := hr 0 (by have := h.2.1; omega)
    rw [e] at e2
    injection e2 with e2
    subst e2
    exact ho.lt)
  have HMD := Lib.hid (fun (W : World) (hT : Tab W) (hr : RdO W A l) => hn ▸ made_yes (cap := cap) hT hr h)
  have HOK := Lib.hid (hn ▸ h.2.2.2 : okAll n l)
  rw [hn]
  have HLN := Lib.hid hn
  clear hT hr hra h hn
  have M0 := Lib.hid True.intro
  go_enter Tryd.func4, Tryd.ntmps4
  go_wp2_with (first
    | (clear M0; go_at_call 7; refine (HMD.out _ HT.out HR.out).mono ?_; rintro e w1 ⟨q, rfl, hq, ⟨A', cap', ps, hs⟩, b1⟩; have HP0 := Lib.hid (HB.out.trans b1); clear b1 hq hs)
    | (go_at_call 8; refine (vast_no (HA.out.below HP0.out) HFW.out).mono ?_; rintro e w2 ⟨rfl, b2⟩; have HP1 := Lib.hid (HP0.out.trans (b2.mono HP0.out.size)); clear b2))
  clear hl
  go_loopw [5, 6, 7, 8] (fun q5 _ _ _ wr => ∃ k : Nat, k ≤ aa.length ∧ q5 = .int .i64 k ∧ Below w.heap.size w wr) (fun q5 _ _ _ _ => aa.length + 1 - (intOf q5).toNat)
  case atStart => exact ⟨0, by omega, rfl, HP1.out⟩
  case round =>
    obtain ⟨k, hk, rfl, hply⟩ := hrel
    clear HP0 HP1
    have HP := Lib.hid hply
    clear hply
    by_cases hlt : k < aa.length
    ·
      obtain ⟨b, off, hA2, hst⟩ := HA.out k hlt
      obtain ⟨x, hx⟩ : ∃ x, x = aa[k] := ⟨_, rfl⟩
      rw [← hx] at hst
      have HX := Lib.hid (hst.below HP.out)
      subst hA2
      have e0 : decide ((k : Int) < (aa.length : Int)) = true := decide_eq_true (by omega)
      have e1 : decide (k < aa.length) = true := decide_eq_true hlt
      have e2 : (0 : Int) ≤ (k : Int) := by omega
      have e3 : (k : Int) < (aa.length : Int) := by omega
      clear hst hx
      go_wp2_with (first
        | (go_at_call 7; refine (HMD.out _ (HT.out.below HP.out) (HR.out.below HP.out)).mono ?_; rintro e w1 ⟨q, rfl, hq, ⟨A', cap', ps, hs⟩, b1⟩; have HB1 := Lib.hid (HP.out.trans (b1.mono HP.out.size)); have HS1 := Lib.hid hs; have HX1 := Lib.hid (HX.out.below b1); have HF1 := Lib.hid (show ∀ a, A = some a → a.block ∉ ps from fun a e hm => by have h1 := HLB.out a e; have h2 := (hs.pps _ hm).1; have h3 := HP.out.size; omega); have HQ := Lib.hid (Nat.le_trans HP.out.size hq); clear b1 hq hs)
        | ((with_reducible show wpList _ _ _ (Oper.mk (some 31) (.load _ _) _ _ _ _ :: _) _ _); refine wpList_yields (S := fun w' => JaAt w' b (off + k * 30) x) (y_ja (by rfl) (.tmp 30) (by rfl) b (off + k * 30) (by rfl) x (fun _ h => h)) HX1.out ?_)
        | (go_at_call 10; refine (does_any HS1.out HLN.out HN.out HN'.out HOK.out (TabB.of HT.out HB1.out HQ.out) (HR.out.below HB1.out) HF1.out x).mono ?_; rintro e w2 ⟨L2, c2, rfl, hL2, hs2, hr2, hf2⟩; have HS2 := Lib.hid hs2; have HR2 := Lib.hid hr2; have HL2 := Lib.hid ((doesA_len l x).trans HLN.out); have HB2 := Lib.hid (HB1.out.trans (hf2.to_below (fun k hk => by have h1 := (HS1.out.pps k hk).1; have h2 := HQ.out; omega) HB1.out.size)); clear hL2 hs2 hr2 hf2)
        | (go_at_call 11; refine (same_n HS2.out HL2.out HN.out HN1.out _ _ HR2.out).mono ?_; rintro e w3 ⟨rfl, b3⟩; have HB3 := Lib.hid (HB2.out.trans (b3.mono HB2.out.size)); clear b3))
      go_roundw
      case rel => exact ⟨k + 1, by omega, by go_num, HB3.out⟩
      case measure => simp [intOf]; omega
    · obtain rfl : k = aa.length := by omega
      have e0 : decide ((aa.length : Int) < (aa.length : Int)) = false := decide_eq_false (by omega)
      have e1 : decide (aa.length < aa.length) = false := decide_eq_false (by omega)
      go_wp2_with (first
        | (go_at_call 7; refine (HMD.out _ (HT.out.below HP.out) (HR.out.below HP.out)).mono ?_; rintro e w1 ⟨q, rfl, hq, ⟨A', cap', ps, hs⟩, b1⟩; have HB1 := Lib.hid (HP.out.trans (b1.mono HP.out.size)); have HS1 := Lib.hid hs; clear b1 hq hs)
        | (go_at_call 12; refine (states_any HS1.out HLN.out HN.out HN1.out (HT.out.below HB1.out) (HR.out.below HB1.out)).mono ?_; rintro e w2 ⟨rfl, b2⟩; have HB2 := Lib.hid (HB1.out.trans (b2.mono HB1.out.size)); clear b2)
        | (go_at_call 9; refine (known_any _ (HT.out.below HB2.out)).mono ?_; rintro e v9 ⟨rfl, b_⟩; have B9 := Lib.hid (HB2.out.trans (b_.mono (HB2.out).size)); clear b_))
      go_ret
      exact ⟨rfl, B9.out⟩
set_option maxRecDepth 8000 in
theorem walk (w : World) (hL : laidMetH Tryd.prog laidK w) (A : Option Addr) (l : List Oj) (cap : Nat) (hr : RdO w A l) (A2 : Option Addr) (aa : List Ja) (cap2 : Nat) (hra : RdJ w A2 aa) : Calls Tryd.prog 4 #[.slice A l.length cap, .slice A2 aa.length cap2] w fun e w' => e = .returned (.bool true) ∧ Below w.heap.size w w' := by
  by_cases h : madeP l
  · by_cases hl : fewJ aa
    · exact walk_ok w (tab_of hL) A l cap A2 aa cap2 hr hra h hl
    · exact walk_big w (tab_of hL) A l cap A2 aa cap2 hr hra h hl
  · exact walk_no w (tab_of hL) A l cap A2 aa cap2 hr h
set_option maxRecDepth 100000 in
theorem lifted (os : Os) (started : os.Started) (H : Type) (enc : TypeId × Value → H) :
    ReturnsInHanded {} Tryd.checked os 4 .any (fun w args => (Rows.procsOneSpec.pre enc Tryd.prog Tryd.f4 [] false w args ∧ laidMetH Tryd.prog laidK w) ∧ sizedMet enc Tryd.prog Tryd.f4 (OpenSpec.ofChange Rows.procsOneSpec) false w args) (Rows.procsOneSpec.post enc Tryd.prog Tryd.f4 false true false false) := by
  refine returnsInHanded_of_change_and (C := Tryd.checked) (X := fun w _ => laidMetH Tryd.prog laidK w) (fun _ _ _ hh h => h.of_heap hh) own started (by kernel_rfl) Tryd.func4
    (ChangeSpec.witness_shaped (enc := enc) (C := Tryd.checked) (os := os) (X := fun w _ => laidMetH Tryd.prog laidK w) false (World.doorLaid Tryd.prog 40 os) #[.slice none 0 0, .slice none 0 0] 8 rfl (World.shaped_of_RefB (by kernel_rfl) (by kernel_rfl)) (by kernel_rfl) (by kernel_rfl) (by kernel_rfl) (door_met os _)) ?_
  intro W base args ds gs before hval0 hW _ _ hL _
  have hval : ∀ (j : Nat) t v, Tryd.f4.params[j]? = some t → args[j]? = some v → Value.okWide Tryd.prog W .any base t v := hval0
  have hW' := hW
  obtain ⟨p, q, hA0, hV, rfl, hfz, hnd⟩ := hW
  have hA : DataW.TrodAll enc Tryd.prog W 0 (fun _ => true) true Tryd.f4.params.toList args.toList ds p := hA0
  rw [Tryd.params4] at hA hval
  obtain ⟨v0, vs0, d0, ds0, p0, q0, hargs, rfl, rfl, h0, t0⟩ := trodAll_cons hA
  obtain ⟨v1, vs1, d1, ds1, p1, q1, rfl, rfl, rfl, h1, t1⟩ := trodAll_cons t0
  obtain ⟨rfl, rfl, rfl⟩ := trodAll_nil t1
  obtain rfl : args = #[v0, v1] := by cases args; simp_all
  obtain ⟨rfl, rfl⟩ := trodVars_none hV
  have k0 := h0
  have lt0 : ∀ x ∈ p0, x.block < W.heap.size := by obtain ⟨m, hm⟩ := k0; exact DataW.trod_lt m _ _ _ hm
  obtain ⟨A0, l0, c0, rfl, hlc0, hcm0, hr0⟩ := open_obs (hval 0 22 v0 rfl rfl) h0
  have k1 := h1
  have lt1 : ∀ x ∈ p1, x.block < W.heap.size := by obtain ⟨m, hm⟩ := k1; exact DataW.trod_lt m _ _ _ hm
  obtain ⟨A1, l1, c1, rfl, hlc1, hcm1, hr1⟩ := open_jas (hval 1 23 v1 rfl rfl) h1
  clear hA0 hval0
  refine (walk W hL A0 l0 c0 hr0 A1 l1 c1 hr1).mono fun e W' ⟨he, bel⟩ => ?_
  subst he
  exact ⟨_, rfl, _, _, _, [], _, [], hW', trodAll_mk1 (shut_bool Tryd.underlying4 _), (trodAll_cons_mk (Below.trod laidOut (by kernel_rfl) (of_decide_eq_true (by kernel_rfl)) k0 bel lt0) (trodAll_cons_mk (Below.trod laidOut (by kernel_rfl) (of_decide_eq_true (by kernel_rfl)) k1 bel lt1) trodAll_mk0)), rfl, bel.frame _, fun h => by cases h⟩
theorem over : Rows.procsOneRow.holds Tryd.pinned (OpenSpec.ofChange Rows.procsOneSpec) :=
  OpenClaim.holds_of_wide 4 Tryd.f4 rfl rfl rfl rfl rfl rfl rfl ⟨rfl, rfl, rfl, rfl, rfl⟩ rfl rfl rfl rfl rfl (by kernel_rfl) Tryd.func4 (by kernel_rfl)
    (of_decide_eq_true (by kernel_rfl)) (by unfold Func.isWrapper; first | (rw [if_pos (by decide +kernel)]; kernel_rfl) | (rw [if_neg (by decide +kernel)]; exact ⟨rfl, rfl⟩))
    (fun os started H enc _ => lifted os started H enc)
set_option maxRecDepth 8000 in
theorem proved : Rows.ProcsOneCardSaid :=
  Claim7.holds_tied_plain_at .later [] [.data] true Rows.procsOneCard.stood.harness true
    over (fun _ h => by cases h) (by kernel_rfl) (fun _ h => by cases h) procsOne_row_tie rfl ⟨rfl, rfl⟩ (by kernel_rfl) rfl
    (fun f fn hf hfn => by
      obtain rfl : f = 4 := Option.some.inj ((show Tryd.prog.funcNamed "chatelaine/chatelainelaw13.ProcsOne" = some 4 by kernel_rfl).symm.trans hf) |>.symm
      obtain rfl : fn = Tryd.f4 := (Option.some.inj (Tryd.func4.symm.trans hfn)).symm
      exact ⟨by kernel_rfl, fun j t ht => by
        rw [Tryd.params4] at ht
        have hm : t ∈ [22, 23] := by simpa using Array.mem_of_getElem? ht
        have hall : ([22, 23].all fun u => !Tryd.prog.wantsStandIn u) = true := by kernel_rfl
        exact (show Tryd.prog.wantsStandIn t = false by simpa using List.all_eq_true.1 hall t hm)⟩)
    (by kernel_rfl)
end Go.Proofs.YtljfddeolapeaaaDoor.procsOne

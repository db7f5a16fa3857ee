/- The law ProcsPlay returns true for every input: processes call one another, wait, answer, are told, as the document says, and nothing else is changed (at most 20 objects, at most 30 calls). No condition but that the listed variables read as the program's own text lays them; the card ties them to it. -/
import Derived.Test.YtljfddeolapeaaaDoorJQ
import Derived.Test.YtljfddeolapeaaaDoorJVr
import Derived.Test.YtljfddeolapeaaaDoorJKn
import Derived.Test.YtljfddeolapeaaaDoorR07
namespace Go.Proofs.YtljfddeolapeaaaDoor.procsPlay
open Go.ChangeShapes Go.WideShapes Go.ChangeAt Go.RowKit
attribute [local go_sem] Oper.semAt_some
/-- how the law stands ahead of a round -/
structure Ply (w W : World) (q : Nat) (A' : Option Addr) (cap' : Nat) (ps : List Nat) (n : Nat) (L : Option Addr) (os : List Oj) : Prop where
  bel : Below w.heap.size w W
  st : StAt W q q A' cap' ps os
  ge : w.heap.size ≤ q
  row : RdO W L os
  far : ∀ a, L = some a → a.block ∉ ps
  len : os.length = n
  ok : okAll n os
set_option maxRecDepth 8000 in
theorem Ply.step {w W W' : World} {q : Nat} {A' : Option Addr} {cap' : Nat} {ps : List Nat} {n : Nat} {L L' : Option Addr} {os os' : List Oj} (h : Ply w W q A' cap' ps n L os) (hL : L' = L ∨ ∃ g, L' = some ⟨g, 0, none⟩ ∧ W.heap.size ≤ g) (hs : StAt W' q q A' cap' ps os') (hr : RdO W' L' os') (hl : os'.length = n) (ho : okAll n os') (hf : Fr (fun k => k ∈ ps) W W') : Ply w W' q A' cap' ps n L' os' := by
  refine ⟨h.bel.trans (hf.to_below (fun k hk => by have := (h.st.pps k hk).1; have := h.ge; omega) h.bel.size), hs, h.ge, hr, ?_, hl, ho⟩
  rcases hL with rfl | ⟨g, rfl, hg⟩
  · exact h.far
  · intro a e hm
    injection e with e
    subst e
    have := (h.st.lt _ (.inr (.inr hm))).2
    simp only at this
    omega
theorem Ply.below {w W W' : World} {q : Nat} {A' : Option Addr} {cap' : Nat} {ps : List Nat} {n : Nat} {L : Option Addr} {os : List Oj} (h : Ply w W q A' cap' ps n L os) (hb : Below W.heap.size W W') : Ply w W' q A' cap' ps n L os :=
  ⟨h.bel.trans (hb.mono h.bel.size), h.st.below hb, h.ge, h.row.below hb, h.far, h.len, h.ok⟩
set_option maxRecDepth 8000 in
set_option maxHeartbeats 1000000 in
theorem walk_no (w : World) (hT : Tab w) (A : Option Addr) (l : List Oj) (cap : Nat) (A2 : Option Addr) (aa : List Ja) (cap2 : Nat) (hr : RdO w A l) (h : ¬ madeP l) :
    Calls Tryd.prog 3 #[.slice A l.length cap, .slice A2 aa.length cap2] w fun e w' => e = .returned (.bool true) ∧ Below w.heap.size w w' := by
  have HT := Lib.hid hT
  have HR := Lib.hid hr
  have H := Lib.hid h
  have HB := Lib.hid (Below.refl w.heap.size w)
  clear hT hr h
  go_enter Tryd.func3, Tryd.ntmps3
  go_wp2_with (first
    | (go_at_call 7; refine (made_no HR.out H.out).mono ?_; rintro e w1 ⟨rfl, b1⟩; have HB1 := Lib.hid (HB.out.trans b1); clear b1)
    | (go_at_call 9; refine (known_any _ (HT.out.below HB1.out)).mono ?_; rintro e v9 ⟨rfl, b_⟩; have B9 := Lib.hid (HB1.out.trans (b_.mono (HB1.out).size)); clear b_))
  go_ret
  exact ⟨rfl, B9.out⟩
set_option maxRecDepth 8000 in
set_option maxHeartbeats 1000000 in
theorem walk_big (w : World) (hT : Tab w) (A : Option Addr) (l : List Oj) (cap : Nat) (A2 : Option Addr) (aa : List Ja) (cap2 : Nat) (hr : RdO w A l) (hra : RdJ w A2 aa) (h : madeP l) (hl : ¬ fewJ aa) :
    Calls Tryd.prog 3 #[.slice A l.length cap, .slice A2 aa.length cap2] w fun e w' => e = .returned (.bool true) ∧ Below w.heap.size w w' := by
  have HT := Lib.hid hT
  have HR := Lib.hid hr
  have HA := Lib.hid hra
  have H := Lib.hid h
  have HFW := Lib.hid hl
  have HB := Lib.hid (Below.refl w.heap.size w)
  clear hT hr hra h hl
  go_enter Tryd.func3, Tryd.ntmps3
  go_wp2_with (first
    | (go_at_call 7; refine (made_yes HT.out HR.out H.out).mono ?_; rintro e w1 ⟨q, rfl, hq, hs, b1⟩; have HB1 := Lib.hid (HB.out.trans b1); clear b1)
    | (go_at_call 8; refine (vast_yes (HA.out.below HB1.out) HFW.out).mono ?_; rintro e w2 ⟨rfl, b2⟩; have HB2 := Lib.hid (HB1.out.trans (b2.mono HB1.out.size)); clear b2)
    | (go_at_call 9; refine (known_any _ (HT.out.below HB2.out)).mono ?_; rintro e v9 ⟨rfl, b_⟩; have B9 := Lib.hid (HB2.out.trans (b_.mono (HB2.out).size)); clear b_))
  go_ret
  exact ⟨rfl, B9.out⟩
set_option maxRecDepth 100000 in
set_option maxHeartbeats 4000000 in
theorem walk_ok (w : World) (hT : Tab w) (A : Option Addr) (l : List Oj) (cap : Nat) (A2 : Option Addr) (aa : List Ja) (cap2 : Nat) (hr : RdO w A l) (hra : RdJ w A2 aa) (h : madeP l) (hl : fewJ aa) :
    Calls Tryd.prog 3 #[.slice A l.length cap, .slice A2 aa.length cap2] w fun e w' => e = .returned (.bool true) ∧ Below w.heap.size w w' := by
  have HT := Lib.hid hT
  have HR := Lib.hid hr
  have HA := Lib.hid hra
  have H := Lib.hid h
  have HFW := Lib.hid hl
  have HB := Lib.hid (Below.refl w.heap.size w)
  obtain ⟨n, hn⟩ : ∃ n, l.length = n := ⟨_, rfl⟩
  have HN := Lib.hid (show 0 < n by have := h.2.1; omega)
  have HN' := Lib.hid (show n ≤ 64 by have := h.1; omega)
  have HN1 := Lib.hid (show n ≤ 1000 by have := h.1; omega)
  have hl30 : aa.length ≤ 30 := hl.1
  have HLB := Lib.hid (show ∀ a, A = some a → a.block < w.heap.size by
    intro a e
    obtain ⟨b, off, e2, ho⟩ := hr 0 (by have := h.2.1; omega)
    rw [e] at e2
    injection e2 with e2
    subst e2
    exact ho.lt)
  have HMD := Lib.hid (fun (W : World) (hT : Tab W) (hr : RdO W A l) => hn ▸ made_yes (cap := cap) hT hr h)
  have HOK := Lib.hid (hn ▸ h.2.2.2 : okAll n l)
  rw [hn]
  have HLN := Lib.hid hn
  clear hT hr hra h hn
  go_enter Tryd.func3, Tryd.ntmps3
  go_wp2_with (first
    | (go_at_call 7; refine (HMD.out _ HT.out HR.out).mono ?_; rintro e w1 ⟨q, rfl, hq, ⟨A', cap', ps, hs⟩, b1⟩; have HP0 : Hid (Ply w w1 q A' cap' ps n A l) := Lib.hid ⟨HB.out.trans b1, hs, hq, HR.out.below b1, fun a e hm => by have h1 := HLB.out a e; have h2 := (hs.pps _ hm).1; omega, HLN.out, HOK.out⟩; clear b1 hq hs)
    | (go_at_call 8; refine (vast_no (HA.out.below HP0.out.bel) HFW.out).mono ?_; rintro e w2 ⟨rfl, b2⟩; have HP1 := Lib.hid (HP0.out.below b2); clear b2))
  clear hl
  go_loopw [0, 6, 7, 8] (fun u q6 _ _ wr => ∃ k : Nat, k ≤ aa.length ∧ q6 = .int .i64 k ∧ ∃ L c os, u = .slice L n c ∧ Ply w wr q A' cap' ps n L os) (fun _ q6 _ _ _ => aa.length + 1 - (intOf q6).toNat)
  case atStart => exact ⟨0, by omega, rfl, _, _, _, rfl, HP1.out⟩
  case round =>
    obtain ⟨k, hk, rfl, L, c, os, rfl, hply⟩ := hrel
    clear HP0 HP1
    have HP := Lib.hid hply
    clear hply
    by_cases hlt : k < aa.length
    ·
      obtain ⟨b, off, hA2, hst⟩ := HA.out k hlt
      obtain ⟨x, hx⟩ : ∃ x, x = aa[k] := ⟨_, rfl⟩
      rw [← hx] at hst
      have HX := Lib.hid (hst.below HP.out.bel)
      subst hA2
      have e0 : decide ((k : Int) < (aa.length : Int)) = true := decide_eq_true (by omega)
      have e1 : decide (k < aa.length) = true := decide_eq_true hlt
      have e2 : (0 : Int) ≤ (k : Int) := by omega
      have e3 : (k : Int) < (aa.length : Int) := by omega
      clear hst hx
      go_wp2_with (first
        | ((with_reducible show wpList _ _ _ (Oper.mk (some 30) (.load _ _) _ _ _ _ :: _) _ _); refine wpList_yields (S := fun w' => JaAt w' b (off + k * 30) x) (y_ja (by rfl) (.tmp 29) (by rfl) b (off + k * 30) (by rfl) x (fun _ h => h)) HX.out ?_)
        | (go_at_call 10; refine (does_any HP.out.st HP.out.len HN.out HN'.out HP.out.ok (TabB.of HT.out HP.out.bel HP.out.ge) HP.out.row HP.out.far x).mono ?_; rintro e w2 ⟨L2, c2, rfl, hL2, hs2, hr2, hf2⟩; have HP2 := Lib.hid (HP.out.step hL2 hs2 hr2 ((doesA_len os x).trans HP.out.len) (HP.out.len ▸ doesA_ok (HP.out.len.symm ▸ HP.out.ok) (HP.out.len.symm ▸ HN'.out) x) hf2); clear hL2 hs2 hr2 hf2)
        | (go_at_call 11; refine (same_n HP2.out.st HP2.out.len HN.out HN1.out _ _ HP2.out.row).mono ?_; rintro e w3 ⟨rfl, b3⟩; have HP3 := Lib.hid (HP2.out.below b3); clear b3)
        | (go_at_call 12; refine (states_any HP3.out.st HP3.out.len HN.out HN1.out (HT.out.below HP3.out.bel) HP3.out.row).mono ?_; rintro e w4 ⟨rfl, b4⟩; have HP4 := Lib.hid (HP3.out.below b4); clear b4))
      go_roundw
      case rel => exact ⟨k + 1, by omega, by go_num, _, _, _, rfl, HP4.out⟩
      case measure => simp [intOf]; omega
    · obtain rfl : k = aa.length := by omega
      have e0 : decide ((aa.length : Int) < (aa.length : Int)) = false := decide_eq_false (by omega)
      have e1 : decide (aa.length < aa.length) = false := decide_eq_false (by omega)
      go_wp2_with (first
        | (go_at_call 9; refine (known_any _ (HT.out.below HP.out.bel)).mono ?_; rintro e v9 ⟨rfl, b_⟩; have B9 := Lib.hid (HP.out.bel.trans (b_.mono (HP.out.bel).size)); clear b_))
      go_ret
      exact ⟨rfl, B9.out⟩
set_option maxRecDepth 8000 in
theorem walk (w : World) (hL : laidMetH Tryd.prog laidK w) (A : Option Addr) (l : List Oj) (cap : Nat) (hr : RdO w A l) (A2 : Option Addr) (aa : List Ja) (cap2 : Nat) (hra : RdJ w A2 aa) : Calls Tryd.prog 3 #[.slice A l.length cap, .slice A2 aa.length cap2] w fun e w' => e = .returned (.bool true) ∧ Below w.heap.size w w' := by
  by_cases h : madeP l
  · by_cases hl : fewJ aa
    · exact walk_ok w (tab_of hL) A l cap A2 aa cap2 hr hra h hl
    · exact walk_big w (tab_of hL) A l cap A2 aa cap2 hr hra h hl
  · exact walk_no w (tab_of hL) A l cap A2 aa cap2 hr h
set_option maxRecDepth 100000 in
theorem lifted (os : Os) (started : os.Started) (H : Type) (enc : TypeId × Value → H) :
    ReturnsInHanded {} Tryd.checked os 3 .any (fun w args => (Rows.procsPlaySpec.pre enc Tryd.prog Tryd.f3 [] false w args ∧ laidMetH Tryd.prog laidK w) ∧ sizedMet enc Tryd.prog Tryd.f3 (OpenSpec.ofChange Rows.procsPlaySpec) false w args) (Rows.procsPlaySpec.post enc Tryd.prog Tryd.f3 false true false false) := by
  refine returnsInHanded_of_change_and (C := Tryd.checked) (X := fun w _ => laidMetH Tryd.prog laidK w) (fun _ _ _ hh h => h.of_heap hh) own started (by kernel_rfl) Tryd.func3
    (ChangeSpec.witness_shaped (enc := enc) (C := Tryd.checked) (os := os) (X := fun w _ => laidMetH Tryd.prog laidK w) false (World.doorLaid Tryd.prog 40 os) #[.slice none 0 0, .slice none 0 0] 8 rfl (World.shaped_of_RefB (by kernel_rfl) (by kernel_rfl)) (by kernel_rfl) (by kernel_rfl) (by kernel_rfl) (door_met os _)) ?_
  intro W base args ds gs before hval0 hW _ _ hL _
  have hval : ∀ (j : Nat) t v, Tryd.f3.params[j]? = some t → args[j]? = some v → Value.okWide Tryd.prog W .any base t v := hval0
  have hW' := hW
  obtain ⟨p, q, hA0, hV, rfl, hfz, hnd⟩ := hW
  have hA : DataW.TrodAll enc Tryd.prog W 0 (fun _ => true) true Tryd.f3.params.toList args.toList ds p := hA0
  rw [Tryd.params3] at hA hval
  obtain ⟨v0, vs0, d0, ds0, p0, q0, hargs, rfl, rfl, h0, t0⟩ := trodAll_cons hA
  obtain ⟨v1, vs1, d1, ds1, p1, q1, rfl, rfl, rfl, h1, t1⟩ := trodAll_cons t0
  obtain ⟨rfl, rfl, rfl⟩ := trodAll_nil t1
  obtain rfl : args = #[v0, v1] := by cases args; simp_all
  obtain ⟨rfl, rfl⟩ := trodVars_none hV
  have k0 := h0
  have lt0 : ∀ x ∈ p0, x.block < W.heap.size := by obtain ⟨m, hm⟩ := k0; exact DataW.trod_lt m _ _ _ hm
  obtain ⟨A0, l0, c0, rfl, hlc0, hcm0, hr0⟩ := open_obs (hval 0 22 v0 rfl rfl) h0
  have k1 := h1
  have lt1 : ∀ x ∈ p1, x.block < W.heap.size := by obtain ⟨m, hm⟩ := k1; exact DataW.trod_lt m _ _ _ hm
  obtain ⟨A1, l1, c1, rfl, hlc1, hcm1, hr1⟩ := open_jas (hval 1 23 v1 rfl rfl) h1
  clear hA0 hval0
  refine (walk W hL A0 l0 c0 hr0 A1 l1 c1 hr1).mono fun e W' ⟨he, bel⟩ => ?_
  subst he
  exact ⟨_, rfl, _, _, _, [], _, [], hW', trodAll_mk1 (shut_bool Tryd.underlying4 _), (trodAll_cons_mk (Below.trod laidOut (by kernel_rfl) (of_decide_eq_true (by kernel_rfl)) k0 bel lt0) (trodAll_cons_mk (Below.trod laidOut (by kernel_rfl) (of_decide_eq_true (by kernel_rfl)) k1 bel lt1) trodAll_mk0)), rfl, bel.frame _, fun h => by cases h⟩
theorem over : Rows.procsPlayRow.holds Tryd.pinned (OpenSpec.ofChange Rows.procsPlaySpec) :=
  OpenClaim.holds_of_wide 3 Tryd.f3 rfl rfl rfl rfl rfl rfl rfl ⟨rfl, rfl, rfl, rfl, rfl⟩ rfl rfl rfl rfl rfl (by kernel_rfl) Tryd.func3 (by kernel_rfl)
    (of_decide_eq_true (by kernel_rfl)) (by unfold Func.isWrapper; first | (rw [if_pos (by decide +kernel)]; kernel_rfl) | (rw [if_neg (by decide +kernel)]; exact ⟨rfl, rfl⟩))
    (fun os started H enc _ => lifted os started H enc)
set_option maxRecDepth 8000 in
theorem proved : Rows.ProcsPlayCardSaid :=
  Claim7.holds_tied_plain_at .later [] [.data] true Rows.procsPlayCard.stood.harness true
    over (fun _ h => by cases h) (by kernel_rfl) (fun _ h => by cases h) procsPlay_row_tie rfl ⟨rfl, rfl⟩ (by kernel_rfl) rfl
    (fun f fn hf hfn => by
      obtain rfl : f = 3 := Option.some.inj ((show Tryd.prog.funcNamed "chatelaine/chatelainelaw13.ProcsPlay" = some 3 by kernel_rfl).symm.trans hf) |>.symm
      obtain rfl : fn = Tryd.f3 := (Option.some.inj (Tryd.func3.symm.trans hfn)).symm
      exact ⟨by kernel_rfl, fun j t ht => by
        rw [Tryd.params3] at ht
        have hm : t ∈ [22, 23] := by simpa using Array.mem_of_getElem? ht
        have hall : ([22, 23].all fun u => !Tryd.prog.wantsStandIn u) = true := by kernel_rfl
        exact (show Tryd.prog.wantsStandIn t = false by simpa using List.all_eq_true.1 hall t hm)⟩)
    (by kernel_rfl)
end Go.Proofs.YtljfddeolapeaaaDoor.procsPlay

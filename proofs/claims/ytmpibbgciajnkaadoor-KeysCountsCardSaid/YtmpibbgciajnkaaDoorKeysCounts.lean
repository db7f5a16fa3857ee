/- The law KeysCounts returns true for every input: keys.Counts of up to 60 keys with any object is the definition's. No condition but that the listed variables read as the program's own text lays them; the card ties them to it. -/
import Derived.Test.YtmpibbgciajnkaaDoorKAny
import Derived.Test.YtmpibbgciajnkaaDoorKFr
import Derived.Test.YtmpibbgciajnkaaDoorRegIn
import Derived.Test.YtmpibbgciajnkaaDoorKSl
import Derived.Test.YtmpibbgciajnkaaDoorKRco
import Derived.Deep.MidRow
namespace Go.Proofs.YtmpibbgciajnkaaDoor.keysCounts
open Go.ChangeShapes Go.WideShapes Go.ChangeAt Go.RowKit
attribute [local go_sem] Oper.semAt_some
theorem size40 : (Tryd.prog.info? 40).map (·.size) = some 163 := by kernel_rfl
theorem _root_.Go.Proofs.YtmpibbgciajnkaaDoor.Blk.rangeAll {w : World} {g : Nat} {t : TypeId} {l : List Value} (h : Blk w g t l.toArray) : w.rangeAt g 0 l := fun j v hv => by
  rw [Nat.zero_add, h.cell]
  simpa using hv
set_option maxRecDepth 100000 in
theorem open_object {H : Type} {enc : TypeId × Value → H} {W : World} {base : Nat} {spare : Nat → Bool} {held : Bool} {r : Reach} {b0 : Nat} {v : Value} {d : DataW H} {p : List MemPlace} (hv : Value.okWide Tryd.prog W r b0 40 v) (h : DataW.Trod enc Tryd.prog W base spare held 40 v d p) :
    ∃ (ob : List Value) (kk cc ll : Int), v = .agg ob.toArray ∧ ob.length = 163 ∧ Ob ob kk cc ll := by
  obtain ⟨cs, rfl, hsz⟩ := okWide_struct Tryd.underlying40 hv
  obtain ⟨f, hf⟩ := h
  obtain ⟨xs, n, _, _, hl, hn, hel⟩ := DataW.trod_struct Tryd.underlying40 hf
  obtain ⟨cs⟩ := cs
  have hl' : cs.length = 163 := hl.trans (by kernel_rfl)
  have c1 : ∀ t, t = 31 ∨ t = 2 → Tryd.prog.cellsOf t = 1 := by
    intro t ht
    rcases ht with rfl | rfl <;> kernel_rfl
  have g : ∀ (i off : Nat) (t : TypeId) (x : DataW H × List MemPlace), (t = 31 ∨ t = 2) → off < 163 → DataW.trod enc Tryd.prog W base spare held n t ((cs.drop off).take (Tryd.prog.cellsOf t)) = some x → ∃ q : Int, cs[off]? = some (.int .i64 q) := by
    intro i off t x ht hoff hx
    rw [c1 t ht, List.drop_eq_getElem_cons (by omega)] at hx
    simp only [List.take_succ_cons, List.take_zero] at hx
    have hu : Tryd.prog.underlying t = some (.int .i64) := by
      rcases ht with rfl | rfl
      · exact Tryd.underlying31
      · exact Tryd.underlying2
    obtain ⟨q, hq, _, _⟩ := DataW.trod_int hu hx
    simp only [List.cons.injEq, and_true] at hq
    exact ⟨q, by rw [List.getElem?_eq_getElem (by omega), hq]⟩
  match xs, hn with
  | [y0, y1, y2, y3, y4], _ =>
    obtain ⟨q0, e0⟩ := g 0 0 31 y0 (.inl rfl) (by decide) (hel 0 _ rfl)
    obtain ⟨q1, e1⟩ := g 1 1 2 y1 (.inr rfl) (by decide) (hel 1 _ rfl)
    obtain ⟨q2, e2⟩ := g 2 2 2 y2 (.inr rfl) (by decide) (hel 2 _ rfl)
    exact ⟨cs, q0, q1, q2, rfl, hl', e0, e1, e2⟩
set_option maxRecDepth 100000 in
set_option maxHeartbeats 1000000 in
theorem walk_big (w : World) (hT : Tab w) (A : Option Addr) (l : List Ky) (cap : Nat) (ob : List Value) (hl : 60 < l.length) :
    Calls Tryd.prog 5 #[.slice A l.length cap, .agg ob.toArray] w fun e w' => e = .returned (.bool true) ∧ Below w.heap.size w w' := by
  have HT := Lib.hid hT
  have h60 : (60 : Int) < (l.length : Int) := by omega
  have d60 : decide ((60 : Int) < (l.length : Int)) = true := by simpa using h60
  clear hT h60
  go_enter Tryd.func5, Tryd.ntmps5
  go_wp2_with (go_at_call 18; refine (known_any _ (HT.out.alloc (.cells ob.toArray 40))).mono ?_; rintro e w1 ⟨rfl, b1⟩)
  go_ret
  exact ⟨rfl, below_box b1⟩
set_option maxRecDepth 100000 in
set_option maxHeartbeats 4000000 in
theorem walk_small (w : World) (hT : Tab w) (A : Option Addr) (l : List Ky) (cap : Nat) (hl : l.length ≤ 60) (hr : RdK w A l) (ob : List Value) (kk cc ll : Int) (hlen : ob.length = 163) (ho : Ob ob kk cc ll) :
    Calls Tryd.prog 5 #[.slice A l.length cap, .agg ob.toArray] w fun e w' => e = .returned (.bool true) ∧ Below w.heap.size w w' := by
  have HT := Lib.hid (hT.alloc (.cells ob.toArray 40))
  have HR := Lib.hid (hr.alloc (.cells ob.toArray 40))
  have HB := Lib.hid ((Below.refl w.heap.size w).alloc (Nat.le_refl _) (.cells ob.toArray 40))
  have HG := Lib.hid (Blk.new w 40 ob.toArray)
  have HO := Lib.hid ho
  have HLEN := Lib.hid hlen
  have h60 : ¬ (60 : Int) < (l.length : Int) := by omega
  have d60 : decide ((60 : Int) < (l.length : Int)) = false := by simpa using h60
  clear hT hr h60 ho hlen
  go_enter Tryd.func5, Tryd.ntmps5
  go_wp2
  generalize w.alloc (.cells ob.toArray 40) = w0 at HT HR HB HG ⊢
  go_loopw [5] (fun i wr => ∃ k : Nat, k ≤ l.length ∧ i = .int .i64 k ∧ Below w.heap.size w wr ∧ RdK wr A l ∧ Tab wr ∧ Blk wr w.heap.size 40 ob.toArray) (fun i _ => l.length + 1 - (intOf i).toNat)
  case atStart => exact ⟨0, by omega, rfl, HB.out, HR.out, HT.out, HG.out⟩
  case round =>
    obtain ⟨k, hk, rfl, hb, hrd, ht, hg⟩ := hrel
    clear HT HR HB HG
    by_cases hlt : k < l.length
    · obtain ⟨b, o, rfl, hke⟩ := hrd k hlt
      obtain ⟨x, hx⟩ : ∃ x, x = l[k] := ⟨_, rfl⟩
      rw [← hx] at hke
      have HB0 := Lib.hid hb
      have HT0 := Lib.hid ht
      have K0 := Lib.hid hke
      have R0 := Lib.hid hrd
      have G0 := Lib.hid hg
      clear hb ht hke hrd hx hg
      go_wp2
      refine wp_region_only (S := fun w' => (w'.cell? ⟨b, o + k * 6, none⟩ = some (.int .i64 x.k) ∧ w'.cell? ⟨b, o + k * 6 + 1, none⟩ = some (.int .i64 x.o) ∧ w'.cell? ⟨b, o + k * 6 + 2, none⟩ = some (.int .i64 x.c) ∧ w'.cell? ⟨b, o + k * 6 + 3, none⟩ = some (.int .i64 x.l) ∧ w'.cell? ⟨b, o + k * 6 + 4, none⟩ = some (.int .i64 x.r) ∧ w'.cell? ⟨b, o + k * 6 + 5, none⟩ = some (.int .i64 x.v)) ∧ w'.rangeAt w.heap.size 0 ob) (by kernel_rfl) ⟨K0.out.drew.six, Blk.rangeAll G0.out.drew⟩ (fun hHeld => ?_)
      refine wpAnyH_take (i := 0) (v := ?v1) rfl (by kernel_rfl) (by kernel_rfl) (by kernel_rfl) (fun _ _ _ h => h) (Or.inl ⟨by rfl, ?hy1⟩) hHeld ?rest1
      case hy1 =>
        intro w' hSw
        try dsimp only at hSw
        go_simp
        first | done | with_reducible rfl
      try simp only [Act.put, List.getElem_toArray, List.getElem_cons_zero, List.setIfInBounds_toArray, List.set_cons_zero, List.set_cons_succ]
      refine wpAnyH_take (i := 1) (v := ?v2) rfl (by kernel_rfl) (by kernel_rfl) (by kernel_rfl) (fun _ _ _ h => h) (Or.inl ⟨by rfl, ?hy2⟩) hHeld ?rest2
      case hy2 =>
        intro w' hSw
        try dsimp only at hSw
        go_simp
        first | done | with_reducible rfl
      try simp only [Act.put, List.getElem_toArray, List.getElem_cons_succ, List.getElem_cons_zero, List.setIfInBounds_toArray, List.set_cons_zero, List.set_cons_succ]
      refine wpAnyH_take (i := 2) (v := ?v3) rfl (by kernel_rfl) (by kernel_rfl) (by kernel_rfl) (fun _ _ _ h => h) (Or.inl ⟨by rfl, ?hy3⟩) hHeld ?rest3
      case hy3 =>
        intro w' hSw
        try dsimp only at hSw
        go_simp
        first | done | with_reducible rfl
      try simp only [Act.put, List.getElem_toArray, List.getElem_cons_succ, List.getElem_cons_zero, List.setIfInBounds_toArray, List.set_cons_zero, List.set_cons_succ]
      refine wpAnyH_take (i := 3) (v := ?v4) rfl (by kernel_rfl) (by kernel_rfl) (by kernel_rfl) (fun _ _ _ h => h) (Or.inl ⟨by rfl, ?hy4⟩) hHeld ?rest4
      case hy4 =>
        intro w' hSw
        try dsimp only at hSw
        go_simp
        first | done | with_reducible rfl
      try simp only [Act.put, List.getElem_toArray, List.getElem_cons_succ, List.getElem_cons_zero, List.setIfInBounds_toArray, List.set_cons_zero, List.set_cons_succ]
      refine wpAnyH_take (i := 4) rfl (by kernel_rfl) (by kernel_rfl) (by kernel_rfl) (fun _ _ _ h => h) (yieldsIf_load_mid (by rfl) 40 _ (by rfl) w.heap.size 0 (by rfl) ob _ (fun w' hSw => hSw.2) Tryd.underlying40 rfl (by rw [HLEN.out]; exact size40)) hHeld ?_
      try simp only [Act.put, List.getElem_toArray, List.getElem_cons_succ, List.getElem_cons_zero, List.setIfInBounds_toArray, List.set_cons_zero, List.set_cons_succ]
      refine wpAnyH_take (i := 6) (v := ?v5) rfl (by kernel_rfl) (by kernel_rfl) (by kernel_rfl) (fun _ _ _ h => h) (Or.inl ⟨by rfl, ?hy5⟩) hHeld ?rest5
      case hy5 =>
        intro w' hSw
        try dsimp only at hSw
        go_simp
        first | done | with_reducible rfl
      try simp only [Act.put, List.getElem_toArray, List.getElem_cons_succ, List.getElem_cons_zero, List.setIfInBounds_toArray, List.set_cons_zero, List.set_cons_succ]
      refine wpAnyH_take (i := 7) (v := ?v6) rfl (by kernel_rfl) (by kernel_rfl) (by kernel_rfl) (fun _ _ _ h => h) (Or.inl ⟨by rfl, ?hy6⟩) hHeld ?rest6
      case hy6 =>
        intro w' hSw
        try dsimp only at hSw
        go_simp
        first | done | with_reducible rfl
      try simp only [Act.put, List.getElem_toArray, List.getElem_cons_succ, List.getElem_cons_zero, List.setIfInBounds_toArray, List.set_cons_zero, List.set_cons_succ]
      refine wpAnyH_take (i := 8) (v := ?v7) rfl (by kernel_rfl) (by kernel_rfl) (by kernel_rfl) (fun _ _ _ h => h) (Or.inl ⟨by rfl, ?hy7⟩) hHeld ?rest7
      case hy7 =>
        intro w' hSw
        try dsimp only at hSw
        go_simp
        first | done | with_reducible rfl
      try simp only [Act.put, List.getElem_toArray, List.getElem_cons_succ, List.getElem_cons_zero, List.setIfInBounds_toArray, List.set_cons_zero, List.set_cons_succ]
      refine wpAnyH_take (i := 9) (v := ?v8) rfl (by kernel_rfl) (by kernel_rfl) (by kernel_rfl) (fun _ _ _ h => h) (Or.inl ⟨by rfl, ?hy8⟩) hHeld ?rest8
      case hy8 =>
        intro w' hSw
        try dsimp only at hSw
        go_simp
        first | done | with_reducible rfl
      try simp only [Act.put, List.getElem_toArray, List.getElem_cons_succ, List.getElem_cons_zero, List.setIfInBounds_toArray, List.set_cons_zero, List.set_cons_succ]
      refine wpAnyH_take (i := 10) rfl (by kernel_rfl) (by kernel_rfl) (by kernel_rfl) (fun _ _ _ h => h) (yieldsIf_load_mid (by rfl) 40 _ (by rfl) w.heap.size 0 (by rfl) ob _ (fun w' hSw => hSw.2) Tryd.underlying40 rfl (by rw [HLEN.out]; exact size40)) hHeld ?_
      try simp only [Act.put, List.getElem_toArray, List.getElem_cons_succ, List.getElem_cons_zero, List.setIfInBounds_toArray, List.set_cons_zero, List.set_cons_succ]
      refine wpAnyH_ready (rs := [5]) (by kernel_rfl) (by simp) ?_
      refine AllReadyH.cons (by rfl) (fun K hK => ?_) AllReadyH.nil
      go_simp
      refine (count_any x ob kk cc ll _ (HT0.out.drew) HO.out).mono ?_
      rintro e y1 ⟨rfl, b1⟩
      have HB_1 := Lib.hid ((below_drew HB0.out).trans (b1.mono HB0.out.size))
      have HT_1 := Lib.hid ((HT0.out.drew).below b1)
      have HG0_1 := Lib.hid ((K0.out.drew).keep b1)
      have HG1_1 := Lib.hid ((R0.out.drew).keep b1)
      have HG2_1 := Lib.hid ((G0.out.drew).keep b1)
      clear b1 hHeld
      go_wp2_with fail
      refine hK.out _ _ ⟨HG0_1.out.six, Blk.rangeAll HG2_1.out⟩ (fun hHeld => ?_)
      clear hK K
      try simp only [Act.put, List.getElem_toArray, List.getElem_cons_succ, List.getElem_cons_zero, List.setIfInBounds_toArray, List.set_cons_zero, List.set_cons_succ]
      refine wpAnyH_ready (rs := [11]) (by kernel_rfl) (by simp) ?_
      refine AllReadyH.cons (by rfl) (fun K hK => ?_) AllReadyH.nil
      go_simp
      refine (rcount_any x ob kk cc ll _ HO.out).mono ?_
      rintro e y2 ⟨rfl, b2⟩
      have HB_2 := Lib.hid (HB_1.out.trans (b2.mono HB_1.out.size))
      have HT_2 := Lib.hid ((HT_1.out).below b2)
      have HG0_2 := Lib.hid ((HG0_1.out).keep b2)
      have HG1_2 := Lib.hid ((HG1_1.out).keep b2)
      have HG2_2 := Lib.hid ((HG2_1.out).keep b2)
      clear b2 hHeld
      clear HB_1 HT_1 HG0_1 HG1_1 HG2_1
      go_wp2_with fail
      refine hK.out _ _ ⟨HG0_2.out.six, Blk.rangeAll HG2_2.out⟩ (fun hHeld => ?_)
      clear hK K
      try simp only [Act.put, List.getElem_toArray, List.getElem_cons_succ, List.getElem_cons_zero, List.setIfInBounds_toArray, List.set_cons_zero, List.set_cons_succ]
      refine wpAnyH_take (i := 12) (v := ?v9) rfl (by kernel_rfl) (by kernel_rfl) (by kernel_rfl) (fun _ _ _ h => h) (Or.inl ⟨by rfl, ?hy9⟩) hHeld ?rest9
      case hy9 =>
        intro w' hSw
        try dsimp only at hSw
        go_simp
        first | done | with_reducible rfl
      try simp only [Act.put, List.getElem_toArray, List.getElem_cons_succ, List.getElem_cons_zero, List.setIfInBounds_toArray, List.set_cons_zero, List.set_cons_succ]
      refine wpAnyH_done (by kernel_rfl) ?_ _
      refine OnlyN.normal ?_
      clear hHeld
      go_wp2
      go_roundw
      case rel => exact ⟨k + 1, by omega, by go_num, HB_2.out, HG1_2.out, HT_2.out, HG2_2.out⟩
      case measure => simp [intOf]; omega
    · obtain rfl : k = l.length := by omega
      have HB0 := Lib.hid hb
      have HT0 := Lib.hid ht
      clear hb ht hrd hg
      go_wp2_with (go_at_call 18; refine (known_any _ HT0.out).mono ?_; rintro e v9 ⟨rfl, b_⟩; have B9 := Lib.hid (HB0.out.trans (b_.mono HB0.out.size)); clear b_)
      go_ret
      exact ⟨rfl, B9.out⟩
theorem walk (w : World) (hL : laidMetH Tryd.prog laidK w) (A : Option Addr) (l : List Ky) (cap : Nat) (_ : l.length ≤ cap) (_ : cap ≤ maxLen) (hr : RdK w A l) (ob : List Value) (kk cc ll : Int) (hlen : ob.length = 163) (ho : Ob ob kk cc ll) : Calls Tryd.prog 5 #[.slice A l.length cap, .agg ob.toArray] w fun e w' => e = .returned (.bool true) ∧ Below w.heap.size w w' := by
  by_cases h : l.length ≤ 60
  · exact walk_small w (tab_of hL) A l cap h hr ob kk cc ll hlen ho
  · exact walk_big w (tab_of hL) A l cap ob (by omega)
set_option maxRecDepth 100000 in
theorem lifted (os : Os) (started : os.Started) (H : Type) (enc : TypeId × Value → H) :
    ReturnsInHanded {} Tryd.checked os 5 .any (fun w args => (Rows.keysCountsSpec.pre enc Tryd.prog Tryd.f5 [] false w args ∧ laidMetH Tryd.prog laidK w) ∧ sizedMet enc Tryd.prog Tryd.f5 (OpenSpec.ofChange Rows.keysCountsSpec) false w args) (Rows.keysCountsSpec.post enc Tryd.prog Tryd.f5 false true false false) := by
  refine returnsInHanded_of_change_and (C := Tryd.checked) (X := fun w _ => laidMetH Tryd.prog laidK w) (fun _ _ _ hh h => h.of_heap hh) own started (by kernel_rfl) Tryd.func5
    (ChangeSpec.witness_shaped (enc := enc) (C := Tryd.checked) (os := os) (X := fun w _ => laidMetH Tryd.prog laidK w) false (World.doorLaid Tryd.prog 40 os) #[.slice none 0 0, .agg (List.replicate 99 (Value.int .i64 0) ++ List.replicate 64 (Value.int .u8 0)).toArray] 8 rfl (World.shaped_of_RefB (by kernel_rfl) (by kernel_rfl)) (by kernel_rfl) (by kernel_rfl) (by kernel_rfl) (door_met os _)) ?_
  intro W base args ds gs before hval0 hW _ _ hL _
  have hval : ∀ (j : Nat) t v, Tryd.f5.params[j]? = some t → args[j]? = some v → Value.okWide Tryd.prog W .any base t v := hval0
  have hW' := hW
  obtain ⟨p, q, hA0, hV, rfl, hfz, hnd⟩ := hW
  have hA : DataW.TrodAll enc Tryd.prog W 0 (fun _ => true) true Tryd.f5.params.toList args.toList ds p := hA0
  rw [Tryd.params5] at hA hval
  obtain ⟨v0, vs0, d0, ds0, p0, q0, hargs, rfl, rfl, h0, t0⟩ := trodAll_cons hA
  obtain ⟨v1, vs1, d1, ds1, p1, q1, rfl, rfl, rfl, h1, t1⟩ := trodAll_cons t0
  obtain ⟨rfl, rfl, rfl⟩ := trodAll_nil t1
  obtain rfl : args = #[v0, v1] := by cases args; simp_all
  obtain ⟨rfl, rfl⟩ := trodVars_none hV
  have k0 := h0
  have lt0 : ∀ x ∈ p0, x.block < W.heap.size := by obtain ⟨m, hm⟩ := k0; exact DataW.trod_lt m _ _ _ hm
  obtain ⟨A0, l0, c0, rfl, hlc0, hcm0, hr0⟩ := open_keys (hval 0 35 v0 rfl rfl) h0
  have k1 := h1
  have lt1 : ∀ x ∈ p1, x.block < W.heap.size := by obtain ⟨m, hm⟩ := k1; exact DataW.trod_lt m _ _ _ hm
  obtain ⟨ob1, kk1, cc1, ll1, rfl, hlen1, ho1⟩ := open_object (hval 1 40 v1 rfl rfl) h1
  clear hA0 hval0
  refine (walk W hL A0 l0 c0 hlc0 hcm0 hr0 ob1 kk1 cc1 ll1 hlen1 ho1).mono fun e W' ⟨he, bel⟩ => ?_
  subst he
  exact ⟨_, rfl, _, _, _, [], _, [], hW', trodAll_mk1 (shut_bool Tryd.underlying4 _), (trodAll_cons_mk (Below.trod laidOut (by kernel_rfl) (of_decide_eq_true (by kernel_rfl)) k0 bel lt0) (trodAll_cons_mk (Below.trod laidOut (by kernel_rfl) (of_decide_eq_true (by kernel_rfl)) k1 bel lt1) trodAll_mk0)), rfl, bel.frame _, fun h => by cases h⟩
theorem over : Rows.keysCountsRow.holds Tryd.pinned (OpenSpec.ofChange Rows.keysCountsSpec) :=
  OpenClaim.holds_of_wide 5 Tryd.f5 rfl rfl rfl rfl rfl rfl rfl ⟨rfl, rfl, rfl, rfl, rfl⟩ rfl rfl rfl rfl rfl (by kernel_rfl) Tryd.func5 (by kernel_rfl)
    (of_decide_eq_true (by kernel_rfl)) (by unfold Func.isWrapper; first | (rw [if_pos (by decide +kernel)]; kernel_rfl) | (rw [if_neg (by decide +kernel)]; exact ⟨rfl, rfl⟩))
    (fun os started H enc _ => lifted os started H enc)
theorem proved : Rows.KeysCountsCardSaid :=
  Claim7.holds_tied_plain_at .later [] [.data] true Rows.keysCountsCard.stood.harness false
    over (fun _ h => by cases h) (by kernel_rfl) (fun _ h => by cases h) keysCounts_row_tie rfl ⟨rfl, rfl⟩ (by kernel_rfl) rfl
    (fun f fn hf hfn => by
      obtain rfl : f = 5 := Option.some.inj ((show Tryd.prog.funcNamed "chatelaine/chatelainelaw03.KeysCounts" = some 5 by kernel_rfl).symm.trans hf) |>.symm
      obtain rfl : fn = Tryd.f5 := (Option.some.inj (Tryd.func5.symm.trans hfn)).symm
      exact ⟨by kernel_rfl, fun j t ht => by
        rw [Tryd.params5] at ht
        have hm : t ∈ [35, 40] := by simpa using Array.mem_of_getElem? ht
        have hall : ([35, 40].all fun u => !Tryd.prog.wantsStandIn u) = true := by kernel_rfl
        exact (show Tryd.prog.wantsStandIn t = false by simpa using List.all_eq_true.1 hall t hm)⟩)
    (by kernel_rfl)
end Go.Proofs.YtmpibbgciajnkaaDoor.keysCounts

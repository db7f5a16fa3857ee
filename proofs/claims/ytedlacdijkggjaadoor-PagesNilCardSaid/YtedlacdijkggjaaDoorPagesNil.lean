/- The law PagesNil returns true for every input: without a store each call answers ErrNil, and tells no bytes. No condition but that the listed variables read as the program's own text lays them; the card ties them to it. -/
import Derived.Test.YtedlacdijkggjaaDoorGDo
import Derived.Test.YtedlacdijkggjaaDoorR12
import Derived.Test.YtedlacdijkggjaaDoorR05
namespace Go.Proofs.YtedlacdijkggjaaDoor.pagesNil
open Go.ChangeShapes Go.WideShapes Go.ChangeAt Go.RowKit
attribute [local go_sem] Oper.semAt_some
theorem nil_ask (w : World) (hT : Tab w) (x : Ky) (ch : Bool) (a n : Int) : Calls Tryd.prog 23 #[.pointer none, x.val, .bool ch, .agg (spn a n)] w fun e w' => e = .returned (.tuple #[.agg zpgc.toArray, .int .i64 1]) ∧ Below w.heap.size w w' :=
  ask_e1 (u := oz) x ch a n false (fun W hW => named_nil W (hT.below hW) x) (fun W _ => size_nil W)
theorem nil_read (w : World) (hT : Tab w) (x : Ky) (a n : Int) : Calls Tryd.prog 12 #[.pointer none, x.val, .int .i64 a, .int .i64 n] w fun e w' => e = .returned (.tuple #[.string { data := #[] }, .int .i64 1]) ∧ Below w.heap.size w w' :=
  nread_err x a n 1 (by decide) fun W hW => nil_ask W (hT.below hW) x false a n
theorem nil_write {w : World} {base q : Nat} {A : Option Addr} {cap : Nat} {ps : List Nat} (h : StAt w base q A cap ps []) (hT : Tab w) (x : Ky) (a : Int) (s : List UInt8) : Calls Tryd.prog 13 #[pv q, x.val, .int .i64 a, .string (st s)] w fun e w' => e = .returned (.int .i64 1) ∧ Below w.heap.size w w' :=
  nwrite_err x a s 1 (by decide) fun W hW => ask_e1 (u := oz) x true a _ false (fun W' hW' => named_none ((h.below hW).below hW') ((hT.below hW).below hW') x) (fun W' hW' => size_none ((h.below hW).below hW'))
theorem nil_wipe (w : World) (hT : Tab w) (x : Ky) : Calls Tryd.prog 14 #[.pointer none, x.val] w fun e w' => e = .returned (.int .i64 1) ∧ Below w.heap.size w w' :=
  nclear_err x 1 (by decide) fun W hW => nil_ask W (hT.below hW) x true 0 64
theorem nil_copy (w : World) (hT : Tab w) (x y : Ky) : Calls Tryd.prog 15 #[.pointer none, x.val, y.val] w fun e w' => e = .returned (.int .i64 1) ∧ Below w.heap.size w w' :=
  ncopy_err x y 1 (by decide) fun W hW => nil_ask W (hT.below hW) x true 0 64
set_option maxRecDepth 8000 in
theorem st_nil (w : World) (q : Nat) (hq : q = w.heap.size) : StAt (w.alloc (.cells #[.slice none 0 0] 54)) q q none 0 [] [] := by
  subst hq
  exact StAt.nil w _ (Nat.le_refl _)
set_option maxRecDepth 8000 in
theorem built66 : Tryd.prog.built 54 [] = some #[.slice none 0 0] := by kernel_rfl
set_option maxRecDepth 100000 in
set_option maxHeartbeats 4000000 in
theorem walk0 (w : World) (hT : Tab w) (k a n : Int) (x y : Ky) (s : List UInt8) :
    Calls Tryd.prog 6 #[.agg (pa k a n x y s)] w fun e w' => e = .returned (.bool true) ∧ Below w.heap.size w w' := by
  have HT := Lib.hid hT
  have HB0 := Lib.hid ((Below.refl w.heap.size w).alloc (Nat.le_refl _) (.cells (pa k a n x y s) 32))
  have HA0 := Lib.hid (Blk.new w 32 (pa k a n x y s))
  obtain ⟨c0, c1, c2, c3, c4, c5, c6, c7, c8, c9, c10, c11, c12, c13, c14, c15⟩ := HA0.out.pa_
  have hsz := st_size s
  clear hT
  by_cases h100 : 100 < s.length
  · have e2 : decide ((100 : Int) < (s.length : Int)) = true := decide_eq_true (by omega)
    have e3 : decide (100 < s.length) = true := decide_eq_true h100
    go_enter Tryd.func6, Tryd.ntmps6
    go_wp2_with (first
      | (go_at_call 9; refine (known_any _ (HT.out.below HB0.out)).mono ?_; rintro e v9 ⟨rfl, b_⟩; have B9 := Lib.hid (HB0.out.trans (b_.mono (HB0.out).size)); clear b_))
    go_ret
    exact ⟨rfl, B9.out⟩
  · have e2 : decide ((100 : Int) < (s.length : Int)) = false := decide_eq_false (by omega)
    have e3 : decide (100 < s.length) = false := decide_eq_false h100
    go_enter Tryd.func6, Tryd.ntmps6
    go_wp2_with (first
      | (go_at_call 12; refine (nil_read _ (HT.out.below HB0.out) x a n).mono ?_; rintro e w1 ⟨rfl, b1⟩; have HB1 := Lib.hid ((HB0.out.trans (b1.mono HB0.out.size)).alloc (Nat.le_trans HB0.out.size b1.size) (.cells #[.slice none 0 0] 54)); have HA1 := Lib.hid ((HA0.out.keep b1).alloc (.cells #[.slice none 0 0] 54)); have HS1 := Lib.hid (st_nil w1 w1.heap.size rfl); clear b1 c0 c1 c2 c3 c4 c5 c6 c7 c8 c9 c10 c11 c12 c13 c14 c15; obtain ⟨c0, c1, c2, c3, c4, c5, c6, c7, c8, c9, c10, c11, c12, c13, c14, c15⟩ := HA1.out.pa_)
      | (show wpList _ _ _ ({ dst := some 21, op := .build _ _, type := _, pos := _, after := _, guard := _ } :: _) _ _; refine wpList_yields (S := fun _ => True) (y_build (by rfl) (by rfl) built66) trivial ?_)
      | (go_at_call 13; refine (nil_write HS1.out (HT.out.below HB1.out) x a s).mono ?_; rintro e w2 ⟨rfl, b2⟩; have HB2 := Lib.hid (HB1.out.trans (b2.mono HB1.out.size)); have HA2 := Lib.hid (HA1.out.keep b2); clear b2 c0 c1 c2 c3 c4 c5 c6 c7 c8 c9 c10 c11 c12 c13 c14 c15; obtain ⟨c0, c1, c2, c3, c4, c5, c6, c7, c8, c9, c10, c11, c12, c13, c14, c15⟩ := HA2.out.pa_)
      | (go_at_call 14; refine (nil_wipe _ (HT.out.below HB2.out) x).mono ?_; rintro e w3 ⟨rfl, b3⟩; have HB3 := Lib.hid (HB2.out.trans (b3.mono HB2.out.size)); have HA3 := Lib.hid (HA2.out.keep b3); clear b3 c0 c1 c2 c3 c4 c5 c6 c7 c8 c9 c10 c11 c12 c13 c14 c15; obtain ⟨c0, c1, c2, c3, c4, c5, c6, c7, c8, c9, c10, c11, c12, c13, c14, c15⟩ := HA3.out.pa_)
      | (go_at_call 15; refine (nil_copy _ (HT.out.below HB3.out) x y).mono ?_; rintro e w4 ⟨rfl, b4⟩; have HB4 := Lib.hid (HB3.out.trans (b4.mono HB3.out.size)); clear b4 c0 c1 c2 c3 c4 c5 c6 c7 c8 c9 c10 c11 c12 c13 c14 c15)
      | (go_at_call 9; refine (known_any _ (HT.out.below HB4.out)).mono ?_; rintro e v9 ⟨rfl, b_⟩; have B9 := Lib.hid (HB4.out.trans (b_.mono (HB4.out).size)); clear b_))
    go_ret
    exact ⟨rfl, B9.out⟩
theorem walk (w : World) (hL : laidMetH Tryd.prog laidK w) (a : Pa) : Calls Tryd.prog 6 #[a.val] w fun e w' => e = .returned (.bool true) ∧ Below w.heap.size w w' := walk0 w (tab_of hL) a.k a.a a.n a.x a.y a.s
set_option maxRecDepth 100000 in
theorem lifted (os : Os) (started : os.Started) (H : Type) (enc : TypeId × Value → H) :
    ReturnsInHanded {} Tryd.checked os 6 .any (fun w args => (Rows.pagesNilSpec.pre enc Tryd.prog Tryd.f6 [] false w args ∧ laidMetH Tryd.prog laidK w) ∧ sizedMet enc Tryd.prog Tryd.f6 (OpenSpec.ofChange Rows.pagesNilSpec) false w args) (Rows.pagesNilSpec.post enc Tryd.prog Tryd.f6 false true false false) := by
  refine returnsInHanded_of_change_and (C := Tryd.checked) (X := fun w _ => laidMetH Tryd.prog laidK w) (fun _ _ _ hh h => h.of_heap hh) own started (by kernel_rfl) Tryd.func6
    (ChangeSpec.witness_shaped (enc := enc) (C := Tryd.checked) (os := os) (X := fun w _ => laidMetH Tryd.prog laidK w) false (World.doorLaid Tryd.prog 40 os) #[.agg #[.int .i64 0, .int .i64 0, .int .i64 0, .int .i64 0, .int .i64 0, .int .i64 0, .int .i64 0, .int .i64 0, .int .i64 0, .int .i64 0, .int .i64 0, .int .i64 0, .int .i64 0, .int .i64 0, .int .i64 0, .string { data := #[] }]] 8 rfl (World.shaped_of_RefB (by kernel_rfl) (by kernel_rfl)) (by kernel_rfl) (by kernel_rfl) (by kernel_rfl) (door_met os _)) ?_
  intro W base args ds gs before hval0 hW _ _ hL _
  have hval : ∀ (j : Nat) t v, Tryd.f6.params[j]? = some t → args[j]? = some v → Value.okWide Tryd.prog W .any base t v := hval0
  have hW' := hW
  obtain ⟨p, q, hA0, hV, rfl, hfz, hnd⟩ := hW
  have hA : DataW.TrodAll enc Tryd.prog W 0 (fun _ => true) true Tryd.f6.params.toList args.toList ds p := hA0
  rw [Tryd.params6] at hA hval
  obtain ⟨v0, vs0, d0, ds0, p0, q0, hargs, rfl, rfl, h0, t0⟩ := trodAll_cons hA
  obtain ⟨rfl, rfl, rfl⟩ := trodAll_nil t0
  obtain rfl : args = #[v0] := by cases args; simp_all
  obtain ⟨rfl, rfl⟩ := trodVars_none hV
  have k0 := h0
  have lt0 : ∀ x ∈ p0, x.block < W.heap.size := by obtain ⟨m, hm⟩ := k0; exact DataW.trod_lt m _ _ _ hm
  obtain ⟨a0, rfl⟩ := open_pa (hval 0 32 v0 rfl rfl) h0
  clear hA0 hval0
  refine (walk W hL a0).mono fun e W' ⟨he, bel⟩ => ?_
  subst he
  exact ⟨_, rfl, _, _, _, [], _, [], hW', trodAll_mk1 (shut_bool Tryd.underlying4 _), (trodAll_cons_mk (Below.trod laidOut (by kernel_rfl) (of_decide_eq_true (by kernel_rfl)) k0 bel lt0) trodAll_mk0), rfl, bel.frame _, fun h => by cases h⟩
theorem over : Rows.pagesNilRow.holds Tryd.pinned (OpenSpec.ofChange Rows.pagesNilSpec) :=
  OpenClaim.holds_of_wide 6 Tryd.f6 rfl rfl rfl rfl rfl rfl rfl ⟨rfl, rfl, rfl, rfl, rfl⟩ rfl rfl rfl rfl rfl (by kernel_rfl) Tryd.func6 (by kernel_rfl)
    (of_decide_eq_true (by kernel_rfl)) (by unfold Func.isWrapper; first | (rw [if_pos (by decide +kernel)]; kernel_rfl) | (rw [if_neg (by decide +kernel)]; exact ⟨rfl, rfl⟩))
    (fun os started H enc _ => lifted os started H enc)
set_option maxRecDepth 8000 in
theorem proved : Rows.PagesNilCardSaid :=
  Claim7.holds_tied_plain_at .later [] [.data] true Rows.pagesNilCard.stood.harness false
    over (fun _ h => by cases h) (by kernel_rfl) (fun _ h => by cases h) pagesNil_row_tie rfl ⟨rfl, rfl⟩ (by kernel_rfl) rfl
    (fun f fn hf hfn => by
      obtain rfl : f = 6 := Option.some.inj ((show Tryd.prog.funcNamed "chatelaine/chatelainelaw10.PagesNil" = some 6 by kernel_rfl).symm.trans hf) |>.symm
      obtain rfl : fn = Tryd.f6 := (Option.some.inj (Tryd.func6.symm.trans hfn)).symm
      exact ⟨by kernel_rfl, fun j t ht => by
        rw [Tryd.params6] at ht
        have hm : t ∈ [32] := by simpa using Array.mem_of_getElem? ht
        have hall : ([32].all fun u => !Tryd.prog.wantsStandIn u) = true := by kernel_rfl
        exact (show Tryd.prog.wantsStandIn t = false by simpa using List.all_eq_true.1 hall t hm)⟩)
    (by kernel_rfl)
end Go.Proofs.YtedlacdijkggjaaDoor.pagesNil

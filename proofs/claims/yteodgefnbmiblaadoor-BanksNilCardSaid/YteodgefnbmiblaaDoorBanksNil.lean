/- The law BanksNil returns true for every input: without a store each call answers ErrNil. No condition but that the listed variables read as the program's own text lays them; the card ties them to it. -/
import Derived.Test.YteodgefnbmiblaaDoorBKn
import Derived.Test.YteodgefnbmiblaaDoorBArgs
import Derived.Test.YteodgefnbmiblaaDoorR07
namespace Go.Proofs.YteodgefnbmiblaaDoor.banksNil
open Go.ChangeShapes Go.WideShapes Go.ChangeAt Go.RowKit
attribute [local go_sem] Oper.semAt_some
theorem ba_cell {w : World} {g : Nat} {t : TypeId} {k n : Int} {x y : Ky} {j : Int} (h : Blk w g t (ba k n x y j)) : w.cell? ⟨g, 0, none⟩ = some (.int .i64 k) ∧ w.cell? ⟨g, 1, none⟩ = some (.int .i64 n) ∧ w.cell? ⟨g, 2, none⟩ = some (.int .i64 x.k) ∧ w.cell? ⟨g, 3, none⟩ = some (.int .i64 x.o) ∧ w.cell? ⟨g, 4, none⟩ = some (.int .i64 x.c) ∧ w.cell? ⟨g, 5, none⟩ = some (.int .i64 x.l) ∧ w.cell? ⟨g, 6, none⟩ = some (.int .i64 x.r) ∧ w.cell? ⟨g, 7, none⟩ = some (.int .i64 x.v) ∧ w.cell? ⟨g, 8, none⟩ = some (.int .i64 y.k) ∧ w.cell? ⟨g, 9, none⟩ = some (.int .i64 y.o) ∧ w.cell? ⟨g, 10, none⟩ = some (.int .i64 y.c) ∧ w.cell? ⟨g, 11, none⟩ = some (.int .i64 y.l) ∧ w.cell? ⟨g, 12, none⟩ = some (.int .i64 y.r) ∧ w.cell? ⟨g, 13, none⟩ = some (.int .i64 y.v) ∧ w.cell? ⟨g, 14, none⟩ = some (.int .i64 j) :=
  ⟨h.cell 0, h.cell 1, h.cell 2, h.cell 3, h.cell 4, h.cell 5, h.cell 6, h.cell 7, h.cell 8, h.cell 9, h.cell 10, h.cell 11, h.cell 12, h.cell 13, h.cell 14⟩
theorem nil_make (w : World) (x : Ky) (i : Int) : Calls Tryd.prog 10 #[.pointer none, x.val, .int .i64 i] w fun e w' => e = .returned (.tuple #[zk.val, .int .i64 1]) ∧ Below w.heap.size w w' :=
  exp_make_b (.pointer none) x i zk 1 fun _ K _ _ => bface_make_ask (.pointer none) x 1 K fun _ _ => bask_nil x
theorem nil_split (w : World) (x : Ky) (i : Int) : Calls Tryd.prog 12 #[.pointer none, x.val, .int .i64 i] w fun e w' => e = .returned (.tuple #[zk.val, .int .i64 1]) ∧ Below w.heap.size w w' :=
  exp_split_b (.pointer none) x i zk 1 fun _ K _ _ => bface_split_ask (.pointer none) x 1 K fun _ _ => bask_nil x
theorem nil_raze (w : World) (x : Ky) : Calls Tryd.prog 13 #[.pointer none, x.val] w fun e w' => e = .returned (.tuple #[.int .i64 0, .int .i64 1]) ∧ Below w.heap.size w w' :=
  exp_raze_b (.pointer none) x 0 1 fun _ _ => bface_raze_ask (.pointer none) x 1 fun _ _ => bask_nil x
theorem nil_owns (w : World) (x y : Ky) : Calls Tryd.prog 20 #[.pointer none, x.val, y.val] w fun e w' => e = .returned (.tuple #[.bool false, .int .i64 1]) ∧ Below w.heap.size w w' :=
  exp_owns_b (.pointer none) x y false 1 fun _ K _ _ => bface_owns_ask (.pointer none) x 1 K fun _ _ => bask_nil x
theorem nil_range (w : World) (x : Ky) : Calls Tryd.prog 18 #[.pointer none, x.val] w fun e w' => e = .returned (.tuple #[.int .i64 0, .int .i64 0, .int .i64 1]) ∧ Below w.heap.size w w' :=
  exp_range_b (.pointer none) x 0 0 1 fun _ _ => bface_range_ask (.pointer none) x 1 fun _ _ => bask_nil x
theorem nil_destroy {w : World} {base q : Nat} {A : Option Addr} {cap : Nat} {ps : List Nat} (h : StAt w base q A cap ps []) (x y : Ky) : Calls Tryd.prog 11 #[pv q, x.val, y.val] w fun e w' => e = .returned (.int .i64 1) ∧ Below w.heap.size w w' :=
  exp_destroy_b q x y false 1 fun _ S K hW _ _ => bface_destroy_ask (pv q) x 1 S K fun _ hV => bask_none ((h.below hW).below hV) x
set_option maxRecDepth 8000 in
theorem st_nil (w : World) (q : Nat) (hq : q = w.heap.size) : StAt (w.alloc (.cells #[.slice none 0 0] 68)) q q none 0 [] [] := by
  subst hq
  exact StAt.nil w _ (Nat.le_refl _)
set_option maxRecDepth 8000 in
theorem built68 : Tryd.prog.built 68 [] = some #[.slice none 0 0] := by kernel_rfl
set_option maxRecDepth 100000 in
set_option maxHeartbeats 4000000 in
theorem walk0 (w : World) (hT : Tab w) (k n : Int) (x y : Ky) (j : Int) :
    Calls Tryd.prog 6 #[.agg (ba k n x y j)] w fun e w' => e = .returned (.bool true) ∧ Below w.heap.size w w' := by
  have HT := Lib.hid hT
  have HB0 := Lib.hid ((Below.refl w.heap.size w).alloc (Nat.le_refl _) (.cells (ba k n x y j) 37))
  have HA0 := Lib.hid (Blk.new w 37 (ba k n x y j))
  obtain ⟨c0, c1, c2, c3, c4, c5, c6, c7, c8, c9, c10, c11, c12, c13, c14⟩ := (ba_cell HA0.out)
  clear hT
  go_enter Tryd.func6, Tryd.ntmps6
  go_wp2_with (first
    | (go_at_call 10; refine (nil_make _ x j).mono ?_; rintro e w1 ⟨rfl, b_⟩; have HB1 := Lib.hid (HB0.out.trans (b_.mono HB0.out.size)); have HA1 := Lib.hid (HA0.out.keep b_); clear b_ c0 c1 c2 c3 c4 c5 c6 c7 c8 c9 c10 c11 c12 c13 c14; obtain ⟨c0, c1, c2, c3, c4, c5, c6, c7, c8, c9, c10, c11, c12, c13, c14⟩ := (ba_cell HA1.out))
    | (show wpList _ _ _ ({ dst := none, op := .store _ (.tmp 3) (.tmp 21), type := _, pos := _, after := _, guard := _ } :: _) _ _; refine wpList_store_new (l := kl zk) (l0 := kl zk) (ty := 33) rfl (.tmp 3) (.tmp 21) (by rfl) _ rfl (by rfl) (by rfl) size30 rfl (kl_one _) ?_; have HA2 := Lib.hid (HA1.out.alloc (.cells (kl zk).toArray 33)); have HB2 := Lib.hid (HB1.out.alloc HB1.out.size (.cells (kl zk).toArray 33)); generalize w1.alloc (.cells (kl zk).toArray 33) = w2 at HA2 HB2 ⊢; clear c0 c1 c2 c3 c4 c5 c6 c7 c8 c9 c10 c11 c12 c13 c14; obtain ⟨c0, c1, c2, c3, c4, c5, c6, c7, c8, c9, c10, c11, c12, c13, c14⟩ := (ba_cell HA2.out))
    | (show wpList _ _ _ ({ dst := some 23, op := .build _ _, type := _, pos := _, after := _, guard := _ } :: _) _ _; refine wpList_yields (S := fun _ => True) (y_build (by rfl) (by rfl) built68) trivial ?_; clear c0 c1 c2 c3 c4 c5 c6 c7 c8 c9 c10 c11 c12 c13 c14; have HA3 := Lib.hid (HA2.out.alloc (.cells #[.slice none 0 0] 68)); have HB3 := Lib.hid (HB2.out.alloc HB2.out.size (.cells #[.slice none 0 0] 68)); have HS3 := Lib.hid (st_nil w2 w2.heap.size rfl); obtain ⟨c0, c1, c2, c3, c4, c5, c6, c7, c8, c9, c10, c11, c12, c13, c14⟩ := (ba_cell HA3.out))
    | (go_at_call 11; refine (nil_destroy HS3.out x y).mono ?_; rintro e w4 ⟨rfl, b_⟩; have HB4 := Lib.hid (HB3.out.trans (b_.mono HB3.out.size)); have HA4 := Lib.hid (HA3.out.keep b_); clear b_ c0 c1 c2 c3 c4 c5 c6 c7 c8 c9 c10 c11 c12 c13 c14; obtain ⟨c0, c1, c2, c3, c4, c5, c6, c7, c8, c9, c10, c11, c12, c13, c14⟩ := (ba_cell HA4.out))
    | (go_at_call 12; refine (nil_split _ x n).mono ?_; rintro e w5 ⟨rfl, b_⟩; have HB5 := Lib.hid (HB4.out.trans (b_.mono HB4.out.size)); have HA5 := Lib.hid (HA4.out.keep b_); clear b_ c0 c1 c2 c3 c4 c5 c6 c7 c8 c9 c10 c11 c12 c13 c14; obtain ⟨c0, c1, c2, c3, c4, c5, c6, c7, c8, c9, c10, c11, c12, c13, c14⟩ := (ba_cell HA5.out))
    | (show wpList _ _ _ ({ dst := none, op := .store _ (.tmp 6) (.tmp 36), type := _, pos := _, after := _, guard := _ } :: _) _ _; refine wpList_store_new (l := kl zk) (l0 := kl zk) (ty := 33) rfl (.tmp 6) (.tmp 36) (by rfl) _ rfl (by rfl) (by rfl) size30 rfl (kl_one _) ?_; have HA6 := Lib.hid (HA5.out.alloc (.cells (kl zk).toArray 33)); have HB6 := Lib.hid (HB5.out.alloc HB5.out.size (.cells (kl zk).toArray 33)); generalize w5.alloc (.cells (kl zk).toArray 33) = w6 at HA6 HB6 ⊢; clear c0 c1 c2 c3 c4 c5 c6 c7 c8 c9 c10 c11 c12 c13 c14; obtain ⟨c0, c1, c2, c3, c4, c5, c6, c7, c8, c9, c10, c11, c12, c13, c14⟩ := (ba_cell HA6.out))
    | (go_at_call 13; refine (nil_raze _ x).mono ?_; rintro e w7 ⟨rfl, b_⟩; have HB7 := Lib.hid (HB6.out.trans (b_.mono HB6.out.size)); have HA7 := Lib.hid (HA6.out.keep b_); clear b_ c0 c1 c2 c3 c4 c5 c6 c7 c8 c9 c10 c11 c12 c13 c14; obtain ⟨c0, c1, c2, c3, c4, c5, c6, c7, c8, c9, c10, c11, c12, c13, c14⟩ := (ba_cell HA7.out))
    | (go_at_call 20; refine (nil_owns _ x y).mono ?_; rintro e w8 ⟨rfl, b_⟩; have HB8 := Lib.hid (HB7.out.trans (b_.mono HB7.out.size)); have HA8 := Lib.hid (HA7.out.keep b_); clear b_ c0 c1 c2 c3 c4 c5 c6 c7 c8 c9 c10 c11 c12 c13 c14; obtain ⟨c0, c1, c2, c3, c4, c5, c6, c7, c8, c9, c10, c11, c12, c13, c14⟩ := (ba_cell HA8.out))
    | (go_at_call 18; refine (nil_range _ x).mono ?_; rintro e w9 ⟨rfl, b_⟩; have HB9 := Lib.hid (HB8.out.trans (b_.mono HB8.out.size)); have HA9 := Lib.hid (HA8.out.keep b_); clear b_ c0 c1 c2 c3 c4 c5 c6 c7 c8 c9 c10 c11 c12 c13 c14; obtain ⟨c0, c1, c2, c3, c4, c5, c6, c7, c8, c9, c10, c11, c12, c13, c14⟩ := (ba_cell HA9.out))
    | (go_at_call 8; refine (known_any _ (HT.out.below HB9.out)).mono ?_; rintro e v9 ⟨rfl, b_⟩; have B9 := Lib.hid (HB9.out.trans (b_.mono (HB9.out).size)); clear b_))
  go_ret
  exact ⟨rfl, B9.out⟩
theorem walk (w : World) (hL : laidMetH Tryd.prog laidK w) (p : Ba) : Calls Tryd.prog 6 #[p.val] w fun e w' => e = .returned (.bool true) ∧ Below w.heap.size w w' := walk0 w (tab_of hL) p.k p.n p.x p.y p.j
set_option maxRecDepth 100000 in
theorem lifted (os : Os) (started : os.Started) (H : Type) (enc : TypeId × Value → H) :
    ReturnsInHanded {} Tryd.checked os 6 .any (fun w args => (Rows.banksNilSpec.pre enc Tryd.prog Tryd.f6 [] false w args ∧ laidMetH Tryd.prog laidK w) ∧ sizedMet enc Tryd.prog Tryd.f6 (OpenSpec.ofChange Rows.banksNilSpec) false w args) (Rows.banksNilSpec.post enc Tryd.prog Tryd.f6 false true false false) := by
  refine returnsInHanded_of_change_and (C := Tryd.checked) (X := fun w _ => laidMetH Tryd.prog laidK w) (fun _ _ _ hh h => h.of_heap hh) own started (by kernel_rfl) Tryd.func6
    (ChangeSpec.witness_shaped (enc := enc) (C := Tryd.checked) (os := os) (X := fun w _ => laidMetH Tryd.prog laidK w) false (World.doorLaid Tryd.prog 40 os) #[.agg #[.int .i64 0, .int .i64 0, .int .i64 0, .int .i64 0, .int .i64 0, .int .i64 0, .int .i64 0, .int .i64 0, .int .i64 0, .int .i64 0, .int .i64 0, .int .i64 0, .int .i64 0, .int .i64 0, .int .i64 0]] 8 rfl (World.shaped_of_RefB (by kernel_rfl) (by kernel_rfl)) (by kernel_rfl) (by kernel_rfl) (by kernel_rfl) (door_met os _)) ?_
  intro W base args ds gs before hval0 hW _ _ hL _
  have hval : ∀ (j : Nat) t v, Tryd.f6.params[j]? = some t → args[j]? = some v → Value.okWide Tryd.prog W .any base t v := hval0
  have hW' := hW
  obtain ⟨p, q, hA0, hV, rfl, hfz, hnd⟩ := hW
  have hA : DataW.TrodAll enc Tryd.prog W 0 (fun _ => true) true Tryd.f6.params.toList args.toList ds p := hA0
  rw [Tryd.params6] at hA hval
  obtain ⟨v0, vs0, d0, ds0, p0, q0, hargs, rfl, rfl, h0, t0⟩ := trodAll_cons hA
  obtain ⟨rfl, rfl, rfl⟩ := trodAll_nil t0
  obtain rfl : args = #[v0] := by cases args; simp_all
  obtain ⟨rfl, rfl⟩ := trodVars_none hV
  have k0 := h0
  have lt0 : ∀ x ∈ p0, x.block < W.heap.size := by obtain ⟨m, hm⟩ := k0; exact DataW.trod_lt m _ _ _ hm
  obtain ⟨a0, rfl⟩ := open_ba (hval 0 37 v0 rfl rfl) h0
  clear hA0 hval0
  refine (walk W hL a0).mono fun e W' ⟨he, bel⟩ => ?_
  subst he
  exact ⟨_, rfl, _, _, _, [], _, [], hW', trodAll_mk1 (shut_bool Tryd.underlying4 _), (trodAll_cons_mk (Below.trod laidOut (by kernel_rfl) (of_decide_eq_true (by kernel_rfl)) k0 bel lt0) trodAll_mk0), rfl, bel.frame _, fun h => by cases h⟩
theorem over : Rows.banksNilRow.holds Tryd.pinned (OpenSpec.ofChange Rows.banksNilSpec) :=
  OpenClaim.holds_of_wide 6 Tryd.f6 rfl rfl rfl rfl rfl rfl rfl ⟨rfl, rfl, rfl, rfl, rfl⟩ rfl rfl rfl rfl rfl (by kernel_rfl) Tryd.func6 (by kernel_rfl)
    (of_decide_eq_true (by kernel_rfl)) (by unfold Func.isWrapper; first | (rw [if_pos (by decide +kernel)]; kernel_rfl) | (rw [if_neg (by decide +kernel)]; exact ⟨rfl, rfl⟩))
    (fun os started H enc _ => lifted os started H enc)
set_option maxRecDepth 8000 in
theorem proved : Rows.BanksNilCardSaid :=
  Claim7.holds_tied_plain_at .later [] [.data] true Rows.banksNilCard.stood.harness true
    over (fun _ h => by cases h) (by kernel_rfl) (fun _ h => by cases h) banksNil_row_tie rfl ⟨rfl, rfl⟩ (by kernel_rfl) rfl
    (fun f fn hf hfn => by
      obtain rfl : f = 6 := Option.some.inj ((show Tryd.prog.funcNamed "chatelaine/chatelainelaw12.BanksNil" = some 6 by kernel_rfl).symm.trans hf) |>.symm
      obtain rfl : fn = Tryd.f6 := (Option.some.inj (Tryd.func6.symm.trans hfn)).symm
      exact ⟨by kernel_rfl, fun j t ht => by
        rw [Tryd.params6] at ht
        have hm : t ∈ [37] := by simpa using Array.mem_of_getElem? ht
        have hall : ([37].all fun u => !Tryd.prog.wantsStandIn u) = true := by kernel_rfl
        exact (show Tryd.prog.wantsStandIn t = false by simpa using List.all_eq_true.1 hall t hm)⟩)
    (by kernel_rfl)
end Go.Proofs.YteodgefnbmiblaaDoor.banksNil

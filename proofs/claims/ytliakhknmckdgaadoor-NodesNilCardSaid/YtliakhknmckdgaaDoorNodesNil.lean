/- The law NodesNil returns true for every input: without a store each call answers ErrNil. No condition but that the listed variables read as the program's own text lays them; the card ties them to it. -/
import Derived.Test.YtliakhknmckdgaaDoorNDo
import Derived.Test.YtliakhknmckdgaaDoorR12
import Derived.Test.YtliakhknmckdgaaDoorR05
namespace Go.Proofs.YtliakhknmckdgaaDoor.nodesNil
open Go.ChangeShapes Go.WideShapes Go.ChangeAt Go.RowKit
attribute [local go_sem] Oper.semAt_some
theorem nil_get (w : World) (x : Ky) (i : Int) : Calls Tryd.prog 14 #[.pointer none, x.val, .int .i64 i] w fun e w' => e = .returned (.tuple #[zk.val, .int .i64 1]) ∧ Below w.heap.size w w' :=
  nget_no (.pointer none) (.inl rfl) x i 1 fun _ _ _ _ _ hS hK hI => get1_nil _ (.inl rfl) x i hS hK hI
theorem nil_put (w : World) (x v : Ky) (i : Int) : Calls Tryd.prog 15 #[.pointer none, x.val, .int .i64 i, v.val] w fun e w' => e = .returned (.tuple #[zk.val, .int .i64 1]) ∧ Below w.heap.size w w' :=
  nput_no (.pointer none) (.inl rfl) x i v 1 fun _ _ _ _ _ _ hS hK hI hV => put1_nil _ (.inl rfl) x v i hS hK hI hV
theorem nil_clear {w : World} {base q : Nat} {A : Option Addr} {cap : Nat} {ps : List Nat} (h : StAt w base q A cap ps []) (x : Ky) : Calls Tryd.prog 16 #[pv q, x.val] w fun e w' => e = .returned (.int .i64 1) ∧ Below w.heap.size w w' :=
  nclear_no (pv q) (.inr ⟨q, rfl⟩) x 1 fun _ _ _ hW hS hK => clear1_nil _ (.inr ⟨_, _, _, _, _, rfl, h.below hW⟩) x hS hK
theorem nil_clone (w : World) (x v : Ky) : Calls Tryd.prog 17 #[.pointer none, x.val, v.val] w fun e w' => e = .returned (.int .i64 1) ∧ Below w.heap.size w w' :=
  nclone_no (.pointer none) (.inl rfl) x v 1 fun _ _ _ _ _ hS hK hV => clone1_nil _ (.inl rfl) x v hS hK hV
theorem nil_all (w : World) (x : Ky) : Calls Tryd.prog 20 #[.pointer none, x.val] w fun e w' => e = .returned (.tuple #[.slice none 0 0, .int .i64 1]) ∧ Below w.heap.size w w' :=
  nall_no (.pointer none) (.inl rfl) x 1 fun _ _ _ _ hS hK => all1_none _ (.inl rfl) x hS hK
set_option maxRecDepth 8000 in
theorem st_nil (w : World) (q : Nat) (hq : q = w.heap.size) : StAt (w.alloc (.cells #[.slice none 0 0] 66)) q q none 0 [] [] := by
  subst hq
  exact StAt.nil w _ (Nat.le_refl _)
set_option maxRecDepth 8000 in
theorem built66 : Tryd.prog.built 66 [] = some #[.slice none 0 0] := by kernel_rfl
set_option maxRecDepth 100000 in
set_option maxHeartbeats 4000000 in
theorem walk0 (w : World) (hT : Tab w) (k s : Int) (x y : Ky) :
    Calls Tryd.prog 7 #[.agg (na k s x y)] w fun e w' => e = .returned (.bool true) ∧ Below w.heap.size w w' := by
  have HT := Lib.hid hT
  have HB0 := Lib.hid ((Below.refl w.heap.size w).alloc (Nat.le_refl _) (.cells (na k s x y) 34))
  have HA0 := Lib.hid (Blk.new w 34 (na k s x y))
  obtain ⟨c0, c1, c2, c3, c4, c5, c6, c7, c8, c9, c10, c11, c12, c13⟩ := HA0.out.na_
  clear hT
  go_enter Tryd.func7, Tryd.ntmps7
  go_wp2_with (first
    | (go_at_call 14; refine (nil_get _ x s).mono ?_; rintro e w1 ⟨rfl, b1⟩; have HB1 := Lib.hid ((HB0.out.trans (b1.mono HB0.out.size)).alloc (Nat.le_trans HB0.out.size b1.size) (.cells (kl zk).toArray 32)); have HA1 := Lib.hid ((HA0.out.keep b1).alloc (.cells (kl zk).toArray 32)); clear b1 c0 c1 c2 c3 c4 c5 c6 c7 c8 c9 c10 c11 c12 c13; obtain ⟨c0, c1, c2, c3, c4, c5, c6, c7, c8, c9, c10, c11, c12, c13⟩ := HA1.out.na_)
    | (show wpList _ _ _ ({ dst := none, op := .store _ (.tmp 3) (.tmp 17), type := _, pos := _, after := _, guard := _ } :: _) _ _; refine wpList_store_new (l := kl zk) (l0 := kl zk) (ty := 32) rfl (.tmp 3) (.tmp 17) (by rfl) _ rfl (by rfl) (by rfl) size30 rfl (kl_one _) ?_)
    | (go_at_call 15; refine (nil_put _ x y s).mono ?_; rintro e w2 ⟨rfl, b2⟩; have HB2 := Lib.hid (((HB1.out.trans (b2.mono HB1.out.size)).alloc (Nat.le_trans HB1.out.size b2.size) (.cells (kl zk).toArray 32)).alloc (by have h1 := Nat.le_trans HB1.out.size b2.size; simp; omega) (.cells #[.slice none 0 0] 66)); have HA2 := Lib.hid (((HA1.out.keep b2).alloc (.cells (kl zk).toArray 32)).alloc (.cells #[.slice none 0 0] 66)); have HS2 := Lib.hid (st_nil (w2.alloc (.cells (kl zk).toArray 32)) (w2.heap.size + 1) (by simp)); clear b2 c0 c1 c2 c3 c4 c5 c6 c7 c8 c9 c10 c11 c12 c13; obtain ⟨c0, c1, c2, c3, c4, c5, c6, c7, c8, c9, c10, c11, c12, c13⟩ := HA2.out.na_)
    | (show wpList _ _ _ ({ dst := none, op := .store _ (.tmp 5) (.tmp 27), type := _, pos := _, after := _, guard := _ } :: _) _ _; refine wpList_store_new (l := kl zk) (l0 := kl zk) (ty := 32) rfl (.tmp 5) (.tmp 27) (by rfl) _ rfl (by rfl) (by rfl) size30 rfl (kl_one _) ?_)
    | (show wpList _ _ _ ({ dst := some 29, op := .build _ _, type := _, pos := _, after := _, guard := _ } :: _) _ _; refine wpList_yields (S := fun _ => True) (y_build (by rfl) (by rfl) built66) trivial ?_)
    | (go_at_call 16; refine (nil_clear HS2.out x).mono ?_; rintro e w3 ⟨rfl, b3⟩; have HB3 := Lib.hid (HB2.out.trans (b3.mono HB2.out.size)); have HA3 := Lib.hid (HA2.out.keep b3); clear b3 c0 c1 c2 c3 c4 c5 c6 c7 c8 c9 c10 c11 c12 c13; obtain ⟨c0, c1, c2, c3, c4, c5, c6, c7, c8, c9, c10, c11, c12, c13⟩ := HA3.out.na_)
    | (go_at_call 17; refine (nil_clone _ x y).mono ?_; rintro e w4 ⟨rfl, b4⟩; have HB4 := Lib.hid (HB3.out.trans (b4.mono HB3.out.size)); have HA4 := Lib.hid (HA3.out.keep b4); clear b4 c0 c1 c2 c3 c4 c5 c6 c7 c8 c9 c10 c11 c12 c13; obtain ⟨c0, c1, c2, c3, c4, c5, c6, c7, c8, c9, c10, c11, c12, c13⟩ := HA4.out.na_)
    | (go_at_call 20; refine (nil_all _ x).mono ?_; rintro e w5 ⟨rfl, b5⟩; have HB5 := Lib.hid (HB4.out.trans (b5.mono HB4.out.size)); clear b5 c0 c1 c2 c3 c4 c5 c6 c7 c8 c9 c10 c11 c12 c13)
    | (go_at_call 10; refine (known_any _ (HT.out.below HB5.out)).mono ?_; rintro e v9 ⟨rfl, b_⟩; have B9 := Lib.hid (HB5.out.trans (b_.mono (HB5.out).size)); clear b_))
  go_ret
  exact ⟨rfl, B9.out⟩
theorem walk (w : World) (hL : laidMetH Tryd.prog laidK w) (a : Na) : Calls Tryd.prog 7 #[a.val] w fun e w' => e = .returned (.bool true) ∧ Below w.heap.size w w' := walk0 w (tab_of hL) a.k a.s a.x a.y
set_option maxRecDepth 100000 in
theorem lifted (os : Os) (started : os.Started) (H : Type) (enc : TypeId × Value → H) :
    ReturnsInHanded {} Tryd.checked os 7 .any (fun w args => (Rows.nodesNilSpec.pre enc Tryd.prog Tryd.f7 [] false w args ∧ laidMetH Tryd.prog laidK w) ∧ sizedMet enc Tryd.prog Tryd.f7 (OpenSpec.ofChange Rows.nodesNilSpec) false w args) (Rows.nodesNilSpec.post enc Tryd.prog Tryd.f7 false true false false) := by
  refine returnsInHanded_of_change_and (C := Tryd.checked) (X := fun w _ => laidMetH Tryd.prog laidK w) (fun _ _ _ hh h => h.of_heap hh) own started (by kernel_rfl) Tryd.func7
    (ChangeSpec.witness_shaped (enc := enc) (C := Tryd.checked) (os := os) (X := fun w _ => laidMetH Tryd.prog laidK w) false (World.doorLaid Tryd.prog 40 os) #[.agg #[.int .i64 0, .int .i64 0, .int .i64 0, .int .i64 0, .int .i64 0, .int .i64 0, .int .i64 0, .int .i64 0, .int .i64 0, .int .i64 0, .int .i64 0, .int .i64 0, .int .i64 0, .int .i64 0]] 8 rfl (World.shaped_of_RefB (by kernel_rfl) (by kernel_rfl)) (by kernel_rfl) (by kernel_rfl) (by kernel_rfl) (door_met os _)) ?_
  intro W base args ds gs before hval0 hW _ _ hL _
  have hval : ∀ (j : Nat) t v, Tryd.f7.params[j]? = some t → args[j]? = some v → Value.okWide Tryd.prog W .any base t v := hval0
  have hW' := hW
  obtain ⟨p, q, hA0, hV, rfl, hfz, hnd⟩ := hW
  have hA : DataW.TrodAll enc Tryd.prog W 0 (fun _ => true) true Tryd.f7.params.toList args.toList ds p := hA0
  rw [Tryd.params7] at hA hval
  obtain ⟨v0, vs0, d0, ds0, p0, q0, hargs, rfl, rfl, h0, t0⟩ := trodAll_cons hA
  obtain ⟨rfl, rfl, rfl⟩ := trodAll_nil t0
  obtain rfl : args = #[v0] := by cases args; simp_all
  obtain ⟨rfl, rfl⟩ := trodVars_none hV
  have k0 := h0
  have lt0 : ∀ x ∈ p0, x.block < W.heap.size := by obtain ⟨m, hm⟩ := k0; exact DataW.trod_lt m _ _ _ hm
  obtain ⟨a0, rfl⟩ := open_na (hval 0 34 v0 rfl rfl) h0
  clear hA0 hval0
  refine (walk W hL a0).mono fun e W' ⟨he, bel⟩ => ?_
  subst he
  exact ⟨_, rfl, _, _, _, [], _, [], hW', trodAll_mk1 (shut_bool Tryd.underlying4 _), (trodAll_cons_mk (Below.trod laidOut (by kernel_rfl) (of_decide_eq_true (by kernel_rfl)) k0 bel lt0) trodAll_mk0), rfl, bel.frame _, fun h => by cases h⟩
theorem over : Rows.nodesNilRow.holds Tryd.pinned (OpenSpec.ofChange Rows.nodesNilSpec) :=
  OpenClaim.holds_of_wide 7 Tryd.f7 rfl rfl rfl rfl rfl rfl rfl ⟨rfl, rfl, rfl, rfl, rfl⟩ rfl rfl rfl rfl rfl (by kernel_rfl) Tryd.func7 (by kernel_rfl)
    (of_decide_eq_true (by kernel_rfl)) (by unfold Func.isWrapper; first | (rw [if_pos (by decide +kernel)]; kernel_rfl) | (rw [if_neg (by decide +kernel)]; exact ⟨rfl, rfl⟩))
    (fun os started H enc _ => lifted os started H enc)
set_option maxRecDepth 8000 in
theorem proved : Rows.NodesNilCardSaid :=
  Claim7.holds_tied_plain_at .later [] [.data] true Rows.nodesNilCard.stood.harness true
    over (fun _ h => by cases h) (by kernel_rfl) (fun _ h => by cases h) nodesNil_row_tie rfl ⟨rfl, rfl⟩ (by kernel_rfl) rfl
    (fun f fn hf hfn => by
      obtain rfl : f = 7 := Option.some.inj ((show Tryd.prog.funcNamed "chatelaine/chatelainelaw09.NodesNil" = some 7 by kernel_rfl).symm.trans hf) |>.symm
      obtain rfl : fn = Tryd.f7 := (Option.some.inj (Tryd.func7.symm.trans hfn)).symm
      exact ⟨by kernel_rfl, fun j t ht => by
        rw [Tryd.params7] at ht
        have hm : t ∈ [34] := by simpa using Array.mem_of_getElem? ht
        have hall : ([34].all fun u => !Tryd.prog.wantsStandIn u) = true := by kernel_rfl
        exact (show Tryd.prog.wantsStandIn t = false by simpa using List.all_eq_true.1 hall t hm)⟩)
    (by kernel_rfl)
end Go.Proofs.YtliakhknmckdgaaDoor.nodesNil

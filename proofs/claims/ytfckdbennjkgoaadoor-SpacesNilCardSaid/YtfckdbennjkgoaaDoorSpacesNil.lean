/- The law SpacesNil returns true for every input: without a store each call answers ErrNil, and tells no bytes. No condition but that the listed variables read as the program's own text lays them; the card ties them to it. -/
import Derived.Test.YtfckdbennjkgoaaDoorWKn
import Derived.Test.YtfckdbennjkgoaaDoorWArgs
import Derived.Test.YtfckdbennjkgoaaDoorR05
import Derived.Test.YtfckdbennjkgoaaDoorWSo
import Derived.Test.YtfckdbennjkgoaaDoorR11
namespace Go.Proofs.YtfckdbennjkgoaaDoor.spacesNil
open Go.ChangeShapes Go.WideShapes Go.ChangeAt Go.RowKit
attribute [local go_sem] Oper.semAt_some
/-- a call's cells -/
abbrev sa (k n : Int) (x : Ky) (a : Int) (s : List UInt8) : Array Value := #[.int .i64 k, .int .i64 n, .int .i64 x.k, .int .i64 x.o, .int .i64 x.c, .int .i64 x.l, .int .i64 x.r, .int .i64 x.v, .int .i64 a, .string (st s)]
theorem sa_cells {w : World} {g : Nat} {t : TypeId} {k n : Int} {x : Ky} {a : Int} {s : List UInt8} (h : Blk w g t (sa k n x a s)) : w.cell? ⟨g, 0, none⟩ = some (.int .i64 k) ∧ w.cell? ⟨g, 1, none⟩ = some (.int .i64 n) ∧ w.cell? ⟨g, 2, none⟩ = some (.int .i64 x.k) ∧ w.cell? ⟨g, 3, none⟩ = some (.int .i64 x.o) ∧ w.cell? ⟨g, 4, none⟩ = some (.int .i64 x.c) ∧ w.cell? ⟨g, 5, none⟩ = some (.int .i64 x.l) ∧ w.cell? ⟨g, 6, none⟩ = some (.int .i64 x.r) ∧ w.cell? ⟨g, 7, none⟩ = some (.int .i64 x.v) ∧ w.cell? ⟨g, 8, none⟩ = some (.int .i64 a) ∧ w.cell? ⟨g, 9, none⟩ = some (.string (st s)) :=
  ⟨h.cell 0, h.cell 1, h.cell 2, h.cell 3, h.cell 4, h.cell 5, h.cell 6, h.cell 7, h.cell 8, h.cell 9⟩
theorem nil_walk (w : World) (hT : Tab w) (x : Ky) (a : Int) : Calls Tryd.prog 11 #[.pointer none, x.val, .int .i64 a] w fun e w' => e = .returned (.tuple #[(zfo : Fo).val, (zfa : Fa).val, .int .i64 1]) ∧ Below w.heap.size w w' :=
  walk_err (.pointer none) x a 1 (by decide) fun W hW => refused_nil (.pointer none) (fun W' _ => size_nil W') (hT.below hW) x a 0
theorem nil_load {w : World} {base q : Nat} {A : Option Addr} {cap : Nat} {ps : List Nat} (h : StAt w base q A cap ps []) (hT : Tab w) (x : Ky) (a n : Int) : Calls Tryd.prog 16 #[pv q, x.val, .int .i64 a, .int .i64 n] w fun e w' => e = .returned (.tuple #[.string { data := #[] }, (zfa : Fa).val, .int .i64 1]) ∧ Below w.heap.size w w' :=
  sload_e x a n 1 (by decide) fun W hW => refused_nil (pv q) (fun W' hW' => size_none ((h.below hW).below hW')) (hT.below hW) x a n
theorem nil_store (w : World) (hT : Tab w) (x : Ky) (a : Int) (s : List UInt8) : Calls Tryd.prog 14 #[.pointer none, x.val, .int .i64 a, .string (st s)] w fun e w' => e = .returned (.tuple #[(zfa : Fa).val, .int .i64 1]) ∧ Below w.heap.size w w' :=
  sstore_e0 x a 1 s (by decide) fun W hW => refused_nil (.pointer none) (fun W' _ => size_nil W') (hT.below hW) x a _
set_option maxRecDepth 8000 in
theorem st_nil (w : World) (q : Nat) (hq : q = w.heap.size) : StAt (w.alloc (.cells #[.slice none 0 0] 68)) q q none 0 [] [] := by
  subst hq
  exact StAt.nil w _ (Nat.le_refl _)
set_option maxRecDepth 8000 in
theorem built66 : Tryd.prog.built 68 [] = some #[.slice none 0 0] := by kernel_rfl
set_option maxRecDepth 100000 in
set_option maxHeartbeats 4000000 in
theorem walk0 (w : World) (hT : Tab w) (k n : Int) (x : Ky) (a : Int) (s : List UInt8) :
    Calls Tryd.prog 7 #[.agg (sa k n x a s)] w fun e w' => e = .returned (.bool true) ∧ Below w.heap.size w w' := by
  have HT := Lib.hid hT
  have hz6 := z59
  have hz7 := z35
  have HB0 := Lib.hid ((Below.refl w.heap.size w).alloc (Nat.le_refl _) (.cells (sa k n x a s) 65))
  have HA0 := Lib.hid (Blk.new w 65 (sa k n x a s))
  obtain ⟨c0, c1, c2, c3, c4, c5, c6, c7, c8, c9⟩ := (sa_cells HA0.out)
  have hsz := st_size s
  clear hT
  by_cases h100 : 100 < s.length
  · have e2 : decide ((100 : Int) < (s.length : Int)) = true := decide_eq_true (by omega)
    have e3 : decide (100 < s.length) = true := decide_eq_true h100
    go_enter Tryd.func7, Tryd.ntmps7
    go_wp2_with (first
      | (go_at_call 10; refine (known_w _ (HT.out.below HB0.out)).mono ?_; rintro e v9 ⟨rfl, b_⟩; have B9 := Lib.hid (HB0.out.trans (b_.mono (HB0.out).size)); clear b_))
    go_ret
    exact ⟨rfl, B9.out⟩
  · have e2 : decide ((100 : Int) < (s.length : Int)) = false := decide_eq_false (by omega)
    have e3 : decide (100 < s.length) = false := decide_eq_false h100
    go_enter Tryd.func7, Tryd.ntmps7
    go_wp2_with (first
      | (go_at_call 11; refine (nil_walk _ (HT.out.below HB0.out) x a).mono ?_; rintro e w1 ⟨rfl, b_⟩; have HB1 := Lib.hid (HB0.out.trans (b_.mono HB0.out.size)); have HA1 := Lib.hid (HA0.out.keep b_); have HL1 := Lib.hid (show w.heap.size < w1.heap.size from HA1.out.lt); clear b_ c0 c1 c2 c3 c4 c5 c6 c7 c8 c9)
      | (show wpList _ _ _ ({ dst := none, op := .store _ (.tmp 3) (.tmp 22), type := _, pos := _, after := _, guard := _ } :: _) _ _; refine wpList_store_big (l0 := zfo.cells) ((Blk.new w1 33 zfo.cells.toArray).alloc (.cells zfa.cells.toArray 36)) rfl (.tmp 3) (.tmp 22) (ty := 33) (l := Fo.cells zfo) rfl (by rfl) (by rfl) sizeFo rfl (Fo.one _) ?_)
      | (show wpList _ _ _ ({ dst := none, op := .store _ (.tmp 4) (.tmp 23), type := _, pos := _, after := _, guard := _ } :: _) _ _; refine wpList_store_big (l0 := zfa.cells) (Blk.row_far (Blk.new_of (w1.alloc (.cells zfo.cells.toArray 33)) 36 zfa.cells.toArray (g := w1.heap.size + 1) (by simp)) (b := w1.heap.size) (by omega) (Fo.cells zfo).toArray) rfl (.tmp 4) (.tmp 23) (ty := 36) (l := Fa.cells zfa) rfl (by rfl) (by rfl) sizeFa rfl (Fa.one _) ?_; have HA2 := Lib.hid (((HA1.out.alloc (.cells zfo.cells.toArray 33)).alloc (.cells zfa.cells.toArray 36)).row_far (b := w1.heap.size) (by have := HL1.out; omega) (Fo.cells zfo).toArray |>.row_far (b := w1.heap.size + 1) (by have := HL1.out; omega) (Fa.cells zfa).toArray); have HB2 := Lib.hid (two_rows (fo := zfo) (fa := zfa) (g := w1.heap.size) ((HB1.out.alloc HB1.out.size (.cells zfo.cells.toArray 33)).alloc (by have := HB1.out.size; simp; omega) (.cells zfa.cells.toArray 36)) HB1.out.size); generalize (((w1.alloc (.cells zfo.cells.toArray 33)).alloc (.cells zfa.cells.toArray 36)).setRow w1.heap.size (Fo.cells zfo).toArray).setRow (w1.heap.size + 1) (Fa.cells zfa).toArray = W2 at HA2 HB2 ⊢; have HA3 := Lib.hid (HA2.out.alloc (.cells #[.slice none 0 0] 68)); have HB3 := Lib.hid (HB2.out.alloc HB2.out.size (.cells #[.slice none 0 0] 68)); have HS3 := Lib.hid (st_nil W2 W2.heap.size rfl); obtain ⟨c0, c1, c2, c3, c4, c5, c6, c7, c8, c9⟩ := (sa_cells HA2.out))
      | (show wpList _ _ _ ({ dst := some 26, op := .build _ _, type := _, pos := _, after := _, guard := _ } :: _) _ _; refine wpList_yields (S := fun _ => True) (y_build (by rfl) (by rfl) built66) trivial ?_; clear c0 c1 c2 c3 c4 c5 c6 c7 c8 c9; obtain ⟨c0, c1, c2, c3, c4, c5, c6, c7, c8, c9⟩ := (sa_cells HA3.out))
      | (go_at_call 16; refine (nil_load HS3.out (HT.out.below HB3.out) x a n).mono ?_; rintro e w4 ⟨rfl, b_⟩; have HB4 := Lib.hid (HB3.out.trans (b_.mono HB3.out.size)); have HA4 := Lib.hid (HA3.out.keep b_); have HL4 := Lib.hid (show w.heap.size < w4.heap.size from HA4.out.lt); clear b_ c0 c1 c2 c3 c4 c5 c6 c7 c8 c9)
      | (show wpList _ _ _ ({ dst := none, op := .store _ (.tmp 7) (.tmp 36), type := _, pos := _, after := _, guard := _ } :: _) _ _; refine wpList_store_big (l0 := zfa.cells) (Blk.new w4 36 zfa.cells.toArray) rfl (.tmp 7) (.tmp 36) (ty := 36) (l := Fa.cells zfa) rfl (by rfl) (by rfl) sizeFa rfl (Fa.one _) ?_; have HA5 := Lib.hid ((HA4.out.alloc (.cells zfa.cells.toArray 36)).row_far (b := w4.heap.size) (by have := HL4.out; omega) (Fa.cells zfa).toArray); have HB5 := Lib.hid (below_setRow (HB4.out.alloc HB4.out.size (.cells zfa.cells.toArray 36)) (b := w4.heap.size) HB4.out.size (Fa.cells zfa).toArray); generalize (w4.alloc (.cells zfa.cells.toArray 36)).setRow w4.heap.size (Fa.cells zfa).toArray = W5 at HA5 HB5 ⊢; obtain ⟨c0, c1, c2, c3, c4, c5, c6, c7, c8, c9⟩ := (sa_cells HA5.out))
      | (go_at_call 14; refine (nil_store _ (HT.out.below HB5.out) x a s).mono ?_; rintro e w6 ⟨rfl, b_⟩; have HB6 := Lib.hid (HB5.out.trans (b_.mono HB5.out.size)); have HA6 := Lib.hid (HA5.out.keep b_); have HL6 := Lib.hid (show w.heap.size < w6.heap.size from HA6.out.lt); clear b_ c0 c1 c2 c3 c4 c5 c6 c7 c8 c9)
      | (show wpList _ _ _ ({ dst := none, op := .store _ (.tmp 9) (.tmp 46), type := _, pos := _, after := _, guard := _ } :: _) _ _; refine wpList_store_big (l0 := zfa.cells) (Blk.new w6 36 zfa.cells.toArray) rfl (.tmp 9) (.tmp 46) (ty := 36) (l := Fa.cells zfa) rfl (by rfl) (by rfl) sizeFa rfl (Fa.one _) ?_; have HA7 := Lib.hid ((HA6.out.alloc (.cells zfa.cells.toArray 36)).row_far (b := w6.heap.size) (by have := HL6.out; omega) (Fa.cells zfa).toArray); have HB7 := Lib.hid (below_setRow (HB6.out.alloc HB6.out.size (.cells zfa.cells.toArray 36)) (b := w6.heap.size) HB6.out.size (Fa.cells zfa).toArray); generalize (w6.alloc (.cells zfa.cells.toArray 36)).setRow w6.heap.size (Fa.cells zfa).toArray = W7 at HA7 HB7 ⊢; obtain ⟨c0, c1, c2, c3, c4, c5, c6, c7, c8, c9⟩ := (sa_cells HA7.out))
      | (go_at_call 19; refine (formA_nil _ x n).mono ?_; rintro e w8 ⟨rfl, b_⟩; have HB8 := Lib.hid (HB7.out.trans (b_.mono HB7.out.size)); have HA8 := Lib.hid (HA7.out.keep b_); have HL8 := Lib.hid (show w.heap.size < w8.heap.size from HA8.out.lt); clear b_ c0 c1 c2 c3 c4 c5 c6 c7 c8 c9)
      | (go_at_call 10; refine (known_w _ (HT.out.below HB8.out)).mono ?_; rintro e v9 ⟨rfl, b_⟩; have B9 := Lib.hid (HB8.out.trans (b_.mono (HB8.out).size)); clear b_))
    go_ret
    exact ⟨rfl, B9.out⟩
theorem walk (w : World) (hL : laidMetH Tryd.prog laidK w) (p : Sa) : Calls Tryd.prog 7 #[p.val] w fun e w' => e = .returned (.bool true) ∧ Below w.heap.size w w' := walk0 w (tab_of hL) p.k p.n p.x p.a p.s
set_option maxRecDepth 100000 in
theorem lifted (os : Os) (started : os.Started) (H : Type) (enc : TypeId × Value → H) :
    ReturnsInHanded {} Tryd.checked os 7 .any (fun w args => (Rows.spacesNilSpec.pre enc Tryd.prog Tryd.f7 [] false w args ∧ laidMetH Tryd.prog laidK w) ∧ sizedMet enc Tryd.prog Tryd.f7 (OpenSpec.ofChange Rows.spacesNilSpec) false w args) (Rows.spacesNilSpec.post enc Tryd.prog Tryd.f7 false true false false) := by
  refine returnsInHanded_of_change_and (C := Tryd.checked) (X := fun w _ => laidMetH Tryd.prog laidK w) (fun _ _ _ hh h => h.of_heap hh) own started (by kernel_rfl) Tryd.func7
    (ChangeSpec.witness_shaped (enc := enc) (C := Tryd.checked) (os := os) (X := fun w _ => laidMetH Tryd.prog laidK w) false (World.doorLaid Tryd.prog 40 os) #[.agg #[.int .i64 0, .int .i64 0, .int .i64 0, .int .i64 0, .int .i64 0, .int .i64 0, .int .i64 0, .int .i64 0, .int .i64 0, .string { data := #[] }]] 8 rfl (World.shaped_of_RefB (by kernel_rfl) (by kernel_rfl)) (by kernel_rfl) (by kernel_rfl) (by kernel_rfl) (door_met os _)) ?_
  intro W base args ds gs before hval0 hW _ _ hL _
  have hval : ∀ (j : Nat) t v, Tryd.f7.params[j]? = some t → args[j]? = some v → Value.okWide Tryd.prog W .any base t v := hval0
  have hW' := hW
  obtain ⟨p, q, hA0, hV, rfl, hfz, hnd⟩ := hW
  have hA : DataW.TrodAll enc Tryd.prog W 0 (fun _ => true) true Tryd.f7.params.toList args.toList ds p := hA0
  rw [Tryd.params7] at hA hval
  obtain ⟨v0, vs0, d0, ds0, p0, q0, hargs, rfl, rfl, h0, t0⟩ := trodAll_cons hA
  obtain ⟨rfl, rfl, rfl⟩ := trodAll_nil t0
  obtain rfl : args = #[v0] := by cases args; simp_all
  obtain ⟨rfl, rfl⟩ := trodVars_none hV
  have k0 := h0
  have lt0 : ∀ x ∈ p0, x.block < W.heap.size := by obtain ⟨m, hm⟩ := k0; exact DataW.trod_lt m _ _ _ hm
  obtain ⟨a0, rfl⟩ := open_Sa (hval 0 65 v0 rfl rfl) h0
  clear hA0 hval0
  refine (walk W hL a0).mono fun e W' ⟨he, bel⟩ => ?_
  subst he
  exact ⟨_, rfl, _, _, _, [], _, [], hW', trodAll_mk1 (shut_bool Tryd.underlying4 _), (trodAll_cons_mk (Below.trod laidOut (by kernel_rfl) (of_decide_eq_true (by kernel_rfl)) k0 bel lt0) trodAll_mk0), rfl, bel.frame _, fun h => by cases h⟩
theorem over : Rows.spacesNilRow.holds Tryd.pinned (OpenSpec.ofChange Rows.spacesNilSpec) :=
  OpenClaim.holds_of_wide 7 Tryd.f7 rfl rfl rfl rfl rfl rfl rfl ⟨rfl, rfl, rfl, rfl, rfl⟩ rfl rfl rfl rfl rfl (by kernel_rfl) Tryd.func7 (by kernel_rfl)
    (of_decide_eq_true (by kernel_rfl)) (by unfold Func.isWrapper; first | (rw [if_pos (by decide +kernel)]; kernel_rfl) | (rw [if_neg (by decide +kernel)]; exact ⟨rfl, rfl⟩))
    (fun os started H enc _ => lifted os started H enc)
set_option maxRecDepth 8000 in
theorem proved : Rows.SpacesNilCardSaid :=
  Claim7.holds_tied_plain_at .later [] [.data] true Rows.spacesNilCard.stood.harness true
    over (fun _ h => by cases h) (by kernel_rfl) (fun _ h => by cases h) spacesNil_row_tie rfl ⟨rfl, rfl⟩ (by kernel_rfl) rfl
    (fun f fn hf hfn => by
      obtain rfl : f = 7 := Option.some.inj ((show Tryd.prog.funcNamed "chatelaine/chatelainelaw11.SpacesNil" = some 7 by kernel_rfl).symm.trans hf) |>.symm
      obtain rfl : fn = Tryd.f7 := (Option.some.inj (Tryd.func7.symm.trans hfn)).symm
      exact ⟨by kernel_rfl, fun j t ht => by
        rw [Tryd.params7] at ht
        have hm : t ∈ [65] := by simpa using Array.mem_of_getElem? ht
        have hall : ([65].all fun u => !Tryd.prog.wantsStandIn u) = true := by kernel_rfl
        exact (show Tryd.prog.wantsStandIn t = false by simpa using List.all_eq_true.1 hall t hm)⟩)
    (by kernel_rfl)
end Go.Proofs.YtfckdbennjkgoaaDoor.spacesNil

/- The law ProcsNil returns true for every input: without a store nothing is done. No condition but that the listed variables read as the program's own text lays them; the card ties them to it. -/
import Derived.Test.YtaoailohihoclaaDoorJVa
import Derived.Test.YtaoailohihoclaaDoorJRn
import Derived.Test.YtaoailohihoclaaDoorJAl
import Derived.Test.YtaoailohihoclaaDoorJEq
import Derived.Test.YtaoailohihoclaaDoorR07
namespace Go.Proofs.YtaoailohihoclaaDoor.procsNil
open Go.ChangeShapes Go.WideShapes Go.ChangeAt Go.RowKit
attribute [local go_sem] Oper.semAt_some
set_option maxRecDepth 8000 in
theorem zeroA : (Tryd.prog.info? 40).map (fun i => (i.zero, i.size)) = some (some zja.val, 30) := by kernel_rfl
theorem zA (w : World) : (zeroValue 40).run Tryd.prog w = .ok zja.val w := (zero_of_info zeroA).1 w
set_option maxRecDepth 8000 in
theorem builtSt : Tryd.prog.built 73 [] = some #[.slice none 0 0] := by kernel_rfl
set_option maxRecDepth 8000 in
theorem run_bs1 (w : World) (u : Ja) :
    (Instr.buildSlice 23 1 #[(0, u.val)]).run Tryd.prog w = .ok (.slice (some ⟨w.heap.size, 0, none⟩) 1 1) (w.alloc (.cells u.cells.toArray 40)) := by
  have hz := zA w
  have hs := run_sizeOf (P := Tryd.prog) sizeJa w
  have hol := zja.len
  have c1 : ∀ cs : Array Value, cs.size = 30 → Instr.fill (fun i => some (i * 30, 30)) cs [(0, u.val)] = some u.cells.toArray := by
    intro cs hcs
    have hl : cs.toList.length = 30 := by rw [Array.length_toList, hcs]
    have e0 : cs = ([] ++ cs.toList ++ []).toArray := by simp
    rw [e0]
    refine (fill_mid (fun i => some (i * 30, 30)) [] cs.toList [] 0 u.val u.cells [] 0 30 rfl rfl u.len rfl hl).trans ?_
    simp [Instr.fill]
  have h2 := c1 ((Array.range (1 * 30)).map (zja.val.cells[· % zja.val.cells.size]!)) (by simp)
  simp only [Instr.buildSlice, Sem.run_bind, run_underlying Tryd.underlying23, Result.andThen_ok, hs]
  rw [if_neg (by decide), if_neg (by decide)]
  simp only [Sem.run_bind, hz, Result.andThen_ok, Sem.run_pure, h2]
  simp [newRow, Result.andThen]
set_option maxRecDepth 8000 in
theorem wpList_bs1 {ops : Array Oper} {rest : List Oper} {o : Oper} {a : Act} {Q : Exit → Act → World → Prop} {w : World} (hgd : o.guard = none) (x : Operand) (ho : o.op = .buildSlice 23 1 #[(0, x)]) (u : Ja) (hx : a.eval x = u.val)
    (h : wpList Tryd.prog ops Q rest (a.put o.dst (.slice (some ⟨w.heap.size, 0, none⟩) 1 1)) (w.alloc (.cells u.cells.toArray 40))) : wpList Tryd.prog ops Q (o :: rest) a w := by
  refine wpList_plain hgd fun K hK => ?_
  unfold Oper.wp
  simp [execOp, ho, hx, run_bs1 w u, Result.andThen]
  exact hK _ _ h
theorem rdj_one {w : World} {g : Nat} {t : TypeId} {u : Ja} (h : Blk w g t u.cells.toArray) : RdJ w (some ⟨g, 0, none⟩) [u] := fun i hi => by
  match i, hi with
  | 0, _ => exact ⟨g, 0, rfl, h.ja⟩
theorem few1 {a : Ja} : fewJ [a] ↔ a.m.d.length ≤ 100 := ⟨fun h => h.2 0 (by simp), fun h => ⟨by simp, fun i hi => by match i, hi with | 0, _ => exact h⟩⟩
set_option maxRecDepth 100000 in
set_option maxHeartbeats 2000000 in
theorem walk_big (w : World) (hT : Tab w) (a : Ja) (h : ¬ a.m.d.length ≤ 100) : Calls Tryd.prog 7 #[a.val] w fun e w' => e = .returned (.bool true) ∧ Below w.heap.size w w' := by
  have hal := a.len
  have hz := zM
  have hml := a.m.len
  have hmz := mz.len
  have HT := Lib.hid hT
  have HB0 := Lib.hid (((Below.refl w.heap.size w).alloc (Nat.le_refl _) (.cells a.cells.toArray 40)).alloc (by simp) (.cells a.cells.toArray 40))
  have HX0 := Lib.hid (Blk.new w 40 a.cells.toArray).ja
  have HX1 := Lib.hid ((Blk.new w 40 a.cells.toArray).alloc (.cells a.cells.toArray 40)).ja
  have HR1 : Hid (RdJ ((w.alloc (.cells a.cells.toArray 40)).alloc (.cells a.cells.toArray 40)) (some ⟨w.heap.size + 1, 0, none⟩) [a]) := Lib.hid (rdj_one (Blk.new_of (w.alloc (.cells a.cells.toArray 40)) 40 a.cells.toArray (g := w.heap.size + 1) (by simp)))
  have HF := Lib.hid h
  clear hT h
  go_enter Tryd.func7, Tryd.ntmps7
  go_wp2_with (first
    | ((with_reducible show wpList _ _ _ ({ dst := some 9, op := .load _ _, type := _, pos := _, after := _, guard := _ } :: _) _ _); refine wpList_yields (S := fun w' => JaAt w' w.heap.size 0 a) (y_ja (by rfl) (.tmp 1) (by rfl) w.heap.size 0 (by rfl) a (fun _ h => h)) HX0.out ?_)
    | ((with_reducible show wpList _ _ _ ({ dst := some 10, op := .buildSlice _ _ _, type := _, pos := _, after := _, guard := _ } :: _) _ _); refine wpList_bs1 rfl (.tmp 9) (by rfl) a (by rfl) ?_)
    | (go_at_call 10; refine (vast_yes HR1.out (fun q => HF.out (few1.1 q))).mono ?_; rintro e w1 ⟨rfl, b1⟩; have HB1 := Lib.hid (HB0.out.trans (b1.mono HB0.out.size)); clear b1)
    | (go_at_call 11; refine (known_any _ (HT.out.below HB1.out)).mono ?_; rintro e v9 ⟨rfl, b_⟩; have B9 := Lib.hid (HB1.out.trans (b_.mono HB1.out.size)); clear b_))
  go_ret
  exact ⟨rfl, B9.out⟩
set_option maxRecDepth 100000 in
set_option maxHeartbeats 2000000 in
theorem walk_ok (w : World) (hT : Tab w) (a : Ja) (h : a.m.d.length ≤ 100) : Calls Tryd.prog 7 #[a.val] w fun e w' => e = .returned (.bool true) ∧ Below w.heap.size w w' := by
  have hal := a.len
  have hz := zM
  have hml := a.m.len
  have hmz := mz.len
  have HT := Lib.hid hT
  have HB0 := Lib.hid (((Below.refl w.heap.size w).alloc (Nat.le_refl _) (.cells a.cells.toArray 40)).alloc (by simp) (.cells a.cells.toArray 40))
  have HX0 := Lib.hid (Blk.new w 40 a.cells.toArray).ja
  have HX1 := Lib.hid ((Blk.new w 40 a.cells.toArray).alloc (.cells a.cells.toArray 40)).ja
  have HR1 : Hid (RdJ ((w.alloc (.cells a.cells.toArray 40)).alloc (.cells a.cells.toArray 40)) (some ⟨w.heap.size + 1, 0, none⟩) [a]) := Lib.hid (rdj_one (Blk.new_of (w.alloc (.cells a.cells.toArray 40)) 40 a.cells.toArray (g := w.heap.size + 1) (by simp)))
  have HF := Lib.hid h
  clear hT h
  go_enter Tryd.func7, Tryd.ntmps7
  go_wp2_with (first
    | ((with_reducible show wpList _ _ _ ({ dst := some 9, op := .load _ _, type := _, pos := _, after := _, guard := _ } :: _) _ _); refine wpList_yields (S := fun w' => JaAt w' w.heap.size 0 a) (y_ja (by rfl) (.tmp 1) (by rfl) w.heap.size 0 (by rfl) a (fun _ h => h)) HX0.out ?_)
    | ((with_reducible show wpList _ _ _ ({ dst := some 10, op := .buildSlice _ _ _, type := _, pos := _, after := _, guard := _ } :: _) _ _); refine wpList_bs1 rfl (.tmp 9) (by rfl) a (by rfl) ?_)
    | (go_at_call 10; refine (vast_no HR1.out (few1.2 HF.out)).mono ?_; rintro e w2 ⟨rfl, b_⟩; have HB2 := Lib.hid (HB0.out.trans (b_.mono HB0.out.size)); have HX2 := Lib.hid (HX1.out.below b_); have c1 : w2.cell? ⟨w.heap.size, 1, none⟩ = some (.int .i64 a.i) := (by have := HX2.out.oid; rwa [Nat.zero_add] at this); clear b_)
    | (go_at_call 24; refine (stt_nil a.i).mono ?_; rintro e w3 ⟨rfl, b_⟩; have HB3 := Lib.hid (HB2.out.trans (b_.mono HB2.out.size)); have HX3 := Lib.hid (HX2.out.below b_); clear c1; have c1 : w3.cell? ⟨w.heap.size, 1, none⟩ = some (.int .i64 a.i) := (by have := HX3.out.oid; rwa [Nat.zero_add] at this); have c8 : w3.cell? ⟨w.heap.size, 8, none⟩ = some (.int .i64 a.md) := (by have := HX3.out.mode; rwa [Nat.zero_add] at this); clear b_)
    | ((with_reducible show wpList _ _ _ ({ dst := some 22, op := .load _ _, type := _, pos := _, after := _, guard := _ } :: _) _ _); refine wpList_yields (S := fun w' => KeyAt w' w.heap.size 2 a.x) (y_kyJ (by rfl) (.tmp 21) (by rfl) w.heap.size 2 (by rfl) a.x (fun _ h => h)) HX3.out.key ?_)
    | ((with_reducible show wpList _ _ _ ({ dst := some 26, op := .load _ _, type := _, pos := _, after := _, guard := _ } :: _) _ _); refine wpList_yields (S := fun w' => MgAt w' w.heap.size 10 a.m) (y_mg (by rfl) (.tmp 25) (by rfl) w.heap.size 10 (by rfl) a.m (fun _ h => h)) HX3.out.msg ?_)
    | (go_at_call 16; refine (inv_nil a.i a.x a.md a.m).mono ?_; rintro e w4 ⟨rfl, b_⟩; have HB4 := Lib.hid ((HB3.out.trans (b_.mono HB3.out.size)).alloc (Nat.le_trans HB3.out.size b_.size) (.cells #[.slice none 0 0] 73)); have HX4 := Lib.hid ((HX3.out.below b_).below ((Below.refl _ _).alloc (Nat.le_refl _) (.cells #[.slice none 0 0] 73))); have HS4 := Lib.hid (StAt.nil w4 w4.heap.size (Nat.le_refl _)); clear c1 c8; have c1 : (w4.alloc (.cells #[.slice none 0 0] 73)).cell? ⟨w.heap.size, 1, none⟩ = some (.int .i64 a.i) := (by have := HX4.out.oid; rwa [Nat.zero_add] at this); clear b_)
    | ((with_reducible show wpList _ _ _ ({ dst := some 28, op := .build _ _, type := _, pos := _, after := _, guard := _ } :: _) _ _); refine wpList_yields (S := fun _ => True) (y_build (by rfl) (by rfl) builtSt) trivial ?_)
    | ((with_reducible show wpList _ _ _ ({ dst := some 33, op := .load _ _, type := _, pos := _, after := _, guard := _ } :: _) _ _); refine wpList_yields (S := fun w' => MgAt w' w.heap.size 10 a.m) (y_mg (by rfl) (.tmp 32) (by rfl) w.heap.size 10 (by rfl) a.m (fun _ h => h)) HX4.out.msg ?_)
    | (go_at_call 25; refine (ans_none HS4.out a.i a.m).mono ?_; rintro e w5 ⟨rfl, b_⟩; have HB5 := Lib.hid (HB4.out.trans (b_.mono HB4.out.size)); have HX5 := Lib.hid (HX4.out.below b_); clear c1; have c1 : w5.cell? ⟨w.heap.size, 1, none⟩ = some (.int .i64 a.i) := (by have := HX5.out.oid; rwa [Nat.zero_add] at this); clear b_)
    | (go_at_call 22; refine (tol_nil a.i).mono ?_; rintro e w6 ⟨rfl, b_⟩; have HB6 := Lib.hid ((HB5.out.trans (b_.mono HB5.out.size)).alloc (Nat.le_trans HB5.out.size b_.size) (.cells mz.cells.toArray 38)); have HX6 := Lib.hid ((HX5.out.below b_).below ((Below.refl _ _).alloc (Nat.le_refl _) (.cells mz.cells.toArray 38))); have HM6 := Lib.hid (Blk.new w6 38 mz.cells.toArray); clear c1; have c1 : (w6.alloc (.cells mz.cells.toArray 38)).cell? ⟨w.heap.size, 1, none⟩ = some (.int .i64 a.i) := (by have := HX6.out.oid; rwa [Nat.zero_add] at this); have c9 : (w6.alloc (.cells mz.cells.toArray 38)).cell? ⟨w.heap.size, 9, none⟩ = some (.int .i64 a.s) := (by have := HX6.out.state; rwa [Nat.zero_add] at this); clear b_)
    | ((with_reducible show wpList _ _ _ ({ dst := none, op := .store _ (.tmp 7) (.tmp 39), type := _, pos := _, after := _, guard := _ } :: _) _ _); refine wpList_store_new (l := mz.cells) (l0 := mz.cells) (ty := 38) rfl (.tmp 7) (.tmp 39) (by rfl) w6.heap.size rfl (by rfl) (by rfl) (by rw [Mg.len]; exact sizeM) (by rw [Mg.len]) (Mg.one _) ?_)
    | ((with_reducible show wpList _ _ _ ({ dst := some 52, op := .load _ _, type := _, pos := _, after := _, guard := _ } :: _) _ _); refine wpList_yields (S := fun w' => MgAt w' w6.heap.size 0 mz) (y_mg (by rfl) (.tmp 7) (by rfl) w6.heap.size 0 (by rfl) mz (fun _ h => h)) HM6.out.mg ?_)
    | ((with_reducible show wpList _ _ _ ({ dst := some 53, op := .build _ _, type := _, pos := _, after := _, guard := _ } :: _) _ _); refine wpList_yields (S := fun _ => True) (y_build (by rfl) (by rfl) builtM) trivial ?_)
    | ((with_reducible show wpList _ _ _ ({ dst := some 54, op := .binOp _ _ _ _ _, type := _, pos := _, after := _, guard := _ } :: _) _ _); refine wpList_yields (S := fun _ => True) (y_mgeq (by rfl) (by rfl) mz (by rfl) (by rfl)) trivial ?_)
    | (go_at_call 26; refine (bec_nil a.i a.s).mono ?_; rintro e w7 ⟨rfl, b_⟩; have HB7 := Lib.hid (HB6.out.trans (b_.mono HB6.out.size)); have HX7 := Lib.hid (HX6.out.below b_); clear c1 c9; clear b_)
    | (go_at_call 18; refine (running_nil _).mono ?_; rintro e w8 ⟨rfl, b_⟩; have HB8 := Lib.hid (HB7.out.trans (b_.mono HB7.out.size)); clear b_)
    | (go_at_call 11; refine (known_any _ (HT.out.below HB8.out)).mono ?_; rintro e v9 ⟨rfl, b_⟩; have B9 := Lib.hid (HB8.out.trans (b_.mono HB8.out.size)); clear b_))
  go_ret
  exact ⟨rfl, B9.out⟩
set_option maxRecDepth 8000 in
theorem walk (w : World) (hL : laidMetH Tryd.prog laidK w) (a : Ja) : Calls Tryd.prog 7 #[a.val] w fun e w' => e = .returned (.bool true) ∧ Below w.heap.size w w' := by
  by_cases h : a.m.d.length ≤ 100
  · exact walk_ok w (tab_of hL) a h
  · exact walk_big w (tab_of hL) a h
set_option maxRecDepth 100000 in
theorem lifted (os : Os) (started : os.Started) (H : Type) (enc : TypeId × Value → H) :
    ReturnsInHanded {} Tryd.checked os 7 .any (fun w args => (Rows.procsNilSpec.pre enc Tryd.prog Tryd.f7 [] false w args ∧ laidMetH Tryd.prog laidK w) ∧ sizedMet enc Tryd.prog Tryd.f7 (OpenSpec.ofChange Rows.procsNilSpec) false w args) (Rows.procsNilSpec.post enc Tryd.prog Tryd.f7 false true false false) := by
  refine returnsInHanded_of_change_and (C := Tryd.checked) (X := fun w _ => laidMetH Tryd.prog laidK w) (fun _ _ _ hh h => h.of_heap hh) own started (by kernel_rfl) Tryd.func7
    (ChangeSpec.witness_shaped (enc := enc) (C := Tryd.checked) (os := os) (X := fun w _ => laidMetH Tryd.prog laidK w) false (World.doorLaid Tryd.prog 40 os) #[.agg #[.int .i64 0, .int .i64 0, .int .i64 0, .int .i64 0, .int .i64 0, .int .i64 0, .int .i64 0, .int .i64 0, .int .i64 0, .int .i64 0, .int .i64 0, .string ⟨#[]⟩, .int .i64 0, .int .i64 0, .int .i64 0, .int .i64 0, .int .i64 0, .int .i64 0, .int .i64 0, .int .i64 0, .int .i64 0, .int .i64 0, .int .i64 0, .int .i64 0, .int .i64 0, .int .i64 0, .int .i64 0, .int .i64 0, .int .i64 0, .int .i64 0]] 8 rfl (World.shaped_of_RefB (by kernel_rfl) (by kernel_rfl)) (by kernel_rfl) (by kernel_rfl) (by kernel_rfl) (door_met os _)) ?_
  intro W base args ds gs before hval0 hW _ _ hL _
  have hval : ∀ (j : Nat) t v, Tryd.f7.params[j]? = some t → args[j]? = some v → Value.okWide Tryd.prog W .any base t v := hval0
  have hW' := hW
  obtain ⟨p, q, hA0, hV, rfl, hfz, hnd⟩ := hW
  have hA : DataW.TrodAll enc Tryd.prog W 0 (fun _ => true) true Tryd.f7.params.toList args.toList ds p := hA0
  rw [Tryd.params7] at hA hval
  obtain ⟨v0, vs0, d0, ds0, p0, q0, hargs, rfl, rfl, h0, t0⟩ := trodAll_cons hA
  obtain ⟨rfl, rfl, rfl⟩ := trodAll_nil t0
  obtain rfl : args = #[v0] := by cases args; simp_all
  obtain ⟨rfl, rfl⟩ := trodVars_none hV
  have k0 := h0
  have lt0 : ∀ x ∈ p0, x.block < W.heap.size := by obtain ⟨m, hm⟩ := k0; exact DataW.trod_lt m _ _ _ hm
  obtain ⟨a0, rfl⟩ := open_ja (hval 0 40 v0 rfl rfl) h0
  clear hA0 hval0
  refine (walk W hL a0).mono fun e W' ⟨he, bel⟩ => ?_
  subst he
  exact ⟨_, rfl, _, _, _, [], _, [], hW', trodAll_mk1 (shut_bool Tryd.underlying4 _), (trodAll_cons_mk (Below.trod laidOut (by kernel_rfl) (of_decide_eq_true (by kernel_rfl)) k0 bel lt0) trodAll_mk0), rfl, bel.frame _, fun h => by cases h⟩
theorem over : Rows.procsNilRow.holds Tryd.pinned (OpenSpec.ofChange Rows.procsNilSpec) :=
  OpenClaim.holds_of_wide 7 Tryd.f7 rfl rfl rfl rfl rfl rfl rfl ⟨rfl, rfl, rfl, rfl, rfl⟩ rfl rfl rfl rfl rfl (by kernel_rfl) Tryd.func7 (by kernel_rfl)
    (of_decide_eq_true (by kernel_rfl)) (by unfold Func.isWrapper; first | (rw [if_pos (by decide +kernel)]; kernel_rfl) | (rw [if_neg (by decide +kernel)]; exact ⟨rfl, rfl⟩))
    (fun os started H enc _ => lifted os started H enc)
set_option maxRecDepth 8000 in
theorem proved : Rows.ProcsNilCardSaid :=
  Claim7.holds_tied_plain_at .later [] [.data] true Rows.procsNilCard.stood.harness true
    over (fun _ h => by cases h) (by kernel_rfl) (fun _ h => by cases h) procsNil_row_tie rfl ⟨rfl, rfl⟩ (by kernel_rfl) rfl
    (fun f fn hf hfn => by
      obtain rfl : f = 7 := Option.some.inj ((show Tryd.prog.funcNamed "chatelaine/chatelainelaw13.ProcsNil" = some 7 by kernel_rfl).symm.trans hf) |>.symm
      obtain rfl : fn = Tryd.f7 := (Option.some.inj (Tryd.func7.symm.trans hfn)).symm
      exact ⟨by kernel_rfl, fun j t ht => by
        rw [Tryd.params7] at ht
        have hm : t ∈ [40] := by simpa using Array.mem_of_getElem? ht
        have hall : ([40].all fun u => !Tryd.prog.wantsStandIn u) = true := by kernel_rfl
        exact (show Tryd.prog.wantsStandIn t = false by simpa using List.all_eq_true.1 hall t hm)⟩)
    (by kernel_rfl)
end Go.Proofs.YtaoailohihoclaaDoor.procsNil

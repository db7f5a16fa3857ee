/- The law OrdersNil returns true for every input: without a store nothing is done. No condition but that the listed variables read as the program's own text lays them; the card ties them to it. -/
import Derived.Test.YtogkdhpnbpgheaaGreatDoorQAk
namespace Go.Proofs.YtogkdhpnbpgheaaGreatDoor.ordersNil
open Go.ChangeShapes Go.WideShapes Go.ChangeAt Go.RowKit
attribute [local go_sem] Oper.semAt_some
def zak : Ak := ⟨zk, 0, [], [zk, zk, zk], rfl, 0⟩
set_option maxRecDepth 8000 in
theorem zeroA : (Tryz.prog.info? 38).map (fun i => (i.zero, i.size)) = some (some zak.val, 27) := by kernel_rfl
theorem zA (w : World) : (zeroValue 38).run Tryz.prog w = .ok zak.val w := (zero_of_info zeroA).1 w
set_option maxRecDepth 8000 in
theorem builtSt : Tryz.prog.built 56 [] = some #[.slice none 0 0] := by kernel_rfl
set_option maxRecDepth 8000 in
theorem akone (a : Ak) : ∀ v ∈ a.cells, v.oneCell' = true := by
  intro v hv
  simp only [Ak.cells, Ak.mg, List.mem_append, List.mem_cons, List.not_mem_nil, or_false] at hv
  rcases hv with h | ((rfl | rfl | h) | rfl)
  · exact kl_one _ v h
  · rfl
  · rfl
  · exact kcs_one _ v h
  · rfl
set_option maxRecDepth 8000 in
theorem fill_mid (place : Nat → Option (Nat × Nat)) (X B Y : List Value) (i : Nat) (v : Value) (vs : List Value) (rest : List (Nat × Value)) (off n : Nat) (hv : v.cells = vs.toArray) (hp : place i = some (off, n)) (hn : vs.length = n) (hX : X.length = off) (hB : B.length = n) : Instr.fill place (X ++ B ++ Y).toArray ((i, v) :: rest) = Instr.fill place (X ++ vs ++ Y).toArray rest := by
  subst hX hn
  rw [fill_one place _ i v rest X.length (by rw [hp, hv]; rfl) (by rw [hv]; simp; omega), hv]
  congr 2
  simp only [List.size_toArray]
  rw [List.append_assoc X B Y, List.take_left' rfl, ← hB, List.drop_length_add_append, List.drop_left' rfl]
set_option maxRecDepth 8000 in
theorem run_bs1 (w : World) (u : Ak) :
    (Instr.buildSlice 23 1 #[(0, u.val)]).run Tryz.prog w = .ok (.slice (some ⟨w.heap.size, 0, none⟩) 1 1) (w.alloc (.cells u.cells.toArray 38)) := by
  have hz := zA w
  have hs := run_sizeOf (P := Tryz.prog) sizeAk w
  have hol := zak.len
  have c1 : ∀ cs : Array Value, cs.size = 27 → Instr.fill (fun i => some (i * 27, 27)) cs [(0, u.val)] = some u.cells.toArray := by
    intro cs hcs
    have hl : cs.toList.length = 27 := by rw [Array.length_toList, hcs]
    have e0 : cs = ([] ++ cs.toList ++ []).toArray := by simp
    rw [e0]
    refine (fill_mid (fun i => some (i * 27, 27)) [] cs.toList [] 0 u.val u.cells [] 0 27 rfl rfl u.len rfl hl).trans ?_
    simp [Instr.fill]
  have h2 := c1 ((Array.range (1 * 27)).map (zak.val.cells[· % zak.val.cells.size]!)) (by simp)
  simp only [Instr.buildSlice, Sem.run_bind, run_underlying Tryz.underlying23, Result.andThen_ok, hs]
  rw [if_neg (by decide), if_neg (by decide)]
  simp only [Sem.run_bind, hz, Result.andThen_ok, Sem.run_pure, h2]
  simp [newRow, Result.andThen]
set_option maxRecDepth 8000 in
theorem wpList_bs1 {ops : Array Oper} {rest : List Oper} {o : Oper} {a : Act} {Q : Exit → Act → World → Prop} {w : World} (hgd : o.guard = none) (x : Operand) (ho : o.op = .buildSlice 23 1 #[(0, x)]) (u : Ak) (hx : a.eval x = u.val)
    (h : wpList Tryz.prog ops Q rest (a.put o.dst (.slice (some ⟨w.heap.size, 0, none⟩) 1 1)) (w.alloc (.cells u.cells.toArray 38))) : wpList Tryz.prog ops Q (o :: rest) a w := by
  refine wpList_plain hgd fun K hK => ?_
  unfold Oper.wp
  simp [execOp, ho, hx, run_bs1 w u, Result.andThen]
  exact hK _ _ h
section
variable {w : World} {g : Nat} {a : Ak}
theorem ak_six (h : Blk w g 38 a.cells.toArray) : w.cell? ⟨g, 0, none⟩ = some (.int .i64 a.x.k) ∧ w.cell? ⟨g, 1, none⟩ = some (.int .i64 a.x.o) ∧ w.cell? ⟨g, 2, none⟩ = some (.int .i64 a.x.c) ∧ w.cell? ⟨g, 3, none⟩ = some (.int .i64 a.x.l) ∧ w.cell? ⟨g, 4, none⟩ = some (.int .i64 a.x.r) ∧ w.cell? ⟨g, 5, none⟩ = some (.int .i64 a.x.v) := ⟨h.cell 0, h.cell 1, h.cell 2, h.cell 3, h.cell 4, h.cell 5⟩
theorem ak_data (h : Blk w g 38 a.cells.toArray) : w.cell? ⟨g, 7, none⟩ = some (.string (st a.d)) := h.cell 7
set_option maxRecDepth 8000 in
theorem ak_now (h : Blk w g 38 a.cells.toArray) : w.cell? ⟨g, 26, none⟩ = some (.int .i64 a.n) := by
  refine (h.cell 26).trans ?_
  have hl := a.mg_len
  show (kl a.x ++ (a.mg ++ [(.int .i64 a.n : Value)])).toArray[26]? = _
  rw [List.getElem?_toArray, List.getElem?_append_right (by rw [kl_len]; decide), kl_len, List.getElem?_append_right (by rw [hl]; decide), hl]
  rfl
theorem ak_mg (h : Blk w g 38 a.cells.toArray) : w.rangeAt g 6 a.mg := fun j v hv => by
  have hj : j < a.mg.length := (List.getElem?_eq_some_iff.1 hv).1
  have := h.range (6 + j) v (by
    show (kl a.x ++ (a.mg ++ [(.int .i64 a.n : Value)]))[6 + j]? = some v
    rw [List.getElem?_append_right (by rw [kl_len]; omega), kl_len, show 6 + j - 6 = j by omega, List.getElem?_append_left hj, hv])
  rwa [show 0 + (6 + j) = 6 + j by omega] at this
set_option maxRecDepth 8000 in
theorem ost_size (l : List UInt8) : (st l).size = l.length := by simp [st, ByteArray.size]
set_option maxRecDepth 100000 in
set_option maxHeartbeats 1000000 in
theorem vast_no (hb : Blk w g 38 a.cells.toArray) (h : a.d.length ≤ 100) : Calls Tryz.prog 11 #[.slice (some ⟨g, 0, none⟩) 1 1] w fun e w' => e = .returned (.bool false) ∧ Below w.heap.size w w' := by
  have HB := Lib.hid hb
  have hs := ost_size a.d
  have e1 : decide ((100 : Int) < (a.d.length : Int)) = false := decide_eq_false (by omega)
  clear hb h
  go_enter Tryz.func11, Tryz.ntmps11
  go_wp2
  go_loopw [3] (fun i wr => (i = .int .i64 0 ∨ (i = .int .i64 1 ∧ True)) ∧ Below w.heap.size w wr) (fun i _ => 2 - (intOf i).toNat)
  case atStart => exact ⟨.inl rfl, Below.refl _ _⟩
  case round =>
    obtain ⟨hi, hbw⟩ := hrel
    have HW := Lib.hid hbw
    have hx1 := ak_data (HB.out.keep hbw)
    clear hbw
    rcases hi with rfl | ⟨rfl, ht⟩
    · go_wp2
      go_roundw
      case rel => exact ⟨.inr ⟨rfl, trivial⟩, HW.out⟩
      case measure => simp [intOf]
    · go_wp2
      go_ret
      exact ⟨rfl, HW.out⟩
set_option maxRecDepth 100000 in
set_option maxHeartbeats 1000000 in
theorem vast_yes (hb : Blk w g 38 a.cells.toArray) (h : ¬ a.d.length ≤ 100) : Calls Tryz.prog 11 #[.slice (some ⟨g, 0, none⟩) 1 1] w fun e w' => e = .returned (.bool true) ∧ Below w.heap.size w w' := by
  have HB := Lib.hid hb
  have hs := ost_size a.d
  have e1 : decide ((100 : Int) < (a.d.length : Int)) = true := decide_eq_true (by omega)
  clear hb h
  go_enter Tryz.func11, Tryz.ntmps11
  go_wp2
  go_loopw [3] (fun i wr => (i = .int .i64 0 ∨ (i = .int .i64 1 ∧ False)) ∧ Below w.heap.size w wr) (fun i _ => 2 - (intOf i).toNat)
  case atStart => exact ⟨.inl rfl, Below.refl _ _⟩
  case round =>
    obtain ⟨hi, hbw⟩ := hrel
    have HW := Lib.hid hbw
    have hx1 := ak_data (HB.out.keep hbw)
    clear hbw
    rcases hi with rfl | ⟨rfl, ht⟩
    · go_wp2
      go_ret
      exact ⟨rfl, HW.out⟩
    · exact ht.elim
end
set_option maxRecDepth 100000 in
set_option maxHeartbeats 1000000 in
theorem walk_big (w : World) (hT : Tab w) (a : Ak) (h : ¬ a.d.length ≤ 100) : Calls Tryz.prog 7 #[a.val] w fun e w' => e = .returned (.bool true) ∧ Below w.heap.size w w' := by
  have hal := a.len
  have hz := zMg
  have HT := Lib.hid hT
  have HF := Lib.hid h
  have HB0 := Lib.hid (((Below.refl w.heap.size w).alloc (Nat.le_refl _) (.cells a.cells.toArray 38)).alloc (by simp) (.cells a.cells.toArray 38))
  have HX0 := Lib.hid (Blk.new w 38 a.cells.toArray)
  have HX1 := Lib.hid ((Blk.new w 38 a.cells.toArray).alloc (.cells a.cells.toArray 38))
  have HR1 := Lib.hid (Blk.new_of (w.alloc (.cells a.cells.toArray 38)) 38 a.cells.toArray (g := w.heap.size + 1) (by simp))
  clear hT h
  go_enter Tryz.func7, Tryz.ntmps7
  go_wp2_with (first
    | ((with_reducible show wpList _ _ _ ({ dst := some 9, op := .load _ _, type := _, pos := _, after := _, guard := _ } :: _) _ _); refine wpList_yields (S := fun w' => w'.rangeAt w.heap.size 0 a.cells) (yieldsIf_load_mid (by rfl) 38 (.tmp 1) (by rfl) w.heap.size 0 (by rfl) a.cells _ (fun _ h => h) Tryz.underlying38 rfl (by rw [a.len]; exact sizeAk)) HX0.out.range ?_)
    | ((with_reducible show wpList _ _ _ ({ dst := some 10, op := .buildSlice _ _ _, type := _, pos := _, after := _, guard := _ } :: _) _ _); refine wpList_bs1 rfl (.tmp 9) (by rfl) a (by rfl) ?_)
    | (go_at_call 11; refine (vast_yes HR1.out HF.out).mono ?_; rintro e w1 ⟨rfl, b1⟩; have HB1 := Lib.hid (HB0.out.trans (b1.mono HB0.out.size)); clear b1)
    | (go_at_call 12; refine (oknown _ (HT.out.below HB1.out)).mono ?_; rintro e v9 ⟨rfl, b_⟩; have B9 := Lib.hid (HB1.out.trans (b_.mono HB1.out.size)); clear b_))
  go_ret
  exact ⟨rfl, B9.out⟩
set_option maxRecDepth 100000 in
set_option maxHeartbeats 1000000 in
theorem walk_ok (w : World) (hT : Tab w) (a : Ak) (h : a.d.length ≤ 100) : Calls Tryz.prog 7 #[a.val] w fun e w' => e = .returned (.bool true) ∧ Below w.heap.size w w' := by
  have HNF := Lib.hid True.intro
  have hal := a.len
  have hz := zMg
  have HT := Lib.hid hT
  have HF := Lib.hid h
  have HB0 := Lib.hid (((Below.refl w.heap.size w).alloc (Nat.le_refl _) (.cells a.cells.toArray 38)).alloc (by simp) (.cells a.cells.toArray 38))
  have HX0 := Lib.hid (Blk.new w 38 a.cells.toArray)
  have HX1 := Lib.hid ((Blk.new w 38 a.cells.toArray).alloc (.cells a.cells.toArray 38))
  have HR1 := Lib.hid (Blk.new_of (w.alloc (.cells a.cells.toArray 38)) 38 a.cells.toArray (g := w.heap.size + 1) (by simp))
  clear hT h
  go_enter Tryz.func7, Tryz.ntmps7
  go_wp2_with (first
    | ((with_reducible show wpList _ _ _ ({ dst := some 9, op := .load _ _, type := _, pos := _, after := _, guard := _ } :: _) _ _); refine wpList_yields (S := fun w' => w'.rangeAt w.heap.size 0 a.cells) (yieldsIf_load_mid (by rfl) 38 (.tmp 1) (by rfl) w.heap.size 0 (by rfl) a.cells _ (fun _ h => h) Tryz.underlying38 rfl (by rw [a.len]; exact sizeAk)) HX0.out.range ?_)
    | ((with_reducible show wpList _ _ _ ({ dst := some 10, op := .buildSlice _ _ _, type := _, pos := _, after := _, guard := _ } :: _) _ _); refine wpList_bs1 rfl (.tmp 9) (by rfl) a (by rfl) ?_)
    | (go_at_call 11; refine (vast_no HR1.out HF.out).mono ?_; rintro e w2 ⟨rfl, b_⟩; have HB2 := Lib.hid (HB0.out.trans (b_.mono HB0.out.size)); have HX2 := Lib.hid (HX1.out.keep b_); obtain ⟨c0, c1, c2, c3, c4, c5⟩ := ak_six HX2.out; have c26 := ak_now HX2.out; clear b_)
    | ((with_reducible show wpList _ _ _ ({ dst := some 19, op := .load _ _, type := _, pos := _, after := _, guard := _ } :: _) _ _); refine wpList_yields (S := fun w' => w'.rangeAt w.heap.size 6 a.mg) (oy_mgl (by rfl) (.tmp 18) (by rfl) w.heap.size 6 (by rfl) a.mg a.mg_len (fun _ h => h)) (ak_mg HX2.out) ?_)
    | (go_at_call 15; have hnf := HNF.out; clear hnf HNF; refine (do_nil a.n a.x a.mg a.mg_len).mono ?_; rintro e w3 ⟨rfl, b_⟩; have HB3 := Lib.hid (HB2.out.trans (b_.mono HB2.out.size)); have HX3 := Lib.hid (HX2.out.keep b_); clear c0 c1 c2 c3 c4 c5 c26; clear b_)
    | ((with_reducible show wpList _ _ _ ({ dst := none, op := .store _ (.tmp 3) (.tmp 21), type := _, pos := _, after := _, guard := _ } :: _) _ _); refine wpList_store_new (l := mzc 0) (l0 := mzc 0) (ty := 36) rfl (.tmp 3) (.tmp 21) (by rfl) w3.heap.size (by rfl) (by rfl) (by rfl) sizeMg rfl (mzc_one 0) ?_; have HB4 := Lib.hid (HB3.out.alloc HB3.out.size (.cells (mzc 0).toArray 36)); have HX4 := Lib.hid (HX3.out.alloc (.cells (mzc 0).toArray 36)); have HM4 := Lib.hid (Blk.new w3 36 (mzc 0).toArray); obtain ⟨g3, hg3⟩ : ∃ g3, w3.heap.size = g3 := ⟨_, rfl⟩; rw [hg3] at HM4 ⊢; clear hg3; generalize w3.alloc (.cells (mzc 0).toArray 36) = w4 at HB4 HX4 HM4 ⊢; have HB5 := Lib.hid (HB4.out.alloc HB4.out.size (.cells #[.slice none 0 0] 56)); have HX5 := Lib.hid (HX4.out.alloc (.cells #[.slice none 0 0] 56)); have HM5 := Lib.hid (HM4.out.alloc (.cells #[.slice none 0 0] 56)); have HS5 := Lib.hid (StAt.nil w4 w4.heap.size (Nat.le_refl _)); obtain ⟨c0, c1, c2, c3, c4, c5⟩ := ak_six HX5.out; have c26 := ak_now HX5.out)
    | ((with_reducible show wpList _ _ _ ({ dst := some 25, op := .build _ _, type := _, pos := _, after := _, guard := _ } :: _) _ _); refine wpList_yields (S := fun _ => True) (y_build (by rfl) (by rfl) builtSt) trivial ?_)
    | ((with_reducible show wpList _ _ _ ({ dst := some 32, op := .load _ _, type := _, pos := _, after := _, guard := _ } :: _) _ _); refine wpList_yields (S := fun w' => w'.rangeAt w.heap.size 6 a.mg) (oy_mgl (by rfl) (.tmp 31) (by rfl) w.heap.size 6 (by rfl) a.mg a.mg_len (fun _ h => h)) (ak_mg HX5.out) ?_)
    | (go_at_call 15; refine (do_none HS5.out a.n a.x a.mg a.mg_len).mono ?_; rintro e w6 ⟨rfl, b_⟩; have HB6 := Lib.hid (HB5.out.trans (b_.mono HB5.out.size)); have HM6 := Lib.hid (HM5.out.keep b_); clear c0 c1 c2 c3 c4 c5 c26; clear b_)
    | ((with_reducible show wpList _ _ _ ({ dst := none, op := .store _ (.tmp 6) (.tmp 34), type := _, pos := _, after := _, guard := _ } :: _) _ _); refine wpList_store_new (l := mzc 0) (l0 := mzc 0) (ty := 36) rfl (.tmp 6) (.tmp 34) (by rfl) w6.heap.size (by rfl) (by rfl) (by rfl) sizeMg rfl (mzc_one 0) ?_; have HB7 := Lib.hid (HB6.out.alloc HB6.out.size (.cells (mzc 0).toArray 36)); have HM7 := Lib.hid (HM6.out.alloc (.cells (mzc 0).toArray 36)); have HN7 := Lib.hid (Blk.new w6 36 (mzc 0).toArray); obtain ⟨g6, hg6⟩ : ∃ g6, w6.heap.size = g6 := ⟨_, rfl⟩; rw [hg6] at HN7 ⊢; clear hg6; generalize w6.alloc (.cells (mzc 0).toArray 36) = w7 at HB7 HM7 HN7 ⊢)
    | ((with_reducible show wpList _ _ _ ({ dst := some 37, op := .load _ _, type := _, pos := _, after := _, guard := _ } :: _) _ _); refine wpList_yields (S := fun w' => w'.rangeAt g3 0 (mzc 0)) (oy_mg (by rfl) (.tmp 3) (by rfl) g3 0 (by rfl) 0 (fun _ h => h)) HM7.out.range ?_)
    | ((with_reducible show wpList _ _ _ ({ dst := some 38, op := .build _ _, type := _, pos := _, after := _, guard := _ } :: _) _ _); refine wpList_yields (S := fun _ => True) (show YieldsIf Tryz.prog _ _ _ (.agg (mzc 0).toArray) _ from .inl ⟨by rfl, fun _ _ => by kernel_rfl⟩) trivial ?_)
    | ((with_reducible show wpList _ _ _ ({ dst := some 39, op := .binOp _ _ _ _ _, type := _, pos := _, after := _, guard := _ } :: _) _ _); refine wpList_yields (S := fun _ => True) (show YieldsIf Tryz.prog _ _ _ (.bool true) _ from .inl ⟨by rfl, fun _ _ => by kernel_rfl⟩) trivial ?_)
    | ((with_reducible show wpList _ _ _ ({ dst := some 49, op := .load _ _, type := _, pos := _, after := _, guard := _ } :: _) _ _); refine wpList_yields (S := fun w' => w'.rangeAt g6 0 (mzc 0)) (oy_mg (by rfl) (.tmp 6) (by rfl) g6 0 (by rfl) 0 (fun _ h => h)) HN7.out.range ?_)
    | ((with_reducible show wpList _ _ _ ({ dst := some 50, op := .load _ _, type := _, pos := _, after := _, guard := _ } :: _) _ _); refine wpList_yields (S := fun w' => w'.rangeAt g3 0 (mzc 0)) (oy_mg (by rfl) (.tmp 3) (by rfl) g3 0 (by rfl) 0 (fun _ h => h)) HM7.out.range ?_)
    | ((with_reducible show wpList _ _ _ ({ dst := some 51, op := .binOp _ _ _ _ _, type := _, pos := _, after := _, guard := _ } :: _) _ _); refine wpList_yields (S := fun _ => True) (show YieldsIf Tryz.prog _ _ _ (.bool true) _ from .inl ⟨by rfl, fun _ _ => by kernel_rfl⟩) trivial ?_)
    | (go_at_call 12; refine (oknown _ (HT.out.below HB7.out)).mono ?_; rintro e v9 ⟨rfl, b_⟩; have B9 := Lib.hid (HB7.out.trans (b_.mono HB7.out.size)); clear b_))
  go_ret
  exact ⟨rfl, B9.out⟩
set_option maxRecDepth 8000 in
theorem walk (w : World) (hL : laidMetH Tryz.prog laidK w) (a : Ak) : Calls Tryz.prog 7 #[a.val] w fun e w' => e = .returned (.bool true) ∧ Below w.heap.size w w' := by
  by_cases h : a.d.length ≤ 100
  · exact walk_ok w (tab_of hL) a h
  · exact walk_big w (tab_of hL) a h
set_option maxRecDepth 100000 in
theorem lifted (os : Os) (started : os.Started) (H : Type) (enc : TypeId × Value → H) :
    ReturnsInHanded {} Tryz.checked os 7 .any (fun w args => (Rows.ordersNilSpec.pre enc Tryz.prog Tryz.f7 [] false w args ∧ laidMetH Tryz.prog laidK w) ∧ sizedMet enc Tryz.prog Tryz.f7 (OpenSpec.ofChange Rows.ordersNilSpec) false w args) (Rows.ordersNilSpec.post enc Tryz.prog Tryz.f7 false true false false) := by
  refine returnsInHanded_of_change_and (C := Tryz.checked) (X := fun w _ => laidMetH Tryz.prog laidK w) (fun _ _ _ hh h => h.of_heap hh) own started (by kernel_rfl) Tryz.func7
    (ChangeSpec.witness_shaped (enc := enc) (C := Tryz.checked) (os := os) (X := fun w _ => laidMetH Tryz.prog laidK w) false (World.doorLaid Tryz.prog 40 os) #[.agg #[.int .i64 0, .int .i64 0, .int .i64 0, .int .i64 0, .int .i64 0, .int .i64 0, .int .i64 0, .string ⟨#[]⟩, .int .i64 0, .int .i64 0, .int .i64 0, .int .i64 0, .int .i64 0, .int .i64 0, .int .i64 0, .int .i64 0, .int .i64 0, .int .i64 0, .int .i64 0, .int .i64 0, .int .i64 0, .int .i64 0, .int .i64 0, .int .i64 0, .int .i64 0, .int .i64 0, .int .i64 0]] 8 rfl (World.shaped_of_RefB (by kernel_rfl) (by kernel_rfl)) (by kernel_rfl) (by kernel_rfl) (by kernel_rfl) (door_met os _)) ?_
  intro W base args ds gs before hval0 hW _ _ hL _
  have hval : ∀ (j : Nat) t v, Tryz.f7.params[j]? = some t → args[j]? = some v → Value.okWide Tryz.prog W .any base t v := hval0
  have hW' := hW
  obtain ⟨p, q, hA0, hV, rfl, hfz, hnd⟩ := hW
  have hA : DataW.TrodAll enc Tryz.prog W 0 (fun _ => true) true Tryz.f7.params.toList args.toList ds p := hA0
  rw [Tryz.params7] at hA hval
  obtain ⟨v0, vs0, d0, ds0, p0, q0, hargs, rfl, rfl, h0, t0⟩ := trodAll_cons hA
  obtain ⟨rfl, rfl, rfl⟩ := trodAll_nil t0
  obtain rfl : args = #[v0] := by cases args; simp_all
  obtain ⟨rfl, rfl⟩ := trodVars_none hV
  have k0 := h0
  have lt0 : ∀ x ∈ p0, x.block < W.heap.size := by obtain ⟨m, hm⟩ := k0; exact DataW.trod_lt m _ _ _ hm
  obtain ⟨a0, rfl⟩ := open_ak (hval 0 38 v0 rfl rfl) h0
  clear hA0 hval0
  refine (walk W hL a0).mono fun e W' ⟨he, bel⟩ => ?_
  subst he
  exact ⟨_, rfl, _, _, _, [], _, [], hW', trodAll_mk1 (shut_bool Tryz.underlying4 _), (trodAll_cons_mk (Below.trod laidOut (by kernel_rfl) (of_decide_eq_true (by kernel_rfl)) k0 bel lt0) trodAll_mk0), rfl, bel.frame _, fun h => by cases h⟩
theorem over : Rows.ordersNilRow.holds Tryz.pinned (OpenSpec.ofChange Rows.ordersNilSpec) :=
  OpenClaim.holds_of_wide 7 Tryz.f7 rfl rfl rfl rfl rfl rfl rfl ⟨rfl, rfl, rfl, rfl, rfl⟩ rfl rfl rfl rfl rfl (by kernel_rfl) Tryz.func7 (by kernel_rfl)
    (of_decide_eq_true (by kernel_rfl)) (by unfold Func.isWrapper; first | (rw [if_pos (by decide +kernel)]; kernel_rfl) | (rw [if_neg (by decide +kernel)]; exact ⟨rfl, rfl⟩))
    (fun os started H enc _ => lifted os started H enc)
set_option maxRecDepth 8000 in
theorem proved : Rows.OrdersNilCardSaid :=
  Claim7.holds_tied_plain_at .later [] [.data] true Rows.ordersNilCard.stood.harness true
    over (fun _ h => by cases h) (by kernel_rfl) (fun _ h => by cases h) ordersNil_row_tie rfl ⟨rfl, rfl⟩ (by kernel_rfl) rfl
    (fun f fn hf hfn => by
      obtain rfl : f = 7 := Option.some.inj ((show Tryz.prog.funcNamed "chatelaine/chatelainelaw14.OrdersNil" = some 7 by kernel_rfl).symm.trans hf) |>.symm
      obtain rfl : fn = Tryz.f7 := (Option.some.inj (Tryz.func7.symm.trans hfn)).symm
      exact ⟨by kernel_rfl, fun j t ht => by
        rw [Tryz.params7] at ht
        have hm : t ∈ [38] := by simpa using Array.mem_of_getElem? ht
        have hall : ([38].all fun u => !Tryz.prog.wantsStandIn u) = true := by kernel_rfl
        exact (show Tryz.prog.wantsStandIn t = false by simpa using List.all_eq_true.1 hall t hm)⟩)
    (by kernel_rfl)
end Go.Proofs.YtogkdhpnbpgheaaGreatDoor.ordersNil

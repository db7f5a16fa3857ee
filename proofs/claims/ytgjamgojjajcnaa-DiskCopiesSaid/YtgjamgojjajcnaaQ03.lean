/- Whole arrays out of and into blocks that are known whole; copy of bytes; one step of a region. -/
import Derived.Test.YtgjamgojjajcnaaQ02
import Derived.Deep.RegionLaw
import Derived.Laws.CopyOwn
import Derived.Deep.AppendLies
namespace Go.Proofs.Ytgjamgojjajcnaa
open Go.RowKit
section
variable {P : Program} {w w' : World} {b : Nat} {t : TypeId}
set_option maxRecDepth 8000 in
theorem add_lit0 (b j : Nat) : (⟨b, 0, none⟩ : Addr).add j = ⟨b, j, none⟩ := by unfold Addr.add; split <;> simp_all
set_option maxRecDepth 8000 in
/-- a whole block is read -/
theorem run_load_all (l : List Value) (n : Nat) (hl : l.length = n) (h : Blk w b t l.toArray) : (loadCellsFrom ⟨b, 0, none⟩ 0 n #[]).run P w = .ok l.toArray w := by
  subst hl
  exact run_loadCells_list (P := P) w ⟨b, 0, none⟩ l (fun j v hv => by rw [add_lit0, h.cell]; simpa using hv)
set_option maxRecDepth 8000 in
theorem run_load_range (l : List Value) (n o : Nat) (hl : l.length = n) (h : w.rangeAt b o l) : (loadCellsFrom ⟨b, o, none⟩ 0 n #[]).run P w = .ok l.toArray w := by
  subst hl
  exact run_loadCells_list (P := P) w ⟨b, o, none⟩ l (fun j v hv => by rw [Addr.add_mid]; exact h j v hv)
set_option maxRecDepth 8000 in
/-- all cells of a block are stored -/
theorem run_store_all (l l0 : List Value) (hl : l.length = l0.length) (h1 : ∀ u ∈ l, u.oneCell' = true) (h : Blk w b t l0.toArray) :
    (storeCells ⟨b, 0, none⟩ l).run P w = .ok () (w.setRow b l.toArray) := by
  have := run_storeCells_at P b 0 t l 0 l0.toArray w h (by simp [hl]) h1
  rw [this]
  simp [hl]
theorem Blk.setRow {l0 : Array Value} (h : Blk w b t l0) (c : Array Value) : Blk (w.setRow b c) b t c := setRow_heap w b l0 c t (0, 0) h
theorem Blk.setRow_far {g : Nat} {t' : TypeId} {cs : Array Value} (h : Blk w g t' cs) (hne : g ≠ b) (c : Array Value) : Blk (w.setRow b c) g t' cs := (setRow_other w b g c hne).trans h
theorem grown_setRow (w : World) (b : Nat) (c : Array Value) : w.grownBy (w.setRow b c) (some b) := ⟨rfl, rfl, rfl, by simp [World.setRow], fun k _ hk => setRow_other w b k c (fun e => hk (by rw [e]))⟩
set_option maxRecDepth 8000 in
theorem setRow_last (w : World) (b : Nat) (hb : b = w.heap.size) (c c' : Array Value) (t : TypeId) : (w.alloc (.cells c t)).setRow b c' = w.alloc (.cells c' t) := by
  subst hb
  exact World.setRow_alloc_new w c c' t
set_option maxRecDepth 8000 in
/-- the block that was made last is stored whole -/
theorem run_store_last (l l0 : List Value) (hb : b = w.heap.size) (hl : l.length = l0.length) (h1 : ∀ u ∈ l, u.oneCell' = true) :
    (storeCells ⟨b, 0, none⟩ l).run P (w.alloc (.cells l0.toArray t)) = .ok () (w.alloc (.cells l.toArray t)) := by
  rw [run_store_all l l0 hl h1 (hb ▸ Blk.new w t _), setRow_last w b hb]
theorem run_store_bv (l l0 : List UInt8) (hb : b = w.heap.size) (hl : l.length = l0.length) :
    (storeCells ⟨b, 0, none⟩ (bv l)).run P (w.alloc (.cells (bv l0).toArray t)) = .ok () (w.alloc (.cells (bv l).toArray t)) := run_store_last _ _ hb (by rw [bv_length, bv_length, hl]) (bv_one l)
theorem run_store_wc (x x0 : Nat × List UInt8) (hb : b = w.heap.size) (hl : x.2.length = x0.2.length) :
    (storeCells ⟨b, 0, none⟩ (wc x)).run P (w.alloc (.cells (wc x0).toArray t)) = .ok () (w.alloc (.cells (wc x).toArray t)) := run_store_last _ _ hb (by simp [wc, bv, hl]) (wc_one x)
theorem drew_blk {W : World} {b : Nat} {t : TypeId} {cs : Array Value} (h : Blk W b t cs) : Blk W.drew b t cs := h
set_option maxRecDepth 8000 in
theorem setRow_last_drew (w : World) (b : Nat) (hb : b = w.heap.size) (c c' : Array Value) (t : TypeId) : (w.alloc (.cells c t)).drew.setRow b c' = (w.alloc (.cells c' t)).drew := by
  subst hb
  show ({ (w.alloc (.cells c t)).setRow w.heap.size c' with drawn := w.drawn + 1 } : World) = _
  rw [World.setRow_alloc_new]
  rfl
set_option maxRecDepth 8000 in
theorem run_store_bv_drew (l l0 : List UInt8) (hb : b = w.heap.size) (hl : l.length = l0.length) :
    (storeCells ⟨b, 0, none⟩ (bv l)).run P (w.alloc (.cells (bv l0).toArray t)).drew = .ok () (w.alloc (.cells (bv l).toArray t)).drew := by
  rw [run_store_all (t := t) (bv l) (bv l0) (by rw [bv_length, bv_length, hl]) (bv_one l) (drew_blk (hb ▸ Blk.new w t _)), setRow_last_drew w b hb]
set_option maxRecDepth 8000 in
theorem run_store_wc_drew (x x0 : Nat × List UInt8) (hb : b = w.heap.size) (hl : x.2.length = x0.2.length) :
    (storeCells ⟨b, 0, none⟩ (wc x)).run P (w.alloc (.cells (wc x0).toArray t)).drew = .ok () (w.alloc (.cells (wc x).toArray t)).drew := by
  rw [run_store_all (t := t) (wc x) (wc x0) (by simp [wc, bv, hl]) (wc_one x) (drew_blk (hb ▸ Blk.new w t _)), setRow_last_drew w b hb]
set_option maxRecDepth 8000 in
/-- a copy of bytes into a block that is known whole -/
theorem run_copy_sec {dT sT ty e : TypeId} (hu : P.underlying dT = some (.slice e)) (hs : (P.info? e).map (·.size) = some 1) (off n dcap : Nat) (A : Option Addr) (m scap : Nat) (cur l : List UInt8)
    (hg : Blk w b t (bv cur).toArray) (hn : l.length = Nat.min m n) (hsrc : Rd w A l) (hfit : off + l.length ≤ cur.length) :
    ∃ w', (Builtin.copy_ #[dT, sT] ty #[.slice (some ⟨b, off, none⟩) n dcap, .slice A m scap]).run P w = .ok (goInt l.length) w' ∧ Blk w' b t (bv (splice cur off l)).toArray ∧ w.grownBy w' (some b) ∧ w'.heap.size = w.heap.size := by
  cases l with
  | nil =>
    refine ⟨w, ?_, ?_, World.grownBy.refl w _, rfl⟩
    · exact run_copy_none (P := P) w dT sT ty e _ _ n dcap m scap hu hs (by simpa using hn.symm)
    · simpa [splice] using hg
  | cons x l =>
    obtain ⟨ab, ao, rfl, _⟩ := hsrc 0 (by simp)
    have hr := run_copy_row P w dT sT ty e b off n dcap ⟨ab, ao, none⟩ m scap _ t (bv (x :: l)) hu hs hg (by rw [bv_length]; exact hn) ?_ (by rw [bv_length]; simpa [bv_length] using hfit) (bv_one _)
    rw [bv_length] at hr
    refine ⟨_, hr, ?_, grown_setRow _ _ _, by simp [World.setRow]⟩
    rotate_left
    · intro j v hv
      rw [bv_get] at hv
      cases hl : (x :: l)[j]? with
      | none => rw [hl] at hv; cases hv
      | some y =>
        obtain ⟨hj, rfl⟩ := List.getElem?_eq_some_iff.1 hl
        obtain ⟨b', o', e, hc⟩ := hsrc j hj
        injection e with e
        injection e with e1 e2
        subst e1; subst e2
        rw [Addr.add_mid, hc, ← hv, hl]
        rfl
    · have : (bv (splice cur off (x :: l))).toArray = ((bv cur).toArray.toList.take off ++ bv (x :: l) ++ (bv cur).toArray.toList.drop (off + (bv (x :: l)).length)).toArray := by
        rw [bv_length]
        congr 1
        simp only [bv, splice, List.map_append, List.map_take, List.map_drop, List.append_assoc]
      rw [bv_length] at this
      rw [this]
      exact hg.setRow _
set_option maxRecDepth 8000 in
theorem step_copy {ops : Array Oper} {o : Oper} {a : Act} {K : Act → World → Prop} {Q : Exit → Act → World → Prop} {E : Prop} (hgd : o.guard = none) (d s : Operand) {dT sT e : TypeId}
    (ho : o.op = .call { callee := .builtin .copy, args := #[d, s], argTypes := #[dT, sT] }) (hu : P.underlying dT = some (.slice e)) (hs : (P.info? e).map (·.size) = some 1) (b off n dcap : Nat) (A : Option Addr) (m scap : Nat)
    (hd : a.eval d = .slice (some ⟨b, off, none⟩) n dcap) (hs' : a.eval s = .slice A m scap) (cur l : List UInt8)
    (hg : Blk w b t (bv cur).toArray) (hn : l.length = Nat.min m n) (hsrc : Rd w A l) (hfit : off + l.length ≤ cur.length)
    (h : ∀ w', Blk w' b t (bv (splice cur off l)).toArray → w.grownBy w' (some b) → w'.heap.size = w.heap.size → K (a.put o.dst (goInt l.length)) w') :
    if Region.wanted o (yielded ops a.tmps) = true then Oper.wp P o a w K Q else E := by
  have hw : Region.wanted o (yielded ops a.tmps) = true := by simp [Region.wanted, hgd]
  rw [if_pos hw]
  obtain ⟨w', hrun, h1, h2, h3⟩ := run_copy_sec (P := P) (w := w) (ty := o.type) (sT := sT) hu hs off n dcap A m scap cur l hg hn hsrc hfit
  unfold Oper.wp
  simp [execOp, ho, resolve, invoke, builtin, hd, hs', hrun, Result.andThen]
  exact h w' h1 h2 h3
end
set_option maxRecDepth 8000 in
theorem size47 : (Try.prog.info? 38).map (·.size) = some 512 := by kernel_rfl
set_option maxRecDepth 8000 in
theorem size84 : (Try.prog.info? 89).map (·.size) = some 513 := by kernel_rfl
theorem Blk.rangeAt {w : World} {b : Nat} {t : TypeId} {l : List Value} (h : Blk w b t l.toArray) : w.rangeAt b 0 l := fun j v hv => by rw [h.cell]; simpa using hv
section
variable {w : World} {ops : Array Oper} {rest : List Oper} {o : Oper} {a : Act} {Q : Exit → Act → World → Prop}
theorem wpList_load47 (hgd : o.guard = none) (x : Operand) (ho : o.op = .load 38 x) (b off : Nat) (hx : a.eval x = .pointer (some ⟨b, off, none⟩)) (l : List UInt8) (h : w.rangeAt b off (bv l)) (hl : l.length = 512)
    (hK : wpList Try.prog ops Q rest (a.put o.dst (sec l)) w) : wpList Try.prog ops Q (o :: rest) a w :=
  wpList_load_mid hgd 38 x ho b off hx (bv l) _ h Try.underlying38 rfl (by rw [bv_length, hl]; exact size47) hK
theorem wpList_load84 (hgd : o.guard = none) (x : Operand) (ho : o.op = .load 89 x) (b off : Nat) (hx : a.eval x = .pointer (some ⟨b, off, none⟩)) (l : Nat × List UInt8) (h : w.rangeAt b off (wc l)) (hl : l.2.length = 512)
    (hK : wpList Try.prog ops Q rest (a.put o.dst (wv l)) w) : wpList Try.prog ops Q (o :: rest) a w :=
  wpList_load_mid hgd 89 x ho b off hx (wc l) _ h Try.underlying89 rfl (by rw [wc_length _ hl]; exact size84) hK
set_option maxRecDepth 8000 in
theorem wpList_del75 (hgd : o.guard = none) (x y : Operand) (ho : o.op = .call { callee := .builtin .delete, args := #[x, y], argTypes := #[83, 3] }) (f : Option Nat) (n : Int) (hx : a.eval x = .map f) (hy : a.eval y = .int .i64 n)
    (S : Int → Bool) (h : SetMap w f S) (hK : ∀ w', SetMap w' f (delS S n) → w.grownBy w' f → wpList Try.prog ops Q rest (a.put o.dst (.tuple #[])) w') : wpList Try.prog ops Q (o :: rest) a w := by
  refine wpList_plain hgd fun K hK' => ?_
  obtain ⟨w', hrun, h1, h2⟩ := h.delete (ty := o.type) n
  unfold Oper.wp
  simp [execOp, ho, resolve, invoke, builtin, hx, hy, hrun, Result.andThen]
  exact hK' _ _ (hK w' h1 h2)
set_option maxRecDepth 8000 in
theorem wpList_add75 (hgd : o.guard = none) (m x v : Operand) (ho : o.op = .mapUpdate 83 m x v) (b : Nat) (n : Int) (hm : a.eval m = .map (some b)) (hx : a.eval x = .int .i64 n) (hv : a.eval v = .agg #[])
    (S : Int → Bool) (h : SetMap w (some b) S) (hK : ∀ w', SetMap w' (some b) (addS S n) → w.grownBy w' (some b) → wpList Try.prog ops Q rest (a.put o.dst undef) w') : wpList Try.prog ops Q (o :: rest) a w := by
  refine wpList_plain hgd fun K hK' => ?_
  obtain ⟨w', hrun, h1, h2⟩ := h.add n
  unfold Oper.wp
  simp [execOp, ho, hm, hx, hv, hrun, Result.andThen]
  exact hK' _ _ (hK w' h1 h2)
set_option maxRecDepth 8000 in
theorem wpList_upd47 (hgd : o.guard = none) (m x v : Operand) (ho : o.op = .mapUpdate 81 m x v) (b n : Nat) (l : List UInt8) (hm : a.eval m = .map (some b)) (hx : a.eval x = .int .i64 (n : Int)) (hv : a.eval v = sec l)
    (L : Nat → List UInt8) (h : SecMap w b L) (hK : ∀ w', SecMap w' b (upL L n l) → w.grownBy w' (some b) → w'.heap.size = w.heap.size → wpList Try.prog ops Q rest (a.put o.dst undef) w') : wpList Try.prog ops Q (o :: rest) a w := by
  refine wpList_plain hgd fun K hK' => ?_
  obtain ⟨w', hrun, h1, h2, h3⟩ := h.update n l
  unfold Oper.wp
  simp [execOp, ho, hm, hx, hv, hrun, Result.andThen]
  exact hK' _ _ (hK w' h1 h2 h3)
end
end Go.Proofs.Ytgjamgojjajcnaa
namespace Go.Proofs.Ytgjamgojjajcnaa
open Go.RowKit
theorem fold_set (off : Nat) : ∀ (vs : List Value) (k : Nat) (cs : Array Value), off + k + vs.length ≤ cs.size →
    (vs.zipIdx k).foldl (fun (cs : Array Value) (p : Value × Nat) => cs.setIfInBounds (off + p.2) p.1) cs = (cs.toList.take (off + k) ++ vs ++ cs.toList.drop (off + k + vs.length)).toArray
  | [], k, cs, _ => by simp
  | v :: vs, k, cs, h => by
    simp only [List.length_cons] at h
    rw [List.zipIdx_cons, List.foldl_cons, fold_set off vs (k + 1) _ (by simp; omega)]
    have e := list_seg_step cs.toList (off + k) v vs (by simp; omega)
    congr 1
    simp only [Array.toList_setIfInBounds, List.length_cons]
    rw [← e, Nat.add_assoc off k 1, ← Nat.add_assoc]
set_option maxRecDepth 8000 in
theorem fold_cells (off : Nat) (v : Value) (cs : Array Value) (h : off + v.cells.size ≤ cs.size) :
    (v.cells.zipIdx.foldl (fun (cs : Array Value) (p : Value × Nat) => cs.setIfInBounds (off + p.2) p.1) cs) = (cs.toList.take off ++ v.cells.toList ++ cs.toList.drop (off + v.cells.size)).toArray := by
  rw [← Array.foldl_toList, Array.toList_zipIdx, fold_set off v.cells.toList 0 cs (by simpa using h)]
  simp
set_option maxRecDepth 8000 in
theorem fill_one (place : Nat → Option (Nat × Nat)) (cs : Array Value) (i : Nat) (v : Value) (rest : List (Nat × Value)) (off : Nat) (hp : place i = some (off, v.cells.size)) (h : off + v.cells.size ≤ cs.size) :
    Instr.fill place cs ((i, v) :: rest) = Instr.fill place (cs.toList.take off ++ v.cells.toList ++ cs.toList.drop (off + v.cells.size)).toArray rest := by
  have := fold_cells off v cs h
  simp only [Instr.fill, hp]
  rw [if_neg (by simp; omega)]
  congr 1
set_option maxRecDepth 8000 in
theorem size3 : (Try.prog.info? 3).map (·.size) = some 1 := by kernel_rfl
set_option maxRecDepth 8000 in
theorem run_sizeOf {P : Program} {t : TypeId} {n : Nat} (h : (P.info? t).map (·.size) = some n) (w : World) : (sizeOf t).run P w = .ok n w := by
  cases hq : P.info? t with
  | none => simp [hq] at h
  | some i =>
    simp [hq] at h
    simp [sizeOf, typeInfo, hq, h]
theorem fields84 : Try.prog.fieldsOf 89 = #[(Try.prog.fieldsOf 89)[0]!, (Try.prog.fieldsOf 89)[1]!] ∧ ((Try.prog.fieldsOf 89)[0]!).offset = 0 ∧ ((Try.prog.fieldsOf 89)[0]!).type = 3 ∧ ((Try.prog.fieldsOf 89)[1]!).offset = 1 ∧ ((Try.prog.fieldsOf 89)[1]!).type = 38 := ⟨by kernel_rfl, by kernel_rfl, by kernel_rfl, by kernel_rfl, by kernel_rfl⟩
set_option maxRecDepth 8000 in
theorem und84 : Try.prog.underlying 89 = some (.struct (Try.prog.fieldsOf 89)) := by kernel_rfl
set_option maxRecDepth 8000 in
theorem run_build84 (w : World) (n : Nat) (l : List UInt8) (hl : l.length = 512) : (Instr.build 89 #[(0, .int .i64 (n : Int)), (1, sec l)]).run Try.prog w = .ok (wv (n, l)) w := by
  obtain ⟨hf, o0, t0, o1, t1⟩ := fields84
  have hm : ((Try.prog.fieldsOf 89).mapM fun f => (do pure (f.offset, ← sizeOf f.type) : Sem (Nat × Nat))).run Try.prog w = .ok #[(0, 1), (1, 512)] w := by
    rw [hf]
    simp [Array.mapM_eq_mapM_toList, o0, t0, o1, t1, run_sizeOf size3, run_sizeOf size47, Result.andThen]
  have hz : ((zeroValue 89).run Try.prog w) = .ok (wv (0, zs)) w := z84 w
  have c1 : Instr.fill ((#[(0, 1), (1, 512)] : Array (Nat × Nat))[·]?) (wc (0, zs)).toArray [(0, .int .i64 (n : Int)), (1, sec l)] = some (wc (n, l)).toArray := by
    have hzl := wc_length (0, zs) zs_length
    rw [fill_one _ _ 0 _ _ 0 rfl (by simp [Value.cells]; omega), fill_one _ _ 1 (sec l) _ 1 (by simp [Value.cells, bv_length, hl]) (by simp [Value.cells, bv_length, hl]; omega)]
    have e : ∀ v : Value, (v :: bv zs).take 1 ++ bv l ++ (v :: bv zs).drop (1 + 512) = v :: bv l := fun v => by
      rw [List.drop_eq_nil_of_le (by rw [List.length_cons, bv_length, zs_length]; omega), List.append_nil]
      rfl
    have e2 : (sec l).cells.size = 512 := by show (bv l).toArray.size = 512; rw [List.size_toArray, bv_length, hl]
    simp only [Instr.fill, e2]
    exact congrArg (fun x : List Value => some x.toArray) (e (.int .i64 (n : Int)))
  simp only [Instr.build, Sem.run_bind, hz, Result.andThen_ok, run_underlying und84, hm]
  rw [show (wv (0, zs)).cells = (wc (0, zs)).toArray from rfl, c1]
  rfl
set_option maxRecDepth 8000 in
theorem run_buildSlice84 (w : World) (x : Nat × List UInt8) (hx : x.2.length = 512) :
    (Instr.buildSlice 82 1 #[(0, wv x)]).run Try.prog w = .ok (.slice (some ⟨w.heap.size, 0, none⟩) 1 1) (w.alloc (.cells (wc x).toArray 89)) := by
  have hz : ((zeroValue 89).run Try.prog w) = .ok (wv (0, zs)) w := z84 w
  have hs := run_sizeOf (P := Try.prog) size84 w
  have c1 : ∀ cs : Array Value, cs.size = 513 → Instr.fill (fun i => some (i * 513, 513)) cs [(0, wv x)] = some (wc x).toArray := by
    intro cs hcs
    have e2 : (wv x).cells.size = 513 := by show (wc x).toArray.size = 513; rw [List.size_toArray, wc_length x hx]
    rw [fill_one _ _ 0 (wv x) _ 0 (by rw [e2]) (by rw [e2, hcs]; omega)]
    simp only [Instr.fill, e2]
    have e : cs.toList.take 0 ++ wc x ++ cs.toList.drop (0 + 513) = wc x := by
      rw [List.drop_eq_nil_of_le (by rw [Array.length_toList, hcs]; omega), List.append_nil]
      rfl
    exact congrArg (fun x : List Value => some x.toArray) e
  have h2 := c1 ((Array.range (1 * 513)).map ((wv (0, zs)).cells[· % (wv (0, zs)).cells.size]!)) (by simp)
  simp only [Instr.buildSlice, Sem.run_bind, run_underlying Try.underlying82, Result.andThen_ok, hs]
  rw [if_neg (by decide), if_neg (by decide)]
  simp only [Sem.run_bind, hz, Result.andThen_ok, Sem.run_pure, h2]
  simp [newRow, Result.andThen]
theorem yieldsIf_build84 {ops : Array Oper} {S : World → Prop} {o : Oper} {a : Act} (hw : Region.wanted o (yielded ops a.tmps) = true) (x y : Operand) (ho : o.op = .build 89 #[(0, x), (1, y)]) (n : Nat) (l : List UInt8) (hx : a.eval x = .int .i64 (n : Int)) (hy : a.eval y = sec l) (hl : l.length = 512) :
    YieldsIf Try.prog ops S o (wv (n, l)) a := .inl ⟨hw, fun w _ => by
  simp [execOp, ho, hx, hy, run_build84 w n l hl, Result.andThen]⟩
set_option maxRecDepth 8000 in
theorem step_buildSlice84 {ops : Array Oper} {o : Oper} {a : Act} {w : World} {K : Act → World → Prop} {Q : Exit → Act → World → Prop} {E : Prop} (hgd : o.guard = none) (x : Operand) (ho : o.op = .buildSlice 82 1 #[(0, x)]) (e : Nat × List UInt8) (hx : a.eval x = wv e) (he : e.2.length = 512)
    (h : K (a.put o.dst (.slice (some ⟨w.heap.size, 0, none⟩) 1 1)) (w.alloc (.cells (wc e).toArray 89))) :
    if Region.wanted o (yielded ops a.tmps) = true then Oper.wp Try.prog o a w K Q else E := by
  have hw : Region.wanted o (yielded ops a.tmps) = true := by simp [Region.wanted, hgd]
  rw [if_pos hw]
  unfold Oper.wp
  simp [execOp, ho, hx, run_buildSlice84 w e he, Result.andThen]
  exact h
set_option maxRecDepth 8000 in
theorem info84 : (Try.prog.info? 89).map (fun i => (i.zero, i.size, i.bytes)) = some (some (wv (0, zs)), 513, 520) := by kernel_rfl
theorem news84 {w : World} {g : Nat} {t : TypeId} (x : Nat × List UInt8) (h : Blk w g t (wc x).toArray) : ∀ j u, (wc x)[j]? = some u → w.cell? ((⟨g, 0, none⟩ : Addr).add j) = some u := fun j u hu => by
  rw [add_lit0, h.cell]
  simpa using hu
set_option maxRecDepth 8000 in
/-- append of one write, at a step of a region -/
theorem step_append84 {ops : Array Oper} {o : Oper} {a : Act} {w : World} {K : Act → World → Prop} {Q : Exit → Act → World → Prop} {E : Prop} (hgd : o.guard = none) (s x : Operand)
    (ho : o.op = .call { callee := .builtin .append, args := #[s, x], argTypes := #[82, 82] }) (base : Nat) (v : Value) (n : Nat) (xs : List Value) (hs : a.eval s = v) (hown : w.ownsRow base 89 513 v n xs)
    (g0 : Nat) (c : Nat) (e : Nat × List UInt8) (hx : a.eval x = .slice (some ⟨g0, 0, none⟩) 1 c) (hb : Blk w g0 89 (wc e).toArray) (he : e.2.length = 512) (hn : n ≤ 1000000) (hbase : base ≤ w.heap.size)
    (h : ∀ g cap w', w'.ownsRow base 89 513 (.slice (some ⟨g, 0, none⟩) (n + 1) cap) (n + 1) (xs ++ wc e) → w.grownBy w' v.ownBlock → (v.ownBlock = some g ∨ g = w.heap.size) → K (a.put o.dst (.slice (some ⟨g, 0, none⟩) (n + 1) cap)) w') :
    if Region.wanted o (yielded ops a.tmps) = true then Oper.wp Try.prog o a w K Q else E := by
  obtain ⟨i0, hi, hz0, hz1, hz2⟩ := info_parts info84
  exact step_append_lies w hgd s x 82 ho base 89 i0 _ 513 520 Try.underlying82 hi hz0 hz1 hz2 (by show (wc (0, zs)).toArray.size = 513; rw [List.size_toArray, wc_length _ zs_length]) (by omega) v n xs hs hown ⟨g0, 0, none⟩ 1 c (wc e) hx (by rw [wc_length e he]) (news84 e hb) (wc_one e)
    (by omega) (by simp only [maxLen]; omega) (by omega) hbase _ rfl (fun g cap w' h1 h2 h3 _ => h g cap w' h1 h2 h3)
end Go.Proofs.Ytgjamgojjajcnaa
namespace Go.Proofs.Ytgjamgojjajcnaa
open Go.RowKit
set_option maxRecDepth 8000 in
set_option maxHeartbeats 400000 in
theorem there_nil (w : World) : Calls Try.prog 47 #[.pointer none] w fun e w' => e = .returned (.bool false) ∧ w = w' := by
  go_enter Try.func47, Try.ntmps47
  go_wp2
  go_ret
  exact ⟨rfl, rfl⟩
section
variable {w : World} {base p : Nat} {pl : Pl} {D : Dk}
theorem DiskAt.c0 (h : DiskAt w base p pl D) : w.cell? ⟨p, 0, none⟩ = some (.int .i64 (D.size : Int)) := (h.blk.cell 0).trans rfl
theorem DiskAt.c1 (h : DiskAt w base p pl D) : w.cell? ⟨p, 1, none⟩ = some (.map (some pl.m)) := (h.blk.cell 1).trans rfl
theorem DiskAt.c2 (h : DiskAt w base p pl D) : w.cell? ⟨p, 2, none⟩ = some pl.wv := (h.blk.cell 2).trans rfl
theorem DiskAt.c3 (h : DiskAt w base p pl D) : w.cell? ⟨p, 3, none⟩ = some (.int .i64 (D.steps : Int)) := (h.blk.cell 3).trans rfl
theorem DiskAt.c4 (h : DiskAt w base p pl D) : w.cell? ⟨p, 4, none⟩ = some (.int .i64 (D.frm : Int)) := (h.blk.cell 4).trans rfl
theorem DiskAt.c5 (h : DiskAt w base p pl D) : w.cell? ⟨p, 5, none⟩ = some (.map pl.f) := (h.blk.cell 5).trans rfl
end
set_option maxRecDepth 8000 in
set_option maxHeartbeats 400000 in
theorem there_yes (p n : Nat) (w : World) (hc : w.cell? ⟨p, 0, none⟩ = some (.int .i64 (n : Int))) (hn : 1 ≤ n) :
    Calls Try.prog 47 #[.pointer (some ⟨p, 0, none⟩)] w fun e w' => e = .returned (.bool true) ∧ w = w' := by
  have h1 : decide (0 < n) = true := by simp; omega
  go_enter Try.func47, Try.ntmps47
  go_wp2
  go_ret
  exact ⟨rfl, rfl⟩
theorem there_at {w : World} {base p : Nat} {pl : Pl} {D : Dk} (h : DiskAt w base p pl D) :
    Calls Try.prog 47 #[.pointer (some ⟨p, 0, none⟩)] w fun e w' => e = .returned (.bool true) ∧ w = w' := there_yes p D.size w h.c0 h.size1
set_option maxRecDepth 8000 in
set_option maxHeartbeats 400000 in
theorem size_nil (w : World) : Calls Try.prog 26 #[.pointer none] w fun e w' => e = .returned (.int .i64 0) ∧ w = w' := by
  go_enter Try.func26, Try.ntmps26
  go_wp2_with (go_at_call 47; refine (there_nil _).mono ?_; rintro e w' ⟨rfl, rfl⟩)
  go_ret
  exact ⟨rfl, rfl⟩
set_option maxRecDepth 8000 in
set_option maxHeartbeats 400000 in
theorem steps_nil (w : World) : Calls Try.prog 27 #[.pointer none] w fun e w' => e = .returned (.int .i64 0) ∧ w = w' := by
  go_enter Try.func27, Try.ntmps27
  go_wp2_with (go_at_call 47; refine (there_nil _).mono ?_; rintro e w' ⟨rfl, rfl⟩)
  go_ret
  exact ⟨rfl, rfl⟩
set_option maxRecDepth 8000 in
set_option maxHeartbeats 400000 in
theorem size_at {w : World} {base p : Nat} {pl : Pl} {D : Dk} (h : DiskAt w base p pl D) :
    Calls Try.prog 26 #[.pointer (some ⟨p, 0, none⟩)] w fun e w' => e = .returned (.int .i64 (D.size : Int)) ∧ w = w' := by
  have hc := h.c0
  have HT := Lib.hid (there_at h)
  clear h
  go_enter Try.func26, Try.ntmps26
  go_wp2_with (go_at_call 47; refine HT.out.mono ?_; rintro e w' ⟨rfl, rfl⟩)
  go_ret
  exact ⟨rfl, rfl⟩
set_option maxRecDepth 8000 in
set_option maxHeartbeats 400000 in
theorem steps_at {w : World} {base p : Nat} {pl : Pl} {D : Dk} (h : DiskAt w base p pl D) :
    Calls Try.prog 27 #[.pointer (some ⟨p, 0, none⟩)] w fun e w' => e = .returned (.int .i64 (D.steps : Int)) ∧ w = w' := by
  have hc := h.c3
  have HT := Lib.hid (there_at h)
  clear h
  go_enter Try.func27, Try.ntmps27
  go_wp2_with (go_at_call 47; refine HT.out.mono ?_; rintro e w' ⟨rfl, rfl⟩)
  go_ret
  exact ⟨rfl, rfl⟩
set_option maxRecDepth 8000 in
set_option maxHeartbeats 400000 in
theorem asked_nil (w : World) (n : Int) : Calls Try.prog 37 #[.pointer none, .int .i64 n] w fun e w' => e = .returned (.int .i64 1) ∧ w = w' := by
  go_enter Try.func37, Try.ntmps37
  go_wp2_with (go_at_call 47; refine (there_nil _).mono ?_; rintro e w' ⟨rfl, rfl⟩)
  go_ret
  exact ⟨rfl, rfl⟩
set_option maxRecDepth 8000 in
set_option maxHeartbeats 400000 in
theorem asked_ok {w : World} {base p : Nat} {pl : Pl} {D : Dk} (h : DiskAt w base p pl D) (n : Nat) (hn : n < D.size) :
    Calls Try.prog 37 #[.pointer (some ⟨p, 0, none⟩), .int .i64 (n : Int)] w fun e w' => e = .returned (.int .i64 0) ∧ w = w' := by
  have hc := h.c0
  have HT := Lib.hid (there_at h)
  have h1 : decide ((n : Int) < 0) = false := by simp
  have h2 : decide ((D.size : Int) ≤ (n : Int)) = false := by simp; omega
  have h2' : decide (D.size ≤ n) = false := by simp; omega
  clear h
  go_enter Try.func37, Try.ntmps37
  go_wp2_with (go_at_call 47; refine HT.out.mono ?_; rintro e w' ⟨rfl, rfl⟩)
  go_ret
  exact ⟨rfl, rfl⟩
set_option maxRecDepth 8000 in
set_option maxHeartbeats 400000 in
theorem asked_no {w : World} {base p : Nat} {pl : Pl} {D : Dk} (h : DiskAt w base p pl D) (n : Int) (hn : n < 0 ∨ (D.size : Int) ≤ n) :
    Calls Try.prog 37 #[.pointer (some ⟨p, 0, none⟩), .int .i64 n] w fun e w' => e = .returned (.int .i64 4) ∧ w = w' := by
  have hc := h.c0
  have HT := Lib.hid (there_at h)
  clear h
  by_cases h1 : n < 0
  · have h1' : decide (n < 0) = true := by simpa using h1
    go_enter Try.func37, Try.ntmps37
    go_wp2_with (go_at_call 47; refine HT.out.mono ?_; rintro e w' ⟨rfl, rfl⟩)
    go_ret
    exact ⟨rfl, rfl⟩
  · have h1' : decide (n < 0) = false := by simpa using h1
    have h2 : decide ((D.size : Int) ≤ n) = true := by simp; omega
    go_enter Try.func37, Try.ntmps37
    go_wp2_with (go_at_call 47; refine HT.out.mono ?_; rintro e w' ⟨rfl, rfl⟩)
    go_ret
    exact ⟨rfl, rfl⟩
set_option maxRecDepth 8000 in
set_option maxHeartbeats 400000 in
theorem new_no (w : World) (n : Int) (h : n < 1 ∨ 4096 < n) : Calls Try.prog 30 #[.int .i64 n] w fun e w' => e = .returned (.tuple #[.pointer none, .int .i64 2]) ∧ w = w' := by
  by_cases h1 : n < 1
  · have h1' : decide (n < 1) = true := by simpa using h1
    clear h
    go_enter Try.func30, Try.ntmps30
    go_wp2
    go_ret2
    exact ⟨rfl, rfl⟩
  · have h1' : decide (n < 1) = false := by simpa using h1
    have h2 : decide (4096 < n) = true := by simp; omega
    clear h
    go_enter Try.func30, Try.ntmps30
    go_wp2
    go_ret2
    exact ⟨rfl, rfl⟩
def newPl (m : Nat) : Pl := { m := m, wv := .slice none 0 0, f := none }
def newDk (n : Nat) : Dk := { size := n, lasts := fun _ => zs, waits := [], steps := 0, frm := 0, fails := fun _ => false }
set_option maxRecDepth 8000 in
theorem new_at (w : World) (n : Nat) (h1 : 1 ≤ n) (h2 : n ≤ 4096) : DiskAt ((w.alloc (.map #[] 0)).alloc (.cells (dcells (newPl w.heap.size) (newDk n)) 85)) w.heap.size (w.heap.size + 1) (newPl w.heap.size) (newDk n) where
  blk := heap_alloc2_new w _ _
  map := (SecMap.made w).keep (Below.heap_alloc _ _ _ (by simp))
  row := World.ownsRow_nil _ _ _ _
  set := fun _ => rfl
  bp := by omega
  bm := Nat.le_refl _
  bf := by simp [newPl]
  ne := by simp [newPl]
  size1 := h1
  size2 := h2
  lens := fun _ => zs_length
  wlens := by simp [newDk]
  frm := Nat.le_refl _
set_option maxRecDepth 8000 in
theorem zero77 : (Try.prog.info? 85).map (fun i => (i.zero, i.size)) = some (some (.agg #[.int .i64 0, .map none, .slice none 0 0, .int .i64 0, .int .i64 0, .map none]), 6) := by kernel_rfl
theorem z77 (w : World) : (zeroValue 85).run Try.prog w = .ok (.agg #[.int .i64 0, .map none, .slice none 0 0, .int .i64 0, .int .i64 0, .map none]) w := (zero_of_info zero77).1 w
set_option maxRecDepth 8000 in
set_option maxHeartbeats 400000 in
theorem new_yes (w : World) (n : Nat) (h1 : 1 ≤ n) (h2 : n ≤ 4096) : Calls Try.prog 30 #[.int .i64 (n : Int)] w fun e w' =>
    e = .returned (.tuple #[.pointer (some ⟨w.heap.size + 1, 0, none⟩), .int .i64 0]) ∧ (w.alloc (.map #[] 0)).alloc (.cells (dcells (newPl w.heap.size) (newDk n)) 85) = w' := by
  have h1' : decide ((n : Int) < 1) = false := by simp; omega
  have h2' : decide (4096 < (n : Int)) = false := by simp; omega
  have hmm := @run_makeMap Try.prog
  go_enter Try.func30, Try.ntmps30
  go_wp2
  go_ret2
  exact ⟨rfl, rfl⟩
set_option maxRecDepth 8000 in
set_option maxHeartbeats 400000 in
theorem waiting_any (p : Option Addr) (w : World) : Calls Try.prog 54 #[.pointer p] w fun e w' =>
    e = .returned (.func (.func 62) #[] #[.pointer (some ⟨w.heap.size, 0, none⟩)]) ∧ w.alloc (.cells #[.pointer p] 31) = w' := by
  go_enter Try.func54, Try.ntmps54
  go_wp2
  go_ret
  exact ⟨rfl, rfl⟩
end Go.Proofs.Ytgjamgojjajcnaa

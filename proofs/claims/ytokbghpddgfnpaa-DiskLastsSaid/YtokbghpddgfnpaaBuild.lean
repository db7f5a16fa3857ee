/- A write that is built of its sector and bytes; a row of one write; append of one. -/
import Derived.Test.YtokbghpddgfnpaaArr
import Derived.Deep.AppendLies
namespace Go.Proofs.Ytokbghpddgfnpaa
open Go.RowKit
theorem fold_set (off : Nat) : ∀ (vs : List Value) (k : Nat) (cs : Array Value), off + k + vs.length ≤ cs.size →
    (vs.zipIdx k).foldl (fun (cs : Array Value) (p : Value × Nat) => cs.setIfInBounds (off + p.2) p.1) cs = (cs.toList.take (off + k) ++ vs ++ cs.toList.drop (off + k + vs.length)).toArray
  | [], k, cs, _ => by simp
  | v :: vs, k, cs, h => by
    simp only [List.length_cons] at h
    rw [List.zipIdx_cons, List.foldl_cons, fold_set off vs (k + 1) _ (by simp; omega)]
    have e := list_seg_step cs.toList (off + k) v vs (by simp; omega)
    congr 1
    simp only [Array.toList_setIfInBounds, List.length_cons]
    rw [← e, Nat.add_assoc off k 1, ← Nat.add_assoc]
set_option maxRecDepth 8000 in
theorem fold_cells (off : Nat) (v : Value) (cs : Array Value) (h : off + v.cells.size ≤ cs.size) :
    (v.cells.zipIdx.foldl (fun (cs : Array Value) (p : Value × Nat) => cs.setIfInBounds (off + p.2) p.1) cs) = (cs.toList.take off ++ v.cells.toList ++ cs.toList.drop (off + v.cells.size)).toArray := by
  rw [← Array.foldl_toList, Array.toList_zipIdx, fold_set off v.cells.toList 0 cs (by simpa using h)]
  simp
set_option maxRecDepth 8000 in
theorem fill_one (place : Nat → Option (Nat × Nat)) (cs : Array Value) (i : Nat) (v : Value) (rest : List (Nat × Value)) (off : Nat) (hp : place i = some (off, v.cells.size)) (h : off + v.cells.size ≤ cs.size) :
    Instr.fill place cs ((i, v) :: rest) = Instr.fill place (cs.toList.take off ++ v.cells.toList ++ cs.toList.drop (off + v.cells.size)).toArray rest := by
  have := fold_cells off v cs h
  simp only [Instr.fill, hp]
  rw [if_neg (by simp; omega)]
  congr 1
set_option maxRecDepth 8000 in
theorem size3 : (Try.prog.info? 3).map (·.size) = some 1 := by kernel_rfl
set_option maxRecDepth 8000 in
theorem run_sizeOf {P : Program} {t : TypeId} {n : Nat} (h : (P.info? t).map (·.size) = some n) (w : World) : (sizeOf t).run P w = .ok n w := by
  cases hq : P.info? t with
  | none => simp [hq] at h
  | some i =>
    simp [hq] at h
    simp [sizeOf, typeInfo, hq, h]
theorem fields84 : Try.prog.fieldsOf 89 = #[(Try.prog.fieldsOf 89)[0]!, (Try.prog.fieldsOf 89)[1]!] ∧ ((Try.prog.fieldsOf 89)[0]!).offset = 0 ∧ ((Try.prog.fieldsOf 89)[0]!).type = 3 ∧ ((Try.prog.fieldsOf 89)[1]!).offset = 1 ∧ ((Try.prog.fieldsOf 89)[1]!).type = 38 := ⟨by kernel_rfl, by kernel_rfl, by kernel_rfl, by kernel_rfl, by kernel_rfl⟩
set_option maxRecDepth 8000 in
theorem und84 : Try.prog.underlying 89 = some (.struct (Try.prog.fieldsOf 89)) := by kernel_rfl
set_option maxRecDepth 8000 in
theorem run_build84 (w : World) (n : Nat) (l : List UInt8) (hl : l.length = 512) : (Instr.build 89 #[(0, .int .i64 (n : Int)), (1, sec l)]).run Try.prog w = .ok (wv (n, l)) w := by
  obtain ⟨hf, o0, t0, o1, t1⟩ := fields84
  have hm : ((Try.prog.fieldsOf 89).mapM fun f => (do pure (f.offset, ← sizeOf f.type) : Sem (Nat × Nat))).run Try.prog w = .ok #[(0, 1), (1, 512)] w := by
    rw [hf]
    simp [Array.mapM_eq_mapM_toList, o0, t0, o1, t1, run_sizeOf size3, run_sizeOf size47, Result.andThen]
  have hz : ((zeroValue 89).run Try.prog w) = .ok (wv (0, zs)) w := z84 w
  have c1 : Instr.fill ((#[(0, 1), (1, 512)] : Array (Nat × Nat))[·]?) (wc (0, zs)).toArray [(0, .int .i64 (n : Int)), (1, sec l)] = some (wc (n, l)).toArray := by
    have hzl := wc_length (0, zs) zs_length
    rw [fill_one _ _ 0 _ _ 0 rfl (by simp [Value.cells]; omega), fill_one _ _ 1 (sec l) _ 1 (by simp [Value.cells, bv_length, hl]) (by simp [Value.cells, bv_length, hl]; omega)]
    have e : ∀ v : Value, (v :: bv zs).take 1 ++ bv l ++ (v :: bv zs).drop (1 + 512) = v :: bv l := fun v => by
      rw [List.drop_eq_nil_of_le (by rw [List.length_cons, bv_length, zs_length]; omega), List.append_nil]
      rfl
    have e2 : (sec l).cells.size = 512 := by show (bv l).toArray.size = 512; rw [List.size_toArray, bv_length, hl]
    simp only [Instr.fill, e2]
    exact congrArg (fun x : List Value => some x.toArray) (e (.int .i64 (n : Int)))
  simp only [Instr.build, Sem.run_bind, hz, Result.andThen_ok, run_underlying und84, hm]
  rw [show (wv (0, zs)).cells = (wc (0, zs)).toArray from rfl, c1]
  rfl
set_option maxRecDepth 8000 in
theorem run_buildSlice84 (w : World) (x : Nat × List UInt8) (hx : x.2.length = 512) :
    (Instr.buildSlice 82 1 #[(0, wv x)]).run Try.prog w = .ok (.slice (some ⟨w.heap.size, 0, none⟩) 1 1) (w.alloc (.cells (wc x).toArray 89)) := by
  have hz : ((zeroValue 89).run Try.prog w) = .ok (wv (0, zs)) w := z84 w
  have hs := run_sizeOf (P := Try.prog) size84 w
  have c1 : ∀ cs : Array Value, cs.size = 513 → Instr.fill (fun i => some (i * 513, 513)) cs [(0, wv x)] = some (wc x).toArray := by
    intro cs hcs
    have e2 : (wv x).cells.size = 513 := by show (wc x).toArray.size = 513; rw [List.size_toArray, wc_length x hx]
    rw [fill_one _ _ 0 (wv x) _ 0 (by rw [e2]) (by rw [e2, hcs]; omega)]
    simp only [Instr.fill, e2]
    have e : cs.toList.take 0 ++ wc x ++ cs.toList.drop (0 + 513) = wc x := by
      rw [List.drop_eq_nil_of_le (by rw [Array.length_toList, hcs]; omega), List.append_nil]
      rfl
    exact congrArg (fun x : List Value => some x.toArray) e
  have h2 := c1 ((Array.range (1 * 513)).map ((wv (0, zs)).cells[· % (wv (0, zs)).cells.size]!)) (by simp)
  simp only [Instr.buildSlice, Sem.run_bind, run_underlying Try.underlying82, Result.andThen_ok, hs]
  rw [if_neg (by decide), if_neg (by decide)]
  simp only [Sem.run_bind, hz, Result.andThen_ok, Sem.run_pure, h2]
  simp [newRow, Result.andThen]
theorem yieldsIf_build84 {ops : Array Oper} {S : World → Prop} {o : Oper} {a : Act} (hw : Region.wanted o (yielded ops a.tmps) = true) (x y : Operand) (ho : o.op = .build 89 #[(0, x), (1, y)]) (n : Nat) (l : List UInt8) (hx : a.eval x = .int .i64 (n : Int)) (hy : a.eval y = sec l) (hl : l.length = 512) :
    YieldsIf Try.prog ops S o (wv (n, l)) a := .inl ⟨hw, fun w _ => by
  simp [execOp, ho, hx, hy, run_build84 w n l hl, Result.andThen]⟩
set_option maxRecDepth 8000 in
theorem step_buildSlice84 {ops : Array Oper} {o : Oper} {a : Act} {w : World} {K : Act → World → Prop} {Q : Exit → Act → World → Prop} {E : Prop} (hgd : o.guard = none) (x : Operand) (ho : o.op = .buildSlice 82 1 #[(0, x)]) (e : Nat × List UInt8) (hx : a.eval x = wv e) (he : e.2.length = 512)
    (h : K (a.put o.dst (.slice (some ⟨w.heap.size, 0, none⟩) 1 1)) (w.alloc (.cells (wc e).toArray 89))) :
    if Region.wanted o (yielded ops a.tmps) = true then Oper.wp Try.prog o a w K Q else E := by
  have hw : Region.wanted o (yielded ops a.tmps) = true := by simp [Region.wanted, hgd]
  rw [if_pos hw]
  unfold Oper.wp
  simp [execOp, ho, hx, run_buildSlice84 w e he, Result.andThen]
  exact h
set_option maxRecDepth 8000 in
theorem info84 : (Try.prog.info? 89).map (fun i => (i.zero, i.size, i.bytes)) = some (some (wv (0, zs)), 513, 520) := by kernel_rfl
theorem news84 {w : World} {g : Nat} {t : TypeId} (x : Nat × List UInt8) (h : Blk w g t (wc x).toArray) : ∀ j u, (wc x)[j]? = some u → w.cell? ((⟨g, 0, none⟩ : Addr).add j) = some u := fun j u hu => by
  rw [add_lit0, h.cell]
  simpa using hu
set_option maxRecDepth 8000 in
/-- append of one write, at a step of a region -/
theorem step_append84 {ops : Array Oper} {o : Oper} {a : Act} {w : World} {K : Act → World → Prop} {Q : Exit → Act → World → Prop} {E : Prop} (hgd : o.guard = none) (s x : Operand)
    (ho : o.op = .call { callee := .builtin .append, args := #[s, x], argTypes := #[82, 82] }) (base : Nat) (v : Value) (n : Nat) (xs : List Value) (hs : a.eval s = v) (hown : w.ownsRow base 89 513 v n xs)
    (g0 : Nat) (c : Nat) (e : Nat × List UInt8) (hx : a.eval x = .slice (some ⟨g0, 0, none⟩) 1 c) (hb : Blk w g0 89 (wc e).toArray) (he : e.2.length = 512) (hn : n ≤ 1000000) (hbase : base ≤ w.heap.size)
    (h : ∀ g cap w', w'.ownsRow base 89 513 (.slice (some ⟨g, 0, none⟩) (n + 1) cap) (n + 1) (xs ++ wc e) → w.grownBy w' v.ownBlock → (v.ownBlock = some g ∨ g = w.heap.size) → K (a.put o.dst (.slice (some ⟨g, 0, none⟩) (n + 1) cap)) w') :
    if Region.wanted o (yielded ops a.tmps) = true then Oper.wp Try.prog o a w K Q else E := by
  obtain ⟨i0, hi, hz0, hz1, hz2⟩ := info_parts info84
  exact step_append_lies w hgd s x 82 ho base 89 i0 _ 513 520 Try.underlying82 hi hz0 hz1 hz2 (by show (wc (0, zs)).toArray.size = 513; rw [List.size_toArray, wc_length _ zs_length]) (by omega) v n xs hs hown ⟨g0, 0, none⟩ 1 c (wc e) hx (by rw [wc_length e he]) (news84 e hb) (wc_one e)
    (by omega) (by simp only [maxLen]; omega) (by omega) hbase _ rfl (fun g cap w' h1 h2 h3 _ => h g cap w' h1 h2 h3)
end Go.Proofs.Ytokbghpddgfnpaa

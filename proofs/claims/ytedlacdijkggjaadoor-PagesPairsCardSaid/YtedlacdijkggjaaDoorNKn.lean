/- law 9: known, made, a key weak. -/
import Derived.Test.YtedlacdijkggjaaDoorNBk
namespace Go.Proofs.YtedlacdijkggjaaDoor
open Go.RowKit
section
variable {ops : Array Oper} {o : Oper} {a : Act} {S : World → Prop} {rest : List Oper} {Q : Exit → Act → World → Prop}
theorem y_build2 {t : TypeId} {i j : Nat} {x y : Value} {cs : Array Value} (hw : Region.wanted o (yielded ops a.tmps) = true) (ho : o.op = .build t #[(i, .const x), (j, .const y)]) (hb : Tryd.prog.built t [(i, x), (j, y)] = some cs) : YieldsIf Tryd.prog ops S o (.agg cs) a := .inl ⟨hw, fun w _ => by
  unfold execOp
  simp only [ho, Sem.run_bind]
  have := run_build w t #[(i, x), (j, y)] _ hb
  simp only [List.map_toArray, List.map_cons, List.map_nil, Act.eval, this, Result.andThen_ok, Sem.run_pure]⟩
set_option maxRecDepth 8000 in
theorem run_buildSlice34 (w : World) (u : Oj) :
    (Instr.buildSlice 22 1 #[(0, u.val)]).run Tryd.prog w = .ok (.slice (some ⟨w.heap.size, 0, none⟩) 1 1) (w.alloc (.cells u.cells.toArray 49)) := by
  have hz := z34 w
  have hs := run_sizeOf (P := Tryd.prog) size34 w
  have hol := oz_len
  have c1 : ∀ cs : Array Value, cs.size = 163 → Instr.fill (fun i => some (i * 163, 163)) cs [(0, u.val)] = some u.cells.toArray := by
    intro cs hcs
    have e2 : u.val.cells.size = 163 := by show u.cells.toArray.size = 163; rw [List.size_toArray, u.len]
    rw [fill_one _ _ 0 u.val _ 0 (by rw [e2]) (by rw [e2, hcs]; omega)]
    simp only [Instr.fill, e2]
    have e : cs.toList.take 0 ++ u.cells ++ cs.toList.drop (0 + 163) = u.cells := by
      rw [List.drop_eq_nil_of_le (by rw [Array.length_toList, hcs]; omega), List.append_nil]
      rfl
    exact congrArg (fun x : List Value => some x.toArray) e
  have h2 := c1 ((Array.range (1 * 163)).map (oz.val.cells[· % oz.val.cells.size]!)) (by simp)
  simp only [Instr.buildSlice, Sem.run_bind, run_underlying Tryd.underlying22, Result.andThen_ok, hs]
  rw [if_neg (by decide), if_neg (by decide)]
  simp only [Sem.run_bind, hz, Result.andThen_ok, Sem.run_pure, h2]
  simp [newRow, Result.andThen]
set_option maxRecDepth 8000 in
theorem wpList_buildSlice34 {w : World} (hgd : o.guard = none) (x : Operand) (ho : o.op = .buildSlice 22 1 #[(0, x)]) (u : Oj) (hx : a.eval x = u.val)
    (h : wpList Tryd.prog ops Q rest (a.put o.dst (.slice (some ⟨w.heap.size, 0, none⟩) 1 1)) (w.alloc (.cells u.cells.toArray 49))) : wpList Tryd.prog ops Q (o :: rest) a w := by
  refine wpList_plain hgd fun K hK => ?_
  unfold Oper.wp
  simp [execOp, ho, hx, run_buildSlice34 w u, Result.andThen]
  exact hK _ _ h
end
set_option maxRecDepth 8000 in
theorem rdo_one {w : World} {g : Nat} {t : TypeId} {u : Oj} (h : Blk w g t u.cells.toArray) : RdO w (some ⟨g, 0, none⟩) [u] := fun i hi => by
  obtain rfl : i = 0 := by simpa using hi
  exact ⟨g, 0, rfl, h.ob⟩
/-- may the law go on with these objects -/
def madeP (l : List Oj) : Prop := l.length ≤ 20 ∧ rightP l
end Go.Proofs.YtedlacdijkggjaaDoor

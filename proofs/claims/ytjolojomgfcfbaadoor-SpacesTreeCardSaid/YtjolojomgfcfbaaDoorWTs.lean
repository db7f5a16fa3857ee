/- law 11: a slice of three objects is built. -/
import Derived.Test.YtjolojomgfcfbaaDoorWTb
import Derived.Test.YtjolojomgfcfbaaDoorR21
import Derived.Test.YtjolojomgfcfbaaDoorR25
namespace Go.Proofs.YtjolojomgfcfbaaDoor
open Go.RowKit
section
variable {w : World}
set_option maxRecDepth 8000 in
theorem run_buildSlice3 (w : World) (u1 u2 u3 : Oj) :
    (Instr.buildSlice 34 3 #[(0, u1.val), (1, u2.val), (2, u3.val)]).run Tryd.prog w = .ok (.slice (some ⟨w.heap.size, 0, none⟩) 3 3) (w.alloc (.cells (ocs [u1, u2, u3]).toArray 33)) := by
  have hz := z34 w
  have hs := run_sizeOf (P := Tryd.prog) size34 w
  have hol := oz_len
  have c1 : ∀ cs : Array Value, cs.size = 489 → Instr.fill (fun i => some (i * 163, 163)) cs [(0, u1.val), (1, u2.val), (2, u3.val)] = some (ocs [u1, u2, u3]).toArray := by
    intro cs hcs
    obtain ⟨zs⟩ := cs
    have hz : zs.length = 489 := by simpa using hcs
    have e1 : u1.val.cells.size = 163 := by show u1.cells.toArray.size = 163; rw [List.size_toArray, u1.len]
    have e2 : u2.val.cells.size = 163 := by show u2.cells.toArray.size = 163; rw [List.size_toArray, u2.len]
    have e3 : u3.val.cells.size = 163 := by show u3.cells.toArray.size = 163; rw [List.size_toArray, u3.len]
    rw [fill_one _ _ 0 u1.val _ 0 (by rw [e1]) (by rw [e1]; simp; omega)]
    rw [fill_one _ _ 1 u2.val _ 163 (by rw [e2]) (by rw [e2]; simp [e1]; omega)]
    rw [fill_one _ _ 2 u3.val _ 326 (by rw [e3]) (by rw [e3]; simp [e1, e2]; omega)]
    have c1 : u1.val.cells = u1.cells.toArray := rfl
    have c2 : u2.val.cells = u2.cells.toArray := rfl
    have c3 : u3.val.cells = u3.cells.toArray := rfl
    have l1 := u1.len
    have l2 := u2.len
    have l3 := u3.len
    simp only [Instr.fill, ocs, c1, c2, c3, List.size_toArray]
    generalize u1.cells = a at l1 ⊢
    generalize u2.cells = b at l2 ⊢
    generalize u3.cells = c at l3 ⊢
    congr 2
    simp only [l1, l2, l3, List.take_zero, List.nil_append]
    have t1 : (a ++ zs.drop (0 + 163)).take 163 = a := by rw [← l1, List.take_left]
    have d1 : (a ++ zs.drop (0 + 163)).drop (163 + 163) = zs.drop 326 := by
      rw [List.drop_append, List.drop_eq_nil_of_le (by omega), l1, List.nil_append, List.drop_drop]
    rw [t1, d1]
    have t2 : (a ++ b ++ zs.drop 326).take 326 = a ++ b := by rw [show 326 = (a ++ b).length by simp [l1, l2], List.take_left]
    have d2 : (a ++ b ++ zs.drop 326).drop (326 + 163) = [] := by
      rw [List.drop_eq_nil_of_le]
      simp [l1, l2, hz]
    rw [t2, d2]
    simp
  have h2 := c1 ((Array.range (3 * 163)).map (oz.val.cells[· % oz.val.cells.size]!)) (by simp)
  simp only [Instr.buildSlice, Sem.run_bind, run_underlying Tryd.underlying34, Result.andThen_ok, hs]
  rw [if_neg (by decide), if_neg (by decide)]
  simp only [Sem.run_bind, hz, Result.andThen_ok, Sem.run_pure, h2]
  simp [newRow, Result.andThen]
set_option maxRecDepth 8000 in
theorem wpList_buildSlice3 {ops : Array Oper} {rest : List Oper} {o : Oper} {a : Act} {Q : Exit → Act → World → Prop} (hgd : o.guard = none) (x y z : Operand) (ho : o.op = .buildSlice 34 3 #[(0, x), (1, y), (2, z)]) (u1 u2 u3 : Oj) (hx : a.eval x = u1.val) (hy : a.eval y = u2.val) (hz : a.eval z = u3.val)
    (h : wpList Tryd.prog ops Q rest (a.put o.dst (.slice (some ⟨w.heap.size, 0, none⟩) 3 3)) (w.alloc (.cells (ocs [u1, u2, u3]).toArray 33))) : wpList Tryd.prog ops Q (o :: rest) a w := by
  refine wpList_plain hgd fun K hK => ?_
  unfold Oper.wp
  simp [execOp, ho, hx, hy, hz, run_buildSlice3 w u1 u2 u3, Result.andThen]
  exact hK _ _ h
end
end Go.Proofs.YtjolojomgfcfbaaDoor

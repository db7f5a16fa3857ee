/- law 10: a row of three objects, texts laid into two of them: words. -/
import Derived.Test.YtedlacdijkggjaaDoorGBd
import Derived.Test.YtedlacdijkggjaaDoorGSt
namespace Go.Proofs.YtedlacdijkggjaaDoor
open Go.RowKit
set_option maxRecDepth 8000 in
theorem take_cut (X : List Value) (p m n : Nat) (h : m ≤ n) : X.take p ++ ((X.drop p).take n).take m = X.take (p + m) := by
  rw [List.take_take, Nat.min_eq_left h, List.take_add]
set_option maxRecDepth 8000 in
theorem drop_cut (X : List Value) (p m n : Nat) (h : m ≤ n) : ((X.drop p).take n).drop m ++ X.drop (p + n) = X.drop (p + m) := by
  have e : X.drop (p + n) = (X.drop p).drop n := by rw [List.drop_drop]
  have e2 : X.drop (p + m) = (X.drop p).drop m := by rw [List.drop_drop]
  rw [e, e2]
  generalize X.drop p = Y
  obtain ⟨k, rfl⟩ := Nat.exists_eq_add_of_le h
  rw [List.drop_take, show m + k - m = k by omega, ← List.drop_drop]
  exact List.take_append_drop k (Y.drop m)
set_option maxRecDepth 8000 in
theorem layO_cells (u : Oj) (s : List UInt8) (h : s.length ≤ 64) : (layO u 0 s).cells = u.cells.take 99 ++ bv s ++ u.cells.drop (99 + s.length) := by
  have hl : (lay u.b 0 s).length = 64 := by rw [lay_len (by rw [u.hb]; omega)]; exact u.hb
  rw [layO_eq (by omega) hl]
  have e : u.cells = ([.int .i64 u.k, .int .i64 u.c, .int .i64 u.l] ++ kcs u.s) ++ bv u.b := by simp [Oj.cells]
  have e2 : (bAs u (lay u.b 0 s) hl).cells = ([.int .i64 u.k, .int .i64 u.c, .int .i64 u.l] ++ kcs u.s) ++ bv (lay u.b 0 s) := by simp [Oj.cells, bAs]
  rw [e, e2]
  obtain ⟨H, hH⟩ : ∃ H, H = [Value.int .i64 u.k, .int .i64 u.c, .int .i64 u.l] ++ kcs u.s := ⟨_, rfl⟩
  have hHl : H.length = 99 := by rw [hH, List.length_append, kcs_length, u.hs]; rfl
  rw [← hH, ← hHl, List.drop_length_add_append, List.take_left]
  simp [lay, bv]
set_option maxRecDepth 8000 in
theorem ocs_at (L : List Oj) (j : Nat) (hj : j < L.length) : ((ocs L).drop (j * 163)).take 163 = (L[j]).cells := by
  apply List.ext_getElem?
  intro k
  rw [List.getElem?_take]
  split
  · next hk => rw [List.getElem?_drop]; exact ocs_get L j hj k hk
  · next hk => rw [List.getElem?_eq_none (by rw [Oj.len]; omega)]
set_option maxRecDepth 8000 in
theorem ocs_lay (L : List Oj) (j : Nat) (hj : j < L.length) (s : List UInt8) (h : s.length ≤ 64) : (ocs L).take (j * 163 + 99) ++ bv s ++ (ocs L).drop (j * 163 + 99 + s.length) = ocs (L.set j (layO L[j] 0 s)) := by
  have e := ocs_set L j hj (layO L[j] 0 s)
  rw [layO_cells _ _ h, ← ocs_at L j hj] at e
  rw [← e, ← take_cut (ocs L) (j * 163) 99 163 (by decide), Nat.add_assoc (j * 163) 99, ← drop_cut (ocs L) (j * 163) (99 + s.length) 163 (by omega)]
  simp only [List.append_assoc]
section
variable {w : World} {g : Nat} {t : TypeId}
set_option maxRecDepth 8000 in
theorem run_copy_ocs (ty : TypeId) (L : List Oj) (j : Nat) (hj : j < L.length) (s : List UInt8) (h : s.length ≤ 64) (hg : Blk w g t (ocs L).toArray) :
    (Builtin.copy_ #[50, 9] ty #[.slice (some ⟨g, j * 163 + 99, none⟩) 64 64, .string (st s)]).run Tryd.prog w = .ok (.int .i64 (s.length : Int)) (w.setRow g (ocs (L.set j (layO L[j] 0 s))).toArray) := by
  have hmin : Nat.min s.length 64 = s.length := Nat.min_eq_left h
  have hlen := ocs_length L
  have hst : (storeCells ⟨g, j * 163 + 99, none⟩ (bv s)).run Tryd.prog w = .ok () (w.setRow g (ocs (L.set j (layO L[j] 0 s))).toArray) := by
    rw [← ocs_lay L j hj s h]
    have := run_storeCells_at Tryd.prog g (j * 163 + 99) t (bv s) 0 (ocs L).toArray w hg (by rw [bv_length, List.size_toArray, hlen]; omega) (bv_one s)
    simpa [bv_length] using this
  obtain ⟨i, hi⟩ : ∃ i, Tryd.prog.info? 5 = some i := by
    have := size5
    cases hq : Tryd.prog.info? 5 with
    | none => simp [hq] at this
    | some i => exact ⟨i, rfl⟩
  have hcells : List.take s.length (List.map (fun b => Value.int .u8 (b.toNat : Int)) (st s).data.toList) = bv s := by
    rw [List.take_of_length_le (by simp [st])]
    simp [st, bv]
  have hmin2 : min (st s).size 64 = s.length := by rw [st_size]; exact hmin
  simp [Builtin.copy_, Builtin.lenOf, Builtin.firstCells, sizeOf, typeInfo, hi, run_underlying Tryd.underlying50, hmin2, hcells, hst, goInt]
set_option maxRecDepth 8000 in
theorem wpList_copy_ocs {ops : Array Oper} {rest : List Oper} {o : Oper} {a : Act} {Q : Exit → Act → World → Prop} (hgd : o.guard = none) (d x : Operand)
    (ho : o.op = .call { callee := .builtin .copy, args := #[d, x], argTypes := #[50, 9] }) (L : List Oj) (j : Nat) (hj : j < L.length) (s : List UInt8) (h : s.length ≤ 64) (off : Nat) (hoff : off = j * 163 + 99)
    (hd : a.eval d = .slice (some ⟨g, off, none⟩) 64 64) (hs : a.eval x = .string (st s)) (hg : Blk w g t (ocs L).toArray) (L' : List Oj) (hL : L.set j (layO L[j] 0 s) = L')
    (hK : wpList Tryd.prog ops Q rest (a.put o.dst (.int .i64 (s.length : Int))) (w.setRow g (ocs L').toArray)) : wpList Tryd.prog ops Q (o :: rest) a w := by
  subst hoff hL
  refine wpList_plain hgd fun K hK' => ?_
  have hrun := run_copy_ocs o.type L j hj s h hg
  unfold Oper.wp
  simp [execOp, ho, resolve, invoke, builtin, hd, hs, hrun, Result.andThen]
  exact hK' _ _ hK
set_option maxRecDepth 8000 in
theorem run_buildSlice3 (w : World) (u1 u2 u3 : Oj) :
    (Instr.buildSlice 22 3 #[(0, u1.val), (1, u2.val), (2, u3.val)]).run Tryd.prog w = .ok (.slice (some ⟨w.heap.size, 0, none⟩) 3 3) (w.alloc (.cells (ocs [u1, u2, u3]).toArray 49)) := by
  have hz := z34 w
  have hs := run_sizeOf (P := Tryd.prog) size34 w
  have hol := oz_len
  have c1 : ∀ cs : Array Value, cs.size = 489 → Instr.fill (fun i => some (i * 163, 163)) cs [(0, u1.val), (1, u2.val), (2, u3.val)] = some (ocs [u1, u2, u3]).toArray := by
    intro cs hcs
    obtain ⟨zs⟩ := cs
    have hz : zs.length = 489 := by simpa using hcs
    have e1 : u1.val.cells.size = 163 := by show u1.cells.toArray.size = 163; rw [List.size_toArray, u1.len]
    have e2 : u2.val.cells.size = 163 := by show u2.cells.toArray.size = 163; rw [List.size_toArray, u2.len]
    have e3 : u3.val.cells.size = 163 := by show u3.cells.toArray.size = 163; rw [List.size_toArray, u3.len]
    rw [fill_one _ _ 0 u1.val _ 0 (by rw [e1]) (by rw [e1]; simp; omega)]
    rw [fill_one _ _ 1 u2.val _ 163 (by rw [e2]) (by rw [e2]; simp [e1]; omega)]
    rw [fill_one _ _ 2 u3.val _ 326 (by rw [e3]) (by rw [e3]; simp [e1, e2]; omega)]
    have c1 : u1.val.cells = u1.cells.toArray := rfl
    have c2 : u2.val.cells = u2.cells.toArray := rfl
    have c3 : u3.val.cells = u3.cells.toArray := rfl
    have l1 := u1.len
    have l2 := u2.len
    have l3 := u3.len
    simp only [Instr.fill, ocs, c1, c2, c3, List.size_toArray]
    generalize u1.cells = a at l1 ⊢
    generalize u2.cells = b at l2 ⊢
    generalize u3.cells = c at l3 ⊢
    congr 2
    simp only [l1, l2, l3, List.take_zero, List.nil_append]
    have t1 : (a ++ zs.drop (0 + 163)).take 163 = a := by rw [← l1, List.take_left]
    have d1 : (a ++ zs.drop (0 + 163)).drop (163 + 163) = zs.drop 326 := by
      rw [List.drop_append, List.drop_eq_nil_of_le (by omega), l1, List.nil_append, List.drop_drop]
    rw [t1, d1]
    have t2 : (a ++ b ++ zs.drop 326).take 326 = a ++ b := by rw [show 326 = (a ++ b).length by simp [l1, l2], List.take_left]
    have d2 : (a ++ b ++ zs.drop 326).drop (326 + 163) = [] := by
      rw [List.drop_eq_nil_of_le]
      simp [l1, l2, hz]
    rw [t2, d2]
    simp
  have h2 := c1 ((Array.range (3 * 163)).map (oz.val.cells[· % oz.val.cells.size]!)) (by simp)
  simp only [Instr.buildSlice, Sem.run_bind, run_underlying Tryd.underlying22, Result.andThen_ok, hs]
  rw [if_neg (by decide), if_neg (by decide)]
  simp only [Sem.run_bind, hz, Result.andThen_ok, Sem.run_pure, h2]
  simp [newRow, Result.andThen]
set_option maxRecDepth 8000 in
theorem wpList_buildSlice3 {ops : Array Oper} {rest : List Oper} {o : Oper} {a : Act} {Q : Exit → Act → World → Prop} (hgd : o.guard = none) (x y z : Operand) (ho : o.op = .buildSlice 22 3 #[(0, x), (1, y), (2, z)]) (u1 u2 u3 : Oj) (hx : a.eval x = u1.val) (hy : a.eval y = u2.val) (hz : a.eval z = u3.val)
    (h : wpList Tryd.prog ops Q rest (a.put o.dst (.slice (some ⟨w.heap.size, 0, none⟩) 3 3)) (w.alloc (.cells (ocs [u1, u2, u3]).toArray 49))) : wpList Tryd.prog ops Q (o :: rest) a w := by
  refine wpList_plain hgd fun K hK => ?_
  unfold Oper.wp
  simp [execOp, ho, hx, hy, hz, run_buildSlice3 w u1 u2 u3, Result.andThen]
  exact hK _ _ h
end
end Go.Proofs.YtedlacdijkggjaaDoor

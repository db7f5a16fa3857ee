/- objects: storing into the midst of a block that is known whole: words. -/
import Derived.Test.YtlhlgfehbfankaaDoorOOf
import Derived.Laws.CopyRow
namespace Go.Proofs.YtlhlgfehbfankaaDoor
open Go.RowKit
section
variable {P : Program} {w : World} {b off : Nat} {t : TypeId} {l ys : List Value}
theorem run_storeVar_part (ty : TypeId) (hb : Blk w b t l.toArray) (hfit : off + ys.length ≤ l.length) (hi : (P.info? ty).map (·.size) = some ys.length) (h1 : ∀ u ∈ ys, u.oneCell' = true) :
    (storeVar ty ⟨b, off, none⟩ (.agg ys.toArray)).run P w = .ok () (w.setRow b (l.take off ++ ys ++ l.drop (off + ys.length)).toArray) := by
  have := run_storeCells_at P b off t ys 0 l.toArray w hb (by simpa using hfit) h1
  cases hq : P.info? ty with
  | none => simp [hq] at hi
  | some i =>
    have hs : ys.length = i.size := by simp [hq] at hi; omega
    simp only [Nat.add_zero] at this
    simp [storeVar, sizeOf, typeInfo, hq, Value.cells, hs, this]
theorem wp_store_part {o : Oper} {a : Act} {K : Act → World → Prop} {Q : Exit → Act → World → Prop} (ty : TypeId) (x y : Operand) (ho : o.op = .store ty x y) (hb : Blk w b t l.toArray) (hx : a.eval x = .pointer (some ⟨b, off, none⟩)) (hy : a.eval y = .agg ys.toArray)
    (hfit : off + ys.length ≤ l.length) (hi : (P.info? ty).map (·.size) = some ys.length) (h1 : ∀ u ∈ ys, u.oneCell' = true) (h : K (a.put o.dst undef) (w.setRow b (l.take off ++ ys ++ l.drop (off + ys.length)).toArray)) : o.wp P a w K Q := by
  unfold Oper.wp execOp
  simp only [ho, hx, hy, Instr.storeAt, Instr.sureAddr, Sem.run_bind, Sem.run_pure, Result.andThen_ok, run_storeVar_part ty hb hfit hi h1]
  exact h
end
theorem kl_one (y : Ky) : ∀ u ∈ kl y, u.oneCell' = true := by
  intro u h
  simp only [kl, List.mem_cons, List.not_mem_nil, or_false] at h
  rcases h with rfl | rfl | rfl | rfl | rfl | rfl <;> rfl
theorem kcs_set : ∀ (l : List Ky) (i : Nat) (_ : i < l.length) (y : Ky), (kcs l).take (i * 6) ++ kl y ++ (kcs l).drop (i * 6 + 6) = kcs (l.set i y)
  | x :: l, 0, _, y => by simp [kcs, kl]
  | x :: l, i + 1, h, y => by
    have := kcs_set l i (by simpa using h) y
    have e : (i + 1) * 6 = (kl x).length + i * 6 := by simp [kl]; omega
    rw [e, kcs, List.set_cons_succ, kcs, ← this, List.take_length_add_append, show (kl x).length + i * 6 + 6 = (kl x).length + (i * 6 + 6) by omega, List.drop_length_add_append]
    simp only [List.append_assoc]
/-- with another slot -/
def slotAs (o : Oj) (i : Nat) (y : Ky) : Oj := { o with s := o.s.set i y, hs := by rw [List.length_set]; exact o.hs }
/-- with another byte -/
def byteAs (o : Oj) (i : Nat) (y : UInt8) : Oj := { o with b := o.b.set i y, hb := by rw [List.length_set]; exact o.hb }
def kindAs (o : Oj) (q : Int) : Oj := { o with k := q }
def countAs (o : Oj) (q : Int) : Oj := { o with c := q }
def callsAs (o : Oj) (q : Int) : Oj := { o with l := q }
theorem kind_set (o : Oj) (q : Int) : o.cells.set 0 (.int .i64 q) = (kindAs o q).cells := rfl
theorem count_set (o : Oj) (q : Int) : o.cells.set 1 (.int .i64 q) = (countAs o q).cells := rfl
theorem calls_set (o : Oj) (q : Int) : o.cells.set 2 (.int .i64 q) = (callsAs o q).cells := rfl
theorem byte_set (o : Oj) (i : Nat) (y : UInt8) : o.cells.set (99 + i) (.int .u8 (y.toNat : Int)) = (byteAs o i y).cells := by
  have hl : (kcs o.s).length = 96 := by rw [kcs_length, o.hs]
  unfold Oj.cells byteAs
  rw [show 99 + i = i + 96 + 1 + 1 + 1 by omega]
  simp only [List.set_cons_succ]
  rw [List.set_append_right _ _ (by omega), hl, Nat.add_sub_cancel]
  simp [bv, List.map_set]
theorem byte_set1 (o : Oj) (i : Nat) : o.cells.set (99 + i) (.int .u8 1) = (byteAs o i 1).cells := byte_set o i 1
theorem slot_set (o : Oj) (i : Nat) (hi : i < 16) (y : Ky) : (o.cells.take (3 + i * 6) ++ kl y ++ o.cells.drop (3 + i * 6 + (kl y).length)) = (slotAs o i y).cells := by
  have hl : (kcs o.s).length = 96 := by rw [kcs_length, o.hs]
  have := kcs_set o.s i (by rw [o.hs]; exact hi) y
  have h6 : (kl y).length = 6 := rfl
  unfold Oj.cells slotAs
  rw [h6, show 3 + i * 6 + 6 = (i * 6 + 6) + 3 by omega, show 3 + i * 6 = i * 6 + 3 by omega]
  simp only [List.take_succ_cons, List.drop_succ_cons, List.cons_append, List.cons.injEq, true_and]
  rw [List.take_append_of_le_length (by omega), List.drop_append_of_le_length (by omega), ← this]
  simp only [List.append_assoc]
theorem wpList_store_slot {ops : Array Oper} {rest : List Oper} {op : Oper} {a : Act} {Q : Exit → Act → World → Prop} {W : World} {t : TypeId} (o : Oj) (i : Nat) (y : Ky) (hgd : op.guard = none) (p q : Operand) (ho : op.op = .store 30 p q) (b off : Nat) (hb : b = W.heap.size) (hoff : off = 3 + i * 6) (hi : i < 16) (hx : a.eval p = .pointer (some ⟨b, off, none⟩)) (hy : a.eval q = y.val)
    (h : wpList Tryd.prog ops Q rest (a.put op.dst undef) (W.alloc (.cells (slotAs o i y).cells.toArray t))) : wpList Tryd.prog ops Q (op :: rest) a (W.alloc (.cells o.cells.toArray t)) := by
  subst hb hoff
  refine wpList_plain hgd fun K hK => ?_
  refine wp_store_part 30 p q ho (Blk.new W t o.cells.toArray) hx (hy.trans (kl_val y)) (by have := o.len; have h6 : (kl y).length = 6 := rfl; omega) size30 (kl_one y) ?_
  rw [slot_set o i hi y, World.setRow_alloc_new]
  exact hK _ _ h
end Go.Proofs.YtlhlgfehbfankaaDoor

/- law 11: a key stored into a slot of one of several objects in a row. -/
import Derived.Test.YtjolojomgfcfbaaDoorWTr
import Derived.Test.YtjolojomgfcfbaaDoorR14
namespace Go.Proofs.YtjolojomgfcfbaaDoor
open Go.RowKit
set_option maxRecDepth 8000 in
theorem ocs_slot : ∀ (l : List Oj) (i : Nat) (hi : i < l.length) (j : Nat) (_ : j < 16) (y : Ky), (ocs l).take (i * 163 + (3 + j * 6)) ++ kl y ++ (ocs l).drop (i * 163 + (3 + j * 6) + 6) = ocs (l.set i (slotAs l[i] j y))
  | x :: l, 0, _, j, hj, y => by
    have hx := x.len
    have h := slot_set x j hj y
    have h6 : (kl y).length = 6 := rfl
    rw [h6] at h
    rw [List.set_cons_zero, ocs, ocs, Nat.zero_mul, Nat.zero_add, List.take_append_of_le_length (by omega), List.drop_append_of_le_length (by omega), List.getElem_cons_zero, ← h]
    simp only [List.append_assoc]
  | x :: l, i + 1, h, j, hj, y => by
    have := ocs_slot l i (by simpa using h) j hj y
    have e : (i + 1) * 163 + (3 + j * 6) = x.cells.length + (i * 163 + (3 + j * 6)) := by rw [x.len]; omega
    rw [e, ocs, List.set_cons_succ, ocs, List.getElem_cons_succ, ← this, List.take_length_add_append, show x.cells.length + (i * 163 + (3 + j * 6)) + 6 = x.cells.length + (i * 163 + (3 + j * 6) + 6) by omega, List.drop_length_add_append]
    simp only [List.append_assoc]
section
variable {ops : Array Oper} {op : Oper} {a : Act} {Q : Exit → Act → World → Prop} {W : World} {t : TypeId} {b : Nat} {l : List Oj}
set_option maxRecDepth 8000 in
theorem wp_store_slotrow {K : Act → World → Prop} (hb : Blk W b t (ocs l).toArray) (i : Nat) (hi : i < l.length) (j : Nat) (hj : j < 16) (y : Ky) (p q : Operand) (ho : op.op = .store 29 p q) (off : Nat) (hoff : off = i * 163 + (3 + j * 6)) (hx : a.eval p = .pointer (some ⟨b, off, none⟩)) (hy : a.eval q = y.val)
    (h : K (a.put op.dst undef) (W.setRow b (ocs (l.set i (slotAs l[i] j y))).toArray)) : op.wp Tryd.prog a W K Q := by
  subst hoff
  have h6 : (kl y).length = 6 := rfl
  have hl : (i + 1) * 163 ≤ l.length * 163 := Nat.mul_le_mul_right _ hi
  refine wp_store_part 29 p q ho hb hx (hy.trans (kl_val y)) (by rw [ocs_length, h6]; omega) size30 (kl_one y) ?_
  rw [h6, ocs_slot l i hi j hj y]
  exact h
theorem wpList_store_slotrow {rest : List Oper} (hgd : op.guard = none) (hb : Blk W b t (ocs l).toArray) (i : Nat) (hi : i < l.length) (j : Nat) (hj : j < 16) (y : Ky) (p q : Operand) (ho : op.op = .store 29 p q) (off : Nat) (hoff : off = i * 163 + (3 + j * 6)) (hx : a.eval p = .pointer (some ⟨b, off, none⟩)) (hy : a.eval q = y.val)
    (h : wpList Tryd.prog ops Q rest (a.put op.dst undef) (W.setRow b (ocs (l.set i (slotAs l[i] j y))).toArray)) : wpList Tryd.prog ops Q (op :: rest) a W :=
  wpList_plain hgd fun _ hK => wp_store_slotrow hb i hi j hj y p q ho off hoff hx hy (hK _ _ h)
set_option maxRecDepth 8000 in
theorem step_store_slotrow {K : Act → World → Prop} {E : Prop} (hgd : op.guard = none) (hb : Blk W b t (ocs l).toArray) (i : Nat) (hi : i < l.length) (j : Nat) (hj : j < 16) (y : Ky) (p q : Operand) (ho : op.op = .store 29 p q) (off : Nat) (hoff : off = i * 163 + (3 + j * 6)) (hx : a.eval p = .pointer (some ⟨b, off, none⟩)) (hy : a.eval q = y.val)
    (h : K (a.put op.dst undef) (W.setRow b (ocs (l.set i (slotAs l[i] j y))).toArray)) : if Region.wanted op (yielded ops a.tmps) = true then Oper.wp Tryd.prog op a W K Q else E := by
  rw [if_pos (by simp [Region.wanted, hgd])]
  exact wp_store_slotrow hb i hi j hj y p q ho off hoff hx hy h
end
set_option maxRecDepth 8000 in
theorem builtV (v : Int) : Tryd.prog.built 29 [(0, .int .i64 1), (5, .int .i64 v)] = some (kl ⟨1, 0, 0, 0, 0, v⟩).toArray := by kernel_rfl
set_option maxRecDepth 8000 in
theorem builtT4 (i : Int) : Tryd.prog.built 29 [(0, .int .i64 2), (1, .int .i64 1), (2, .int .i64 1), (4, .int .i64 i)] = some (kl ⟨2, 1, 1, 0, i, 0⟩).toArray := by kernel_rfl
set_option maxRecDepth 8000 in
theorem builtTP : Tryd.prog.built 29 [(0, .int .i64 3), (1, .int .i64 2), (2, .int .i64 1)] = some (kl (tP 0)).toArray := by kernel_rfl
set_option maxRecDepth 8000 in
theorem builtT3 (r : Int) : Tryd.prog.built 29 [(0, .int .i64 2), (2, .int .i64 1), (4, .int .i64 r)] = some (kl ⟨2, 0, 1, 0, r, 0⟩).toArray := by kernel_rfl
/-- the law's own blocks: its spot, its row of objects -/
structure Tt (s : Nat) (w W : World) (cx : Array Value) (l : List Oj) : Prop where
  be : Below s w W
  bx : Blk W s 24 cx
  bg : Blk W (s + 1) 33 (ocs l).toArray
theorem Tt.drew {s : Nat} {w W : World} {cx : Array Value} {l : List Oj} (h : Tt s w W cx l) : Tt s w W.drew cx l := ⟨h.be.drew, h.bx, h.bg⟩
theorem Tt.put {s : Nat} {w W : World} {cx : Array Value} {l : List Oj} (h : Tt s w W cx l) (l' : List Oj) : Tt s w (W.setRow (s + 1) (ocs l').toArray) cx l' := ⟨below_setRow h.be (by omega) _, (setRow_other W (s + 1) s _ (by omega)).trans h.bx, h.bg.setRow _⟩
section
variable {ops : Array Oper} {op : Oper} {a : Act} {Q : Exit → Act → World → Prop} {s : Nat} {w W : World} {cx : Array Value} {l : List Oj}
theorem wpList_store_tree {rest : List Oper} (hgd : op.guard = none) (hT : Tt s w W cx l) (i : Nat) (hi : i < l.length) (j : Nat) (hj : j < 16) (y : Ky) (p q : Operand) (ho : op.op = .store 29 p q) (off : Nat) (hoff : off = i * 163 + (3 + j * 6)) (hx : a.eval p = .pointer (some ⟨s + 1, off, none⟩)) (hy : a.eval q = y.val)
    (h : ∀ W', Tt s w W' cx (l.set i (slotAs l[i] j y)) → wpList Tryd.prog ops Q rest (a.put op.dst undef) W') : wpList Tryd.prog ops Q (op :: rest) a W :=
  wpList_store_slotrow hgd hT.bg i hi j hj y p q ho off hoff hx hy (h _ (hT.put _))
theorem step_store_tree {K : Act → World → Prop} {E : Prop} (hgd : op.guard = none) (hT : Tt s w W cx l) (i : Nat) (hi : i < l.length) (j : Nat) (hj : j < 16) (y : Ky) (p q : Operand) (ho : op.op = .store 29 p q) (off : Nat) (hoff : off = i * 163 + (3 + j * 6)) (hx : a.eval p = .pointer (some ⟨s + 1, off, none⟩)) (hy : a.eval q = y.val)
    (h : ∀ W', Tt s w W' cx (l.set i (slotAs l[i] j y)) → K (a.put op.dst undef) W') : if Region.wanted op (yielded ops a.tmps) = true then Oper.wp Tryd.prog op a W K Q else E :=
  step_store_slotrow hgd hT.bg i hi j hj y p q ho off hoff hx hy (h _ (hT.put _))
end
end Go.Proofs.YtjolojomgfcfbaaDoor

/- banks: a bank that is asked, as it lies: words. -/
import Derived.Test.YtaoailohihoclaaDoorR12
import Derived.Test.YtaoailohihoclaaDoorBIt
namespace Go.Proofs.YtaoailohihoclaaDoor
open Go.RowKit
/-- a bank that is asked: its node, where that lies, its store -/
def bkc (p : Nat) (o : Int) (u : Oj) : List Value := u.cells ++ [.int .i64 o, pv p]
abbrev bkv (p : Nat) (o : Int) (u : Oj) : Value := .agg (bkc p o u).toArray
def zbkc : List Value := oz.cells ++ [.int .i64 0, .pointer none]
set_option maxRecDepth 8000 in
theorem bkc_len (p : Nat) (o : Int) (u : Oj) : (bkc p o u).length = 165 := by simp [bkc, u.len]
set_option maxRecDepth 8000 in
theorem zbkc_len : zbkc.length = 165 := by simp [zbkc, oz.len]
set_option maxRecDepth 8000 in
theorem bkc_one (p : Nat) (o : Int) (u : Oj) : ∀ v ∈ bkc p o u, v.oneCell' = true := by
  intro v h
  simp only [bkc, List.mem_cons, List.mem_append, List.not_mem_nil, or_false] at h
  rcases h with h | rfl | rfl
  · exact u.one v h
  · rfl
  · rfl
section
variable {w w' : World} {g off p : Nat} {x : Int} {o : Oj}
/-- it lies in a block from off on -/
def BkAt (w : World) (g off p : Nat) (x : Int) (o : Oj) : Prop := w.rangeAt g off (bkc p x o)
theorem BkAt.keep (h : BkAt w g off p x o) (hk : w'.heap[g]? = w.heap[g]?) : BkAt w' g off p x o := fun j v hv => (World.cell?_of_block (a := ⟨g, off + j, none⟩) hk).trans (h j v hv)
set_option maxRecDepth 8000 in
theorem BkAt.node (h : BkAt w g off p x o) : ObAt w g off o := by
  have := range_mid (a := []) (m := o.cells) (b := [.int .i64 x, pv p]) (w := w) (g := g) (off := off) (by rw [List.nil_append]; exact h)
  have h2 : w.rangeAt g off o.cells := by simpa using this
  exact h2
theorem BkAt.oid (h : BkAt w g off p x o) : w.cell? ⟨g, off + 163, none⟩ = some (.int .i64 x) := h 163 _ (by
  unfold bkc
  rw [List.getElem?_append_right (by rw [o.len]; omega), o.len]
  rfl)
theorem BkAt.st (h : BkAt w g off p x o) : w.cell? ⟨g, off + 164, none⟩ = some (pv p) := h 164 _ (by
  unfold bkc
  rw [List.getElem?_append_right (by rw [o.len]; omega), o.len]
  rfl)
theorem Blk.bk {t : TypeId} (h : Blk w g t (bkc p x o).toArray) : BkAt w g 0 p x o := h.range
set_option maxRecDepth 8000 in
/-- the first two slots of what lies there -/
theorem BkAt.s0 (h : BkAt w g 0 p x o) : KeyAt w g 3 ((o.s[0]?).getD zk) := by
  obtain ⟨y, hy, hk⟩ := h.node.slot (i := 0) (by omega)
  rw [hy]
  exact hk
set_option maxRecDepth 8000 in
theorem BkAt.s1 (h : BkAt w g 0 p x o) : KeyAt w g 9 ((o.s[1]?).getD zk) := by
  obtain ⟨y, hy, hk⟩ := h.node.slot (i := 1) (by omega)
  rw [hy]
  exact hk
end
set_option maxRecDepth 8000 in
theorem fillB (p : Nat) (x : Int) (o : Oj) (zs : List Value) (hz : zs.length = 165) : Instr.fill (([(0, 163), (163, 1), (164, 1)] : List (Nat × Nat)).toArray[·]?) zs.toArray [(0, o.val), (1, .int .i64 x), (2, pv p)] = some (bkc p x o).toArray := by
  have e163 : o.val.cells.size = 163 := by show o.cells.toArray.size = 163; rw [List.size_toArray, o.len]
  rw [fill_one _ _ 0 o.val _ 0 (by rw [e163]; rfl) (by rw [e163]; simp; omega)]
  have c2 : o.val.cells.toList = o.cells := rfl
  rw [e163, c2]
  obtain ⟨a, b, r, e⟩ : ∃ a b, ∃ r : List Value, zs.drop (0 + 163) = [a, b] := by
    have h : (zs.drop (0 + 163)).length = 2 := by rw [List.length_drop, hz]
    match hq : zs.drop (0 + 163), h with
    | [a, b], _ => exact ⟨a, b, [], rfl⟩
  rw [List.take_zero, List.nil_append, e]
  rw [fill_one _ _ 1 (.int .i64 x) _ 163 rfl (by simp [Value.cells, o.len])]
  have d1 : ((o.cells ++ [a, b]).toArray.toList.take 163 ++ (Value.int .i64 x).cells.toList ++ (o.cells ++ [a, b]).toArray.toList.drop (163 + (Value.int .i64 x).cells.size)) = o.cells ++ [.int .i64 x, b] := by
    have e1 : (Value.int .i64 x).cells = #[.int .i64 x] := rfl
    rw [e1]
    show (o.cells ++ [a, b]).take 163 ++ [.int .i64 x] ++ (o.cells ++ [a, b]).drop (163 + 1) = _
    rw [show (o.cells ++ [a, b]).take 163 = o.cells by rw [List.take_append_of_le_length (by rw [o.len]; omega), List.take_of_length_le (by rw [o.len]; omega)]]
    rw [show (o.cells ++ [a, b]).drop (163 + 1) = [b] by rw [List.drop_append, List.drop_of_length_le (by rw [o.len]; omega), o.len]; rfl]
    simp
  rw [d1]
  rw [fill_one _ _ 2 (pv p) _ 164 rfl (by simp [Value.cells, o.len])]
  have d2 : ((o.cells ++ [.int .i64 x, b]).toArray.toList.take 164 ++ (pv p).cells.toList ++ (o.cells ++ [.int .i64 x, b]).toArray.toList.drop (164 + (pv p).cells.size)) = bkc p x o := by
    have e1 : (pv p).cells = #[pv p] := rfl
    rw [e1]
    show (o.cells ++ [.int .i64 x, b]).take 164 ++ [pv p] ++ (o.cells ++ [.int .i64 x, b]).drop (164 + 1) = _
    rw [show (o.cells ++ [Value.int .i64 x, b]).take 164 = o.cells ++ [.int .i64 x] by rw [List.take_append, List.take_of_length_le (by rw [o.len]; omega), o.len]; rfl]
    rw [List.drop_of_length_le (by simp [o.len])]
    simp [bkc]
  rw [d2]
  rfl
section
variable {ops : Array Oper} {o : Oper} {a : Act} {S : World → Prop}
-- composite literals, by what is built
theorem y_bl1 {t : TypeId} {i : Nat} {x : Value} {cs : Array Value} (hw : Region.wanted o (yielded ops a.tmps) = true) (q : Operand) (ho : o.op = .build t #[(i, q)]) (hq : a.eval q = x) (hb : Tryd.prog.built t [(i, x)] = some cs) : YieldsIf Tryd.prog ops S o (.agg cs) a := .inl ⟨hw, fun w _ => by
  have := run_build w t #[(i, x)] _ hb
  unfold execOp
  simp only [ho, Sem.run_bind, List.map_toArray, List.map_cons, List.map_nil, hq, this, Result.andThen_ok, Sem.run_pure]⟩
theorem y_bl2 {t : TypeId} {i j : Nat} {x y : Value} {cs : Array Value} (hw : Region.wanted o (yielded ops a.tmps) = true) (q r : Operand) (ho : o.op = .build t #[(i, q), (j, r)]) (hq : a.eval q = x) (hr : a.eval r = y) (hb : Tryd.prog.built t [(i, x), (j, y)] = some cs) : YieldsIf Tryd.prog ops S o (.agg cs) a := .inl ⟨hw, fun w _ => by
  have := run_build w t #[(i, x), (j, y)] _ hb
  unfold execOp
  simp only [ho, Sem.run_bind, List.map_toArray, List.map_cons, List.map_nil, hq, hr, this, Result.andThen_ok, Sem.run_pure]⟩
theorem y_bl3 {t : TypeId} {i j k : Nat} {x y z : Value} {cs : Array Value} (hw : Region.wanted o (yielded ops a.tmps) = true) (q r s : Operand) (ho : o.op = .build t #[(i, q), (j, r), (k, s)]) (hq : a.eval q = x) (hr : a.eval r = y) (hs : a.eval s = z) (hb : Tryd.prog.built t [(i, x), (j, y), (k, z)] = some cs) : YieldsIf Tryd.prog ops S o (.agg cs) a := .inl ⟨hw, fun w _ => by
  have := run_build w t #[(i, x), (j, y), (k, z)] _ hb
  unfold execOp
  simp only [ho, Sem.run_bind, List.map_toArray, List.map_cons, List.map_nil, hq, hr, hs, this, Result.andThen_ok, Sem.run_pure]⟩
end
/-- an object with nothing in it -/
def oKC (k c : Int) : Oj := { oz with k := k, c := c }
set_option maxRecDepth 8000 in
theorem builtO (k c : Int) : Tryd.prog.built 56 [(0, .int .i64 k), (1, .int .i64 c)] = some (oKC k c).cells.toArray := by kernel_rfl
set_option maxRecDepth 8000 in
theorem builtK1 (k : Int) : Tryd.prog.built 33 [(0, .int .i64 k)] = some (kl ⟨k, 0, 0, 0, 0, 0⟩).toArray := by kernel_rfl
set_option maxRecDepth 8000 in
theorem builtK2 (k c : Int) : Tryd.prog.built 33 [(0, .int .i64 k), (2, .int .i64 c)] = some (kl ⟨k, 0, c, 0, 0, 0⟩).toArray := by kernel_rfl
set_option maxRecDepth 8000 in
theorem builtK3 (k o c : Int) : Tryd.prog.built 33 [(0, .int .i64 k), (1, .int .i64 o), (2, .int .i64 c)] = some (kl ⟨k, o, c, 0, 0, 0⟩).toArray := by kernel_rfl
set_option maxRecDepth 8000 in
theorem builtN (k v : Int) : Tryd.prog.built 33 [(0, .int .i64 k), (5, .int .i64 v)] = some (kl ⟨k, 0, 0, 0, 0, v⟩).toArray := by kernel_rfl
section
variable {w : World} {g : Nat} {t : TypeId}
end
end Go.Proofs.YtaoailohihoclaaDoor

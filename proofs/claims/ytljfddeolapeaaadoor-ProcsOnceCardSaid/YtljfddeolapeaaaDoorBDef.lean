/- banks: a bank that is asked, as it lies: words. -/
import Derived.Test.YtljfddeolapeaaaDoorR12
import Derived.Test.YtljfddeolapeaaaDoorBIt
namespace Go.Proofs.YtljfddeolapeaaaDoor
open Go.RowKit
/-- a bank that is asked: its node, where that lies, its store -/
def bkc (p : Nat) (o : Int) (u : Oj) : List Value := u.cells ++ [.int .i64 o, pv p]
section
variable {w w' : World} {g off p : Nat} {x : Int} {o : Oj}
/-- it lies in a block from off on -/
def BkAt (w : World) (g off p : Nat) (x : Int) (o : Oj) : Prop := w.rangeAt g off (bkc p x o)
theorem BkAt.keep (h : BkAt w g off p x o) (hk : w'.heap[g]? = w.heap[g]?) : BkAt w' g off p x o := fun j v hv => (World.cell?_of_block (a := ⟨g, off + j, none⟩) hk).trans (h j v hv)
set_option maxRecDepth 8000 in
theorem BkAt.node (h : BkAt w g off p x o) : ObAt w g off o := by
  have := range_mid (a := []) (m := o.cells) (b := [.int .i64 x, pv p]) (w := w) (g := g) (off := off) (by rw [List.nil_append]; exact h)
  have h2 : w.rangeAt g off o.cells := by simpa using this
  exact h2
theorem BkAt.oid (h : BkAt w g off p x o) : w.cell? ⟨g, off + 163, none⟩ = some (.int .i64 x) := h 163 _ (by
  unfold bkc
  rw [List.getElem?_append_right (by rw [o.len]; omega), o.len]
  rfl)
end
section
variable {ops : Array Oper} {o : Oper} {a : Act} {S : World → Prop}
-- composite literals, by what is built
theorem y_bl1 {t : TypeId} {i : Nat} {x : Value} {cs : Array Value} (hw : Region.wanted o (yielded ops a.tmps) = true) (q : Operand) (ho : o.op = .build t #[(i, q)]) (hq : a.eval q = x) (hb : Tryd.prog.built t [(i, x)] = some cs) : YieldsIf Tryd.prog ops S o (.agg cs) a := .inl ⟨hw, fun w _ => by
  have := run_build w t #[(i, x)] _ hb
  unfold execOp
  simp only [ho, Sem.run_bind, List.map_toArray, List.map_cons, List.map_nil, hq, this, Result.andThen_ok, Sem.run_pure]⟩
theorem y_bl2 {t : TypeId} {i j : Nat} {x y : Value} {cs : Array Value} (hw : Region.wanted o (yielded ops a.tmps) = true) (q r : Operand) (ho : o.op = .build t #[(i, q), (j, r)]) (hq : a.eval q = x) (hr : a.eval r = y) (hb : Tryd.prog.built t [(i, x), (j, y)] = some cs) : YieldsIf Tryd.prog ops S o (.agg cs) a := .inl ⟨hw, fun w _ => by
  have := run_build w t #[(i, x), (j, y)] _ hb
  unfold execOp
  simp only [ho, Sem.run_bind, List.map_toArray, List.map_cons, List.map_nil, hq, hr, this, Result.andThen_ok, Sem.run_pure]⟩
theorem y_bl3 {t : TypeId} {i j k : Nat} {x y z : Value} {cs : Array Value} (hw : Region.wanted o (yielded ops a.tmps) = true) (q r s : Operand) (ho : o.op = .build t #[(i, q), (j, r), (k, s)]) (hq : a.eval q = x) (hr : a.eval r = y) (hs : a.eval s = z) (hb : Tryd.prog.built t [(i, x), (j, y), (k, z)] = some cs) : YieldsIf Tryd.prog ops S o (.agg cs) a := .inl ⟨hw, fun w _ => by
  have := run_build w t #[(i, x), (j, y), (k, z)] _ hb
  unfold execOp
  simp only [ho, Sem.run_bind, List.map_toArray, List.map_cons, List.map_nil, hq, hr, hs, this, Result.andThen_ok, Sem.run_pure]⟩
end
/-- an object with nothing in it -/
def oKC (k c : Int) : Oj := { oz with k := k, c := c }
set_option maxRecDepth 8000 in
theorem builtO (k c : Int) : Tryd.prog.built 56 [(0, .int .i64 k), (1, .int .i64 c)] = some (oKC k c).cells.toArray := by kernel_rfl
set_option maxRecDepth 8000 in
theorem builtK1 (k : Int) : Tryd.prog.built 33 [(0, .int .i64 k)] = some (kl ⟨k, 0, 0, 0, 0, 0⟩).toArray := by kernel_rfl
set_option maxRecDepth 8000 in
theorem builtK3 (k o c : Int) : Tryd.prog.built 33 [(0, .int .i64 k), (1, .int .i64 o), (2, .int .i64 c)] = some (kl ⟨k, o, c, 0, 0, 0⟩).toArray := by kernel_rfl
set_option maxRecDepth 8000 in
theorem builtN (k v : Int) : Tryd.prog.built 33 [(0, .int .i64 k), (5, .int .i64 v)] = some (kl ⟨k, 0, 0, 0, 0, v⟩).toArray := by kernel_rfl
section
variable {w : World} {g : Nat} {t : TypeId}
end
end Go.Proofs.YtljfddeolapeaaaDoor

/- The document's own answer: the object of a sector. -/
import Derived.Test.YtfclkkbmgclfgaaDoorFr7
import Derived.Test.YtfclkkbmgclfgaaDoorRegIn
namespace Go.Proofs.YtfclkkbmgclfgaaDoor
open Go.RowKit
attribute [local go_sem] Oper.semAt_some
/-- while the object comes up, in block B -/
structure GS (w W : World) (l : List UInt8) (B : Nat) (o : Oj) : Prop where
  sec : Blk W w.heap.size 44 (bv l).toArray
  res : Blk W (w.heap.size + 1) 30 oz.cells.toArray
  ob : Blk W B 30 o.cells.toArray
  lt : w.heap.size + 2 ≤ B
  below : Below w.heap.size w W
section
variable {w W W' : World} {l : List UInt8} {B : Nat} {o : Oj}
theorem GS.call (h : GS w W l B o) (hb : Below W.heap.size W W') : GS w W' l B o := ⟨h.sec.keep hb, h.res.keep hb, h.ob.keep hb, h.lt, h.below.trans (hb.mono h.below.size)⟩
theorem GS.alloc (h : GS w W l B o) (u : Obj) : GS w (W.alloc u) l B o := h.call ((Below.refl _ _).alloc (Nat.le_refl _) _)
theorem GS.set_ (h : GS w W l B o) (i : Nat) (v : Value) {o' : Oj} (he : o.cells.toArray.setIfInBounds i v = o'.cells.toArray) : GS w (W.setCell ⟨B, i, none⟩ v) l B o' :=
  ⟨h.sec.far (by have := h.lt; simp; omega) _, h.res.far (by have := h.lt; simp; omega) _, he ▸ h.ob.set_ i v, h.lt, h.below.setCell (p := ⟨B, i, none⟩) (by have := h.lt; simp; omega) _⟩
theorem GS.row (h : GS w W l B o) (o' : Oj) : GS w (W.setRow B o'.cells.toArray) l B o' :=
  ⟨(setRow_other W B _ _ (by have := h.lt; omega)).trans h.sec, (setRow_other W B _ _ (by have := h.lt; omega)).trans h.res, setRow_heap W B o.cells.toArray o'.cells.toArray 30 (0, 0) h.ob, h.lt, h.below.trans (below_lt (setRow_fr W _ _) h.below.size (fun j hj => by have := h.lt; omega))⟩
end
set_option maxRecDepth 8000 in
theorem first_b0 {l : List UInt8} (h : 0 < l.length) : l[0]'h = b0 l := by
  cases l with
  | nil => simp at h
  | cons x l => rfl
theorem z34r (w : World) : (zeroValue 30).run Tryd.prog w = .ok oz.val w := z34 w
end Go.Proofs.YtfclkkbmgclfgaaDoor

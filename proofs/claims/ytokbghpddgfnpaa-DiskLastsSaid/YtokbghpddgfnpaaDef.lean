/- disk: words: a sector's value, a write's, blocks that are known whole; the types' rows. -/
import Derived.Test.YtokbghpddgfnpaaApp
import Derived.Test.YtokbghpddgfnpaaRows
import Derived.Deep.MidRow
import Derived.Deep.WholeRow
import Derived.Lib.Hide
namespace Go.Proofs.Ytokbghpddgfnpaa
open Go.RowKit
/-- the value of a sector's bytes -/
abbrev sec (l : List UInt8) : Value := .agg (bv l).toArray
/-- a sector of noughts -/
def zs : List UInt8 := List.replicate 512 0
theorem zs_length : zs.length = 512 := List.length_replicate ..
/-- a write's cells: its sector, its bytes -/
def wc (x : Nat × List UInt8) : List Value := .int .i64 (x.1 : Int) :: bv x.2
abbrev wv (x : Nat × List UInt8) : Value := .agg (wc x).toArray
set_option maxRecDepth 8000 in
theorem wc_length (x : Nat × List UInt8) (h : x.2.length = 512) : (wc x).length = 513 := by simp [wc, bv, h]
set_option maxRecDepth 8000 in
theorem wc_one (x : Nat × List UInt8) : ∀ u ∈ wc x, u.oneCell' = true := by
  intro u hu
  simp only [wc, List.mem_cons] at hu
  rcases hu with rfl | hu
  · rfl
  · exact bv_one _ u hu
/-- a block that is known whole -/
def Blk (w : World) (g : Nat) (t : TypeId) (cs : Array Value) : Prop := w.heap[g]? = some (.cells cs t (0, 0))
section
variable {w w' : World} {g : Nat} {t : TypeId} {cs : Array Value}
theorem Blk.lt (h : Blk w g t cs) : g < w.heap.size := (Array.getElem?_eq_some_iff.1 h).1
theorem Blk.cell (h : Blk w g t cs) (i : Nat) : w.cell? ⟨g, i, none⟩ = cs[i]? := cell_of_row w g i cs t (0, 0) h
theorem Blk.frozen (h : Blk w g t cs) (i : Nat) : w.frozen? ⟨g, i, none⟩ = false := frozen_of_row w g i cs t h
theorem Blk.new (w : World) (t : TypeId) (cs : Array Value) : Blk (w.alloc (.cells cs t)) w.heap.size t cs := heap_alloc_new w _
theorem Blk.alloc (h : Blk w g t cs) (o : Obj) : Blk (w.alloc o) g t cs := (Below.heap_alloc w o g h.lt).trans h
theorem Blk.set_ (h : Blk w g t cs) (i : Nat) (u : Value) : Blk (w.setCell ⟨g, i, none⟩ u) g t (cs.setIfInBounds i u) := heap_setCell_same w g i cs t u h
theorem Blk.far (h : Blk w g t cs) {p : Addr} (hp : g ≠ p.block) (u : Value) : Blk (w.setCell p u) g t cs := (Below.heap_setCell w p u g hp).trans h
theorem Blk.below {B : Nat} (h : Blk w g t cs) (hb : Below B w w') (hg : g < B) : Blk w' g t cs := (hb.block g hg).trans h
theorem Blk.range (h : Blk w g t cs) (l : List Value) (o : Nat) (hl : ∀ j v, l[j]? = some v → cs[o + j]? = some v) : w.rangeAt g o l := fun j v hv => by
  rw [h.cell]
  exact hl j v hv
end
set_option maxRecDepth 8000 in
theorem zero47 : (Try.prog.info? 38).map (fun i => (i.zero, i.size)) = some (some (sec zs), 512) := by kernel_rfl
set_option maxRecDepth 8000 in
theorem zero84 : (Try.prog.info? 89).map (fun i => (i.zero, i.size)) = some (some (wv (0, zs)), 513) := by kernel_rfl
theorem z47 (w : World) : (zeroValue 38).run Try.prog w = .ok (sec zs) w := (zero_of_info zero47).1 w
theorem z84 (w : World) : (zeroValue 89).run Try.prog w = .ok (wv (0, zs)) w := (zero_of_info zero84).1 w
end Go.Proofs.Ytokbghpddgfnpaa

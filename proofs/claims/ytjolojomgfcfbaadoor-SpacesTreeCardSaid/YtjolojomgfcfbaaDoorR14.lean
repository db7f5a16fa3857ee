/- objects: a Step, steps, a row of objects, as they lie: words. -/
import Derived.Test.YtjolojomgfcfbaaDoorR12
import Derived.Test.YtjolojomgfcfbaaDoorR10
import Derived.Test.YtjolojomgfcfbaaDoorR11
namespace Go.Proofs.YtjolojomgfcfbaaDoor
open Go.ChangeShapes Go.WideShapes Go.ChangeAt Go.RowKit
structure Stp where
  puts : Bool
  oid : Int
  o : Oj
def Stp.cells (x : Stp) : List Value := .bool x.puts :: .int .i64 x.oid :: x.o.cells
abbrev Stp.val (x : Stp) : Value := .agg x.cells.toArray
set_option maxRecDepth 8000 in
theorem Stp.len (x : Stp) : x.cells.length = 165 := by simp [Stp.cells, x.o.len]
set_option maxRecDepth 8000 in
theorem Stp.one (x : Stp) : ∀ u ∈ x.cells, u.oneCell' = true := by
  intro u hu
  simp only [Stp.cells, List.mem_cons] at hu
  rcases hu with rfl | rfl | h
  · rfl
  · rfl
  · exact x.o.one u h
def StpAt (w : World) (b off : Nat) (x : Stp) : Prop := w.rangeAt b off x.cells
section
variable {w w' : World} {b off : Nat} {x : Stp}
theorem StpAt.lt (h : StpAt w b off x) : b < w.heap.size := cell_lt (h 0 _ rfl)
theorem StpAt.below (h : StpAt w b off x) (hb : Below w.heap.size w w') : StpAt w' b off x := fun j v hv => (World.cell?_of_block (a := ⟨b, off + j, none⟩) (hb.block b h.lt)).trans (h j v hv)
theorem StpAt.drew (h : StpAt w b off x) : StpAt w.drew b off x := h
theorem StpAt.c0 (h : StpAt w b off x) : w.cell? ⟨b, off, none⟩ = some (.bool x.puts) := h 0 _ rfl
theorem StpAt.c1 (h : StpAt w b off x) : w.cell? ⟨b, off + 1, none⟩ = some (.int .i64 x.oid) := h 1 _ rfl
theorem StpAt.ob (h : StpAt w b off x) : ObAt w b (off + 2) x.o := fun j v hv => by
  have := h (j + 2) v (by show x.o.cells[j]? = some v; exact hv)
  rw [show off + 2 + j = off + (j + 2) by omega]
  exact this
end
theorem StpAt.setRow {w : World} {b g : Nat} {x : Stp} (h : StpAt w b 0 x) (hne : b ≠ g) (c : Array Value) : StpAt (w.setRow g c) b 0 x := fun j v hv => (World.cell?_of_block (a := ⟨b, 0 + j, none⟩) (setRow_other w g b c hne)).trans (h j v hv)
/-- the steps l lie from A on -/
def RdS (w : World) (A : Option Addr) (l : List Stp) : Prop := ∀ i (h : i < l.length), ∃ b off, A = some ⟨b, off, none⟩ ∧ StpAt w b (off + i * 165) l[i]
theorem RdS.below {w w' : World} {A : Option Addr} {l : List Stp} (h : RdS w A l) (hb : Below w.heap.size w w') : RdS w' A l := fun i hi => by
  obtain ⟨b, off, e, ho⟩ := h i hi
  exact ⟨b, off, e, ho.below hb⟩
-- a row of objects, whole
def ocs : List Oj → List Value
  | [] => []
  | o :: l => o.cells ++ ocs l
set_option maxRecDepth 8000 in
theorem ocs_length (l : List Oj) : (ocs l).length = l.length * 163 := by
  induction l with
  | nil => rfl
  | cons o l ih => simp [ocs, o.len, ih]; omega
theorem ocs_get : ∀ (l : List Oj) (i : Nat) (h : i < l.length) (j : Nat), j < 163 → (ocs l)[i * 163 + j]? = l[i].cells[j]?
  | o :: l, 0, _, j, hj => by
    rw [Nat.zero_mul, Nat.zero_add, ocs, List.getElem?_append_left (by rw [o.len]; exact hj)]
    rfl
  | o :: l, i + 1, h, j, hj => by
    have := ocs_get l i (by simpa using h) j hj
    rw [ocs, List.getElem?_append_right (by rw [o.len]; omega), o.len, show (i + 1) * 163 + j - 163 = i * 163 + j by omega, this]
    rfl
set_option maxRecDepth 8000 in
theorem Blk.rdo {w : World} {g : Nat} {t : TypeId} {l : List Oj} (h : Blk w g t (ocs l).toArray) : RdO w (some ⟨g, 0, none⟩) l := fun i hi => by
  refine ⟨g, 0, rfl, fun j v hv => ?_⟩
  have hj : j < 163 := by have := (List.getElem?_eq_some_iff.1 hv).1; rwa [l[i].len] at this
  rw [Nat.zero_add, h.cell, ← hv, ← ocs_get l i hi j hj]
  simp
section
variable {H : Type} {enc : TypeId × Value → H} {W : World} {base : Nat} {spare : Nat → Bool} {held : Bool} {fuel : Nat}
end
end Go.Proofs.YtjolojomgfcfbaaDoor

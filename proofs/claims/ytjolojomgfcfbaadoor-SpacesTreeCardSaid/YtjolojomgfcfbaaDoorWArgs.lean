/- law 11: calls, places, links as arguments: words. -/
import Derived.Test.YtjolojomgfcfbaaDoorR12
import Derived.Test.YtjolojomgfcfbaaDoorR25
import Derived.ChangeMaps5
namespace Go.Proofs.YtjolojomgfcfbaaDoor
open Go.ChangeShapes Go.WideShapes Go.ChangeAt Go.RowKit
set_option maxRecDepth 8000 in
theorem wf_i64P {n : Int} (h : (Lit.int .i64 n).wf = true) : -9223372036854775808 ≤ n ∧ n ≤ 9223372036854775807 := by
  have h1 : IntKind.i64.min = -9223372036854775808 := rfl
  have h2 : IntKind.i64.max = 9223372036854775807 := rfl
  simp only [Lit.wf, Bool.and_eq_true, decide_eq_true_eq] at h
  omega
abbrev i64 (n : Int) : Prop := -9223372036854775808 ≤ n ∧ n ≤ 9223372036854775807
set_option maxRecDepth 8000 in
theorem open_st {H : Type} {enc : TypeId × Value → H} {W : World} {base : Nat} {spare : Nat → Bool} {held : Bool} {r : Reach} {b0 : Nat} {v : Value} {d : DataW H} {p : List MemPlace} (hv : Value.okWide Tryd.prog W r b0 9 v) (h : DataW.Trod enc Tryd.prog W base spare held 9 v d p) : ∃ s, v = .string (st s) := by
  obtain ⟨s, rfl⟩ := okWide_string Tryd.underlying9 hv
  obtain ⟨l, rfl⟩ := st_of s
  exact ⟨l, rfl⟩
/-- ints lie from A on -/
def RdZ (w : World) (A : Option Addr) (l : List Int) : Prop := ∀ i (h : i < l.length), ∃ b off, A = some ⟨b, off, none⟩ ∧ w.cell? ⟨b, off + i, none⟩ = some (.int .i64 l[i])
theorem RdZ.below {w w' : World} {A : Option Addr} {l : List Int} (h : RdZ w A l) (hb : Below w.heap.size w w') : RdZ w' A l := fun i hi => by
  obtain ⟨b, off, e, ho⟩ := h i hi
  exact ⟨b, off, e, (World.cell?_of_block (a := ⟨b, off + i, none⟩) (hb.block b (cell_lt ho))).trans ho⟩
structure Sa where
  k : Int
  n : Int
  x : Ky
  a : Int
  s : List UInt8
  hk : i64 k
  hn : i64 n
  ha : i64 a
def Sa.cells (p : Sa) : List Value := [Value.int .i64 p.k] ++ ([Value.int .i64 p.n] ++ (kl p.x ++ ([Value.int .i64 p.a] ++ ([Value.string (st p.s)]))))
abbrev Sa.val (p : Sa) : Value := .agg p.cells.toArray
theorem Sa.len (p : Sa) : p.cells.length = 10 := rfl
def SaAt (w : World) (b off : Nat) (x : Sa) : Prop := w.rangeAt b off x.cells
theorem SaAt.lt {w : World} {b off : Nat} {x : Sa} (h : SaAt w b off x) : b < w.heap.size := cell_lt (h 0 _ rfl)
theorem SaAt.below {w w' : World} {b off : Nat} {x : Sa} (h : SaAt w b off x) (hb : Below w.heap.size w w') : SaAt w' b off x := fun j v hv => (World.cell?_of_block (a := ⟨b, off + j, none⟩) (hb.block b h.lt)).trans (h j v hv)
section
variable {H : Type} {enc : TypeId × Value → H} {W : World} {base : Nat} {spare : Nat → Bool} {held : Bool} {fuel : Nat}
end
def zSa : Sa := ⟨0, 0, zk, 0, [], by decide, by decide, by decide⟩
/-- such lie from A on -/
def RdSa (w : World) (A : Option Addr) (l : List Sa) : Prop := ∀ i (h : i < l.length), ∃ b off, A = some ⟨b, off, none⟩ ∧ SaAt w b (off + i * 10) l[i]
theorem RdSa.below {w w' : World} {A : Option Addr} {l : List Sa} (h : RdSa w A l) (hb : Below w.heap.size w w') : RdSa w' A l := fun i hi => by
  obtain ⟨b, off, e, ho⟩ := h i hi
  exact ⟨b, off, e, ho.below hb⟩
structure Tw where
  x : Ky
  y : Ky
  a : Int
  b : Int
  ha : i64 a
  hb : i64 b
def Tw.cells (p : Tw) : List Value := kl p.x ++ (kl p.y ++ ([Value.int .i64 p.a] ++ ([Value.int .i64 p.b])))
abbrev Tw.val (p : Tw) : Value := .agg p.cells.toArray
theorem Tw.len (p : Tw) : p.cells.length = 14 := rfl
def TwAt (w : World) (b off : Nat) (x : Tw) : Prop := w.rangeAt b off x.cells
theorem TwAt.lt {w : World} {b off : Nat} {x : Tw} (h : TwAt w b off x) : b < w.heap.size := cell_lt (h 0 _ rfl)
theorem TwAt.below {w w' : World} {b off : Nat} {x : Tw} (h : TwAt w b off x) (hb : Below w.heap.size w w') : TwAt w' b off x := fun j v hv => (World.cell?_of_block (a := ⟨b, off + j, none⟩) (hb.block b h.lt)).trans (h j v hv)
section
variable {H : Type} {enc : TypeId × Value → H} {W : World} {base : Nat} {spare : Nat → Bool} {held : Bool} {fuel : Nat}
end
structure Sp where
  a : Int
  o : Int
  n : Int
  ha : i64 a
  ho : i64 o
  hn : i64 n
def Sp.cells (p : Sp) : List Value := [Value.int .i64 p.a] ++ ([Value.int .i64 p.o] ++ ([Value.int .i64 p.n]))
abbrev Sp.val (p : Sp) : Value := .agg p.cells.toArray
theorem Sp.len (p : Sp) : p.cells.length = 3 := rfl
set_option maxRecDepth 8000 in
theorem sizeSp : (Tryd.prog.info? 24).map (·.size) = some 3 := by kernel_rfl
set_option maxRecDepth 8000 in
theorem cellsOfSp : Tryd.prog.cellsOf 24 = 3 := by kernel_rfl
def SpAt (w : World) (b off : Nat) (x : Sp) : Prop := w.rangeAt b off x.cells
theorem SpAt.lt {w : World} {b off : Nat} {x : Sp} (h : SpAt w b off x) : b < w.heap.size := cell_lt (h 0 _ rfl)
theorem SpAt.below {w w' : World} {b off : Nat} {x : Sp} (h : SpAt w b off x) (hb : Below w.heap.size w w') : SpAt w' b off x := fun j v hv => (World.cell?_of_block (a := ⟨b, off + j, none⟩) (hb.block b h.lt)).trans (h j v hv)
theorem y_Sp {ops : Array Oper} {o : Oper} {a : Act} {S : World → Prop} (hw : Region.wanted o (yielded ops a.tmps) = true) (p : Operand) (ho : o.op = .load 24 p) (g off : Nat) (hx : a.eval p = .pointer (some ⟨g, off, none⟩)) (u : Sp) (hS : ∀ w, S w → SpAt w g off u) : YieldsIf Tryd.prog ops S o u.val a :=
  yieldsIf_load_mid hw 24 p ho g off hx u.cells _ hS Tryd.underlying24 rfl (by rw [u.len]; exact sizeSp)
section
variable {H : Type} {enc : TypeId × Value → H} {W : World} {base : Nat} {spare : Nat → Bool} {held : Bool} {fuel : Nat}
set_option maxRecDepth 100000 in
theorem cells_Sp {cs : List Value} {x : DataW H × List MemPlace} (h : DataW.trod enc Tryd.prog W base spare held fuel 24 cs = some x) : ∃ o : Sp, cs = o.cells := by
  obtain ⟨xs, n, _, _, hl, hn, hel⟩ := DataW.trod_struct Tryd.underlying24 h
  rw [cellsOfSp] at hl
  match xs, hn with
  | [y0, y1, y2], _ =>
    have h0 : DataW.trod enc Tryd.prog W base spare held n 3 ((cs.drop 0).take (Tryd.prog.cellsOf 3)) = some y0 := hel 0 _ rfl
    have h1 : DataW.trod enc Tryd.prog W base spare held n 22 ((cs.drop 1).take (Tryd.prog.cellsOf 22)) = some y1 := hel 1 _ rfl
    have h2 : DataW.trod enc Tryd.prog W base spare held n 22 ((cs.drop 2).take (Tryd.prog.cellsOf 22)) = some y2 := hel 2 _ rfl
    rw [show Tryd.prog.cellsOf 3 = 1 by kernel_rfl] at h0
    rw [show Tryd.prog.cellsOf 22 = 1 by kernel_rfl] at h1
    rw [show Tryd.prog.cellsOf 22 = 1 by kernel_rfl] at h2
    match cs, hl with
    | [c0, c1, c2], _ =>
      obtain ⟨q0, e0, _, w0⟩ := DataW.trod_int Tryd.underlying3 h0
      obtain ⟨q1, e1, _, w1⟩ := DataW.trod_int Tryd.underlying22 h1
      obtain ⟨q2, e2, _, w2⟩ := DataW.trod_int Tryd.underlying22 h2
      simp only [List.drop_zero, List.take_succ_cons, List.take_zero, List.drop_succ_cons, List.cons.injEq, and_true] at e0 e1 e2
      subst e0 e1 e2
      exact ⟨⟨q0, q1, q2, wf_i64P w0, wf_i64P w1, wf_i64P w2⟩, rfl⟩
set_option maxRecDepth 8000 in
theorem open_Sp {r : Reach} {b0 : Nat} {v : Value} {d : DataW H} {p : List MemPlace} (hv : Value.okWide Tryd.prog W r b0 24 v) (h : DataW.Trod enc Tryd.prog W base spare held 24 v d p) : ∃ o : Sp, v = o.val := by
  obtain ⟨cs, rfl, _⟩ := okWide_struct Tryd.underlying24 hv
  obtain ⟨f, hf⟩ := h
  obtain ⟨o, ho⟩ := cells_Sp hf
  refine ⟨o, ?_⟩
  obtain ⟨l⟩ := cs
  simp only [Value.cells] at ho
  subst ho
  rfl
end
structure Lk where
  h : Int
  s : Int
  r : Int
  q : Bool
  hh : i64 h
  hs : i64 s
  hr : i64 r
def Lk.cells (p : Lk) : List Value := [Value.int .i64 p.h] ++ ([Value.int .i64 p.s] ++ ([Value.int .i64 p.r] ++ ([Value.bool p.q])))
abbrev Lk.val (p : Lk) : Value := .agg p.cells.toArray
theorem Lk.len (p : Lk) : p.cells.length = 4 := rfl
def LkAt (w : World) (b off : Nat) (x : Lk) : Prop := w.rangeAt b off x.cells
theorem LkAt.lt {w : World} {b off : Nat} {x : Lk} (h : LkAt w b off x) : b < w.heap.size := cell_lt (h 0 _ rfl)
theorem LkAt.below {w w' : World} {b off : Nat} {x : Lk} (h : LkAt w b off x) (hb : Below w.heap.size w w') : LkAt w' b off x := fun j v hv => (World.cell?_of_block (a := ⟨b, off + j, none⟩) (hb.block b h.lt)).trans (h j v hv)
section
variable {H : Type} {enc : TypeId × Value → H} {W : World} {base : Nat} {spare : Nat → Bool} {held : Bool} {fuel : Nat}
end
def zLk : Lk := ⟨0, 0, 0, false, by decide, by decide, by decide⟩
/-- such lie from A on -/
def RdLk (w : World) (A : Option Addr) (l : List Lk) : Prop := ∀ i (h : i < l.length), ∃ b off, A = some ⟨b, off, none⟩ ∧ LkAt w b (off + i * 4) l[i]
theorem RdLk.below {w w' : World} {A : Option Addr} {l : List Lk} (h : RdLk w A l) (hb : Below w.heap.size w w') : RdLk w' A l := fun i hi => by
  obtain ⟨b, off, e, ho⟩ := h i hi
  exact ⟨b, off, e, ho.below hb⟩
end Go.Proofs.YtjolojomgfcfbaaDoor

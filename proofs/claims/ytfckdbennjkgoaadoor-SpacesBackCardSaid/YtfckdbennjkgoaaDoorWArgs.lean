/- law 11: calls, places, links as arguments: words. -/
import Derived.Test.YtfckdbennjkgoaaDoorR12
import Derived.Test.YtfckdbennjkgoaaDoorR25
import Derived.ChangeMaps5
namespace Go.Proofs.YtfckdbennjkgoaaDoor
open Go.ChangeShapes Go.WideShapes Go.ChangeAt Go.RowKit
set_option maxRecDepth 8000 in
theorem wf_i64P {n : Int} (h : (Lit.int .i64 n).wf = true) : -9223372036854775808 ≤ n ∧ n ≤ 9223372036854775807 := by
  have h1 : IntKind.i64.min = -9223372036854775808 := rfl
  have h2 : IntKind.i64.max = 9223372036854775807 := rfl
  simp only [Lit.wf, Bool.and_eq_true, decide_eq_true_eq] at h
  omega
abbrev i64 (n : Int) : Prop := -9223372036854775808 ≤ n ∧ n ≤ 9223372036854775807
set_option maxRecDepth 8000 in
theorem open_st {H : Type} {enc : TypeId × Value → H} {W : World} {base : Nat} {spare : Nat → Bool} {held : Bool} {r : Reach} {b0 : Nat} {v : Value} {d : DataW H} {p : List MemPlace} (hv : Value.okWide Tryd.prog W r b0 9 v) (h : DataW.Trod enc Tryd.prog W base spare held 9 v d p) : ∃ s, v = .string (st s) := by
  obtain ⟨s, rfl⟩ := okWide_string Tryd.underlying9 hv
  obtain ⟨l, rfl⟩ := st_of s
  exact ⟨l, rfl⟩
/-- ints lie from A on -/
def RdZ (w : World) (A : Option Addr) (l : List Int) : Prop := ∀ i (h : i < l.length), ∃ b off, A = some ⟨b, off, none⟩ ∧ w.cell? ⟨b, off + i, none⟩ = some (.int .i64 l[i])
theorem RdZ.below {w w' : World} {A : Option Addr} {l : List Int} (h : RdZ w A l) (hb : Below w.heap.size w w') : RdZ w' A l := fun i hi => by
  obtain ⟨b, off, e, ho⟩ := h i hi
  exact ⟨b, off, e, (World.cell?_of_block (a := ⟨b, off + i, none⟩) (hb.block b (cell_lt ho))).trans ho⟩
structure Sa where
  k : Int
  n : Int
  x : Ky
  a : Int
  s : List UInt8
  hk : i64 k
  hn : i64 n
  ha : i64 a
def Sa.cells (p : Sa) : List Value := [Value.int .i64 p.k] ++ ([Value.int .i64 p.n] ++ (kl p.x ++ ([Value.int .i64 p.a] ++ ([Value.string (st p.s)]))))
abbrev Sa.val (p : Sa) : Value := .agg p.cells.toArray
theorem Sa.len (p : Sa) : p.cells.length = 10 := rfl
set_option maxRecDepth 8000 in
theorem sizeSa : (Tryd.prog.info? 65).map (·.size) = some 10 := by kernel_rfl
set_option maxRecDepth 8000 in
theorem cellsOfSa : Tryd.prog.cellsOf 65 = 10 := by kernel_rfl
def SaAt (w : World) (b off : Nat) (x : Sa) : Prop := w.rangeAt b off x.cells
theorem SaAt.lt {w : World} {b off : Nat} {x : Sa} (h : SaAt w b off x) : b < w.heap.size := cell_lt (h 0 _ rfl)
theorem SaAt.below {w w' : World} {b off : Nat} {x : Sa} (h : SaAt w b off x) (hb : Below w.heap.size w w') : SaAt w' b off x := fun j v hv => (World.cell?_of_block (a := ⟨b, off + j, none⟩) (hb.block b h.lt)).trans (h j v hv)
theorem y_Sa {ops : Array Oper} {o : Oper} {a : Act} {S : World → Prop} (hw : Region.wanted o (yielded ops a.tmps) = true) (p : Operand) (ho : o.op = .load 65 p) (g off : Nat) (hx : a.eval p = .pointer (some ⟨g, off, none⟩)) (u : Sa) (hS : ∀ w, S w → SaAt w g off u) : YieldsIf Tryd.prog ops S o u.val a :=
  yieldsIf_load_mid hw 65 p ho g off hx u.cells _ hS Tryd.underlying65 rfl (by rw [u.len]; exact sizeSa)
section
variable {H : Type} {enc : TypeId × Value → H} {W : World} {base : Nat} {spare : Nat → Bool} {held : Bool} {fuel : Nat}
set_option maxRecDepth 100000 in
theorem cells_Sa {cs : List Value} {x : DataW H × List MemPlace} (h : DataW.trod enc Tryd.prog W base spare held fuel 65 cs = some x) : ∃ o : Sa, cs = o.cells := by
  obtain ⟨xs, n, _, _, hl, hn, hel⟩ := DataW.trod_struct Tryd.underlying65 h
  rw [cellsOfSa] at hl
  match xs, hn with
  | [y0, y1, y2, y3, y4], _ =>
    have h0 : DataW.trod enc Tryd.prog W base spare held n 3 ((cs.drop 0).take (Tryd.prog.cellsOf 3)) = some y0 := hel 0 _ rfl
    have h1 : DataW.trod enc Tryd.prog W base spare held n 3 ((cs.drop 1).take (Tryd.prog.cellsOf 3)) = some y1 := hel 1 _ rfl
    have h2 : DataW.trod enc Tryd.prog W base spare held n 31 ((cs.drop 2).take (Tryd.prog.cellsOf 31)) = some y2 := hel 2 _ rfl
    have h3 : DataW.trod enc Tryd.prog W base spare held n 2 ((cs.drop 8).take (Tryd.prog.cellsOf 2)) = some y3 := hel 3 _ rfl
    have h4 : DataW.trod enc Tryd.prog W base spare held n 9 ((cs.drop 9).take (Tryd.prog.cellsOf 9)) = some y4 := hel 4 _ rfl
    rw [show Tryd.prog.cellsOf 3 = 1 by kernel_rfl] at h0
    rw [show Tryd.prog.cellsOf 3 = 1 by kernel_rfl] at h1
    rw [cellsOf30] at h2
    rw [show Tryd.prog.cellsOf 2 = 1 by kernel_rfl] at h3
    rw [show Tryd.prog.cellsOf 9 = 1 by kernel_rfl] at h4
    match cs, hl with
    | [c0, c1, c2, c3, c4, c5, c6, c7, c8, c9], _ =>
      obtain ⟨q0, e0, _, w0⟩ := DataW.trod_int Tryd.underlying3 h0
      obtain ⟨q1, e1, _, w1⟩ := DataW.trod_int Tryd.underlying3 h1
      obtain ⟨q2, e2⟩ := key_cells h2
      obtain ⟨q3, e3, _, w3⟩ := DataW.trod_int Tryd.underlying2 h3
      obtain ⟨z4, e4, _, _⟩ := DataW.trod_string Tryd.underlying9 h4
      obtain ⟨q4, rfl⟩ := st_of z4
      simp only [List.drop_zero, List.take_succ_cons, List.take_zero, List.drop_succ_cons, List.cons.injEq, and_true] at e0 e1 e2 e3 e4
      obtain ⟨rfl, rfl, rfl, rfl, rfl, rfl⟩ := e2
      subst e0 e1 e3 e4
      exact ⟨⟨q0, q1, q2, q3, q4, wf_i64P w0, wf_i64P w1, wf_i64P w3⟩, rfl⟩
set_option maxRecDepth 8000 in
theorem open_Sa {r : Reach} {b0 : Nat} {v : Value} {d : DataW H} {p : List MemPlace} (hv : Value.okWide Tryd.prog W r b0 65 v) (h : DataW.Trod enc Tryd.prog W base spare held 65 v d p) : ∃ o : Sa, v = o.val := by
  obtain ⟨cs, rfl, _⟩ := okWide_struct Tryd.underlying65 hv
  obtain ⟨f, hf⟩ := h
  obtain ⟨o, ho⟩ := cells_Sa hf
  refine ⟨o, ?_⟩
  obtain ⟨l⟩ := cs
  simp only [Value.cells] at ho
  subst ho
  rfl
end
def zSa : Sa := ⟨0, 0, zk, 0, [], by decide, by decide, by decide⟩
/-- such lie from A on -/
def RdSa (w : World) (A : Option Addr) (l : List Sa) : Prop := ∀ i (h : i < l.length), ∃ b off, A = some ⟨b, off, none⟩ ∧ SaAt w b (off + i * 10) l[i]
theorem RdSa.below {w w' : World} {A : Option Addr} {l : List Sa} (h : RdSa w A l) (hb : Below w.heap.size w w') : RdSa w' A l := fun i hi => by
  obtain ⟨b, off, e, ho⟩ := h i hi
  exact ⟨b, off, e, ho.below hb⟩
structure Tw where
  x : Ky
  y : Ky
  a : Int
  b : Int
  ha : i64 a
  hb : i64 b
def Tw.cells (p : Tw) : List Value := kl p.x ++ (kl p.y ++ ([Value.int .i64 p.a] ++ ([Value.int .i64 p.b])))
abbrev Tw.val (p : Tw) : Value := .agg p.cells.toArray
theorem Tw.len (p : Tw) : p.cells.length = 14 := rfl
set_option maxRecDepth 8000 in
theorem sizeTw : (Tryd.prog.info? 45).map (·.size) = some 14 := by kernel_rfl
set_option maxRecDepth 8000 in
theorem cellsOfTw : Tryd.prog.cellsOf 45 = 14 := by kernel_rfl
def TwAt (w : World) (b off : Nat) (x : Tw) : Prop := w.rangeAt b off x.cells
theorem TwAt.lt {w : World} {b off : Nat} {x : Tw} (h : TwAt w b off x) : b < w.heap.size := cell_lt (h 0 _ rfl)
theorem TwAt.below {w w' : World} {b off : Nat} {x : Tw} (h : TwAt w b off x) (hb : Below w.heap.size w w') : TwAt w' b off x := fun j v hv => (World.cell?_of_block (a := ⟨b, off + j, none⟩) (hb.block b h.lt)).trans (h j v hv)
theorem y_Tw {ops : Array Oper} {o : Oper} {a : Act} {S : World → Prop} (hw : Region.wanted o (yielded ops a.tmps) = true) (p : Operand) (ho : o.op = .load 45 p) (g off : Nat) (hx : a.eval p = .pointer (some ⟨g, off, none⟩)) (u : Tw) (hS : ∀ w, S w → TwAt w g off u) : YieldsIf Tryd.prog ops S o u.val a :=
  yieldsIf_load_mid hw 45 p ho g off hx u.cells _ hS Tryd.underlying45 rfl (by rw [u.len]; exact sizeTw)
section
variable {H : Type} {enc : TypeId × Value → H} {W : World} {base : Nat} {spare : Nat → Bool} {held : Bool} {fuel : Nat}
set_option maxRecDepth 100000 in
theorem cells_Tw {cs : List Value} {x : DataW H × List MemPlace} (h : DataW.trod enc Tryd.prog W base spare held fuel 45 cs = some x) : ∃ o : Tw, cs = o.cells := by
  obtain ⟨xs, n, _, _, hl, hn, hel⟩ := DataW.trod_struct Tryd.underlying45 h
  rw [cellsOfTw] at hl
  match xs, hn with
  | [y0, y1, y2, y3], _ =>
    have h0 : DataW.trod enc Tryd.prog W base spare held n 31 ((cs.drop 0).take (Tryd.prog.cellsOf 31)) = some y0 := hel 0 _ rfl
    have h1 : DataW.trod enc Tryd.prog W base spare held n 31 ((cs.drop 6).take (Tryd.prog.cellsOf 31)) = some y1 := hel 1 _ rfl
    have h2 : DataW.trod enc Tryd.prog W base spare held n 2 ((cs.drop 12).take (Tryd.prog.cellsOf 2)) = some y2 := hel 2 _ rfl
    have h3 : DataW.trod enc Tryd.prog W base spare held n 2 ((cs.drop 13).take (Tryd.prog.cellsOf 2)) = some y3 := hel 3 _ rfl
    rw [cellsOf30] at h0
    rw [cellsOf30] at h1
    rw [show Tryd.prog.cellsOf 2 = 1 by kernel_rfl] at h2
    rw [show Tryd.prog.cellsOf 2 = 1 by kernel_rfl] at h3
    match cs, hl with
    | [c0, c1, c2, c3, c4, c5, c6, c7, c8, c9, c10, c11, c12, c13], _ =>
      obtain ⟨q0, e0⟩ := key_cells h0
      obtain ⟨q1, e1⟩ := key_cells h1
      obtain ⟨q2, e2, _, w2⟩ := DataW.trod_int Tryd.underlying2 h2
      obtain ⟨q3, e3, _, w3⟩ := DataW.trod_int Tryd.underlying2 h3
      simp only [List.drop_zero, List.take_succ_cons, List.take_zero, List.drop_succ_cons, List.cons.injEq, and_true] at e0 e1 e2 e3
      obtain ⟨rfl, rfl, rfl, rfl, rfl, rfl⟩ := e0
      obtain ⟨rfl, rfl, rfl, rfl, rfl, rfl⟩ := e1
      subst e2 e3
      exact ⟨⟨q0, q1, q2, q3, wf_i64P w2, wf_i64P w3⟩, rfl⟩
set_option maxRecDepth 8000 in
theorem open_Tw {r : Reach} {b0 : Nat} {v : Value} {d : DataW H} {p : List MemPlace} (hv : Value.okWide Tryd.prog W r b0 45 v) (h : DataW.Trod enc Tryd.prog W base spare held 45 v d p) : ∃ o : Tw, v = o.val := by
  obtain ⟨cs, rfl, _⟩ := okWide_struct Tryd.underlying45 hv
  obtain ⟨f, hf⟩ := h
  obtain ⟨o, ho⟩ := cells_Tw hf
  refine ⟨o, ?_⟩
  obtain ⟨l⟩ := cs
  simp only [Value.cells] at ho
  subst ho
  rfl
end
structure Sp where
  a : Int
  o : Int
  n : Int
  ha : i64 a
  ho : i64 o
  hn : i64 n
def Sp.cells (p : Sp) : List Value := [Value.int .i64 p.a] ++ ([Value.int .i64 p.o] ++ ([Value.int .i64 p.n]))
abbrev Sp.val (p : Sp) : Value := .agg p.cells.toArray
theorem Sp.len (p : Sp) : p.cells.length = 3 := rfl
set_option maxRecDepth 8000 in
theorem sizeSp : (Tryd.prog.info? 59).map (·.size) = some 3 := by kernel_rfl
set_option maxRecDepth 8000 in
theorem cellsOfSp : Tryd.prog.cellsOf 59 = 3 := by kernel_rfl
def SpAt (w : World) (b off : Nat) (x : Sp) : Prop := w.rangeAt b off x.cells
theorem SpAt.lt {w : World} {b off : Nat} {x : Sp} (h : SpAt w b off x) : b < w.heap.size := cell_lt (h 0 _ rfl)
theorem SpAt.below {w w' : World} {b off : Nat} {x : Sp} (h : SpAt w b off x) (hb : Below w.heap.size w w') : SpAt w' b off x := fun j v hv => (World.cell?_of_block (a := ⟨b, off + j, none⟩) (hb.block b h.lt)).trans (h j v hv)
theorem y_Sp {ops : Array Oper} {o : Oper} {a : Act} {S : World → Prop} (hw : Region.wanted o (yielded ops a.tmps) = true) (p : Operand) (ho : o.op = .load 59 p) (g off : Nat) (hx : a.eval p = .pointer (some ⟨g, off, none⟩)) (u : Sp) (hS : ∀ w, S w → SpAt w g off u) : YieldsIf Tryd.prog ops S o u.val a :=
  yieldsIf_load_mid hw 59 p ho g off hx u.cells _ hS Tryd.underlying59 rfl (by rw [u.len]; exact sizeSp)
section
variable {H : Type} {enc : TypeId × Value → H} {W : World} {base : Nat} {spare : Nat → Bool} {held : Bool} {fuel : Nat}
set_option maxRecDepth 100000 in
theorem cells_Sp {cs : List Value} {x : DataW H × List MemPlace} (h : DataW.trod enc Tryd.prog W base spare held fuel 59 cs = some x) : ∃ o : Sp, cs = o.cells := by
  obtain ⟨xs, n, _, _, hl, hn, hel⟩ := DataW.trod_struct Tryd.underlying59 h
  rw [cellsOfSp] at hl
  match xs, hn with
  | [y0, y1, y2], _ =>
    have h0 : DataW.trod enc Tryd.prog W base spare held n 3 ((cs.drop 0).take (Tryd.prog.cellsOf 3)) = some y0 := hel 0 _ rfl
    have h1 : DataW.trod enc Tryd.prog W base spare held n 29 ((cs.drop 1).take (Tryd.prog.cellsOf 29)) = some y1 := hel 1 _ rfl
    have h2 : DataW.trod enc Tryd.prog W base spare held n 29 ((cs.drop 2).take (Tryd.prog.cellsOf 29)) = some y2 := hel 2 _ rfl
    rw [show Tryd.prog.cellsOf 3 = 1 by kernel_rfl] at h0
    rw [show Tryd.prog.cellsOf 29 = 1 by kernel_rfl] at h1
    rw [show Tryd.prog.cellsOf 29 = 1 by kernel_rfl] at h2
    match cs, hl with
    | [c0, c1, c2], _ =>
      obtain ⟨q0, e0, _, w0⟩ := DataW.trod_int Tryd.underlying3 h0
      obtain ⟨q1, e1, _, w1⟩ := DataW.trod_int Tryd.underlying29 h1
      obtain ⟨q2, e2, _, w2⟩ := DataW.trod_int Tryd.underlying29 h2
      simp only [List.drop_zero, List.take_succ_cons, List.take_zero, List.drop_succ_cons, List.cons.injEq, and_true] at e0 e1 e2
      subst e0 e1 e2
      exact ⟨⟨q0, q1, q2, wf_i64P w0, wf_i64P w1, wf_i64P w2⟩, rfl⟩
set_option maxRecDepth 8000 in
theorem open_Sp {r : Reach} {b0 : Nat} {v : Value} {d : DataW H} {p : List MemPlace} (hv : Value.okWide Tryd.prog W r b0 59 v) (h : DataW.Trod enc Tryd.prog W base spare held 59 v d p) : ∃ o : Sp, v = o.val := by
  obtain ⟨cs, rfl, _⟩ := okWide_struct Tryd.underlying59 hv
  obtain ⟨f, hf⟩ := h
  obtain ⟨o, ho⟩ := cells_Sp hf
  refine ⟨o, ?_⟩
  obtain ⟨l⟩ := cs
  simp only [Value.cells] at ho
  subst ho
  rfl
end
structure Lk where
  h : Int
  s : Int
  r : Int
  q : Bool
  hh : i64 h
  hs : i64 s
  hr : i64 r
def Lk.cells (p : Lk) : List Value := [Value.int .i64 p.h] ++ ([Value.int .i64 p.s] ++ ([Value.int .i64 p.r] ++ ([Value.bool p.q])))
abbrev Lk.val (p : Lk) : Value := .agg p.cells.toArray
theorem Lk.len (p : Lk) : p.cells.length = 4 := rfl
set_option maxRecDepth 8000 in
theorem sizeLk : (Tryd.prog.info? 73).map (·.size) = some 4 := by kernel_rfl
set_option maxRecDepth 8000 in
theorem cellsOfLk : Tryd.prog.cellsOf 73 = 4 := by kernel_rfl
def LkAt (w : World) (b off : Nat) (x : Lk) : Prop := w.rangeAt b off x.cells
theorem LkAt.lt {w : World} {b off : Nat} {x : Lk} (h : LkAt w b off x) : b < w.heap.size := cell_lt (h 0 _ rfl)
theorem LkAt.below {w w' : World} {b off : Nat} {x : Lk} (h : LkAt w b off x) (hb : Below w.heap.size w w') : LkAt w' b off x := fun j v hv => (World.cell?_of_block (a := ⟨b, off + j, none⟩) (hb.block b h.lt)).trans (h j v hv)
theorem y_Lk {ops : Array Oper} {o : Oper} {a : Act} {S : World → Prop} (hw : Region.wanted o (yielded ops a.tmps) = true) (p : Operand) (ho : o.op = .load 73 p) (g off : Nat) (hx : a.eval p = .pointer (some ⟨g, off, none⟩)) (u : Lk) (hS : ∀ w, S w → LkAt w g off u) : YieldsIf Tryd.prog ops S o u.val a :=
  yieldsIf_load_mid hw 73 p ho g off hx u.cells _ hS Tryd.underlying73 rfl (by rw [u.len]; exact sizeLk)
section
variable {H : Type} {enc : TypeId × Value → H} {W : World} {base : Nat} {spare : Nat → Bool} {held : Bool} {fuel : Nat}
set_option maxRecDepth 100000 in
theorem cells_Lk {cs : List Value} {x : DataW H × List MemPlace} (h : DataW.trod enc Tryd.prog W base spare held fuel 73 cs = some x) : ∃ o : Lk, cs = o.cells := by
  obtain ⟨xs, n, _, _, hl, hn, hel⟩ := DataW.trod_struct Tryd.underlying73 h
  rw [cellsOfLk] at hl
  match xs, hn with
  | [y0, y1, y2, y3], _ =>
    have h0 : DataW.trod enc Tryd.prog W base spare held n 3 ((cs.drop 0).take (Tryd.prog.cellsOf 3)) = some y0 := hel 0 _ rfl
    have h1 : DataW.trod enc Tryd.prog W base spare held n 3 ((cs.drop 1).take (Tryd.prog.cellsOf 3)) = some y1 := hel 1 _ rfl
    have h2 : DataW.trod enc Tryd.prog W base spare held n 29 ((cs.drop 2).take (Tryd.prog.cellsOf 29)) = some y2 := hel 2 _ rfl
    have h3 : DataW.trod enc Tryd.prog W base spare held n 4 ((cs.drop 3).take (Tryd.prog.cellsOf 4)) = some y3 := hel 3 _ rfl
    rw [show Tryd.prog.cellsOf 3 = 1 by kernel_rfl] at h0
    rw [show Tryd.prog.cellsOf 3 = 1 by kernel_rfl] at h1
    rw [show Tryd.prog.cellsOf 29 = 1 by kernel_rfl] at h2
    rw [show Tryd.prog.cellsOf 4 = 1 by kernel_rfl] at h3
    match cs, hl with
    | [c0, c1, c2, c3], _ =>
      obtain ⟨q0, e0, _, w0⟩ := DataW.trod_int Tryd.underlying3 h0
      obtain ⟨q1, e1, _, w1⟩ := DataW.trod_int Tryd.underlying3 h1
      obtain ⟨q2, e2, _, w2⟩ := DataW.trod_int Tryd.underlying29 h2
      obtain ⟨q3, e3, _⟩ := DataW.trod_bool Tryd.underlying4 h3
      simp only [List.drop_zero, List.take_succ_cons, List.take_zero, List.drop_succ_cons, List.cons.injEq, and_true] at e0 e1 e2 e3
      subst e0 e1 e2 e3
      exact ⟨⟨q0, q1, q2, q3, wf_i64P w0, wf_i64P w1, wf_i64P w2⟩, rfl⟩
set_option maxRecDepth 8000 in
theorem open_Lk {r : Reach} {b0 : Nat} {v : Value} {d : DataW H} {p : List MemPlace} (hv : Value.okWide Tryd.prog W r b0 73 v) (h : DataW.Trod enc Tryd.prog W base spare held 73 v d p) : ∃ o : Lk, v = o.val := by
  obtain ⟨cs, rfl, _⟩ := okWide_struct Tryd.underlying73 hv
  obtain ⟨f, hf⟩ := h
  obtain ⟨o, ho⟩ := cells_Lk hf
  refine ⟨o, ?_⟩
  obtain ⟨l⟩ := cs
  simp only [Value.cells] at ho
  subst ho
  rfl
end
def zLk : Lk := ⟨0, 0, 0, false, by decide, by decide, by decide⟩
/-- such lie from A on -/
def RdLk (w : World) (A : Option Addr) (l : List Lk) : Prop := ∀ i (h : i < l.length), ∃ b off, A = some ⟨b, off, none⟩ ∧ LkAt w b (off + i * 4) l[i]
theorem RdLk.below {w w' : World} {A : Option Addr} {l : List Lk} (h : RdLk w A l) (hb : Below w.heap.size w w') : RdLk w' A l := fun i hi => by
  obtain ⟨b, off, e, ho⟩ := h i hi
  exact ⟨b, off, e, ho.below hb⟩
set_option maxRecDepth 8000 in
theorem open_Lks {H : Type} {enc : TypeId × Value → H} {W : World} {base : Nat} {spare : Nat → Bool} {held : Bool} {r : Reach} {b0 : Nat} {v : Value} {d : DataW H} {p : List MemPlace} (hv : Value.okWide Tryd.prog W r b0 71 v) (h : DataW.Trod enc Tryd.prog W base spare held 71 v d p) :
    ∃ (A : Option Addr) (l : List Lk) (cap : Nat), v = .slice A l.length cap ∧ l.length ≤ cap ∧ cap ≤ maxLen ∧ RdLk W A l := by
  obtain ⟨A, len, cap, rfl⟩ := okWide_slice Tryd.underlying71 hv
  obtain ⟨fuel, hf⟩ := h
  rcases Go.Deep.open_slice Tryd.underlying71 hf with ⟨hcs, _⟩ | ⟨a, len', cap', m, n, D, Pl, hcs, hb, hl, hm, hmm, hx, hi⟩
  · simp only [Value.cells, List.cons.injEq, Value.slice.injEq, and_true] at hcs
    obtain ⟨rfl, rfl, rfl⟩ := hcs
    exact ⟨none, [], 0, rfl, Nat.le_refl _, by simp [maxLen], fun i h => absurd h (by simp)⟩
  · simp only [Value.cells, List.cons.injEq, Value.slice.injEq, and_true] at hcs
    obtain ⟨rfl, rfl, rfl⟩ := hcs
    rw [cellsOfLk] at hi
    have hlen : len ≤ m := by rw [hmm]; split <;> omega
    have key : ∀ i, i < len → ∃ o : Lk, a.spot = none ∧ LkAt W a.block (a.off + i * 4) o := by
      intro i hil
      obtain ⟨cs', hc, ht⟩ := hi i (by omega)
      obtain ⟨o, rfl⟩ := cells_Lk ht
      obtain ⟨_, _, hat⟩ := World.cells?_some hc
      have hs' : a.spot = none := by
        obtain ⟨cs0, hc0, ht0⟩ := hi 0 (by omega)
        have h0 := (World.cells?_some hc0).2.2 0 (by decide)
        obtain ⟨o', rfl⟩ := cells_Lk ht0
        have := World.cell?_spot (h0.trans (show (Lk.cells o')[0]? = some _ from rfl))
        simpa [Addr.add] using this
      refine ⟨o, hs', fun j v hv => ?_⟩
      have e := add_add_flat hs' (i * 4)
      have hj : j < 4 := by have := (List.getElem?_eq_some_iff.1 hv).1; rwa [o.len] at this
      have := hat j hj
      rw [e, add_flat] at this
      rw [this, hv]
    have ex : ∃ l : List Lk, l.length = len ∧ ∀ i (h : i < l.length), a.spot = none ∧ LkAt W a.block (a.off + i * 4) l[i] := by
      refine ⟨(List.range len).map fun i => if h : i < len then (key i h).choose else zLk, by simp, fun i h => ?_⟩
      have hil : i < len := by simpa using h
      simp only [List.getElem_map, List.getElem_range, hil, dif_pos]
      exact (key i hil).choose_spec
    obtain ⟨l, rfl, hl2⟩ := ex
    refine ⟨some a, l, cap, rfl, hl, hm, fun i h => ?_⟩
    obtain ⟨hs, hk⟩ := hl2 i h
    obtain ⟨b, o, s⟩ := a
    simp only at hs
    subst hs
    exact ⟨b, o, rfl, hk⟩
set_option maxRecDepth 8000 in
theorem open_zs {H : Type} {enc : TypeId × Value → H} {W : World} {base : Nat} {spare : Nat → Bool} {held : Bool} {r : Reach} {b0 : Nat} {v : Value} {d : DataW H} {p : List MemPlace} (hv : Value.okWide Tryd.prog W r b0 61 v) (h : DataW.Trod enc Tryd.prog W base spare held 61 v d p) :
    ∃ (A : Option Addr) (l : List Int) (cap : Nat), v = .slice A l.length cap ∧ RdZ W A l ∧ ∀ z ∈ l, i64 z := by
  obtain ⟨A, len, cap, rfl⟩ := okWide_slice Tryd.underlying61 hv
  obtain ⟨fuel, hf⟩ := h
  rcases open_ints Tryd.underlying61 Tryd.underlying3 (by kernel_rfl) hf with ⟨hcs, _⟩ | ⟨a, len', cap', zs, hcs, hb, hl, hm, hlz, hx, hi, hw⟩
  · simp only [Value.cells, List.cons.injEq, Value.slice.injEq, and_true] at hcs
    obtain ⟨rfl, rfl, rfl⟩ := hcs
    exact ⟨none, [], 0, rfl, fun i h => absurd h (by simp), fun z hz => by cases hz⟩
  · simp only [Value.cells, List.cons.injEq, Value.slice.injEq, and_true] at hcs
    obtain ⟨rfl, rfl, rfl⟩ := hcs
    have hlen : len ≤ zs.length := by rw [hlz]; split <;> omega
    refine ⟨some a, zs.take len, cap, by rw [List.length_take, Nat.min_eq_left hlen], ?_, fun z hz => wf_i64P (hw z (List.mem_of_mem_take hz))⟩
    intro i hil
    have hi' : i < zs.length := by rw [List.length_take] at hil; omega
    have hcell := hi i hi'
    have hspot : a.spot = none := by
      have := World.cell?_spot (hi 0 (by omega))
      simpa [Addr.add] using this
    obtain ⟨b, off, spot⟩ := a
    simp only at hspot
    subst hspot
    refine ⟨b, off, rfl, ?_⟩
    rw [add_flat] at hcell
    rw [hcell, List.getD_eq_getElem?_getD, List.getElem?_eq_getElem hi']
    simp
set_option maxRecDepth 8000 in
theorem open_z6 {H : Type} {enc : TypeId × Value → H} {W : World} {base : Nat} {spare : Nat → Bool} {held : Bool} {r : Reach} {b0 : Nat} {v : Value} {d : DataW H} {p : List MemPlace} (hv : Value.okWide Tryd.prog W r b0 24 v) (h : DataW.Trod enc Tryd.prog W base spare held 24 v d p) :
    ∃ (A : Option Addr) (l : List Int) (cap : Nat), v = .slice A l.length cap ∧ RdZ W A l ∧ ∀ z ∈ l, i64 z := by
  obtain ⟨A, len, cap, rfl⟩ := okWide_slice Tryd.underlying24 hv
  obtain ⟨fuel, hf⟩ := h
  rcases open_ints Tryd.underlying24 Tryd.underlying2 (by kernel_rfl) hf with ⟨hcs, _⟩ | ⟨a, len', cap', zs, hcs, hb, hl, hm, hlz, hx, hi, hw⟩
  · simp only [Value.cells, List.cons.injEq, Value.slice.injEq, and_true] at hcs
    obtain ⟨rfl, rfl, rfl⟩ := hcs
    exact ⟨none, [], 0, rfl, fun i h => absurd h (by simp), fun z hz => by cases hz⟩
  · simp only [Value.cells, List.cons.injEq, Value.slice.injEq, and_true] at hcs
    obtain ⟨rfl, rfl, rfl⟩ := hcs
    have hlen : len ≤ zs.length := by rw [hlz]; split <;> omega
    refine ⟨some a, zs.take len, cap, by rw [List.length_take, Nat.min_eq_left hlen], ?_, fun z hz => wf_i64P (hw z (List.mem_of_mem_take hz))⟩
    intro i hil
    have hi' : i < zs.length := by rw [List.length_take] at hil; omega
    have hcell := hi i hi'
    have hspot : a.spot = none := by
      have := World.cell?_spot (hi 0 (by omega))
      simpa [Addr.add] using this
    obtain ⟨b, off, spot⟩ := a
    simp only at hspot
    subst hspot
    refine ⟨b, off, rfl, ?_⟩
    rw [add_flat] at hcell
    rw [hcell, List.getD_eq_getElem?_getD, List.getElem?_eq_getElem hi']
    simp
end Go.Proofs.YtfckdbennjkgoaaDoor

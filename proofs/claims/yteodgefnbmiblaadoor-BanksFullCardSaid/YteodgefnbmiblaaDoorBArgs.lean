/- law 12: calls as arguments: words. -/
import Derived.Test.YteodgefnbmiblaaDoorBDef
import Derived.Test.YteodgefnbmiblaaDoorR13
import Derived.Test.YteodgefnbmiblaaDoorR05
namespace Go.Proofs.YteodgefnbmiblaaDoor
open Go.ChangeShapes Go.WideShapes Go.ChangeAt Go.RowKit
/-- a call's cells -/
abbrev ba (k n : Int) (x y : Ky) (j : Int) : Array Value := #[.int .i64 k, .int .i64 n, .int .i64 x.k, .int .i64 x.o, .int .i64 x.c, .int .i64 x.l, .int .i64 x.r, .int .i64 x.v, .int .i64 y.k, .int .i64 y.o, .int .i64 y.c, .int .i64 y.l, .int .i64 y.r, .int .i64 y.v, .int .i64 j]
/-- a call -/
structure Ba where
  k : Int
  n : Int
  x : Ky
  y : Ky
  j : Int
def Ba.cells (a : Ba) : List Value := .int .i64 a.k :: .int .i64 a.n :: (kl a.x ++ (kl a.y ++ [.int .i64 a.j]))
abbrev Ba.val (a : Ba) : Value := .agg (ba a.k a.n a.x a.y a.j)
theorem Ba.eq (a : Ba) : a.cells.toArray = ba a.k a.n a.x a.y a.j := rfl
theorem Ba.len (a : Ba) : a.cells.length = 15 := rfl
def zba : Ba := ⟨0, 0, zk, zk, 0⟩
set_option maxRecDepth 8000 in
theorem sizeBa : (Tryd.prog.info? 37).map (·.size) = some 15 := by kernel_rfl
set_option maxRecDepth 8000 in
theorem cellsOfBa : Tryd.prog.cellsOf 37 = 15 := by kernel_rfl
def BaAt (w : World) (b off : Nat) (x : Ba) : Prop := w.rangeAt b off x.cells
section
variable {w w' : World} {b off : Nat} {x : Ba}
theorem BaAt.lt (h : BaAt w b off x) : b < w.heap.size := cell_lt (h 0 _ rfl)
theorem BaAt.below (h : BaAt w b off x) (hb : Below w.heap.size w w') : BaAt w' b off x := fun j v hv => (World.cell?_of_block (a := ⟨b, off + j, none⟩) (hb.block b h.lt)).trans (h j v hv)
theorem BaAt.drew (h : BaAt w b off x) : BaAt w.drew b off x := h
end
theorem y_ba {ops : Array Oper} {o : Oper} {a : Act} {S : World → Prop} (hw : Region.wanted o (yielded ops a.tmps) = true) (p : Operand) (ho : o.op = .load 37 p) (g off : Nat) (hx : a.eval p = .pointer (some ⟨g, off, none⟩)) (u : Ba) (hS : ∀ w, S w → BaAt w g off u) : YieldsIf Tryd.prog ops S o u.val a :=
  yieldsIf_load_mid hw 37 p ho g off hx u.cells _ hS Tryd.underlying37 rfl (by rw [u.len]; exact sizeBa)
/-- the calls l lie from A on -/
def RdB (w : World) (A : Option Addr) (l : List Ba) : Prop := ∀ i (h : i < l.length), ∃ b off, A = some ⟨b, off, none⟩ ∧ BaAt w b (off + i * 15) l[i]
theorem RdB.below {w w' : World} {A : Option Addr} {l : List Ba} (h : RdB w A l) (hb : Below w.heap.size w w') : RdB w' A l := fun i hi => by
  obtain ⟨b, off, e, ho⟩ := h i hi
  exact ⟨b, off, e, ho.below hb⟩
section
variable {H : Type} {enc : TypeId × Value → H} {W : World} {base : Nat} {spare : Nat → Bool} {held : Bool} {fuel : Nat}
set_option maxRecDepth 100000 in
theorem ba_cells {cs : List Value} {x : DataW H × List MemPlace} (h : DataW.trod enc Tryd.prog W base spare held fuel 37 cs = some x) : ∃ o : Ba, cs = o.cells := by
  obtain ⟨xs, n, _, _, hl, hn, hel⟩ := DataW.trod_struct Tryd.underlying37 h
  rw [cellsOfBa] at hl
  match xs, hn with
  | [y0, y1, y2, y3, y4], _ =>
    have h0 : DataW.trod enc Tryd.prog W base spare held n 3 ((cs.drop 0).take (Tryd.prog.cellsOf 3)) = some y0 := hel 0 _ rfl
    have h1 : DataW.trod enc Tryd.prog W base spare held n 3 ((cs.drop 1).take (Tryd.prog.cellsOf 3)) = some y1 := hel 1 _ rfl
    have h2 : DataW.trod enc Tryd.prog W base spare held n 33 ((cs.drop 2).take (Tryd.prog.cellsOf 33)) = some y2 := hel 2 _ rfl
    have h3 : DataW.trod enc Tryd.prog W base spare held n 33 ((cs.drop 8).take (Tryd.prog.cellsOf 33)) = some y3 := hel 3 _ rfl
    have h4 : DataW.trod enc Tryd.prog W base spare held n 35 ((cs.drop 14).take (Tryd.prog.cellsOf 35)) = some y4 := hel 4 _ rfl
    rw [show Tryd.prog.cellsOf 3 = 1 by kernel_rfl] at h0 h1
    rw [show Tryd.prog.cellsOf 35 = 1 by kernel_rfl] at h4
    rw [cellsOf30] at h2 h3
    match cs, hl with
    | [c0, c1, c2, c3, c4, c5, c6, c7, c8, c9, c10, c11, c12, c13, c14], _ =>
      obtain ⟨p, e0, _, _⟩ := DataW.trod_int Tryd.underlying3 h0
      obtain ⟨q, e1, _, _⟩ := DataW.trod_int Tryd.underlying3 h1
      obtain ⟨y, e2⟩ := key_cells h2
      obtain ⟨z, e3⟩ := key_cells h3
      obtain ⟨s, e4, _, _⟩ := DataW.trod_int Tryd.underlying35 h4
      simp only [List.drop_zero, List.take_succ_cons, List.take_zero, List.drop_succ_cons, List.cons.injEq, and_true] at e0 e1 e2 e3 e4
      obtain ⟨rfl, rfl, rfl, rfl, rfl, rfl⟩ := e2
      obtain ⟨rfl, rfl, rfl, rfl, rfl, rfl⟩ := e3
      subst e0 e1 e4
      exact ⟨⟨p, q, y, z, s⟩, rfl⟩
set_option maxRecDepth 8000 in
theorem open_ba {r : Reach} {b0 : Nat} {v : Value} {d : DataW H} {p : List MemPlace} (hv : Value.okWide Tryd.prog W r b0 37 v) (h : DataW.Trod enc Tryd.prog W base spare held 37 v d p) : ∃ o : Ba, v = o.val := by
  obtain ⟨cs, rfl, _⟩ := okWide_struct Tryd.underlying37 hv
  obtain ⟨f, hf⟩ := h
  obtain ⟨o, ho⟩ := ba_cells hf
  refine ⟨o, ?_⟩
  obtain ⟨l⟩ := cs
  simp only [Value.cells] at ho
  subst ho
  rfl
set_option maxRecDepth 8000 in
theorem open_bas {r : Reach} {b0 : Nat} {v : Value} {d : DataW H} {p : List MemPlace} (hv : Value.okWide Tryd.prog W r b0 23 v) (h : DataW.Trod enc Tryd.prog W base spare held 23 v d p) :
    ∃ (A : Option Addr) (l : List Ba) (cap : Nat), v = .slice A l.length cap ∧ l.length ≤ cap ∧ cap ≤ maxLen ∧ RdB W A l := by
  obtain ⟨A, len, cap, rfl⟩ := okWide_slice Tryd.underlying23 hv
  obtain ⟨fuel, hf⟩ := h
  rcases Go.Deep.open_slice Tryd.underlying23 hf with ⟨hcs, _⟩ | ⟨a, len', cap', m, n, D, Pl, hcs, hb, hl, hm, hmm, hx, hi⟩
  · simp only [Value.cells, List.cons.injEq, Value.slice.injEq, and_true] at hcs
    obtain ⟨rfl, rfl, rfl⟩ := hcs
    exact ⟨none, [], 0, rfl, Nat.le_refl _, by simp [maxLen], fun i h => absurd h (by simp)⟩
  · simp only [Value.cells, List.cons.injEq, Value.slice.injEq, and_true] at hcs
    obtain ⟨rfl, rfl, rfl⟩ := hcs
    rw [cellsOfBa] at hi
    have hlen : len ≤ m := by rw [hmm]; split <;> omega
    have key : ∀ i, i < len → ∃ o : Ba, a.spot = none ∧ BaAt W a.block (a.off + i * 15) o := by
      intro i hil
      obtain ⟨cs', hc, ht⟩ := hi i (by omega)
      obtain ⟨o, rfl⟩ := ba_cells ht
      obtain ⟨_, _, hat⟩ := World.cells?_some hc
      have hs' : a.spot = none := by
        obtain ⟨cs0, hc0, ht0⟩ := hi 0 (by omega)
        have h0 := (World.cells?_some hc0).2.2 0 (by decide)
        obtain ⟨o', rfl⟩ := ba_cells ht0
        have := World.cell?_spot (h0.trans (show (Ba.cells o')[0]? = some _ from rfl))
        simpa [Addr.add] using this
      refine ⟨o, hs', fun j v hv => ?_⟩
      have e := add_add_flat hs' (i * 15)
      have hj : j < 15 := by have := (List.getElem?_eq_some_iff.1 hv).1; rwa [o.len] at this
      have := hat j hj
      rw [e, add_flat] at this
      rw [this, hv]
    have ex : ∃ l : List Ba, l.length = len ∧ ∀ i (h : i < l.length), a.spot = none ∧ BaAt W a.block (a.off + i * 15) l[i] := by
      refine ⟨(List.range len).map fun i => if h : i < len then (key i h).choose else zba, by simp, fun i h => ?_⟩
      have hil : i < len := by simpa using h
      simp only [List.getElem_map, List.getElem_range, hil, dif_pos]
      exact (key i hil).choose_spec
    obtain ⟨l, rfl, hl2⟩ := ex
    refine ⟨some a, l, cap, rfl, hl, hm, fun i h => ?_⟩
    obtain ⟨hs, hk⟩ := hl2 i h
    obtain ⟨b, o, s⟩ := a
    simp only at hs
    subst hs
    exact ⟨b, o, rfl, hk⟩
end
end Go.Proofs.YteodgefnbmiblaaDoor

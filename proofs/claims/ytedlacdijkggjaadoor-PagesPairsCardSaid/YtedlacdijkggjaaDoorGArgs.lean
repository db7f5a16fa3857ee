/- law 10: calls, bytes, places as arguments: words. -/
import Derived.Test.YtedlacdijkggjaaDoorGDoes
import Derived.Test.YtedlacdijkggjaaDoorR12
import Derived.ChangeMaps5
namespace Go.Proofs.YtedlacdijkggjaaDoor
open Go.ChangeShapes Go.WideShapes Go.ChangeAt Go.RowKit
set_option maxRecDepth 8000 in
theorem wf_i64P {n : Int} (h : (Lit.int .i64 n).wf = true) : -9223372036854775808 ≤ n ∧ n ≤ 9223372036854775807 := by
  have h1 : IntKind.i64.min = -9223372036854775808 := rfl
  have h2 : IntKind.i64.max = 9223372036854775807 := rfl
  simp only [Lit.wf, Bool.and_eq_true, decide_eq_true_eq] at h
  omega
structure Pa where
  k : Int
  a : Int
  n : Int
  x : Ky
  y : Ky
  s : List UInt8
  ha : a ≤ 9223372036854775807
def Pa.cells (p : Pa) : List Value := .int .i64 p.k :: .int .i64 p.a :: .int .i64 p.n :: (kl p.x ++ (kl p.y ++ [.string (st p.s)]))
abbrev Pa.val (p : Pa) : Value := .agg (pa p.k p.a p.n p.x p.y p.s)
theorem Pa.eq (p : Pa) : p.cells.toArray = pa p.k p.a p.n p.x p.y p.s := rfl
theorem Pa.len (p : Pa) : p.cells.length = 16 := rfl
def zpa : Pa := ⟨0, 0, 0, zk, zk, [], by decide⟩
set_option maxRecDepth 8000 in
theorem sizePa : (Tryd.prog.info? 32).map (·.size) = some 16 := by kernel_rfl
set_option maxRecDepth 8000 in
theorem cellsOfPa : Tryd.prog.cellsOf 32 = 16 := by kernel_rfl
def PaAt (w : World) (b off : Nat) (x : Pa) : Prop := w.rangeAt b off x.cells
section
variable {w w' : World} {b off : Nat} {x : Pa}
theorem PaAt.lt (h : PaAt w b off x) : b < w.heap.size := cell_lt (h 0 _ rfl)
theorem PaAt.below (h : PaAt w b off x) (hb : Below w.heap.size w w') : PaAt w' b off x := fun j v hv => (World.cell?_of_block (a := ⟨b, off + j, none⟩) (hb.block b h.lt)).trans (h j v hv)
theorem PaAt.drew (h : PaAt w b off x) : PaAt w.drew b off x := h
theorem PaAt.str (h : PaAt w b off x) : w.cell? ⟨b, off + 15, none⟩ = some (.string (st x.s)) := h 15 _ rfl
end
theorem y_pa {ops : Array Oper} {o : Oper} {a : Act} {S : World → Prop} (hw : Region.wanted o (yielded ops a.tmps) = true) (p : Operand) (ho : o.op = .load 32 p) (g off : Nat) (hx : a.eval p = .pointer (some ⟨g, off, none⟩)) (u : Pa) (hS : ∀ w, S w → PaAt w g off u) : YieldsIf Tryd.prog ops S o u.val a :=
  yieldsIf_load_mid hw 32 p ho g off hx u.cells _ hS Tryd.underlying32 rfl (by rw [u.len]; exact sizePa)
/-- the calls l lie from A on -/
def RdPa (w : World) (A : Option Addr) (l : List Pa) : Prop := ∀ i (h : i < l.length), ∃ b off, A = some ⟨b, off, none⟩ ∧ PaAt w b (off + i * 16) l[i]
theorem RdPa.below {w w' : World} {A : Option Addr} {l : List Pa} (h : RdPa w A l) (hb : Below w.heap.size w w') : RdPa w' A l := fun i hi => by
  obtain ⟨b, off, e, ho⟩ := h i hi
  exact ⟨b, off, e, ho.below hb⟩
/-- ints lie from A on -/
def RdZ (w : World) (A : Option Addr) (l : List Int) : Prop := ∀ i (h : i < l.length), ∃ b off, A = some ⟨b, off, none⟩ ∧ w.cell? ⟨b, off + i, none⟩ = some (.int .i64 l[i])
theorem RdZ.below {w w' : World} {A : Option Addr} {l : List Int} (h : RdZ w A l) (hb : Below w.heap.size w w') : RdZ w' A l := fun i hi => by
  obtain ⟨b, off, e, ho⟩ := h i hi
  exact ⟨b, off, e, (World.cell?_of_block (a := ⟨b, off + i, none⟩) (hb.block b (cell_lt ho))).trans ho⟩
/-- a place and bytes -/
abbrev xbc (a : Int) (s : List UInt8) : Array Value := #[.int .i64 a, .string (st s)]
section
variable {H : Type} {enc : TypeId × Value → H} {W : World} {base : Nat} {spare : Nat → Bool} {held : Bool} {fuel : Nat}
set_option maxRecDepth 100000 in
theorem pa_cells {cs : List Value} {x : DataW H × List MemPlace} (h : DataW.trod enc Tryd.prog W base spare held fuel 32 cs = some x) : ∃ o : Pa, cs = o.cells := by
  obtain ⟨xs, n, _, _, hl, hn, hel⟩ := DataW.trod_struct Tryd.underlying32 h
  rw [cellsOfPa] at hl
  match xs, hn with
  | [y0, y1, y2, y3, y4, y5], _ =>
    have h0 : DataW.trod enc Tryd.prog W base spare held n 3 ((cs.drop 0).take (Tryd.prog.cellsOf 3)) = some y0 := hel 0 _ rfl
    have h1 : DataW.trod enc Tryd.prog W base spare held n 3 ((cs.drop 1).take (Tryd.prog.cellsOf 3)) = some y1 := hel 1 _ rfl
    have h2 : DataW.trod enc Tryd.prog W base spare held n 3 ((cs.drop 2).take (Tryd.prog.cellsOf 3)) = some y2 := hel 2 _ rfl
    have h3 : DataW.trod enc Tryd.prog W base spare held n 30 ((cs.drop 3).take (Tryd.prog.cellsOf 30)) = some y3 := hel 3 _ rfl
    have h4 : DataW.trod enc Tryd.prog W base spare held n 30 ((cs.drop 9).take (Tryd.prog.cellsOf 30)) = some y4 := hel 4 _ rfl
    have h5 : DataW.trod enc Tryd.prog W base spare held n 9 ((cs.drop 15).take (Tryd.prog.cellsOf 9)) = some y5 := hel 5 _ rfl
    rw [show Tryd.prog.cellsOf 3 = 1 by kernel_rfl] at h0 h1 h2
    rw [show Tryd.prog.cellsOf 9 = 1 by kernel_rfl] at h5
    rw [cellsOf30] at h3 h4
    match cs, hl with
    | [c0, c1, c2, c3, c4, c5, c6, c7, c8, c9, c10, c11, c12, c13, c14, c15], _ =>
      obtain ⟨p, e0, _, _⟩ := DataW.trod_int Tryd.underlying3 h0
      obtain ⟨q, e1, _, hw⟩ := DataW.trod_int Tryd.underlying3 h1
      obtain ⟨r, e2, _, _⟩ := DataW.trod_int Tryd.underlying3 h2
      obtain ⟨y, e3⟩ := key_cells h3
      obtain ⟨z, e4⟩ := key_cells h4
      obtain ⟨s, e5, _, _⟩ := DataW.trod_string Tryd.underlying9 h5
      obtain ⟨l, rfl⟩ := st_of s
      simp only [List.drop_zero, List.take_succ_cons, List.take_zero, List.drop_succ_cons, List.cons.injEq, and_true] at e0 e1 e2 e3 e4 e5
      obtain ⟨rfl, rfl, rfl, rfl, rfl, rfl⟩ := e3
      obtain ⟨rfl, rfl, rfl, rfl, rfl, rfl⟩ := e4
      subst e0 e1 e2 e5
      exact ⟨⟨p, q, r, y, z, l, (wf_i64P hw).2⟩, rfl⟩
set_option maxRecDepth 8000 in
theorem open_pa {r : Reach} {b0 : Nat} {v : Value} {d : DataW H} {p : List MemPlace} (hv : Value.okWide Tryd.prog W r b0 32 v) (h : DataW.Trod enc Tryd.prog W base spare held 32 v d p) : ∃ o : Pa, v = o.val := by
  obtain ⟨cs, rfl, _⟩ := okWide_struct Tryd.underlying32 hv
  obtain ⟨f, hf⟩ := h
  obtain ⟨o, ho⟩ := pa_cells hf
  refine ⟨o, ?_⟩
  obtain ⟨l⟩ := cs
  simp only [Value.cells] at ho
  subst ho
  rfl
set_option maxRecDepth 8000 in
theorem open_st {r : Reach} {b0 : Nat} {v : Value} {d : DataW H} {p : List MemPlace} (hv : Value.okWide Tryd.prog W r b0 9 v) (h : DataW.Trod enc Tryd.prog W base spare held 9 v d p) : ∃ s, v = .string (st s) := by
  obtain ⟨s, rfl⟩ := okWide_string Tryd.underlying9 hv
  obtain ⟨l, rfl⟩ := st_of s
  exact ⟨l, rfl⟩
set_option maxRecDepth 8000 in
theorem open_xb {r : Reach} {b0 : Nat} {v : Value} {d : DataW H} {p : List MemPlace} (hv : Value.okWide Tryd.prog W r b0 38 v) (h : DataW.Trod enc Tryd.prog W base spare held 38 v d p) : ∃ a s, v = .agg (xbc a s) ∧ a ≤ 9223372036854775807 := by
  obtain ⟨cs, rfl, _⟩ := okWide_struct Tryd.underlying38 hv
  obtain ⟨f, hf⟩ := h
  obtain ⟨l⟩ := cs
  simp only [Value.cells] at hf
  obtain ⟨xs, n, _, _, hl, hn, hel⟩ := DataW.trod_struct Tryd.underlying38 hf
  rw [show Tryd.prog.cellsOf 38 = 2 by kernel_rfl] at hl
  match xs, hn with
  | [y0, y1], _ =>
    have h0 : DataW.trod enc Tryd.prog W base spare held n 3 ((l.drop 0).take (Tryd.prog.cellsOf 3)) = some y0 := hel 0 _ rfl
    have h1 : DataW.trod enc Tryd.prog W base spare held n 9 ((l.drop 1).take (Tryd.prog.cellsOf 9)) = some y1 := hel 1 _ rfl
    rw [show Tryd.prog.cellsOf 3 = 1 by kernel_rfl] at h0
    rw [show Tryd.prog.cellsOf 9 = 1 by kernel_rfl] at h1
    match l, hl with
    | [c0, c1], _ =>
      obtain ⟨q, e0, _, hw⟩ := DataW.trod_int Tryd.underlying3 h0
      obtain ⟨s, e1, _, _⟩ := DataW.trod_string Tryd.underlying9 h1
      obtain ⟨t, rfl⟩ := st_of s
      simp only [List.drop_zero, List.take_succ_cons, List.take_zero, List.drop_succ_cons, List.cons.injEq, and_true] at e0 e1
      subst e0 e1
      exact ⟨q, t, rfl, (wf_i64P hw).2⟩
set_option maxRecDepth 8000 in
theorem open_zs {r : Reach} {b0 : Nat} {v : Value} {d : DataW H} {p : List MemPlace} (hv : Value.okWide Tryd.prog W r b0 44 v) (h : DataW.Trod enc Tryd.prog W base spare held 44 v d p) :
    ∃ (A : Option Addr) (l : List Int) (cap : Nat), v = .slice A l.length cap ∧ RdZ W A l ∧ ∀ z ∈ l, z ≤ 9223372036854775807 := by
  obtain ⟨A, len, cap, rfl⟩ := okWide_slice Tryd.underlying44 hv
  obtain ⟨fuel, hf⟩ := h
  rcases open_ints Tryd.underlying44 Tryd.underlying3 (by kernel_rfl) hf with ⟨hcs, _⟩ | ⟨a, len', cap', zs, hcs, hb, hl, hm, hlz, hx, hi, hw⟩
  · simp only [Value.cells, List.cons.injEq, Value.slice.injEq, and_true] at hcs
    obtain ⟨rfl, rfl, rfl⟩ := hcs
    exact ⟨none, [], 0, rfl, fun i h => absurd h (by simp), fun z hz => by cases hz⟩
  · simp only [Value.cells, List.cons.injEq, Value.slice.injEq, and_true] at hcs
    obtain ⟨rfl, rfl, rfl⟩ := hcs
    have hlen : len ≤ zs.length := by rw [hlz]; split <;> omega
    refine ⟨some a, zs.take len, cap, by rw [List.length_take, Nat.min_eq_left hlen], ?_, fun z hz => (wf_i64P (hw z (List.mem_of_mem_take hz))).2⟩
    intro i hil
    have hi' : i < zs.length := by rw [List.length_take] at hil; omega
    have hcell := hi i hi'
    have hspot : a.spot = none := by
      have := World.cell?_spot (hi 0 (by omega))
      simpa [Addr.add] using this
    obtain ⟨b, off, spot⟩ := a
    simp only at hspot
    subst hspot
    refine ⟨b, off, rfl, ?_⟩
    rw [add_flat] at hcell
    rw [hcell, List.getD_eq_getElem?_getD, List.getElem?_eq_getElem hi']
    simp
set_option maxRecDepth 8000 in
theorem open_pas {r : Reach} {b0 : Nat} {v : Value} {d : DataW H} {p : List MemPlace} (hv : Value.okWide Tryd.prog W r b0 23 v) (h : DataW.Trod enc Tryd.prog W base spare held 23 v d p) :
    ∃ (A : Option Addr) (l : List Pa) (cap : Nat), v = .slice A l.length cap ∧ l.length ≤ cap ∧ cap ≤ maxLen ∧ RdPa W A l := by
  obtain ⟨A, len, cap, rfl⟩ := okWide_slice Tryd.underlying23 hv
  obtain ⟨fuel, hf⟩ := h
  rcases Go.Deep.open_slice Tryd.underlying23 hf with ⟨hcs, _⟩ | ⟨a, len', cap', m, n, D, Pl, hcs, hb, hl, hm, hmm, hx, hi⟩
  · simp only [Value.cells, List.cons.injEq, Value.slice.injEq, and_true] at hcs
    obtain ⟨rfl, rfl, rfl⟩ := hcs
    exact ⟨none, [], 0, rfl, Nat.le_refl _, by simp [maxLen], fun i h => absurd h (by simp)⟩
  · simp only [Value.cells, List.cons.injEq, Value.slice.injEq, and_true] at hcs
    obtain ⟨rfl, rfl, rfl⟩ := hcs
    rw [cellsOfPa] at hi
    have hlen : len ≤ m := by rw [hmm]; split <;> omega
    have key : ∀ i, i < len → ∃ o : Pa, a.spot = none ∧ PaAt W a.block (a.off + i * 16) o := by
      intro i hil
      obtain ⟨cs', hc, ht⟩ := hi i (by omega)
      obtain ⟨o, rfl⟩ := pa_cells ht
      obtain ⟨_, _, hat⟩ := World.cells?_some hc
      have hs' : a.spot = none := by
        obtain ⟨cs0, hc0, ht0⟩ := hi 0 (by omega)
        have h0 := (World.cells?_some hc0).2.2 0 (by decide)
        obtain ⟨o', rfl⟩ := pa_cells ht0
        have := World.cell?_spot (h0.trans (show (Pa.cells o')[0]? = some _ from rfl))
        simpa [Addr.add] using this
      refine ⟨o, hs', fun j v hv => ?_⟩
      have e := add_add_flat hs' (i * 16)
      have hj : j < 16 := by have := (List.getElem?_eq_some_iff.1 hv).1; rwa [o.len] at this
      have := hat j hj
      rw [e, add_flat] at this
      rw [this, hv]
    have ex : ∃ l : List Pa, l.length = len ∧ ∀ i (h : i < l.length), a.spot = none ∧ PaAt W a.block (a.off + i * 16) l[i] := by
      refine ⟨(List.range len).map fun i => if h : i < len then (key i h).choose else zpa, by simp, fun i h => ?_⟩
      have hil : i < len := by simpa using h
      simp only [List.getElem_map, List.getElem_range, hil, dif_pos]
      exact (key i hil).choose_spec
    obtain ⟨l, rfl, hl2⟩ := ex
    refine ⟨some a, l, cap, rfl, hl, hm, fun i h => ?_⟩
    obtain ⟨hs, hk⟩ := hl2 i h
    obtain ⟨b, o, s⟩ := a
    simp only at hs
    subst hs
    exact ⟨b, o, rfl, hk⟩
end
end Go.Proofs.YtedlacdijkggjaaDoor

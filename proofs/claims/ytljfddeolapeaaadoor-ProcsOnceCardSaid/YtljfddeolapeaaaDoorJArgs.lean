/- law 13: calls, messages as arguments: words. -/
import Derived.Test.YtljfddeolapeaaaDoorJKn
import Derived.Test.YtljfddeolapeaaaDoorR13
import Derived.ChangeMaps5
namespace Go.Proofs.YtljfddeolapeaaaDoor
open Go.ChangeShapes Go.WideShapes Go.ChangeAt Go.RowKit
structure Ja where
  k : Int
  i : Int
  x : Ky
  md : Int
  s : Int
  m : Mg
def Ja.cells (a : Ja) : List Value := .int .i64 a.k :: .int .i64 a.i :: (kl a.x ++ (.int .i64 a.md :: .int .i64 a.s :: a.m.cells))
abbrev Ja.val (a : Ja) : Value := .agg a.cells.toArray
set_option maxRecDepth 8000 in
theorem Ja.len (a : Ja) : a.cells.length = 30 := by simp [Ja.cells, kl_len, a.m.len]
def zja : Ja := ⟨0, 0, zk, 0, 0, mz⟩
set_option maxRecDepth 8000 in
theorem sizeJa : (Tryd.prog.info? 40).map (·.size) = some 30 := by kernel_rfl
set_option maxRecDepth 8000 in
theorem cellsOfJa : Tryd.prog.cellsOf 40 = 30 := by kernel_rfl
set_option maxRecDepth 8000 in
theorem cellsOfM : Tryd.prog.cellsOf 38 = 20 := by kernel_rfl
set_option maxRecDepth 8000 in
theorem cellsOf3k : Tryd.prog.cellsOf 36 = 18 := by kernel_rfl
set_option maxRecDepth 8000 in
theorem Ja.one (a : Ja) : ∀ v ∈ a.cells, v.oneCell' = true := by
  intro v hv
  simp only [Ja.cells, List.mem_cons, List.mem_append] at hv
  rcases hv with rfl | rfl | h | rfl | rfl | h
  · rfl
  · rfl
  · exact kl_one _ v h
  · rfl
  · rfl
  · exact a.m.one v h
def JaAt (w : World) (b off : Nat) (x : Ja) : Prop := w.rangeAt b off x.cells
section
variable {w w' : World} {b off : Nat} {x : Ja}
theorem JaAt.lt (h : JaAt w b off x) : b < w.heap.size := cell_lt (h 0 _ rfl)
theorem JaAt.below (h : JaAt w b off x) (hb : Below w.heap.size w w') : JaAt w' b off x := fun j v hv => (World.cell?_of_block (a := ⟨b, off + j, none⟩) (hb.block b h.lt)).trans (h j v hv)
theorem JaAt.drew (h : JaAt w b off x) : JaAt w.drew b off x := h
theorem JaAt.kind (h : JaAt w b off x) : w.cell? ⟨b, off, none⟩ = some (.int .i64 x.k) := h 0 _ rfl
theorem JaAt.oid (h : JaAt w b off x) : w.cell? ⟨b, off + 1, none⟩ = some (.int .i64 x.i) := h 1 _ rfl
theorem JaAt.key (h : JaAt w b off x) : KeyAt w b (off + 2) x.x := ⟨h 2 _ rfl, h 3 _ rfl, h 4 _ rfl, h 5 _ rfl, h 6 _ rfl, h 7 _ rfl⟩
theorem JaAt.mode (h : JaAt w b off x) : w.cell? ⟨b, off + 8, none⟩ = some (.int .i64 x.md) := h 8 _ rfl
theorem JaAt.state (h : JaAt w b off x) : w.cell? ⟨b, off + 9, none⟩ = some (.int .i64 x.s) := h 9 _ rfl
theorem JaAt.msg (h : JaAt w b off x) : MgAt w b (off + 10) x.m := fun j v hv => by
  have := h (j + 10) v hv
  rw [show off + 10 + j = off + (j + 10) by omega]
  exact this
theorem Blk.ja {t : TypeId} (h : Blk w b t x.cells.toArray) : JaAt w b 0 x := h.range
end
theorem y_ja {ops : Array Oper} {o : Oper} {a : Act} {S : World → Prop} (hw : Region.wanted o (yielded ops a.tmps) = true) (p : Operand) (ho : o.op = .load 40 p) (g off : Nat) (hx : a.eval p = .pointer (some ⟨g, off, none⟩)) (u : Ja) (hS : ∀ w, S w → JaAt w g off u) : YieldsIf Tryd.prog ops S o u.val a :=
  yieldsIf_load_mid hw 40 p ho g off hx u.cells _ hS Tryd.underlying40 rfl (by rw [u.len]; exact sizeJa)
/-- the calls l lie from A on -/
def RdJ (w : World) (A : Option Addr) (l : List Ja) : Prop := ∀ i (h : i < l.length), ∃ b off, A = some ⟨b, off, none⟩ ∧ JaAt w b (off + i * 30) l[i]
theorem RdJ.below {w w' : World} {A : Option Addr} {l : List Ja} (h : RdJ w A l) (hb : Below w.heap.size w w') : RdJ w' A l := fun i hi => by
  obtain ⟨b, off, e, ho⟩ := h i hi
  exact ⟨b, off, e, ho.below hb⟩
theorem RdJ.drew {w : World} {A : Option Addr} {l : List Ja} (h : RdJ w A l) : RdJ w.drew A l := h
section
variable {H : Type} {enc : TypeId × Value → H} {W : World} {base : Nat} {spare : Nat → Bool} {held : Bool} {fuel : Nat}
set_option maxRecDepth 8000 in
theorem k3_cells {cs : List Value} {x : DataW H × List MemPlace} (h : DataW.trod enc Tryd.prog W base spare held fuel 36 cs = some x) : ∃ l : List Ky, l.length = 3 ∧ cs = kcs l := by
  obtain ⟨xs, n, _, _, hl, hn, hel⟩ := DataW.trod_array Tryd.underlying36 h
  rw [cellsOf3k] at hl
  rw [cellsOf30] at hel
  refine keys_of_chunks 3 cs hl (fun i hi => ?_)
  have := hel i hi
  rw [List.getElem?_eq_getElem (by omega)] at this
  obtain ⟨y, hy⟩ := key_cells this
  exact ⟨y, hy⟩
set_option maxRecDepth 100000 in
theorem mg_cells {cs : List Value} {x : DataW H × List MemPlace} (h : DataW.trod enc Tryd.prog W base spare held fuel 38 cs = some x) : ∃ o : Mg, cs = o.cells := by
  obtain ⟨xs, n, _, _, hl, hn, hel⟩ := DataW.trod_struct Tryd.underlying38 h
  rw [cellsOfM] at hl
  match xs, hn with
  | [y0, y1, y2], _ =>
    have h0 : DataW.trod enc Tryd.prog W base spare held n 2 ((cs.drop 0).take (Tryd.prog.cellsOf 2)) = some y0 := hel 0 _ rfl
    have h1 : DataW.trod enc Tryd.prog W base spare held n 9 ((cs.drop 1).take (Tryd.prog.cellsOf 9)) = some y1 := hel 1 _ rfl
    have h2 : DataW.trod enc Tryd.prog W base spare held n 36 ((cs.drop 2).take (Tryd.prog.cellsOf 36)) = some y2 := hel 2 _ rfl
    rw [show Tryd.prog.cellsOf 2 = 1 by kernel_rfl] at h0
    rw [show Tryd.prog.cellsOf 9 = 1 by kernel_rfl] at h1
    rw [cellsOf3k] at h2
    match cs, hl with
    | c0 :: c1 :: cs, hl =>
      obtain ⟨p, e0, _, _⟩ := DataW.trod_int Tryd.underlying2 h0
      obtain ⟨s, e1, _, _⟩ := DataW.trod_string Tryd.underlying9 h1
      obtain ⟨l, hll, e2⟩ := k3_cells h2
      obtain ⟨d, rfl⟩ := st_of s
      simp only [List.drop_zero, List.take_succ_cons, List.take_zero, List.drop_succ_cons, List.cons.injEq, and_true] at e0 e1 e2
      rw [List.take_of_length_le (by simp at hl ⊢; omega)] at e2
      subst e0 e1 e2
      exact ⟨⟨p, d, l, hll⟩, rfl⟩
set_option maxRecDepth 100000 in
theorem ja_cells {cs : List Value} {x : DataW H × List MemPlace} (h : DataW.trod enc Tryd.prog W base spare held fuel 40 cs = some x) : ∃ o : Ja, cs = o.cells := by
  obtain ⟨xs, n, _, _, hl, hn, hel⟩ := DataW.trod_struct Tryd.underlying40 h
  rw [cellsOfJa] at hl
  match xs, hn with
  | [y0, y1, y2, y3, y4, y5], _ =>
    have h0 : DataW.trod enc Tryd.prog W base spare held n 3 ((cs.drop 0).take (Tryd.prog.cellsOf 3)) = some y0 := hel 0 _ rfl
    have h1 : DataW.trod enc Tryd.prog W base spare held n 3 ((cs.drop 1).take (Tryd.prog.cellsOf 3)) = some y1 := hel 1 _ rfl
    have h2 : DataW.trod enc Tryd.prog W base spare held n 33 ((cs.drop 2).take (Tryd.prog.cellsOf 33)) = some y2 := hel 2 _ rfl
    have h3 : DataW.trod enc Tryd.prog W base spare held n 34 ((cs.drop 8).take (Tryd.prog.cellsOf 34)) = some y3 := hel 3 _ rfl
    have h4 : DataW.trod enc Tryd.prog W base spare held n 35 ((cs.drop 9).take (Tryd.prog.cellsOf 35)) = some y4 := hel 4 _ rfl
    have h5 : DataW.trod enc Tryd.prog W base spare held n 38 ((cs.drop 10).take (Tryd.prog.cellsOf 38)) = some y5 := hel 5 _ rfl
    rw [show Tryd.prog.cellsOf 3 = 1 by kernel_rfl] at h0 h1
    rw [show Tryd.prog.cellsOf 34 = 1 by kernel_rfl] at h3
    rw [show Tryd.prog.cellsOf 35 = 1 by kernel_rfl] at h4
    rw [cellsOf30] at h2
    rw [cellsOfM] at h5
    match cs, hl with
    | c0 :: c1 :: c2 :: c3 :: c4 :: c5 :: c6 :: c7 :: c8 :: c9 :: cs, hl =>
      obtain ⟨p, e0, _, _⟩ := DataW.trod_int Tryd.underlying3 h0
      obtain ⟨q, e1, _, _⟩ := DataW.trod_int Tryd.underlying3 h1
      obtain ⟨y, e2⟩ := key_cells h2
      obtain ⟨r, e3, _, _⟩ := DataW.trod_int Tryd.underlying34 h3
      obtain ⟨s, e4, _, _⟩ := DataW.trod_int Tryd.underlying35 h4
      obtain ⟨m, e5⟩ := mg_cells h5
      simp only [List.drop_zero, List.take_succ_cons, List.take_zero, List.drop_succ_cons, List.cons.injEq, and_true] at e0 e1 e2 e3 e4 e5
      rw [List.take_of_length_le (by simp at hl ⊢; omega)] at e5
      obtain ⟨rfl, rfl, rfl, rfl, rfl, rfl⟩ := e2
      subst e0 e1 e3 e4 e5
      exact ⟨⟨p, q, y, r, s, m⟩, rfl⟩
set_option maxRecDepth 8000 in
theorem open_mg {r : Reach} {b0 : Nat} {v : Value} {d : DataW H} {p : List MemPlace} (hv : Value.okWide Tryd.prog W r b0 38 v) (h : DataW.Trod enc Tryd.prog W base spare held 38 v d p) : ∃ o : Mg, v = o.val := by
  obtain ⟨cs, rfl, _⟩ := okWide_struct Tryd.underlying38 hv
  obtain ⟨f, hf⟩ := h
  obtain ⟨o, ho⟩ := mg_cells hf
  refine ⟨o, ?_⟩
  obtain ⟨l⟩ := cs
  simp only [Value.cells] at ho
  subst ho
  rfl
set_option maxRecDepth 8000 in
theorem open_jas {r : Reach} {b0 : Nat} {v : Value} {d : DataW H} {p : List MemPlace} (hv : Value.okWide Tryd.prog W r b0 23 v) (h : DataW.Trod enc Tryd.prog W base spare held 23 v d p) :
    ∃ (A : Option Addr) (l : List Ja) (cap : Nat), v = .slice A l.length cap ∧ l.length ≤ cap ∧ cap ≤ maxLen ∧ RdJ W A l := by
  obtain ⟨A, len, cap, rfl⟩ := okWide_slice Tryd.underlying23 hv
  obtain ⟨fuel, hf⟩ := h
  rcases Go.Deep.open_slice Tryd.underlying23 hf with ⟨hcs, _⟩ | ⟨a, len', cap', m, n, D, Pl, hcs, hb, hl, hm, hmm, hx, hi⟩
  · simp only [Value.cells, List.cons.injEq, Value.slice.injEq, and_true] at hcs
    obtain ⟨rfl, rfl, rfl⟩ := hcs
    exact ⟨none, [], 0, rfl, Nat.le_refl _, by simp [maxLen], fun i h => absurd h (by simp)⟩
  · simp only [Value.cells, List.cons.injEq, Value.slice.injEq, and_true] at hcs
    obtain ⟨rfl, rfl, rfl⟩ := hcs
    rw [cellsOfJa] at hi
    have hlen : len ≤ m := by rw [hmm]; split <;> omega
    have key : ∀ i, i < len → ∃ o : Ja, a.spot = none ∧ JaAt W a.block (a.off + i * 30) o := by
      intro i hil
      obtain ⟨cs', hc, ht⟩ := hi i (by omega)
      obtain ⟨o, rfl⟩ := ja_cells ht
      obtain ⟨_, _, hat⟩ := World.cells?_some hc
      have hs' : a.spot = none := by
        obtain ⟨cs0, hc0, ht0⟩ := hi 0 (by omega)
        have h0 := (World.cells?_some hc0).2.2 0 (by decide)
        obtain ⟨o', rfl⟩ := ja_cells ht0
        have := World.cell?_spot (h0.trans (show (Ja.cells o')[0]? = some _ from rfl))
        simpa [Addr.add] using this
      refine ⟨o, hs', fun j v hv => ?_⟩
      have e := add_add_flat hs' (i * 30)
      have hj : j < 30 := by have := (List.getElem?_eq_some_iff.1 hv).1; rwa [o.len] at this
      have := hat j hj
      rw [e, add_flat] at this
      rw [this, hv]
    have ex : ∃ l : List Ja, l.length = len ∧ ∀ i (h : i < l.length), a.spot = none ∧ JaAt W a.block (a.off + i * 30) l[i] := by
      refine ⟨(List.range len).map fun i => if h : i < len then (key i h).choose else zja, by simp, fun i h => ?_⟩
      have hil : i < len := by simpa using h
      simp only [List.getElem_map, List.getElem_range, hil, dif_pos]
      exact (key i hil).choose_spec
    obtain ⟨l, rfl, hl2⟩ := ex
    refine ⟨some a, l, cap, rfl, hl, hm, fun i h => ?_⟩
    obtain ⟨hs, hk⟩ := hl2 i h
    obtain ⟨b, o, s⟩ := a
    simp only at hs
    subst hs
    exact ⟨b, o, rfl, hk⟩
end
end Go.Proofs.YtljfddeolapeaaaDoor

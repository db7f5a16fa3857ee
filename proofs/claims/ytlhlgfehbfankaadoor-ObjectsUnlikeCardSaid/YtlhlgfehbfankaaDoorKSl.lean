/- keys: a slice of keys that came in: words. -/
import Derived.Test.YtlhlgfehbfankaaDoorKFr
import Derived.Test.YtlhlgfehbfankaaDoorKAny
namespace Go.Proofs.YtlhlgfehbfankaaDoor
open Go.ChangeShapes Go.WideShapes Go.ChangeAt Go.RowKit
/-- the six cells of a key -/
def KeyAt (w : World) (b o : Nat) (x : Ky) : Prop :=
  w.cell? ⟨b, o, none⟩ = some (.int .i64 x.k) ∧ w.cell? ⟨b, o + 1, none⟩ = some (.int .i64 x.o) ∧ w.cell? ⟨b, o + 2, none⟩ = some (.int .i64 x.c) ∧ w.cell? ⟨b, o + 3, none⟩ = some (.int .i64 x.l) ∧ w.cell? ⟨b, o + 4, none⟩ = some (.int .i64 x.r) ∧ w.cell? ⟨b, o + 5, none⟩ = some (.int .i64 x.v)
theorem KeyAt.lt {w : World} {b o : Nat} {x : Ky} (h : KeyAt w b o x) : b < w.heap.size := cell_lt h.1
theorem KeyAt.keep {w w' : World} {b o : Nat} {x : Ky} (h : KeyAt w b o x) (hb : Below w.heap.size w w') : KeyAt w' b o x := by
  have hl := h.lt
  obtain ⟨h0, h1, h2, h3, h4, h5⟩ := h
  exact ⟨(hb.cell (p := ⟨b, o, none⟩) hl).trans h0, (hb.cell (p := ⟨b, o + 1, none⟩) hl).trans h1, (hb.cell (p := ⟨b, o + 2, none⟩) hl).trans h2, (hb.cell (p := ⟨b, o + 3, none⟩) hl).trans h3, (hb.cell (p := ⟨b, o + 4, none⟩) hl).trans h4, (hb.cell (p := ⟨b, o + 5, none⟩) hl).trans h5⟩
theorem KeyAt.drew {w : World} {b o : Nat} {x : Ky} (h : KeyAt w b o x) : KeyAt w.drew b o x := h
theorem KeyAt.six {w : World} {b o : Nat} {x : Ky} (h : KeyAt w b o x) :
    w.cell? ⟨b, o, none⟩ = some (.int .i64 x.k) ∧ w.cell? ⟨b, o + 1, none⟩ = some (.int .i64 x.o) ∧ w.cell? ⟨b, o + 2, none⟩ = some (.int .i64 x.c) ∧ w.cell? ⟨b, o + 3, none⟩ = some (.int .i64 x.l) ∧ w.cell? ⟨b, o + 4, none⟩ = some (.int .i64 x.r) ∧ w.cell? ⟨b, o + 5, none⟩ = some (.int .i64 x.v) := h
/-- the cells from A on read as the keys l -/
def RdK (w : World) (A : Option Addr) (l : List Ky) : Prop := ∀ i (h : i < l.length), ∃ b o, A = some ⟨b, o, none⟩ ∧ KeyAt w b (o + i * 6) l[i]
theorem RdK.drew {w : World} {A : Option Addr} {l : List Ky} (h : RdK w A l) : RdK w.drew A l := h
theorem RdK.keep {w w' : World} {A : Option Addr} {l : List Ky} (h : RdK w A l) (hb : Below w.heap.size w w') : RdK w' A l := fun i hi => by
  obtain ⟨b, o, e, hk⟩ := h i hi
  exact ⟨b, o, e, hk.keep hb⟩
theorem KeyAt.alloc {w : World} {b o : Nat} {x : Ky} (h : KeyAt w b o x) (u : Obj) : KeyAt (w.alloc u) b o x := h.keep ((Below.refl _ _).alloc (Nat.le_refl _) _)
theorem RdK.alloc {w : World} {A : Option Addr} {l : List Ky} (h : RdK w A l) (u : Obj) : RdK (w.alloc u) A l := h.keep ((Below.refl _ _).alloc (Nat.le_refl _) _)
section
variable {H : Type} {enc : TypeId × Value → H} {W : World} {base : Nat} {spare : Nat → Bool} {held : Bool}
theorem add_add_flat {a : Addr} (h : a.spot = none) (n : Nat) : (a.add n) = ⟨a.block, a.off + n, none⟩ := by
  obtain ⟨b, o, s⟩ := a
  simp only at h
  subst h
  exact add_flat b o n
theorem open_keys {r : Reach} {b0 : Nat} {v : Value} {d : DataW H} {p : List MemPlace} (hv : Value.okWide Tryd.prog W r b0 50 v) (h : DataW.Trod enc Tryd.prog W base spare held 50 v d p) :
    ∃ (A : Option Addr) (l : List Ky) (cap : Nat), v = .slice A l.length cap ∧ l.length ≤ cap ∧ cap ≤ maxLen ∧ RdK W A l := by
  obtain ⟨A, len, cap, rfl⟩ := okWide_slice Tryd.underlying50 hv
  obtain ⟨fuel, hf⟩ := h
  have c6 : Tryd.prog.cellsOf 30 = 6 := by kernel_rfl
  rcases Go.Deep.open_slice Tryd.underlying50 hf with ⟨hcs, _⟩ | ⟨a, len', cap', m, n, D, Pl, hcs, hb, hl, hm, hmm, hx, hi⟩
  · simp only [Value.cells, List.cons.injEq, Value.slice.injEq, and_true] at hcs
    obtain ⟨rfl, rfl, rfl⟩ := hcs
    exact ⟨none, [], 0, rfl, Nat.le_refl _, by simp [maxLen], fun i h => absurd h (by simp)⟩
  · simp only [Value.cells, List.cons.injEq, Value.slice.injEq, and_true] at hcs
    obtain ⟨rfl, rfl, rfl⟩ := hcs
    rw [c6] at hi
    have hlen : len ≤ m := by rw [hmm]; split <;> omega
    have key : ∀ i, i < len → ∃ x : Ky, a.spot = none ∧ KeyAt W a.block (a.off + i * 6) x := by
      intro i hil
      obtain ⟨cs', hc, ht⟩ := hi i (by omega)
      obtain ⟨x, rfl⟩ := key_cells ht
      obtain ⟨_, _, hat⟩ := World.cells?_some hc
      have h0 := hat 0 (by decide)
      have hs : (a.add (i * 6)).spot = none := by
        have := World.cell?_spot h0
        simpa [Addr.add] using this
      have hs' : a.spot = none := by
        have z0 := (hi 0 (by omega))
        obtain ⟨cs0, hc0, ht0⟩ := z0
        obtain ⟨y, rfl⟩ := key_cells ht0
        have := World.cell?_spot ((World.cells?_some hc0).2.2 0 (by decide))
        simpa [Addr.add] using this
      refine ⟨x, hs', ?_⟩
      have e := add_add_flat hs' (i * 6)
      have g : ∀ j u, j < 6 → ([.int .i64 x.k, .int .i64 x.o, .int .i64 x.c, .int .i64 x.l, .int .i64 x.r, .int .i64 x.v] : List Value)[j]? = some u → W.cell? ⟨a.block, a.off + i * 6 + j, none⟩ = some u := by
        intro j u hj hu
        have := hat j hj
        rw [e, add_flat] at this
        rw [this, hu]
      exact ⟨g 0 _ (by decide) rfl, g 1 _ (by decide) rfl, g 2 _ (by decide) rfl, g 3 _ (by decide) rfl, g 4 _ (by decide) rfl, g 5 _ (by decide) rfl⟩
    have ex : ∃ l : List Ky, l.length = len ∧ ∀ i (h : i < l.length), a.spot = none ∧ KeyAt W a.block (a.off + i * 6) l[i] := by
      refine ⟨(List.range len).map fun i => if h : i < len then (key i h).choose else ⟨0, 0, 0, 0, 0, 0⟩, by simp, fun i h => ?_⟩
      have hil : i < len := by simpa using h
      simp only [List.getElem_map, List.getElem_range, hil, dif_pos]
      exact (key i hil).choose_spec
    obtain ⟨l, rfl, hl2⟩ := ex
    refine ⟨some a, l, cap, rfl, hl, hm, fun i h => ?_⟩
    obtain ⟨hs, hk⟩ := hl2 i h
    obtain ⟨b, o, s⟩ := a
    simp only at hs
    subst hs
    exact ⟨b, o, rfl, hk⟩
end
end Go.Proofs.YtlhlgfehbfankaaDoor

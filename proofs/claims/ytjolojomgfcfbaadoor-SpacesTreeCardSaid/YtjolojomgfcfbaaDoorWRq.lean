/- spaces, the document's: how its walk stands: words; Each. -/
import Derived.Test.YtjolojomgfcfbaaDoorWSt
import Derived.Test.YtjolojomgfcfbaaDoorWSm
import Derived.Test.YtjolojomgfcfbaaDoorR18
namespace Go.Proofs.YtjolojomgfcfbaaDoor
open Go.RowKit
/-- how the document's walk stands: what it tells at w.heap.size + 1 and + 2, its key at g9, its keeper at g13 -/
structure Rq (w W : World) (A : Option Addr) (l : List Oj) (g9 g13 : Nat) (s : Ws) : Prop where
  bel : Below w.heap.size w W
  f6 : Blk W (w.heap.size + 1) 38 zfo.cells.toArray
  f7 : Blk W (w.heap.size + 2) 41 zfa.cells.toArray
  k9 : Blk W g9 29 (kc s.x.k s.x.o s.x.c s.x.l s.x.r s.x.v)
  k13 : Blk W g13 29 (kc s.kp.k s.kp.o s.kp.c s.kp.l s.kp.r s.kp.v)
  row : RdO W A l
  o9 : w.heap.size + 2 < g9
  o13 : g9 < g13
  rlt : ∀ a, A = some a → a.block < w.heap.size
/-- the same within a round: a fault at g15, and blocks made behind it -/
structure Rw (w W : World) (A : Option Addr) (l : List Oj) (g9 g13 : Nat) (s : Ws) (g15 : Nat) (fa : Fa) (bs : List (Nat × TypeId × Array Value)) : Prop where
  q : Rq w W A l g9 g13 s
  a15 : Blk W g15 41 fa.cells.toArray
  o15 : g13 < g15
  blk : ∀ b ∈ bs, g15 < b.1 ∧ Blk W b.1 b.2.1 b.2.2
section
variable {w W W' : World} {A : Option Addr} {l : List Oj} {g9 g13 g15 : Nat} {s : Ws} {fa : Fa} {bs : List (Nat × TypeId × Array Value)} {t : TypeId} {c : Array Value} {g : Nat}
theorem Rq.below (h : Rq w W A l g9 g13 s) (hb : Below W.heap.size W W') : Rq w W' A l g9 g13 s :=
  ⟨h.bel.trans (hb.mono h.bel.size), h.f6.keep hb, h.f7.keep hb, h.k9.keep hb, h.k13.keep hb, h.row.below hb, h.o9, h.o13, h.rlt⟩
theorem Rq.alloc (h : Rq w W A l g9 g13 s) (o : Obj) : Rq w (W.alloc o) A l g9 g13 s := h.below ((Below.refl _ _).alloc (Nat.le_refl _) _)
theorem RdO.far_row {b : Nat} (h : RdO W A l) (hr : ∀ a, A = some a → a.block ≠ b) (c : Array Value) : RdO (W.setRow b c) A l := fun i hi => by
  obtain ⟨b', off, e, ho⟩ := h i hi
  exact ⟨b', off, e, ho.keep (setRow_other W b b' c (hr _ e))⟩
/-- a block behind the keeper is another one -/
theorem Rq.row_far (h : Rq w W A l g9 g13 s) (hg : g13 < g) (c : Array Value) : Rq w (W.setRow g c) A l g9 g13 s :=
  have h1 := h.o9
  have h2 := h.o13
  ⟨below_setRow h.bel (by omega) c, h.f6.row_far (by omega) c, h.f7.row_far (by omega) c, h.k9.row_far (by omega) c, h.k13.row_far (by omega) c, h.row.far_row (fun a e => by have := h.rlt a e; omega) c, h.o9, h.o13, h.rlt⟩
theorem Rq.cell_far (h : Rq w W A l g9 g13 s) (hg : g13 < g) (i : Nat) (v : Value) : Rq w (W.setCell ⟨g, i, none⟩ v) A l g9 g13 s :=
  have h1 := h.o9
  have h2 := h.o13
  ⟨h.bel.setCell (by show w.heap.size ≤ g; omega) v, h.f6.far (p := ⟨g, i, none⟩) (by show _ ≠ g; omega) v, h.f7.far (p := ⟨g, i, none⟩) (by show _ ≠ g; omega) v, h.k9.far (p := ⟨g, i, none⟩) (by show _ ≠ g; omega) v, h.k13.far (p := ⟨g, i, none⟩) (by show _ ≠ g; omega) v,
    fun j hj => by
      obtain ⟨b', off, e, ho⟩ := h.row j hj
      exact ⟨b', off, e, ho.keep (Below.heap_setCell W _ _ _ (by have := h.rlt _ e; show b' ≠ g; simp only at this; omega))⟩, h.o9, h.o13, h.rlt⟩
theorem Rq.rights (h : Rq w W A l g9 g13 s) (r : Int) : Rq w (W.setCell ⟨g9, 4, none⟩ (.int .i64 r)) A l g9 g13 { s with x := { s.x with r := r } } :=
  have h1 := h.o9
  have h2 := h.o13
  ⟨h.bel.setCell (by show w.heap.size ≤ g9; omega) _, h.f6.far (p := ⟨g9, 4, none⟩) (by show _ ≠ g9; omega) _, h.f7.far (p := ⟨g9, 4, none⟩) (by show _ ≠ g9; omega) _, h.k9.set_ 4 (.int .i64 r), h.k13.far (p := ⟨g9, 4, none⟩) (by show _ ≠ g9; omega) _,
    fun j hj => by
      obtain ⟨b', off, e, ho⟩ := h.row j hj
      exact ⟨b', off, e, ho.keep (Below.heap_setCell W _ _ _ (by have := h.rlt _ e; show b' ≠ g9; simp only at this; omega))⟩, h.o9, h.o13, h.rlt⟩
theorem Rw.below (h : Rw w W A l g9 g13 s g15 fa bs) (hb : Below W.heap.size W W') : Rw w W' A l g9 g13 s g15 fa bs :=
  ⟨h.q.below hb, h.a15.keep hb, h.o15, fun b hm => ⟨(h.blk b hm).1, (h.blk b hm).2.keep hb⟩⟩
theorem Rw.alloc (h : Rw w W A l g9 g13 s g15 fa bs) (o : Obj) : Rw w (W.alloc o) A l g9 g13 s g15 fa bs := h.below ((Below.refl _ _).alloc (Nat.le_refl _) _)
theorem Rw.drew (h : Rw w W A l g9 g13 s g15 fa bs) : Rw w W.drew A l g9 g13 s g15 fa bs := h.below (below_drew (Below.refl _ _))
theorem Rw.new (h : Rq w W A l g9 g13 s) (fa : Fa) {g : Nat} (hg : g = W.heap.size) : Rw w (W.alloc (.cells fa.cells.toArray 41)) A l g9 g13 s g fa [] :=
  ⟨h.alloc _, Blk.new_of W _ _ hg, by have := h.k13.lt; omega, fun _ hm => by cases hm⟩
theorem Rw.kind (h : Rw w W A l g9 g13 s g15 fa bs) (k : Int) : Rw w (W.setCell ⟨g15, 0, none⟩ (.int .i64 k)) A l g9 g13 s g15 { fa with k := k } bs :=
  ⟨h.q.cell_far h.o15 0 _, h.a15.set_ 0 (.int .i64 k), h.o15, fun b hm => ⟨(h.blk b hm).1, (h.blk b hm).2.far (p := ⟨g15, 0, none⟩) (by have := (h.blk b hm).1; show b.1 ≠ g15; omega) _⟩⟩
theorem Rw.held (h : Rw w W A l g9 g13 s g15 fa bs) (k : Ky) : Rw w (W.setRow g15 (Fa.cells { fa with kp := k }).toArray) A l g9 g13 s g15 { fa with kp := k } bs :=
  ⟨h.q.row_far h.o15 _, h.a15.setRow _, h.o15, fun b hm => ⟨(h.blk b hm).1, (h.blk b hm).2.row_far (by have := (h.blk b hm).1; omega) _⟩⟩
theorem Rw.keeper (h : Rw w W A l g9 g13 s g15 fa bs) (k : Ky) : Rw w (W.setRow g13 (kl k).toArray) A l g9 g13 { s with kp := k } g15 fa bs :=
  have h1 := h.q.o9
  have h2 := h.q.o13
  ⟨⟨below_setRow h.q.bel (by omega) _, h.q.f6.row_far (by omega) _, h.q.f7.row_far (by omega) _, h.q.k9.row_far (by omega) _, h.q.k13.setRow _, h.q.row.far_row (fun a e => by have := h.q.rlt a e; omega) _, h.q.o9, h.q.o13, h.q.rlt⟩,
    h.a15.row_far (by have := h.o15; omega) _, h.o15, fun b hm => ⟨(h.blk b hm).1, (h.blk b hm).2.row_far (by have := (h.blk b hm).1; have := h.o15; omega) _⟩⟩
theorem Rw.at_ (h : Rw w W A l g9 g13 s g15 fa bs) (k : Ky) : Rq w (W.setRow g9 (kl k).toArray) A l g9 g13 { s with x := k } :=
  have h1 := h.q.o9
  have h2 := h.q.o13
  ⟨below_setRow h.q.bel (by omega) _, h.q.f6.row_far (by omega) _, h.q.f7.row_far (by omega) _, h.q.k9.setRow _, h.q.k13.row_far (by omega) _, h.q.row.far_row (fun a e => by have := h.q.rlt a e; omega) _, h.q.o9, h.q.o13, h.q.rlt⟩
/-- only the key, the keeper count of how a walk stands -/
theorem Rw.as (h : Rw w W A l g9 g13 s g15 fa bs) (s' : Ws) (h1 : s'.x = s.x) (h2 : s'.kp = s.kp) : Rw w W A l g9 g13 s' g15 fa bs :=
  ⟨⟨h.q.bel, h.q.f6, h.q.f7, by rw [h1]; exact h.q.k9, by rw [h2]; exact h.q.k13, h.q.row, h.q.o9, h.q.o13, h.q.rlt⟩, h.a15, h.o15, h.blk⟩
theorem Rq.as (h : Rq w W A l g9 g13 s) (s' : Ws) (h1 : s'.x = s.x) (h2 : s'.kp = s.kp) : Rq w W A l g9 g13 s' :=
  ⟨h.bel, h.f6, h.f7, by rw [h1]; exact h.k9, by rw [h2]; exact h.k13, h.row, h.o9, h.o13, h.rlt⟩
/-- what is told at the end -/
theorem Rq.told (h : Rq w W A l g9 g13 s) (fo : Fo) (f : Fa) : Below w.heap.size w ((W.setRow (w.heap.size + 1) fo.cells.toArray).setRow (w.heap.size + 2) f.cells.toArray) ∧ Blk ((W.setRow (w.heap.size + 1) fo.cells.toArray).setRow (w.heap.size + 2) f.cells.toArray) (w.heap.size + 1) 38 fo.cells.toArray ∧ Blk ((W.setRow (w.heap.size + 1) fo.cells.toArray).setRow (w.heap.size + 2) f.cells.toArray) (w.heap.size + 2) 41 f.cells.toArray :=
  ⟨below_setRow (below_setRow h.bel (by omega) _) (by omega) _, (h.f6.setRow _).row_far (by omega) _, (h.f7.row_far (by omega) _).setRow _⟩
end
theorem z59 (w : World) : (zeroValue 38).run Tryd.prog w = .ok (.agg zfo.cells.toArray) w := (zero_of_info zeroFo).1 w
theorem z35 (w : World) : (zeroValue 41).run Tryd.prog w = .ok (.agg zfa.cells.toArray) w := (zero_of_info zeroFa).1 w
set_option maxRecDepth 8000 in
theorem res_2t {P : Program} {fn : Func} {p q r : Tmp} {t t' : TypeId} (h : fn.results = #[.cell p t, .cell q t', .tmp r]) (tmps : Array Value) (w : World) (g g' : Nat) (v v' u : Value) (hp : tmps.getD p undef = .pointer (some ⟨g, 0, none⟩)) (hq : tmps.getD q undef = .pointer (some ⟨g', 0, none⟩)) (hr : tmps.getD r undef = u) (hl : (loadVar t ⟨g, 0, none⟩).run P w = .ok v w) (hl' : (loadVar t' ⟨g', 0, none⟩).run P w = .ok v' w) : (results fn tmps).run P w = .ok (.tuple #[v, v', u]) w := by
  have hp' : tmps[p]?.getD undef = .pointer (some ⟨g, 0, none⟩) := by simpa using hp
  have hq' : tmps[q]?.getD undef = .pointer (some ⟨g', 0, none⟩) := by simpa using hq
  have hr' : tmps[r]?.getD undef = u := by simpa using hr
  simp [results, h, hp', hq', hr', asAddr, hl, hl']
end Go.Proofs.YtjolojomgfcfbaaDoor

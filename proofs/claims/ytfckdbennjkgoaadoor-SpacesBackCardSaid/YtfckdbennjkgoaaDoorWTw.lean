/- law 11: two roots, two addresses: words. -/
import Derived.Test.YtfckdbennjkgoaaDoorWKn
import Derived.Test.YtfckdbennjkgoaaDoorWBq
import Derived.Test.YtfckdbennjkgoaaDoorWSa
import Derived.Test.YtfckdbennjkgoaaDoorWSame
import Derived.Test.YtfckdbennjkgoaaDoorWArgs
namespace Go.Proofs.YtfckdbennjkgoaaDoor
open Go.RowKit
abbrev twA (x y : Ky) (a b : Int) : Array Value := #[.int .i64 x.k, .int .i64 x.o, .int .i64 x.c, .int .i64 x.l, .int .i64 x.r, .int .i64 x.v, .int .i64 y.k, .int .i64 y.o, .int .i64 y.c, .int .i64 y.l, .int .i64 y.r, .int .i64 y.v, .int .i64 a, .int .i64 b]
theorem tw_cells {w : World} {g : Nat} {t : TypeId} {x y : Ky} {a b : Int} (h : Blk w g t (twA x y a b)) : w.cell? ⟨g, 0, none⟩ = some (.int .i64 x.k) ∧ w.cell? ⟨g, 1, none⟩ = some (.int .i64 x.o) ∧ w.cell? ⟨g, 2, none⟩ = some (.int .i64 x.c) ∧ w.cell? ⟨g, 3, none⟩ = some (.int .i64 x.l) ∧ w.cell? ⟨g, 4, none⟩ = some (.int .i64 x.r) ∧ w.cell? ⟨g, 5, none⟩ = some (.int .i64 x.v) ∧ w.cell? ⟨g, 6, none⟩ = some (.int .i64 y.k) ∧ w.cell? ⟨g, 7, none⟩ = some (.int .i64 y.o) ∧ w.cell? ⟨g, 8, none⟩ = some (.int .i64 y.c) ∧ w.cell? ⟨g, 9, none⟩ = some (.int .i64 y.l) ∧ w.cell? ⟨g, 10, none⟩ = some (.int .i64 y.r) ∧ w.cell? ⟨g, 11, none⟩ = some (.int .i64 y.v) ∧ w.cell? ⟨g, 12, none⟩ = some (.int .i64 a) ∧ w.cell? ⟨g, 13, none⟩ = some (.int .i64 b) :=
  ⟨h.cell 0, h.cell 1, h.cell 2, h.cell 3, h.cell 4, h.cell 5, h.cell 6, h.cell 7, h.cell 8, h.cell 9, h.cell 10, h.cell 11, h.cell 12, h.cell 13⟩
section
variable {W : World} {g : Nat} {t : TypeId} {c : Array Value}
set_option maxRecDepth 8000 in
theorem two_new (h : Blk W g t c) (f0 a0 cf ca : Array Value) : Blk ((((W.alloc (.cells f0 33)).alloc (.cells a0 36)).setRow W.heap.size cf).setRow (W.heap.size + 1) ca) g t c := by
  have := h.lt
  exact Blk.row_far (Blk.row_far ((h.alloc _).alloc _) (by omega) _) (by omega) _
set_option maxRecDepth 8000 in
theorem one_new (h : Blk W g t c) (a0 ca : Array Value) : Blk ((W.alloc (.cells a0 36)).setRow W.heap.size ca) g t c := by
  have := h.lt
  exact Blk.row_far (h.alloc _) (by omega) _
variable {base q : Nat} {A : Option Addr} {cap : Nat} {ps : List Nat} {os : List Oj}
theorem st_two (h : StAt W base q A cap ps os) (f0 a0 cf ca : Array Value) : StAt ((((W.alloc (.cells f0 33)).alloc (.cells a0 36)).setRow W.heap.size cf).setRow (W.heap.size + 1) ca) base q A cap ps os :=
  ((((h.alloc _).alloc _).fr (setRow_fr _ _ _) (fun k hk e => by have := (h.lt k hk).2; omega)).fr (setRow_fr _ _ _) (fun k hk e => by have := (h.lt k hk).2; omega))
theorem st_one (h : StAt W base q A cap ps os) (a0 ca : Array Value) : StAt ((W.alloc (.cells a0 36)).setRow W.heap.size ca) base q A cap ps os :=
  ((h.alloc _).fr (setRow_fr _ _ _) (fun k hk e => by have := (h.lt k hk).2; omega))
end
end Go.Proofs.YtfckdbennjkgoaaDoor

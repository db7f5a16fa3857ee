/- nodes: what each call does, ahead of its face. -/
import Derived.Test.YtedlacdijkggjaaDoorNChg
namespace Go.Proofs.YtedlacdijkggjaaDoor
open Go.RowKit
section
variable {w : World} {base p : Nat} {A : Option Addr} {cap : Nat} {ps : List Nat} {os : List Oj} {kt it pt : TypeId} {S K I V : Nat}
theorem Blk.one {g : Nat} {t : TypeId} {v : Value} (h : Blk w g t #[v]) : w.cell? ⟨g, 0, none⟩ = some v := h.cell 0
set_option maxRecDepth 8000 in
theorem nost_below {P : Value} {w' : World} (hP : P = .pointer none ∨ ∃ q base A cap ps, P = pv q ∧ StAt w base q A cap ps []) (hb : Below w.heap.size w w') : P = .pointer none ∨ ∃ q base A cap ps, P = pv q ∧ StAt w' base q A cap ps [] := by
  rcases hP with rfl | ⟨q, base, A, cap, ps, rfl, h⟩
  · exact .inl rfl
  · exact .inr ⟨q, base, A, cap, ps, rfl, h.below hb⟩
end
end Go.Proofs.YtedlacdijkggjaaDoor

/- nodes: the faces. -/
import Derived.Test.YtedlacdijkggjaaDoorNCloP
namespace Go.Proofs.YtedlacdijkggjaaDoor
open Go.RowKit
set_option maxRecDepth 8000 in
theorem load_err {w : World} {g : Nat} {t : TypeId} (n : Int) (h : Blk w g t #[.int .i64 n]) : (loadVar 39 ⟨g, 0, none⟩).run Tryd.prog w = .ok (.int .i64 n) w := by
  have hc : w.cell? ⟨g, 0, none⟩ = some (.int .i64 n) := by simpa using h.cell 0
  simp [go_sem, hc]
theorem set_same {w : World} {g : Nat} {t : TypeId} {v : Value} (h : Blk w g t #[v]) (u : Value) : Blk (w.setCell ⟨g, 0, none⟩ u) g t #[u] := h.set_ 0 u
theorem Fr.heap_lt {S : Nat → Prop} {a b : World} (h : Fr S a b) {k : Nat} (hk : k < a.heap.size) (hs : ¬ S k) : b.heap[k]? = a.heap[k]? := h.block k hk hs
section
variable {w : World}
end
end Go.Proofs.YtedlacdijkggjaaDoor

/- The document's answers: Get, Put, Clear, Clone. -/
import Derived.Test.YtedlacdijkggjaaDoorNRef2
import Derived.Test.YtedlacdijkggjaaDoorR09
import Derived.Test.YtedlacdijkggjaaDoorR05
namespace Go.Proofs.YtedlacdijkggjaaDoor
open Go.RowKit
set_option maxRecDepth 8000 in
theorem built30 : Tryd.prog.built 30 [] = some (kl zk).toArray := by kernel_rfl
section
variable {w : World} {A : Option Addr} {l : List Oj} {n cap : Nat}
theorem obj_at (hr : RdO w A l) (j : Nat) (hj : j < l.length) : ∃ b off, A = some ⟨b, off, none⟩ ∧ ObAt w b (off + j * 163) l[j] := hr j hj
theorem RdO.far {g : Nat} {b : Nat} (h : RdO w (some ⟨g, 0, none⟩) l) (hb : b ≠ g) (c : Array Value) : RdO (w.setRow b c) (some ⟨g, 0, none⟩) l := fun i hi => by
  obtain ⟨b', off, e, ho⟩ := h i hi
  injection e with e
  injection e with e1 e2
  subst e1 e2
  exact ⟨_, _, rfl, ho.keep (setRow_other w b _ c (Ne.symm hb))⟩
end
end Go.Proofs.YtedlacdijkggjaaDoor

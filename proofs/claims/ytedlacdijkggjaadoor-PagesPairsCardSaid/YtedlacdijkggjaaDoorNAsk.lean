/- nodes: ask, mustBeSlot, openBy. -/
import Derived.Test.YtedlacdijkggjaaDoorNDef
namespace Go.Proofs.YtedlacdijkggjaaDoor
open Go.RowKit
section
variable {w : World} {base p : Nat} {A : Option Addr} {cap : Nat} {ps : List Nat} {os : List Oj}
set_option maxRecDepth 8000 in
theorem nm_some (h : StAt w base p A cap ps os) (hn : 0 < os.length) (hT : Tab w) {x : Ky} {o : Oj} (hx : named os x = some o) :
    Calls Tryd.prog 38 #[pv p, x.val] w fun e w' => e = .returned (.tuple #[o.val, .bool true]) ∧ Below w.heap.size w w' := by
  have := named_at h hn hT x
  rwa [hx] at this
set_option maxRecDepth 8000 in
theorem nm_none (h : StAt w base p A cap ps os) (hn : 0 < os.length) (hT : Tab w) {x : Ky} (hx : named os x = none) :
    Calls Tryd.prog 38 #[pv p, x.val] w fun e w' => e = .returned (.tuple #[oz.val, .bool false]) ∧ Below w.heap.size w w' := by
  have := named_at h hn hT x
  rwa [hx] at this
theorem size_m (h : StAt w base p A cap ps os) (hn : 0 < os.length) {m : Int} (hm : m = (os.length : Int)) : Calls Tryd.prog 39 #[pv p] w fun e w' => e = .returned (.int .i64 m) ∧ w = w' := hm ▸ size_at h hn
end
end Go.Proofs.YtedlacdijkggjaaDoor

/- nodes: what is put, cleared, cloned, ahead of its face. -/
import Derived.Test.YtedlacdijkggjaaDoorNClo
namespace Go.Proofs.YtedlacdijkggjaaDoor
open Go.RowKit
section
variable {w : World} {base p : Nat} {A : Option Addr} {cap : Nat} {ps : List Nat} {os : List Oj} {kt it pt vt lt : TypeId} {S K I V L : Nat}
end
end Go.Proofs.YtedlacdijkggjaaDoor

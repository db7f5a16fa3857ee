/- nodes: the closures, change. -/
import Derived.Test.YtedlacdijkggjaaDoorNPrd
namespace Go.Proofs.YtedlacdijkggjaaDoor
open Go.RowKit
section
variable {kt it : TypeId}
end
section
variable {w : World} {base p : Nat} {A : Option Addr} {cap : Nat} {ps : List Nat} {os : List Oj} {kt it : TypeId}
end
end Go.Proofs.YtedlacdijkggjaaDoor

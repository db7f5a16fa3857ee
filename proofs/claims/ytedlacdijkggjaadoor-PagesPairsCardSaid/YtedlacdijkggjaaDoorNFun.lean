/- nodes: the five calls, by what is behind their faces. -/
import Derived.Test.YtedlacdijkggjaaDoorNFac
namespace Go.Proofs.YtedlacdijkggjaaDoor
open Go.RowKit
section
variable {w : World} {base p : Nat} {A : Option Addr} {cap : Nat} {ps : List Nat} {os : List Oj}
end
end Go.Proofs.YtedlacdijkggjaaDoor

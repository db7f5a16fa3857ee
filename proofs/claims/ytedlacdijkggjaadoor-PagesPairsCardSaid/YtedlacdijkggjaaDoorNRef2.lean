/- The document's answers: Got, May. -/
import Derived.Test.YtedlacdijkggjaaDoorNRef
namespace Go.Proofs.YtedlacdijkggjaaDoor
open Go.RowKit
section
variable {w : World} {A : Option Addr} {l : List Oj} {n cap : Nat}
theorem cell_eq {w : World} {p : Addr} {a b : Int} (h : w.cell? p = some (.int .i64 a)) (e : a = b) : w.cell? p = some (.int .i64 b) := e ▸ h
end
end Go.Proofs.YtedlacdijkggjaaDoor

/- codec: Get, the program's and the definition's. -/
import Derived.Test.YtfclkkbmgclfgaaDoorFr8
namespace Go.Proofs.YtfclkkbmgclfgaaDoor
open Go.RowKit
end Go.Proofs.YtfclkkbmgclfgaaDoor

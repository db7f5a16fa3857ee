/- the definition's Check: by what a kind names. -/
import Derived.Test.YtfclkkbmgclfgaaDoorZK
namespace Go.Proofs.YtfclkkbmgclfgaaDoor
open Go.RowKit
end Go.Proofs.YtfclkkbmgclfgaaDoor

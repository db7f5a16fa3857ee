/- volume: the document's answers: Sector. -/
import Derived.Test.YtpihllgdgolgpaaDoorVPl
namespace Go.Proofs.YtpihllgdgolgpaaDoor
open Go.RowKit
attribute [local go_sem] Oper.semAt_some
section
variable (n k a t : Int) (w : World)
end
end Go.Proofs.YtpihllgdgolgpaaDoor

/- volume: which places may be. -/
import Derived.Test.YtpihllgdgolgpaaDoorVMa1
import Derived.Test.YtpihllgdgolgpaaDoorVMa2
namespace Go.Proofs.YtpihllgdgolgpaaDoor
open Go.RowKit
set_option maxRecDepth 8000 in
theorem maybe_any (x : Sp) (w : World) (hT : Tab w) : Calls Tryd.prog 19 #[x.val] w fun e w' => e = .returned (.bool (decide (mayP x))) ∧ Below w.heap.size w w' := by
  by_cases ht : x.t = 0
  · exact maybe_0 x w hT ht
  · exact maybe_t x w hT ht
end Go.Proofs.YtpihllgdgolgpaaDoor

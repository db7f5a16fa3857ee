/- What the walk of a law is told of its arguments: words. -/
import Derived.Test.YtjfcmoappbfnjaaP03
import Derived.Test.YtjfcmoappbfnjaaChecked
import Derived.Test.YtjfcmoappbfnjaaRows
import Derived.ProofKit
import Derived.OpenShut
import Derived.ShutString
import Derived.ChangeOld
import Derived.Below
namespace Go.Proofs.Ytjfcmoappbfnjaa
open Go.ChangeShapes Go.WideShapes Go.ChangeAt Go.RowKit
set_option maxRecDepth 8000 in
theorem own : ownKnob Try.prog.godebug = none := by kernel_rfl
set_option maxRecDepth 8000 in
theorem laidOut : laidOutB Try.prog = true := by kernel_rfl
end Go.Proofs.Ytjfcmoappbfnjaa

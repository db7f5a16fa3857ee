/- A range over a function whose rounds may panic, whose elements may hang on what the rounds ahead did: the law, and the contract that it wants. It speaks of one function's frame (wpAt), for how a panic leaves a frame is known of a function that there is. -/
import Derived.RangeFuncNested
import Derived.RangeFuncBound
import Derived.RangeFuncCalls
import Derived.RangeFuncLeaves
import Derived.RangeFuncBox
import Derived.RangeFuncFrom
import Derived.WalkKit
namespace Go.Proofs.YtljfddeolapeaaaDoor
open Go.RowKit
section
variable {P : Program} {n : Nat}
end
section
variable {α : Type} {n : Nat} {P : Program}
end
end Go.Proofs.YtljfddeolapeaaaDoor

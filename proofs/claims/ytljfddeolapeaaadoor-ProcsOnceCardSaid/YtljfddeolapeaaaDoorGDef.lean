/- pages: a page as it lies, a span, bytes that are cut and laid: words. -/
import Derived.Test.YtljfddeolapeaaaDoorR14
import Derived.Test.YtljfddeolapeaaaDoorR17
import Derived.ScopeJumps
import Derived.WalkMore
namespace Go.Proofs.YtljfddeolapeaaaDoor
open Go.RowKit
section
variable {ops : Array Oper} {o : Oper} {a : Act} {S : World → Prop}
end
section
variable {w : World} {g : Nat} {t : TypeId} {p : Nat} {n : Int} {o : Oj}
end
-- bytes of a page that are others
/-- an object with other bytes -/
def bAs (o : Oj) (l : List UInt8) (h : l.length = 64) : Oj := { o with b := l, hb := h }
/-- bytes with others over them from a place on -/
def lay (b : List UInt8) (a : Nat) (l : List UInt8) : List UInt8 := b.take a ++ l ++ b.drop (a + l.length)
end Go.Proofs.YtljfddeolapeaaaDoor

/- The document's answers: Asked, Got, May, Put of a list. -/
import Derived.Test.YtjolojomgfcfbaaDoorR16
import Derived.Test.YtjolojomgfcfbaaDoorR14
import Derived.Test.YtjolojomgfcfbaaDoorR12
import Derived.Deep.AppendLies
namespace Go.Proofs.YtjolojomgfcfbaaDoor
open Go.RowKit
section
variable {ops : Array Oper} {rest : List Oper} {o : Oper} {a : Act} {Q : Exit → Act → World → Prop} {W : World}
end
section
variable {w : World} {A : Option Addr} {l : List Oj} {n cap : Nat}
end
end Go.Proofs.YtjolojomgfcfbaaDoor
namespace Go.Proofs.YtjolojomgfcfbaaDoor
open Go.RowKit
section
variable {w : World} {A : Option Addr} {l : List Oj} {n cap : Nat}
end
end Go.Proofs.YtjolojomgfcfbaaDoor

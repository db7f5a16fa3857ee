/- The document's answers: Asked of a page, Page, inside, Read, Wipe, Copy. -/
import Derived.Test.YtjolojomgfcfbaaDoorR22
namespace Go.Proofs.YtjolojomgfcfbaaDoor
open Go.RowKit
section
variable {w : World} {A : Option Addr} {l : List Oj} {n cap : Nat}
end
end Go.Proofs.YtjolojomgfcfbaaDoor
namespace Go.Proofs.YtjolojomgfcfbaaDoor
open Go.RowKit
/-- an object with bytes laid over: all, so long as they fit -/
def layO (u : Oj) (a : Nat) (s : List UInt8) : Oj := if h : a + s.length ≤ 64 then bAs u (lay u.b a s) (by rw [lay_len (by rw [u.hb]; exact h)]; exact u.hb) else u
set_option maxRecDepth 8000 in
theorem layO_eq {u : Oj} {a : Nat} {s : List UInt8} (h : a + s.length ≤ 64) (hl : (lay u.b a s).length = 64) : layO u a s = bAs u (lay u.b a s) hl := by unfold layO; rw [dif_pos h]
end Go.Proofs.YtjolojomgfcfbaaDoor

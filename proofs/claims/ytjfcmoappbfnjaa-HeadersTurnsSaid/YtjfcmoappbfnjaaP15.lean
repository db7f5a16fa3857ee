/- the document's answer for layer 2: its disk's value; step. -/
import Derived.Test.YtjfcmoappbfnjaaP12
import Derived.Test.YtjfcmoappbfnjaaP10
namespace Go.Proofs.Ytjfcmoappbfnjaa
open Go.RowKit
/-- where a disk of the document's answer has its lists -/
structure Rp where
  A1 : Option Addr
  n1 : Nat
  c1 : Nat
  A2 : Option Addr
  n2 : Nat
  c2 : Nat
  A3 : Option Addr
  n3 : Nat
  c3 : Nat
abbrev Rp.cells (r : Rp) (s : Nat) : Array Value := #[.slice r.A1 r.n1 r.c1, .slice r.A2 r.n2 r.c2, .int .i64 (s : Int), .slice r.A3 r.n3 r.c3]
abbrev Rp.val (r : Rp) (s : Nat) : Value := .agg (r.cells s)
end Go.Proofs.Ytjfcmoappbfnjaa
namespace Go.Proofs.Ytjfcmoappbfnjaa
open Go.RowKit
end Go.Proofs.Ytjfcmoappbfnjaa
namespace Go.Proofs.Ytjfcmoappbfnjaa
open Go.RowKit
section
variable {w : World} {base p : Nat} {pl : Pl} {D : Dk}
theorem SecMap.below {w w' : World} {m : Nat} {L : Nat → List UInt8} (h : SecMap w m L) (hb : Below w.heap.size w w') : SecMap w' m L := h.keep (hb.block m h.lt)
end
end Go.Proofs.Ytjfcmoappbfnjaa
namespace Go.Proofs.Ytjfcmoappbfnjaa
open Go.RowKit
attribute [local go_sem] Oper.semAt_some
end Go.Proofs.Ytjfcmoappbfnjaa

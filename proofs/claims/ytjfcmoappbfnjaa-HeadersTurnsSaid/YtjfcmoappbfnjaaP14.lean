/- A region that draws its order, quiet in a class of worlds of the prover's own: steps by hand. -/
import Derived.Test.YtjfcmoappbfnjaaP01
import Derived.Deep.Quiet
import Derived.OrdersHeld
import Derived.Shelf.RegionOpen
import Derived.Test.YtjfcmoappbfnjaaP12
namespace Go.Proofs.Ytjfcmoappbfnjaa
open Go.RowKit
section
variable {P : Program} {ops : Array Oper} {C : World → Prop} {Q : Act → Prop} {o : Oper} {rest : List Oper} {a : Act}
end
end Go.Proofs.Ytjfcmoappbfnjaa
namespace Go.Proofs.Ytjfcmoappbfnjaa
open Go.RowKit
attribute [local go_sem] run_store_bv run_store_wc
/-- a sector of one byte again and again -/
def fullL (c : UInt8) : List UInt8 := List.replicate 512 c
end Go.Proofs.Ytjfcmoappbfnjaa
namespace Go.Proofs.Ytjfcmoappbfnjaa
open Go.RowKit
attribute [local go_sem] Oper.semAt_some
attribute [local go_sem] run_store_bv run_store_wc run_store_bv_drew run_store_wc_drew
def x1 : Nat × List UInt8 := (1, fullL 120)
def d1 : Dk := (newDk 4).stepped.queued x1
end Go.Proofs.Ytjfcmoappbfnjaa
namespace Go.Proofs.Ytjfcmoappbfnjaa
open Go.RowKit
attribute [local go_sem] Oper.semAt_some
attribute [local go_sem] run_store_bv run_store_wc run_store_bv_drew run_store_wc_drew
/-- a sector's bytes in a row of them -/
def chunk (l : List UInt8) (n : Nat) : List UInt8 := (l.drop (n * 512)).take 512
def ofL (l : List UInt8) (k n : Nat) : List UInt8 := if n < k then chunk l n else zs
def ofD (l : List UInt8) (s k : Nat) : Dk := { newDk s with lasts := ofL l k }
end Go.Proofs.Ytjfcmoappbfnjaa

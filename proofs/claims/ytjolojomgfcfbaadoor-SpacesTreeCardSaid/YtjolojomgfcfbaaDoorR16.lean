/- nodes: all, prepared, change. -/
import Derived.Test.YtjolojomgfcfbaaDoorR15
namespace Go.Proofs.YtjolojomgfcfbaaDoor
open Go.RowKit
/-- a node with other slots -/
def slotsAs (o : Oj) (s : List Ky) (hs : s.length = 16) : Oj := { o with s := s, hs := hs }
section
variable {w : World} {base p : Nat} {A : Option Addr} {cap : Nat} {ps : List Nat} {os : List Oj}
end
end Go.Proofs.YtjolojomgfcfbaaDoor
namespace Go.Proofs.YtjolojomgfcfbaaDoor
open Go.RowKit
section
variable {w : World} {base p : Nat} {A : Option Addr} {cap : Nat} {ps : List Nat} {os : List Oj}
theorem put_x (h : StAt w base p A cap ps os) (hT : Tab w) (i : Nat) (hi : i < os.length) (o : Oj) (hc : o.ok os.length) {n : Int} (hn : n = (i : Int)) :
    Calls Tryd.prog 41 #[pv p, .int .i64 n, o.val] w fun e' w' => e' = .returned (.int .i64 0) ∧ StAt w' base p A cap ps (os.set i o) ∧ Fr (fun k => k ∈ ps) w w' := hn ▸ put_ok h hT i hi o hc
end
end Go.Proofs.YtjolojomgfcfbaaDoor
namespace Go.Proofs.YtjolojomgfcfbaaDoor
open Go.RowKit
section
variable {kt it : TypeId}
end
section
variable {w : World} {base p : Nat} {A : Option Addr} {cap : Nat} {ps : List Nat} {os : List Oj} {kt it : TypeId}
end
end Go.Proofs.YtjolojomgfcfbaaDoor

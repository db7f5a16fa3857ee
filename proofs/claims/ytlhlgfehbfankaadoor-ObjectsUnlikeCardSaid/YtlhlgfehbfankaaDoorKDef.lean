/- keys: the table of kinds, and what the cells of its variable hold: words. -/
import Derived.Test.YtlhlgfehbfankaaDoorProg
import Derived.Test.YtlhlgfehbfankaaDoorStr
namespace Go.Proofs.YtlhlgfehbfankaaDoor
open Go.RowKit
def kWants : Nat → Int | 2 => 1 | 3 => 2 | 4 => 1 | 5 => 1 | 6 => 1 | 7 => 1 | _ => 0
def kOid (k : Nat) : Int := if 2 ≤ k ∧ k ≤ 7 then 63 else 0
def kCnt (k : Nat) : Int := if 2 ≤ k ∧ k ≤ 7 then 4294967295 else 0
def kCall (k : Nat) : Int := if k = 7 then 4294967295 else 0
def kRts (k : Nat) : Int := if k = 2 then 7 else if k = 3 then 1 else 0
def kVal (k : Nat) : Bool := decide (k = 1 ∨ k = 6)
def kName : Nat → List UInt8
  | 0 => [118, 111, 105, 100] | 1 => [110, 117, 109, 98, 101, 114] | 2 => [110, 111, 100, 101] | 3 => [112, 97, 103, 101] | 4 => [98, 97, 110, 107] | 5 => [112, 114, 111, 99]
  | 6 => [115, 116, 97, 114, 116] | 7 => [114, 101, 115, 117, 109, 101] | 8 => [100, 105, 115, 99, 114, 105, 109] | 9 => [99, 108, 111, 99, 107] | _ => [99, 104, 101, 99, 107]
/-- the k-th kind's cells -/
def kCells (k : Nat) : List Value := [.string (st (kName k)), .int .i64 (kWants k), .int .i64 (kOid k), .int .i64 (kCnt k), .int .i64 (kCall k), .int .i64 (kRts k), .bool (kVal k)]
/-- the variable's cells -/
def Tab (w : World) : Prop := ∀ k, k ≤ 10 → ∀ j u, (kCells k)[j]? = some u → w.cell? ⟨0, k * 7 + j, none⟩ = some u
theorem Tab.lt {w : World} (h : Tab w) : 0 < w.heap.size := cell_lt (h 0 (by omega) 0 _ rfl)
theorem Tab.keep {w w' : World} (h : Tab w) (hk : ∀ p : Addr, p.block < w.heap.size → w'.cell? p = w.cell? p) : Tab w' :=
  fun k hk' j u hu => (hk _ h.lt).trans (h k hk' j u hu)
theorem Tab.below {w w' : World} (h : Tab w) (hb : Below w.heap.size w w') : Tab w' := h.keep fun _ hp => hb.cell hp
theorem Tab.alloc {w : World} (h : Tab w) (o : Obj) : Tab (w.alloc o) := h.keep fun p hp => World.cell?_alloc_lt w o p hp
theorem Tab.drew {w : World} (h : Tab w) : Tab w.drew := h
theorem Tab.drewN {w : World} (h : Tab w) (n : Nat) : Tab (w.drewN n) := h
end Go.Proofs.YtlhlgfehbfankaaDoor

/- The document's own answer for keys' bytes: low, number, signed, unsigned. -/
import Derived.Test.YtfclkkbmgclfgaaDoorZT
import Derived.Test.YtfclkkbmgclfgaaDoorZB
import Derived.Test.YtfclkkbmgclfgaaDoorZC
import Derived.Test.YtfclkkbmgclfgaaDoorORchk
namespace Go.Proofs.YtfclkkbmgclfgaaDoor
open Go.RowKit
end Go.Proofs.YtfclkkbmgclfgaaDoor
namespace Go.Proofs.YtfclkkbmgclfgaaDoor
open Go.RowKit
set_option maxRecDepth 8000 in
theorem own_below {w w' : World} {base n : Nat} {e : TypeId} {v : Value} {xs : List Value} (h : w.ownsRow base e 1 v n xs) (hb : Below w.heap.size w w') : w'.ownsRow base e 1 v n xs := by
  refine h.kept (row := none) ⟨hb.os, hb.tape, hb.output, hb.size, fun k hk _ => hb.block k hk⟩ ?_
  cases hv : v.ownBlock with
  | none => exact .inl rfl
  | some k => exact .inr (by simp)
theorem lit2 (w : World) (x y : UInt8) : (w.alloc (.cells #[.int .u8 (x.toNat : Int), .int .u8 (y.toNat : Int)] 5)).ownsRow w.heap.size 5 1 (.slice (some ⟨w.heap.size, 0, none⟩) 2 2) 2 (bv [x, y]) :=
  World.ownsRow_lit w #[.int .u8 (x.toNat : Int), .int .u8 (y.toNat : Int)] 2 (Nat.le_refl _) (by simp only [maxLen]; omega) rfl
set_option maxRecDepth 8000 in
theorem wrap_u64n (N : Nat) (h : N < 18446744073709551616) : IntKind.u64.wrap (N : Int) = (N : Int) := by
  rw [wrap_un]
  unfold un
  omega
end Go.Proofs.YtfclkkbmgclfgaaDoor

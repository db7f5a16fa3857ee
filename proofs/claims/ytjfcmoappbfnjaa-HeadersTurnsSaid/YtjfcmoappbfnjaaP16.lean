/- law 2: DiskMakes, the walk. -/
import Derived.Test.YtjfcmoappbfnjaaP14
import Derived.Test.YtjfcmoappbfnjaaP10
import Derived.Test.YtjfcmoappbfnjaaP15
import Derived.Test.YtjfcmoappbfnjaaP12
namespace Go.Proofs.Ytjfcmoappbfnjaa.diskMakes
open Go.RowKit
attribute [local go_sem] Oper.semAt_some
set_option maxRecDepth 8000 in
theorem wrap_i64_of (x : Int) (h0 : 0 ≤ x) (h1 : x ≤ 9223372036854775807) : IntKind.i64.wrap x = x := by
  simp only [IntKind.wrap, IntKind.bits, IntKind.signed]
  simp
  omega
theorem secs_take (l : List UInt8) (s : Nat) : ∀ k, k ≤ s → secs (ofL l s) k = l.take (k * 512)
  | 0, _ => by simp [secs]
  | k + 1, h => by
    rw [secs_succ, secs_take l s k (by omega), show (k + 1) * 512 = k * 512 + 512 by omega, List.take_add]
    unfold ofL chunk
    rw [if_pos (by omega)]
set_option maxRecDepth 8000 in
theorem secs_of (l : List UInt8) (s : Nat) (hl : l.length = s * 512) : secs (ofL l s) s = l := by
  rw [secs_take l s s (Nat.le_refl _), List.take_of_length_le (by omega)]
end Go.Proofs.Ytjfcmoappbfnjaa.diskMakes
namespace Go.Proofs.Ytjfcmoappbfnjaa
open Go.RowKit
theorem DiskAt.base {w : World} {base base' p : Nat} {pl : Pl} {D : Dk} (h : DiskAt w base p pl D) (hb : base' ≤ base) : DiskAt w base' p pl D :=
  { h with
    row := own_base h.row hb
    bp := Nat.le_trans hb h.bp
    bm := Nat.le_trans hb h.bm
    bf := fun b e => Nat.le_trans hb (h.bf b e) }
end Go.Proofs.Ytjfcmoappbfnjaa
namespace Go.Proofs.Ytjfcmoappbfnjaa
open Go.RowKit
attribute [local go_sem] Oper.semAt_some
end Go.Proofs.Ytjfcmoappbfnjaa
namespace Go.Proofs.Ytjfcmoappbfnjaa
open Go.RowKit
attribute [local go_sem] Oper.semAt_some
/-- lasting bytes with the first k bytes of a sector's others -/
def laidF (l : List UInt8) (x : Nat × List UInt8) (k : Nat) : List UInt8 := splice l (512 * x.1) (x.2.take k)
end Go.Proofs.Ytjfcmoappbfnjaa

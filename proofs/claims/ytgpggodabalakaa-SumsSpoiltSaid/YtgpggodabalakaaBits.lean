/- Plain facts on numbers, bits and bytes: no program. -/
import Derived.WalkKit
import Derived.Laws.BitsAllLaws
import Derived.Laws.Bits64
import Derived.Lib.Hide
namespace Go.Proofs.Ytgpggodabalakaa
open Go.RowKit
/-- one step of a sum by one bit -/
def stepN (s : Nat) : Nat := if s % 2 = 0 then s / 2 else (s / 2) ^^^ 3988292384
theorem stepN_lt {s : Nat} (h : s < 4294967296) : stepN s < 4294967296 := by
  unfold stepN
  split
  · omega
  · exact Nat.xor_lt_two_pow (n := 32) (by omega) (by omega)
theorem u32_and1 (s : Nat) (h : s < 4294967296) : bits .and .u32 (s : Int) 1 = ((s % 2 : Nat) : Int) := by
  have := u32_and_nat s 1 h (by omega)
  rw [nat_mask1] at this
  exact this
end Go.Proofs.Ytgpggodabalakaa

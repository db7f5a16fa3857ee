/- The sum of bytes, plain: bit by bit. -/
import Derived.Test.YtgpggodabalakaaBits
namespace Go.Proofs.Ytgpggodabalakaa
open Go.RowKit
/-- so many steps -/
def stepsN : Nat → Nat → Nat
  | 0, s => s
  | k + 1, s => stepN (stepsN k s)
theorem stepsN_lt {s : Nat} (k : Nat) (h : s < 4294967296) : stepsN k s < 4294967296 := by
  induction k with
  | zero => exact h
  | succ k ih => exact stepN_lt ih
/-- a byte taken into a sum -/
def byteN (s : Nat) (x : UInt8) : Nat := stepsN 8 (s ^^^ x.toNat)
theorem xor_byte_lt {s : Nat} (x : UInt8) (h : s < 4294967296) : s ^^^ x.toNat < 4294967296 := by
  have := x.toNat_lt
  exact Nat.xor_lt_two_pow (n := 32) (by omega) (by omega)
theorem byteN_lt {s : Nat} (x : UInt8) (h : s < 4294967296) : byteN s x < 4294967296 := stepsN_lt 8 (xor_byte_lt x h)
/-- bytes taken into a sum -/
def rawN (s : Nat) (l : List UInt8) : Nat := l.foldl byteN s
theorem rawN_lt {s : Nat} (l : List UInt8) (h : s < 4294967296) : rawN s l < 4294967296 := by
  induction l generalizing s with
  | nil => exact h
  | cons x l ih => exact ih (byteN_lt x h)
theorem rawN_snoc (s : Nat) (l : List UInt8) (x : UInt8) : rawN s (l ++ [x]) = byteN (rawN s l) x := by simp [rawN]
theorem rawN_append (s : Nat) (l k : List UInt8) : rawN s (l ++ k) = rawN (rawN s l) k := by simp [rawN]
/-- the sum of bytes -/
def crcN (l : List UInt8) : Nat := 4294967295 - rawN 4294967295 l
theorem crcN_lt (l : List UInt8) : crcN l < 4294967296 := by unfold crcN; omega
end Go.Proofs.Ytgpggodabalakaa

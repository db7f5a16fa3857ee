/- Numbers and their bytes: plain. -/
import Derived.WalkKit
import Derived.Test.YtgpggodabalakaaBits
import Derived.Laws.BitsAllLaws
namespace Go.Proofs.Ytgpggodabalakaa
open Go.RowKit
/-- the number whose bytes these are, the lowest ahead -/
def numLE : List UInt8 → Nat
  | [] => 0
  | x :: l => x.toNat + 256 * numLE l
theorem numLE_lt (l : List UInt8) : numLE l < 256 ^ l.length := by
  induction l with
  | nil => simp [numLE]
  | cons x l ih =>
    have := x.toNat_lt
    simp only [numLE, List.length_cons, Nat.pow_succ]
    omega
theorem numLE_snoc (l : List UInt8) (x : UInt8) : numLE (l ++ [x]) = numLE l + 256 ^ l.length * x.toNat := by
  induction l with
  | nil => simp [numLE]
  | cons y l ih =>
    simp only [List.cons_append, numLE, ih, List.length_cons, Nat.pow_succ]
    rw [Nat.mul_add, ← Nat.mul_assoc, Nat.mul_comm 256 (256 ^ l.length)]
    omega
theorem take_snoc {α : Type} (l : List α) (k : Nat) (h : k < l.length) : l.take (k + 1) = l.take k ++ [l[k]] := by
  rw [List.take_succ_eq_append_getElem h]
theorem numLE_take (l : List UInt8) (k : Nat) (h : k < l.length) : numLE (l.take (k + 1)) = numLE (l.take k) + 256 ^ k * l[k].toNat := by
  rw [take_snoc l k h, numLE_snoc, List.length_take_of_le (by omega)]
theorem pow_le (k : Nat) (h : k ≤ 8) : 256 ^ k ≤ 18446744073709551616 := by
  have : (256 : Nat) ^ k ≤ 256 ^ 8 := Nat.pow_le_pow_right (by omega) h
  exact this
theorem wrap_u64_lt (n : Nat) (h : n < 18446744073709551616) : IntKind.u64.wrap (n : Int) = (n : Int) := by
  simp only [IntKind.wrap, IntKind.bits, IntKind.signed]
  simp
  omega
theorem or_step (a k : Nat) (x : UInt8) (hk : k < 8) (ha : a < 256 ^ k) :
    bits BinOp.or IntKind.u64 (a : Int) (IntKind.u64.wrap (IntKind.u64.wrap (x.toNat : Int) * 2 ^ (8 * k))) = ((a + 256 ^ k * x.toNat : Nat) : Int) := by
  have hx := x.toNat_lt
  have hp : (256 : Nat) ^ (k + 1) ≤ 256 ^ 8 := Nat.pow_le_pow_right (by omega) hk
  have h8 : (256 : Nat) ^ 8 = 18446744073709551616 := by decide
  have e2 : (2 : Nat) ^ (8 * k) = 256 ^ k := by rw [Nat.pow_mul]
  have hpos : 0 < 256 ^ k := Nat.pow_pos (by omega)
  have hm : 256 ^ k * x.toNat + 256 ^ k ≤ 256 ^ (k + 1) := by
    rw [Nat.pow_succ, ← Nat.mul_succ]
    exact Nat.mul_le_mul_left _ (by omega)
  have hb : x.toNat * 2 ^ (8 * k) < 18446744073709551616 := by
    rw [e2, Nat.mul_comm]
    omega
  rw [wrap_u64_lt _ (by omega)]
  rw [show (x.toNat : Int) * 2 ^ (8 * k) = ((x.toNat * 2 ^ (8 * k) : Nat) : Int) by simp]
  rw [wrap_u64_lt _ hb, u64_or_nat _ _ (by omega) hb, Nat.or_comm]
  rw [nat_join (8 * k) _ _ (by simp) (by rw [e2]; exact ha), e2, Nat.mul_comm]
  rw [Nat.add_comm]
end Go.Proofs.Ytgpggodabalakaa

/- Reading a list of bytes out of memory; a list of bytes that a call has made: words and their laws, over any world. -/
import Derived.WalkKit
import Derived.Below
import Derived.Laws.OwnMore
import Derived.Deep.AppendLies
import Derived.Deep.Draws
import Derived.Lib.Hide
import Derived.Laws.BitsAllLaws
import Derived.Laws.Bits64
import Derived.Test.YtjfcmoappbfnjaaRows
namespace Go.Proofs.Ytjfcmoappbfnjaa
open Go.RowKit
/-- the cells of bytes -/
def bv (l : List UInt8) : List Value := l.map fun x => .int .u8 (x.toNat : Int)
set_option maxRecDepth 8000 in
theorem bv_length (l : List UInt8) : (bv l).length = l.length := by simp [bv]
set_option maxRecDepth 8000 in
theorem bv_get (l : List UInt8) (j : Nat) : (bv l)[j]? = (l[j]?).map fun x => .int .u8 (x.toNat : Int) := by simp [bv]
set_option maxRecDepth 8000 in
theorem bv_append (a b : List UInt8) : bv (a ++ b) = bv a ++ bv b := by simp [bv]
set_option maxRecDepth 8000 in
theorem bv_one (l : List UInt8) : ∀ u ∈ bv l, u.oneCell' = true := by
  intro u hu
  simp only [bv, List.mem_map] at hu
  obtain ⟨x, _, rfl⟩ := hu
  rfl
set_option maxRecDepth 8000 in
theorem own_base {w : World} {base base' : Nat} {e : TypeId} {size : Nat} {v : Value} {n : Nat} {xs : List Value} (h : w.ownsRow base e size v n xs) (hb : base' ≤ base) : w.ownsRow base' e size v n xs := by
  refine ⟨h.1, ?_⟩
  rcases h.2 with h | ⟨g, cap, cur, h1, h2, h3⟩
  · exact .inl h
  · exact .inr ⟨g, cap, cur, h1, by omega, h3⟩
/-- The cells from A on read as the bytes l. -/
def Rd (w : World) (A : Option Addr) (l : List UInt8) : Prop :=
  ∀ j (h : j < l.length), ∃ b off, A = some ⟨b, off, none⟩ ∧ w.cell? ⟨b, off + j, none⟩ = some (.int .u8 (l[j].toNat : Int))
set_option maxRecDepth 8000 in
theorem cell_lt {w : World} {p : Addr} {v : Value} (h : w.cell? p = some v) : p.block < w.heap.size := by
  rcases Nat.lt_or_ge p.block w.heap.size with hlt | hge
  · exact hlt
  · rw [World.cell?, Array.getElem?_eq_none hge] at h
    cases h
section
variable {w w' : World} {A : Option Addr} {l : List UInt8}
set_option maxRecDepth 8000 in
theorem Rd.keep (h : Rd w A l) (hk : ∀ p : Addr, p.block < w.heap.size → w'.cell? p = w.cell? p) : Rd w' A l := by
  intro j hj
  obtain ⟨b, off, rfl, hc⟩ := h j hj
  exact ⟨b, off, rfl, (hk _ (cell_lt hc)).trans hc⟩
theorem Rd.below (h : Rd w A l) (hb : Below w.heap.size w w') : Rd w' A l := h.keep fun _ hp => hb.cell hp
theorem Rd.alloc (h : Rd w A l) (o : Obj) : Rd (w.alloc o) A l := h.keep fun p hp => World.cell?_alloc_lt w o p hp
theorem Rd.drew (h : Rd w A l) : Rd w.drew A l := h
theorem Rd.drewN (h : Rd w A l) (k : Nat) : Rd (w.drewN k) A l := h
set_option maxRecDepth 8000 in
theorem Rd.take (h : Rd w A l) (n : Nat) : Rd w A (l.take n) := by
  intro j hj
  have hj' : j < l.length := by simp at hj; omega
  obtain ⟨b, off, e, hc⟩ := h j hj'
  exact ⟨b, off, e, by rw [hc]; simp⟩
set_option maxRecDepth 8000 in
theorem Rd.drop {b off : Nat} (h : Rd w (some ⟨b, off, none⟩) l) (n : Nat) : Rd w (some ⟨b, off + n, none⟩) (l.drop n) := by
  intro j hj
  have hj' : n + j < l.length := by simp at hj; omega
  obtain ⟨b', off', e, hc⟩ := h (n + j) hj'
  injection e with e
  injection e with e1 e2
  subst e1; subst e2
  exact ⟨b, off + n, rfl, by rw [Nat.add_assoc, hc]; simp⟩
set_option maxRecDepth 8000 in
theorem Rd.of_own {base n c : Nat} {t : TypeId} (h : w.ownsRow base t 1 (.slice A n c) n (bv l)) : Rd w A l := by
  intro j hj
  have hn : (bv l).length = n := by simpa using h.1
  rw [bv_length] at hn
  obtain ⟨g, cap, hv, _, _⟩ := h.form (by omega)
  injection hv with hA _ _
  subst hA
  refine ⟨g, 0, rfl, ?_⟩
  have := h.cellAt j (by omega)
  rw [Nat.zero_add, this, bv_get, List.getElem?_eq_getElem hj]
  rfl
end
end Go.Proofs.Ytjfcmoappbfnjaa
namespace Go.Proofs.Ytjfcmoappbfnjaa.S
open Go.RowKit
/-- one step of a sum by one bit -/
def stepN (s : Nat) : Nat := if s % 2 = 0 then s / 2 else (s / 2) ^^^ 3988292384
set_option maxRecDepth 8000 in
theorem stepN_lt {s : Nat} (h : s < 4294967296) : stepN s < 4294967296 := by
  unfold stepN
  split
  · omega
  · exact Nat.xor_lt_two_pow (n := 32) (by omega) (by omega)
set_option maxRecDepth 8000 in
theorem u32_and1 (s : Nat) (h : s < 4294967296) : bits .and .u32 (s : Int) 1 = ((s % 2 : Nat) : Int) := by
  have := u32_and_nat s 1 h (by omega)
  rw [nat_mask1] at this
  exact this
end Go.Proofs.Ytjfcmoappbfnjaa.S
namespace Go.Proofs.Ytjfcmoappbfnjaa.S
open Go.RowKit
/-- the number whose bytes these are, the lowest ahead -/
def numLE : List UInt8 → Nat
  | [] => 0
  | x :: l => x.toNat + 256 * numLE l
set_option maxRecDepth 8000 in
theorem numLE_lt (l : List UInt8) : numLE l < 256 ^ l.length := by
  induction l with
  | nil => simp [numLE]
  | cons x l ih =>
    have := x.toNat_lt
    simp only [numLE, List.length_cons, Nat.pow_succ]
    omega
set_option maxRecDepth 8000 in
theorem numLE_snoc (l : List UInt8) (x : UInt8) : numLE (l ++ [x]) = numLE l + 256 ^ l.length * x.toNat := by
  induction l with
  | nil => simp [numLE]
  | cons y l ih =>
    simp only [List.cons_append, numLE, ih, List.length_cons, Nat.pow_succ]
    rw [Nat.mul_add, ← Nat.mul_assoc, Nat.mul_comm 256 (256 ^ l.length)]
    omega
set_option maxRecDepth 8000 in
theorem take_snoc {α : Type} (l : List α) (k : Nat) (h : k < l.length) : l.take (k + 1) = l.take k ++ [l[k]] := by
  rw [List.take_succ_eq_append_getElem h]
set_option maxRecDepth 8000 in
theorem numLE_take (l : List UInt8) (k : Nat) (h : k < l.length) : numLE (l.take (k + 1)) = numLE (l.take k) + 256 ^ k * l[k].toNat := by
  rw [take_snoc l k h, numLE_snoc, List.length_take_of_le (by omega)]
set_option maxRecDepth 8000 in
theorem wrap_u64_lt (n : Nat) (h : n < 18446744073709551616) : IntKind.u64.wrap (n : Int) = (n : Int) := by
  simp only [IntKind.wrap, IntKind.bits, IntKind.signed]
  simp
  omega
set_option maxRecDepth 8000 in
theorem or_step (a k : Nat) (x : UInt8) (hk : k < 8) (ha : a < 256 ^ k) :
    bits BinOp.or IntKind.u64 (a : Int) (IntKind.u64.wrap (IntKind.u64.wrap (x.toNat : Int) * 2 ^ (8 * k))) = ((a + 256 ^ k * x.toNat : Nat) : Int) := by
  have hx := x.toNat_lt
  have hp : (256 : Nat) ^ (k + 1) ≤ 256 ^ 8 := Nat.pow_le_pow_right (by omega) hk
  have h8 : (256 : Nat) ^ 8 = 18446744073709551616 := by decide
  have e2 : (2 : Nat) ^ (8 * k) = 256 ^ k := by rw [Nat.pow_mul]
  have hpos : 0 < 256 ^ k := Nat.pow_pos (by omega)
  have hm : 256 ^ k * x.toNat + 256 ^ k ≤ 256 ^ (k + 1) := by
    rw [Nat.pow_succ, ← Nat.mul_succ]
    exact Nat.mul_le_mul_left _ (by omega)
  have hb : x.toNat * 2 ^ (8 * k) < 18446744073709551616 := by
    rw [e2, Nat.mul_comm]
    omega
  rw [wrap_u64_lt _ (by omega)]
  rw [show (x.toNat : Int) * 2 ^ (8 * k) = ((x.toNat * 2 ^ (8 * k) : Nat) : Int) by simp]
  rw [wrap_u64_lt _ hb, u64_or_nat _ _ (by omega) hb, Nat.or_comm]
  rw [nat_join (8 * k) _ _ (by simp) (by rw [e2]; exact ha), e2, Nat.mul_comm]
  rw [Nat.add_comm]
end Go.Proofs.Ytjfcmoappbfnjaa.S
namespace Go.Proofs.Ytjfcmoappbfnjaa.S
open Go.RowKit
set_option maxRecDepth 8000 in
theorem ret_int {k : IntKind} {a b : Int} (h : a = b) : Ending.returned (.int k a) = .returned (.int k b) := by rw [h]
set_option maxRecDepth 8000 in
set_option maxHeartbeats 400000 in
theorem numberOf_any (A : Option Addr) (n c : Nat) (l : List UInt8) (w : World) (hn : l.length = n) (h8 : n ≤ 8) (hr : Rd w A l) :
    Calls Try.prog 86 #[.slice A n c] w fun e w' => e = .returned (.int .u64 (numLE l : Int)) ∧ w = w' := by
  have HR := Lib.hid hr
  clear hr
  go_enter Try.func86, Try.ntmps86
  go_wp2
  go_loop [3, 4, 5, 8] (fun a _ _ i => ∃ k : Nat, k ≤ n ∧ i = .int .i64 k ∧ a = .int .u64 (numLE (l.take k) : Int)) (fun _ _ _ i => n - (intOf i).toNat)
  case atStart => exact ⟨0, Nat.zero_le _, rfl, rfl⟩
  case round =>
    obtain ⟨k, hk, rfl, rfl⟩ := hrel
    by_cases hlt : k < n
    · obtain ⟨b, off, rfl, hc⟩ := HR.out k (by omega)
      go_wp2
      go_round
      case rel =>
        refine ⟨k + 1, by omega, by go_num, ?_⟩
        have hl := numLE_lt (l.take k)
        rw [List.length_take_of_le (by omega)] at hl
        rw [or_step _ k _ (by omega) hl, numLE_take l k (by omega)]
      case measure => simp [intOf]; omega
    · go_wp2
      go_ret
      exact ⟨ret_int (by rw [List.take_of_length_le (by omega)]), rfl⟩
end Go.Proofs.Ytjfcmoappbfnjaa.S

/- keys.less, the definition's with: Rights with others besides. -/
import Derived.Test.YtmpibbgciajnkaaDoorKNam
import Derived.RegionTactic
import Derived.ChangeAlike
import Derived.IntWalk
import Derived.Laws.BitsAllLaws
import Derived.Laws.BitsLemmas
namespace Go.Proofs.YtmpibbgciajnkaaDoor
open Go.RowKit
theorem bits_n (a : Nat) (h : a < 9223372036854775808) : (BitVec.ofInt 64 (a : Int)).toNat = a := by
  rw [BitVec.ofInt_natCast, BitVec.toNat_ofNat]; exact Nat.mod_eq_of_lt (by omega)
theorem and_n (a b : Nat) (ha : a < 8) (hb : b < 8) : bits .and .i64 (a : Int) (b : Int) = ((a &&& b : Nat) : Int) := by
  have hx : a &&& b < 2 ^ 3 := Nat.and_lt_two_pow _ hb
  show IntKind.i64.wrap ((BitVec.ofInt 64 (a : Int) &&& BitVec.ofInt 64 (b : Int)).toNat : Int) = _
  rw [BitVec.toNat_and, bits_n a (by omega), bits_n b (by omega), IntKind.wrap_i64]
  omega
theorem or_n (a b : Nat) (ha : a < 8) (hb : b < 8) : bits .or .i64 (a : Int) (b : Int) = ((a ||| b : Nat) : Int) := by
  have hx : a ||| b < 2 ^ 3 := Nat.or_lt_two_pow ha hb
  show IntKind.i64.wrap ((BitVec.ofInt 64 (a : Int) ||| BitVec.ofInt 64 (b : Int)).toNat : Int) = _
  rw [BitVec.toNat_or, bits_n a (by omega), bits_n b (by omega), IntKind.wrap_i64]
  omega
theorem below_drew {B : Nat} {a b : World} (h : Below B a b) : Below B a b.drew := ⟨h.os, h.tape, h.output, h.size, h.block⟩
theorem below_drewN {B : Nat} {a b : World} (h : Below B a b) (n : Nat) : Below B a (b.drewN n) := ⟨h.os, h.tape, h.output, h.size, h.block⟩
def lsN (r q m : Nat) : Nat := r ||| (q &&& m)
theorem lsN_bits (r q m : Nat) (hr : r < 8) (hq : q < 8) (hm : m < 8) : bits .or .i64 (r : Int) (bits .and .i64 (q : Int) (m : Int)) = (lsN r q m : Int) := by
  rw [and_n q m hq hm, or_n _ _ hr (Nat.and_lt_two_pow _ (show m < 2 ^ 3 from hm))]
  rfl
theorem agg_rights {k o c l r r' v : Value} (h : r = r') : Ending.returned (.agg #[k, o, c, l, r, v]) = .returned (.agg #[k, o, c, l, r', v]) := by rw [h]
set_option maxHeartbeats 1000000 in
theorem less_row (k : Nat) (o c l v : Int) (r q m : Nat) (w : World) (hk : k ≤ 10) (hr : r < 8) (hq : q < 8) (hm : m < 8) (z5 : w.cell? ⟨0, k * 7 + 5, none⟩ = some (.int .i64 m)) (hg : 0 < w.heap.size)  :
    Calls Tryd.prog 37 #[.agg #[.int .i64 k, .int .i64 o, .int .i64 c, .int .i64 l, .int .i64 r, .int .i64 v], .int .i64 q] w fun e w' => e = .returned (.agg #[.int .i64 k, .int .i64 o, .int .i64 c, .int .i64 l, .int .i64 (lsN r q m : Nat), .int .i64 v]) ∧ Below w.heap.size w w' := by
  have HB := Lib.hid (lsN_bits r q m hr hq hm)
  go_enter Tryd.func37, Tryd.ntmps37
  go_wp2
  go_region
  go_wp2
  refine bodyPost_ret (v := .agg #[.int .i64 k, .int .i64 o, .int .i64 c, .int .i64 l, .int .i64 (bits .or .i64 (r : Int) (bits .and .i64 (q : Int) (m : Int))), .int .i64 v]) (by simp [results, Tryd.results37, go_sem]) rfl ⟨by rw [HB.out], ?_⟩
  exact below_drew (((Below.refl _ _).alloc (Nat.le_refl _) _).alloc (by simp) _)
end Go.Proofs.YtmpibbgciajnkaaDoor

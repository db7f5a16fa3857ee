/- volume: a part's sectors, one by one: the iterator's contract. -/
import Derived.RangeFuncNested
import Derived.RangeFuncBound
import Derived.RangeFuncCalls
import Derived.RangeFuncLeaves
import Derived.RangeFuncBox
import Derived.RangeFuncFrom
import Derived.Shelf.Abstract
import Derived.Shelf.RegionOpen
import Derived.WalkKit
import Derived.OwnWalkIn
import Derived.TacticsInMore
import Derived.LoopNIn
import Derived.LoopIn
import Derived.Test.YtpihllgdgolgpaaDoorVOf
import Derived.Test.YtpihllgdgolgpaaDoorVIt
namespace Go.Proofs.YtpihllgdgolgpaaDoor
open Go.RowKit Go.Shelf
attribute [local go_sem] Oper.semAt_some
/-- what comes: a sector of a part -/
structure Iy (f t : Nat) where
  i : Nat
  lo : f ≤ i
  hi : i < t
/-- so many have come, in order -/
def EltsY {f t : Nat} (k : Nat) (xs : List (Iy f t)) : Prop := xs.length = k ∧ ∀ (i : Nat) (y : Iy f t), xs[i]? = some y → y.i = f + i
set_option maxRecDepth 8000 in
theorem EltsY.snoc {f t k : Nat} {xs : List (Iy f t)} (h : EltsY k xs) (x : Iy f t) (hx : x.i = f + k) : EltsY (k + 1) (xs ++ [x]) := by
  refine ⟨by simp [h.1], fun i y hy => ?_⟩
  rcases Nat.lt_or_ge i xs.length with hi | hi
  · rw [List.getElem?_append_left hi] at hy
    exact h.2 i y hy
  · rw [List.getElem?_append_right hi] at hy
    have hi' : i = xs.length := by
      rcases Nat.eq_or_lt_of_le hi with e | e
      · exact e.symm
      · rw [List.getElem?_eq_none (by simp; omega)] at hy; cases hy
    subst hi'
    rw [Nat.sub_self] at hy
    simp only [List.getElem?_cons_zero, Option.some.injEq] at hy
    subst hy
    rw [h.1]
    exact hx
theorem grown_of_below {w w' : World} (hb : Below w.heap.size w w') : w.grownBy w' none := ⟨hb.os, hb.tape, hb.output, hb.size, fun k hk _ => hb.block k hk⟩
/-- block b, of a part, lies as it lay -/
def KB (b : Nat) (_ : Nat) (W W' : World) : Prop := ∀ cs, Blk W b 40 cs → Blk W' b 40 cs
set_option maxRecDepth 100000 in
set_option maxHeartbeats 2000000 in
theorem spots1_in (n : Nat) (hn : 1 ≤ n) (bp : Nat) (k a : Int) (f t : Nat) (hft : f ≤ t) (ht : t ≤ 1000) (w0 : World) (hbp : Blk w0 bp 40 (Pt.cs ⟨k, a, f, t⟩).toArray) :
    SeqO Fence.wide n Tryd.prog 17 #[pv bp] (fun y : Iy f t => #[.int .i64 (y.i : Int), Sp.val ⟨k, a, (y.i : Int) - (f : Int)⟩]) (KB bp) (EltsY (t - f)) (fun pre => ∃ q, q ≤ t - f ∧ EltsY q pre) (t - f) w0 := by
  intro l J Jx W hlt0 hb hJ hJx hY h0
  have hFw : ∀ f, Fence.wide.fn f := fun _ => trivial
  have HBP := Lib.hid (Blk.keep hbp hb)
  have HJ := Lib.hid hJ
  have HY := Lib.hid hY
  obtain ⟨c0, c1, c2, c3⟩ := HBP.out.four
  clear hbp hJ hJx hY hb hlt0
  refine callsIn_of_wp Tryd.func17 rfl trivial ?_ rfl
  simp only [Tryd.ntmps17, List.size_toArray, List.length_cons, List.length_nil, Nat.reduceAdd, Nat.reduceSub, Array.replicate_succ, Array.replicate_zero, List.push_toArray, List.append_toArray, List.nil_append, List.cons_append]
  gi_wp2
  clear c0 c1 c2 c3
  gi_loopw [3] (fun i wr => ∃ q : Nat, q ≤ t - f ∧ i = .int .i64 ((f + q : Nat) : Int) ∧ ∃ pre, EltsY q pre ∧ J pre wr ∧ Blk wr bp 40 (Pt.cs ⟨k, a, f, t⟩).toArray) (fun i _ => t + 1 - (intOf i).toNat)
  case atStart => exact ⟨0, Nat.zero_le _, rfl, [], ⟨rfl, by simp⟩, h0, HBP.out⟩
  case round =>
    obtain ⟨q, hq, rfl, pre, hpre, hJs, hblk⟩ := hrel
    obtain ⟨c0, c1, c2, c3⟩ := hblk.four
    have HP := Lib.hid hpre
    have HJS := Lib.hid hJs
    have HBK := Lib.hid hblk
    by_cases hlt : q < t - f
    · have i2 : ((f + q : Nat) : Int) < (t : Int) := by omega
      have d2 : decide (((f + q : Nat) : Int) < (t : Int)) = true := decide_eq_true i2
      have HC := Lib.hid (show (0 ≤ ((f : Nat) : Int) ∧ ((f : Nat) : Int) ≤ 100000) ∧ (0 ≤ ((f + q : Nat) : Int) ∧ ((f + q : Nat) : Int) ≤ 100000) by omega)
      have HLT := Lib.hid hlt
      clear hpre hJs hblk
      gi_wp2_with (gi_at_call 18; refine ((callsIn_wide (n := n - 1)).2 (pspot_any ⟨k, a, f, t⟩ ((f + q : Nat) : Int) _ HC.out.1 HC.out.2)).mono ?_; rintro e w1 ⟨rfl, hb1⟩; have J1 := Lib.hid (HJ.out _ _ _ none HJS.out (grown_of_below hb1) (fun _ e => by cases e)); have B1 := Lib.hid (HBK.out.keep hb1); obtain ⟨fn, tmps, assign, body, hy, hR⟩ := HY.out pre ⟨f + q, Nat.le_add_right _ _, by have := HLT.out; omega⟩ w1 J1.out (by rw [HP.out.1]; exact HLT.out); dsimp only at hy; simp only [Int.natCast_add] at hy; have HRR := Lib.hid hR; clear hb1 hR)
      refine HRR.out.mono ?_
      rintro e W3 ⟨hk3, (⟨rfl, hJ3⟩ | ⟨rfl, hJx3⟩)⟩
      · have HS3 := Lib.hid (hk3 _ B1.out)
        have HP3 := Lib.hid (HP.out.snoc ⟨f + q, Nat.le_add_right _ _, by have := HLT.out; omega⟩ rfl)
        have HJ3 := Lib.hid hJ3
        clear hJ3 hk3
        gi_wp2
        go_roundw
        case rel => exact ⟨q + 1, by have := HLT.out; omega, by go_num, _, HP3.out, HJ3.out, HS3.out⟩
        case measure => simp [intOf]; omega
      · have HP3 := Lib.hid (HP.out.snoc ⟨f + q, Nat.le_add_right _ _, by have := HLT.out; omega⟩ rfl)
        have HJ3 := Lib.hid hJx3
        clear hJx3
        gi_wp2
        refine bodyPost_ret (results_none rfl _ _ _) rfl ?_
        exact ⟨⟨_, rfl⟩, .inr ⟨_, ⟨q + 1, by have := HLT.out; omega, HP3.out⟩, HJ3.out⟩⟩
    · obtain rfl : q = t - f := by omega
      have i2 : ¬ ((f + (t - f) : Nat) : Int) < (t : Int) := by omega
      have d2 : decide (((f + (t - f) : Nat) : Int) < (t : Int)) = false := decide_eq_false i2
      gi_wp2
      go_end0
      exact ⟨⟨_, rfl⟩, .inl ⟨pre, hpre, hJs⟩⟩
end Go.Proofs.YtpihllgdgolgpaaDoor

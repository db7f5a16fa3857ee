/- The walk: the document's Sealed. -/
import Derived.Test.YtgpggodabalakaaSealed
import Derived.Test.YtgpggodabalakaaStr
namespace Go.Proofs.Ytgpggodabalakaa
open Go.RowKit
set_option maxHeartbeats 800000 in
theorem rsealed_short (A : Option Addr) (n c : Nat) (w : World) (h : n < 4) :
    Calls Try.prog 23 #[.slice A n c] w fun e w' => e = .returned (.tuple #[.slice none 0 0, .bool false]) ∧ w = w' := by
  have h4 : (n : Int) < 4 := by omega
  go_enter Try.func23, Try.ntmps23
  go_wp2
  go_ret2
  exact ⟨rfl, rfl⟩
theorem own_some {w : World} {base n : Nat} {e : TypeId} {v : Value} {xs : List Value} (h : w.ownsRow base e 1 v n xs) (hn : 0 < n) : ∃ g cap, v = .slice (some ⟨g, 0, none⟩) n cap ∧ n ≤ cap := by
  rcases h.2 with ⟨_, h0⟩ | ⟨g, cap, cur, h1, _, _, h2, _⟩
  · omega
  · exact ⟨g, cap, h1, h2⟩
theorem own_take {w : World} {base n k : Nat} {e : TypeId} {g cap : Nat} {xs : List Value} (h : w.ownsRow base e 1 (.slice (some ⟨g, 0, none⟩) n cap) n xs) (hk : k ≤ n) :
    w.ownsRow base e 1 (.slice (some ⟨g, 0, none⟩) k cap) k (xs.take k) := by
  refine ⟨by have := h.1; simp at this ⊢; omega, ?_⟩
  rcases h.2 with ⟨h', _⟩ | ⟨g', cap', cur, h', h1, h2, h3, h4, h5, h6⟩
  · simp at h'
  · injection h' with ha hb hc
    injection ha with ha
    injection ha with ha
    subst ha; subst hc
    refine .inr ⟨g, cap, cur, rfl, h1, h2, by omega, h4, h5, ?_⟩
    rw [← h6, List.take_take]
    congr 1
    omega
set_option maxHeartbeats 800000 in
theorem rsealed_any (b : Bool) (A : Option Addr) (n c : Nat) (l : List UInt8) (w : World) (hn : l.length = n + 4) (hc : n + 4 ≤ c) (hr : Rd w A l) (hbig : n ≤ 100000) (hq : ((st (sealN (l.take n))).toList == (st l).toList) = b) :
    Calls Try.prog 23 #[.slice A (n + 4) c] w fun e w' => ∃ v, e = .returned (.tuple #[v, .bool b]) ∧ w'.ownsRow w.heap.size 5 1 v (if b then n else 0) (bv (if b then l.take n else [])) ∧ Below w.heap.size w w' := by
  have h4 : ¬ (((n + 4 : Nat) : Int) < 4) := by omega
  have hsub : (((n + 4 : Nat) : Int) - 4) = (n : Int) := by omega
  have HR := Lib.hid hr
  have HT := Lib.hid (hr.take n)
  have HN := Lib.hid hn
  have HTL := Lib.hid (show (l.take n).length = n by simp; omega)
  have hi1 : (0 : Int) ≤ (n : Int) := by omega
  have hi2 : (n : Int) ≤ ((n + 4 : Nat) : Int) := by omega
  have hi3 : ((n + 4 : Nat) : Int) ≤ (c : Int) := by omega
  have hi4 : (n : Int) ≤ (c : Int) := by omega
  clear hr hn
  cases b
  all_goals
    go_enter Try.func23, Try.ntmps23
    go_wp2_with fail
    refine (rseal_any _ _ _ (l.take n) _ HTL.out HT.out (by omega)).mono ?_
    rintro e w1 ⟨v, rfl, hown, hb1⟩
    obtain ⟨g, cap, rfl, hcap⟩ := own_some hown (by omega)
    have hs1 := run_str (P := Try.prog) w1 Try.underlying22 Try.underlying5 Try.underlying9 (c := cap) (by rw [sealN_length, HTL.out]) (Rd.of_own hown)
    have hs2 := run_str (P := Try.prog) w1 Try.underlying22 Try.underlying5 Try.underlying9 (c := c) HN.out (HR.out.below hb1)
    have HO := Lib.hid hown
    have hi5 : (n : Int) ≤ (cap : Int) := by omega
    clear hown
    go_wp2
    go_ret2
  · exact ⟨_, rfl, World.ownsRow_nil _ _ _ _, hb1⟩
  · have := own_take HO.out (k := n) (by omega)
    rw [show (bv (sealN (l.take n))).take n = bv (l.take n) by
      unfold sealN
      rw [bv_append, List.take_append_of_le_length (by rw [bv_length, HTL.out]; omega), List.take_of_length_le (by rw [bv_length, HTL.out]; omega)]] at this
    exact ⟨_, rfl, this, hb1⟩
end Go.Proofs.Ytgpggodabalakaa

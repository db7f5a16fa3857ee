/- headers: Check, fits, by the program; which headers may be, by the document. -/
import Derived.Test.YtcfkoglehjkkdaaHFld
import Derived.Test.YtcfkoglehjkkdaaP11
namespace Go.Proofs.Ytcfkoglehjkkdaa
open Go.RowKit
attribute [local go_sem] Oper.semAt_some
def Hd.no (h : Hd) : Int := if 0 ≤ h.e ∧ 0 ≤ h.a ∧ h.a < 2 ∧ 1 ≤ h.o ∧ h.o ≤ 64 then 0 else 2
set_option maxRecDepth 100000 in
set_option maxHeartbeats 2000000 in
theorem check_any (h : Hd) (w : World) : Calls Try.prog 23 #[h.val] w fun r w' => r = .returned (.int .i64 h.no) ∧ Below w.heap.size w w' := by
  have HB := Lib.hid ((Below.refl w.heap.size w).alloc (Nat.le_refl _) (.cells h.cs.toArray 28))
  by_cases h1 : h.e < 0 ∨ h.a < 0 ∨ 2 ≤ h.a
  · have hn : h.no = 2 := by unfold Hd.no; rw [if_neg (by omega)]
    rw [hn]
    clear hn
    have hd : (decide (h.e < 0) = true) ∨ (decide (h.e < 0) = false ∧ decide (h.a < 0) = true) ∨ (decide (h.e < 0) = false ∧ decide (h.a < 0) = false ∧ decide (2 ≤ h.a) = true) := by
      simp only [decide_eq_true_eq, decide_eq_false_iff_not]
      omega
    clear h1
    rcases hd with d1 | ⟨d1, d2⟩ | ⟨d1, d2, d3⟩
    all_goals
      go_enter Try.func23, Try.ntmps23
      go_wp2
      go_ret
      exact ⟨rfl, HB.out⟩
  · have d1 : decide (h.e < 0) = false := decide_eq_false (by omega)
    have d2 : decide (h.a < 0) = false := decide_eq_false (by omega)
    have d3 : decide (2 ≤ h.a) = false := decide_eq_false (by omega)
    have HN := Lib.hid (show (if 1 ≤ h.o ∧ h.o ≤ 64 then (0 : Int) else 2) = h.no by
      unfold Hd.no
      by_cases ho : 1 ≤ h.o ∧ h.o ≤ 64
      · rw [if_pos ho, if_pos (by omega)]
      · rw [if_neg ho, if_neg (by omega)])
    clear h1
    go_enter Try.func23, Try.ntmps23
    go_wp2_with (go_at_call 52; refine (V.size_any h.o _).mono ?_; rw [HN.out]; generalize (if 1 ≤ h.o ∧ h.o ≤ 64 then 20 + 3 * h.o else (0 : Int)) = sz; rintro r w1 ⟨rfl, hb⟩; have B1 := Lib.hid (HB.out.trans (hb.mono HB.out.size)); clear hb)
    go_ret
    exact ⟨rfl, B1.out⟩
set_option maxRecDepth 100000 in
set_option maxHeartbeats 2000000 in
theorem fits_any (h : Hd) (ho : 1 ≤ h.o ∧ h.o ≤ 64) (n : Int) (w : World) : Calls Try.prog 36 #[h.val, .int .i64 n] w fun r w' => r = .returned (.bool (20 + 3 * h.o == n)) ∧ Below w.heap.size w w' := by
  have HB := Lib.hid ((Below.refl w.heap.size w).alloc (Nat.le_refl _) (.cells h.cs.toArray 28))
  have HO := Lib.hid ho
  clear ho
  go_enter Try.func36, Try.ntmps36
  go_wp2_with (go_at_call 52; refine (V.size_any h.o _).mono ?_; rw [if_pos HO.out, if_pos HO.out]; rintro r w1 ⟨rfl, hb⟩; have B1 := Lib.hid (HB.out.trans (hb.mono HB.out.size)); clear hb)
  go_ret
  exact ⟨rfl, B1.out⟩
set_option maxRecDepth 100000 in
set_option maxHeartbeats 2000000 in
theorem rcheck_any (h : Hd) (w : World) : Calls Try.prog 30 #[h.val] w fun r w' => r = .returned (.int .i64 h.no) ∧ Below w.heap.size w w' := by
  have HB := Lib.hid ((Below.refl w.heap.size w).alloc (Nat.le_refl _) (.cells h.cs.toArray 28))
  by_cases hk : h.ok
  · have hn : h.no = 0 := by unfold Hd.no; rw [if_pos hk]
    have d1 : decide (h.e < 0) = false := decide_eq_false (by omega)
    have d2 : decide (h.a < 0) = false := decide_eq_false (by omega)
    have d3 : decide (1 < h.a) = false := decide_eq_false (by omega)
    have d4 : decide (h.o < 1) = false := decide_eq_false (by omega)
    have d5 : decide (64 < h.o) = false := decide_eq_false (by omega)
    rw [hn]
    clear hn hk
    go_enter Try.func30, Try.ntmps30
    go_wp2
    go_ret
    exact ⟨rfl, HB.out⟩
  · have hn : h.no = 2 := by unfold Hd.no; rw [if_neg hk]
    have hd : (decide (h.e < 0) = true) ∨ (decide (h.e < 0) = false ∧ decide (h.a < 0) = true) ∨ (decide (h.e < 0) = false ∧ decide (h.a < 0) = false ∧ decide (1 < h.a) = true) ∨ (decide (h.e < 0) = false ∧ decide (h.a < 0) = false ∧ decide (1 < h.a) = false ∧ decide (h.o < 1) = true) ∨ (decide (h.e < 0) = false ∧ decide (h.a < 0) = false ∧ decide (1 < h.a) = false ∧ decide (h.o < 1) = false ∧ decide (64 < h.o) = true) := by
      simp only [decide_eq_true_eq, decide_eq_false_iff_not]
      omega
    rw [hn]
    clear hn hk
    rcases hd with d1 | ⟨d1, d2⟩ | ⟨d1, d2, d3⟩ | ⟨d1, d2, d3, d4⟩ | ⟨d1, d2, d3, d4, d5⟩
    all_goals
      go_enter Try.func30, Try.ntmps30
      go_wp2
      go_ret
      exact ⟨rfl, HB.out⟩
end Go.Proofs.Ytcfkoglehjkkdaa

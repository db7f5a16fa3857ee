/- keys.Order, the definition's Order. -/
import Derived.Test.YtmpibbgciajnkaaDoorKAny
import Derived.Deep.QuietTactic
import Derived.BigQuiet
namespace Go.Proofs.YtmpibbgciajnkaaDoor
open Go.RowKit
def cmV (a b : Int) : Int := if a < b then -1 else if b < a then 1 else 0
def thV (o a b : Int) : Int := if o = 0 then cmV a b else o
theorem cmV_lt {a b : Int} (h : a < b) : cmV a b = -1 := if_pos h
theorem cmV_gt {a b : Int} (h : b < a) : cmV a b = 1 := by unfold cmV; rw [if_neg (by omega), if_pos h]
theorem cmV_eq (a : Int) : cmV a a = 0 := by unfold cmV; rw [if_neg (by omega), if_neg (by omega)]
theorem thV_0 (a b : Int) : thV 0 a b = cmV a b := if_pos rfl
theorem thV_m (a b : Int) : thV (-1) a b = -1 := if_neg (by decide)
theorem thV_p (a b : Int) : thV 1 a b = 1 := if_neg (by decide)
def kOrd (a b : Ky) : Int := thV (thV (thV (thV (thV (cmV a.k b.k) a.o b.o) a.c b.c) a.l b.l) a.r b.r) a.v b.v
theorem nanK (a : Int) (w : World) : Calls Tryd.prog 50 #[.int .i64 a] w fun e w' => e = .returned (.bool false) ∧ w = w' := by
  go_enter Tryd.func50, Tryd.ntmps50
  go_wp2
  go_ret
  exact ⟨rfl, rfl⟩
theorem cmpK (a b : Int) (w : World) : Calls Tryd.prog 42 #[.int .i64 a, .int .i64 b] w fun e w' => e = .returned (.int .i64 (cmV a b)) ∧ w = w' := by
  rcases Int.lt_trichotomy a b with h | h | h
  · rw [cmV_lt h]
    go_enter Tryd.func42, Tryd.ntmps42
    go_wp2_with (go_at_call 50; refine (nanK _ _).mono ?_; rintro e w' ⟨rfl, rfl⟩)
    go_ret
    exact ⟨rfl, rfl⟩
  · subst h
    rw [cmV_eq]
    go_enter Tryd.func42, Tryd.ntmps42
    go_wp2_with (go_at_call 50; refine (nanK _ _).mono ?_; rintro e w' ⟨rfl, rfl⟩)
    go_ret
    exact ⟨rfl, rfl⟩
  · rw [cmV_gt h]
    have h' : ¬ a < b := by omega
    have d : decide (a < b) = false := by simpa using h'
    clear h'
    go_enter Tryd.func42, Tryd.ntmps42
    go_wp2_with (go_at_call 50; refine (nanK _ _).mono ?_; rintro e w' ⟨rfl, rfl⟩)
    go_ret
    exact ⟨rfl, rfl⟩
theorem nanI (a : Int) (w : World) : Calls Tryd.prog 58 #[.int .i64 a] w fun e w' => e = .returned (.bool false) ∧ w = w' := by
  go_enter Tryd.func58, Tryd.ntmps58
  go_wp2
  go_ret
  exact ⟨rfl, rfl⟩
theorem cmpI (a b : Int) (w : World) : Calls Tryd.prog 51 #[.int .i64 a, .int .i64 b] w fun e w' => e = .returned (.int .i64 (cmV a b)) ∧ w = w' := by
  rcases Int.lt_trichotomy a b with h | h | h
  · rw [cmV_lt h]
    go_enter Tryd.func51, Tryd.ntmps51
    go_wp2_with (go_at_call 58; refine (nanI _ _).mono ?_; rintro e w' ⟨rfl, rfl⟩)
    go_ret
    exact ⟨rfl, rfl⟩
  · subst h
    rw [cmV_eq]
    go_enter Tryd.func51, Tryd.ntmps51
    go_wp2_with (go_at_call 58; refine (nanI _ _).mono ?_; rintro e w' ⟨rfl, rfl⟩)
    go_ret
    exact ⟨rfl, rfl⟩
  · rw [cmV_gt h]
    have h' : ¬ a < b := by omega
    have d : decide (a < b) = false := by simpa using h'
    clear h'
    go_enter Tryd.func51, Tryd.ntmps51
    go_wp2_with (go_at_call 58; refine (nanI _ _).mono ?_; rintro e w' ⟨rfl, rfl⟩)
    go_ret
    exact ⟨rfl, rfl⟩
theorem thenI (q a b : Int) (w : World) : Calls Tryd.prog 43 #[.int .i64 q, .int .i64 a, .int .i64 b] w fun e w' => e = .returned (.int .i64 (thV q a b)) ∧ w = w' := by
  by_cases h : q = 0
  · subst h
    rw [thV_0]
    go_enter Tryd.func43, Tryd.ntmps43
    go_wp2_with (go_at_call 51; refine (cmpI _ _ _).mono ?_; rintro e w' ⟨rfl, rfl⟩)
    go_ret
    exact ⟨rfl, rfl⟩
  · rw [show thV q a b = q from if_neg h]
    have d : (q != 0) = true := by simpa using h
    clear h
    go_enter Tryd.func43, Tryd.ntmps43
    go_wp2_with (go_at_call 51; refine (cmpI _ _ _).mono ?_; rintro e w' ⟨rfl, rfl⟩)
    go_ret
    exact ⟨rfl, rfl⟩
theorem nanJ (a : Int) (w : World) : Calls Tryd.prog 59 #[.int .i64 a] w fun e w' => e = .returned (.bool false) ∧ w = w' := by
  go_enter Tryd.func59, Tryd.ntmps59
  go_wp2
  go_ret
  exact ⟨rfl, rfl⟩
theorem cmpJ (a b : Int) (w : World) : Calls Tryd.prog 52 #[.int .i64 a, .int .i64 b] w fun e w' => e = .returned (.int .i64 (cmV a b)) ∧ w = w' := by
  rcases Int.lt_trichotomy a b with h | h | h
  · rw [cmV_lt h]
    go_enter Tryd.func52, Tryd.ntmps52
    go_wp2_with (go_at_call 59; refine (nanJ _ _).mono ?_; rintro e w' ⟨rfl, rfl⟩)
    go_ret
    exact ⟨rfl, rfl⟩
  · subst h
    rw [cmV_eq]
    go_enter Tryd.func52, Tryd.ntmps52
    go_wp2_with (go_at_call 59; refine (nanJ _ _).mono ?_; rintro e w' ⟨rfl, rfl⟩)
    go_ret
    exact ⟨rfl, rfl⟩
  · rw [cmV_gt h]
    have h' : ¬ a < b := by omega
    have d : decide (a < b) = false := by simpa using h'
    clear h'
    go_enter Tryd.func52, Tryd.ntmps52
    go_wp2_with (go_at_call 59; refine (nanJ _ _).mono ?_; rintro e w' ⟨rfl, rfl⟩)
    go_ret
    exact ⟨rfl, rfl⟩
theorem thenJ (q a b : Int) (w : World) : Calls Tryd.prog 44 #[.int .i64 q, .int .i64 a, .int .i64 b] w fun e w' => e = .returned (.int .i64 (thV q a b)) ∧ w = w' := by
  by_cases h : q = 0
  · subst h
    rw [thV_0]
    go_enter Tryd.func44, Tryd.ntmps44
    go_wp2_with (go_at_call 52; refine (cmpJ _ _ _).mono ?_; rintro e w' ⟨rfl, rfl⟩)
    go_ret
    exact ⟨rfl, rfl⟩
  · rw [show thV q a b = q from if_neg h]
    have d : (q != 0) = true := by simpa using h
    clear h
    go_enter Tryd.func44, Tryd.ntmps44
    go_wp2_with (go_at_call 52; refine (cmpJ _ _ _).mono ?_; rintro e w' ⟨rfl, rfl⟩)
    go_ret
    exact ⟨rfl, rfl⟩
theorem nanR (a : Int) (w : World) : Calls Tryd.prog 60 #[.int .i64 a] w fun e w' => e = .returned (.bool false) ∧ w = w' := by
  go_enter Tryd.func60, Tryd.ntmps60
  go_wp2
  go_ret
  exact ⟨rfl, rfl⟩
theorem cmpR (a b : Int) (w : World) : Calls Tryd.prog 53 #[.int .i64 a, .int .i64 b] w fun e w' => e = .returned (.int .i64 (cmV a b)) ∧ w = w' := by
  rcases Int.lt_trichotomy a b with h | h | h
  · rw [cmV_lt h]
    go_enter Tryd.func53, Tryd.ntmps53
    go_wp2_with (go_at_call 60; refine (nanR _ _).mono ?_; rintro e w' ⟨rfl, rfl⟩)
    go_ret
    exact ⟨rfl, rfl⟩
  · subst h
    rw [cmV_eq]
    go_enter Tryd.func53, Tryd.ntmps53
    go_wp2_with (go_at_call 60; refine (nanR _ _).mono ?_; rintro e w' ⟨rfl, rfl⟩)
    go_ret
    exact ⟨rfl, rfl⟩
  · rw [cmV_gt h]
    have h' : ¬ a < b := by omega
    have d : decide (a < b) = false := by simpa using h'
    clear h'
    go_enter Tryd.func53, Tryd.ntmps53
    go_wp2_with (go_at_call 60; refine (nanR _ _).mono ?_; rintro e w' ⟨rfl, rfl⟩)
    go_ret
    exact ⟨rfl, rfl⟩
theorem thenR (q a b : Int) (w : World) : Calls Tryd.prog 45 #[.int .i64 q, .int .i64 a, .int .i64 b] w fun e w' => e = .returned (.int .i64 (thV q a b)) ∧ w = w' := by
  by_cases h : q = 0
  · subst h
    rw [thV_0]
    go_enter Tryd.func45, Tryd.ntmps45
    go_wp2_with (go_at_call 53; refine (cmpR _ _ _).mono ?_; rintro e w' ⟨rfl, rfl⟩)
    go_ret
    exact ⟨rfl, rfl⟩
  · rw [show thV q a b = q from if_neg h]
    have d : (q != 0) = true := by simpa using h
    clear h
    go_enter Tryd.func45, Tryd.ntmps45
    go_wp2_with (go_at_call 53; refine (cmpR _ _ _).mono ?_; rintro e w' ⟨rfl, rfl⟩)
    go_ret
    exact ⟨rfl, rfl⟩
set_option maxHeartbeats 1000000 in
theorem kord_any (a b : Ky) (w : World) : Calls Tryd.prog 30 #[a.val, b.val] w fun e w' => e = .returned (.int .i64 (kOrd a b)) ∧ Below w.heap.size w w' := by
  unfold kOrd
  go_enter Tryd.func30, Tryd.ntmps30
  go_wp2_with (first | (go_at_call 42; refine (cmpK _ _ _).mono ?_; rintro e w' ⟨rfl, rfl⟩) | (go_at_call 43; refine (thenI _ _ _ _).mono ?_; rintro e w' ⟨rfl, rfl⟩) | (go_at_call 44; refine (thenJ _ _ _ _).mono ?_; rintro e w' ⟨rfl, rfl⟩) | (go_at_call 45; refine (thenR _ _ _ _).mono ?_; rintro e w' ⟨rfl, rfl⟩))
  go_ret
  exact ⟨rfl, ((Below.refl _ _).alloc (Nat.le_refl _) _).alloc (by simp) _⟩
/-- the first parts are the same -/
def Eqs (a b : Ky) (n : Nat) : Prop := (0 < n → a.k = b.k) ∧ (1 < n → a.o = b.o) ∧ (2 < n → a.c = b.c) ∧ (3 < n → a.l = b.l) ∧ (4 < n → a.r = b.r) ∧ (5 < n → a.v = b.v)
set_option maxHeartbeats 4000000 in
theorem rord_any (a b : Ky) (w : World) : Calls Tryd.prog 31 #[a.val, b.val] w fun e w' => e = .returned (.int .i64 (kOrd a b)) ∧ Below w.heap.size w w' := by
  obtain ⟨k, o, c, l, r, v⟩ := a
  obtain ⟨k', o', c', l', r', v'⟩ := b
  go_enter Tryd.func31, Tryd.ntmps31
  go_wp2
  go_loopw [7] (fun i wr => ∃ n m : Nat, n ≤ 6 ∧ i = .int .i64 n ∧ wr = ((((w.alloc (.cells (kc k o c l r v) 25)).alloc (.cells (kc k' o' c' l' r' v') 25)).alloc (.cells (kc k o c l r v) 2)).alloc (.cells (kc k' o' c' l' r' v') 2)).drewN m ∧ Eqs ⟨k, o, c, l, r, v⟩ ⟨k', o', c', l', r', v'⟩ n) (fun i _ => 7 - (intOf i).toNat)
  case atStart => exact ⟨0, 0, by omega, rfl, rfl, by simp [Eqs]⟩
  case round =>
    obtain ⟨n, m, hn, rfl, rfl, he⟩ := hrel
    have HB : Hid (Below w.heap.size w (((((w.alloc (.cells (kc k o c l r v) 25)).alloc (.cells (kc k' o' c' l' r' v') 25)).alloc (.cells (kc k o c l r v) 2)).alloc (.cells (kc k' o' c' l' r' v') 2)).drewN m)) := Lib.hid (below_drewN (((((Below.refl _ _).alloc (Nat.le_refl _) _).alloc (by simp) _).alloc (by simp; omega) _).alloc (by simp; omega) _) m)
    have hcase : n = 0 ∨ n = 1 ∨ n = 2 ∨ n = 3 ∨ n = 4 ∨ n = 5 ∨ n = 6 := by omega
    simp only [Eqs] at he
    rcases hcase with rfl | rfl | rfl | rfl | rfl | rfl | rfl
    · clear he
      rcases Int.lt_trichotomy k k' with h | h | h
      · have HV : Hid (kOrd ⟨k, o, c, l, r, v⟩ ⟨k', o', c', l', r', v'⟩ = -1) := Lib.hid (by simp only [kOrd, thV_m, cmV_lt h])
        go_wp2_with fail
        go_quiet (fail)
        go_wp2
        go_ret
        exact ⟨ret_v HV.out.symm, below_drewN HB.out _⟩
      · subst h
        clear HB
        go_wp2_with fail
        go_quiet (fail)
        go_wp2_with fail
        go_quiet (fail)
        go_wp2
        go_roundw
        case rel => exact ⟨1, _, by omega, rfl, rfl, by simp [Eqs]⟩
        case measure => simp [intOf]
      · have HV : Hid (kOrd ⟨k, o, c, l, r, v⟩ ⟨k', o', c', l', r', v'⟩ = 1) := Lib.hid (by simp only [kOrd, thV_p, cmV_gt h])
        have hn' : ¬ k < k' := by omega
        have d1 : decide (k < k') = false := by simpa using hn'
        clear hn'
        go_wp2_with fail
        go_quiet (fail)
        go_wp2_with fail
        go_quiet (fail)
        go_wp2
        go_ret
        exact ⟨ret_v HV.out.symm, below_drewN (below_drewN HB.out _) _⟩
    · obtain rfl : k = k' := he.1 (by omega)
      clear he
      rcases Int.lt_trichotomy o o' with h | h | h
      · have HV : Hid (kOrd ⟨k, o, c, l, r, v⟩ ⟨k, o', c', l', r', v'⟩ = -1) := Lib.hid (by simp only [kOrd, cmV_eq, thV_0, thV_m, cmV_lt h])
        go_wp2_with fail
        go_quiet (fail)
        go_wp2
        go_ret
        exact ⟨ret_v HV.out.symm, below_drewN HB.out _⟩
      · subst h
        clear HB
        go_wp2_with fail
        go_quiet (fail)
        go_wp2_with fail
        go_quiet (fail)
        go_wp2
        go_roundw
        case rel => exact ⟨2, _, by omega, rfl, rfl, by simp [Eqs]⟩
        case measure => simp [intOf]
      · have HV : Hid (kOrd ⟨k, o, c, l, r, v⟩ ⟨k, o', c', l', r', v'⟩ = 1) := Lib.hid (by simp only [kOrd, cmV_eq, thV_0, thV_p, cmV_gt h])
        have hn' : ¬ o < o' := by omega
        have d1 : decide (o < o') = false := by simpa using hn'
        clear hn'
        go_wp2_with fail
        go_quiet (fail)
        go_wp2_with fail
        go_quiet (fail)
        go_wp2
        go_ret
        exact ⟨ret_v HV.out.symm, below_drewN (below_drewN HB.out _) _⟩
    · obtain rfl : k = k' := he.1 (by omega)
      obtain rfl : o = o' := he.2.1 (by omega)
      clear he
      rcases Int.lt_trichotomy c c' with h | h | h
      · have HV : Hid (kOrd ⟨k, o, c, l, r, v⟩ ⟨k, o, c', l', r', v'⟩ = -1) := Lib.hid (by simp only [kOrd, cmV_eq, thV_0, thV_m, cmV_lt h])
        go_wp2_with fail
        go_quiet (fail)
        go_wp2
        go_ret
        exact ⟨ret_v HV.out.symm, below_drewN HB.out _⟩
      · subst h
        clear HB
        go_wp2_with fail
        go_quiet (fail)
        go_wp2_with fail
        go_quiet (fail)
        go_wp2
        go_roundw
        case rel => exact ⟨3, _, by omega, rfl, rfl, by simp [Eqs]⟩
        case measure => simp [intOf]
      · have HV : Hid (kOrd ⟨k, o, c, l, r, v⟩ ⟨k, o, c', l', r', v'⟩ = 1) := Lib.hid (by simp only [kOrd, cmV_eq, thV_0, thV_p, cmV_gt h])
        have hn' : ¬ c < c' := by omega
        have d1 : decide (c < c') = false := by simpa using hn'
        clear hn'
        go_wp2_with fail
        go_quiet (fail)
        go_wp2_with fail
        go_quiet (fail)
        go_wp2
        go_ret
        exact ⟨ret_v HV.out.symm, below_drewN (below_drewN HB.out _) _⟩
    · obtain rfl : k = k' := he.1 (by omega)
      obtain rfl : o = o' := he.2.1 (by omega)
      obtain rfl : c = c' := he.2.2.1 (by omega)
      clear he
      rcases Int.lt_trichotomy l l' with h | h | h
      · have HV : Hid (kOrd ⟨k, o, c, l, r, v⟩ ⟨k, o, c, l', r', v'⟩ = -1) := Lib.hid (by simp only [kOrd, cmV_eq, thV_0, thV_m, cmV_lt h])
        go_wp2_with fail
        go_quiet (fail)
        go_wp2
        go_ret
        exact ⟨ret_v HV.out.symm, below_drewN HB.out _⟩
      · subst h
        clear HB
        go_wp2_with fail
        go_quiet (fail)
        go_wp2_with fail
        go_quiet (fail)
        go_wp2
        go_roundw
        case rel => exact ⟨4, _, by omega, rfl, rfl, by simp [Eqs]⟩
        case measure => simp [intOf]
      · have HV : Hid (kOrd ⟨k, o, c, l, r, v⟩ ⟨k, o, c, l', r', v'⟩ = 1) := Lib.hid (by simp only [kOrd, cmV_eq, thV_0, thV_p, cmV_gt h])
        have hn' : ¬ l < l' := by omega
        have d1 : decide (l < l') = false := by simpa using hn'
        clear hn'
        go_wp2_with fail
        go_quiet (fail)
        go_wp2_with fail
        go_quiet (fail)
        go_wp2
        go_ret
        exact ⟨ret_v HV.out.symm, below_drewN (below_drewN HB.out _) _⟩
    · obtain rfl : k = k' := he.1 (by omega)
      obtain rfl : o = o' := he.2.1 (by omega)
      obtain rfl : c = c' := he.2.2.1 (by omega)
      obtain rfl : l = l' := he.2.2.2.1 (by omega)
      clear he
      rcases Int.lt_trichotomy r r' with h | h | h
      · have HV : Hid (kOrd ⟨k, o, c, l, r, v⟩ ⟨k, o, c, l, r', v'⟩ = -1) := Lib.hid (by simp only [kOrd, cmV_eq, thV_0, thV_m, cmV_lt h])
        go_wp2_with fail
        go_quiet (fail)
        go_wp2
        go_ret
        exact ⟨ret_v HV.out.symm, below_drewN HB.out _⟩
      · subst h
        clear HB
        go_wp2_with fail
        go_quiet (fail)
        go_wp2_with fail
        go_quiet (fail)
        go_wp2
        go_roundw
        case rel => exact ⟨5, _, by omega, rfl, rfl, by simp [Eqs]⟩
        case measure => simp [intOf]
      · have HV : Hid (kOrd ⟨k, o, c, l, r, v⟩ ⟨k, o, c, l, r', v'⟩ = 1) := Lib.hid (by simp only [kOrd, cmV_eq, thV_0, thV_p, cmV_gt h])
        have hn' : ¬ r < r' := by omega
        have d1 : decide (r < r') = false := by simpa using hn'
        clear hn'
        go_wp2_with fail
        go_quiet (fail)
        go_wp2_with fail
        go_quiet (fail)
        go_wp2
        go_ret
        exact ⟨ret_v HV.out.symm, below_drewN (below_drewN HB.out _) _⟩
    · obtain rfl : k = k' := he.1 (by omega)
      obtain rfl : o = o' := he.2.1 (by omega)
      obtain rfl : c = c' := he.2.2.1 (by omega)
      obtain rfl : l = l' := he.2.2.2.1 (by omega)
      obtain rfl : r = r' := he.2.2.2.2.1 (by omega)
      clear he
      rcases Int.lt_trichotomy v v' with h | h | h
      · have HV : Hid (kOrd ⟨k, o, c, l, r, v⟩ ⟨k, o, c, l, r, v'⟩ = -1) := Lib.hid (by simp only [kOrd, cmV_eq, thV_0, cmV_lt h])
        go_wp2_with fail
        go_quiet (fail)
        go_wp2
        go_ret
        exact ⟨ret_v HV.out.symm, below_drewN HB.out _⟩
      · subst h
        clear HB
        go_wp2_with fail
        go_quiet (fail)
        go_wp2_with fail
        go_quiet (fail)
        go_wp2
        go_roundw
        case rel => exact ⟨6, _, by omega, rfl, rfl, by simp [Eqs]⟩
        case measure => simp [intOf]
      · have HV : Hid (kOrd ⟨k, o, c, l, r, v⟩ ⟨k, o, c, l, r, v'⟩ = 1) := Lib.hid (by simp only [kOrd, cmV_eq, thV_0, cmV_gt h])
        have hn' : ¬ v < v' := by omega
        have d1 : decide (v < v') = false := by simpa using hn'
        clear hn'
        go_wp2_with fail
        go_quiet (fail)
        go_wp2_with fail
        go_quiet (fail)
        go_wp2
        go_ret
        exact ⟨ret_v HV.out.symm, below_drewN (below_drewN HB.out _) _⟩
    · obtain rfl : k = k' := he.1 (by omega)
      obtain rfl : o = o' := he.2.1 (by omega)
      obtain rfl : c = c' := he.2.2.1 (by omega)
      obtain rfl : l = l' := he.2.2.2.1 (by omega)
      obtain rfl : r = r' := he.2.2.2.2.1 (by omega)
      obtain rfl : v = v' := he.2.2.2.2.2 (by omega)
      clear he
      have HV : Hid (kOrd ⟨k, o, c, l, r, v⟩ ⟨k, o, c, l, r, v⟩ = 0) := Lib.hid (by simp only [kOrd, cmV_eq, thV_0])
      go_wp2
      go_ret
      exact ⟨ret_v HV.out.symm, HB.out⟩
end Go.Proofs.YtmpibbgciajnkaaDoor

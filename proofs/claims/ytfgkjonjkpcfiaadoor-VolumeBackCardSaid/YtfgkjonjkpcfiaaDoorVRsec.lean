/- volume: the document's answers: Sector. -/
import Derived.Test.YtfgkjonjkpcfiaaDoorVPl
namespace Go.Proofs.YtfgkjonjkpcfiaaDoor
open Go.RowKit
attribute [local go_sem] Oper.semAt_some
section
variable (n k a t : Int) (w : World)
set_option maxRecDepth 8000 in
set_option maxHeartbeats 2000000 in
theorem rsec_no_2 (hr : ¬ (1 ≤ n ∧ n ≤ 64))  : Calls Tryd.prog 17 #[plan n, Sp.val ⟨2, a, t⟩] w fun e w' => e = .returned (.tuple #[.int .i64 0, .int .i64 2]) ∧ Below w.heap.size w w' := by
  have HB := Lib.hid (((Below.refl w.heap.size w).alloc (Nat.le_refl _) (.cells #[.int .i64 n] 23)).alloc (by simp) (.cells (Sp.cs ⟨2, a, t⟩).toArray 37))
  have HS := Lib.hid (show Blk ((w.alloc (.cells #[.int .i64 n] 23)).alloc (.cells (Sp.cs ⟨2, a, t⟩).toArray 37)) (w.heap.size + 1) 37 (Sp.cs ⟨2, a, t⟩).toArray by have := Blk.new (w.alloc (.cells #[.int .i64 n] 23)) 37 (Sp.cs ⟨2, a, t⟩).toArray; simpa using this)
  have HD := Lib.hid (show decide (1 ≤ n ∧ n ≤ 64) = false from decide_eq_false hr)
  clear hr
  go_enter Tryd.func17, Tryd.ntmps17
  go_wp2_with (go_at_call 12; refine (right_any n _).mono ?_; rw [HD.out]; rintro r w1 ⟨rfl, hb⟩; have HB1 := Lib.hid (HB.out.trans (hb.mono HB.out.size)); have HS1 := Lib.hid (HS.out.keep hb); obtain ⟨c0, c1, c2⟩ := HS1.out.three; clear hb)
  all_goals
    go_ret2
    exact ⟨rfl, HB1.out⟩
set_option maxRecDepth 8000 in
set_option maxHeartbeats 2000000 in
theorem rsec_no_3 (hr : ¬ (1 ≤ n ∧ n ≤ 64))  : Calls Tryd.prog 17 #[plan n, Sp.val ⟨3, a, t⟩] w fun e w' => e = .returned (.tuple #[.int .i64 0, .int .i64 2]) ∧ Below w.heap.size w w' := by
  have HB := Lib.hid (((Below.refl w.heap.size w).alloc (Nat.le_refl _) (.cells #[.int .i64 n] 23)).alloc (by simp) (.cells (Sp.cs ⟨3, a, t⟩).toArray 37))
  have HS := Lib.hid (show Blk ((w.alloc (.cells #[.int .i64 n] 23)).alloc (.cells (Sp.cs ⟨3, a, t⟩).toArray 37)) (w.heap.size + 1) 37 (Sp.cs ⟨3, a, t⟩).toArray by have := Blk.new (w.alloc (.cells #[.int .i64 n] 23)) 37 (Sp.cs ⟨3, a, t⟩).toArray; simpa using this)
  have HD := Lib.hid (show decide (1 ≤ n ∧ n ≤ 64) = false from decide_eq_false hr)
  clear hr
  go_enter Tryd.func17, Tryd.ntmps17
  go_wp2_with (go_at_call 12; refine (right_any n _).mono ?_; rw [HD.out]; rintro r w1 ⟨rfl, hb⟩; have HB1 := Lib.hid (HB.out.trans (hb.mono HB.out.size)); have HS1 := Lib.hid (HS.out.keep hb); obtain ⟨c0, c1, c2⟩ := HS1.out.three; clear hb)
  all_goals
    go_ret2
    exact ⟨rfl, HB1.out⟩
set_option maxRecDepth 8000 in
set_option maxHeartbeats 2000000 in
theorem rsec_no_4 (hr : ¬ (1 ≤ n ∧ n ≤ 64))  : Calls Tryd.prog 17 #[plan n, Sp.val ⟨4, a, t⟩] w fun e w' => e = .returned (.tuple #[.int .i64 0, .int .i64 2]) ∧ Below w.heap.size w w' := by
  have HB := Lib.hid (((Below.refl w.heap.size w).alloc (Nat.le_refl _) (.cells #[.int .i64 n] 23)).alloc (by simp) (.cells (Sp.cs ⟨4, a, t⟩).toArray 37))
  have HS := Lib.hid (show Blk ((w.alloc (.cells #[.int .i64 n] 23)).alloc (.cells (Sp.cs ⟨4, a, t⟩).toArray 37)) (w.heap.size + 1) 37 (Sp.cs ⟨4, a, t⟩).toArray by have := Blk.new (w.alloc (.cells #[.int .i64 n] 23)) 37 (Sp.cs ⟨4, a, t⟩).toArray; simpa using this)
  have HD := Lib.hid (show decide (1 ≤ n ∧ n ≤ 64) = false from decide_eq_false hr)
  clear hr
  go_enter Tryd.func17, Tryd.ntmps17
  go_wp2_with (go_at_call 12; refine (right_any n _).mono ?_; rw [HD.out]; rintro r w1 ⟨rfl, hb⟩; have HB1 := Lib.hid (HB.out.trans (hb.mono HB.out.size)); have HS1 := Lib.hid (HS.out.keep hb); obtain ⟨c0, c1, c2⟩ := HS1.out.three; clear hb)
  all_goals
    go_ret2
    exact ⟨rfl, HB1.out⟩
set_option maxRecDepth 8000 in
set_option maxHeartbeats 2000000 in
theorem rsec_no_k (hr : ¬ (1 ≤ n ∧ n ≤ 64)) (hk : k ≠ 2 ∧ k ≠ 3 ∧ k ≠ 4)  : Calls Tryd.prog 17 #[plan n, Sp.val ⟨k, a, t⟩] w fun e w' => e = .returned (.tuple #[.int .i64 0, .int .i64 2]) ∧ Below w.heap.size w w' := by
  have HB := Lib.hid (((Below.refl w.heap.size w).alloc (Nat.le_refl _) (.cells #[.int .i64 n] 23)).alloc (by simp) (.cells (Sp.cs ⟨k, a, t⟩).toArray 37))
  have HS := Lib.hid (show Blk ((w.alloc (.cells #[.int .i64 n] 23)).alloc (.cells (Sp.cs ⟨k, a, t⟩).toArray 37)) (w.heap.size + 1) 37 (Sp.cs ⟨k, a, t⟩).toArray by have := Blk.new (w.alloc (.cells #[.int .i64 n] 23)) 37 (Sp.cs ⟨k, a, t⟩).toArray; simpa using this)
  have HD := Lib.hid (show decide (1 ≤ n ∧ n ≤ 64) = false from decide_eq_false hr)
  have e2 : (k == 2) = false := by simpa using (show k ≠ 2 by omega)
  have e3 : (k == 3) = false := by simpa using (show k ≠ 3 by omega)
  have e4 : (k == 4) = false := by simpa using (show k ≠ 4 by omega)
  clear hr
  go_enter Tryd.func17, Tryd.ntmps17
  go_wp2_with (go_at_call 12; refine (right_any n _).mono ?_; rw [HD.out]; rintro r w1 ⟨rfl, hb⟩; have HB1 := Lib.hid (HB.out.trans (hb.mono HB.out.size)); have HS1 := Lib.hid (HS.out.keep hb); obtain ⟨c0, c1, c2⟩ := HS1.out.three; clear hb)
  all_goals
    go_ret2
    exact ⟨rfl, HB1.out⟩
set_option maxRecDepth 8000 in
set_option maxHeartbeats 2000000 in
theorem rsec_k0 (hr : (1 ≤ n ∧ n ≤ 64)) (h : k < 1) : Calls Tryd.prog 17 #[plan n, Sp.val ⟨k, a, t⟩] w fun e w' => e = .returned (.tuple #[.int .i64 0, .int .i64 2]) ∧ Below w.heap.size w w' := by
  have HB := Lib.hid (((Below.refl w.heap.size w).alloc (Nat.le_refl _) (.cells #[.int .i64 n] 23)).alloc (by simp) (.cells (Sp.cs ⟨k, a, t⟩).toArray 37))
  have HS := Lib.hid (show Blk ((w.alloc (.cells #[.int .i64 n] 23)).alloc (.cells (Sp.cs ⟨k, a, t⟩).toArray 37)) (w.heap.size + 1) 37 (Sp.cs ⟨k, a, t⟩).toArray by have := Blk.new (w.alloc (.cells #[.int .i64 n] 23)) 37 (Sp.cs ⟨k, a, t⟩).toArray; simpa using this)
  have HD := Lib.hid (show decide (1 ≤ n ∧ n ≤ 64) = true from decide_eq_true hr)
  have k1 : decide (k < 1) = true := decide_eq_true h
  have e2 : (k == 2) = false := by simpa using (show k ≠ 2 by omega)
  have e3 : (k == 3) = false := by simpa using (show k ≠ 3 by omega)
  have e4 : (k == 4) = false := by simpa using (show k ≠ 4 by omega)
  clear hr
  go_enter Tryd.func17, Tryd.ntmps17
  go_wp2_with (go_at_call 12; refine (right_any n _).mono ?_; rw [HD.out]; rintro r w1 ⟨rfl, hb⟩; have HB1 := Lib.hid (HB.out.trans (hb.mono HB.out.size)); have HS1 := Lib.hid (HS.out.keep hb); obtain ⟨c0, c1, c2⟩ := HS1.out.three; clear hb)
  all_goals
    go_ret2
    exact ⟨rfl, HB1.out⟩
set_option maxRecDepth 8000 in
set_option maxHeartbeats 2000000 in
theorem rsec_k6 (hr : (1 ≤ n ∧ n ≤ 64)) (h : 5 < k) : Calls Tryd.prog 17 #[plan n, Sp.val ⟨k, a, t⟩] w fun e w' => e = .returned (.tuple #[.int .i64 0, .int .i64 2]) ∧ Below w.heap.size w w' := by
  have HB := Lib.hid (((Below.refl w.heap.size w).alloc (Nat.le_refl _) (.cells #[.int .i64 n] 23)).alloc (by simp) (.cells (Sp.cs ⟨k, a, t⟩).toArray 37))
  have HS := Lib.hid (show Blk ((w.alloc (.cells #[.int .i64 n] 23)).alloc (.cells (Sp.cs ⟨k, a, t⟩).toArray 37)) (w.heap.size + 1) 37 (Sp.cs ⟨k, a, t⟩).toArray by have := Blk.new (w.alloc (.cells #[.int .i64 n] 23)) 37 (Sp.cs ⟨k, a, t⟩).toArray; simpa using this)
  have HD := Lib.hid (show decide (1 ≤ n ∧ n ≤ 64) = true from decide_eq_true hr)
  have k1 : decide (k < 1) = false := decide_eq_false (by omega)
  have k5 : decide (5 < k) = true := decide_eq_true h
  have e2 : (k == 2) = false := by simpa using (show k ≠ 2 by omega)
  have e3 : (k == 3) = false := by simpa using (show k ≠ 3 by omega)
  have e4 : (k == 4) = false := by simpa using (show k ≠ 4 by omega)
  clear hr
  go_enter Tryd.func17, Tryd.ntmps17
  go_wp2_with (go_at_call 12; refine (right_any n _).mono ?_; rw [HD.out]; rintro r w1 ⟨rfl, hb⟩; have HB1 := Lib.hid (HB.out.trans (hb.mono HB.out.size)); have HS1 := Lib.hid (HS.out.keep hb); obtain ⟨c0, c1, c2⟩ := HS1.out.three; clear hb)
  all_goals
    go_ret2
    exact ⟨rfl, HB1.out⟩
set_option maxRecDepth 8000 in
set_option maxHeartbeats 2000000 in
theorem rsec_an_2 (hr : (1 ≤ n ∧ n ≤ 64)) (ha : a < 0) : Calls Tryd.prog 17 #[plan n, Sp.val ⟨2, a, t⟩] w fun e w' => e = .returned (.tuple #[.int .i64 0, .int .i64 2]) ∧ Below w.heap.size w w' := by
  have HB := Lib.hid (((Below.refl w.heap.size w).alloc (Nat.le_refl _) (.cells #[.int .i64 n] 23)).alloc (by simp) (.cells (Sp.cs ⟨2, a, t⟩).toArray 37))
  have HS := Lib.hid (show Blk ((w.alloc (.cells #[.int .i64 n] 23)).alloc (.cells (Sp.cs ⟨2, a, t⟩).toArray 37)) (w.heap.size + 1) 37 (Sp.cs ⟨2, a, t⟩).toArray by have := Blk.new (w.alloc (.cells #[.int .i64 n] 23)) 37 (Sp.cs ⟨2, a, t⟩).toArray; simpa using this)
  have HD := Lib.hid (show decide (1 ≤ n ∧ n ≤ 64) = true from decide_eq_true hr)
  have a0 : decide (a < 0) = true := decide_eq_true ha
  clear hr
  go_enter Tryd.func17, Tryd.ntmps17
  go_wp2_with (go_at_call 12; refine (right_any n _).mono ?_; rw [HD.out]; rintro r w1 ⟨rfl, hb⟩; have HB1 := Lib.hid (HB.out.trans (hb.mono HB.out.size)); have HS1 := Lib.hid (HS.out.keep hb); obtain ⟨c0, c1, c2⟩ := HS1.out.three; clear hb)
  all_goals
    go_ret2
    exact ⟨rfl, HB1.out⟩
set_option maxRecDepth 8000 in
set_option maxHeartbeats 2000000 in
theorem rsec_an_3 (hr : (1 ≤ n ∧ n ≤ 64)) (ha : a < 0) : Calls Tryd.prog 17 #[plan n, Sp.val ⟨3, a, t⟩] w fun e w' => e = .returned (.tuple #[.int .i64 0, .int .i64 2]) ∧ Below w.heap.size w w' := by
  have HB := Lib.hid (((Below.refl w.heap.size w).alloc (Nat.le_refl _) (.cells #[.int .i64 n] 23)).alloc (by simp) (.cells (Sp.cs ⟨3, a, t⟩).toArray 37))
  have HS := Lib.hid (show Blk ((w.alloc (.cells #[.int .i64 n] 23)).alloc (.cells (Sp.cs ⟨3, a, t⟩).toArray 37)) (w.heap.size + 1) 37 (Sp.cs ⟨3, a, t⟩).toArray by have := Blk.new (w.alloc (.cells #[.int .i64 n] 23)) 37 (Sp.cs ⟨3, a, t⟩).toArray; simpa using this)
  have HD := Lib.hid (show decide (1 ≤ n ∧ n ≤ 64) = true from decide_eq_true hr)
  have a0 : decide (a < 0) = true := decide_eq_true ha
  clear hr
  go_enter Tryd.func17, Tryd.ntmps17
  go_wp2_with (go_at_call 12; refine (right_any n _).mono ?_; rw [HD.out]; rintro r w1 ⟨rfl, hb⟩; have HB1 := Lib.hid (HB.out.trans (hb.mono HB.out.size)); have HS1 := Lib.hid (HS.out.keep hb); obtain ⟨c0, c1, c2⟩ := HS1.out.three; clear hb)
  all_goals
    go_ret2
    exact ⟨rfl, HB1.out⟩
set_option maxRecDepth 8000 in
set_option maxHeartbeats 2000000 in
theorem rsec_an_4 (hr : (1 ≤ n ∧ n ≤ 64)) (ha : a < 0) : Calls Tryd.prog 17 #[plan n, Sp.val ⟨4, a, t⟩] w fun e w' => e = .returned (.tuple #[.int .i64 0, .int .i64 2]) ∧ Below w.heap.size w w' := by
  have HB := Lib.hid (((Below.refl w.heap.size w).alloc (Nat.le_refl _) (.cells #[.int .i64 n] 23)).alloc (by simp) (.cells (Sp.cs ⟨4, a, t⟩).toArray 37))
  have HS := Lib.hid (show Blk ((w.alloc (.cells #[.int .i64 n] 23)).alloc (.cells (Sp.cs ⟨4, a, t⟩).toArray 37)) (w.heap.size + 1) 37 (Sp.cs ⟨4, a, t⟩).toArray by have := Blk.new (w.alloc (.cells #[.int .i64 n] 23)) 37 (Sp.cs ⟨4, a, t⟩).toArray; simpa using this)
  have HD := Lib.hid (show decide (1 ≤ n ∧ n ≤ 64) = true from decide_eq_true hr)
  have a0 : decide (a < 0) = true := decide_eq_true ha
  clear hr
  go_enter Tryd.func17, Tryd.ntmps17
  go_wp2_with (go_at_call 12; refine (right_any n _).mono ?_; rw [HD.out]; rintro r w1 ⟨rfl, hb⟩; have HB1 := Lib.hid (HB.out.trans (hb.mono HB.out.size)); have HS1 := Lib.hid (HS.out.keep hb); obtain ⟨c0, c1, c2⟩ := HS1.out.three; clear hb)
  all_goals
    go_ret2
    exact ⟨rfl, HB1.out⟩
set_option maxRecDepth 8000 in
set_option maxHeartbeats 2000000 in
theorem rsec_an_k (hr : (1 ≤ n ∧ n ≤ 64)) (hk : k ≠ 2 ∧ k ≠ 3 ∧ k ≠ 4) (hkk : 1 ≤ k ∧ k ≤ 5) (ha : a < 0) : Calls Tryd.prog 17 #[plan n, Sp.val ⟨k, a, t⟩] w fun e w' => e = .returned (.tuple #[.int .i64 0, .int .i64 2]) ∧ Below w.heap.size w w' := by
  have HB := Lib.hid (((Below.refl w.heap.size w).alloc (Nat.le_refl _) (.cells #[.int .i64 n] 23)).alloc (by simp) (.cells (Sp.cs ⟨k, a, t⟩).toArray 37))
  have HS := Lib.hid (show Blk ((w.alloc (.cells #[.int .i64 n] 23)).alloc (.cells (Sp.cs ⟨k, a, t⟩).toArray 37)) (w.heap.size + 1) 37 (Sp.cs ⟨k, a, t⟩).toArray by have := Blk.new (w.alloc (.cells #[.int .i64 n] 23)) 37 (Sp.cs ⟨k, a, t⟩).toArray; simpa using this)
  have HD := Lib.hid (show decide (1 ≤ n ∧ n ≤ 64) = true from decide_eq_true hr)
  have k1 : decide (k < 1) = false := decide_eq_false (by omega)
  have k5 : decide (5 < k) = false := decide_eq_false (by omega)
  have e2 : (k == 2) = false := by simpa using (show k ≠ 2 by omega)
  have e3 : (k == 3) = false := by simpa using (show k ≠ 3 by omega)
  have e4 : (k == 4) = false := by simpa using (show k ≠ 4 by omega)
  have a0 : decide (a < 0) = true := decide_eq_true ha
  clear hr
  go_enter Tryd.func17, Tryd.ntmps17
  go_wp2_with (go_at_call 12; refine (right_any n _).mono ?_; rw [HD.out]; rintro r w1 ⟨rfl, hb⟩; have HB1 := Lib.hid (HB.out.trans (hb.mono HB.out.size)); have HS1 := Lib.hid (HS.out.keep hb); obtain ⟨c0, c1, c2⟩ := HS1.out.three; clear hb)
  all_goals
    go_ret2
    exact ⟨rfl, HB1.out⟩
set_option maxRecDepth 8000 in
set_option maxHeartbeats 2000000 in
theorem rsec_a2_2 (hr : (1 ≤ n ∧ n ≤ 64)) (ha : 1 < a) : Calls Tryd.prog 17 #[plan n, Sp.val ⟨2, a, t⟩] w fun e w' => e = .returned (.tuple #[.int .i64 0, .int .i64 2]) ∧ Below w.heap.size w w' := by
  have HB := Lib.hid (((Below.refl w.heap.size w).alloc (Nat.le_refl _) (.cells #[.int .i64 n] 23)).alloc (by simp) (.cells (Sp.cs ⟨2, a, t⟩).toArray 37))
  have HS := Lib.hid (show Blk ((w.alloc (.cells #[.int .i64 n] 23)).alloc (.cells (Sp.cs ⟨2, a, t⟩).toArray 37)) (w.heap.size + 1) 37 (Sp.cs ⟨2, a, t⟩).toArray by have := Blk.new (w.alloc (.cells #[.int .i64 n] 23)) 37 (Sp.cs ⟨2, a, t⟩).toArray; simpa using this)
  have HD := Lib.hid (show decide (1 ≤ n ∧ n ≤ 64) = true from decide_eq_true hr)
  have a0 : decide (a < 0) = false := decide_eq_false (by omega)
  have a1 : decide (1 < a) = true := decide_eq_true ha
  clear hr
  go_enter Tryd.func17, Tryd.ntmps17
  go_wp2_with (go_at_call 12; refine (right_any n _).mono ?_; rw [HD.out]; rintro r w1 ⟨rfl, hb⟩; have HB1 := Lib.hid (HB.out.trans (hb.mono HB.out.size)); have HS1 := Lib.hid (HS.out.keep hb); obtain ⟨c0, c1, c2⟩ := HS1.out.three; clear hb)
  all_goals
    go_ret2
    exact ⟨rfl, HB1.out⟩
set_option maxRecDepth 8000 in
set_option maxHeartbeats 2000000 in
theorem rsec_a2_3 (hr : (1 ≤ n ∧ n ≤ 64)) (ha : 1 < a) : Calls Tryd.prog 17 #[plan n, Sp.val ⟨3, a, t⟩] w fun e w' => e = .returned (.tuple #[.int .i64 0, .int .i64 2]) ∧ Below w.heap.size w w' := by
  have HB := Lib.hid (((Below.refl w.heap.size w).alloc (Nat.le_refl _) (.cells #[.int .i64 n] 23)).alloc (by simp) (.cells (Sp.cs ⟨3, a, t⟩).toArray 37))
  have HS := Lib.hid (show Blk ((w.alloc (.cells #[.int .i64 n] 23)).alloc (.cells (Sp.cs ⟨3, a, t⟩).toArray 37)) (w.heap.size + 1) 37 (Sp.cs ⟨3, a, t⟩).toArray by have := Blk.new (w.alloc (.cells #[.int .i64 n] 23)) 37 (Sp.cs ⟨3, a, t⟩).toArray; simpa using this)
  have HD := Lib.hid (show decide (1 ≤ n ∧ n ≤ 64) = true from decide_eq_true hr)
  have a0 : decide (a < 0) = false := decide_eq_false (by omega)
  have a1 : decide (1 < a) = true := decide_eq_true ha
  clear hr
  go_enter Tryd.func17, Tryd.ntmps17
  go_wp2_with (go_at_call 12; refine (right_any n _).mono ?_; rw [HD.out]; rintro r w1 ⟨rfl, hb⟩; have HB1 := Lib.hid (HB.out.trans (hb.mono HB.out.size)); have HS1 := Lib.hid (HS.out.keep hb); obtain ⟨c0, c1, c2⟩ := HS1.out.three; clear hb)
  all_goals
    go_ret2
    exact ⟨rfl, HB1.out⟩
set_option maxRecDepth 8000 in
set_option maxHeartbeats 2000000 in
theorem rsec_a2_4 (hr : (1 ≤ n ∧ n ≤ 64)) (ha : 1 < a) : Calls Tryd.prog 17 #[plan n, Sp.val ⟨4, a, t⟩] w fun e w' => e = .returned (.tuple #[.int .i64 0, .int .i64 2]) ∧ Below w.heap.size w w' := by
  have HB := Lib.hid (((Below.refl w.heap.size w).alloc (Nat.le_refl _) (.cells #[.int .i64 n] 23)).alloc (by simp) (.cells (Sp.cs ⟨4, a, t⟩).toArray 37))
  have HS := Lib.hid (show Blk ((w.alloc (.cells #[.int .i64 n] 23)).alloc (.cells (Sp.cs ⟨4, a, t⟩).toArray 37)) (w.heap.size + 1) 37 (Sp.cs ⟨4, a, t⟩).toArray by have := Blk.new (w.alloc (.cells #[.int .i64 n] 23)) 37 (Sp.cs ⟨4, a, t⟩).toArray; simpa using this)
  have HD := Lib.hid (show decide (1 ≤ n ∧ n ≤ 64) = true from decide_eq_true hr)
  have a0 : decide (a < 0) = false := decide_eq_false (by omega)
  have a1 : decide (1 < a) = true := decide_eq_true ha
  clear hr
  go_enter Tryd.func17, Tryd.ntmps17
  go_wp2_with (go_at_call 12; refine (right_any n _).mono ?_; rw [HD.out]; rintro r w1 ⟨rfl, hb⟩; have HB1 := Lib.hid (HB.out.trans (hb.mono HB.out.size)); have HS1 := Lib.hid (HS.out.keep hb); obtain ⟨c0, c1, c2⟩ := HS1.out.three; clear hb)
  all_goals
    go_ret2
    exact ⟨rfl, HB1.out⟩
set_option maxRecDepth 8000 in
set_option maxHeartbeats 2000000 in
theorem rsec_a2_k (hr : (1 ≤ n ∧ n ≤ 64)) (hk : k ≠ 2 ∧ k ≠ 3 ∧ k ≠ 4) (hkk : 1 ≤ k ∧ k ≤ 5) (ha : 1 < a) : Calls Tryd.prog 17 #[plan n, Sp.val ⟨k, a, t⟩] w fun e w' => e = .returned (.tuple #[.int .i64 0, .int .i64 2]) ∧ Below w.heap.size w w' := by
  have HB := Lib.hid (((Below.refl w.heap.size w).alloc (Nat.le_refl _) (.cells #[.int .i64 n] 23)).alloc (by simp) (.cells (Sp.cs ⟨k, a, t⟩).toArray 37))
  have HS := Lib.hid (show Blk ((w.alloc (.cells #[.int .i64 n] 23)).alloc (.cells (Sp.cs ⟨k, a, t⟩).toArray 37)) (w.heap.size + 1) 37 (Sp.cs ⟨k, a, t⟩).toArray by have := Blk.new (w.alloc (.cells #[.int .i64 n] 23)) 37 (Sp.cs ⟨k, a, t⟩).toArray; simpa using this)
  have HD := Lib.hid (show decide (1 ≤ n ∧ n ≤ 64) = true from decide_eq_true hr)
  have k1 : decide (k < 1) = false := decide_eq_false (by omega)
  have k5 : decide (5 < k) = false := decide_eq_false (by omega)
  have e2 : (k == 2) = false := by simpa using (show k ≠ 2 by omega)
  have e3 : (k == 3) = false := by simpa using (show k ≠ 3 by omega)
  have e4 : (k == 4) = false := by simpa using (show k ≠ 4 by omega)
  have a0 : decide (a < 0) = false := decide_eq_false (by omega)
  have a1 : decide (1 < a) = true := decide_eq_true ha
  clear hr
  go_enter Tryd.func17, Tryd.ntmps17
  go_wp2_with (go_at_call 12; refine (right_any n _).mono ?_; rw [HD.out]; rintro r w1 ⟨rfl, hb⟩; have HB1 := Lib.hid (HB.out.trans (hb.mono HB.out.size)); have HS1 := Lib.hid (HS.out.keep hb); obtain ⟨c0, c1, c2⟩ := HS1.out.three; clear hb)
  all_goals
    go_ret2
    exact ⟨rfl, HB1.out⟩
set_option maxRecDepth 8000 in
set_option maxHeartbeats 2000000 in
theorem rsec_a1 (hr : (1 ≤ n ∧ n ≤ 64)) (h : k = 1 ∨ k = 5) : Calls Tryd.prog 17 #[plan n, Sp.val ⟨k, 1, t⟩] w fun e w' => e = .returned (.tuple #[.int .i64 0, .int .i64 2]) ∧ Below w.heap.size w w' := by
  have HB := Lib.hid (((Below.refl w.heap.size w).alloc (Nat.le_refl _) (.cells #[.int .i64 n] 23)).alloc (by simp) (.cells (Sp.cs ⟨k, 1, t⟩).toArray 37))
  have HS := Lib.hid (show Blk ((w.alloc (.cells #[.int .i64 n] 23)).alloc (.cells (Sp.cs ⟨k, 1, t⟩).toArray 37)) (w.heap.size + 1) 37 (Sp.cs ⟨k, 1, t⟩).toArray by have := Blk.new (w.alloc (.cells #[.int .i64 n] 23)) 37 (Sp.cs ⟨k, 1, t⟩).toArray; simpa using this)
  have HD := Lib.hid (show decide (1 ≤ n ∧ n ≤ 64) = true from decide_eq_true hr)
  have k1 : decide (k < 1) = false := decide_eq_false (by omega)
  have k5 : decide (5 < k) = false := decide_eq_false (by omega)
  have e2 : (k == 2) = false := by simpa using (show k ≠ 2 by omega)
  have e3 : (k == 3) = false := by simpa using (show k ≠ 3 by omega)
  have e4 : (k == 4) = false := by simpa using (show k ≠ 4 by omega)
  clear hr
  go_enter Tryd.func17, Tryd.ntmps17
  go_wp2_with (go_at_call 12; refine (right_any n _).mono ?_; rw [HD.out]; rintro r w1 ⟨rfl, hb⟩; have HB1 := Lib.hid (HB.out.trans (hb.mono HB.out.size)); have HS1 := Lib.hid (HS.out.keep hb); obtain ⟨c0, c1, c2⟩ := HS1.out.three; clear hb)
  all_goals
    go_ret2
    exact ⟨rfl, HB1.out⟩
set_option maxRecDepth 8000 in
set_option maxHeartbeats 2000000 in
theorem rsec_t (hr : (1 ≤ n ∧ n ≤ 64)) (ha : 0 ≤ a ∧ a ≤ 1) (ht : t ≠ 0) : Calls Tryd.prog 17 #[plan n, Sp.val ⟨2, a, t⟩] w fun e w' => e = .returned (.tuple #[.int .i64 0, .int .i64 2]) ∧ Below w.heap.size w w' := by
  have HB := Lib.hid (((Below.refl w.heap.size w).alloc (Nat.le_refl _) (.cells #[.int .i64 n] 23)).alloc (by simp) (.cells (Sp.cs ⟨2, a, t⟩).toArray 37))
  have HS := Lib.hid (show Blk ((w.alloc (.cells #[.int .i64 n] 23)).alloc (.cells (Sp.cs ⟨2, a, t⟩).toArray 37)) (w.heap.size + 1) 37 (Sp.cs ⟨2, a, t⟩).toArray by have := Blk.new (w.alloc (.cells #[.int .i64 n] 23)) 37 (Sp.cs ⟨2, a, t⟩).toArray; simpa using this)
  have HD := Lib.hid (show decide (1 ≤ n ∧ n ≤ 64) = true from decide_eq_true hr)
  have a0 : decide (a < 0) = false := decide_eq_false (by omega)
  have a1 : decide (1 < a) = false := decide_eq_false (by omega)
  have t0 : (t == 0) = false := by simpa using ht
  have t1 : (t != 0) = true := by simpa using ht
  clear hr
  go_enter Tryd.func17, Tryd.ntmps17
  go_wp2_with (go_at_call 12; refine (right_any n _).mono ?_; rw [HD.out]; rintro r w1 ⟨rfl, hb⟩; have HB1 := Lib.hid (HB.out.trans (hb.mono HB.out.size)); have HS1 := Lib.hid (HS.out.keep hb); obtain ⟨c0, c1, c2⟩ := HS1.out.three; clear hb)
  all_goals
    go_ret2
    exact ⟨rfl, HB1.out⟩
end
set_option maxRecDepth 10000 in
set_option maxHeartbeats 4000000 in
theorem rsec_15 (nn : Nat) (k t : Int) (w : World) (hr : 1 ≤ nn ∧ nn ≤ 64) (hm : mayP ⟨k, 0, t⟩) (h : k = 1 ∨ k = 5) : Calls Tryd.prog 17 #[plan nn, Sp.val ⟨k, 0, t⟩] w fun e w' => e = .returned (.tuple #[.int .i64 (secP nn ⟨k, 0, t⟩).1, .int .i64 (secP nn ⟨k, 0, t⟩).2]) ∧ Below w.heap.size w w' := by
  have HB := Lib.hid (((Below.refl w.heap.size w).alloc (Nat.le_refl _) (.cells #[.int .i64 nn] 23)).alloc (by simp) (.cells (Sp.cs ⟨k, 0, t⟩).toArray 37))
  have HS := Lib.hid (show Blk ((w.alloc (.cells #[.int .i64 nn] 23)).alloc (.cells (Sp.cs ⟨k, 0, t⟩).toArray 37)) (w.heap.size + 1) 37 (Sp.cs ⟨k, 0, t⟩).toArray by have := Blk.new (w.alloc (.cells #[.int .i64 nn] 23)) 37 (Sp.cs ⟨k, 0, t⟩).toArray; simpa using this)
  have HG := Lib.hid (show Blk ((w.alloc (.cells #[.int .i64 nn] 23)).alloc (.cells (Sp.cs ⟨k, 0, t⟩).toArray 37)) w.heap.size 23 #[.int .i64 nn] from (Blk.new w 23 #[.int .i64 nn]).alloc _)
  have HD := Lib.hid (show decide (1 ≤ (nn : Int) ∧ (nn : Int) ≤ 64) = true from decide_eq_true (by omega))
  have HN := Lib.hid hr
  have HM := Lib.hid hm
  have k1 : decide (k < 1) = false := decide_eq_false (by omega)
  have k5 : decide (5 < k) = false := decide_eq_false (by omega)
  have e2 : (k == 2) = false := by simpa using (show k ≠ 2 by omega)
  have e3 : (k == 3) = false := by simpa using (show k ≠ 3 by omega)
  have e4 : (k == 4) = false := by simpa using (show k ≠ 4 by omega)
  clear h
  clear hr hm
  go_enter Tryd.func17, Tryd.ntmps17
  go_wp2_with (first
    | (go_at_call 12; refine (right_any nn _).mono ?_; rw [HD.out]; rintro r w1 ⟨rfl, hb⟩; have HB1 := Lib.hid (HB.out.trans (hb.mono HB.out.size)); have HS1 := Lib.hid (HS.out.keep hb); have HG1 := Lib.hid (HG.out.keep hb); have c3 := HG1.out.one; obtain ⟨c0, c1, c2⟩ := HS1.out.three; clear hb)
    | (go_at_call 15; refine (refall_yes nn _ HN.out).mono ?_; rintro r w2 ⟨⟨g, c, rfl, hrd⟩, hb⟩; have HB2 := Lib.hid (HB1.out.trans (hb.mono HB1.out.size)); have HS2 := Lib.hid (HS1.out.keep hb); have HR2 := Lib.hid hrd; clear hb hrd c0 c1 c2 c3))
  obtain ⟨N, hN⟩ : ∃ N, 20 + 3 * nn = N := ⟨_, rfl⟩
  rw [hN] at HR2 ⊢
  have HNN := Lib.hid hN
  have hN3 : N ≤ 300 := by have := HN.out; omega
  clear hN
  go_loopw [8] (fun i wr => ∃ j : Nat, j ≤ N ∧ i = .int .i64 j ∧ Below w.heap.size w wr ∧ RdS wr g (preS nn N) ∧ Blk wr (w.heap.size + 1) 37 (Sp.cs ⟨k, 0, t⟩).toArray ∧ ∀ m, m < j → plc nn m ≠ ⟨k, 0, t⟩) (fun i _ => N + 1 - (intOf i).toNat)
  case atStart => exact ⟨0, Nat.zero_le _, rfl, HB2.out, HR2.out, HS2.out, fun m hm => absurd hm (Nat.not_lt_zero _)⟩
  case round =>
    clear HB2 HR2 HS2 HB1 HS1 HG1 HB HS HG
    obtain ⟨j, hj, rfl, hb, hrd, hs, hno⟩ := hrel
    have HB := Lib.hid hb
    have HR := Lib.hid hrd
    have HS := Lib.hid hs
    have HNO := Lib.hid hno
    clear hb hrd hs hno
    by_cases hlt : j < N
    · have i2 : (j : Int) < (N : Int) := by omega
      have hyy := preS_get nn N j hlt
      obtain ⟨y, hy⟩ : ∃ y, plc nn j = y := ⟨_, rfl⟩
      rw [hy] at hyy
      obtain ⟨pk, pa, pt⟩ := y
      by_cases hx : (⟨pk, pa, pt⟩ : Sp) = ⟨k, 0, t⟩
      · have HE := Lib.hid (show secP nn ⟨k, 0, t⟩ = ((j : Int), 0) by rw [← hx, ← hy]; exact (secP_plc nn j HN.out (by have := HNN.out; omega)).2)
        have hq : decide ((⟨pk, pa, pt⟩ : Sp) = ⟨k, 0, t⟩) = true := decide_eq_true hx
        clear hx hy
        go_wp2
        refine wp_region_only (S := fun w' => (w'.cell? ⟨g, j * 3, none⟩ = some (.int .i64 pk) ∧ w'.cell? ⟨g, j * 3 + 1, none⟩ = some (.int .i64 pa) ∧ w'.cell? ⟨g, j * 3 + 2, none⟩ = some (.int .i64 pt)) ∧ (w'.cell? ⟨w.heap.size + 1, 0, none⟩ = some (.int .i64 k) ∧ w'.cell? ⟨w.heap.size + 1, 1, none⟩ = some (.int .i64 0) ∧ w'.cell? ⟨w.heap.size + 1, 2, none⟩ = some (.int .i64 t))) (by kernel_rfl) ⟨(HR.out.drew.at_ hyy), HS.out.drew.three⟩ (fun hHeld => ?_)
        refine wpAnyH_take (i := 0) (v := ?v1) rfl (by kernel_rfl) (by kernel_rfl) (by kernel_rfl) (fun _ _ _ h => h) (Or.inl ⟨by rfl, ?hy1⟩) hHeld ?rest1
        case hy1 =>
          intro w' hSw
          try dsimp only at hSw
          go_simp
          first | done | with_reducible rfl
        try simp only [Act.put, List.getElem_toArray, List.getElem_cons_zero, List.setIfInBounds_toArray, List.set_cons_zero, List.set_cons_succ]
        refine wpAnyH_take (i := 1) (v := ?v2) rfl (by kernel_rfl) (by kernel_rfl) (by kernel_rfl) (fun _ _ _ h => h) (Or.inl ⟨by rfl, ?hy2⟩) hHeld ?rest2
        case hy2 =>
          intro w' hSw
          try dsimp only at hSw
          go_simp
          first | done | with_reducible rfl
        try simp only [Act.put, List.getElem_toArray, List.getElem_cons_succ, List.getElem_cons_zero, List.setIfInBounds_toArray, List.set_cons_zero, List.set_cons_succ]
        refine wpAnyH_take (i := 2) (v := ?v3) rfl (by kernel_rfl) (by kernel_rfl) (by kernel_rfl) (fun _ _ _ h => h) (Or.inl ⟨by rfl, ?hy3⟩) hHeld ?rest3
        case hy3 =>
          intro w' hSw
          try dsimp only at hSw
          go_simp
          first | done | with_reducible rfl
        try simp only [Act.put, List.getElem_toArray, List.getElem_cons_succ, List.getElem_cons_zero, List.setIfInBounds_toArray, List.set_cons_zero, List.set_cons_succ]
        refine wpAnyH_take (i := 3) (v := ?v4) rfl (by kernel_rfl) (by kernel_rfl) (by kernel_rfl) (fun _ _ _ h => h) (Or.inl ⟨by rfl, ?hy4⟩) hHeld ?rest4
        case hy4 =>
          intro w' hSw
          try dsimp only at hSw
          go_simp
          first | done | with_reducible rfl
        try simp only [Act.put, List.getElem_toArray, List.getElem_cons_succ, List.getElem_cons_zero, List.setIfInBounds_toArray, List.set_cons_zero, List.set_cons_succ]
        refine wpAnyH_take (i := 4) (v := ?v5) rfl (by kernel_rfl) (by kernel_rfl) (by kernel_rfl) (fun _ _ _ h => h) (Or.inl ⟨by rfl, ?hy5⟩) hHeld ?rest5
        case hy5 =>
          intro w' hSw
          try dsimp only at hSw
          go_simp
          first | done | with_reducible rfl
        try simp only [Act.put, List.getElem_toArray, List.getElem_cons_succ, List.getElem_cons_zero, List.setIfInBounds_toArray, List.set_cons_zero, List.set_cons_succ]
        refine wpAnyH_take (i := 5) rfl (by kernel_rfl) (by kernel_rfl) (by kernel_rfl) (fun _ _ _ h => h) (yields_seq (by rfl) (.tmp 75) (.tmp 76) rfl ⟨pk, pa, pt⟩ ⟨k, 0, t⟩ true hq (by rfl) (by rfl)) hHeld ?_
        try simp only [Act.put, List.getElem_toArray, List.getElem_cons_succ, List.getElem_cons_zero, List.setIfInBounds_toArray, List.set_cons_zero, List.set_cons_succ]
        refine wpAnyH_done (by kernel_rfl) ?_ _
        refine OnlyN.normal ?_
        clear hHeld
        go_wp2
        go_ret2
        exact ⟨by rw [HE.out] <;> rfl, Below.drew HB.out⟩
      · have hq : decide ((⟨pk, pa, pt⟩ : Sp) = ⟨k, 0, t⟩) = false := decide_eq_false hx
        have HX := Lib.hid (show plc nn j ≠ ⟨k, 0, t⟩ by rw [hy]; exact hx)
        clear hx hy
        go_wp2
        refine wp_region_only (S := fun w' => (w'.cell? ⟨g, j * 3, none⟩ = some (.int .i64 pk) ∧ w'.cell? ⟨g, j * 3 + 1, none⟩ = some (.int .i64 pa) ∧ w'.cell? ⟨g, j * 3 + 2, none⟩ = some (.int .i64 pt)) ∧ (w'.cell? ⟨w.heap.size + 1, 0, none⟩ = some (.int .i64 k) ∧ w'.cell? ⟨w.heap.size + 1, 1, none⟩ = some (.int .i64 0) ∧ w'.cell? ⟨w.heap.size + 1, 2, none⟩ = some (.int .i64 t))) (by kernel_rfl) ⟨(HR.out.drew.at_ hyy), HS.out.drew.three⟩ (fun hHeld => ?_)
        refine wpAnyH_take (i := 0) (v := ?v6) rfl (by kernel_rfl) (by kernel_rfl) (by kernel_rfl) (fun _ _ _ h => h) (Or.inl ⟨by rfl, ?hy6⟩) hHeld ?rest6
        case hy6 =>
          intro w' hSw
          try dsimp only at hSw
          go_simp
          first | done | with_reducible rfl
        try simp only [Act.put, List.getElem_toArray, List.getElem_cons_zero, List.setIfInBounds_toArray, List.set_cons_zero, List.set_cons_succ]
        refine wpAnyH_take (i := 1) (v := ?v7) rfl (by kernel_rfl) (by kernel_rfl) (by kernel_rfl) (fun _ _ _ h => h) (Or.inl ⟨by rfl, ?hy7⟩) hHeld ?rest7
        case hy7 =>
          intro w' hSw
          try dsimp only at hSw
          go_simp
          first | done | with_reducible rfl
        try simp only [Act.put, List.getElem_toArray, List.getElem_cons_succ, List.getElem_cons_zero, List.setIfInBounds_toArray, List.set_cons_zero, List.set_cons_succ]
        refine wpAnyH_take (i := 2) (v := ?v8) rfl (by kernel_rfl) (by kernel_rfl) (by kernel_rfl) (fun _ _ _ h => h) (Or.inl ⟨by rfl, ?hy8⟩) hHeld ?rest8
        case hy8 =>
          intro w' hSw
          try dsimp only at hSw
          go_simp
          first | done | with_reducible rfl
        try simp only [Act.put, List.getElem_toArray, List.getElem_cons_succ, List.getElem_cons_zero, List.setIfInBounds_toArray, List.set_cons_zero, List.set_cons_succ]
        refine wpAnyH_take (i := 3) (v := ?v9) rfl (by kernel_rfl) (by kernel_rfl) (by kernel_rfl) (fun _ _ _ h => h) (Or.inl ⟨by rfl, ?hy9⟩) hHeld ?rest9
        case hy9 =>
          intro w' hSw
          try dsimp only at hSw
          go_simp
          first | done | with_reducible rfl
        try simp only [Act.put, List.getElem_toArray, List.getElem_cons_succ, List.getElem_cons_zero, List.setIfInBounds_toArray, List.set_cons_zero, List.set_cons_succ]
        refine wpAnyH_take (i := 4) (v := ?v10) rfl (by kernel_rfl) (by kernel_rfl) (by kernel_rfl) (fun _ _ _ h => h) (Or.inl ⟨by rfl, ?hy10⟩) hHeld ?rest10
        case hy10 =>
          intro w' hSw
          try dsimp only at hSw
          go_simp
          first | done | with_reducible rfl
        try simp only [Act.put, List.getElem_toArray, List.getElem_cons_succ, List.getElem_cons_zero, List.setIfInBounds_toArray, List.set_cons_zero, List.set_cons_succ]
        refine wpAnyH_take (i := 5) rfl (by kernel_rfl) (by kernel_rfl) (by kernel_rfl) (fun _ _ _ h => h) (yields_seq (by rfl) (.tmp 75) (.tmp 76) rfl ⟨pk, pa, pt⟩ ⟨k, 0, t⟩ false hq (by rfl) (by rfl)) hHeld ?_
        try simp only [Act.put, List.getElem_toArray, List.getElem_cons_succ, List.getElem_cons_zero, List.setIfInBounds_toArray, List.set_cons_zero, List.set_cons_succ]
        refine wpAnyH_done (by kernel_rfl) ?_ _
        refine OnlyN.normal ?_
        clear hHeld
        go_wp2
        go_roundw
        case rel =>
          refine ⟨j + 1, by omega, by go_num, Below.drew HB.out, HR.out.drew, HS.out.drew, fun m hm => ?_⟩
          rcases Nat.lt_or_ge m j with h | h
          · exact HNO.out m h
          · obtain rfl : m = j := by omega
            exact HX.out
        case measure => simp [intOf]; omega
    · obtain rfl : N = j := by omega
      have i2 : ¬ (N : Int) < (N : Int) := by omega
      have HE := Lib.hid (show secP nn ⟨k, 0, t⟩ = (0, 4) from (secP_has nn HN.out _ HM.out).resolve_left fun ⟨i, hi, hp, _⟩ => HNO.out i (by have := HNN.out; omega) hp)
      go_wp2
      go_ret2
      exact ⟨by rw [HE.out] <;> rfl, HB.out⟩
set_option maxRecDepth 10000 in
set_option maxHeartbeats 4000000 in
theorem rsec_2 (nn : Nat) (a : Int) (w : World) (hr : 1 ≤ nn ∧ nn ≤ 64) (hm : mayP ⟨2, a, 0⟩) (ha : 0 ≤ a ∧ a ≤ 1) : Calls Tryd.prog 17 #[plan nn, Sp.val ⟨2, a, 0⟩] w fun e w' => e = .returned (.tuple #[.int .i64 (secP nn ⟨2, a, 0⟩).1, .int .i64 (secP nn ⟨2, a, 0⟩).2]) ∧ Below w.heap.size w w' := by
  have HB := Lib.hid (((Below.refl w.heap.size w).alloc (Nat.le_refl _) (.cells #[.int .i64 nn] 23)).alloc (by simp) (.cells (Sp.cs ⟨2, a, 0⟩).toArray 37))
  have HS := Lib.hid (show Blk ((w.alloc (.cells #[.int .i64 nn] 23)).alloc (.cells (Sp.cs ⟨2, a, 0⟩).toArray 37)) (w.heap.size + 1) 37 (Sp.cs ⟨2, a, 0⟩).toArray by have := Blk.new (w.alloc (.cells #[.int .i64 nn] 23)) 37 (Sp.cs ⟨2, a, 0⟩).toArray; simpa using this)
  have HG := Lib.hid (show Blk ((w.alloc (.cells #[.int .i64 nn] 23)).alloc (.cells (Sp.cs ⟨2, a, 0⟩).toArray 37)) w.heap.size 23 #[.int .i64 nn] from (Blk.new w 23 #[.int .i64 nn]).alloc _)
  have HD := Lib.hid (show decide (1 ≤ (nn : Int) ∧ (nn : Int) ≤ 64) = true from decide_eq_true (by omega))
  have HN := Lib.hid hr
  have HM := Lib.hid hm
  have a0 : decide (a < 0) = false := decide_eq_false (by omega)
  have a1 : decide (1 < a) = false := decide_eq_false (by omega)
  clear ha
  clear hr hm
  go_enter Tryd.func17, Tryd.ntmps17
  go_wp2_with (first
    | (go_at_call 12; refine (right_any nn _).mono ?_; rw [HD.out]; rintro r w1 ⟨rfl, hb⟩; have HB1 := Lib.hid (HB.out.trans (hb.mono HB.out.size)); have HS1 := Lib.hid (HS.out.keep hb); have HG1 := Lib.hid (HG.out.keep hb); have c3 := HG1.out.one; obtain ⟨c0, c1, c2⟩ := HS1.out.three; clear hb)
    | (go_at_call 15; refine (refall_yes nn _ HN.out).mono ?_; rintro r w2 ⟨⟨g, c, rfl, hrd⟩, hb⟩; have HB2 := Lib.hid (HB1.out.trans (hb.mono HB1.out.size)); have HS2 := Lib.hid (HS1.out.keep hb); have HR2 := Lib.hid hrd; clear hb hrd c0 c1 c2 c3))
  obtain ⟨N, hN⟩ : ∃ N, 20 + 3 * nn = N := ⟨_, rfl⟩
  rw [hN] at HR2 ⊢
  have HNN := Lib.hid hN
  have hN3 : N ≤ 300 := by have := HN.out; omega
  clear hN
  go_loopw [8] (fun i wr => ∃ j : Nat, j ≤ N ∧ i = .int .i64 j ∧ Below w.heap.size w wr ∧ RdS wr g (preS nn N) ∧ Blk wr (w.heap.size + 1) 37 (Sp.cs ⟨2, a, 0⟩).toArray ∧ ∀ m, m < j → plc nn m ≠ ⟨2, a, 0⟩) (fun i _ => N + 1 - (intOf i).toNat)
  case atStart => exact ⟨0, Nat.zero_le _, rfl, HB2.out, HR2.out, HS2.out, fun m hm => absurd hm (Nat.not_lt_zero _)⟩
  case round =>
    clear HB2 HR2 HS2 HB1 HS1 HG1 HB HS HG
    obtain ⟨j, hj, rfl, hb, hrd, hs, hno⟩ := hrel
    have HB := Lib.hid hb
    have HR := Lib.hid hrd
    have HS := Lib.hid hs
    have HNO := Lib.hid hno
    clear hb hrd hs hno
    by_cases hlt : j < N
    · have i2 : (j : Int) < (N : Int) := by omega
      have hyy := preS_get nn N j hlt
      obtain ⟨y, hy⟩ : ∃ y, plc nn j = y := ⟨_, rfl⟩
      rw [hy] at hyy
      obtain ⟨pk, pa, pt⟩ := y
      by_cases hx : (⟨pk, pa, pt⟩ : Sp) = ⟨2, a, 0⟩
      · have HE := Lib.hid (show secP nn ⟨2, a, 0⟩ = ((j : Int), 0) by rw [← hx, ← hy]; exact (secP_plc nn j HN.out (by have := HNN.out; omega)).2)
        have hq : decide ((⟨pk, pa, pt⟩ : Sp) = ⟨2, a, 0⟩) = true := decide_eq_true hx
        clear hx hy
        go_wp2
        refine wp_region_only (S := fun w' => (w'.cell? ⟨g, j * 3, none⟩ = some (.int .i64 pk) ∧ w'.cell? ⟨g, j * 3 + 1, none⟩ = some (.int .i64 pa) ∧ w'.cell? ⟨g, j * 3 + 2, none⟩ = some (.int .i64 pt)) ∧ (w'.cell? ⟨w.heap.size + 1, 0, none⟩ = some (.int .i64 2) ∧ w'.cell? ⟨w.heap.size + 1, 1, none⟩ = some (.int .i64 a) ∧ w'.cell? ⟨w.heap.size + 1, 2, none⟩ = some (.int .i64 0))) (by kernel_rfl) ⟨(HR.out.drew.at_ hyy), HS.out.drew.three⟩ (fun hHeld => ?_)
        refine wpAnyH_take (i := 0) (v := ?v11) rfl (by kernel_rfl) (by kernel_rfl) (by kernel_rfl) (fun _ _ _ h => h) (Or.inl ⟨by rfl, ?hy11⟩) hHeld ?rest11
        case hy11 =>
          intro w' hSw
          try dsimp only at hSw
          go_simp
          first | done | with_reducible rfl
        try simp only [Act.put, List.getElem_toArray, List.getElem_cons_zero, List.setIfInBounds_toArray, List.set_cons_zero, List.set_cons_succ]
        refine wpAnyH_take (i := 1) (v := ?v12) rfl (by kernel_rfl) (by kernel_rfl) (by kernel_rfl) (fun _ _ _ h => h) (Or.inl ⟨by rfl, ?hy12⟩) hHeld ?rest12
        case hy12 =>
          intro w' hSw
          try dsimp only at hSw
          go_simp
          first | done | with_reducible rfl
        try simp only [Act.put, List.getElem_toArray, List.getElem_cons_succ, List.getElem_cons_zero, List.setIfInBounds_toArray, List.set_cons_zero, List.set_cons_succ]
        refine wpAnyH_take (i := 2) (v := ?v13) rfl (by kernel_rfl) (by kernel_rfl) (by kernel_rfl) (fun _ _ _ h => h) (Or.inl ⟨by rfl, ?hy13⟩) hHeld ?rest13
        case hy13 =>
          intro w' hSw
          try dsimp only at hSw
          go_simp
          first | done | with_reducible rfl
        try simp only [Act.put, List.getElem_toArray, List.getElem_cons_succ, List.getElem_cons_zero, List.setIfInBounds_toArray, List.set_cons_zero, List.set_cons_succ]
        refine wpAnyH_take (i := 3) (v := ?v14) rfl (by kernel_rfl) (by kernel_rfl) (by kernel_rfl) (fun _ _ _ h => h) (Or.inl ⟨by rfl, ?hy14⟩) hHeld ?rest14
        case hy14 =>
          intro w' hSw
          try dsimp only at hSw
          go_simp
          first | done | with_reducible rfl
        try simp only [Act.put, List.getElem_toArray, List.getElem_cons_succ, List.getElem_cons_zero, List.setIfInBounds_toArray, List.set_cons_zero, List.set_cons_succ]
        refine wpAnyH_take (i := 4) (v := ?v15) rfl (by kernel_rfl) (by kernel_rfl) (by kernel_rfl) (fun _ _ _ h => h) (Or.inl ⟨by rfl, ?hy15⟩) hHeld ?rest15
        case hy15 =>
          intro w' hSw
          try dsimp only at hSw
          go_simp
          first | done | with_reducible rfl
        try simp only [Act.put, List.getElem_toArray, List.getElem_cons_succ, List.getElem_cons_zero, List.setIfInBounds_toArray, List.set_cons_zero, List.set_cons_succ]
        refine wpAnyH_take (i := 5) rfl (by kernel_rfl) (by kernel_rfl) (by kernel_rfl) (fun _ _ _ h => h) (yields_seq (by rfl) (.tmp 75) (.tmp 76) rfl ⟨pk, pa, pt⟩ ⟨2, a, 0⟩ true hq (by rfl) (by rfl)) hHeld ?_
        try simp only [Act.put, List.getElem_toArray, List.getElem_cons_succ, List.getElem_cons_zero, List.setIfInBounds_toArray, List.set_cons_zero, List.set_cons_succ]
        refine wpAnyH_done (by kernel_rfl) ?_ _
        refine OnlyN.normal ?_
        clear hHeld
        go_wp2
        go_ret2
        exact ⟨by rw [HE.out] <;> rfl, Below.drew HB.out⟩
      · have hq : decide ((⟨pk, pa, pt⟩ : Sp) = ⟨2, a, 0⟩) = false := decide_eq_false hx
        have HX := Lib.hid (show plc nn j ≠ ⟨2, a, 0⟩ by rw [hy]; exact hx)
        clear hx hy
        go_wp2
        refine wp_region_only (S := fun w' => (w'.cell? ⟨g, j * 3, none⟩ = some (.int .i64 pk) ∧ w'.cell? ⟨g, j * 3 + 1, none⟩ = some (.int .i64 pa) ∧ w'.cell? ⟨g, j * 3 + 2, none⟩ = some (.int .i64 pt)) ∧ (w'.cell? ⟨w.heap.size + 1, 0, none⟩ = some (.int .i64 2) ∧ w'.cell? ⟨w.heap.size + 1, 1, none⟩ = some (.int .i64 a) ∧ w'.cell? ⟨w.heap.size + 1, 2, none⟩ = some (.int .i64 0))) (by kernel_rfl) ⟨(HR.out.drew.at_ hyy), HS.out.drew.three⟩ (fun hHeld => ?_)
        refine wpAnyH_take (i := 0) (v := ?v16) rfl (by kernel_rfl) (by kernel_rfl) (by kernel_rfl) (fun _ _ _ h => h) (Or.inl ⟨by rfl, ?hy16⟩) hHeld ?rest16
        case hy16 =>
          intro w' hSw
          try dsimp only at hSw
          go_simp
          first | done | with_reducible rfl
        try simp only [Act.put, List.getElem_toArray, List.getElem_cons_zero, List.setIfInBounds_toArray, List.set_cons_zero, List.set_cons_succ]
        refine wpAnyH_take (i := 1) (v := ?v17) rfl (by kernel_rfl) (by kernel_rfl) (by kernel_rfl) (fun _ _ _ h => h) (Or.inl ⟨by rfl, ?hy17⟩) hHeld ?rest17
        case hy17 =>
          intro w' hSw
          try dsimp only at hSw
          go_simp
          first | done | with_reducible rfl
        try simp only [Act.put, List.getElem_toArray, List.getElem_cons_succ, List.getElem_cons_zero, List.setIfInBounds_toArray, List.set_cons_zero, List.set_cons_succ]
        refine wpAnyH_take (i := 2) (v := ?v18) rfl (by kernel_rfl) (by kernel_rfl) (by kernel_rfl) (fun _ _ _ h => h) (Or.inl ⟨by rfl, ?hy18⟩) hHeld ?rest18
        case hy18 =>
          intro w' hSw
          try dsimp only at hSw
          go_simp
          first | done | with_reducible rfl
        try simp only [Act.put, List.getElem_toArray, List.getElem_cons_succ, List.getElem_cons_zero, List.setIfInBounds_toArray, List.set_cons_zero, List.set_cons_succ]
        refine wpAnyH_take (i := 3) (v := ?v19) rfl (by kernel_rfl) (by kernel_rfl) (by kernel_rfl) (fun _ _ _ h => h) (Or.inl ⟨by rfl, ?hy19⟩) hHeld ?rest19
        case hy19 =>
          intro w' hSw
          try dsimp only at hSw
          go_simp
          first | done | with_reducible rfl
        try simp only [Act.put, List.getElem_toArray, List.getElem_cons_succ, List.getElem_cons_zero, List.setIfInBounds_toArray, List.set_cons_zero, List.set_cons_succ]
        refine wpAnyH_take (i := 4) (v := ?v20) rfl (by kernel_rfl) (by kernel_rfl) (by kernel_rfl) (fun _ _ _ h => h) (Or.inl ⟨by rfl, ?hy20⟩) hHeld ?rest20
        case hy20 =>
          intro w' hSw
          try dsimp only at hSw
          go_simp
          first | done | with_reducible rfl
        try simp only [Act.put, List.getElem_toArray, List.getElem_cons_succ, List.getElem_cons_zero, List.setIfInBounds_toArray, List.set_cons_zero, List.set_cons_succ]
        refine wpAnyH_take (i := 5) rfl (by kernel_rfl) (by kernel_rfl) (by kernel_rfl) (fun _ _ _ h => h) (yields_seq (by rfl) (.tmp 75) (.tmp 76) rfl ⟨pk, pa, pt⟩ ⟨2, a, 0⟩ false hq (by rfl) (by rfl)) hHeld ?_
        try simp only [Act.put, List.getElem_toArray, List.getElem_cons_succ, List.getElem_cons_zero, List.setIfInBounds_toArray, List.set_cons_zero, List.set_cons_succ]
        refine wpAnyH_done (by kernel_rfl) ?_ _
        refine OnlyN.normal ?_
        clear hHeld
        go_wp2
        go_roundw
        case rel =>
          refine ⟨j + 1, by omega, by go_num, Below.drew HB.out, HR.out.drew, HS.out.drew, fun m hm => ?_⟩
          rcases Nat.lt_or_ge m j with h | h
          · exact HNO.out m h
          · obtain rfl : m = j := by omega
            exact HX.out
        case measure => simp [intOf]; omega
    · obtain rfl : N = j := by omega
      have i2 : ¬ (N : Int) < (N : Int) := by omega
      have HE := Lib.hid (show secP nn ⟨2, a, 0⟩ = (0, 4) from (secP_has nn HN.out _ HM.out).resolve_left fun ⟨i, hi, hp, _⟩ => HNO.out i (by have := HNN.out; omega) hp)
      go_wp2
      go_ret2
      exact ⟨by rw [HE.out] <;> rfl, HB.out⟩
set_option maxRecDepth 10000 in
set_option maxHeartbeats 4000000 in
theorem rsec_3 (nn : Nat) (a t : Int) (w : World) (hr : 1 ≤ nn ∧ nn ≤ 64) (hm : mayP ⟨3, a, t⟩) (ha : 0 ≤ a ∧ a ≤ 1) : Calls Tryd.prog 17 #[plan nn, Sp.val ⟨3, a, t⟩] w fun e w' => e = .returned (.tuple #[.int .i64 (secP nn ⟨3, a, t⟩).1, .int .i64 (secP nn ⟨3, a, t⟩).2]) ∧ Below w.heap.size w w' := by
  have HB := Lib.hid (((Below.refl w.heap.size w).alloc (Nat.le_refl _) (.cells #[.int .i64 nn] 23)).alloc (by simp) (.cells (Sp.cs ⟨3, a, t⟩).toArray 37))
  have HS := Lib.hid (show Blk ((w.alloc (.cells #[.int .i64 nn] 23)).alloc (.cells (Sp.cs ⟨3, a, t⟩).toArray 37)) (w.heap.size + 1) 37 (Sp.cs ⟨3, a, t⟩).toArray by have := Blk.new (w.alloc (.cells #[.int .i64 nn] 23)) 37 (Sp.cs ⟨3, a, t⟩).toArray; simpa using this)
  have HG := Lib.hid (show Blk ((w.alloc (.cells #[.int .i64 nn] 23)).alloc (.cells (Sp.cs ⟨3, a, t⟩).toArray 37)) w.heap.size 23 #[.int .i64 nn] from (Blk.new w 23 #[.int .i64 nn]).alloc _)
  have HD := Lib.hid (show decide (1 ≤ (nn : Int) ∧ (nn : Int) ≤ 64) = true from decide_eq_true (by omega))
  have HN := Lib.hid hr
  have HM := Lib.hid hm
  have a0 : decide (a < 0) = false := decide_eq_false (by omega)
  have a1 : decide (1 < a) = false := decide_eq_false (by omega)
  clear ha
  clear hr hm
  go_enter Tryd.func17, Tryd.ntmps17
  go_wp2_with (first
    | (go_at_call 12; refine (right_any nn _).mono ?_; rw [HD.out]; rintro r w1 ⟨rfl, hb⟩; have HB1 := Lib.hid (HB.out.trans (hb.mono HB.out.size)); have HS1 := Lib.hid (HS.out.keep hb); have HG1 := Lib.hid (HG.out.keep hb); have c3 := HG1.out.one; obtain ⟨c0, c1, c2⟩ := HS1.out.three; clear hb)
    | (go_at_call 15; refine (refall_yes nn _ HN.out).mono ?_; rintro r w2 ⟨⟨g, c, rfl, hrd⟩, hb⟩; have HB2 := Lib.hid (HB1.out.trans (hb.mono HB1.out.size)); have HS2 := Lib.hid (HS1.out.keep hb); have HR2 := Lib.hid hrd; clear hb hrd c0 c1 c2 c3))
  obtain ⟨N, hN⟩ : ∃ N, 20 + 3 * nn = N := ⟨_, rfl⟩
  rw [hN] at HR2 ⊢
  have HNN := Lib.hid hN
  have hN3 : N ≤ 300 := by have := HN.out; omega
  clear hN
  go_loopw [8] (fun i wr => ∃ j : Nat, j ≤ N ∧ i = .int .i64 j ∧ Below w.heap.size w wr ∧ RdS wr g (preS nn N) ∧ Blk wr (w.heap.size + 1) 37 (Sp.cs ⟨3, a, t⟩).toArray ∧ ∀ m, m < j → plc nn m ≠ ⟨3, a, t⟩) (fun i _ => N + 1 - (intOf i).toNat)
  case atStart => exact ⟨0, Nat.zero_le _, rfl, HB2.out, HR2.out, HS2.out, fun m hm => absurd hm (Nat.not_lt_zero _)⟩
  case round =>
    clear HB2 HR2 HS2 HB1 HS1 HG1 HB HS HG
    obtain ⟨j, hj, rfl, hb, hrd, hs, hno⟩ := hrel
    have HB := Lib.hid hb
    have HR := Lib.hid hrd
    have HS := Lib.hid hs
    have HNO := Lib.hid hno
    clear hb hrd hs hno
    by_cases hlt : j < N
    · have i2 : (j : Int) < (N : Int) := by omega
      have hyy := preS_get nn N j hlt
      obtain ⟨y, hy⟩ : ∃ y, plc nn j = y := ⟨_, rfl⟩
      rw [hy] at hyy
      obtain ⟨pk, pa, pt⟩ := y
      by_cases hx : (⟨pk, pa, pt⟩ : Sp) = ⟨3, a, t⟩
      · have HE := Lib.hid (show secP nn ⟨3, a, t⟩ = ((j : Int), 0) by rw [← hx, ← hy]; exact (secP_plc nn j HN.out (by have := HNN.out; omega)).2)
        have hq : decide ((⟨pk, pa, pt⟩ : Sp) = ⟨3, a, t⟩) = true := decide_eq_true hx
        clear hx hy
        go_wp2
        refine wp_region_only (S := fun w' => (w'.cell? ⟨g, j * 3, none⟩ = some (.int .i64 pk) ∧ w'.cell? ⟨g, j * 3 + 1, none⟩ = some (.int .i64 pa) ∧ w'.cell? ⟨g, j * 3 + 2, none⟩ = some (.int .i64 pt)) ∧ (w'.cell? ⟨w.heap.size + 1, 0, none⟩ = some (.int .i64 3) ∧ w'.cell? ⟨w.heap.size + 1, 1, none⟩ = some (.int .i64 a) ∧ w'.cell? ⟨w.heap.size + 1, 2, none⟩ = some (.int .i64 t))) (by kernel_rfl) ⟨(HR.out.drew.at_ hyy), HS.out.drew.three⟩ (fun hHeld => ?_)
        refine wpAnyH_take (i := 0) (v := ?v21) rfl (by kernel_rfl) (by kernel_rfl) (by kernel_rfl) (fun _ _ _ h => h) (Or.inl ⟨by rfl, ?hy21⟩) hHeld ?rest21
        case hy21 =>
          intro w' hSw
          try dsimp only at hSw
          go_simp
          first | done | with_reducible rfl
        try simp only [Act.put, List.getElem_toArray, List.getElem_cons_zero, List.setIfInBounds_toArray, List.set_cons_zero, List.set_cons_succ]
        refine wpAnyH_take (i := 1) (v := ?v22) rfl (by kernel_rfl) (by kernel_rfl) (by kernel_rfl) (fun _ _ _ h => h) (Or.inl ⟨by rfl, ?hy22⟩) hHeld ?rest22
        case hy22 =>
          intro w' hSw
          try dsimp only at hSw
          go_simp
          first | done | with_reducible rfl
        try simp only [Act.put, List.getElem_toArray, List.getElem_cons_succ, List.getElem_cons_zero, List.setIfInBounds_toArray, List.set_cons_zero, List.set_cons_succ]
        refine wpAnyH_take (i := 2) (v := ?v23) rfl (by kernel_rfl) (by kernel_rfl) (by kernel_rfl) (fun _ _ _ h => h) (Or.inl ⟨by rfl, ?hy23⟩) hHeld ?rest23
        case hy23 =>
          intro w' hSw
          try dsimp only at hSw
          go_simp
          first | done | with_reducible rfl
        try simp only [Act.put, List.getElem_toArray, List.getElem_cons_succ, List.getElem_cons_zero, List.setIfInBounds_toArray, List.set_cons_zero, List.set_cons_succ]
        refine wpAnyH_take (i := 3) (v := ?v24) rfl (by kernel_rfl) (by kernel_rfl) (by kernel_rfl) (fun _ _ _ h => h) (Or.inl ⟨by rfl, ?hy24⟩) hHeld ?rest24
        case hy24 =>
          intro w' hSw
          try dsimp only at hSw
          go_simp
          first | done | with_reducible rfl
        try simp only [Act.put, List.getElem_toArray, List.getElem_cons_succ, List.getElem_cons_zero, List.setIfInBounds_toArray, List.set_cons_zero, List.set_cons_succ]
        refine wpAnyH_take (i := 4) (v := ?v25) rfl (by kernel_rfl) (by kernel_rfl) (by kernel_rfl) (fun _ _ _ h => h) (Or.inl ⟨by rfl, ?hy25⟩) hHeld ?rest25
        case hy25 =>
          intro w' hSw
          try dsimp only at hSw
          go_simp
          first | done | with_reducible rfl
        try simp only [Act.put, List.getElem_toArray, List.getElem_cons_succ, List.getElem_cons_zero, List.setIfInBounds_toArray, List.set_cons_zero, List.set_cons_succ]
        refine wpAnyH_take (i := 5) rfl (by kernel_rfl) (by kernel_rfl) (by kernel_rfl) (fun _ _ _ h => h) (yields_seq (by rfl) (.tmp 75) (.tmp 76) rfl ⟨pk, pa, pt⟩ ⟨3, a, t⟩ true hq (by rfl) (by rfl)) hHeld ?_
        try simp only [Act.put, List.getElem_toArray, List.getElem_cons_succ, List.getElem_cons_zero, List.setIfInBounds_toArray, List.set_cons_zero, List.set_cons_succ]
        refine wpAnyH_done (by kernel_rfl) ?_ _
        refine OnlyN.normal ?_
        clear hHeld
        go_wp2
        go_ret2
        exact ⟨by rw [HE.out] <;> rfl, Below.drew HB.out⟩
      · have hq : decide ((⟨pk, pa, pt⟩ : Sp) = ⟨3, a, t⟩) = false := decide_eq_false hx
        have HX := Lib.hid (show plc nn j ≠ ⟨3, a, t⟩ by rw [hy]; exact hx)
        clear hx hy
        go_wp2
        refine wp_region_only (S := fun w' => (w'.cell? ⟨g, j * 3, none⟩ = some (.int .i64 pk) ∧ w'.cell? ⟨g, j * 3 + 1, none⟩ = some (.int .i64 pa) ∧ w'.cell? ⟨g, j * 3 + 2, none⟩ = some (.int .i64 pt)) ∧ (w'.cell? ⟨w.heap.size + 1, 0, none⟩ = some (.int .i64 3) ∧ w'.cell? ⟨w.heap.size + 1, 1, none⟩ = some (.int .i64 a) ∧ w'.cell? ⟨w.heap.size + 1, 2, none⟩ = some (.int .i64 t))) (by kernel_rfl) ⟨(HR.out.drew.at_ hyy), HS.out.drew.three⟩ (fun hHeld => ?_)
        refine wpAnyH_take (i := 0) (v := ?v26) rfl (by kernel_rfl) (by kernel_rfl) (by kernel_rfl) (fun _ _ _ h => h) (Or.inl ⟨by rfl, ?hy26⟩) hHeld ?rest26
        case hy26 =>
          intro w' hSw
          try dsimp only at hSw
          go_simp
          first | done | with_reducible rfl
        try simp only [Act.put, List.getElem_toArray, List.getElem_cons_zero, List.setIfInBounds_toArray, List.set_cons_zero, List.set_cons_succ]
        refine wpAnyH_take (i := 1) (v := ?v27) rfl (by kernel_rfl) (by kernel_rfl) (by kernel_rfl) (fun _ _ _ h => h) (Or.inl ⟨by rfl, ?hy27⟩) hHeld ?rest27
        case hy27 =>
          intro w' hSw
          try dsimp only at hSw
          go_simp
          first | done | with_reducible rfl
        try simp only [Act.put, List.getElem_toArray, List.getElem_cons_succ, List.getElem_cons_zero, List.setIfInBounds_toArray, List.set_cons_zero, List.set_cons_succ]
        refine wpAnyH_take (i := 2) (v := ?v28) rfl (by kernel_rfl) (by kernel_rfl) (by kernel_rfl) (fun _ _ _ h => h) (Or.inl ⟨by rfl, ?hy28⟩) hHeld ?rest28
        case hy28 =>
          intro w' hSw
          try dsimp only at hSw
          go_simp
          first | done | with_reducible rfl
        try simp only [Act.put, List.getElem_toArray, List.getElem_cons_succ, List.getElem_cons_zero, List.setIfInBounds_toArray, List.set_cons_zero, List.set_cons_succ]
        refine wpAnyH_take (i := 3) (v := ?v29) rfl (by kernel_rfl) (by kernel_rfl) (by kernel_rfl) (fun _ _ _ h => h) (Or.inl ⟨by rfl, ?hy29⟩) hHeld ?rest29
        case hy29 =>
          intro w' hSw
          try dsimp only at hSw
          go_simp
          first | done | with_reducible rfl
        try simp only [Act.put, List.getElem_toArray, List.getElem_cons_succ, List.getElem_cons_zero, List.setIfInBounds_toArray, List.set_cons_zero, List.set_cons_succ]
        refine wpAnyH_take (i := 4) (v := ?v30) rfl (by kernel_rfl) (by kernel_rfl) (by kernel_rfl) (fun _ _ _ h => h) (Or.inl ⟨by rfl, ?hy30⟩) hHeld ?rest30
        case hy30 =>
          intro w' hSw
          try dsimp only at hSw
          go_simp
          first | done | with_reducible rfl
        try simp only [Act.put, List.getElem_toArray, List.getElem_cons_succ, List.getElem_cons_zero, List.setIfInBounds_toArray, List.set_cons_zero, List.set_cons_succ]
        refine wpAnyH_take (i := 5) rfl (by kernel_rfl) (by kernel_rfl) (by kernel_rfl) (fun _ _ _ h => h) (yields_seq (by rfl) (.tmp 75) (.tmp 76) rfl ⟨pk, pa, pt⟩ ⟨3, a, t⟩ false hq (by rfl) (by rfl)) hHeld ?_
        try simp only [Act.put, List.getElem_toArray, List.getElem_cons_succ, List.getElem_cons_zero, List.setIfInBounds_toArray, List.set_cons_zero, List.set_cons_succ]
        refine wpAnyH_done (by kernel_rfl) ?_ _
        refine OnlyN.normal ?_
        clear hHeld
        go_wp2
        go_roundw
        case rel =>
          refine ⟨j + 1, by omega, by go_num, Below.drew HB.out, HR.out.drew, HS.out.drew, fun m hm => ?_⟩
          rcases Nat.lt_or_ge m j with h | h
          · exact HNO.out m h
          · obtain rfl : m = j := by omega
            exact HX.out
        case measure => simp [intOf]; omega
    · obtain rfl : N = j := by omega
      have i2 : ¬ (N : Int) < (N : Int) := by omega
      have HE := Lib.hid (show secP nn ⟨3, a, t⟩ = (0, 4) from (secP_has nn HN.out _ HM.out).resolve_left fun ⟨i, hi, hp, _⟩ => HNO.out i (by have := HNN.out; omega) hp)
      go_wp2
      go_ret2
      exact ⟨by rw [HE.out] <;> rfl, HB.out⟩
set_option maxRecDepth 10000 in
set_option maxHeartbeats 4000000 in
theorem rsec_4 (nn : Nat) (a t : Int) (w : World) (hr : 1 ≤ nn ∧ nn ≤ 64) (hm : mayP ⟨4, a, t⟩) (ha : 0 ≤ a ∧ a ≤ 1) : Calls Tryd.prog 17 #[plan nn, Sp.val ⟨4, a, t⟩] w fun e w' => e = .returned (.tuple #[.int .i64 (secP nn ⟨4, a, t⟩).1, .int .i64 (secP nn ⟨4, a, t⟩).2]) ∧ Below w.heap.size w w' := by
  have HB := Lib.hid (((Below.refl w.heap.size w).alloc (Nat.le_refl _) (.cells #[.int .i64 nn] 23)).alloc (by simp) (.cells (Sp.cs ⟨4, a, t⟩).toArray 37))
  have HS := Lib.hid (show Blk ((w.alloc (.cells #[.int .i64 nn] 23)).alloc (.cells (Sp.cs ⟨4, a, t⟩).toArray 37)) (w.heap.size + 1) 37 (Sp.cs ⟨4, a, t⟩).toArray by have := Blk.new (w.alloc (.cells #[.int .i64 nn] 23)) 37 (Sp.cs ⟨4, a, t⟩).toArray; simpa using this)
  have HG := Lib.hid (show Blk ((w.alloc (.cells #[.int .i64 nn] 23)).alloc (.cells (Sp.cs ⟨4, a, t⟩).toArray 37)) w.heap.size 23 #[.int .i64 nn] from (Blk.new w 23 #[.int .i64 nn]).alloc _)
  have HD := Lib.hid (show decide (1 ≤ (nn : Int) ∧ (nn : Int) ≤ 64) = true from decide_eq_true (by omega))
  have HN := Lib.hid hr
  have HM := Lib.hid hm
  have a0 : decide (a < 0) = false := decide_eq_false (by omega)
  have a1 : decide (1 < a) = false := decide_eq_false (by omega)
  clear ha
  clear hr hm
  go_enter Tryd.func17, Tryd.ntmps17
  go_wp2_with (first
    | (go_at_call 12; refine (right_any nn _).mono ?_; rw [HD.out]; rintro r w1 ⟨rfl, hb⟩; have HB1 := Lib.hid (HB.out.trans (hb.mono HB.out.size)); have HS1 := Lib.hid (HS.out.keep hb); have HG1 := Lib.hid (HG.out.keep hb); have c3 := HG1.out.one; obtain ⟨c0, c1, c2⟩ := HS1.out.three; clear hb)
    | (go_at_call 15; refine (refall_yes nn _ HN.out).mono ?_; rintro r w2 ⟨⟨g, c, rfl, hrd⟩, hb⟩; have HB2 := Lib.hid (HB1.out.trans (hb.mono HB1.out.size)); have HS2 := Lib.hid (HS1.out.keep hb); have HR2 := Lib.hid hrd; clear hb hrd c0 c1 c2 c3))
  obtain ⟨N, hN⟩ : ∃ N, 20 + 3 * nn = N := ⟨_, rfl⟩
  rw [hN] at HR2 ⊢
  have HNN := Lib.hid hN
  have hN3 : N ≤ 300 := by have := HN.out; omega
  clear hN
  go_loopw [8] (fun i wr => ∃ j : Nat, j ≤ N ∧ i = .int .i64 j ∧ Below w.heap.size w wr ∧ RdS wr g (preS nn N) ∧ Blk wr (w.heap.size + 1) 37 (Sp.cs ⟨4, a, t⟩).toArray ∧ ∀ m, m < j → plc nn m ≠ ⟨4, a, t⟩) (fun i _ => N + 1 - (intOf i).toNat)
  case atStart => exact ⟨0, Nat.zero_le _, rfl, HB2.out, HR2.out, HS2.out, fun m hm => absurd hm (Nat.not_lt_zero _)⟩
  case round =>
    clear HB2 HR2 HS2 HB1 HS1 HG1 HB HS HG
    obtain ⟨j, hj, rfl, hb, hrd, hs, hno⟩ := hrel
    have HB := Lib.hid hb
    have HR := Lib.hid hrd
    have HS := Lib.hid hs
    have HNO := Lib.hid hno
    clear hb hrd hs hno
    by_cases hlt : j < N
    · have i2 : (j : Int) < (N : Int) := by omega
      have hyy := preS_get nn N j hlt
      obtain ⟨y, hy⟩ : ∃ y, plc nn j = y := ⟨_, rfl⟩
      rw [hy] at hyy
      obtain ⟨pk, pa, pt⟩ := y
      by_cases hx : (⟨pk, pa, pt⟩ : Sp) = ⟨4, a, t⟩
      · have HE := Lib.hid (show secP nn ⟨4, a, t⟩ = ((j : Int), 0) by rw [← hx, ← hy]; exact (secP_plc nn j HN.out (by have := HNN.out; omega)).2)
        have hq : decide ((⟨pk, pa, pt⟩ : Sp) = ⟨4, a, t⟩) = true := decide_eq_true hx
        clear hx hy
        go_wp2
        refine wp_region_only (S := fun w' => (w'.cell? ⟨g, j * 3, none⟩ = some (.int .i64 pk) ∧ w'.cell? ⟨g, j * 3 + 1, none⟩ = some (.int .i64 pa) ∧ w'.cell? ⟨g, j * 3 + 2, none⟩ = some (.int .i64 pt)) ∧ (w'.cell? ⟨w.heap.size + 1, 0, none⟩ = some (.int .i64 4) ∧ w'.cell? ⟨w.heap.size + 1, 1, none⟩ = some (.int .i64 a) ∧ w'.cell? ⟨w.heap.size + 1, 2, none⟩ = some (.int .i64 t))) (by kernel_rfl) ⟨(HR.out.drew.at_ hyy), HS.out.drew.three⟩ (fun hHeld => ?_)
        refine wpAnyH_take (i := 0) (v := ?v31) rfl (by kernel_rfl) (by kernel_rfl) (by kernel_rfl) (fun _ _ _ h => h) (Or.inl ⟨by rfl, ?hy31⟩) hHeld ?rest31
        case hy31 =>
          intro w' hSw
          try dsimp only at hSw
          go_simp
          first | done | with_reducible rfl
        try simp only [Act.put, List.getElem_toArray, List.getElem_cons_zero, List.setIfInBounds_toArray, List.set_cons_zero, List.set_cons_succ]
        refine wpAnyH_take (i := 1) (v := ?v32) rfl (by kernel_rfl) (by kernel_rfl) (by kernel_rfl) (fun _ _ _ h => h) (Or.inl ⟨by rfl, ?hy32⟩) hHeld ?rest32
        case hy32 =>
          intro w' hSw
          try dsimp only at hSw
          go_simp
          first | done | with_reducible rfl
        try simp only [Act.put, List.getElem_toArray, List.getElem_cons_succ, List.getElem_cons_zero, List.setIfInBounds_toArray, List.set_cons_zero, List.set_cons_succ]
        refine wpAnyH_take (i := 2) (v := ?v33) rfl (by kernel_rfl) (by kernel_rfl) (by kernel_rfl) (fun _ _ _ h => h) (Or.inl ⟨by rfl, ?hy33⟩) hHeld ?rest33
        case hy33 =>
          intro w' hSw
          try dsimp only at hSw
          go_simp
          first | done | with_reducible rfl
        try simp only [Act.put, List.getElem_toArray, List.getElem_cons_succ, List.getElem_cons_zero, List.setIfInBounds_toArray, List.set_cons_zero, List.set_cons_succ]
        refine wpAnyH_take (i := 3) (v := ?v34) rfl (by kernel_rfl) (by kernel_rfl) (by kernel_rfl) (fun _ _ _ h => h) (Or.inl ⟨by rfl, ?hy34⟩) hHeld ?rest34
        case hy34 =>
          intro w' hSw
          try dsimp only at hSw
          go_simp
          first | done | with_reducible rfl
        try simp only [Act.put, List.getElem_toArray, List.getElem_cons_succ, List.getElem_cons_zero, List.setIfInBounds_toArray, List.set_cons_zero, List.set_cons_succ]
        refine wpAnyH_take (i := 4) (v := ?v35) rfl (by kernel_rfl) (by kernel_rfl) (by kernel_rfl) (fun _ _ _ h => h) (Or.inl ⟨by rfl, ?hy35⟩) hHeld ?rest35
        case hy35 =>
          intro w' hSw
          try dsimp only at hSw
          go_simp
          first | done | with_reducible rfl
        try simp only [Act.put, List.getElem_toArray, List.getElem_cons_succ, List.getElem_cons_zero, List.setIfInBounds_toArray, List.set_cons_zero, List.set_cons_succ]
        refine wpAnyH_take (i := 5) rfl (by kernel_rfl) (by kernel_rfl) (by kernel_rfl) (fun _ _ _ h => h) (yields_seq (by rfl) (.tmp 75) (.tmp 76) rfl ⟨pk, pa, pt⟩ ⟨4, a, t⟩ true hq (by rfl) (by rfl)) hHeld ?_
        try simp only [Act.put, List.getElem_toArray, List.getElem_cons_succ, List.getElem_cons_zero, List.setIfInBounds_toArray, List.set_cons_zero, List.set_cons_succ]
        refine wpAnyH_done (by kernel_rfl) ?_ _
        refine OnlyN.normal ?_
        clear hHeld
        go_wp2
        go_ret2
        exact ⟨by rw [HE.out] <;> rfl, Below.drew HB.out⟩
      · have hq : decide ((⟨pk, pa, pt⟩ : Sp) = ⟨4, a, t⟩) = false := decide_eq_false hx
        have HX := Lib.hid (show plc nn j ≠ ⟨4, a, t⟩ by rw [hy]; exact hx)
        clear hx hy
        go_wp2
        refine wp_region_only (S := fun w' => (w'.cell? ⟨g, j * 3, none⟩ = some (.int .i64 pk) ∧ w'.cell? ⟨g, j * 3 + 1, none⟩ = some (.int .i64 pa) ∧ w'.cell? ⟨g, j * 3 + 2, none⟩ = some (.int .i64 pt)) ∧ (w'.cell? ⟨w.heap.size + 1, 0, none⟩ = some (.int .i64 4) ∧ w'.cell? ⟨w.heap.size + 1, 1, none⟩ = some (.int .i64 a) ∧ w'.cell? ⟨w.heap.size + 1, 2, none⟩ = some (.int .i64 t))) (by kernel_rfl) ⟨(HR.out.drew.at_ hyy), HS.out.drew.three⟩ (fun hHeld => ?_)
        refine wpAnyH_take (i := 0) (v := ?v36) rfl (by kernel_rfl) (by kernel_rfl) (by kernel_rfl) (fun _ _ _ h => h) (Or.inl ⟨by rfl, ?hy36⟩) hHeld ?rest36
        case hy36 =>
          intro w' hSw
          try dsimp only at hSw
          go_simp
          first | done | with_reducible rfl
        try simp only [Act.put, List.getElem_toArray, List.getElem_cons_zero, List.setIfInBounds_toArray, List.set_cons_zero, List.set_cons_succ]
        refine wpAnyH_take (i := 1) (v := ?v37) rfl (by kernel_rfl) (by kernel_rfl) (by kernel_rfl) (fun _ _ _ h => h) (Or.inl ⟨by rfl, ?hy37⟩) hHeld ?rest37
        case hy37 =>
          intro w' hSw
          try dsimp only at hSw
          go_simp
          first | done | with_reducible rfl
        try simp only [Act.put, List.getElem_toArray, List.getElem_cons_succ, List.getElem_cons_zero, List.setIfInBounds_toArray, List.set_cons_zero, List.set_cons_succ]
        refine wpAnyH_take (i := 2) (v := ?v38) rfl (by kernel_rfl) (by kernel_rfl) (by kernel_rfl) (fun _ _ _ h => h) (Or.inl ⟨by rfl, ?hy38⟩) hHeld ?rest38
        case hy38 =>
          intro w' hSw
          try dsimp only at hSw
          go_simp
          first | done | with_reducible rfl
        try simp only [Act.put, List.getElem_toArray, List.getElem_cons_succ, List.getElem_cons_zero, List.setIfInBounds_toArray, List.set_cons_zero, List.set_cons_succ]
        refine wpAnyH_take (i := 3) (v := ?v39) rfl (by kernel_rfl) (by kernel_rfl) (by kernel_rfl) (fun _ _ _ h => h) (Or.inl ⟨by rfl, ?hy39⟩) hHeld ?rest39
        case hy39 =>
          intro w' hSw
          try dsimp only at hSw
          go_simp
          first | done | with_reducible rfl
        try simp only [Act.put, List.getElem_toArray, List.getElem_cons_succ, List.getElem_cons_zero, List.setIfInBounds_toArray, List.set_cons_zero, List.set_cons_succ]
        refine wpAnyH_take (i := 4) (v := ?v40) rfl (by kernel_rfl) (by kernel_rfl) (by kernel_rfl) (fun _ _ _ h => h) (Or.inl ⟨by rfl, ?hy40⟩) hHeld ?rest40
        case hy40 =>
          intro w' hSw
          try dsimp only at hSw
          go_simp
          first | done | with_reducible rfl
        try simp only [Act.put, List.getElem_toArray, List.getElem_cons_succ, List.getElem_cons_zero, List.setIfInBounds_toArray, List.set_cons_zero, List.set_cons_succ]
        refine wpAnyH_take (i := 5) rfl (by kernel_rfl) (by kernel_rfl) (by kernel_rfl) (fun _ _ _ h => h) (yields_seq (by rfl) (.tmp 75) (.tmp 76) rfl ⟨pk, pa, pt⟩ ⟨4, a, t⟩ false hq (by rfl) (by rfl)) hHeld ?_
        try simp only [Act.put, List.getElem_toArray, List.getElem_cons_succ, List.getElem_cons_zero, List.setIfInBounds_toArray, List.set_cons_zero, List.set_cons_succ]
        refine wpAnyH_done (by kernel_rfl) ?_ _
        refine OnlyN.normal ?_
        clear hHeld
        go_wp2
        go_roundw
        case rel =>
          refine ⟨j + 1, by omega, by go_num, Below.drew HB.out, HR.out.drew, HS.out.drew, fun m hm => ?_⟩
          rcases Nat.lt_or_ge m j with h | h
          · exact HNO.out m h
          · obtain rfl : m = j := by omega
            exact HX.out
        case measure => simp [intOf]; omega
    · obtain rfl : N = j := by omega
      have i2 : ¬ (N : Int) < (N : Int) := by omega
      have HE := Lib.hid (show secP nn ⟨4, a, t⟩ = (0, 4) from (secP_has nn HN.out _ HM.out).resolve_left fun ⟨i, hi, hp, _⟩ => HNO.out i (by have := HNN.out; omega) hp)
      go_wp2
      go_ret2
      exact ⟨by rw [HE.out] <;> rfl, HB.out⟩
set_option maxRecDepth 8000 in
theorem rsector_any (n : Int) (x : Sp) (w : World) : Calls Tryd.prog 17 #[plan n, x.val] w fun e w' => e = .returned (.tuple #[.int .i64 (secP n x).1, .int .i64 (secP n x).2]) ∧ Below w.heap.size w w' := by
  obtain ⟨k, a, t⟩ := x
  by_cases hr : 1 ≤ n ∧ n ≤ 64
  · by_cases hm : mayP ⟨k, a, t⟩
    · obtain ⟨nn, rfl⟩ := Int.eq_ofNat_of_zero_le (show 0 ≤ n by omega)
      have hn : 1 ≤ nn ∧ nn ≤ 64 := by omega
      rcases may_cases hm with ⟨rfl, rfl⟩ | ⟨rfl, rfl, rfl⟩ | ⟨rfl, rfl, rfl⟩ | ⟨rfl, rfl⟩ | ⟨rfl, rfl⟩ | ⟨rfl, rfl⟩ | ⟨rfl, rfl⟩ | ⟨rfl, rfl⟩
      · exact rsec_15 nn 1 t w hn hm (.inl rfl)
      · exact rsec_2 nn 0 w hn hm (by decide)
      · exact rsec_2 nn 1 w hn hm (by decide)
      · exact rsec_3 nn 0 t w hn hm (by decide)
      · exact rsec_3 nn 1 t w hn hm (by decide)
      · exact rsec_4 nn 0 t w hn hm (by decide)
      · exact rsec_4 nn 1 t w hn hm (by decide)
      · exact rsec_15 nn 5 t w hn hm (.inr rfl)
    · rw [secP_no fun h => hm h.2]
      have hm' := mt (mayP_mk k a t).2 hm
      by_cases h1 : k < 1
      · exact rsec_k0 n k a t w hr h1
      by_cases h2 : 5 < k
      · exact rsec_k6 n k a t w hr h2
      by_cases h3 : a < 0
      · by_cases e2 : k = 2
        · subst e2; exact rsec_an_2 n a t w hr h3
        by_cases e3 : k = 3
        · subst e3; exact rsec_an_3 n a t w hr h3
        by_cases e4 : k = 4
        · subst e4; exact rsec_an_4 n a t w hr h3
        exact rsec_an_k n k a t w hr ⟨e2, e3, e4⟩ (by omega) h3
      by_cases h4 : 1 < a
      · by_cases e2 : k = 2
        · subst e2; exact rsec_a2_2 n a t w hr h4
        by_cases e3 : k = 3
        · subst e3; exact rsec_a2_3 n a t w hr h4
        by_cases e4 : k = 4
        · subst e4; exact rsec_a2_4 n a t w hr h4
        exact rsec_a2_k n k a t w hr ⟨e2, e3, e4⟩ (by omega) h4
      by_cases h5 : a = 1 ∧ (k = 1 ∨ k = 5)
      · obtain ⟨rfl, h5⟩ := h5
        exact rsec_a1 n k t w hr h5
      · obtain rfl : k = 2 := by omega
        exact rsec_t n a t w hr (by omega) (by omega)
  · rw [secP_no fun h => hr h.1]
    by_cases e2 : k = 2
    · subst e2; exact rsec_no_2 n a t w hr
    by_cases e3 : k = 3
    · subst e3; exact rsec_no_3 n a t w hr
    by_cases e4 : k = 4
    · subst e4; exact rsec_no_4 n a t w hr
    exact rsec_no_k n k a t w hr ⟨e2, e3, e4⟩
end Go.Proofs.YtfgkjonjkpcfiaaDoor

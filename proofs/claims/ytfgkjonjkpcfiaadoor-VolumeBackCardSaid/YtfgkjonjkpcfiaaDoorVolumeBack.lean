/- The law VolumeBack returns true for every input: each sector is one place, and each place one sector; a plan of one object more has three sectors more. No condition but that the listed variables read as the program's own text lays them; the card ties them to it. -/
import Derived.Test.YtfgkjonjkpcfiaaDoorVW
import Derived.Test.YtfgkjonjkpcfiaaDoorVFr
namespace Go.Proofs.YtfgkjonjkpcfiaaDoor.volumeBack
open Go.ChangeShapes Go.WideShapes Go.ChangeAt Go.RowKit
attribute [local go_sem] Oper.semAt_some
set_option maxRecDepth 10000 in
set_option maxHeartbeats 2000000 in
theorem walk_no (w : World) (hT : Tab w) (n s : Int) (x : Sp) (hr : ¬ (1 ≤ n ∧ n ≤ 64)) :
    Calls Tryd.prog 8 #[plan n, x.val, .int .i64 s] w fun e w' => e = .returned (.bool true) ∧ Below w.heap.size w w' := by
  obtain ⟨k, a, t⟩ := x
  have HB0 := Lib.hid (((Below.refl w.heap.size w).alloc (Nat.le_refl _) (.cells #[.int .i64 n] 23)).alloc (by simp) (.cells #[.int .i64 k, .int .i64 a, .int .i64 t] 37))
  have HT0 := Lib.hid ((hT.alloc (.cells #[.int .i64 n] 23)).alloc (.cells #[.int .i64 k, .int .i64 a, .int .i64 t] 37))
  have HP0 := Lib.hid ((Blk.new w 23 #[.int .i64 n]).alloc (.cells #[.int .i64 k, .int .i64 a, .int .i64 t] 37))
  have HX0 := Lib.hid (show Blk ((w.alloc (.cells #[.int .i64 n] 23)).alloc (.cells #[.int .i64 k, .int .i64 a, .int .i64 t] 37)) (w.heap.size + 1) 37 #[.int .i64 k, .int .i64 a, .int .i64 t] by have := Blk.new (w.alloc (.cells #[.int .i64 n] 23)) 37 #[.int .i64 k, .int .i64 a, .int .i64 t]; simpa using this)
  have HI := Lib.hid hr
  have HQ := Lib.hid (show secP n ⟨k, a, t⟩ = (0, 2) from secP_no fun h => hr h.1)
  have HR := Lib.hid (sptP_no n s hr)
  clear hr
  clear hT
  go_enter Tryd.func8, Tryd.ntmps8
  go_wp2_with (first
    | (go_at_call 16; refine (sector_any n ⟨k, a, t⟩ _ HT0.out).mono ?_; rw [HQ.out]; rintro r w1 ⟨rfl, hb⟩; have HB1 := Lib.hid (HB0.out.trans (hb.mono HB0.out.size)); have HT1 := Lib.hid (HT0.out.below hb); have HP1 := Lib.hid ((HP0.out.keep hb)); have HX1 := Lib.hid ((HX0.out.keep hb)); have cp := HP1.out.one; obtain ⟨c0, c1, c2⟩ := HX1.out.three; clear hb)
    | (go_at_call 18; refine (spot_any n s _).mono ?_; rw [HR.out]; rintro r w2 ⟨rfl, hb⟩; have HB2 := Lib.hid ((HB1.out.trans (hb.mono HB1.out.size)).alloc (Nat.le_trans HB1.out.size hb.size) (.cells #[.int .i64 0, .int .i64 0, .int .i64 0] 37)); have HT2 := Lib.hid ((HT1.out.below hb).alloc (.cells #[.int .i64 0, .int .i64 0, .int .i64 0] 37)); have HP2 := Lib.hid ((HP1.out.keep hb).alloc (.cells #[.int .i64 0, .int .i64 0, .int .i64 0] 37)); have HX2 := Lib.hid ((HX1.out.keep hb).alloc (.cells #[.int .i64 0, .int .i64 0, .int .i64 0] 37)); have HV2 := Lib.hid (Blk.new w2 37 #[.int .i64 0, .int .i64 0, .int .i64 0]); have cp := HP2.out.one; obtain ⟨c0, c1, c2⟩ := HX2.out.three; obtain ⟨v0, v1, v2⟩ := HV2.out.three; clear hb)
    | (go_at_call 9; refine (size_any n _).mono ?_; rw [if_neg HI.out, if_neg HI.out]; rintro r w3 ⟨rfl, hb⟩; have HB3 := Lib.hid (HB2.out.trans (hb.mono HB2.out.size)); have HT3 := Lib.hid (HT2.out.below hb); have HP3 := Lib.hid ((HP2.out.keep hb)); have HX3 := Lib.hid ((HX2.out.keep hb)); have HV3 := Lib.hid ((HV2.out.keep hb)); have cp := HP3.out.one; obtain ⟨c0, c1, c2⟩ := HX3.out.three; obtain ⟨v0, v1, v2⟩ := HV3.out.three; clear hb)
    | (go_at_call 13; refine (num_any _ _).mono ?_; rintro r y ⟨rfl, rfl⟩)
    | (go_at_call 14; refine (works_any _ HT3.out).mono ?_; rintro r w9 ⟨rfl, hb⟩; have HB9 := Lib.hid (HB3.out.trans (hb.mono HB3.out.size)); clear hb))
  go_ret
  exact ⟨rfl, HB9.out⟩
set_option maxRecDepth 10000 in
set_option maxHeartbeats 4000000 in
theorem walk_xx0 (w : World) (hT : Tab w) (nn : Nat) (x : Sp) (hr : 1 ≤ nn ∧ nn ≤ 64) (e : Int) (he : e ≠ 0) (hq : secP nn x = (0, e)) (s : Int) (hs : sptP nn s = (⟨0, 0, 0⟩, 4)) (ht6 : nn < 64) :
    Calls Tryd.prog 8 #[plan nn, x.val, .int .i64 s] w fun e w' => e = .returned (.bool true) ∧ Below w.heap.size w w' := by
  obtain ⟨k, a, t⟩ := x
  have HB0 := Lib.hid (((Below.refl w.heap.size w).alloc (Nat.le_refl _) (.cells #[.int .i64 nn] 23)).alloc (by simp) (.cells #[.int .i64 k, .int .i64 a, .int .i64 t] 37))
  have HT0 := Lib.hid ((hT.alloc (.cells #[.int .i64 nn] 23)).alloc (.cells #[.int .i64 k, .int .i64 a, .int .i64 t] 37))
  have HP0 := Lib.hid ((Blk.new w 23 #[.int .i64 nn]).alloc (.cells #[.int .i64 k, .int .i64 a, .int .i64 t] 37))
  have HX0 := Lib.hid (show Blk ((w.alloc (.cells #[.int .i64 nn] 23)).alloc (.cells #[.int .i64 k, .int .i64 a, .int .i64 t] 37)) (w.heap.size + 1) 37 #[.int .i64 k, .int .i64 a, .int .i64 t] by have := Blk.new (w.alloc (.cells #[.int .i64 nn] 23)) 37 #[.int .i64 k, .int .i64 a, .int .i64 t]; simpa using this)
  have HI := Lib.hid (show 1 ≤ (nn : Int) ∧ (nn : Int) ≤ 64 by omega)
  have HQ := Lib.hid hq
  have de : (e == 0) = false := by simpa using he
  have HR := Lib.hid hs
  clear hr hq he hs
  have d6 : decide (64 ≤ (nn : Int)) = false := decide_eq_false (by omega)
  have HW := Lib.hid (show 1 ≤ (nn : Int) + 1 ∧ (nn : Int) + 1 ≤ 64 by have := HI.out; omega)
  have e6 : ((20 + 3 * ((nn : Int) + 1)) == (20 + 3 * (nn : Int) + 3)) = true := by simp only [beq_iff_eq]; omega
  have hnn : nn ≤ 64 := by omega
  clear ht6
  have M0 := Lib.hid True.intro
  clear hT
  go_enter Tryd.func8, Tryd.ntmps8
  go_wp2_with (first
    | (go_at_call 16; refine (sector_any nn ⟨k, a, t⟩ _ HT0.out).mono ?_; rw [HQ.out]; rintro r w1 ⟨rfl, hb⟩; have HB1 := Lib.hid (HB0.out.trans (hb.mono HB0.out.size)); have HT1 := Lib.hid (HT0.out.below hb); have HP1 := Lib.hid ((HP0.out.keep hb)); have HX1 := Lib.hid ((HX0.out.keep hb)); have cp := HP1.out.one; obtain ⟨c0, c1, c2⟩ := HX1.out.three; clear hb)
    | (go_at_call 18; refine (spot_any nn s _).mono ?_; rw [HR.out]; rintro r w2 ⟨rfl, hb⟩; have HB2 := Lib.hid ((HB1.out.trans (hb.mono HB1.out.size)).alloc (Nat.le_trans HB1.out.size hb.size) (.cells #[.int .i64 0, .int .i64 0, .int .i64 0] 37)); have HT2 := Lib.hid ((HT1.out.below hb).alloc (.cells #[.int .i64 0, .int .i64 0, .int .i64 0] 37)); have HP2 := Lib.hid ((HP1.out.keep hb).alloc (.cells #[.int .i64 0, .int .i64 0, .int .i64 0] 37)); have HX2 := Lib.hid ((HX1.out.keep hb).alloc (.cells #[.int .i64 0, .int .i64 0, .int .i64 0] 37)); have HV2 := Lib.hid (Blk.new w2 37 #[.int .i64 0, .int .i64 0, .int .i64 0]); have cp := HP2.out.one; obtain ⟨c0, c1, c2⟩ := HX2.out.three; obtain ⟨v0, v1, v2⟩ := HV2.out.three; clear hb)
    | (go_at_call 9; clear M0; refine (size_any nn _).mono ?_; rw [if_pos HI.out, if_pos HI.out]; rintro r w3 ⟨rfl, hb⟩; have HB3 := Lib.hid (HB2.out.trans (hb.mono HB2.out.size)); have HT3 := Lib.hid (HT2.out.below hb); have HP3 := Lib.hid ((HP2.out.keep hb)); have HX3 := Lib.hid ((HX2.out.keep hb)); have HV3 := Lib.hid ((HV2.out.keep hb)); have cp := HP3.out.one; obtain ⟨c0, c1, c2⟩ := HX3.out.three; obtain ⟨v0, v1, v2⟩ := HV3.out.three; clear hb)
    | (go_at_call 9; refine (size_any ((nn : Int) + 1) _).mono ?_; rw [if_pos HW.out, if_pos HW.out]; rintro r w4 ⟨rfl, hb⟩; have HB4 := Lib.hid (HB3.out.trans (hb.mono HB3.out.size)); have HT4 := Lib.hid (HT3.out.below hb); have HP4 := Lib.hid ((HP3.out.keep hb)); have HX4 := Lib.hid ((HX3.out.keep hb)); have HV4 := Lib.hid ((HV3.out.keep hb)); have cp := HP4.out.one; obtain ⟨c0, c1, c2⟩ := HX4.out.three; obtain ⟨v0, v1, v2⟩ := HV4.out.three; clear hb)
    | (go_at_call 13; refine (num_any _ _).mono ?_; rintro r y ⟨rfl, rfl⟩)
    | (go_at_call 14; refine (works_any _ HT4.out).mono ?_; rintro r w9 ⟨rfl, hb⟩; have HB9 := Lib.hid (HB4.out.trans (hb.mono HB4.out.size)); clear hb))
  go_ret
  exact ⟨rfl, HB9.out⟩
set_option maxRecDepth 10000 in
set_option maxHeartbeats 4000000 in
theorem walk_xx1 (w : World) (hT : Tab w) (nn : Nat) (x : Sp) (hr : 1 ≤ nn ∧ nn ≤ 64) (e : Int) (he : e ≠ 0) (hq : secP nn x = (0, e)) (s : Int) (hs : sptP nn s = (⟨0, 0, 0⟩, 4)) (ht6 : 64 ≤ nn) :
    Calls Tryd.prog 8 #[plan nn, x.val, .int .i64 s] w fun e w' => e = .returned (.bool true) ∧ Below w.heap.size w w' := by
  obtain ⟨k, a, t⟩ := x
  have HB0 := Lib.hid (((Below.refl w.heap.size w).alloc (Nat.le_refl _) (.cells #[.int .i64 nn] 23)).alloc (by simp) (.cells #[.int .i64 k, .int .i64 a, .int .i64 t] 37))
  have HT0 := Lib.hid ((hT.alloc (.cells #[.int .i64 nn] 23)).alloc (.cells #[.int .i64 k, .int .i64 a, .int .i64 t] 37))
  have HP0 := Lib.hid ((Blk.new w 23 #[.int .i64 nn]).alloc (.cells #[.int .i64 k, .int .i64 a, .int .i64 t] 37))
  have HX0 := Lib.hid (show Blk ((w.alloc (.cells #[.int .i64 nn] 23)).alloc (.cells #[.int .i64 k, .int .i64 a, .int .i64 t] 37)) (w.heap.size + 1) 37 #[.int .i64 k, .int .i64 a, .int .i64 t] by have := Blk.new (w.alloc (.cells #[.int .i64 nn] 23)) 37 #[.int .i64 k, .int .i64 a, .int .i64 t]; simpa using this)
  have HI := Lib.hid (show 1 ≤ (nn : Int) ∧ (nn : Int) ≤ 64 by omega)
  have HQ := Lib.hid hq
  have de : (e == 0) = false := by simpa using he
  have HR := Lib.hid hs
  clear hr hq he hs
  have d6 : decide (64 ≤ (nn : Int)) = true := decide_eq_true (by omega)
  clear ht6
  clear hT
  go_enter Tryd.func8, Tryd.ntmps8
  go_wp2_with (first
    | (go_at_call 16; refine (sector_any nn ⟨k, a, t⟩ _ HT0.out).mono ?_; rw [HQ.out]; rintro r w1 ⟨rfl, hb⟩; have HB1 := Lib.hid (HB0.out.trans (hb.mono HB0.out.size)); have HT1 := Lib.hid (HT0.out.below hb); have HP1 := Lib.hid ((HP0.out.keep hb)); have HX1 := Lib.hid ((HX0.out.keep hb)); have cp := HP1.out.one; obtain ⟨c0, c1, c2⟩ := HX1.out.three; clear hb)
    | (go_at_call 18; refine (spot_any nn s _).mono ?_; rw [HR.out]; rintro r w2 ⟨rfl, hb⟩; have HB2 := Lib.hid ((HB1.out.trans (hb.mono HB1.out.size)).alloc (Nat.le_trans HB1.out.size hb.size) (.cells #[.int .i64 0, .int .i64 0, .int .i64 0] 37)); have HT2 := Lib.hid ((HT1.out.below hb).alloc (.cells #[.int .i64 0, .int .i64 0, .int .i64 0] 37)); have HP2 := Lib.hid ((HP1.out.keep hb).alloc (.cells #[.int .i64 0, .int .i64 0, .int .i64 0] 37)); have HX2 := Lib.hid ((HX1.out.keep hb).alloc (.cells #[.int .i64 0, .int .i64 0, .int .i64 0] 37)); have HV2 := Lib.hid (Blk.new w2 37 #[.int .i64 0, .int .i64 0, .int .i64 0]); have cp := HP2.out.one; obtain ⟨c0, c1, c2⟩ := HX2.out.three; obtain ⟨v0, v1, v2⟩ := HV2.out.three; clear hb)
    | (go_at_call 9; refine (size_any nn _).mono ?_; rw [if_pos HI.out, if_pos HI.out]; rintro r w3 ⟨rfl, hb⟩; have HB3 := Lib.hid (HB2.out.trans (hb.mono HB2.out.size)); have HT3 := Lib.hid (HT2.out.below hb); have HP3 := Lib.hid ((HP2.out.keep hb)); have HX3 := Lib.hid ((HX2.out.keep hb)); have HV3 := Lib.hid ((HV2.out.keep hb)); have cp := HP3.out.one; obtain ⟨c0, c1, c2⟩ := HX3.out.three; obtain ⟨v0, v1, v2⟩ := HV3.out.three; clear hb)
    | (go_at_call 13; refine (num_any _ _).mono ?_; rintro r y ⟨rfl, rfl⟩)
    | (go_at_call 14; refine (works_any _ HT3.out).mono ?_; rintro r w9 ⟨rfl, hb⟩; have HB9 := Lib.hid (HB3.out.trans (hb.mono HB3.out.size)); clear hb))
  go_ret
  exact ⟨rfl, HB9.out⟩
set_option maxRecDepth 10000 in
set_option maxHeartbeats 4000000 in
theorem walk_ix0 (w : World) (hT : Tab w) (nn : Nat) (x : Sp) (hr : 1 ≤ nn ∧ nn ≤ 64) (j : Nat) (hq : secP nn x = ((j : Int), 0)) (hj : sptP nn j = (x, 0)) (s : Int) (hs : sptP nn s = (⟨0, 0, 0⟩, 4)) (ht6 : nn < 64) :
    Calls Tryd.prog 8 #[plan nn, x.val, .int .i64 s] w fun e w' => e = .returned (.bool true) ∧ Below w.heap.size w w' := by
  obtain ⟨k, a, t⟩ := x
  have HB0 := Lib.hid (((Below.refl w.heap.size w).alloc (Nat.le_refl _) (.cells #[.int .i64 nn] 23)).alloc (by simp) (.cells #[.int .i64 k, .int .i64 a, .int .i64 t] 37))
  have HT0 := Lib.hid ((hT.alloc (.cells #[.int .i64 nn] 23)).alloc (.cells #[.int .i64 k, .int .i64 a, .int .i64 t] 37))
  have HP0 := Lib.hid ((Blk.new w 23 #[.int .i64 nn]).alloc (.cells #[.int .i64 k, .int .i64 a, .int .i64 t] 37))
  have HX0 := Lib.hid (show Blk ((w.alloc (.cells #[.int .i64 nn] 23)).alloc (.cells #[.int .i64 k, .int .i64 a, .int .i64 t] 37)) (w.heap.size + 1) 37 #[.int .i64 k, .int .i64 a, .int .i64 t] by have := Blk.new (w.alloc (.cells #[.int .i64 nn] 23)) 37 #[.int .i64 k, .int .i64 a, .int .i64 t]; simpa using this)
  have HI := Lib.hid (show 1 ≤ (nn : Int) ∧ (nn : Int) ≤ 64 by omega)
  have HQ := Lib.hid hq
  have HJ := Lib.hid hj
  clear hj
  have HR := Lib.hid hs
  clear hr hq hs
  have d6 : decide (64 ≤ (nn : Int)) = false := decide_eq_false (by omega)
  have HW := Lib.hid (show 1 ≤ (nn : Int) + 1 ∧ (nn : Int) + 1 ≤ 64 by have := HI.out; omega)
  have e6 : ((20 + 3 * ((nn : Int) + 1)) == (20 + 3 * (nn : Int) + 3)) = true := by simp only [beq_iff_eq]; omega
  have hnn : nn ≤ 64 := by omega
  clear ht6
  have M0 := Lib.hid True.intro
  have N1 := Lib.hid True.intro
  clear hT
  go_enter Tryd.func8, Tryd.ntmps8
  go_wp2_with (first
    | (go_at_call 16; refine (sector_any nn ⟨k, a, t⟩ _ HT0.out).mono ?_; rw [HQ.out]; rintro r w1 ⟨rfl, hb⟩; have HB1 := Lib.hid (HB0.out.trans (hb.mono HB0.out.size)); have HT1 := Lib.hid (HT0.out.below hb); have HP1 := Lib.hid ((HP0.out.keep hb)); have HX1 := Lib.hid ((HX0.out.keep hb)); have cp := HP1.out.one; obtain ⟨c0, c1, c2⟩ := HX1.out.three; clear hb)
    | (go_at_call 18; clear N1; refine (spot_any nn (j : Int) _).mono ?_; rw [HJ.out]; rintro r w2 ⟨rfl, hb⟩; have HB2 := Lib.hid ((HB1.out.trans (hb.mono HB1.out.size)).alloc (Nat.le_trans HB1.out.size hb.size) (.cells #[.int .i64 k, .int .i64 a, .int .i64 t] 37)); have HT2 := Lib.hid ((HT1.out.below hb).alloc (.cells #[.int .i64 k, .int .i64 a, .int .i64 t] 37)); have HP2 := Lib.hid ((HP1.out.keep hb).alloc (.cells #[.int .i64 k, .int .i64 a, .int .i64 t] 37)); have HX2 := Lib.hid ((HX1.out.keep hb).alloc (.cells #[.int .i64 k, .int .i64 a, .int .i64 t] 37)); have HU2 := Lib.hid (Blk.new w2 37 #[.int .i64 k, .int .i64 a, .int .i64 t]); have cp := HP2.out.one; obtain ⟨c0, c1, c2⟩ := HX2.out.three; obtain ⟨u0, u1, u2⟩ := HU2.out.three; clear hb)
    | (go_at_call 18; refine (spot_any nn s _).mono ?_; rw [HR.out]; rintro r w3 ⟨rfl, hb⟩; have HB3 := Lib.hid ((HB2.out.trans (hb.mono HB2.out.size)).alloc (Nat.le_trans HB2.out.size hb.size) (.cells #[.int .i64 0, .int .i64 0, .int .i64 0] 37)); have HT3 := Lib.hid ((HT2.out.below hb).alloc (.cells #[.int .i64 0, .int .i64 0, .int .i64 0] 37)); have HP3 := Lib.hid ((HP2.out.keep hb).alloc (.cells #[.int .i64 0, .int .i64 0, .int .i64 0] 37)); have HX3 := Lib.hid ((HX2.out.keep hb).alloc (.cells #[.int .i64 0, .int .i64 0, .int .i64 0] 37)); have HU3 := Lib.hid ((HU2.out.keep hb).alloc (.cells #[.int .i64 0, .int .i64 0, .int .i64 0] 37)); have HV3 := Lib.hid (Blk.new w3 37 #[.int .i64 0, .int .i64 0, .int .i64 0]); have cp := HP3.out.one; obtain ⟨c0, c1, c2⟩ := HX3.out.three; obtain ⟨u0, u1, u2⟩ := HU3.out.three; obtain ⟨v0, v1, v2⟩ := HV3.out.three; clear hb)
    | (go_at_call 9; clear M0; refine (size_any nn _).mono ?_; rw [if_pos HI.out, if_pos HI.out]; rintro r w4 ⟨rfl, hb⟩; have HB4 := Lib.hid (HB3.out.trans (hb.mono HB3.out.size)); have HT4 := Lib.hid (HT3.out.below hb); have HP4 := Lib.hid ((HP3.out.keep hb)); have HX4 := Lib.hid ((HX3.out.keep hb)); have HU4 := Lib.hid ((HU3.out.keep hb)); have HV4 := Lib.hid ((HV3.out.keep hb)); have cp := HP4.out.one; obtain ⟨c0, c1, c2⟩ := HX4.out.three; obtain ⟨u0, u1, u2⟩ := HU4.out.three; obtain ⟨v0, v1, v2⟩ := HV4.out.three; clear hb)
    | (go_at_call 9; refine (size_any ((nn : Int) + 1) _).mono ?_; rw [if_pos HW.out, if_pos HW.out]; rintro r w5 ⟨rfl, hb⟩; have HB5 := Lib.hid (HB4.out.trans (hb.mono HB4.out.size)); have HT5 := Lib.hid (HT4.out.below hb); have HP5 := Lib.hid ((HP4.out.keep hb)); have HX5 := Lib.hid ((HX4.out.keep hb)); have HU5 := Lib.hid ((HU4.out.keep hb)); have HV5 := Lib.hid ((HV4.out.keep hb)); have cp := HP5.out.one; obtain ⟨c0, c1, c2⟩ := HX5.out.three; obtain ⟨u0, u1, u2⟩ := HU5.out.three; obtain ⟨v0, v1, v2⟩ := HV5.out.three; clear hb)
    | (go_at_call 13; refine (num_any _ _).mono ?_; rintro r y ⟨rfl, rfl⟩)
    | (go_at_call 14; refine (works_any _ HT5.out).mono ?_; rintro r w9 ⟨rfl, hb⟩; have HB9 := Lib.hid (HB5.out.trans (hb.mono HB5.out.size)); clear hb))
  go_ret
  exact ⟨rfl, HB9.out⟩
set_option maxRecDepth 10000 in
set_option maxHeartbeats 4000000 in
theorem walk_ix1 (w : World) (hT : Tab w) (nn : Nat) (x : Sp) (hr : 1 ≤ nn ∧ nn ≤ 64) (j : Nat) (hq : secP nn x = ((j : Int), 0)) (hj : sptP nn j = (x, 0)) (s : Int) (hs : sptP nn s = (⟨0, 0, 0⟩, 4)) (ht6 : 64 ≤ nn) :
    Calls Tryd.prog 8 #[plan nn, x.val, .int .i64 s] w fun e w' => e = .returned (.bool true) ∧ Below w.heap.size w w' := by
  obtain ⟨k, a, t⟩ := x
  have HB0 := Lib.hid (((Below.refl w.heap.size w).alloc (Nat.le_refl _) (.cells #[.int .i64 nn] 23)).alloc (by simp) (.cells #[.int .i64 k, .int .i64 a, .int .i64 t] 37))
  have HT0 := Lib.hid ((hT.alloc (.cells #[.int .i64 nn] 23)).alloc (.cells #[.int .i64 k, .int .i64 a, .int .i64 t] 37))
  have HP0 := Lib.hid ((Blk.new w 23 #[.int .i64 nn]).alloc (.cells #[.int .i64 k, .int .i64 a, .int .i64 t] 37))
  have HX0 := Lib.hid (show Blk ((w.alloc (.cells #[.int .i64 nn] 23)).alloc (.cells #[.int .i64 k, .int .i64 a, .int .i64 t] 37)) (w.heap.size + 1) 37 #[.int .i64 k, .int .i64 a, .int .i64 t] by have := Blk.new (w.alloc (.cells #[.int .i64 nn] 23)) 37 #[.int .i64 k, .int .i64 a, .int .i64 t]; simpa using this)
  have HI := Lib.hid (show 1 ≤ (nn : Int) ∧ (nn : Int) ≤ 64 by omega)
  have HQ := Lib.hid hq
  have HJ := Lib.hid hj
  clear hj
  have HR := Lib.hid hs
  clear hr hq hs
  have d6 : decide (64 ≤ (nn : Int)) = true := decide_eq_true (by omega)
  clear ht6
  have N1 := Lib.hid True.intro
  clear hT
  go_enter Tryd.func8, Tryd.ntmps8
  go_wp2_with (first
    | (go_at_call 16; refine (sector_any nn ⟨k, a, t⟩ _ HT0.out).mono ?_; rw [HQ.out]; rintro r w1 ⟨rfl, hb⟩; have HB1 := Lib.hid (HB0.out.trans (hb.mono HB0.out.size)); have HT1 := Lib.hid (HT0.out.below hb); have HP1 := Lib.hid ((HP0.out.keep hb)); have HX1 := Lib.hid ((HX0.out.keep hb)); have cp := HP1.out.one; obtain ⟨c0, c1, c2⟩ := HX1.out.three; clear hb)
    | (go_at_call 18; clear N1; refine (spot_any nn (j : Int) _).mono ?_; rw [HJ.out]; rintro r w2 ⟨rfl, hb⟩; have HB2 := Lib.hid ((HB1.out.trans (hb.mono HB1.out.size)).alloc (Nat.le_trans HB1.out.size hb.size) (.cells #[.int .i64 k, .int .i64 a, .int .i64 t] 37)); have HT2 := Lib.hid ((HT1.out.below hb).alloc (.cells #[.int .i64 k, .int .i64 a, .int .i64 t] 37)); have HP2 := Lib.hid ((HP1.out.keep hb).alloc (.cells #[.int .i64 k, .int .i64 a, .int .i64 t] 37)); have HX2 := Lib.hid ((HX1.out.keep hb).alloc (.cells #[.int .i64 k, .int .i64 a, .int .i64 t] 37)); have HU2 := Lib.hid (Blk.new w2 37 #[.int .i64 k, .int .i64 a, .int .i64 t]); have cp := HP2.out.one; obtain ⟨c0, c1, c2⟩ := HX2.out.three; obtain ⟨u0, u1, u2⟩ := HU2.out.three; clear hb)
    | (go_at_call 18; refine (spot_any nn s _).mono ?_; rw [HR.out]; rintro r w3 ⟨rfl, hb⟩; have HB3 := Lib.hid ((HB2.out.trans (hb.mono HB2.out.size)).alloc (Nat.le_trans HB2.out.size hb.size) (.cells #[.int .i64 0, .int .i64 0, .int .i64 0] 37)); have HT3 := Lib.hid ((HT2.out.below hb).alloc (.cells #[.int .i64 0, .int .i64 0, .int .i64 0] 37)); have HP3 := Lib.hid ((HP2.out.keep hb).alloc (.cells #[.int .i64 0, .int .i64 0, .int .i64 0] 37)); have HX3 := Lib.hid ((HX2.out.keep hb).alloc (.cells #[.int .i64 0, .int .i64 0, .int .i64 0] 37)); have HU3 := Lib.hid ((HU2.out.keep hb).alloc (.cells #[.int .i64 0, .int .i64 0, .int .i64 0] 37)); have HV3 := Lib.hid (Blk.new w3 37 #[.int .i64 0, .int .i64 0, .int .i64 0]); have cp := HP3.out.one; obtain ⟨c0, c1, c2⟩ := HX3.out.three; obtain ⟨u0, u1, u2⟩ := HU3.out.three; obtain ⟨v0, v1, v2⟩ := HV3.out.three; clear hb)
    | (go_at_call 9; refine (size_any nn _).mono ?_; rw [if_pos HI.out, if_pos HI.out]; rintro r w4 ⟨rfl, hb⟩; have HB4 := Lib.hid (HB3.out.trans (hb.mono HB3.out.size)); have HT4 := Lib.hid (HT3.out.below hb); have HP4 := Lib.hid ((HP3.out.keep hb)); have HX4 := Lib.hid ((HX3.out.keep hb)); have HU4 := Lib.hid ((HU3.out.keep hb)); have HV4 := Lib.hid ((HV3.out.keep hb)); have cp := HP4.out.one; obtain ⟨c0, c1, c2⟩ := HX4.out.three; obtain ⟨u0, u1, u2⟩ := HU4.out.three; obtain ⟨v0, v1, v2⟩ := HV4.out.three; clear hb)
    | (go_at_call 13; refine (num_any _ _).mono ?_; rintro r y ⟨rfl, rfl⟩)
    | (go_at_call 14; refine (works_any _ HT4.out).mono ?_; rintro r w9 ⟨rfl, hb⟩; have HB9 := Lib.hid (HB4.out.trans (hb.mono HB4.out.size)); clear hb))
  go_ret
  exact ⟨rfl, HB9.out⟩
set_option maxRecDepth 10000 in
set_option maxHeartbeats 4000000 in
theorem walk_xi0 (w : World) (hT : Tab w) (nn : Nat) (x : Sp) (hr : 1 ≤ nn ∧ nn ≤ 64) (e : Int) (he : e ≠ 0) (hq : secP nn x = (0, e)) (m : Nat) (hm : m < 20 + 3 * nn) (ht6 : nn < 64) :
    Calls Tryd.prog 8 #[plan nn, x.val, .int .i64 (m : Int)] w fun e w' => e = .returned (.bool true) ∧ Below w.heap.size w w' := by
  obtain ⟨k, a, t⟩ := x
  have HB0 := Lib.hid (((Below.refl w.heap.size w).alloc (Nat.le_refl _) (.cells #[.int .i64 nn] 23)).alloc (by simp) (.cells #[.int .i64 k, .int .i64 a, .int .i64 t] 37))
  have HT0 := Lib.hid ((hT.alloc (.cells #[.int .i64 nn] 23)).alloc (.cells #[.int .i64 k, .int .i64 a, .int .i64 t] 37))
  have HP0 := Lib.hid ((Blk.new w 23 #[.int .i64 nn]).alloc (.cells #[.int .i64 k, .int .i64 a, .int .i64 t] 37))
  have HX0 := Lib.hid (show Blk ((w.alloc (.cells #[.int .i64 nn] 23)).alloc (.cells #[.int .i64 k, .int .i64 a, .int .i64 t] 37)) (w.heap.size + 1) 37 #[.int .i64 k, .int .i64 a, .int .i64 t] by have := Blk.new (w.alloc (.cells #[.int .i64 nn] 23)) 37 #[.int .i64 k, .int .i64 a, .int .i64 t]; simpa using this)
  have HI := Lib.hid (show 1 ≤ (nn : Int) ∧ (nn : Int) ≤ 64 by omega)
  have HQ := Lib.hid hq
  have de : (e == 0) = false := by simpa using he
  obtain ⟨⟨pk, pa, pt⟩, hy⟩ : ∃ y, plc nn m = y := ⟨_, rfl⟩
  have HR := Lib.hid (show sptP nn m = (⟨pk, pa, pt⟩, 0) by rw [← hy]; exact sptP_in nn m hr hm)
  have HS := Lib.hid (show secP nn ⟨pk, pa, pt⟩ = ((m : Int), 0) by rw [← hy]; exact (secP_plc nn m hr hm).2)
  clear hy hm
  clear hr hq he
  have d6 : decide (64 ≤ (nn : Int)) = false := decide_eq_false (by omega)
  have HW := Lib.hid (show 1 ≤ (nn : Int) + 1 ∧ (nn : Int) + 1 ≤ 64 by have := HI.out; omega)
  have e6 : ((20 + 3 * ((nn : Int) + 1)) == (20 + 3 * (nn : Int) + 3)) = true := by simp only [beq_iff_eq]; omega
  have hnn : nn ≤ 64 := by omega
  clear ht6
  have M0 := Lib.hid True.intro
  have N0 := Lib.hid True.intro
  clear hT
  go_enter Tryd.func8, Tryd.ntmps8
  go_wp2_with (first
    | (go_at_call 16; clear N0; refine (sector_any nn ⟨k, a, t⟩ _ HT0.out).mono ?_; rw [HQ.out]; rintro r w1 ⟨rfl, hb⟩; have HB1 := Lib.hid (HB0.out.trans (hb.mono HB0.out.size)); have HT1 := Lib.hid (HT0.out.below hb); have HP1 := Lib.hid ((HP0.out.keep hb)); have HX1 := Lib.hid ((HX0.out.keep hb)); have cp := HP1.out.one; obtain ⟨c0, c1, c2⟩ := HX1.out.three; clear hb)
    | (go_at_call 18; refine (spot_any nn (m : Int) _).mono ?_; rw [HR.out]; rintro r w2 ⟨rfl, hb⟩; have HB2 := Lib.hid ((HB1.out.trans (hb.mono HB1.out.size)).alloc (Nat.le_trans HB1.out.size hb.size) (.cells #[.int .i64 pk, .int .i64 pa, .int .i64 pt] 37)); have HT2 := Lib.hid ((HT1.out.below hb).alloc (.cells #[.int .i64 pk, .int .i64 pa, .int .i64 pt] 37)); have HP2 := Lib.hid ((HP1.out.keep hb).alloc (.cells #[.int .i64 pk, .int .i64 pa, .int .i64 pt] 37)); have HX2 := Lib.hid ((HX1.out.keep hb).alloc (.cells #[.int .i64 pk, .int .i64 pa, .int .i64 pt] 37)); have HV2 := Lib.hid (Blk.new w2 37 #[.int .i64 pk, .int .i64 pa, .int .i64 pt]); have cp := HP2.out.one; obtain ⟨c0, c1, c2⟩ := HX2.out.three; obtain ⟨v0, v1, v2⟩ := HV2.out.three; clear hb)
    | (go_at_call 16; refine (sector_any nn ⟨pk, pa, pt⟩ _ HT2.out).mono ?_; rw [HS.out]; rintro r w3 ⟨rfl, hb⟩; have HB3 := Lib.hid (HB2.out.trans (hb.mono HB2.out.size)); have HT3 := Lib.hid (HT2.out.below hb); have HP3 := Lib.hid ((HP2.out.keep hb)); have HX3 := Lib.hid ((HX2.out.keep hb)); have HV3 := Lib.hid ((HV2.out.keep hb)); have cp := HP3.out.one; obtain ⟨c0, c1, c2⟩ := HX3.out.three; obtain ⟨v0, v1, v2⟩ := HV3.out.three; clear hb)
    | (go_at_call 9; clear M0; refine (size_any nn _).mono ?_; rw [if_pos HI.out, if_pos HI.out]; rintro r w4 ⟨rfl, hb⟩; have HB4 := Lib.hid (HB3.out.trans (hb.mono HB3.out.size)); have HT4 := Lib.hid (HT3.out.below hb); have HP4 := Lib.hid ((HP3.out.keep hb)); have HX4 := Lib.hid ((HX3.out.keep hb)); have HV4 := Lib.hid ((HV3.out.keep hb)); have cp := HP4.out.one; obtain ⟨c0, c1, c2⟩ := HX4.out.three; obtain ⟨v0, v1, v2⟩ := HV4.out.three; clear hb)
    | (go_at_call 9; refine (size_any ((nn : Int) + 1) _).mono ?_; rw [if_pos HW.out, if_pos HW.out]; rintro r w5 ⟨rfl, hb⟩; have HB5 := Lib.hid (HB4.out.trans (hb.mono HB4.out.size)); have HT5 := Lib.hid (HT4.out.below hb); have HP5 := Lib.hid ((HP4.out.keep hb)); have HX5 := Lib.hid ((HX4.out.keep hb)); have HV5 := Lib.hid ((HV4.out.keep hb)); have cp := HP5.out.one; obtain ⟨c0, c1, c2⟩ := HX5.out.three; obtain ⟨v0, v1, v2⟩ := HV5.out.three; clear hb)
    | (go_at_call 13; refine (num_any _ _).mono ?_; rintro r y ⟨rfl, rfl⟩)
    | (go_at_call 14; refine (works_any _ HT5.out).mono ?_; rintro r w9 ⟨rfl, hb⟩; have HB9 := Lib.hid (HB5.out.trans (hb.mono HB5.out.size)); clear hb))
  go_ret
  exact ⟨rfl, HB9.out⟩
set_option maxRecDepth 10000 in
set_option maxHeartbeats 4000000 in
theorem walk_xi1 (w : World) (hT : Tab w) (nn : Nat) (x : Sp) (hr : 1 ≤ nn ∧ nn ≤ 64) (e : Int) (he : e ≠ 0) (hq : secP nn x = (0, e)) (m : Nat) (hm : m < 20 + 3 * nn) (ht6 : 64 ≤ nn) :
    Calls Tryd.prog 8 #[plan nn, x.val, .int .i64 (m : Int)] w fun e w' => e = .returned (.bool true) ∧ Below w.heap.size w w' := by
  obtain ⟨k, a, t⟩ := x
  have HB0 := Lib.hid (((Below.refl w.heap.size w).alloc (Nat.le_refl _) (.cells #[.int .i64 nn] 23)).alloc (by simp) (.cells #[.int .i64 k, .int .i64 a, .int .i64 t] 37))
  have HT0 := Lib.hid ((hT.alloc (.cells #[.int .i64 nn] 23)).alloc (.cells #[.int .i64 k, .int .i64 a, .int .i64 t] 37))
  have HP0 := Lib.hid ((Blk.new w 23 #[.int .i64 nn]).alloc (.cells #[.int .i64 k, .int .i64 a, .int .i64 t] 37))
  have HX0 := Lib.hid (show Blk ((w.alloc (.cells #[.int .i64 nn] 23)).alloc (.cells #[.int .i64 k, .int .i64 a, .int .i64 t] 37)) (w.heap.size + 1) 37 #[.int .i64 k, .int .i64 a, .int .i64 t] by have := Blk.new (w.alloc (.cells #[.int .i64 nn] 23)) 37 #[.int .i64 k, .int .i64 a, .int .i64 t]; simpa using this)
  have HI := Lib.hid (show 1 ≤ (nn : Int) ∧ (nn : Int) ≤ 64 by omega)
  have HQ := Lib.hid hq
  have de : (e == 0) = false := by simpa using he
  obtain ⟨⟨pk, pa, pt⟩, hy⟩ : ∃ y, plc nn m = y := ⟨_, rfl⟩
  have HR := Lib.hid (show sptP nn m = (⟨pk, pa, pt⟩, 0) by rw [← hy]; exact sptP_in nn m hr hm)
  have HS := Lib.hid (show secP nn ⟨pk, pa, pt⟩ = ((m : Int), 0) by rw [← hy]; exact (secP_plc nn m hr hm).2)
  clear hy hm
  clear hr hq he
  have d6 : decide (64 ≤ (nn : Int)) = true := decide_eq_true (by omega)
  clear ht6
  have N0 := Lib.hid True.intro
  clear hT
  go_enter Tryd.func8, Tryd.ntmps8
  go_wp2_with (first
    | (go_at_call 16; clear N0; refine (sector_any nn ⟨k, a, t⟩ _ HT0.out).mono ?_; rw [HQ.out]; rintro r w1 ⟨rfl, hb⟩; have HB1 := Lib.hid (HB0.out.trans (hb.mono HB0.out.size)); have HT1 := Lib.hid (HT0.out.below hb); have HP1 := Lib.hid ((HP0.out.keep hb)); have HX1 := Lib.hid ((HX0.out.keep hb)); have cp := HP1.out.one; obtain ⟨c0, c1, c2⟩ := HX1.out.three; clear hb)
    | (go_at_call 18; refine (spot_any nn (m : Int) _).mono ?_; rw [HR.out]; rintro r w2 ⟨rfl, hb⟩; have HB2 := Lib.hid ((HB1.out.trans (hb.mono HB1.out.size)).alloc (Nat.le_trans HB1.out.size hb.size) (.cells #[.int .i64 pk, .int .i64 pa, .int .i64 pt] 37)); have HT2 := Lib.hid ((HT1.out.below hb).alloc (.cells #[.int .i64 pk, .int .i64 pa, .int .i64 pt] 37)); have HP2 := Lib.hid ((HP1.out.keep hb).alloc (.cells #[.int .i64 pk, .int .i64 pa, .int .i64 pt] 37)); have HX2 := Lib.hid ((HX1.out.keep hb).alloc (.cells #[.int .i64 pk, .int .i64 pa, .int .i64 pt] 37)); have HV2 := Lib.hid (Blk.new w2 37 #[.int .i64 pk, .int .i64 pa, .int .i64 pt]); have cp := HP2.out.one; obtain ⟨c0, c1, c2⟩ := HX2.out.three; obtain ⟨v0, v1, v2⟩ := HV2.out.three; clear hb)
    | (go_at_call 16; refine (sector_any nn ⟨pk, pa, pt⟩ _ HT2.out).mono ?_; rw [HS.out]; rintro r w3 ⟨rfl, hb⟩; have HB3 := Lib.hid (HB2.out.trans (hb.mono HB2.out.size)); have HT3 := Lib.hid (HT2.out.below hb); have HP3 := Lib.hid ((HP2.out.keep hb)); have HX3 := Lib.hid ((HX2.out.keep hb)); have HV3 := Lib.hid ((HV2.out.keep hb)); have cp := HP3.out.one; obtain ⟨c0, c1, c2⟩ := HX3.out.three; obtain ⟨v0, v1, v2⟩ := HV3.out.three; clear hb)
    | (go_at_call 9; refine (size_any nn _).mono ?_; rw [if_pos HI.out, if_pos HI.out]; rintro r w4 ⟨rfl, hb⟩; have HB4 := Lib.hid (HB3.out.trans (hb.mono HB3.out.size)); have HT4 := Lib.hid (HT3.out.below hb); have HP4 := Lib.hid ((HP3.out.keep hb)); have HX4 := Lib.hid ((HX3.out.keep hb)); have HV4 := Lib.hid ((HV3.out.keep hb)); have cp := HP4.out.one; obtain ⟨c0, c1, c2⟩ := HX4.out.three; obtain ⟨v0, v1, v2⟩ := HV4.out.three; clear hb)
    | (go_at_call 13; refine (num_any _ _).mono ?_; rintro r y ⟨rfl, rfl⟩)
    | (go_at_call 14; refine (works_any _ HT4.out).mono ?_; rintro r w9 ⟨rfl, hb⟩; have HB9 := Lib.hid (HB4.out.trans (hb.mono HB4.out.size)); clear hb))
  go_ret
  exact ⟨rfl, HB9.out⟩
set_option maxRecDepth 10000 in
set_option maxHeartbeats 4000000 in
theorem walk_ii0 (w : World) (hT : Tab w) (nn : Nat) (x : Sp) (hr : 1 ≤ nn ∧ nn ≤ 64) (j : Nat) (hq : secP nn x = ((j : Int), 0)) (hj : sptP nn j = (x, 0)) (m : Nat) (hm : m < 20 + 3 * nn) (ht6 : nn < 64) :
    Calls Tryd.prog 8 #[plan nn, x.val, .int .i64 (m : Int)] w fun e w' => e = .returned (.bool true) ∧ Below w.heap.size w w' := by
  obtain ⟨k, a, t⟩ := x
  have HB0 := Lib.hid (((Below.refl w.heap.size w).alloc (Nat.le_refl _) (.cells #[.int .i64 nn] 23)).alloc (by simp) (.cells #[.int .i64 k, .int .i64 a, .int .i64 t] 37))
  have HT0 := Lib.hid ((hT.alloc (.cells #[.int .i64 nn] 23)).alloc (.cells #[.int .i64 k, .int .i64 a, .int .i64 t] 37))
  have HP0 := Lib.hid ((Blk.new w 23 #[.int .i64 nn]).alloc (.cells #[.int .i64 k, .int .i64 a, .int .i64 t] 37))
  have HX0 := Lib.hid (show Blk ((w.alloc (.cells #[.int .i64 nn] 23)).alloc (.cells #[.int .i64 k, .int .i64 a, .int .i64 t] 37)) (w.heap.size + 1) 37 #[.int .i64 k, .int .i64 a, .int .i64 t] by have := Blk.new (w.alloc (.cells #[.int .i64 nn] 23)) 37 #[.int .i64 k, .int .i64 a, .int .i64 t]; simpa using this)
  have HI := Lib.hid (show 1 ≤ (nn : Int) ∧ (nn : Int) ≤ 64 by omega)
  have HQ := Lib.hid hq
  have HJ := Lib.hid hj
  clear hj
  obtain ⟨⟨pk, pa, pt⟩, hy⟩ : ∃ y, plc nn m = y := ⟨_, rfl⟩
  have HR := Lib.hid (show sptP nn m = (⟨pk, pa, pt⟩, 0) by rw [← hy]; exact sptP_in nn m hr hm)
  have HS := Lib.hid (show secP nn ⟨pk, pa, pt⟩ = ((m : Int), 0) by rw [← hy]; exact (secP_plc nn m hr hm).2)
  clear hy hm
  clear hr hq
  have d6 : decide (64 ≤ (nn : Int)) = false := decide_eq_false (by omega)
  have HW := Lib.hid (show 1 ≤ (nn : Int) + 1 ∧ (nn : Int) + 1 ≤ 64 by have := HI.out; omega)
  have e6 : ((20 + 3 * ((nn : Int) + 1)) == (20 + 3 * (nn : Int) + 3)) = true := by simp only [beq_iff_eq]; omega
  have hnn : nn ≤ 64 := by omega
  clear ht6
  have M0 := Lib.hid True.intro
  have N0 := Lib.hid True.intro
  have N1 := Lib.hid True.intro
  clear hT
  go_enter Tryd.func8, Tryd.ntmps8
  go_wp2_with (first
    | (go_at_call 16; clear N0; refine (sector_any nn ⟨k, a, t⟩ _ HT0.out).mono ?_; rw [HQ.out]; rintro r w1 ⟨rfl, hb⟩; have HB1 := Lib.hid (HB0.out.trans (hb.mono HB0.out.size)); have HT1 := Lib.hid (HT0.out.below hb); have HP1 := Lib.hid ((HP0.out.keep hb)); have HX1 := Lib.hid ((HX0.out.keep hb)); have cp := HP1.out.one; obtain ⟨c0, c1, c2⟩ := HX1.out.three; clear hb)
    | (go_at_call 18; clear N1; refine (spot_any nn (j : Int) _).mono ?_; rw [HJ.out]; rintro r w2 ⟨rfl, hb⟩; have HB2 := Lib.hid ((HB1.out.trans (hb.mono HB1.out.size)).alloc (Nat.le_trans HB1.out.size hb.size) (.cells #[.int .i64 k, .int .i64 a, .int .i64 t] 37)); have HT2 := Lib.hid ((HT1.out.below hb).alloc (.cells #[.int .i64 k, .int .i64 a, .int .i64 t] 37)); have HP2 := Lib.hid ((HP1.out.keep hb).alloc (.cells #[.int .i64 k, .int .i64 a, .int .i64 t] 37)); have HX2 := Lib.hid ((HX1.out.keep hb).alloc (.cells #[.int .i64 k, .int .i64 a, .int .i64 t] 37)); have HU2 := Lib.hid (Blk.new w2 37 #[.int .i64 k, .int .i64 a, .int .i64 t]); have cp := HP2.out.one; obtain ⟨c0, c1, c2⟩ := HX2.out.three; obtain ⟨u0, u1, u2⟩ := HU2.out.three; clear hb)
    | (go_at_call 18; refine (spot_any nn (m : Int) _).mono ?_; rw [HR.out]; rintro r w3 ⟨rfl, hb⟩; have HB3 := Lib.hid ((HB2.out.trans (hb.mono HB2.out.size)).alloc (Nat.le_trans HB2.out.size hb.size) (.cells #[.int .i64 pk, .int .i64 pa, .int .i64 pt] 37)); have HT3 := Lib.hid ((HT2.out.below hb).alloc (.cells #[.int .i64 pk, .int .i64 pa, .int .i64 pt] 37)); have HP3 := Lib.hid ((HP2.out.keep hb).alloc (.cells #[.int .i64 pk, .int .i64 pa, .int .i64 pt] 37)); have HX3 := Lib.hid ((HX2.out.keep hb).alloc (.cells #[.int .i64 pk, .int .i64 pa, .int .i64 pt] 37)); have HU3 := Lib.hid ((HU2.out.keep hb).alloc (.cells #[.int .i64 pk, .int .i64 pa, .int .i64 pt] 37)); have HV3 := Lib.hid (Blk.new w3 37 #[.int .i64 pk, .int .i64 pa, .int .i64 pt]); have cp := HP3.out.one; obtain ⟨c0, c1, c2⟩ := HX3.out.three; obtain ⟨u0, u1, u2⟩ := HU3.out.three; obtain ⟨v0, v1, v2⟩ := HV3.out.three; clear hb)
    | (go_at_call 16; refine (sector_any nn ⟨pk, pa, pt⟩ _ HT3.out).mono ?_; rw [HS.out]; rintro r w4 ⟨rfl, hb⟩; have HB4 := Lib.hid (HB3.out.trans (hb.mono HB3.out.size)); have HT4 := Lib.hid (HT3.out.below hb); have HP4 := Lib.hid ((HP3.out.keep hb)); have HX4 := Lib.hid ((HX3.out.keep hb)); have HU4 := Lib.hid ((HU3.out.keep hb)); have HV4 := Lib.hid ((HV3.out.keep hb)); have cp := HP4.out.one; obtain ⟨c0, c1, c2⟩ := HX4.out.three; obtain ⟨u0, u1, u2⟩ := HU4.out.three; obtain ⟨v0, v1, v2⟩ := HV4.out.three; clear hb)
    | (go_at_call 9; clear M0; refine (size_any nn _).mono ?_; rw [if_pos HI.out, if_pos HI.out]; rintro r w5 ⟨rfl, hb⟩; have HB5 := Lib.hid (HB4.out.trans (hb.mono HB4.out.size)); have HT5 := Lib.hid (HT4.out.below hb); have HP5 := Lib.hid ((HP4.out.keep hb)); have HX5 := Lib.hid ((HX4.out.keep hb)); have HU5 := Lib.hid ((HU4.out.keep hb)); have HV5 := Lib.hid ((HV4.out.keep hb)); have cp := HP5.out.one; obtain ⟨c0, c1, c2⟩ := HX5.out.three; obtain ⟨u0, u1, u2⟩ := HU5.out.three; obtain ⟨v0, v1, v2⟩ := HV5.out.three; clear hb)
    | (go_at_call 9; refine (size_any ((nn : Int) + 1) _).mono ?_; rw [if_pos HW.out, if_pos HW.out]; rintro r w6 ⟨rfl, hb⟩; have HB6 := Lib.hid (HB5.out.trans (hb.mono HB5.out.size)); have HT6 := Lib.hid (HT5.out.below hb); have HP6 := Lib.hid ((HP5.out.keep hb)); have HX6 := Lib.hid ((HX5.out.keep hb)); have HU6 := Lib.hid ((HU5.out.keep hb)); have HV6 := Lib.hid ((HV5.out.keep hb)); have cp := HP6.out.one; obtain ⟨c0, c1, c2⟩ := HX6.out.three; obtain ⟨u0, u1, u2⟩ := HU6.out.three; obtain ⟨v0, v1, v2⟩ := HV6.out.three; clear hb)
    | (go_at_call 13; refine (num_any _ _).mono ?_; rintro r y ⟨rfl, rfl⟩)
    | (go_at_call 14; refine (works_any _ HT6.out).mono ?_; rintro r w9 ⟨rfl, hb⟩; have HB9 := Lib.hid (HB6.out.trans (hb.mono HB6.out.size)); clear hb))
  go_ret
  exact ⟨rfl, HB9.out⟩
set_option maxRecDepth 10000 in
set_option maxHeartbeats 4000000 in
theorem walk_ii1 (w : World) (hT : Tab w) (nn : Nat) (x : Sp) (hr : 1 ≤ nn ∧ nn ≤ 64) (j : Nat) (hq : secP nn x = ((j : Int), 0)) (hj : sptP nn j = (x, 0)) (m : Nat) (hm : m < 20 + 3 * nn) (ht6 : 64 ≤ nn) :
    Calls Tryd.prog 8 #[plan nn, x.val, .int .i64 (m : Int)] w fun e w' => e = .returned (.bool true) ∧ Below w.heap.size w w' := by
  obtain ⟨k, a, t⟩ := x
  have HB0 := Lib.hid (((Below.refl w.heap.size w).alloc (Nat.le_refl _) (.cells #[.int .i64 nn] 23)).alloc (by simp) (.cells #[.int .i64 k, .int .i64 a, .int .i64 t] 37))
  have HT0 := Lib.hid ((hT.alloc (.cells #[.int .i64 nn] 23)).alloc (.cells #[.int .i64 k, .int .i64 a, .int .i64 t] 37))
  have HP0 := Lib.hid ((Blk.new w 23 #[.int .i64 nn]).alloc (.cells #[.int .i64 k, .int .i64 a, .int .i64 t] 37))
  have HX0 := Lib.hid (show Blk ((w.alloc (.cells #[.int .i64 nn] 23)).alloc (.cells #[.int .i64 k, .int .i64 a, .int .i64 t] 37)) (w.heap.size + 1) 37 #[.int .i64 k, .int .i64 a, .int .i64 t] by have := Blk.new (w.alloc (.cells #[.int .i64 nn] 23)) 37 #[.int .i64 k, .int .i64 a, .int .i64 t]; simpa using this)
  have HI := Lib.hid (show 1 ≤ (nn : Int) ∧ (nn : Int) ≤ 64 by omega)
  have HQ := Lib.hid hq
  have HJ := Lib.hid hj
  clear hj
  obtain ⟨⟨pk, pa, pt⟩, hy⟩ : ∃ y, plc nn m = y := ⟨_, rfl⟩
  have HR := Lib.hid (show sptP nn m = (⟨pk, pa, pt⟩, 0) by rw [← hy]; exact sptP_in nn m hr hm)
  have HS := Lib.hid (show secP nn ⟨pk, pa, pt⟩ = ((m : Int), 0) by rw [← hy]; exact (secP_plc nn m hr hm).2)
  clear hy hm
  clear hr hq
  have d6 : decide (64 ≤ (nn : Int)) = true := decide_eq_true (by omega)
  clear ht6
  have N0 := Lib.hid True.intro
  have N1 := Lib.hid True.intro
  clear hT
  go_enter Tryd.func8, Tryd.ntmps8
  go_wp2_with (first
    | (go_at_call 16; clear N0; refine (sector_any nn ⟨k, a, t⟩ _ HT0.out).mono ?_; rw [HQ.out]; rintro r w1 ⟨rfl, hb⟩; have HB1 := Lib.hid (HB0.out.trans (hb.mono HB0.out.size)); have HT1 := Lib.hid (HT0.out.below hb); have HP1 := Lib.hid ((HP0.out.keep hb)); have HX1 := Lib.hid ((HX0.out.keep hb)); have cp := HP1.out.one; obtain ⟨c0, c1, c2⟩ := HX1.out.three; clear hb)
    | (go_at_call 18; clear N1; refine (spot_any nn (j : Int) _).mono ?_; rw [HJ.out]; rintro r w2 ⟨rfl, hb⟩; have HB2 := Lib.hid ((HB1.out.trans (hb.mono HB1.out.size)).alloc (Nat.le_trans HB1.out.size hb.size) (.cells #[.int .i64 k, .int .i64 a, .int .i64 t] 37)); have HT2 := Lib.hid ((HT1.out.below hb).alloc (.cells #[.int .i64 k, .int .i64 a, .int .i64 t] 37)); have HP2 := Lib.hid ((HP1.out.keep hb).alloc (.cells #[.int .i64 k, .int .i64 a, .int .i64 t] 37)); have HX2 := Lib.hid ((HX1.out.keep hb).alloc (.cells #[.int .i64 k, .int .i64 a, .int .i64 t] 37)); have HU2 := Lib.hid (Blk.new w2 37 #[.int .i64 k, .int .i64 a, .int .i64 t]); have cp := HP2.out.one; obtain ⟨c0, c1, c2⟩ := HX2.out.three; obtain ⟨u0, u1, u2⟩ := HU2.out.three; clear hb)
    | (go_at_call 18; refine (spot_any nn (m : Int) _).mono ?_; rw [HR.out]; rintro r w3 ⟨rfl, hb⟩; have HB3 := Lib.hid ((HB2.out.trans (hb.mono HB2.out.size)).alloc (Nat.le_trans HB2.out.size hb.size) (.cells #[.int .i64 pk, .int .i64 pa, .int .i64 pt] 37)); have HT3 := Lib.hid ((HT2.out.below hb).alloc (.cells #[.int .i64 pk, .int .i64 pa, .int .i64 pt] 37)); have HP3 := Lib.hid ((HP2.out.keep hb).alloc (.cells #[.int .i64 pk, .int .i64 pa, .int .i64 pt] 37)); have HX3 := Lib.hid ((HX2.out.keep hb).alloc (.cells #[.int .i64 pk, .int .i64 pa, .int .i64 pt] 37)); have HU3 := Lib.hid ((HU2.out.keep hb).alloc (.cells #[.int .i64 pk, .int .i64 pa, .int .i64 pt] 37)); have HV3 := Lib.hid (Blk.new w3 37 #[.int .i64 pk, .int .i64 pa, .int .i64 pt]); have cp := HP3.out.one; obtain ⟨c0, c1, c2⟩ := HX3.out.three; obtain ⟨u0, u1, u2⟩ := HU3.out.three; obtain ⟨v0, v1, v2⟩ := HV3.out.three; clear hb)
    | (go_at_call 16; refine (sector_any nn ⟨pk, pa, pt⟩ _ HT3.out).mono ?_; rw [HS.out]; rintro r w4 ⟨rfl, hb⟩; have HB4 := Lib.hid (HB3.out.trans (hb.mono HB3.out.size)); have HT4 := Lib.hid (HT3.out.below hb); have HP4 := Lib.hid ((HP3.out.keep hb)); have HX4 := Lib.hid ((HX3.out.keep hb)); have HU4 := Lib.hid ((HU3.out.keep hb)); have HV4 := Lib.hid ((HV3.out.keep hb)); have cp := HP4.out.one; obtain ⟨c0, c1, c2⟩ := HX4.out.three; obtain ⟨u0, u1, u2⟩ := HU4.out.three; obtain ⟨v0, v1, v2⟩ := HV4.out.three; clear hb)
    | (go_at_call 9; refine (size_any nn _).mono ?_; rw [if_pos HI.out, if_pos HI.out]; rintro r w5 ⟨rfl, hb⟩; have HB5 := Lib.hid (HB4.out.trans (hb.mono HB4.out.size)); have HT5 := Lib.hid (HT4.out.below hb); have HP5 := Lib.hid ((HP4.out.keep hb)); have HX5 := Lib.hid ((HX4.out.keep hb)); have HU5 := Lib.hid ((HU4.out.keep hb)); have HV5 := Lib.hid ((HV4.out.keep hb)); have cp := HP5.out.one; obtain ⟨c0, c1, c2⟩ := HX5.out.three; obtain ⟨u0, u1, u2⟩ := HU5.out.three; obtain ⟨v0, v1, v2⟩ := HV5.out.three; clear hb)
    | (go_at_call 13; refine (num_any _ _).mono ?_; rintro r y ⟨rfl, rfl⟩)
    | (go_at_call 14; refine (works_any _ HT5.out).mono ?_; rintro r w9 ⟨rfl, hb⟩; have HB9 := Lib.hid (HB5.out.trans (hb.mono HB5.out.size)); clear hb))
  go_ret
  exact ⟨rfl, HB9.out⟩
set_option maxRecDepth 8000 in
theorem walk (w : World) (hL : laidMetH Tryd.prog laidK w) (n : Int) (x : Sp) (s : Int) : Calls Tryd.prog 8 #[plan n, x.val, .int .i64 s] w fun e w' => e = .returned (.bool true) ∧ Below w.heap.size w w' := by
  have hT := tab_of hL
  by_cases hr : 1 ≤ n ∧ n ≤ 64
  · obtain ⟨nn, rfl⟩ := Int.eq_ofNat_of_zero_le (show 0 ≤ n by omega)
    have hn : 1 ≤ nn ∧ nn ≤ 64 := by omega
    have h1 : (∃ j : Nat, secP nn x = ((j : Int), 0) ∧ sptP nn j = (x, 0)) ∨ ∃ e : Int, e ≠ 0 ∧ secP nn x = (0, e) := by
      by_cases hm : mayP x
      · rcases secP_has nn hn x hm with ⟨i, hi, hp, he⟩ | h
        · exact .inl ⟨i, he, by rw [sptP_in nn i hn hi, hp]⟩
        · exact .inr ⟨4, by decide, h⟩
      · exact .inr ⟨2, by decide, secP_no fun h => hm h.2⟩
    by_cases hs : 0 ≤ s ∧ s < 20 + 3 * (nn : Int)
    · obtain ⟨m, rfl⟩ := Int.eq_ofNat_of_zero_le hs.1
      have hm : m < 20 + 3 * nn := by omega
      by_cases h6 : 64 ≤ nn
      · rcases h1 with ⟨j, h1, h2⟩ | ⟨e, h1, h2⟩
        · exact walk_ii1 w hT nn x hn j h1 h2 m hm h6
        · exact walk_xi1 w hT nn x hn e h1 h2 m hm h6
      · rcases h1 with ⟨j, h1, h2⟩ | ⟨e, h1, h2⟩
        · exact walk_ii0 w hT nn x hn j h1 h2 m hm (by omega)
        · exact walk_xi0 w hT nn x hn e h1 h2 m hm (by omega)
    · have h3 := sptP_out nn s hn (by omega)
      by_cases h6 : 64 ≤ nn
      · rcases h1 with ⟨j, h1, h2⟩ | ⟨e, h1, h2⟩
        · exact walk_ix1 w hT nn x hn j h1 h2 s h3 h6
        · exact walk_xx1 w hT nn x hn e h1 h2 s h3 h6
      · rcases h1 with ⟨j, h1, h2⟩ | ⟨e, h1, h2⟩
        · exact walk_ix0 w hT nn x hn j h1 h2 s h3 (by omega)
        · exact walk_xx0 w hT nn x hn e h1 h2 s h3 (by omega)
  · exact walk_no w hT n s x hr
set_option maxRecDepth 100000 in
theorem lifted (os : Os) (started : os.Started) (H : Type) (enc : TypeId × Value → H) :
    ReturnsInHanded {} Tryd.checked os 8 .any (fun w args => (Rows.volumeBackSpec.pre enc Tryd.prog Tryd.f8 [] false w args ∧ laidMetH Tryd.prog laidK w) ∧ sizedMet enc Tryd.prog Tryd.f8 (OpenSpec.ofChange Rows.volumeBackSpec) false w args) (Rows.volumeBackSpec.post enc Tryd.prog Tryd.f8 false true false false) := by
  refine returnsInHanded_of_change_and (C := Tryd.checked) (X := fun w _ => laidMetH Tryd.prog laidK w) (fun _ _ _ hh h => h.of_heap hh) own started (by kernel_rfl) Tryd.func8
    (ChangeSpec.witness_shaped (enc := enc) (C := Tryd.checked) (os := os) (X := fun w _ => laidMetH Tryd.prog laidK w) false (World.doorLaid Tryd.prog 40 os) #[.agg #[.int .i64 0], .agg #[.int .i64 0, .int .i64 0, .int .i64 0], .int .i64 0] 8 rfl (World.shaped_of_RefB (by kernel_rfl) (by kernel_rfl)) (by kernel_rfl) (by kernel_rfl) (by kernel_rfl) (door_met os _)) ?_
  intro W base args ds gs before hval0 hW _ _ hL _
  have hval : ∀ (j : Nat) t v, Tryd.f8.params[j]? = some t → args[j]? = some v → Value.okWide Tryd.prog W .any base t v := hval0
  have hW' := hW
  obtain ⟨p, q, hA0, hV, rfl, hfz, hnd⟩ := hW
  have hA : DataW.TrodAll enc Tryd.prog W 0 (fun _ => true) true Tryd.f8.params.toList args.toList ds p := hA0
  rw [Tryd.params8] at hA hval
  obtain ⟨v0, vs0, d0, ds0, p0, q0, hargs, rfl, rfl, h0, t0⟩ := trodAll_cons hA
  obtain ⟨v1, vs1, d1, ds1, p1, q1, rfl, rfl, rfl, h1, t1⟩ := trodAll_cons t0
  obtain ⟨v2, vs2, d2, ds2, p2, q2, rfl, rfl, rfl, h2, t2⟩ := trodAll_cons t1
  obtain ⟨rfl, rfl, rfl⟩ := trodAll_nil t2
  obtain rfl : args = #[v0, v1, v2] := by cases args; simp_all
  obtain ⟨rfl, rfl⟩ := trodVars_none hV
  have k0 := h0
  have lt0 : ∀ x ∈ p0, x.block < W.heap.size := by obtain ⟨m, hm⟩ := k0; exact DataW.trod_lt m _ _ _ hm
  obtain ⟨n0, rfl, hn0⟩ := open_plan (hval 0 23 v0 rfl rfl) h0
  have k1 := h1
  have lt1 : ∀ x ∈ p1, x.block < W.heap.size := by obtain ⟨m, hm⟩ := k1; exact DataW.trod_lt m _ _ _ hm
  obtain ⟨x1, rfl⟩ := open_spot (hval 1 37 v1 rfl rfl) h1
  have k2 := h2
  have lt2 : ∀ x ∈ p2, x.block < W.heap.size := by obtain ⟨m, hm⟩ := k2; exact DataW.trod_lt m _ _ _ hm
  obtain ⟨a2, rfl, rfl, rfl, _⟩ := open_int Tryd.underlying3 (hval 2 3 v2 rfl rfl) h2
  clear hA0 hval0
  refine (walk W hL n0 x1 a2).mono fun e W' ⟨he, bel⟩ => ?_
  subst he
  exact ⟨_, rfl, _, _, _, [], _, [], hW', trodAll_mk1 (shut_bool Tryd.underlying4 _), (trodAll_cons_mk (Below.trod laidOut (by kernel_rfl) (of_decide_eq_true (by kernel_rfl)) k0 bel lt0) (trodAll_cons_mk (Below.trod laidOut (by kernel_rfl) (of_decide_eq_true (by kernel_rfl)) k1 bel lt1) (trodAll_cons_mk (Below.trod laidOut (by kernel_rfl) (of_decide_eq_true (by kernel_rfl)) k2 bel lt2) trodAll_mk0))), rfl, bel.frame _, fun h => by cases h⟩
theorem over : Rows.volumeBackRow.holds Tryd.pinned (OpenSpec.ofChange Rows.volumeBackSpec) :=
  OpenClaim.holds_of_wide 8 Tryd.f8 rfl rfl rfl rfl rfl rfl rfl ⟨rfl, rfl, rfl, rfl, rfl⟩ rfl rfl rfl rfl rfl (by kernel_rfl) Tryd.func8 (by kernel_rfl)
    (of_decide_eq_true (by kernel_rfl)) (by unfold Func.isWrapper; first | (rw [if_pos (by decide +kernel)]; kernel_rfl) | (rw [if_neg (by decide +kernel)]; exact ⟨rfl, rfl⟩))
    (fun os started H enc _ => lifted os started H enc)
set_option maxRecDepth 8000 in
theorem proved : Rows.VolumeBackCardSaid :=
  Claim7.holds_tied_plain_at .later [] [.data] true Rows.volumeBackCard.stood.harness false
    over (fun _ h => by cases h) (by kernel_rfl) (fun _ h => by cases h) volumeBack_row_tie rfl ⟨rfl, rfl⟩ (by kernel_rfl) rfl
    (fun f fn hf hfn => by
      obtain rfl : f = 8 := Option.some.inj ((show Tryd.prog.funcNamed "chatelaine/chatelainelaw06.VolumeBack" = some 8 by kernel_rfl).symm.trans hf) |>.symm
      obtain rfl : fn = Tryd.f8 := (Option.some.inj (Tryd.func8.symm.trans hfn)).symm
      exact ⟨by kernel_rfl, fun j t ht => by
        rw [Tryd.params8] at ht
        have hm : t ∈ [23, 37, 3] := by simpa using Array.mem_of_getElem? ht
        have hall : ([23, 37, 3].all fun u => !Tryd.prog.wantsStandIn u) = true := by kernel_rfl
        exact (show Tryd.prog.wantsStandIn t = false by simpa using List.all_eq_true.1 hall t hm)⟩)
    (by kernel_rfl)

/- volume: the law's rows. -/
import Derived.Test.YtpihllgdgolgpaaDoorVRef
import Derived.Test.YtpihllgdgolgpaaDoorVSec
import Derived.Test.YtpihllgdgolgpaaDoorVRsec
namespace Go.Proofs.YtpihllgdgolgpaaDoor
open Go.RowKit
attribute [local go_sem] Oper.semAt_some
theorem size_1 (w : World) : Calls Tryd.prog 11 #[plan 1] w fun r w' => r = .returned (.tuple #[.int .i64 23, .int .i64 0]) ∧ Below w.heap.size w w' := size_any 1 w
set_option maxRecDepth 8000 in
theorem fits_23 (w : World) : Calls Tryd.prog 12 #[.int .i64 23] w fun r w' => r = .returned (.tuple #[plan 1, .bool true]) ∧ Below w.heap.size w w' := by
  have h := fits_any 23 w
  rw [(fit_yes (s := 23) (n := 1) (by omega) (by omega)).1, (fit_yes (s := 23) (n := 1) (by omega) (by omega)).2] at h
  exact h
set_option maxRecDepth 8000 in
theorem sector_2 (w : World) (hT : Tab w) : Calls Tryd.prog 13 #[plan 2, .agg #[.int .i64 5, .int .i64 0, .int .i64 1]] w fun r w' => r = .returned (.tuple #[.int .i64 25, .int .i64 0]) ∧ Below w.heap.size w w' := by
  have h := sector_any 2 ⟨5, 0, 1⟩ w hT
  have e : secP 2 ⟨5, 0, 1⟩ = (25, 0) := (secP_plc 2 25 (by omega) (by omega)).2
  rw [e] at h
  exact h
set_option maxRecDepth 8000 in
theorem spot_25 (w : World) : Calls Tryd.prog 14 #[plan 2, .int .i64 25] w fun r w' => r = .returned (.tuple #[.agg #[.int .i64 5, .int .i64 0, .int .i64 1], .int .i64 0]) ∧ Below w.heap.size w w' := by
  have h := spot_any 2 25 w
  have e : sptP 2 25 = (⟨5, 0, 1⟩, 0) := sptP_in 2 25 (by omega) (by omega)
  rw [e] at h
  exact h
set_option maxRecDepth 8000 in
theorem spot_26 (w : World) : Calls Tryd.prog 14 #[plan 2, .int .i64 26] w fun r w' => r = .returned (.tuple #[.agg #[.int .i64 0, .int .i64 0, .int .i64 0], .int .i64 4]) ∧ Below w.heap.size w w' := by
  have h := spot_any 2 26 w
  have e : sptP 2 26 = (⟨0, 0, 0⟩, 4) := sptP_out 2 26 (by omega) (by omega)
  rw [e] at h
  exact h
set_option maxRecDepth 8000 in
set_option maxHeartbeats 2000000 in
theorem works_any (w : World) (hT : Tab w) : Calls Tryd.prog 6 #[] w fun e w' => e = .returned (.bool true) ∧ Below w.heap.size w w' := by
  have HT := Lib.hid hT
  clear hT
  go_enter Tryd.func6, Tryd.ntmps6
  go_wp2_with (first
    | (go_at_call 15; refine (num_any _ _).mono ?_; rintro r y ⟨rfl, rfl⟩)
    | (go_at_call 11; refine (size_1 _).mono ?_; rintro r w1 ⟨rfl, hb⟩; have HB1 := Lib.hid hb; have HT1 := Lib.hid (HT.out.below hb); clear hb)
    | (go_at_call 12; refine (fits_23 _).mono ?_; rintro r w2 ⟨rfl, hb⟩; have HB2 := Lib.hid ((HB1.out.trans (hb.mono HB1.out.size)).alloc (Nat.le_trans HB1.out.size hb.size) (.cells #[.int .i64 1] 23)); have HT2 := Lib.hid ((HT1.out.below hb).alloc (.cells #[.int .i64 1] 23)); have HP2 := Lib.hid (Blk.new w2 23 #[.int .i64 1]); clear hb)
    | (go_at_call 13; refine (sector_2 _ HT2.out).mono ?_; rintro r w3 ⟨rfl, hb⟩; have HB3 := Lib.hid (HB2.out.trans (hb.mono HB2.out.size)); have HP3 := Lib.hid (HP2.out.keep hb); clear hb)
    | (go_at_call 14; first
      | ((with_reducible refine (spot_25 _).mono ?_); rintro r w4 ⟨rfl, hb⟩; have HB4 := Lib.hid ((HB3.out.trans (hb.mono HB3.out.size)).alloc (Nat.le_trans HB3.out.size hb.size) (.cells #[.int .i64 5, .int .i64 0, .int .i64 1] 30)); have HP4 := Lib.hid ((HP3.out.keep hb).alloc (.cells #[.int .i64 5, .int .i64 0, .int .i64 1] 30)); have HX4 := Lib.hid (Blk.new w4 30 #[.int .i64 5, .int .i64 0, .int .i64 1]); clear hb)
      | ((with_reducible refine (spot_26 _).mono ?_); rintro r w5 ⟨rfl, hb⟩; have HB5 := Lib.hid ((HB4.out.trans (hb.mono HB4.out.size)).alloc (Nat.le_trans HB4.out.size hb.size) (.cells #[.int .i64 0, .int .i64 0, .int .i64 0] 30)); have c0 := ((HP4.out.keep hb).alloc (.cells #[.int .i64 0, .int .i64 0, .int .i64 0] 30)).one; obtain ⟨d0, d1, d2⟩ := ((HX4.out.keep hb).alloc (.cells #[.int .i64 0, .int .i64 0, .int .i64 0] 30)).three; clear hb)))
  go_ret
  exact ⟨rfl, HB5.out⟩
end Go.Proofs.YtpihllgdgolgpaaDoor

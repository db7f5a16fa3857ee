/- law 3: known. -/
import Derived.Test.YtmpibbgciajnkaaDoorKRin
namespace Go.Proofs.YtmpibbgciajnkaaDoor
open Go.RowKit
theorem k0_ok : OkK 2 5 1 0 0 0 := ⟨2, rfl, by decide, by decide, by decide, by decide, by decide, by decide, by decide, by decide, by decide, .inl rfl⟩
theorem w0_ok : OkK 2 5 1 0 3 0 := ⟨2, rfl, by decide, by decide, by decide, by decide, by decide, by decide, by decide, by decide, by decide, .inl rfl⟩
theorem n99 : ¬ OkK 99 0 0 0 0 0 := fun h => by have := okK_in h; omega
theorem known_weak (w : World) (hT : Tab w) : Calls Tryd.prog 21 #[.agg (kc 2 5 1 0 0 0)] w fun e w' => e = .returned (.tuple #[.agg (kc 2 5 1 0 3 0), .int .i64 0]) ∧ Below w.heap.size w w' := weaken_ok ⟨2, 5, 1, 0, 0, 0⟩ w hT k0_ok
theorem known_in (w : World) (hT : Tab w) : Calls Tryd.prog 25 #[.agg (kc 2 5 1 0 3 0), .agg (kc 2 5 1 0 0 0)] w fun e w' => e = .returned (.bool true) ∧ Below w.heap.size w w' := by
  have := within_any ⟨2, 5, 1, 0, 3, 0⟩ ⟨2, 5, 1, 0, 0, 0⟩ w hT
  rw [Ky.inB_yes (a := ⟨2, 5, 1, 0, 3, 0⟩) (b := ⟨2, 5, 1, 0, 0, 0⟩) ⟨w0_ok, k0_ok, .inr rfl⟩] at this
  exact this
theorem known_out (w : World) (hT : Tab w) : Calls Tryd.prog 25 #[.agg (kc 2 5 1 0 0 0), .agg (kc 2 5 1 0 3 0)] w fun e w' => e = .returned (.bool false) ∧ Below w.heap.size w w' := by
  have := within_any ⟨2, 5, 1, 0, 0, 0⟩ ⟨2, 5, 1, 0, 3, 0⟩ w hT
  rw [Ky.inB_no (fun h => by
    rcases h.2.2 with h | h
    · exact absurd (show (2 : Int) = 0 from h) (by decide)
    · exact absurd (show (0 : Int) = 3 from congrArg Ky.r h) (by decide))] at this
  exact this
set_option maxHeartbeats 2000000 in
theorem known_any (w : World) (hT : Tab w) : Calls Tryd.prog 18 #[] w fun e w' => e = .returned (.bool true) ∧ Below w.heap.size w w' := by
  have HT := Lib.hid hT
  clear hT
  go_enter Tryd.func18, Tryd.ntmps18
  go_wp2_with (first
    | (go_at_call 21; refine (known_weak _ (HT.out.alloc _)).mono ?_; rintro e w1 ⟨rfl, b1⟩; obtain ⟨B1, b2⟩ := box1 b1; have HB1 := Lib.hid (b2.alloc b2.size (.cells (kc 2 5 1 0 3 0) 25)); have HT1 := Lib.hid ((HT.out.below b2).alloc (.cells (kc 2 5 1 0 3 0) 25)); have G1 := Lib.hid (B1.alloc (.cells (kc 2 5 1 0 3 0) 25)); have G2 := Lib.hid (Blk.new w1 25 (kc 2 5 1 0 3 0)); have hz := B1.lt; obtain ⟨c0, c1, c2, c3, c4, c5⟩ := B1.six; clear b1 b2 B1)
    | (go_at_call 12; refine (kn_some 2 5 1 0 0 0 _ HT1.out k0_ok (by decide)).mono ?_; rintro e w2 ⟨rfl, b2⟩; have HB2 := Lib.hid (HB1.out.trans (b2.mono HB1.out.size)); have HT2 := Lib.hid (HT1.out.below b2); have P1 := Lib.hid (G1.out.keep b2); have P2 := Lib.hid (G2.out.keep b2); clear b2 c0 c1 c2 c3 c4 c5 hz; obtain ⟨c0, c1, c2, c3, c4, c5⟩ := P1.out.six; obtain ⟨d0, d1, d2, d3, d4, d5⟩ := P2.out.six)
    | (go_at_call 14; refine (chk_no 99 0 0 0 0 0 _ HT2.out n99).mono ?_; rintro e w3 ⟨rfl, b3⟩; have HB3 := Lib.hid (HB2.out.trans (b3.mono HB2.out.size)); have HT3 := Lib.hid (HT2.out.below b3); have Q1 := Lib.hid (P1.out.keep b3); have Q2 := Lib.hid (P2.out.keep b3); clear b3 c0 c1 c2 c3 c4 c5 d0 d1 d2 d3 d4 d5; obtain ⟨c0, c1, c2, c3, c4, c5⟩ := Q1.out.six; obtain ⟨d0, d1, d2, d3, d4, d5⟩ := Q2.out.six)
    | (go_at_call 25; first
      | ((with_reducible refine (known_in _ HT3.out).mono ?_); rintro e w4 ⟨rfl, b4⟩; have HB4 := Lib.hid (HB3.out.trans (b4.mono HB3.out.size)); have HT4 := Lib.hid (HT3.out.below b4); have R1 := Lib.hid (Q1.out.keep b4); have R2 := Lib.hid (Q2.out.keep b4); clear b4 c0 c1 c2 c3 c4 c5 d0 d1 d2 d3 d4 d5; obtain ⟨c0, c1, c2, c3, c4, c5⟩ := R1.out.six; obtain ⟨d0, d1, d2, d3, d4, d5⟩ := R2.out.six)
      | ((with_reducible refine (known_out _ HT4.out).mono ?_); rintro e w5 ⟨rfl, b5⟩; have HB5 := Lib.hid (HB4.out.trans (b5.mono HB4.out.size)); clear b5 c0 c1 c2 c3 c4 c5 d0 d1 d2 d3 d4 d5)))
  go_ret
  exact ⟨rfl, HB5.out⟩
end Go.Proofs.YtmpibbgciajnkaaDoor

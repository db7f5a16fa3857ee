/- the definition's Within. -/
import Derived.Test.YtmpibbgciajnkaaDoorKRk
namespace Go.Proofs.YtmpibbgciajnkaaDoor
open Go.RowKit
set_option maxHeartbeats 1000000 in
theorem rwi_2k (o c l r v k' o' c' l' r' v' : Int) (w : World) (h : OkK 2 o c l r v) (h' : OkK k' o' c' l' r' v') (hd : 2 ≠ k') :
    Calls Tryd.prog 26 #[.agg (kc 2 o c l r v), .agg (kc k' o' c' l' r' v')] w fun e w' => e = .returned (.bool false) ∧ Below w.heap.size w w' := by
  have HK := Lib.hid h
  have HK' := Lib.hid h'
  clear h h'
  have dd : (2 == k') = false := by simpa using fun e : (2 : Int) = k' => hd e
  clear hd
  go_enter Tryd.func26, Tryd.ntmps26
  go_wp2_with (go_at_call 15; first
    | ((with_reducible refine (rchk_ok 2 o c l r v _ HK.out).mono ?_); rintro e w1 ⟨rfl, b1⟩; obtain ⟨B1, B2, b2⟩ := box2 b1; have HB := Lib.hid b2; have H1 := Lib.hid B1; have H2 := Lib.hid B2; clear b1 b2 B1 B2; obtain ⟨c0, c1, c2, c3, c4, c5⟩ := H1.out.six; obtain ⟨d0, d1, d2, d3, d4, d5⟩ := H2.out.six; have f0 := H2.out.frozen)
    | ((with_reducible refine (rchk_ok k' o' c' l' r' v' _ HK'.out).mono ?_); rintro e w2 ⟨rfl, b2⟩; have HB2 := Lib.hid (HB.out.trans (b2.mono HB.out.size)); have G1 := Lib.hid (H1.out.keep b2); have G2 := Lib.hid (H2.out.keep b2); clear b2 HB H1 H2 c0 c1 c2 c3 c4 c5 d0 d1 d2 d3 d4 d5 f0; obtain ⟨c0, c1, c2, c3, c4, c5⟩ := G1.out.six; obtain ⟨d0, d1, d2, d3, d4, d5⟩ := G2.out.six))
  go_quiet (fail)
  go_wp2
  go_ret
  exact ⟨rfl, below_drewN HB2.out _⟩
set_option maxHeartbeats 1000000 in
theorem rwi_2o (o c l r v o' c' l' r' v' : Int) (w : World) (h : OkK 2 o c l r v) (h' : OkK 2 o' c' l' r' v') (hd : o ≠ o') :
    Calls Tryd.prog 26 #[.agg (kc 2 o c l r v), .agg (kc 2 o' c' l' r' v')] w fun e w' => e = .returned (.bool false) ∧ Below w.heap.size w w' := by
  have HK := Lib.hid h
  have HK' := Lib.hid h'
  clear h h'
  have dd : (o == o') = false := by simpa using hd
  clear hd
  go_enter Tryd.func26, Tryd.ntmps26
  go_wp2_with (go_at_call 15; first
    | ((with_reducible refine (rchk_ok 2 o c l r v _ HK.out).mono ?_); rintro e w1 ⟨rfl, b1⟩; obtain ⟨B1, B2, b2⟩ := box2 b1; have HB := Lib.hid b2; have H1 := Lib.hid B1; have H2 := Lib.hid B2; clear b1 b2 B1 B2; obtain ⟨c0, c1, c2, c3, c4, c5⟩ := H1.out.six; obtain ⟨d0, d1, d2, d3, d4, d5⟩ := H2.out.six; have f0 := H2.out.frozen)
    | ((with_reducible refine (rchk_ok 2 o' c' l' r' v' _ HK'.out).mono ?_); rintro e w2 ⟨rfl, b2⟩; have HB2 := Lib.hid (HB.out.trans (b2.mono HB.out.size)); have G1 := Lib.hid (H1.out.keep b2); have G2 := Lib.hid (H2.out.keep b2); clear b2 HB H1 H2 c0 c1 c2 c3 c4 c5 d0 d1 d2 d3 d4 d5 f0; obtain ⟨c0, c1, c2, c3, c4, c5⟩ := G1.out.six; obtain ⟨d0, d1, d2, d3, d4, d5⟩ := G2.out.six))
  go_quiet (fail)
  go_wp2
  go_ret
  exact ⟨rfl, below_drewN HB2.out _⟩
set_option maxHeartbeats 1000000 in
theorem rwi_2c (o c l r v c' l' r' v' : Int) (w : World) (h : OkK 2 o c l r v) (h' : OkK 2 o c' l' r' v') (hd : c ≠ c') :
    Calls Tryd.prog 26 #[.agg (kc 2 o c l r v), .agg (kc 2 o c' l' r' v')] w fun e w' => e = .returned (.bool false) ∧ Below w.heap.size w w' := by
  have HK := Lib.hid h
  have HK' := Lib.hid h'
  clear h h'
  have dd : (c == c') = false := by simpa using hd
  clear hd
  go_enter Tryd.func26, Tryd.ntmps26
  go_wp2_with (go_at_call 15; first
    | ((with_reducible refine (rchk_ok 2 o c l r v _ HK.out).mono ?_); rintro e w1 ⟨rfl, b1⟩; obtain ⟨B1, B2, b2⟩ := box2 b1; have HB := Lib.hid b2; have H1 := Lib.hid B1; have H2 := Lib.hid B2; clear b1 b2 B1 B2; obtain ⟨c0, c1, c2, c3, c4, c5⟩ := H1.out.six; obtain ⟨d0, d1, d2, d3, d4, d5⟩ := H2.out.six; have f0 := H2.out.frozen)
    | ((with_reducible refine (rchk_ok 2 o c' l' r' v' _ HK'.out).mono ?_); rintro e w2 ⟨rfl, b2⟩; have HB2 := Lib.hid (HB.out.trans (b2.mono HB.out.size)); have G1 := Lib.hid (H1.out.keep b2); have G2 := Lib.hid (H2.out.keep b2); clear b2 HB H1 H2 c0 c1 c2 c3 c4 c5 d0 d1 d2 d3 d4 d5 f0; obtain ⟨c0, c1, c2, c3, c4, c5⟩ := G1.out.six; obtain ⟨d0, d1, d2, d3, d4, d5⟩ := G2.out.six))
  go_quiet (fail)
  go_wp2
  go_ret
  exact ⟨rfl, below_drewN HB2.out _⟩
set_option maxHeartbeats 1000000 in
theorem rwi_2r (o c l v : Int) (r r' : Nat) (w : World) (h : OkK 2 o c l r v) (h' : OkK 2 o c l r' v) (ra : r < 8) (rb : r' < 8) (hd : r ≠ r') :
    Calls Tryd.prog 26 #[.agg (kc 2 o c l r v), .agg (kc 2 o c l r' v)] w fun e w' => e = .returned (.bool (((r ||| r' : Nat) : Int) == (r : Int))) ∧ Below w.heap.size w w' := by
  have HK := Lib.hid h
  have HK' := Lib.hid h'
  clear h h'
  have dd : ((r : Int) == (r' : Int)) = false := by simp; omega
  clear hd
  go_enter Tryd.func26, Tryd.ntmps26
  go_wp2_with (go_at_call 15; first
    | ((with_reducible refine (rchk_ok 2 o c l r v _ HK.out).mono ?_); rintro e w1 ⟨rfl, b1⟩; obtain ⟨B1, B2, b2⟩ := box2 b1; have HB := Lib.hid b2; have H1 := Lib.hid B1; have H2 := Lib.hid B2; clear b1 b2 B1 B2; obtain ⟨c0, c1, c2, c3, c4, c5⟩ := H1.out.six; obtain ⟨d0, d1, d2, d3, d4, d5⟩ := H2.out.six; have f0 := H2.out.frozen)
    | ((with_reducible refine (rchk_ok 2 o c l r' v _ HK'.out).mono ?_); rintro e w2 ⟨rfl, b2⟩; have HB2 := Lib.hid (HB.out.trans (b2.mono HB.out.size)); have G1 := Lib.hid (H1.out.keep b2); have G2 := Lib.hid (H2.out.keep b2); clear b2 HB H1 H2 c0 c1 c2 c3 c4 c5 d0 d1 d2 d3 d4 d5 f0; obtain ⟨c0, c1, c2, c3, c4, c5⟩ := G1.out.six; obtain ⟨d0, d1, d2, d3, d4, d5⟩ := G2.out.six))
  go_quiet ((go_at_call 38; exact Calls.quiet_of_same ((with_any r r' _ ra rb).mono fun _ _ ⟨a, b⟩ => ⟨a, b.symm⟩)))
  go_wp2
  go_ret
  exact ⟨rfl, below_drewN HB2.out _⟩
end Go.Proofs.YtmpibbgciajnkaaDoor

/- the definition's Within. -/
import Derived.Test.YtmpibbgciajnkaaDoorKRk
namespace Go.Proofs.YtmpibbgciajnkaaDoor
open Go.RowKit
set_option maxHeartbeats 1000000 in
theorem rwi_no (k o c l r v k' o' c' l' r' v' : Int) (w : World) (h : ¬ OkK k o c l r v ∨ ¬ OkK k' o' c' l' r' v') :
    Calls Tryd.prog 26 #[.agg (kc k o c l r v), .agg (kc k' o' c' l' r' v')] w fun e w' => e = .returned (.bool false) ∧ Below w.heap.size w w' := by
  by_cases h1 : OkK k o c l r v
  · have HK := Lib.hid h1
    have HK' := Lib.hid (h.resolve_left (fun x => x h1))
    clear h h1
    go_enter Tryd.func26, Tryd.ntmps26
    go_wp2_with (go_at_call 15; first
      | ((with_reducible refine (rchk_ok k o c l r v _ HK.out).mono ?_); rintro e w1 ⟨rfl, b1⟩; obtain ⟨B1, B2, b2⟩ := box2 b1; have HB := Lib.hid b2; have H1 := Lib.hid B1; have H2 := Lib.hid B2; clear b1 b2 B1 B2; obtain ⟨c0, c1, c2, c3, c4, c5⟩ := H1.out.six; obtain ⟨d0, d1, d2, d3, d4, d5⟩ := H2.out.six; have f0 := H2.out.frozen)
      | ((with_reducible refine (rchk_no k' o' c' l' r' v' _ HK'.out).mono ?_); rintro e w2 ⟨rfl, b2⟩; have HB2 := Lib.hid (HB.out.trans (b2.mono HB.out.size)); clear b2))
    go_ret
    exact ⟨rfl, HB2.out⟩
  · have HK := Lib.hid h1
    clear h h1
    go_enter Tryd.func26, Tryd.ntmps26
    go_wp2_with (go_at_call 15; refine (rchk_no k o c l r v _ HK.out).mono ?_; rintro e w1 ⟨rfl, b1⟩; obtain ⟨B1, B2, b2⟩ := box2 b1; have HB := Lib.hid b2; have H1 := Lib.hid B1; have H2 := Lib.hid B2; clear b1 b2 B1 B2; obtain ⟨c0, c1, c2, c3, c4, c5⟩ := H1.out.six; obtain ⟨d0, d1, d2, d3, d4, d5⟩ := H2.out.six; have f0 := H2.out.frozen)
    go_ret
    exact ⟨rfl, HB.out⟩
set_option maxHeartbeats 1000000 in
theorem rwi_void (o c l r v k' o' c' l' r' v' : Int) (w : World) (h : OkK 0 o c l r v) (h' : OkK k' o' c' l' r' v') :
    Calls Tryd.prog 26 #[.agg (kc 0 o c l r v), .agg (kc k' o' c' l' r' v')] w fun e w' => e = .returned (.bool true) ∧ Below w.heap.size w w' := by
  have HK := Lib.hid h
  have HK' := Lib.hid h'
  clear h h'
  go_enter Tryd.func26, Tryd.ntmps26
  go_wp2_with (go_at_call 15; first
    | ((with_reducible refine (rchk_ok 0 o c l r v _ HK.out).mono ?_); rintro e w1 ⟨rfl, b1⟩; obtain ⟨B1, B2, b2⟩ := box2 b1; have HB := Lib.hid b2; have H1 := Lib.hid B1; have H2 := Lib.hid B2; clear b1 b2 B1 B2; obtain ⟨c0, c1, c2, c3, c4, c5⟩ := H1.out.six; obtain ⟨d0, d1, d2, d3, d4, d5⟩ := H2.out.six; have f0 := H2.out.frozen)
    | ((with_reducible refine (rchk_ok k' o' c' l' r' v' _ HK'.out).mono ?_); rintro e w2 ⟨rfl, b2⟩; have HB2 := Lib.hid (HB.out.trans (b2.mono HB.out.size)); have G1 := Lib.hid (H1.out.keep b2); have G2 := Lib.hid (H2.out.keep b2); clear b2 HB H1 H2 c0 c1 c2 c3 c4 c5 d0 d1 d2 d3 d4 d5 f0; obtain ⟨c0, c1, c2, c3, c4, c5⟩ := G1.out.six; obtain ⟨d0, d1, d2, d3, d4, d5⟩ := G2.out.six))
  go_ret
  exact ⟨rfl, HB2.out⟩
set_option maxHeartbeats 1000000 in
theorem rwi_same (k o c l r v : Int) (w : World) (h : OkK k o c l r v) (h' : OkK k o c l r v) (n0 : k ≠ 0) :
    Calls Tryd.prog 26 #[.agg (kc k o c l r v), .agg (kc k o c l r v)] w fun e w' => e = .returned (.bool true) ∧ Below w.heap.size w w' := by
  have HK := Lib.hid h
  have HK' := Lib.hid h'
  clear h h'
  have e0 : (k == 0) = false := by simpa using n0
  clear n0
  go_enter Tryd.func26, Tryd.ntmps26
  go_wp2_with (go_at_call 15; refine (rchk_ok k o c l r v _ HK.out).mono ?_; rintro e w1 ⟨rfl, b1⟩; first | (have HB2 := Lib.hid (HB.out.trans (b1.mono HB.out.size)); have G1 := Lib.hid (H1.out.keep b1); have G2 := Lib.hid (H2.out.keep b1); clear b1 HB H1 H2 c0 c1 c2 c3 c4 c5 d0 d1 d2 d3 d4 d5 f0; obtain ⟨c0, c1, c2, c3, c4, c5⟩ := G1.out.six; obtain ⟨d0, d1, d2, d3, d4, d5⟩ := G2.out.six) | (obtain ⟨B1, B2, b2⟩ := box2 b1; have HB := Lib.hid b2; have H1 := Lib.hid B1; have H2 := Lib.hid B2; clear b1 b2 B1 B2; obtain ⟨c0, c1, c2, c3, c4, c5⟩ := H1.out.six; obtain ⟨d0, d1, d2, d3, d4, d5⟩ := H2.out.six; have f0 := H2.out.frozen))
  go_ret
  exact ⟨rfl, HB2.out⟩
end Go.Proofs.YtmpibbgciajnkaaDoor

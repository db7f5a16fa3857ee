/- law 12: known, made. -/
import Derived.Test.YteodgefnbmiblaaDoorBKp
import Derived.Test.YteodgefnbmiblaaDoorBKw
namespace Go.Proofs.YteodgefnbmiblaaDoor
open Go.RowKit
theorem known_any (w : World) (hT : Tab w) : Calls Tryd.prog 8 #[] w fun e w' => e = .returned (.bool true) ∧ Below w.heap.size w w' :=
  known12_aux w hT kb0 kb1 kb2 (oKC 0 4) ⟨1, 0, 0, 0, 0, 1⟩ ⟨1, 0, 0, 0, 0, 2⟩ kbx ⟨2, 1, 5, 0, 0, 0⟩ (builtO 1 1) (builtN 1 1) (builtN 1 2) rfl rfl builtO4 (builtK2 4 1) (builtK3 2 1 5) kbs_right _ kbs_mk
set_option maxRecDepth 8000 in
theorem made_yes {w : World} {A : Option Addr} {l : List Oj} {cap : Nat} (hT : Tab w) (hr : RdO w A l) (h : madeP l) :
    Calls Tryd.prog 7 #[.slice A l.length cap] w fun e w' => ∃ q, e = .returned (pv q) ∧ w.heap.size ≤ q ∧ (∃ A' cap' ps, StAt w' q q A' cap' ps l) ∧ Below w.heap.size w w' := by
  have HT := Lib.hid hT
  have HR := Lib.hid hr
  have H := Lib.hid h.2
  have d1 : decide ((20 : Int) < (l.length : Int)) = false := decide_eq_false (by have := h.1; omega)
  have d2 : decide (20 < l.length) = false := decide_eq_false (by have := h.1; omega)
  have HB0 := Lib.hid (Below.refl w.heap.size w)
  clear hT hr h
  go_enter Tryd.func7, Tryd.ntmps7
  go_wp2_with (first
    | (go_at_call 21; refine (right_yes HR.out H.out).mono ?_; rintro e w1 ⟨rfl, b1⟩; have HB1 := Lib.hid (HB0.out.trans b1); clear b1)
    | (go_at_call 22; refine (of_yes (HT.out.below HB1.out) (HR.out.below HB1.out) H.out).mono ?_; rintro e w2 ⟨rfl, hs, b2⟩; have HS := Lib.hid hs; have HB2 := Lib.hid (HB1.out.trans (b2.mono HB1.out.size)); clear b2 hs))
  go_ret
  obtain ⟨A', cap', ps, hs⟩ := HS.out
  have hb := HB1.out.size
  exact ⟨_, rfl, hb, ⟨A', cap', ps, hs⟩, HB2.out⟩
set_option maxRecDepth 8000 in
theorem made_no {w : World} {A : Option Addr} {l : List Oj} {cap : Nat} (hr : RdO w A l) (h : ¬ madeP l) :
    Calls Tryd.prog 7 #[.slice A l.length cap] w fun e w' => e = .returned (.pointer none) ∧ Below w.heap.size w w' := by
  have HR := Lib.hid hr
  have HB0 := Lib.hid (Below.refl w.heap.size w)
  by_cases h1 : l.length ≤ 20
  · have H := Lib.hid (fun hp => h ⟨h1, hp⟩ : ¬ rightP l)
    have d1 : decide ((20 : Int) < (l.length : Int)) = false := decide_eq_false (by omega)
    have d2 : decide (20 < l.length) = false := decide_eq_false (by omega)
    clear hr h h1
    go_enter Tryd.func7, Tryd.ntmps7
    go_wp2_with (first
      | (go_at_call 21; refine (right_no HR.out H.out).mono ?_; rintro e w1 ⟨rfl, b1⟩; have HB1 := Lib.hid (HB0.out.trans b1); clear b1))
    go_ret
    exact ⟨rfl, HB1.out⟩
  · have d1 : decide ((20 : Int) < (l.length : Int)) = true := decide_eq_true (by omega)
    have d2 : decide (20 < l.length) = true := decide_eq_true (by omega)
    clear hr h h1
    go_enter Tryd.func7, Tryd.ntmps7
    go_wp2_with fail
    go_ret
    exact ⟨rfl, HB0.out⟩
end Go.Proofs.YteodgefnbmiblaaDoor

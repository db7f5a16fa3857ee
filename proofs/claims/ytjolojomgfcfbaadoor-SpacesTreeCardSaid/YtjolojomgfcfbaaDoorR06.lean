/- keys: ErrArg of Weaken; Less; Within. -/
import Derived.Test.YtjolojomgfcfbaaDoorR05
import Derived.Test.YtjolojomgfcfbaaDoorR04
import Derived.Test.YtjolojomgfcfbaaDoorChecked
import Derived.Test.YtjolojomgfcfbaaDoorRows
import Derived.Test.YtjolojomgfcfbaaDoorTie
import Derived.Test.YtjolojomgfcfbaaDoorCards
import Derived.ProofKit
import Derived.LaidMore
import Derived.OpenShut
import Derived.ChangeOld
import Derived.Deep.Slices
import Derived.Stop.Joined
import Derived.SevenTiedAt
namespace Go.Proofs.YtjolojomgfcfbaaDoor
open Go.RowKit
set_option maxRecDepth 8000 in
set_option maxHeartbeats 1000000 in
theorem lesss_ok (k o c l v : Int) (r q : Nat) (w : World) (hT : Tab w) (h : OkK k o c l r v) (hr : r < 8) (hq : q < 8) :
    Calls Tryd.prog 57 #[.agg (kc k o c l r v), .int .i64 q] w fun e w' => e = .returned (.tuple #[.agg (kc k o c l (lsN r q (rm k) : Nat) v), .int .i64 0]) ∧ Below w.heap.size w w' := by
  have HK := Lib.hid h
  have HT := Lib.hid hT
  have KK := Lib.hid (okK_in h)
  obtain ⟨x, hx⟩ : ∃ x : Int, x = (lsN r q (rm k) : Nat) := ⟨_, rfl⟩
  rw [← hx]
  have HX := Lib.hid hx
  clear h hT hx
  go_enter Tryd.func57, Tryd.ntmps57
  go_wp2_with (first
    | (go_at_call 36; refine (chk_ok _ _ _ _ _ _ _ ((HT.out.alloc _).alloc _) HK.out).mono ?_; rintro e w1 ⟨rfl, b1⟩; obtain ⟨B1, B2, b2⟩ := box2 b1; have HB := Lib.hid b2; have HT1 := Lib.hid (HT.out.below b2); have H1 := Lib.hid B1; have H2 := Lib.hid B2; clear b1 b2 B1 B2; obtain ⟨c0, c1, c2, c3, c4, c5⟩ := H1.out.six; obtain ⟨d0, d1, d2, d3, d4, d5⟩ := H2.out.six; have f0 := H2.out.frozen)
    | (go_at_call 48; refine (upR_yes _ _ _ (by omega) (by omega)).mono ?_; rintro e w' ⟨rfl, rfl⟩)
    | (go_at_call 59; refine (less_any k o c l v r q _ HT1.out KK.out.1 KK.out.2 hr hq).mono ?_; rw [← HX.out]; rintro e w4 ⟨rfl, b4⟩; have HB4 := Lib.hid (HB.out.trans (b4.mono HB.out.size)); have P2 := H2.out.keep b4; clear c0 c1 c2 c3 c4 c5 d0 d1 d2 d3 d4 d5 f0; obtain ⟨d0, d1, d2, d3, d4, d5⟩ := P2.six; have f0 := P2.frozen; clear b4 P2))
  refine bodyPost_ret (v := .tuple #[.agg (kc k o c l x v), .int .i64 0]) (by simp [results, Tryd.results57, go_sem, d0, d1, d2, d3, d4, d5]) rfl ⟨rfl, below_set6 HB4.out (by omega) _ _ _ _ _ _⟩
end Go.Proofs.YtjolojomgfcfbaaDoor
namespace Go.Proofs.YtjolojomgfcfbaaDoor
open Go.RowKit
def b1 (r q b : Nat) : Nat := if r / b % 2 = 1 ∨ q / b % 2 = 1 then b else 0
end Go.Proofs.YtjolojomgfcfbaaDoor
namespace Go.Proofs.YtjolojomgfcfbaaDoor
open Go.RowKit
end Go.Proofs.YtjolojomgfcfbaaDoor
namespace Go.Proofs.YtjolojomgfcfbaaDoor
open Go.ChangeShapes Go.WideShapes Go.ChangeAt Go.RowKit
set_option maxRecDepth 8000 in
theorem own : ownKnob Tryd.prog.godebug = none := by kernel_rfl
set_option maxRecDepth 8000 in
theorem laidOut : laidOutB Tryd.prog = true := by kernel_rfl
set_option maxRecDepth 8000 in
theorem gKinds : Tryd.prog.globalNamed "chatelaine/keys.kinds" = some 0 := by kernel_rfl
set_option maxRecDepth 8000 in
theorem tKinds : (Tryd.prog.globals[0]?).map (·.type) = some 101 := by kernel_rfl
abbrev laidK : List (String × DataW Unit) := [("chatelaine/keys.kinds", Rows.laid_chatelaine_keys_kinds)]
set_option maxRecDepth 100000 in
theorem door_met (os : Os) (args : Array Value) : laidMetH Tryd.prog laidK ((World.doorLaid Tryd.prog 40 os).forCall (fun _ _ => 0) ⟨#[], args, []⟩).memory :=
  laidMetH_of_parts3 (fuel := 8) (laidMet_of_run' 8 (by kernel_rfl) (by kernel_rfl)) (by kernel_rfl) (by kernel_rfl)
section
variable {H : Type} {enc : TypeId × Value → H} {W : World} {base : Nat} {spare : Nat → Bool} {held : Bool} {fuel : Nat}
set_option maxRecDepth 8000 in
theorem bool_of {cs : List Value} {x : DataW H × List MemPlace} {n : Nat} (h : DataW.trod enc Tryd.prog W base spare held n 4 cs = some x) : ∃ b : Bool, cs = [.bool b] ∧ x.1 = .lit (.bool b) := by
  obtain ⟨b, h1, h2⟩ := DataW.trod_bool Tryd.underlying4 h
  exact ⟨b, h1, by rw [h2]⟩
set_option maxRecDepth 100000 in
/-- one kind's row of the table, off its datum -/
theorem kind_cells {cs : List Value} {x : DataW H × List MemPlace} (h : DataW.trod enc Tryd.prog W base spare held fuel 100 cs = some x) (nm : List UInt8) (a b c d e : Int) (q : Bool)
    (hx : x.1 = .agg [.lit (.string nm), .lit (.int .i64 a), .lit (.int .i64 b), .lit (.int .i64 c), .lit (.int .i64 d), .lit (.int .i64 e), .lit (.bool q)]) :
    cs = [.string (st nm), .int .i64 a, .int .i64 b, .int .i64 c, .int .i64 d, .int .i64 e, .bool q] := by
  obtain ⟨xs, n, _, hx1, hl, hn, hel⟩ := DataW.trod_struct Tryd.underlying100 h
  have hl7 : cs.length = 7 := hl.trans (by kernel_rfl)
  match cs, hl7 with
  | [c0, c1, c2, c3, c4, c5, c6], _ =>
    match xs, hn with
    | [y0, y1, y2, y3, y4, y5, y6], _ =>
      rw [hx1] at hx
      simp only [List.map_cons, List.map_nil, DataW.agg.injEq, List.cons.injEq, and_true] at hx
      obtain ⟨e0, e1, e2, e3, e4, e5, e6⟩ := hx
      obtain ⟨s, r0, q0, _⟩ := DataW.trod_string Tryd.underlying9 (show DataW.trod enc Tryd.prog W base spare held n 9 [c0] = some y0 from hel 0 _ rfl)
      obtain ⟨n1, r1, q1, _⟩ := DataW.trod_int Tryd.underlying26 (show DataW.trod enc Tryd.prog W base spare held n 26 [c1] = some y1 from hel 1 _ rfl)
      obtain ⟨n2, r2, q2, _⟩ := DataW.trod_int Tryd.underlying3 (show DataW.trod enc Tryd.prog W base spare held n 3 [c2] = some y2 from hel 2 _ rfl)
      obtain ⟨n3, r3, q3, _⟩ := DataW.trod_int Tryd.underlying2 (show DataW.trod enc Tryd.prog W base spare held n 2 [c3] = some y3 from hel 3 _ rfl)
      obtain ⟨n4, r4, q4, _⟩ := DataW.trod_int Tryd.underlying2 (show DataW.trod enc Tryd.prog W base spare held n 2 [c4] = some y4 from hel 4 _ rfl)
      obtain ⟨n5, r5, q5, _⟩ := DataW.trod_int Tryd.underlying22 (show DataW.trod enc Tryd.prog W base spare held n 22 [c5] = some y5 from hel 5 _ rfl)
      obtain ⟨n6, r6, q6⟩ := bool_of (show DataW.trod enc Tryd.prog W base spare held n 4 [c6] = some y6 from hel 6 _ rfl)
      simp only [List.cons.injEq, and_true] at r0 r1 r2 r3 r4 r5 r6
      subst r0 r1 r2 r3 r4 r5 r6
      rw [q0] at e0; rw [q1] at e1; rw [q2] at e2; rw [q3] at e3; rw [q4] at e4; rw [q5] at e5; rw [q6] at e6
      simp only [DataW.lit.injEq, Lit.string.injEq, Lit.int.injEq, Lit.bool.injEq, true_and] at e0 e1 e2 e3 e4 e5 e6
      subst e1 e2 e3 e4 e5 e6
      have : s = st nm := by
        unfold st
        rw [← e0]
      rw [this]
set_option maxRecDepth 100000 in
/-- a key, off its cells -/
theorem key_cells {cs : List Value} {x : DataW H × List MemPlace} (h : DataW.trod enc Tryd.prog W base spare held fuel 29 cs = some x) : ∃ y : Ky, cs = [.int .i64 y.k, .int .i64 y.o, .int .i64 y.c, .int .i64 y.l, .int .i64 y.r, .int .i64 y.v] := by
  obtain ⟨xs, n, _, hx1, hl, hn, hel⟩ := DataW.trod_struct Tryd.underlying29 h
  have hl6 : cs.length = 6 := hl.trans (by kernel_rfl)
  match cs, hl6 with
  | [c0, c1, c2, c3, c4, c5], _ =>
    match xs, hn with
    | [y0, y1, y2, y3, y4, y5], _ =>
      obtain ⟨n0, r0, _, _⟩ := DataW.trod_int Tryd.underlying27 (show DataW.trod enc Tryd.prog W base spare held n 27 [c0] = some y0 from hel 0 _ rfl)
      obtain ⟨n1, r1, _, _⟩ := DataW.trod_int Tryd.underlying3 (show DataW.trod enc Tryd.prog W base spare held n 3 [c1] = some y1 from hel 1 _ rfl)
      obtain ⟨n2, r2, _, _⟩ := DataW.trod_int Tryd.underlying2 (show DataW.trod enc Tryd.prog W base spare held n 2 [c2] = some y2 from hel 2 _ rfl)
      obtain ⟨n3, r3, _, _⟩ := DataW.trod_int Tryd.underlying2 (show DataW.trod enc Tryd.prog W base spare held n 2 [c3] = some y3 from hel 3 _ rfl)
      obtain ⟨n4, r4, _, _⟩ := DataW.trod_int Tryd.underlying22 (show DataW.trod enc Tryd.prog W base spare held n 22 [c4] = some y4 from hel 4 _ rfl)
      obtain ⟨n5, r5, _, _⟩ := DataW.trod_int Tryd.underlying2 (show DataW.trod enc Tryd.prog W base spare held n 2 [c5] = some y5 from hel 5 _ rfl)
      simp only [List.cons.injEq, and_true] at r0 r1 r2 r3 r4 r5
      subst r0 r1 r2 r3 r4 r5
      exact ⟨⟨n0, n1, n2, n3, n4, n5⟩, rfl⟩
end
set_option maxRecDepth 8000 in
/-- the condition gives the table -/
theorem tab_of {W : World} (h : laidMetH Tryd.prog laidK W) : Tab W := by
  rw [MakeChecks.laidMetH_plain _ _ _ (by kernel_rfl)] at h
  obtain ⟨ps, ⟨g0, t0, cs0, f0, p0, q0, hg0, ht0, hv0, hd0, _, _⟩, _, _⟩ := h
  obtain rfl := Option.some.inj (gKinds.symm.trans hg0)
  obtain rfl := Option.some.inj (tKinds.symm.trans ht0)
  obtain ⟨xs, m, _, hx, hl, hn, hel⟩ := DataW.trod_array Tryd.underlying101 hd0
  have c7 : Tryd.prog.cellsOf 100 = 7 := by kernel_rfl
  simp only [c7] at hel
  simp only [Prod.mk.injEq] at hx
  have hx1 := hx.1
  have row : ∀ k, k ≤ 10 → (cs0.toList.drop (k * 7)).take 7 = kCells k := by
    match xs, hn with
    | [x0, x1, x2, x3, x4, x5, x6, x7, x8, x9, x10], _ =>
      unfold Rows.laid_chatelaine_keys_kinds at hx1
      simp only [List.map_cons, List.map_nil, DataW.agg.injEq, List.cons.injEq, and_true] at hx1
      obtain ⟨e0, e1, e2, e3, e4, e5, e6, e7, e8, e9, e10⟩ := hx1
      intro k hk
      have hcase : k = 0 ∨ k = 1 ∨ k = 2 ∨ k = 3 ∨ k = 4 ∨ k = 5 ∨ k = 6 ∨ k = 7 ∨ k = 8 ∨ k = 9 ∨ k = 10 := by omega
      rcases hcase with rfl | rfl | rfl | rfl | rfl | rfl | rfl | rfl | rfl | rfl | rfl
      · exact kind_cells (hel 0 (by decide)) _ _ _ _ _ _ _ e0.symm
      · exact kind_cells (hel 1 (by decide)) _ _ _ _ _ _ _ e1.symm
      · exact kind_cells (hel 2 (by decide)) _ _ _ _ _ _ _ e2.symm
      · exact kind_cells (hel 3 (by decide)) _ _ _ _ _ _ _ e3.symm
      · exact kind_cells (hel 4 (by decide)) _ _ _ _ _ _ _ e4.symm
      · exact kind_cells (hel 5 (by decide)) _ _ _ _ _ _ _ e5.symm
      · exact kind_cells (hel 6 (by decide)) _ _ _ _ _ _ _ e6.symm
      · exact kind_cells (hel 7 (by decide)) _ _ _ _ _ _ _ e7.symm
      · exact kind_cells (hel 8 (by decide)) _ _ _ _ _ _ _ e8.symm
      · exact kind_cells (hel 9 (by decide)) _ _ _ _ _ _ _ e9.symm
      · exact kind_cells (hel 10 (by decide)) _ _ _ _ _ _ _ e10.symm
  intro k hk j u hu
  rw [World.var?_cell hg0 hv0]
  have hj : j < 7 := by
    have := (List.getElem?_eq_some_iff.1 hu).1
    simpa [kCells] using this
  rw [← row k hk, List.getElem?_take, if_pos hj, List.getElem?_drop] at hu
  simpa using hu
end Go.Proofs.YtjolojomgfcfbaaDoor

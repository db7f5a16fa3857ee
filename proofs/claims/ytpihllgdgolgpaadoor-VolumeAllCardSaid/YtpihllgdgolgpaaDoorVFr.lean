/- What the walk of a law is told of its arguments, and of the table: words. -/
import Derived.Test.YtpihllgdgolgpaaDoorVTab
import Derived.Test.YtpihllgdgolgpaaDoorChecked
import Derived.Test.YtpihllgdgolgpaaDoorRows
import Derived.Test.YtpihllgdgolgpaaDoorTie
import Derived.Test.YtpihllgdgolgpaaDoorCards
import Derived.ProofKit
import Derived.LaidMore
import Derived.OpenShut
import Derived.ChangeOld
import Derived.Deep.Slices
import Derived.Stop.Joined
import Derived.SevenTiedAt
namespace Go.Proofs.YtpihllgdgolgpaaDoor
open Go.ChangeShapes Go.WideShapes Go.ChangeAt Go.RowKit
set_option maxRecDepth 8000 in
theorem own : ownKnob Tryd.prog.godebug = none := by kernel_rfl
set_option maxRecDepth 8000 in
theorem laidOut : laidOutB Tryd.prog = true := by kernel_rfl
set_option maxRecDepth 8000 in
theorem gNames : Tryd.prog.globalNamed "chatelaine/volume.names" = some 0 := by kernel_rfl
set_option maxRecDepth 8000 in
theorem tNames : (Tryd.prog.globals[0]?).map (·.type) = some 58 := by kernel_rfl
abbrev laidK : List (String × DataW Unit) := [("chatelaine/volume.names", Rows.laid_chatelaine_volume_names)]
set_option maxRecDepth 100000 in
theorem door_met (os : Os) (args : Array Value) : laidMetH Tryd.prog laidK ((World.doorLaid Tryd.prog 40 os).forCall (fun _ _ => 0) ⟨#[], args, []⟩).memory :=
  laidMetH_of_parts3 (fuel := 8) (laidMet_of_run' 8 (by kernel_rfl) (by kernel_rfl)) (by kernel_rfl) (by kernel_rfl)
section
variable {H : Type} {enc : TypeId × Value → H} {W : World} {base : Nat} {spare : Nat → Bool} {held : Bool} {fuel : Nat}
set_option maxRecDepth 8000 in
theorem wf_v {n : Int} (h : (Lit.int .i64 n).wf = true) : -9223372036854775808 ≤ n ∧ n ≤ 9223372036854775807 := by
  have hmin : IntKind.i64.min = -9223372036854775808 := rfl
  have hmax : IntKind.i64.max = 9223372036854775807 := rfl
  simp only [Lit.wf, Bool.and_eq_true, decide_eq_true_eq] at h
  omega
set_option maxRecDepth 8000 in
theorem int_cell {t : TypeId} (hu : Tryd.prog.underlying t = some (.int .i64)) {cs : List Value} {x : DataW H × List MemPlace} (h : DataW.trod enc Tryd.prog W base spare held fuel t cs = some x) : ∃ n : Int, cs = [.int .i64 n] ∧ (-9223372036854775808 ≤ n ∧ n ≤ 9223372036854775807) := by
  obtain ⟨n0, r0, w0, f0⟩ := DataW.trod_int hu h
  exact ⟨n0, r0, wf_v (by first | exact f0 | exact w0)⟩
set_option maxRecDepth 8000 in
theorem int_lit {t : TypeId} (hu : Tryd.prog.underlying t = some (.int .i64)) {cs : List Value} {x : DataW H × List MemPlace} (h : DataW.trod enc Tryd.prog W base spare held fuel t cs = some x) {a : Int} (hx : x.1 = .lit (.int .i64 a)) : cs = [.int .i64 a] := by
  obtain ⟨n1, r1, q1, _⟩ := DataW.trod_int hu h
  rw [q1] at hx
  simp only [DataW.lit.injEq, Lit.int.injEq, true_and] at hx
  subst hx
  exact r1
set_option maxRecDepth 100000 in
theorem open_plan {r : Reach} {b0 : Nat} {v : Value} {d : DataW H} {p : List MemPlace} (hv : Value.okWide Tryd.prog W r b0 23 v) (h : DataW.Trod enc Tryd.prog W base spare held 23 v d p) : ∃ n : Int, v = plan n ∧ (-9223372036854775808 ≤ n ∧ n ≤ 9223372036854775807) := by
  obtain ⟨cs, rfl, _⟩ := okWide_struct Tryd.underlying23 hv
  obtain ⟨f, hf⟩ := h
  obtain ⟨l⟩ := cs
  simp only [Value.cells] at hf
  obtain ⟨xs, n, _, hx1, hl, hn, hel⟩ := DataW.trod_struct Tryd.underlying23 hf
  have hl1 : l.length = 1 := hl.trans (by kernel_rfl)
  match l, hl1 with
  | [c0], _ =>
    match xs, hn with
    | [y0], _ =>
      obtain ⟨n0, r0, w0⟩ := int_cell Tryd.underlying3 (show DataW.trod enc Tryd.prog W base spare held n 3 [c0] = some y0 from hel 0 _ rfl)
      simp only [List.cons.injEq, and_true] at r0
      subst r0
      exact ⟨n0, rfl, w0⟩
set_option maxRecDepth 100000 in
theorem open_spot {r : Reach} {b0 : Nat} {v : Value} {d : DataW H} {p : List MemPlace} (hv : Value.okWide Tryd.prog W r b0 30 v) (h : DataW.Trod enc Tryd.prog W base spare held 30 v d p) : ∃ x : Sp, v = x.val := by
  obtain ⟨cs, rfl, _⟩ := okWide_struct Tryd.underlying30 hv
  obtain ⟨f, hf⟩ := h
  obtain ⟨l⟩ := cs
  simp only [Value.cells] at hf
  obtain ⟨xs, n, _, hx1, hl, hn, hel⟩ := DataW.trod_struct Tryd.underlying30 hf
  have hl3 : l.length = 3 := hl.trans (by kernel_rfl)
  match l, hl3 with
  | [c0, c1, c2], _ =>
    match xs, hn with
    | [y0, y1, y2], _ =>
      obtain ⟨n0, r0, w0⟩ := int_cell Tryd.underlying28 (show DataW.trod enc Tryd.prog W base spare held n 28 [c0] = some y0 from hel 0 _ rfl)
      obtain ⟨n1, r1, w1⟩ := int_cell Tryd.underlying3 (show DataW.trod enc Tryd.prog W base spare held n 3 [c1] = some y1 from hel 1 _ rfl)
      obtain ⟨n2, r2, w2⟩ := int_cell Tryd.underlying3 (show DataW.trod enc Tryd.prog W base spare held n 3 [c2] = some y2 from hel 2 _ rfl)
      simp only [List.cons.injEq, and_true] at r0 r1 r2
      subst r0 r1 r2
      exact ⟨⟨n0, n1, n2⟩, rfl⟩
end
set_option maxRecDepth 8000 in
/-- the condition gives the table -/
theorem tab_of {W : World} (h : laidMetH Tryd.prog laidK W) : Tab W := by
  rw [MakeChecks.laidMetH_plain _ _ _ (by kernel_rfl)] at h
  obtain ⟨ps, ⟨g0, t0, cs0, f0, p0, q0, hg0, ht0, hv0, hd0, _, _⟩, _, _⟩ := h
  obtain rfl := Option.some.inj (gNames.symm.trans hg0)
  obtain rfl := Option.some.inj (tNames.symm.trans ht0)
  obtain ⟨xs, m, _, hx, hl, hn, hel⟩ := DataW.trod_array Tryd.underlying58 hd0
  have c1 : Tryd.prog.cellsOf 3 = 1 := by kernel_rfl
  simp only [c1, Nat.mul_one] at hel
  simp only [Prod.mk.injEq] at hx
  have hx1 := hx.1
  have row : ∀ j u, nmc[j]? = some u → (cs0.toList.drop j).take 1 = [u] := by
    match xs, hn with
    | [x0, x1, x2, x3, x4, x5], _ =>
      unfold Rows.laid_chatelaine_volume_names at hx1
      simp only [List.map_cons, List.map_nil, DataW.agg.injEq, List.cons.injEq, and_true] at hx1
      obtain ⟨e0, e1, e2, e3, e4, e5⟩ := hx1
      intro j u hu
      have hj : j < 6 := by have := (List.getElem?_eq_some_iff.1 hu).1; simpa [nmc] using this
      have hcase : j = 0 ∨ j = 1 ∨ j = 2 ∨ j = 3 ∨ j = 4 ∨ j = 5 := by omega
      rcases hcase with rfl | rfl | rfl | rfl | rfl | rfl <;> cases hu
      · exact int_lit Tryd.underlying3 (hel 0 (by decide)) e0.symm
      · exact int_lit Tryd.underlying3 (hel 1 (by decide)) e1.symm
      · exact int_lit Tryd.underlying3 (hel 2 (by decide)) e2.symm
      · exact int_lit Tryd.underlying3 (hel 3 (by decide)) e3.symm
      · exact int_lit Tryd.underlying3 (hel 4 (by decide)) e4.symm
      · exact int_lit Tryd.underlying3 (hel 5 (by decide)) e5.symm
  intro j u hu
  rw [World.var?_cell hg0 hv0]
  have h2 : ((cs0.toList.drop j).take 1)[0]? = some u := by rw [row j u hu]; rfl
  rw [List.getElem?_take, if_pos (by decide), List.getElem?_drop] at h2
  simpa using h2
end Go.Proofs.YtpihllgdgolgpaaDoor

/- What the walk of a law is told of its arguments, and of the table: words. -/
import Derived.Test.YtogkdhpnbpgheaaGreatDoorR04
import Derived.Test.YtogkdhpnbpgheaaGreatDoorChecked
import Derived.Test.YtogkdhpnbpgheaaGreatDoorRows
import Derived.Test.YtogkdhpnbpgheaaGreatDoorTie
import Derived.Test.YtogkdhpnbpgheaaGreatDoorCards
import Derived.ProofKit
import Derived.LaidMore
import Derived.OpenShut
import Derived.ChangeOld
import Derived.Deep.Slices
import Derived.Stop.Joined
import Derived.SevenTiedAt
import Derived.Test.YtogkdhpnbpgheaaGreatDoorR01
import Derived.OwnWalk
namespace Go.Proofs.YtogkdhpnbpgheaaGreatDoor
open Go.ChangeShapes Go.WideShapes Go.ChangeAt Go.RowKit
set_option maxRecDepth 8000 in
theorem own : ownKnob Tryz.prog.godebug = none := by kernel_rfl
set_option maxRecDepth 8000 in
theorem laidOut : laidOutB Tryz.prog = true := by kernel_rfl
set_option maxRecDepth 8000 in
theorem gKinds : Tryz.prog.globalNamed "chatelaine/keys.kinds" = some 0 := by kernel_rfl
set_option maxRecDepth 8000 in
theorem tKinds : (Tryz.prog.globals[0]?).map (·.type) = some 193 := by kernel_rfl
abbrev laidK : List (String × DataW Unit) := [("chatelaine/keys.kinds", Rows.laid_chatelaine_keys_kinds)]
set_option maxRecDepth 100000 in
theorem door_met (os : Os) (args : Array Value) : laidMetH Tryz.prog laidK ((World.doorLaid Tryz.prog 40 os).forCall (fun _ _ => 0) ⟨#[], args, []⟩).memory :=
  laidMetH_of_parts3 (fuel := 8) (laidMet_of_run' 8 (by kernel_rfl) (by kernel_rfl)) (by kernel_rfl) (by kernel_rfl)
section
variable {H : Type} {enc : TypeId × Value → H} {W : World} {base : Nat} {spare : Nat → Bool} {held : Bool} {fuel : Nat}
set_option maxRecDepth 8000 in
theorem bool_of {cs : List Value} {x : DataW H × List MemPlace} {n : Nat} (h : DataW.trod enc Tryz.prog W base spare held n 4 cs = some x) : ∃ b : Bool, cs = [.bool b] ∧ x.1 = .lit (.bool b) := by
  obtain ⟨b, h1, h2⟩ := DataW.trod_bool Tryz.underlying4 h
  exact ⟨b, h1, by rw [h2]⟩
set_option maxRecDepth 100000 in
/-- one kind's row of the table, off its datum -/
theorem kind_cells {cs : List Value} {x : DataW H × List MemPlace} (h : DataW.trod enc Tryz.prog W base spare held fuel 192 cs = some x) (nm : List UInt8) (a b c d e : Int) (q : Bool)
    (hx : x.1 = .agg [.lit (.string nm), .lit (.int .i64 a), .lit (.int .i64 b), .lit (.int .i64 c), .lit (.int .i64 d), .lit (.int .i64 e), .lit (.bool q)]) :
    cs = [.string (st nm), .int .i64 a, .int .i64 b, .int .i64 c, .int .i64 d, .int .i64 e, .bool q] := by
  obtain ⟨xs, n, _, hx1, hl, hn, hel⟩ := DataW.trod_struct Tryz.underlying192 h
  have hl7 : cs.length = 7 := hl.trans (by kernel_rfl)
  match cs, hl7 with
  | [c0, c1, c2, c3, c4, c5, c6], _ =>
    match xs, hn with
    | [y0, y1, y2, y3, y4, y5, y6], _ =>
      rw [hx1] at hx
      simp only [List.map_cons, List.map_nil, DataW.agg.injEq, List.cons.injEq, and_true] at hx
      obtain ⟨e0, e1, e2, e3, e4, e5, e6⟩ := hx
      obtain ⟨s, r0, q0, _⟩ := DataW.trod_string Tryz.underlying9 (show DataW.trod enc Tryz.prog W base spare held n 9 [c0] = some y0 from hel 0 _ rfl)
      obtain ⟨n1, r1, q1, _⟩ := DataW.trod_int Tryz.underlying45 (show DataW.trod enc Tryz.prog W base spare held n 45 [c1] = some y1 from hel 1 _ rfl)
      obtain ⟨n2, r2, q2, _⟩ := DataW.trod_int Tryz.underlying3 (show DataW.trod enc Tryz.prog W base spare held n 3 [c2] = some y2 from hel 2 _ rfl)
      obtain ⟨n3, r3, q3, _⟩ := DataW.trod_int Tryz.underlying2 (show DataW.trod enc Tryz.prog W base spare held n 2 [c3] = some y3 from hel 3 _ rfl)
      obtain ⟨n4, r4, q4, _⟩ := DataW.trod_int Tryz.underlying2 (show DataW.trod enc Tryz.prog W base spare held n 2 [c4] = some y4 from hel 4 _ rfl)
      obtain ⟨n5, r5, q5, _⟩ := DataW.trod_int Tryz.underlying31 (show DataW.trod enc Tryz.prog W base spare held n 31 [c5] = some y5 from hel 5 _ rfl)
      obtain ⟨n6, r6, q6⟩ := bool_of (show DataW.trod enc Tryz.prog W base spare held n 4 [c6] = some y6 from hel 6 _ rfl)
      simp only [List.cons.injEq, and_true] at r0 r1 r2 r3 r4 r5 r6
      subst r0 r1 r2 r3 r4 r5 r6
      rw [q0] at e0; rw [q1] at e1; rw [q2] at e2; rw [q3] at e3; rw [q4] at e4; rw [q5] at e5; rw [q6] at e6
      simp only [DataW.lit.injEq, Lit.string.injEq, Lit.int.injEq, Lit.bool.injEq, true_and] at e0 e1 e2 e3 e4 e5 e6
      subst e1 e2 e3 e4 e5 e6
      have : s = st nm := by
        unfold st
        rw [← e0]
      rw [this]
set_option maxRecDepth 100000 in
/-- a key, off its cells -/
theorem key_cells {cs : List Value} {x : DataW H × List MemPlace} (h : DataW.trod enc Tryz.prog W base spare held fuel 33 cs = some x) : ∃ y : Ky, cs = [.int .i64 y.k, .int .i64 y.o, .int .i64 y.c, .int .i64 y.l, .int .i64 y.r, .int .i64 y.v] := by
  obtain ⟨xs, n, _, hx1, hl, hn, hel⟩ := DataW.trod_struct Tryz.underlying33 h
  have hl6 : cs.length = 6 := hl.trans (by kernel_rfl)
  match cs, hl6 with
  | [c0, c1, c2, c3, c4, c5], _ =>
    match xs, hn with
    | [y0, y1, y2, y3, y4, y5], _ =>
      obtain ⟨n0, r0, _, _⟩ := DataW.trod_int Tryz.underlying30 (show DataW.trod enc Tryz.prog W base spare held n 30 [c0] = some y0 from hel 0 _ rfl)
      obtain ⟨n1, r1, _, _⟩ := DataW.trod_int Tryz.underlying3 (show DataW.trod enc Tryz.prog W base spare held n 3 [c1] = some y1 from hel 1 _ rfl)
      obtain ⟨n2, r2, _, _⟩ := DataW.trod_int Tryz.underlying2 (show DataW.trod enc Tryz.prog W base spare held n 2 [c2] = some y2 from hel 2 _ rfl)
      obtain ⟨n3, r3, _, _⟩ := DataW.trod_int Tryz.underlying2 (show DataW.trod enc Tryz.prog W base spare held n 2 [c3] = some y3 from hel 3 _ rfl)
      obtain ⟨n4, r4, _, _⟩ := DataW.trod_int Tryz.underlying31 (show DataW.trod enc Tryz.prog W base spare held n 31 [c4] = some y4 from hel 4 _ rfl)
      obtain ⟨n5, r5, _, _⟩ := DataW.trod_int Tryz.underlying2 (show DataW.trod enc Tryz.prog W base spare held n 2 [c5] = some y5 from hel 5 _ rfl)
      simp only [List.cons.injEq, and_true] at r0 r1 r2 r3 r4 r5
      subst r0 r1 r2 r3 r4 r5
      exact ⟨⟨n0, n1, n2, n3, n4, n5⟩, rfl⟩
set_option maxRecDepth 8000 in
/-- a key that came in -/
theorem open_key {r : Reach} {b0 : Nat} {v : Value} {d : DataW H} {p : List MemPlace} (hv : Value.okWide Tryz.prog W r b0 33 v) (h : DataW.Trod enc Tryz.prog W base spare held 33 v d p) : ∃ y : Ky, v = y.val := by
  obtain ⟨cs, rfl, _⟩ := okWide_struct Tryz.underlying33 hv
  obtain ⟨f, hf⟩ := h
  obtain ⟨y, hy⟩ := key_cells hf
  refine ⟨y, ?_⟩
  obtain ⟨l⟩ := cs
  simp only [Value.cells] at hy
  subst hy
  rfl
end
set_option maxRecDepth 8000 in
/-- the condition gives the table -/
theorem tab_of {W : World} (h : laidMetH Tryz.prog laidK W) : Tab W := by
  rw [MakeChecks.laidMetH_plain _ _ _ (by kernel_rfl)] at h
  obtain ⟨ps, ⟨g0, t0, cs0, f0, p0, q0, hg0, ht0, hv0, hd0, _, _⟩, _, _⟩ := h
  obtain rfl := Option.some.inj (gKinds.symm.trans hg0)
  obtain rfl := Option.some.inj (tKinds.symm.trans ht0)
  obtain ⟨xs, m, _, hx, hl, hn, hel⟩ := DataW.trod_array Tryz.underlying193 hd0
  have c7 : Tryz.prog.cellsOf 192 = 7 := by kernel_rfl
  simp only [c7] at hel
  simp only [Prod.mk.injEq] at hx
  have hx1 := hx.1
  have row : ∀ k, k ≤ 10 → (cs0.toList.drop (k * 7)).take 7 = kCells k := by
    match xs, hn with
    | [x0, x1, x2, x3, x4, x5, x6, x7, x8, x9, x10], _ =>
      unfold Rows.laid_chatelaine_keys_kinds at hx1
      simp only [List.map_cons, List.map_nil, DataW.agg.injEq, List.cons.injEq, and_true] at hx1
      obtain ⟨e0, e1, e2, e3, e4, e5, e6, e7, e8, e9, e10⟩ := hx1
      intro k hk
      have hcase : k = 0 ∨ k = 1 ∨ k = 2 ∨ k = 3 ∨ k = 4 ∨ k = 5 ∨ k = 6 ∨ k = 7 ∨ k = 8 ∨ k = 9 ∨ k = 10 := by omega
      rcases hcase with rfl | rfl | rfl | rfl | rfl | rfl | rfl | rfl | rfl | rfl | rfl
      · exact kind_cells (hel 0 (by decide)) _ _ _ _ _ _ _ e0.symm
      · exact kind_cells (hel 1 (by decide)) _ _ _ _ _ _ _ e1.symm
      · exact kind_cells (hel 2 (by decide)) _ _ _ _ _ _ _ e2.symm
      · exact kind_cells (hel 3 (by decide)) _ _ _ _ _ _ _ e3.symm
      · exact kind_cells (hel 4 (by decide)) _ _ _ _ _ _ _ e4.symm
      · exact kind_cells (hel 5 (by decide)) _ _ _ _ _ _ _ e5.symm
      · exact kind_cells (hel 6 (by decide)) _ _ _ _ _ _ _ e6.symm
      · exact kind_cells (hel 7 (by decide)) _ _ _ _ _ _ _ e7.symm
      · exact kind_cells (hel 8 (by decide)) _ _ _ _ _ _ _ e8.symm
      · exact kind_cells (hel 9 (by decide)) _ _ _ _ _ _ _ e9.symm
      · exact kind_cells (hel 10 (by decide)) _ _ _ _ _ _ _ e10.symm
  intro k hk j u hu
  rw [World.var?_cell hg0 hv0]
  have hj : j < 7 := by
    have := (List.getElem?_eq_some_iff.1 hu).1
    simpa [kCells] using this
  rw [← row k hk, List.getElem?_take, if_pos hj, List.getElem?_drop] at hu
  simpa using hu
end Go.Proofs.YtogkdhpnbpgheaaGreatDoor
namespace Go.Proofs.YtogkdhpnbpgheaaGreatDoor
open Go.RowKit
/-- 0 of a key that may be, 2 of others -/
noncomputable def Ky.chk (x : Ky) : Int := @ite Int x.ok (Classical.propDecidable _) 0 2
theorem Ky.chk_yes {x : Ky} (h : x.ok) : x.chk = 0 := if_pos h
theorem Ky.chk_no {x : Ky} (h : ¬ x.ok) : x.chk = 2 := if_neg h
set_option maxRecDepth 8000 in
theorem kchk_any (x : Ky) (w : World) (hT : Tab w) : Calls Tryz.prog 81 #[x.val] w fun e w' => e = .returned (.int .i64 x.chk) ∧ Below w.heap.size w w' := by
  by_cases h : x.ok
  · rw [Ky.chk_yes h]; exact chk_ok _ _ _ _ _ _ w hT h
  · rw [Ky.chk_no h]; exact chk_no _ _ _ _ _ _ w hT h
set_option maxRecDepth 8000 in
theorem rchk_any (x : Ky) (w : World) : Calls Tryz.prog 17 #[x.val] w fun e w' => e = .returned (.int .i64 x.chk) ∧ Below w.heap.size w w' := by
  by_cases h : x.ok
  · rw [Ky.chk_yes h]; exact rchk_ok _ _ _ _ _ _ w h
  · rw [Ky.chk_no h]; exact rchk_no _ _ _ _ _ _ w h
/-- is a key of an object -/
def Ky.of (x : Ky) : Prop := x.ok ∧ 2 ≤ x.k ∧ x.k ≤ 7
set_option maxRecDepth 8000 in
theorem nA_of {x : Ky} (h : x.of) : nA x.k = true := by unfold nA; simpa using h.2
set_option maxRecDepth 8000 in
theorem nA_not {x : Ky} (h : ¬ x.of) (ho : x.ok) : nA x.k = false := by
  unfold nA
  simp only [decide_eq_false_iff_not]
  exact fun h' => h ⟨ho, h'⟩
set_option maxRecDepth 8000 in
theorem wants_of {x : Ky} (h : x.of) : kWants x.k.toNat = if x.k = 3 then 2 else 1 := by
  obtain ⟨k, o, c, l, r, v⟩ := x
  obtain ⟨_, h2, h7⟩ := h
  simp only at h2 h7 ⊢
  have hcase : k = 2 ∨ k = 3 ∨ k = 4 ∨ k = 5 ∨ k = 6 ∨ k = 7 := by omega
  rcases hcase with rfl | rfl | rfl | rfl | rfl | rfl <;> rfl
set_option maxRecDepth 8000 in
theorem wants_not {x : Ky} (h : ¬ x.of) (ho : x.ok) : kWants x.k.toNat = 0 := by
  have hk := okK_in ho
  have h' : ¬ (2 ≤ x.k ∧ x.k ≤ 7) := fun h' => h ⟨ho, h'⟩
  obtain ⟨k, o, c, l, r, v⟩ := x
  simp only at h' hk ⊢
  have hcase : k = 0 ∨ k = 1 ∨ k = 8 ∨ k = 9 ∨ k = 10 := by omega
  rcases hcase with rfl | rfl | rfl | rfl | rfl <;> rfl
/-- what a key wants -/
noncomputable def Ky.want (x : Ky) : Int := @ite Int x.of (Classical.propDecidable _) (if x.k = 3 then 2 else 1) 0
set_option maxRecDepth 8000 in
theorem kwant_any (x : Ky) (w : World) (hT : Tab w) : Calls Tryz.prog 141 #[x.val] w fun e w' => e = .returned (.int .i64 x.want) ∧ Below w.heap.size w w' := by
  unfold Ky.want
  by_cases h : x.of
  · rw [if_pos h, ← wants_of h]; exact wants_any _ _ _ _ _ _ w hT h.1
  · rw [if_neg h]
    by_cases ho : x.ok
    · rw [← wants_not h ho]; exact wants_any _ _ _ _ _ _ w hT ho
    · exact wants_no _ _ _ _ _ _ w hT ho
set_option maxRecDepth 8000 in
theorem rwant_any (x : Ky) (w : World) : Calls Tryz.prog 211 #[x.val] w fun e w' => e = .returned (.int .i64 x.want) ∧ Below w.heap.size w w' := by
  unfold Ky.want
  by_cases h : x.of
  · rw [if_pos h]
    by_cases h3 : x.k = 3
    · rw [if_pos h3]; exact rw_3 _ _ _ _ _ _ w h.1 (nA_of h) h3
    · rw [if_neg h3]; exact rw_1 _ _ _ _ _ _ w h.1 (nA_of h) h3
  · rw [if_neg h]
    by_cases ho : x.ok
    · exact rw_none _ _ _ _ _ _ w ho (nA_not h ho)
    · exact rw_no _ _ _ _ _ _ w ho
theorem kname_yes (x : Ky) (w : World) (hT : Tab w) (h : x.of) : Calls Tryz.prog 80 #[x.val] w fun e w' => e = .returned (.tuple #[.int .i64 x.o, .bool true]) ∧ Below w.heap.size w w' :=
  kn_some _ _ _ _ _ _ w hT h.1 (by rw [wants_of h]; split <;> decide)
set_option maxRecDepth 8000 in
theorem kname_no (x : Ky) (w : World) (hT : Tab w) (h : ¬ x.of) : Calls Tryz.prog 80 #[x.val] w fun e w' => e = .returned (.tuple #[.int .i64 0, .bool false]) ∧ Below w.heap.size w w' := by
  by_cases ho : x.ok
  · exact kn_none _ _ _ _ _ _ w hT ho (wants_not h ho)
  · exact kn_no _ _ _ _ _ _ w hT ho
theorem rname_yes (x : Ky) (w : World) (h : x.of) : Calls Tryz.prog 19 #[x.val] w fun e w' => e = .returned (.int .i64 x.o) ∧ Below w.heap.size w w' := rn_some _ _ _ _ _ _ w h.1 (nA_of h)
set_option maxRecDepth 8000 in
theorem rname_no (x : Ky) (w : World) (h : ¬ x.of) : Calls Tryz.prog 19 #[x.val] w fun e w' => e = .returned (.int .i64 (-1)) ∧ Below w.heap.size w w' := by
  by_cases ho : x.ok
  · exact rn_none _ _ _ _ _ _ w ho (nA_not h ho)
  · exact rn_no _ _ _ _ _ _ w ho
set_option maxRecDepth 8000 in
theorem of_o {x : Ky} (h : x.of) : 0 ≤ x.o := by
  obtain ⟨⟨n, _, _, h0, _⟩, _⟩ := h
  exact h0
theorem kchk_yes (x : Ky) (w : World) (hT : Tab w) (h : x.ok) : Calls Tryz.prog 81 #[x.val] w fun e w' => e = .returned (.int .i64 0) ∧ Below w.heap.size w w' := chk_ok _ _ _ _ _ _ w hT h
theorem kchk_no (x : Ky) (w : World) (hT : Tab w) (h : ¬ x.ok) : Calls Tryz.prog 81 #[x.val] w fun e w' => e = .returned (.int .i64 2) ∧ Below w.heap.size w w' := chk_no _ _ _ _ _ _ w hT h
end Go.Proofs.YtogkdhpnbpgheaaGreatDoor
namespace Go.Proofs.YtogkdhpnbpgheaaGreatDoor
open Go.ChangeShapes Go.WideShapes Go.ChangeAt Go.RowKit
/-- the six cells of a key -/
def KeyAt (w : World) (b o : Nat) (x : Ky) : Prop :=
  w.cell? ⟨b, o, none⟩ = some (.int .i64 x.k) ∧ w.cell? ⟨b, o + 1, none⟩ = some (.int .i64 x.o) ∧ w.cell? ⟨b, o + 2, none⟩ = some (.int .i64 x.c) ∧ w.cell? ⟨b, o + 3, none⟩ = some (.int .i64 x.l) ∧ w.cell? ⟨b, o + 4, none⟩ = some (.int .i64 x.r) ∧ w.cell? ⟨b, o + 5, none⟩ = some (.int .i64 x.v)
theorem KeyAt.lt {w : World} {b o : Nat} {x : Ky} (h : KeyAt w b o x) : b < w.heap.size := cell_lt h.1
set_option maxRecDepth 8000 in
theorem KeyAt.keep {w w' : World} {b o : Nat} {x : Ky} (h : KeyAt w b o x) (hb : Below w.heap.size w w') : KeyAt w' b o x := by
  have hl := h.lt
  obtain ⟨h0, h1, h2, h3, h4, h5⟩ := h
  exact ⟨(hb.cell (p := ⟨b, o, none⟩) hl).trans h0, (hb.cell (p := ⟨b, o + 1, none⟩) hl).trans h1, (hb.cell (p := ⟨b, o + 2, none⟩) hl).trans h2, (hb.cell (p := ⟨b, o + 3, none⟩) hl).trans h3, (hb.cell (p := ⟨b, o + 4, none⟩) hl).trans h4, (hb.cell (p := ⟨b, o + 5, none⟩) hl).trans h5⟩
theorem KeyAt.drew {w : World} {b o : Nat} {x : Ky} (h : KeyAt w b o x) : KeyAt w.drew b o x := h
theorem KeyAt.six {w : World} {b o : Nat} {x : Ky} (h : KeyAt w b o x) :
    w.cell? ⟨b, o, none⟩ = some (.int .i64 x.k) ∧ w.cell? ⟨b, o + 1, none⟩ = some (.int .i64 x.o) ∧ w.cell? ⟨b, o + 2, none⟩ = some (.int .i64 x.c) ∧ w.cell? ⟨b, o + 3, none⟩ = some (.int .i64 x.l) ∧ w.cell? ⟨b, o + 4, none⟩ = some (.int .i64 x.r) ∧ w.cell? ⟨b, o + 5, none⟩ = some (.int .i64 x.v) := h
/-- the cells from A on read as the keys l -/
def RdK (w : World) (A : Option Addr) (l : List Ky) : Prop := ∀ i (h : i < l.length), ∃ b o, A = some ⟨b, o, none⟩ ∧ KeyAt w b (o + i * 6) l[i]
theorem RdK.drew {w : World} {A : Option Addr} {l : List Ky} (h : RdK w A l) : RdK w.drew A l := h
theorem RdK.keep {w w' : World} {A : Option Addr} {l : List Ky} (h : RdK w A l) (hb : Below w.heap.size w w') : RdK w' A l := fun i hi => by
  obtain ⟨b, o, e, hk⟩ := h i hi
  exact ⟨b, o, e, hk.keep hb⟩
theorem KeyAt.alloc {w : World} {b o : Nat} {x : Ky} (h : KeyAt w b o x) (u : Obj) : KeyAt (w.alloc u) b o x := h.keep ((Below.refl _ _).alloc (Nat.le_refl _) _)
theorem RdK.alloc {w : World} {A : Option Addr} {l : List Ky} (h : RdK w A l) (u : Obj) : RdK (w.alloc u) A l := h.keep ((Below.refl _ _).alloc (Nat.le_refl _) _)
section
variable {H : Type} {enc : TypeId × Value → H} {W : World} {base : Nat} {spare : Nat → Bool} {held : Bool}
set_option maxRecDepth 8000 in
theorem add_add_flat {a : Addr} (h : a.spot = none) (n : Nat) : (a.add n) = ⟨a.block, a.off + n, none⟩ := by
  obtain ⟨b, o, s⟩ := a
  simp only at h
  subst h
  exact add_flat b o n
end
end Go.Proofs.YtogkdhpnbpgheaaGreatDoor
namespace Go.Proofs.YtogkdhpnbpgheaaGreatDoor
open Go.RowKit
/-- every block of w that is not in S lies in w' as it lay -/
structure Fr (S : Nat → Prop) (w w' : World) : Prop where
  os : w'.os = w.os
  tape : w'.tape = w.tape
  output : w'.output = w.output
  size : w.heap.size ≤ w'.heap.size
  block : ∀ k, k < w.heap.size → ¬ S k → w'.heap[k]? = w.heap[k]?
section
variable {S : Nat → Prop} {a b c w w' : World}
theorem Fr.refl (S : Nat → Prop) (w : World) : Fr S w w := ⟨rfl, rfl, rfl, Nat.le_refl _, fun _ _ _ => rfl⟩
theorem Fr.trans (h : Fr S a b) (k : Fr S b c) : Fr S a c :=
  ⟨k.os.trans h.os, k.tape.trans h.tape, k.output.trans h.output, Nat.le_trans h.size k.size, fun i hi hn => (k.block i (Nat.lt_of_lt_of_le hi h.size) hn).trans (h.block i hi hn)⟩
theorem Fr.then_ {T : Nat → Prop} (h : Fr S a b) (k : Fr T b c) (hT : ∀ i, i < a.heap.size → T i → S i) : Fr S a c :=
  ⟨k.os.trans h.os, k.tape.trans h.tape, k.output.trans h.output, Nat.le_trans h.size k.size, fun i hi hn => (k.block i (Nat.lt_of_lt_of_le hi h.size) (fun ht => hn (hT i hi ht))).trans (h.block i hi hn)⟩
theorem Fr.mono {T : Nat → Prop} (h : Fr S a b) (hT : ∀ i, i < a.heap.size → S i → T i) : Fr T a b := ⟨h.os, h.tape, h.output, h.size, fun i hi hn => h.block i hi (fun hs => hn (hT i hi hs))⟩
theorem Fr.of_below (h : Below w.heap.size w w') : Fr S w w' := ⟨h.os, h.tape, h.output, h.size, fun i hi _ => h.block i hi⟩
theorem Fr.below (h : Fr S a b) (k : Below b.heap.size b c) : Fr S a c := h.trans (Fr.of_below k)
theorem Fr.of_grown {row : Option Nat} (h : w.grownBy w' row) (hr : ∀ k, row = some k → S k) : Fr S w w' := ⟨h.os, h.tape, h.output, h.size, fun i hi hn => h.block i hi (fun e => hn (hr i e.symm))⟩
theorem Fr.grown {row : Option Nat} (h : Fr S a b) (k : b.grownBy c row) (hr : ∀ i, row = some i → i < a.heap.size → S i) : Fr S a c :=
  ⟨k.os.trans h.os, k.tape.trans h.tape, k.output.trans h.output, Nat.le_trans h.size k.size, fun i hi hn => (k.block i (Nat.lt_of_lt_of_le hi h.size) (fun e => hn (hr i e.symm hi))).trans (h.block i hi hn)⟩
theorem Fr.alloc (h : Fr S a b) (o : Obj) : Fr S a (b.alloc o) := h.grown (World.grownBy_alloc b o none) (fun _ e => by cases e)
theorem Fr.setCell (h : Fr S a b) {p : Addr} (hp : p.block < a.heap.size → S p.block) (u : Value) : Fr S a (b.setCell p u) :=
  ⟨h.os, h.tape, h.output, by simpa [World.setCell] using h.size, fun i hi hn => (Below.heap_setCell b p u i (by rintro rfl; exact hn (hp hi))).trans (h.block i hi hn)⟩
theorem Fr.drew (h : Fr S a b) : Fr S a b.drew := ⟨h.os, h.tape, h.output, h.size, h.block⟩
theorem Fr.drewN (h : Fr S a b) (n : Nat) : Fr S a (b.drewN n) := ⟨h.os, h.tape, h.output, h.size, h.block⟩
theorem Fr.to_below {B : Nat} (h : Fr S a b) (hS : ∀ k, S k → B ≤ k) (hB : B ≤ a.heap.size) : Below B a b := ⟨h.os, h.tape, h.output, h.size, fun k hk => h.block k (Nat.lt_of_lt_of_le hk hB) (fun hs => by have := hS k hs; omega)⟩
theorem Fr.cell (h : Fr S a b) {p : Addr} (hp : p.block < a.heap.size) (hn : ¬ S p.block) : b.cell? p = a.cell? p := World.cell?_of_block (h.block p.block hp hn)
end
end Go.Proofs.YtogkdhpnbpgheaaGreatDoor

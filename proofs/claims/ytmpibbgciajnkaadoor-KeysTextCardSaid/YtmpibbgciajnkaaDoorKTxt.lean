/- keys.Text, the definition's: for every key; a slice of keys, their Values' bounds. -/
import Derived.Test.YtmpibbgciajnkaaDoorKSl
import Derived.Test.YtmpibbgciajnkaaDoorKTxA
import Derived.Test.YtmpibbgciajnkaaDoorKTxB
import Derived.Test.YtmpibbgciajnkaaDoorKTxC
import Derived.Test.YtmpibbgciajnkaaDoorKTxD
import Derived.Test.YtmpibbgciajnkaaDoorKRtA
import Derived.Test.YtmpibbgciajnkaaDoorKRtB
import Derived.Test.YtmpibbgciajnkaaDoorKRtC
import Derived.Test.YtmpibbgciajnkaaDoorKRtD
namespace Go.Proofs.YtmpibbgciajnkaaDoor
open Go.ChangeShapes Go.WideShapes Go.ChangeAt Go.RowKit
/-- a Value fits an int64 -/
def Vb (x : Ky) : Prop := -9223372036854775808 ≤ x.v ∧ x.v ≤ 9223372036854775807
theorem bounds_i64 {n : Int} (h : (Lit.int .i64 n).wf = true) : -9223372036854775808 ≤ n ∧ n ≤ 9223372036854775807 := by
  have h1 : IntKind.i64.min = -9223372036854775808 := rfl
  have h2 : IntKind.i64.max = 9223372036854775807 := rfl
  simp only [Lit.wf, Bool.and_eq_true, decide_eq_true_eq] at h
  omega
/-- the text of a key -/
def Ky.txt (x : Ky) : ByteArray := match x.k.toNat with
  | 0 => (st (kName 0))
  | 1 => ((st (kName 1)) ++ (sp ++ dec x.v))
  | 2 => ((((st (kName 2)) ++ (sp ++ dec x.o)) ++ (sp ++ dec x.c)) ++ (sp ++ dec x.r))
  | 3 => ((((st (kName 3)) ++ (sp ++ dec x.o)) ++ (sp ++ dec x.c)) ++ (sp ++ dec x.r))
  | 4 => (((st (kName 4)) ++ (sp ++ dec x.o)) ++ (sp ++ dec x.c))
  | 5 => (((st (kName 5)) ++ (sp ++ dec x.o)) ++ (sp ++ dec x.c))
  | 6 => ((((st (kName 6)) ++ (sp ++ dec x.o)) ++ (sp ++ dec x.c)) ++ (sp ++ dec x.v))
  | 7 => ((((st (kName 7)) ++ (sp ++ dec x.o)) ++ (sp ++ dec x.c)) ++ (sp ++ dec x.l))
  | 8 => (st (kName 8))
  | 9 => (st (kName 9))
  | _ => (st (kName 10))
set_option maxHeartbeats 1000000 in
theorem ktext_no (x : Ky) (w : World) (hT : Tab w) (h : ¬ x.ok) :
    Calls Tryd.prog 27 #[x.val] w fun e w' => e = .returned (.tuple #[.string { data := #[] }, .int .i64 2]) ∧ Below w.heap.size w w' := by
  have HT := Lib.hid hT
  have HK := Lib.hid h
  clear hT h
  go_enter Tryd.func27, Tryd.ntmps27
  go_wp2_with (go_at_call 14; refine (kchk_no x _ (HT.out.alloc _) HK.out).mono ?_; rintro e w1 ⟨rfl, b1⟩; have HB := Lib.hid (below_box b1); clear b1)
  exact bodyPost_ret (results_tmp2 rfl _ _ _) rfl ⟨rfl, HB.out⟩
theorem ktext_any (x : Ky) (w : World) (hT : Tab w) (hP : P10 w) (h : x.ok) (hv : Vb x) :
    Calls Tryd.prog 27 #[x.val] w fun e w' => e = .returned (.tuple #[.string x.txt, .int .i64 0]) ∧ Below w.heap.size w w' := by
  have hk := okK_in h
  obtain ⟨k, o, c, l, r, v⟩ := x
  simp only at hk
  have hcase : k = 0 ∨ k = 1 ∨ k = 2 ∨ k = 3 ∨ k = 4 ∨ k = 5 ∨ k = 6 ∨ k = 7 ∨ k = 8 ∨ k = 9 ∨ k = 10 := by omega
  rcases hcase with rfl | rfl | rfl | rfl | rfl | rfl | rfl | rfl | rfl | rfl | rfl
  · exact ktext_0 o c l r v w hT hP h hv
  · exact ktext_1 o c l r v w hT hP h hv
  · exact ktext_2 o c l r v w hT hP h hv
  · exact ktext_3 o c l r v w hT hP h hv
  · exact ktext_4 o c l r v w hT hP h hv
  · exact ktext_5 o c l r v w hT hP h hv
  · exact ktext_6 o c l r v w hT hP h hv
  · exact ktext_7 o c l r v w hT hP h hv
  · exact ktext_8 o c l r v w hT hP h hv
  · exact ktext_9 o c l r v w hT hP h hv
  · exact ktext_10 o c l r v w hT hP h hv
theorem rtext_any (x : Ky) (w : World) (hP : P10 w) (h : x.ok) (hv : Vb x) :
    Calls Tryd.prog 28 #[x.val] w fun e w' => e = .returned (.string x.txt) ∧ Below w.heap.size w w' := by
  have hk := okK_in h
  obtain ⟨k, o, c, l, r, v⟩ := x
  simp only at hk
  have hcase : k = 0 ∨ k = 1 ∨ k = 2 ∨ k = 3 ∨ k = 4 ∨ k = 5 ∨ k = 6 ∨ k = 7 ∨ k = 8 ∨ k = 9 ∨ k = 10 := by omega
  rcases hcase with rfl | rfl | rfl | rfl | rfl | rfl | rfl | rfl | rfl | rfl | rfl
  · exact rtext_0 o c l r v w hP h hv
  · exact rtext_1 o c l r v w hP h hv
  · exact rtext_2 o c l r v w hP h hv
  · exact rtext_3 o c l r v w hP h hv
  · exact rtext_4 o c l r v w hP h hv
  · exact rtext_5 o c l r v w hP h hv
  · exact rtext_6 o c l r v w hP h hv
  · exact rtext_7 o c l r v w hP h hv
  · exact rtext_8 o c l r v w hP h hv
  · exact rtext_9 o c l r v w hP h hv
  · exact rtext_10 o c l r v w hP h hv
section
variable {H : Type} {enc : TypeId × Value → H} {W : World} {base : Nat} {spare : Nat → Bool} {held : Bool} {fuel : Nat}
set_option maxRecDepth 100000 in
/-- a key, off its cells -/
theorem key_cells_wf {cs : List Value} {x : DataW H × List MemPlace} (h : DataW.trod enc Tryd.prog W base spare held fuel 25 cs = some x) : ∃ y : Ky, cs = [.int .i64 y.k, .int .i64 y.o, .int .i64 y.c, .int .i64 y.l, .int .i64 y.r, .int .i64 y.v] ∧ Vb y := by
  obtain ⟨xs, n, _, hx1, hl, hn, hel⟩ := DataW.trod_struct Tryd.underlying25 h
  have hl6 : cs.length = 6 := hl.trans (by kernel_rfl)
  match cs, hl6 with
  | [c0, c1, c2, c3, c4, c5], _ =>
    match xs, hn with
    | [y0, y1, y2, y3, y4, y5], _ =>
      obtain ⟨n0, r0, _, _⟩ := DataW.trod_int Tryd.underlying22 (show DataW.trod enc Tryd.prog W base spare held n 22 [c0] = some y0 from hel 0 _ rfl)
      obtain ⟨n1, r1, _, _⟩ := DataW.trod_int Tryd.underlying3 (show DataW.trod enc Tryd.prog W base spare held n 3 [c1] = some y1 from hel 1 _ rfl)
      obtain ⟨n2, r2, _, _⟩ := DataW.trod_int Tryd.underlying2 (show DataW.trod enc Tryd.prog W base spare held n 2 [c2] = some y2 from hel 2 _ rfl)
      obtain ⟨n3, r3, _, _⟩ := DataW.trod_int Tryd.underlying2 (show DataW.trod enc Tryd.prog W base spare held n 2 [c3] = some y3 from hel 3 _ rfl)
      obtain ⟨n4, r4, _, _⟩ := DataW.trod_int Tryd.underlying23 (show DataW.trod enc Tryd.prog W base spare held n 23 [c4] = some y4 from hel 4 _ rfl)
      obtain ⟨n5, r5, _, w5⟩ := DataW.trod_int Tryd.underlying2 (show DataW.trod enc Tryd.prog W base spare held n 2 [c5] = some y5 from hel 5 _ rfl)
      simp only [List.cons.injEq, and_true] at r0 r1 r2 r3 r4 r5
      subst r0 r1 r2 r3 r4 r5
      exact ⟨⟨n0, n1, n2, n3, n4, n5⟩, rfl, bounds_i64 w5⟩
theorem open_keys_wf {r : Reach} {b0 : Nat} {v : Value} {d : DataW H} {p : List MemPlace} (hv : Value.okWide Tryd.prog W r b0 35 v) (h : DataW.Trod enc Tryd.prog W base spare held 35 v d p) :
    ∃ (A : Option Addr) (l : List Ky) (cap : Nat), v = .slice A l.length cap ∧ l.length ≤ cap ∧ cap ≤ maxLen ∧ RdK W A l ∧ ∀ i (h : i < l.length), Vb l[i] := by
  obtain ⟨A, len, cap, rfl⟩ := okWide_slice Tryd.underlying35 hv
  obtain ⟨fuel, hf⟩ := h
  have c6 : Tryd.prog.cellsOf 25 = 6 := by kernel_rfl
  rcases Go.Deep.open_slice Tryd.underlying35 hf with ⟨hcs, _⟩ | ⟨a, len', cap', m, n, D, Pl, hcs, hb, hl, hm, hmm, hx, hi⟩
  · simp only [Value.cells, List.cons.injEq, Value.slice.injEq, and_true] at hcs
    obtain ⟨rfl, rfl, rfl⟩ := hcs
    exact ⟨none, [], 0, rfl, Nat.le_refl _, by simp [maxLen], fun i h => absurd h (by simp), fun i h => absurd h (by simp)⟩
  · simp only [Value.cells, List.cons.injEq, Value.slice.injEq, and_true] at hcs
    obtain ⟨rfl, rfl, rfl⟩ := hcs
    rw [c6] at hi
    have hlen : len ≤ m := by rw [hmm]; split <;> omega
    have key : ∀ i, i < len → ∃ x : Ky, a.spot = none ∧ Vb x ∧ KeyAt W a.block (a.off + i * 6) x := by
      intro i hil
      obtain ⟨cs', hc, ht⟩ := hi i (by omega)
      obtain ⟨x, rfl, hvb⟩ := key_cells_wf ht
      obtain ⟨_, _, hat⟩ := World.cells?_some hc
      have h0 := hat 0 (by decide)
      have hs : (a.add (i * 6)).spot = none := by
        have := World.cell?_spot h0
        simpa [Addr.add] using this
      have hs' : a.spot = none := by
        have z0 := (hi 0 (by omega))
        obtain ⟨cs0, hc0, ht0⟩ := z0
        obtain ⟨y, rfl⟩ := key_cells ht0
        have := World.cell?_spot ((World.cells?_some hc0).2.2 0 (by decide))
        simpa [Addr.add] using this
      refine ⟨x, hs', hvb, ?_⟩
      have e := add_add_flat hs' (i * 6)
      have g : ∀ j u, j < 6 → ([.int .i64 x.k, .int .i64 x.o, .int .i64 x.c, .int .i64 x.l, .int .i64 x.r, .int .i64 x.v] : List Value)[j]? = some u → W.cell? ⟨a.block, a.off + i * 6 + j, none⟩ = some u := by
        intro j u hj hu
        have := hat j hj
        rw [e, add_flat] at this
        rw [this, hu]
      exact ⟨g 0 _ (by decide) rfl, g 1 _ (by decide) rfl, g 2 _ (by decide) rfl, g 3 _ (by decide) rfl, g 4 _ (by decide) rfl, g 5 _ (by decide) rfl⟩
    have ex : ∃ l : List Ky, l.length = len ∧ ∀ i (h : i < l.length), a.spot = none ∧ Vb l[i] ∧ KeyAt W a.block (a.off + i * 6) l[i] := by
      refine ⟨(List.range len).map fun i => if h : i < len then (key i h).choose else ⟨0, 0, 0, 0, 0, 0⟩, by simp, fun i h => ?_⟩
      have hil : i < len := by simpa using h
      simp only [List.getElem_map, List.getElem_range, hil, dif_pos]
      exact (key i hil).choose_spec
    obtain ⟨l, rfl, hl2⟩ := ex
    refine ⟨some a, l, cap, rfl, hl, hm, fun i h => ?_, fun i h => (hl2 i h).2.1⟩
    obtain ⟨hs, _, hk⟩ := hl2 i h
    obtain ⟨b, o, s⟩ := a
    simp only at hs
    subst hs
    exact ⟨b, o, rfl, hk⟩
end
end Go.Proofs.YtmpibbgciajnkaaDoor

/- law 10: does: what a call answers, by the program and by the document. -/
import Derived.Test.YtedlacdijkggjaaDoorGKn
import Derived.Test.YtedlacdijkggjaaDoorGSame
namespace Go.Proofs.YtedlacdijkggjaaDoor
open Go.RowKit
/-- a call's cells -/
abbrev pa (k a n : Int) (x y : Ky) (s : List UInt8) : Array Value := #[.int .i64 k, .int .i64 a, .int .i64 n, .int .i64 x.k, .int .i64 x.o, .int .i64 x.c, .int .i64 x.l, .int .i64 x.r, .int .i64 x.v, .int .i64 y.k, .int .i64 y.o, .int .i64 y.c, .int .i64 y.l, .int .i64 y.r, .int .i64 y.v, .string (st s)]
theorem Blk.pa_ {w : World} {g : Nat} {t : TypeId} {k a n : Int} {x y : Ky} {s : List UInt8} (h : Blk w g t (pa k a n x y s)) : w.cell? ⟨g, 0, none⟩ = some (.int .i64 k) ∧ w.cell? ⟨g, 1, none⟩ = some (.int .i64 a) ∧ w.cell? ⟨g, 2, none⟩ = some (.int .i64 n) ∧ w.cell? ⟨g, 3, none⟩ = some (.int .i64 x.k) ∧ w.cell? ⟨g, 4, none⟩ = some (.int .i64 x.o) ∧ w.cell? ⟨g, 5, none⟩ = some (.int .i64 x.c) ∧ w.cell? ⟨g, 6, none⟩ = some (.int .i64 x.l) ∧ w.cell? ⟨g, 7, none⟩ = some (.int .i64 x.r) ∧ w.cell? ⟨g, 8, none⟩ = some (.int .i64 x.v) ∧ w.cell? ⟨g, 9, none⟩ = some (.int .i64 y.k) ∧ w.cell? ⟨g, 10, none⟩ = some (.int .i64 y.o) ∧ w.cell? ⟨g, 11, none⟩ = some (.int .i64 y.c) ∧ w.cell? ⟨g, 12, none⟩ = some (.int .i64 y.l) ∧ w.cell? ⟨g, 13, none⟩ = some (.int .i64 y.r) ∧ w.cell? ⟨g, 14, none⟩ = some (.int .i64 y.v) ∧ w.cell? ⟨g, 15, none⟩ = some (.string (st s)) :=
  ⟨h.cell 0, h.cell 1, h.cell 2, h.cell 3, h.cell 4, h.cell 5, h.cell 6, h.cell 7, h.cell 8, h.cell 9, h.cell 10, h.cell 11, h.cell 12, h.cell 13, h.cell 14, h.cell 15⟩
section
variable {w : World} {base p : Nat} {A : Option Addr} {cap : Nat} {ps : List Nat} {os' : List Oj} {L : Option Addr} {n' c' : Nat}
set_option maxRecDepth 100000 in
set_option maxHeartbeats 2000000 in
theorem does_1 (a n m : Int) (x y : Ky) (s b : List UInt8) (hg : ∀ W, Below w.heap.size w W → Calls Tryd.prog 12 #[pv p, x.val, .int .i64 a, .int .i64 n] W fun e w' => e = .returned (.tuple #[.string (st b), .int .i64 m]) ∧ Below W.heap.size W w')
    (hr : ∀ W, Below w.heap.size w W → Calls Tryd.prog 18 #[.slice L n' c', x.val, .int .i64 a, .int .i64 n] W fun e w' => e = .returned (.tuple #[.string (st b), .int .i64 m]) ∧ Below W.heap.size W w') :
    Calls Tryd.prog 10 #[pv p, .slice L n' c', .agg (pa 1 a n x y s)] w fun e w' => e = .returned (.tuple #[.slice L n' c', .bool true]) ∧ Below w.heap.size w w' := by
  have HG := Lib.hid hg
  have HR := Lib.hid hr
  clear hg hr
  have HB0 := Lib.hid ((Below.refl w.heap.size w).alloc (Nat.le_refl _) (.cells (pa 1 a n x y s) 32))
  have HA0 := Lib.hid (Blk.new w 32 (pa 1 a n x y s))
  obtain ⟨c0, c1, c2, c3, c4, c5, c6, c7, c8, c9, c10, c11, c12, c13, c14, c15⟩ := HA0.out.pa_
  go_enter Tryd.func10, Tryd.ntmps10
  go_wp2_with (first
    | (go_at_call 12; refine (HG.out _ HB0.out).mono ?_; rintro e w1 ⟨rfl, b1⟩; have HB1 := Lib.hid (HB0.out.trans (b1.mono HB0.out.size)); have HA1 := Lib.hid (HA0.out.keep b1); clear b1 c0 c1 c2 c3 c4 c5 c6 c7 c8 c9 c10 c11 c12 c13 c14 c15; obtain ⟨c0, c1, c2, c3, c4, c5, c6, c7, c8, c9, c10, c11, c12, c13, c14, c15⟩ := HA1.out.pa_)
    | (go_at_call 18; refine (HR.out _ HB1.out).mono ?_; rintro e w2 ⟨rfl, b2⟩; have HB2 := Lib.hid (HB1.out.trans (b2.mono HB1.out.size)); clear b2))
  go_ret2
  exact ⟨rfl, HB2.out⟩
set_option maxRecDepth 100000 in
set_option maxHeartbeats 2000000 in
theorem does_2 (a n m : Int) (x y : Ky) (s : List UInt8) (hps : ∀ k ∈ ps, k < w.heap.size) (hg : ∀ W, Below w.heap.size w W → Calls Tryd.prog 13 #[pv p, x.val, .int .i64 a, .string (st s)] W fun e w' => e = .returned (.int .i64 m) ∧ StAt w' base p A cap ps os' ∧ Fr (fun k => k ∈ ps) W w')
    (hr : ∀ W, Fr (fun k => k ∈ ps) w W → Calls Tryd.prog 19 #[.slice L n' c', x.val, .int .i64 a, .string (st s)] W fun e w' => ∃ L' c'', e = .returned (.tuple #[.slice L' n' c'', .int .i64 m]) ∧ (L' = L ∨ ∃ q, L' = some ⟨q, 0, none⟩ ∧ W.heap.size ≤ q) ∧ RdO w' L' os' ∧ Below W.heap.size W w') :
    Calls Tryd.prog 10 #[pv p, .slice L n' c', .agg (pa 2 a n x y s)] w fun e w' => ∃ L' c'', e = .returned (.tuple #[.slice L' n' c'', .bool true]) ∧ (L' = L ∨ ∃ q, L' = some ⟨q, 0, none⟩ ∧ w.heap.size ≤ q) ∧ StAt w' base p A cap ps os' ∧ RdO w' L' os' ∧ Fr (fun k => k ∈ ps) w w' := by
  have HPS := Lib.hid hps
  have HG := Lib.hid hg
  have HR := Lib.hid hr
  clear hg hr hps
  have HB0 := Lib.hid ((Below.refl w.heap.size w).alloc (Nat.le_refl _) (.cells (pa 2 a n x y s) 32))
  have HA0 := Lib.hid (Blk.new w 32 (pa 2 a n x y s))
  obtain ⟨c0, c1, c2, c3, c4, c5, c6, c7, c8, c9, c10, c11, c12, c13, c14, c15⟩ := HA0.out.pa_
  go_enter Tryd.func10, Tryd.ntmps10
  go_wp2_with (first
    | (go_at_call 13; refine (HG.out _ HB0.out).mono ?_; rintro e w1 ⟨rfl, s1, f1⟩; have HF1 := Lib.hid ((Fr.of_below HB0.out : Fr (fun k => k ∈ ps) w _).trans f1); have HA1 := Lib.hid (show Blk _ _ _ _ from (f1.block _ HA0.out.lt (fun hm => by have := HPS.out _ hm; omega)).trans HA0.out); have HS1 := Lib.hid s1; clear f1 s1 c0 c1 c2 c3 c4 c5 c6 c7 c8 c9 c10 c11 c12 c13 c14 c15; obtain ⟨c0, c1, c2, c3, c4, c5, c6, c7, c8, c9, c10, c11, c12, c13, c14, c15⟩ := HA1.out.pa_)
    | (go_at_call 19; refine (HR.out _ HF1.out).mono ?_; rintro e w2 ⟨L2, c2', rfl, hl2, hr2, b2⟩; have HL2 := Lib.hid hl2; have HF2 := Lib.hid (HF1.out.below b2); have HR2 := Lib.hid hr2; have HS2 := Lib.hid (HS1.out.below b2); clear b2 hl2 hr2))
  go_ret2
  refine ⟨L2, c2', rfl, HL2.out.imp id (fun ⟨q, h1, h2⟩ => ⟨q, h1, by have := HF1.out.size; omega⟩), HS2.out, HR2.out, HF2.out⟩
set_option maxRecDepth 100000 in
set_option maxHeartbeats 2000000 in
theorem does_3 (a n m : Int) (x y : Ky) (s : List UInt8) (hps : ∀ k ∈ ps, k < w.heap.size) (hg : ∀ W, Below w.heap.size w W → Calls Tryd.prog 14 #[pv p, x.val] W fun e w' => e = .returned (.int .i64 m) ∧ StAt w' base p A cap ps os' ∧ Fr (fun k => k ∈ ps) W w')
    (hr : ∀ W, Fr (fun k => k ∈ ps) w W → Calls Tryd.prog 20 #[.slice L n' c', x.val] W fun e w' => ∃ L' c'', e = .returned (.tuple #[.slice L' n' c'', .int .i64 m]) ∧ (L' = L ∨ ∃ q, L' = some ⟨q, 0, none⟩ ∧ W.heap.size ≤ q) ∧ RdO w' L' os' ∧ Below W.heap.size W w') :
    Calls Tryd.prog 10 #[pv p, .slice L n' c', .agg (pa 3 a n x y s)] w fun e w' => ∃ L' c'', e = .returned (.tuple #[.slice L' n' c'', .bool true]) ∧ (L' = L ∨ ∃ q, L' = some ⟨q, 0, none⟩ ∧ w.heap.size ≤ q) ∧ StAt w' base p A cap ps os' ∧ RdO w' L' os' ∧ Fr (fun k => k ∈ ps) w w' := by
  have HPS := Lib.hid hps
  have HG := Lib.hid hg
  have HR := Lib.hid hr
  clear hg hr hps
  have HB0 := Lib.hid ((Below.refl w.heap.size w).alloc (Nat.le_refl _) (.cells (pa 3 a n x y s) 32))
  have HA0 := Lib.hid (Blk.new w 32 (pa 3 a n x y s))
  obtain ⟨c0, c1, c2, c3, c4, c5, c6, c7, c8, c9, c10, c11, c12, c13, c14, c15⟩ := HA0.out.pa_
  go_enter Tryd.func10, Tryd.ntmps10
  go_wp2_with (first
    | (go_at_call 14; refine (HG.out _ HB0.out).mono ?_; rintro e w1 ⟨rfl, s1, f1⟩; have HF1 := Lib.hid ((Fr.of_below HB0.out : Fr (fun k => k ∈ ps) w _).trans f1); have HA1 := Lib.hid (show Blk _ _ _ _ from (f1.block _ HA0.out.lt (fun hm => by have := HPS.out _ hm; omega)).trans HA0.out); have HS1 := Lib.hid s1; clear f1 s1 c0 c1 c2 c3 c4 c5 c6 c7 c8 c9 c10 c11 c12 c13 c14 c15; obtain ⟨c0, c1, c2, c3, c4, c5, c6, c7, c8, c9, c10, c11, c12, c13, c14, c15⟩ := HA1.out.pa_)
    | (go_at_call 20; refine (HR.out _ HF1.out).mono ?_; rintro e w2 ⟨L2, c2', rfl, hl2, hr2, b2⟩; have HL2 := Lib.hid hl2; have HF2 := Lib.hid (HF1.out.below b2); have HR2 := Lib.hid hr2; have HS2 := Lib.hid (HS1.out.below b2); clear b2 hl2 hr2))
  go_ret2
  refine ⟨L2, c2', rfl, HL2.out.imp id (fun ⟨q, h1, h2⟩ => ⟨q, h1, by have := HF1.out.size; omega⟩), HS2.out, HR2.out, HF2.out⟩
set_option maxRecDepth 100000 in
set_option maxHeartbeats 2000000 in
theorem does_4 (k : Int) (a n m : Int) (x y : Ky) (s : List UInt8) (h1 : k ≠ 1) (h2 : k ≠ 2) (h3 : k ≠ 3) (hps : ∀ k ∈ ps, k < w.heap.size) (hg : ∀ W, Below w.heap.size w W → Calls Tryd.prog 15 #[pv p, x.val, y.val] W fun e w' => e = .returned (.int .i64 m) ∧ StAt w' base p A cap ps os' ∧ Fr (fun k => k ∈ ps) W w')
    (hr : ∀ W, Fr (fun k => k ∈ ps) w W → Calls Tryd.prog 21 #[.slice L n' c', x.val, y.val] W fun e w' => ∃ L' c'', e = .returned (.tuple #[.slice L' n' c'', .int .i64 m]) ∧ (L' = L ∨ ∃ q, L' = some ⟨q, 0, none⟩ ∧ W.heap.size ≤ q) ∧ RdO w' L' os' ∧ Below W.heap.size W w') :
    Calls Tryd.prog 10 #[pv p, .slice L n' c', .agg (pa k a n x y s)] w fun e w' => ∃ L' c'', e = .returned (.tuple #[.slice L' n' c'', .bool true]) ∧ (L' = L ∨ ∃ q, L' = some ⟨q, 0, none⟩ ∧ w.heap.size ≤ q) ∧ StAt w' base p A cap ps os' ∧ RdO w' L' os' ∧ Fr (fun k => k ∈ ps) w w' := by
  have HPS := Lib.hid hps
  have HG := Lib.hid hg
  have HR := Lib.hid hr
  clear hg hr hps
  have d1 : (k == 1) = false := by simpa using h1
  have d2 : (k == 2) = false := by simpa using h2
  have d3 : (k == 3) = false := by simpa using h3
  clear h1 h2 h3
  have HB0 := Lib.hid ((Below.refl w.heap.size w).alloc (Nat.le_refl _) (.cells (pa k a n x y s) 32))
  have HA0 := Lib.hid (Blk.new w 32 (pa k a n x y s))
  obtain ⟨c0, c1, c2, c3, c4, c5, c6, c7, c8, c9, c10, c11, c12, c13, c14, c15⟩ := HA0.out.pa_
  go_enter Tryd.func10, Tryd.ntmps10
  go_wp2_with (first
    | (go_at_call 15; refine (HG.out _ HB0.out).mono ?_; rintro e w1 ⟨rfl, s1, f1⟩; have HF1 := Lib.hid ((Fr.of_below HB0.out : Fr (fun k => k ∈ ps) w _).trans f1); have HA1 := Lib.hid (show Blk _ _ _ _ from (f1.block _ HA0.out.lt (fun hm => by have := HPS.out _ hm; omega)).trans HA0.out); have HS1 := Lib.hid s1; clear f1 s1 c0 c1 c2 c3 c4 c5 c6 c7 c8 c9 c10 c11 c12 c13 c14 c15; obtain ⟨c0, c1, c2, c3, c4, c5, c6, c7, c8, c9, c10, c11, c12, c13, c14, c15⟩ := HA1.out.pa_)
    | (go_at_call 21; refine (HR.out _ HF1.out).mono ?_; rintro e w2 ⟨L2, c2', rfl, hl2, hr2, b2⟩; have HL2 := Lib.hid hl2; have HF2 := Lib.hid (HF1.out.below b2); have HR2 := Lib.hid hr2; have HS2 := Lib.hid (HS1.out.below b2); clear b2 hl2 hr2))
  go_ret2
  refine ⟨L2, c2', rfl, HL2.out.imp id (fun ⟨q, h1, h2⟩ => ⟨q, h1, by have := HF1.out.size; omega⟩), HS2.out, HR2.out, HF2.out⟩
end
end Go.Proofs.YtedlacdijkggjaaDoor

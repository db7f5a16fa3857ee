/- law 9: does: what a call answers, by the program and by the document. -/
import Derived.Test.YtliakhknmckdgaaDoorNKn
import Derived.Test.YtliakhknmckdgaaDoorR09
import Derived.Test.YtliakhknmckdgaaDoorR05
namespace Go.Proofs.YtliakhknmckdgaaDoor
open Go.RowKit
/-- a call's cells -/
abbrev na (k s : Int) (x y : Ky) : Array Value := #[.int .i64 k, .int .i64 s, .int .i64 x.k, .int .i64 x.o, .int .i64 x.c, .int .i64 x.l, .int .i64 x.r, .int .i64 x.v, .int .i64 y.k, .int .i64 y.o, .int .i64 y.c, .int .i64 y.l, .int .i64 y.r, .int .i64 y.v]
theorem Blk.na_ {w : World} {g : Nat} {t : TypeId} {k s : Int} {x y : Ky} (h : Blk w g t (na k s x y)) : w.cell? ⟨g, 0, none⟩ = some (.int .i64 k) ∧ w.cell? ⟨g, 1, none⟩ = some (.int .i64 s) ∧ w.cell? ⟨g, 2, none⟩ = some (.int .i64 x.k) ∧ w.cell? ⟨g, 3, none⟩ = some (.int .i64 x.o) ∧ w.cell? ⟨g, 4, none⟩ = some (.int .i64 x.c) ∧ w.cell? ⟨g, 5, none⟩ = some (.int .i64 x.l) ∧ w.cell? ⟨g, 6, none⟩ = some (.int .i64 x.r) ∧ w.cell? ⟨g, 7, none⟩ = some (.int .i64 x.v) ∧ w.cell? ⟨g, 8, none⟩ = some (.int .i64 y.k) ∧ w.cell? ⟨g, 9, none⟩ = some (.int .i64 y.o) ∧ w.cell? ⟨g, 10, none⟩ = some (.int .i64 y.c) ∧ w.cell? ⟨g, 11, none⟩ = some (.int .i64 y.l) ∧ w.cell? ⟨g, 12, none⟩ = some (.int .i64 y.r) ∧ w.cell? ⟨g, 13, none⟩ = some (.int .i64 y.v) :=
  ⟨h.cell 0, h.cell 1, h.cell 2, h.cell 3, h.cell 4, h.cell 5, h.cell 6, h.cell 7, h.cell 8, h.cell 9, h.cell 10, h.cell 11, h.cell 12, h.cell 13⟩
set_option maxRecDepth 8000 in
theorem y_kyeq_me {ops : Array Oper} {o : Oper} {a : Act} {S : World → Prop} {p q : Operand} (hw : Region.wanted o (yielded ops a.tmps) = true) (ho : o.op = .binOp .eql 32 p q 32) (x : Ky) (hx : a.eval p = x.val) (hy : a.eval q = x.val) : YieldsIf Tryd.prog ops S o (.bool true) a := by
  have := y_kyeq (S := S) hw ho x x hx hy
  simpa using this
set_option maxRecDepth 8000 in
theorem y_kyne_me {ops : Array Oper} {o : Oper} {a : Act} {S : World → Prop} {p q : Operand} (hw : Region.wanted o (yielded ops a.tmps) = true) (ho : o.op = .binOp .neq 32 p q 32) (x : Ky) (hx : a.eval p = x.val) (hy : a.eval q = x.val) : YieldsIf Tryd.prog ops S o (.bool false) a := by
  have := y_kyne (S := S) hw ho x x hx hy
  simpa using this
theorem y_ky {ops : Array Oper} {o : Oper} {a : Act} {S : World → Prop} (hw : Region.wanted o (yielded ops a.tmps) = true) (x : Operand) (ho : o.op = .load 32 x) (g off : Nat) (hx : a.eval x = .pointer (some ⟨g, off, none⟩)) (k : Ky) (hS : ∀ w, S w → KeyAt w g off k) : YieldsIf Tryd.prog ops S o k.val a :=
  yieldsIf_load_mid hw 32 x ho g off hx (kl k) _ (fun w h j v hj => by
    obtain ⟨h0, h1, h2, h3, h4, h5⟩ := hS w h
    match j, hj with
    | 0, hj => rw [← Option.some.inj hj]; exact h0
    | 1, hj => rw [← Option.some.inj hj]; exact h1
    | 2, hj => rw [← Option.some.inj hj]; exact h2
    | 3, hj => rw [← Option.some.inj hj]; exact h3
    | 4, hj => rw [← Option.some.inj hj]; exact h4
    | 5, hj => rw [← Option.some.inj hj]; exact h5) Tryd.underlying32 rfl size30
section
variable {w : World} {base p : Nat} {A : Option Addr} {cap : Nat} {ps : List Nat} {os' : List Oj} {L : Option Addr} {n c : Nat}
set_option maxRecDepth 100000 in
set_option maxHeartbeats 2000000 in
theorem does_1 (s m : Int) (x y g : Ky) (hg : ∀ W, Below w.heap.size w W → Calls Tryd.prog 14 #[pv p, x.val, .int .i64 s] W fun e w' => e = .returned (.tuple #[g.val, .int .i64 m]) ∧ Below W.heap.size W w')
    (hr : ∀ W, Below w.heap.size w W → Calls Tryd.prog 24 #[.slice L n c, x.val, .int .i64 s] W fun e w' => e = .returned (.tuple #[g.val, .int .i64 m]) ∧ Below W.heap.size W w') :
    Calls Tryd.prog 11 #[pv p, .slice L n c, .agg (na 1 s x y)] w fun e w' => e = .returned (.tuple #[.slice L n c, .bool true]) ∧ Below w.heap.size w w' := by
  have HG := Lib.hid hg
  have HR := Lib.hid hr
  clear hg hr
  have HB0 := Lib.hid ((Below.refl w.heap.size w).alloc (Nat.le_refl _) (.cells (na 1 s x y) 34))
  have HA0 := Lib.hid (Blk.new w 34 (na 1 s x y))
  obtain ⟨c0, c1, c2, c3, c4, c5, c6, c7, c8, c9, c10, c11, c12, c13⟩ := HA0.out.na_
  go_enter Tryd.func11, Tryd.ntmps11
  go_wp2_with (first
    | (go_at_call 14; refine (HG.out _ HB0.out).mono ?_; rintro e w1 ⟨rfl, b1⟩; have HB1 := Lib.hid ((HB0.out.trans (b1.mono HB0.out.size)).alloc (Nat.le_trans HB0.out.size b1.size) (.cells (kl g).toArray 32)); have HA1 := Lib.hid ((HA0.out.keep b1).alloc (.cells (kl g).toArray 32)); have HG1 := Lib.hid (Blk.new w1 32 (kl g).toArray); clear b1 c0 c1 c2 c3 c4 c5 c6 c7 c8 c9 c10 c11 c12 c13; obtain ⟨c0, c1, c2, c3, c4, c5, c6, c7, c8, c9, c10, c11, c12, c13⟩ := HA1.out.na_)
    | (show wpList _ _ _ ({ dst := none, op := .store _ (.tmp 8) (.tmp 38), type := _, pos := _, after := _, guard := _ } :: _) _ _; refine wpList_store_new (l := kl g) (l0 := kl zk) (ty := 32) rfl (.tmp 8) (.tmp 38) (by rfl) _ rfl (by rfl) (by rfl) size30 rfl (kl_one _) ?_)
    | (go_at_call 24; refine (HR.out _ HB1.out).mono ?_; rintro e w2 ⟨rfl, b2⟩; have HB2 := Lib.hid ((HB1.out.trans (b2.mono HB1.out.size)).alloc (Nat.le_trans HB1.out.size b2.size) (.cells (kl g).toArray 32)); have HG2 := Lib.hid ((HG1.out.keep b2).alloc (.cells (kl g).toArray 32)); have HG3 := Lib.hid (Blk.new w2 32 (kl g).toArray); clear b2 c0 c1 c2 c3 c4 c5 c6 c7 c8 c9 c10 c11 c12 c13; obtain ⟨g0, g1, g2, g3, g4, g5⟩ := HG2.out.six; obtain ⟨h0, h1, h2, h3, h4, h5⟩ := HG3.out.six)
    | (show wpList _ _ _ ({ dst := none, op := .store _ (.tmp 10) (.tmp 47), type := _, pos := _, after := _, guard := _ } :: _) _ _; refine wpList_store_new (l := kl g) (l0 := kl zk) (ty := 32) rfl (.tmp 10) (.tmp 47) (by rfl) _ rfl (by rfl) (by rfl) size30 rfl (kl_one _) ?_)
    | (show wpList _ _ _ ({ dst := some 52, op := .binOp .eql _ _ _ _, type := _, pos := _, after := _, guard := _ } :: _) _ _; refine wpList_yields (S := fun _ => True) (y_kyeq_me (by rfl) (by rfl) g (by rfl) (by rfl)) trivial ?_))
  go_ret2
  exact ⟨rfl, HB2.out⟩
set_option maxRecDepth 100000 in
set_option maxHeartbeats 2000000 in
theorem does_2 (s m : Int) (x y g : Ky) (hps : ∀ k ∈ ps, k < w.heap.size) (hg : ∀ W, Below w.heap.size w W → Calls Tryd.prog 15 #[pv p, x.val, .int .i64 s, y.val] W fun e w' => e = .returned (.tuple #[g.val, .int .i64 m]) ∧ StAt w' base p A cap ps os' ∧ Fr (fun k => k ∈ ps) W w')
    (hr : ∀ W, Fr (fun k => k ∈ ps) w W → Calls Tryd.prog 25 #[.slice L n c, x.val, .int .i64 s, y.val] W fun e w' => ∃ L' c', e = .returned (.tuple #[.slice L' n c', g.val, .int .i64 m]) ∧ (L' = L ∨ ∃ q, L' = some ⟨q, 0, none⟩ ∧ W.heap.size ≤ q) ∧ RdO w' L' os' ∧ Below W.heap.size W w') :
    Calls Tryd.prog 11 #[pv p, .slice L n c, .agg (na 2 s x y)] w fun e w' => ∃ L' c', e = .returned (.tuple #[.slice L' n c', .bool true]) ∧ (L' = L ∨ ∃ q, L' = some ⟨q, 0, none⟩ ∧ w.heap.size ≤ q) ∧ StAt w' base p A cap ps os' ∧ RdO w' L' os' ∧ Fr (fun k => k ∈ ps) w w' := by
  have HPS := Lib.hid hps
  have HG := Lib.hid hg
  have HR := Lib.hid hr
  clear hg hr hps
  have HB0 := Lib.hid ((Below.refl w.heap.size w).alloc (Nat.le_refl _) (.cells (na 2 s x y) 34))
  have HA0 := Lib.hid (Blk.new w 34 (na 2 s x y))
  obtain ⟨c0, c1, c2, c3, c4, c5, c6, c7, c8, c9, c10, c11, c12, c13⟩ := HA0.out.na_
  go_enter Tryd.func11, Tryd.ntmps11
  go_wp2_with (first
    | (go_at_call 15; refine (HG.out _ HB0.out).mono ?_; rintro e w1 ⟨rfl, s1, f1⟩; have HF1 := Lib.hid (((Fr.of_below HB0.out : Fr (fun k => k ∈ ps) w _).trans f1).alloc (.cells (kl g).toArray 32)); have HA1 := Lib.hid ((show Blk _ _ _ _ from (f1.block _ HA0.out.lt (fun hm => by have := HPS.out _ hm; omega)).trans HA0.out).alloc (.cells (kl g).toArray 32)); have HG1 := Lib.hid (Blk.new w1 32 (kl g).toArray); have HS1 := Lib.hid (s1.alloc (.cells (kl g).toArray 32)); clear f1 s1 c0 c1 c2 c3 c4 c5 c6 c7 c8 c9 c10 c11 c12 c13; obtain ⟨c0, c1, c2, c3, c4, c5, c6, c7, c8, c9, c10, c11, c12, c13⟩ := HA1.out.na_)
    | (show wpList _ _ _ ({ dst := none, op := .store _ (.tmp 12) (.tmp 69), type := _, pos := _, after := _, guard := _ } :: _) _ _; refine wpList_store_new (l := kl g) (l0 := kl zk) (ty := 32) rfl (.tmp 12) (.tmp 69) (by rfl) _ rfl (by rfl) (by rfl) size30 rfl (kl_one _) ?_)
    | (go_at_call 25; refine (HR.out _ HF1.out).mono ?_; rintro e w2 ⟨L2, c2', rfl, hl2, hr2, b2⟩; have HL2 := Lib.hid hl2; have HF2 := Lib.hid ((HF1.out.below b2).alloc (.cells (kl g).toArray 32)); have HR2 := Lib.hid (hr2.alloc (.cells (kl g).toArray 32)); have HS2 := Lib.hid ((HS1.out.below b2).alloc (.cells (kl g).toArray 32)); have HG2 := Lib.hid ((HG1.out.keep b2).alloc (.cells (kl g).toArray 32)); have HG3 := Lib.hid (Blk.new w2 32 (kl g).toArray); clear b2 hl2 hr2 c0 c1 c2 c3 c4 c5 c6 c7 c8 c9 c10 c11 c12 c13; obtain ⟨g0, g1, g2, g3, g4, g5⟩ := HG2.out.six; obtain ⟨h0, h1, h2, h3, h4, h5⟩ := HG3.out.six)
    | (show wpList _ _ _ ({ dst := none, op := .store _ (.tmp 15) (.tmp 81), type := _, pos := _, after := _, guard := _ } :: _) _ _; refine wpList_store_new (l := kl g) (l0 := kl zk) (ty := 32) rfl (.tmp 15) (.tmp 81) (by rfl) _ rfl (by rfl) (by rfl) size30 rfl (kl_one _) ?_)
    | (show wpList _ _ _ ({ dst := some 86, op := .binOp .eql _ _ _ _, type := _, pos := _, after := _, guard := _ } :: _) _ _; refine wpList_yields (S := fun _ => True) (y_kyeq_me (by rfl) (by rfl) g (by rfl) (by rfl)) trivial ?_))
  go_ret2
  refine ⟨L2, c2', rfl, HL2.out.imp id (fun ⟨q, h1, h2⟩ => ⟨q, h1, by have := HF1.out.size; omega⟩), HS2.out, HR2.out, HF2.out⟩
set_option maxRecDepth 100000 in
set_option maxHeartbeats 2000000 in
theorem does_3 (s m : Int) (x y : Ky) (hps : ∀ k ∈ ps, k < w.heap.size) (hg : ∀ W, Below w.heap.size w W → Calls Tryd.prog 16 #[pv p, x.val] W fun e w' => e = .returned (.int .i64 m) ∧ StAt w' base p A cap ps os' ∧ Fr (fun k => k ∈ ps) W w')
    (hr : ∀ W, Fr (fun k => k ∈ ps) w W → Calls Tryd.prog 26 #[.slice L n c, x.val] W fun e w' => ∃ L' c', e = .returned (.tuple #[.slice L' n c', .int .i64 m]) ∧ (L' = L ∨ ∃ q, L' = some ⟨q, 0, none⟩ ∧ W.heap.size ≤ q) ∧ RdO w' L' os' ∧ Below W.heap.size W w') :
    Calls Tryd.prog 11 #[pv p, .slice L n c, .agg (na 3 s x y)] w fun e w' => ∃ L' c', e = .returned (.tuple #[.slice L' n c', .bool true]) ∧ (L' = L ∨ ∃ q, L' = some ⟨q, 0, none⟩ ∧ w.heap.size ≤ q) ∧ StAt w' base p A cap ps os' ∧ RdO w' L' os' ∧ Fr (fun k => k ∈ ps) w w' := by
  have HPS := Lib.hid hps
  have HG := Lib.hid hg
  have HR := Lib.hid hr
  clear hg hr hps
  have HB0 := Lib.hid ((Below.refl w.heap.size w).alloc (Nat.le_refl _) (.cells (na 3 s x y) 34))
  have HA0 := Lib.hid (Blk.new w 34 (na 3 s x y))
  obtain ⟨c0, c1, c2, c3, c4, c5, c6, c7, c8, c9, c10, c11, c12, c13⟩ := HA0.out.na_
  go_enter Tryd.func11, Tryd.ntmps11
  go_wp2_with (first
    | (go_at_call 16; refine (HG.out _ HB0.out).mono ?_; rintro e w1 ⟨rfl, s1, f1⟩; have HF1 := Lib.hid ((Fr.of_below HB0.out : Fr (fun k => k ∈ ps) w _).trans f1); have HA1 := Lib.hid (show Blk _ _ _ _ from (f1.block _ HA0.out.lt (fun hm => by have := HPS.out _ hm; omega)).trans HA0.out); have HS1 := Lib.hid s1; clear f1 s1 c0 c1 c2 c3 c4 c5 c6 c7 c8 c9 c10 c11 c12 c13; obtain ⟨c0, c1, c2, c3, c4, c5, c6, c7, c8, c9, c10, c11, c12, c13⟩ := HA1.out.na_)
    | (go_at_call 26; refine (HR.out _ HF1.out).mono ?_; rintro e w2 ⟨L2, c2', rfl, hl2, hr2, b2⟩; have HL2 := Lib.hid hl2; have HF2 := Lib.hid (HF1.out.below b2); have HR2 := Lib.hid hr2; have HS2 := Lib.hid (HS1.out.below b2); clear b2 hl2 hr2))
  go_ret2
  refine ⟨L2, c2', rfl, HL2.out.imp id (fun ⟨q, h1, h2⟩ => ⟨q, h1, by have := HF1.out.size; omega⟩), HS2.out, HR2.out, HF2.out⟩
set_option maxRecDepth 100000 in
set_option maxHeartbeats 2000000 in
theorem does_4 (s m : Int) (x y : Ky) (hps : ∀ k ∈ ps, k < w.heap.size) (hg : ∀ W, Below w.heap.size w W → Calls Tryd.prog 17 #[pv p, x.val, y.val] W fun e w' => e = .returned (.int .i64 m) ∧ StAt w' base p A cap ps os' ∧ Fr (fun k => k ∈ ps) W w')
    (hr : ∀ W, Fr (fun k => k ∈ ps) w W → Calls Tryd.prog 27 #[.slice L n c, x.val, y.val] W fun e w' => ∃ L' c', e = .returned (.tuple #[.slice L' n c', .int .i64 m]) ∧ (L' = L ∨ ∃ q, L' = some ⟨q, 0, none⟩ ∧ W.heap.size ≤ q) ∧ RdO w' L' os' ∧ Below W.heap.size W w') :
    Calls Tryd.prog 11 #[pv p, .slice L n c, .agg (na 4 s x y)] w fun e w' => ∃ L' c', e = .returned (.tuple #[.slice L' n c', .bool true]) ∧ (L' = L ∨ ∃ q, L' = some ⟨q, 0, none⟩ ∧ w.heap.size ≤ q) ∧ StAt w' base p A cap ps os' ∧ RdO w' L' os' ∧ Fr (fun k => k ∈ ps) w w' := by
  have HPS := Lib.hid hps
  have HG := Lib.hid hg
  have HR := Lib.hid hr
  clear hg hr hps
  have HB0 := Lib.hid ((Below.refl w.heap.size w).alloc (Nat.le_refl _) (.cells (na 4 s x y) 34))
  have HA0 := Lib.hid (Blk.new w 34 (na 4 s x y))
  obtain ⟨c0, c1, c2, c3, c4, c5, c6, c7, c8, c9, c10, c11, c12, c13⟩ := HA0.out.na_
  go_enter Tryd.func11, Tryd.ntmps11
  go_wp2_with (first
    | (go_at_call 17; refine (HG.out _ HB0.out).mono ?_; rintro e w1 ⟨rfl, s1, f1⟩; have HF1 := Lib.hid ((Fr.of_below HB0.out : Fr (fun k => k ∈ ps) w _).trans f1); have HA1 := Lib.hid (show Blk _ _ _ _ from (f1.block _ HA0.out.lt (fun hm => by have := HPS.out _ hm; omega)).trans HA0.out); have HS1 := Lib.hid s1; clear f1 s1 c0 c1 c2 c3 c4 c5 c6 c7 c8 c9 c10 c11 c12 c13; obtain ⟨c0, c1, c2, c3, c4, c5, c6, c7, c8, c9, c10, c11, c12, c13⟩ := HA1.out.na_)
    | (go_at_call 27; refine (HR.out _ HF1.out).mono ?_; rintro e w2 ⟨L2, c2', rfl, hl2, hr2, b2⟩; have HL2 := Lib.hid hl2; have HF2 := Lib.hid (HF1.out.below b2); have HR2 := Lib.hid hr2; have HS2 := Lib.hid (HS1.out.below b2); clear b2 hl2 hr2))
  go_ret2
  refine ⟨L2, c2', rfl, HL2.out.imp id (fun ⟨q, h1, h2⟩ => ⟨q, h1, by have := HF1.out.size; omega⟩), HS2.out, HR2.out, HF2.out⟩
set_option maxRecDepth 100000 in
set_option maxHeartbeats 2000000 in
theorem does_5n (k s m : Int) (x y : Ky) (h1 : k ≠ 1) (h2 : k ≠ 2) (h3 : k ≠ 3) (h4 : k ≠ 4) (hm : m ≠ 0) (hg : ∀ W, Below w.heap.size w W → Calls Tryd.prog 20 #[pv p, x.val] W fun e w' => e = .returned (.tuple #[.slice none 0 0, .int .i64 m]) ∧ Below W.heap.size W w')
    (hr : ∀ W, Below w.heap.size w W → Calls Tryd.prog 28 #[.slice L n c, x.val, .int .i64 2, .bool false] W fun e w' => e = .returned (.int .i64 m) ∧ Below W.heap.size W w') :
    Calls Tryd.prog 11 #[pv p, .slice L n c, .agg (na k s x y)] w fun e w' => e = .returned (.tuple #[.slice L n c, .bool true]) ∧ Below w.heap.size w w' := by
  have d1 : (k == 1) = false := by simpa using h1
  have d2 : (k == 2) = false := by simpa using h2
  have d3 : (k == 3) = false := by simpa using h3
  have d4 : (k == 4) = false := by simpa using h4
  clear h1 h2 h3 h4
  have dm : (m != 0) = true := by simpa using hm
  have HG := Lib.hid hg
  have HR := Lib.hid hr
  clear hg hr hm
  have HB0 := Lib.hid ((Below.refl w.heap.size w).alloc (Nat.le_refl _) (.cells (na k s x y) 34))
  have HA0 := Lib.hid (Blk.new w 34 (na k s x y))
  obtain ⟨c0, c1, c2, c3, c4, c5, c6, c7, c8, c9, c10, c11, c12, c13⟩ := HA0.out.na_
  go_enter Tryd.func11, Tryd.ntmps11
  go_wp2_with (first
    | (go_at_call 20; refine (HG.out _ HB0.out).mono ?_; rintro e w1 ⟨rfl, b1⟩; have HB1 := Lib.hid (HB0.out.trans (b1.mono HB0.out.size)); have HA1 := Lib.hid (HA0.out.keep b1); clear b1 c0 c1 c2 c3 c4 c5 c6 c7 c8 c9 c10 c11 c12 c13; obtain ⟨c0, c1, c2, c3, c4, c5, c6, c7, c8, c9, c10, c11, c12, c13⟩ := HA1.out.na_)
    | (go_at_call 28; refine (HR.out _ HB1.out).mono ?_; rintro e w2 ⟨rfl, b2⟩; have HB2 := Lib.hid (HB1.out.trans (b2.mono HB1.out.size)); clear b2))
  go_ret2
  exact ⟨rfl, HB2.out⟩
/-- how all stands ahead of a round -/
def Lw9 (w : World) (b : Nat) (k s : Int) (x y : Ky) (gs : List Ky) (W : World) : Prop := Below w.heap.size w W ∧ Blk W w.heap.size 34 (na k s x y) ∧ Blk W b 95 (kcs gs).toArray
theorem Blk.nx {W : World} {g : Nat} {t : TypeId} {k s : Int} {x y : Ky} (h : Blk W g t (na k s x y)) : KeyAt W g 2 x := ⟨h.cell 2, h.cell 3, h.cell 4, h.cell 5, h.cell 6, h.cell 7⟩
set_option maxRecDepth 8000 in
theorem Lw9.key {b : Nat} {k s : Int} {x y : Ky} {gs : List Ky} {W : World} (h : Lw9 w b k s x y gs W) {i : Nat} {z : Ky} (hz : gs[i]? = some z) (_ : i < 16) : KeyAt W b (i * 6) z := by
  obtain ⟨hi, rfl⟩ := List.getElem?_eq_some_iff.1 hz
  have := key_of_range h.2.2.range i hi
  rwa [Nat.zero_add] at this
set_option maxRecDepth 100000 in
set_option maxHeartbeats 2000000 in
theorem does_5y (k s : Int) (x y : Ky) (h1 : k ≠ 1) (h2 : k ≠ 2) (h3 : k ≠ 3) (h4 : k ≠ 4) (gs : List Ky) (hgs : gs.length = 16) (hg : ∀ W, Below w.heap.size w W → Calls Tryd.prog 20 #[pv p, x.val] W fun e w' => ∃ b, e = .returned (.tuple #[.slice (some ⟨b, 0, none⟩) 16 16, .int .i64 0]) ∧ W.heap.size ≤ b ∧ Blk w' b 95 (kcs gs).toArray ∧ Below W.heap.size W w')
    (hr : ∀ W, Below w.heap.size w W → Calls Tryd.prog 28 #[.slice L n c, x.val, .int .i64 2, .bool false] W fun e w' => e = .returned (.int .i64 0) ∧ Below W.heap.size W w')
    (ht : ∀ W, Below w.heap.size w W → ∀ (i : Nat), i < 16 → ∀ z, gs[i]? = some z → Calls Tryd.prog 29 #[.slice L n c, x.val, .int .i64 (i : Int)] W fun e w' => e = .returned z.val ∧ Below W.heap.size W w') :
    Calls Tryd.prog 11 #[pv p, .slice L n c, .agg (na k s x y)] w fun e w' => e = .returned (.tuple #[.slice L n c, .bool true]) ∧ Below w.heap.size w w' := by
  have d1 : (k == 1) = false := by simpa using h1
  have d2 : (k == 2) = false := by simpa using h2
  have d3 : (k == 3) = false := by simpa using h3
  have d4 : (k == 4) = false := by simpa using h4
  clear h1 h2 h3 h4
  have HG := Lib.hid hg
  have HR := Lib.hid hr
  have HT := Lib.hid ht
  have HGL := Lib.hid hgs
  clear hg hr ht hgs
  have HB0 := Lib.hid ((Below.refl w.heap.size w).alloc (Nat.le_refl _) (.cells (na k s x y) 34))
  have HA0 := Lib.hid (Blk.new w 34 (na k s x y))
  obtain ⟨c0, c1, c2, c3, c4, c5, c6, c7, c8, c9, c10, c11, c12, c13⟩ := HA0.out.na_
  go_enter Tryd.func11, Tryd.ntmps11
  go_wp2_with (first
    | (go_at_call 20; refine (HG.out _ HB0.out).mono ?_; rintro e w1 ⟨b, rfl, hb, hk1, b1⟩; have HB1 := Lib.hid (HB0.out.trans (b1.mono HB0.out.size)); have HA1 := Lib.hid (HA0.out.keep b1); have HK1 := Lib.hid hk1; clear b1 hk1 hb c0 c1 c2 c3 c4 c5 c6 c7 c8 c9 c10 c11 c12 c13; obtain ⟨c0, c1, c2, c3, c4, c5, c6, c7, c8, c9, c10, c11, c12, c13⟩ := HA1.out.na_)
    | (go_at_call 28; refine (HR.out _ HB1.out).mono ?_; rintro e w2 ⟨rfl, b2⟩; have HI0 := Lib.hid (show Lw9 w b k s x y gs w2 from ⟨HB1.out.trans (b2.mono HB1.out.size), HA1.out.keep b2, HK1.out.keep b2⟩); clear b2 c0 c1 c2 c3 c4 c5 c6 c7 c8 c9 c10 c11 c12 c13))
  go_loopw [26] (fun q wr => ∃ i : Nat, i ≤ 16 ∧ q = .int .i64 i ∧ Lw9 w b k s x y gs wr) (fun q _ => 17 - (intOf q).toNat)
  case atStart => exact ⟨0, by omega, rfl, HI0.out⟩
  case round =>
    obtain ⟨i, hi, rfl, hc⟩ := hrel
    clear HI0 HB1 HA1 HK1
    have HI := Lib.hid hc
    clear hc
    by_cases hlt : i < 16
    · have e0 : decide ((i : Int) < 16) = true := decide_eq_true (by omega)
      have e1 : (i : Int) < 16 := by omega
      have HLT := Lib.hid hlt
      obtain ⟨z, hz'⟩ : ∃ z, gs[i]? = some z := ⟨_, List.getElem?_eq_getElem (by rw [HGL.out]; exact hlt)⟩
      have HZ := Lib.hid hz'
      clear hz'
      go_wp2_with fail
      refine wp_region_only (S := fun w' => KeyAt w' b (i * 6) z ∧ KeyAt w' w.heap.size 2 x) (by kernel_rfl) ⟨HI.out.key HZ.out HLT.out, HI.out.2.1.nx⟩ (fun hHeld => ?_)
      refine wpAnyH_take (i := 0) (v := ?v1) rfl (by kernel_rfl) (by kernel_rfl) (by kernel_rfl) (fun _ _ _ h => h) (Or.inl ⟨by rfl, ?hy1⟩) hHeld ?rest1
      case hy1 =>
        intro w' hSw
        try dsimp only at hSw
        go_simp
        first | done | with_reducible rfl
      try simp only [Act.put, List.getElem_toArray, List.getElem_cons_zero, List.setIfInBounds_toArray, List.set_cons_zero, List.set_cons_succ]
      refine wpAnyH_take (i := 1) (v := ?v2) rfl (by kernel_rfl) (by kernel_rfl) (by kernel_rfl) (fun _ _ _ h => h) (Or.inl ⟨by rfl, ?hy2⟩) hHeld ?rest2
      case hy2 =>
        intro w' hSw
        try dsimp only at hSw
        go_simp
        first | done | with_reducible rfl
      try simp only [Act.put, List.getElem_toArray, List.getElem_cons_succ, List.getElem_cons_zero, List.setIfInBounds_toArray, List.set_cons_zero, List.set_cons_succ]
      refine wpAnyH_take (i := 2) (v := ?v3) rfl (by kernel_rfl) (by kernel_rfl) (by kernel_rfl) (fun _ _ _ h => h) (Or.inl ⟨by rfl, ?hy3⟩) hHeld ?rest3
      case hy3 =>
        intro w' hSw
        try dsimp only at hSw
        go_simp
        first | done | with_reducible rfl
      try simp only [Act.put, List.getElem_toArray, List.getElem_cons_succ, List.getElem_cons_zero, List.setIfInBounds_toArray, List.set_cons_zero, List.set_cons_succ]
      refine wpAnyH_take (i := 3) rfl (by kernel_rfl) (by kernel_rfl) (by kernel_rfl) (fun _ _ _ h => h) (y_ky (by rfl) (.tmp 165) (by rfl) b (i * 6) (by rfl) z (fun _ h => h.1)) hHeld ?_
      try simp only [Act.put, List.getElem_toArray, List.getElem_cons_succ, List.getElem_cons_zero, List.setIfInBounds_toArray, List.set_cons_zero, List.set_cons_succ]
      refine wpAnyH_take (i := 4) (v := ?v4) rfl (by kernel_rfl) (by kernel_rfl) (by kernel_rfl) (fun _ _ _ h => h) (Or.inl ⟨by rfl, ?hy4⟩) hHeld ?rest4
      case hy4 =>
        intro w' hSw
        try dsimp only at hSw
        go_simp
        first | done | with_reducible rfl
      try simp only [Act.put, List.getElem_toArray, List.getElem_cons_succ, List.getElem_cons_zero, List.setIfInBounds_toArray, List.set_cons_zero, List.set_cons_succ]
      refine wpAnyH_take (i := 5) (v := ?v5) rfl (by kernel_rfl) (by kernel_rfl) (by kernel_rfl) (fun _ _ _ h => h) (Or.inl ⟨by rfl, ?hy5⟩) hHeld ?rest5
      case hy5 =>
        intro w' hSw
        try dsimp only at hSw
        go_simp
        first | done | with_reducible rfl
      try simp only [Act.put, List.getElem_toArray, List.getElem_cons_succ, List.getElem_cons_zero, List.setIfInBounds_toArray, List.set_cons_zero, List.set_cons_succ]
      refine wpAnyH_take (i := 6) rfl (by kernel_rfl) (by kernel_rfl) (by kernel_rfl) (fun _ _ _ h => h) (y_ky (by rfl) (.tmp 168) (by rfl) w.heap.size 2 (by rfl) x (fun _ h => h.2)) hHeld ?_
      try simp only [Act.put, List.getElem_toArray, List.getElem_cons_succ, List.getElem_cons_zero, List.setIfInBounds_toArray, List.set_cons_zero, List.set_cons_succ]
      refine wpAnyH_take (i := 7) (v := ?v6) rfl (by kernel_rfl) (by kernel_rfl) (by kernel_rfl) (fun _ _ _ h => h) (Or.inl ⟨by rfl, ?hy6⟩) hHeld ?rest6
      case hy6 =>
        intro w' hSw
        try dsimp only at hSw
        go_simp
        first | done | with_reducible rfl
      try simp only [Act.put, List.getElem_toArray, List.getElem_cons_succ, List.getElem_cons_zero, List.setIfInBounds_toArray, List.set_cons_zero, List.set_cons_succ]
      refine wpAnyH_ready (rs := [8]) (by kernel_rfl) (by simp) ?_
      refine AllReadyH.cons (by rfl) (fun K hK => ?_) AllReadyH.nil
      go_simp
      refine (HT.out _ (below_drew HI.out.1) i HLT.out z HZ.out).mono ?_
      rintro e_ w3 ⟨rfl, b3⟩
      have HI3 := Lib.hid (show Lw9 w b k s x y gs w3 from ⟨(below_drew HI.out.1).trans (b3.mono (below_drew HI.out.1).size), HI.out.2.1.drew.keep b3, HI.out.2.2.drew.keep b3⟩)
      clear b3 hHeld
      go_wp2_with fail
      refine hK.out _ _ ⟨HI3.out.key HZ.out HLT.out, HI3.out.2.1.nx⟩ (fun hHeld => ?_)
      clear hK K
      try simp only [Act.put, List.getElem_toArray, List.getElem_cons_succ, List.getElem_cons_zero, List.setIfInBounds_toArray, List.set_cons_zero, List.set_cons_succ]
      refine wpAnyH_take (i := 9) rfl (by kernel_rfl) (by kernel_rfl) (by kernel_rfl) (fun _ _ _ h => h) (y_kyne_me (by rfl) (by rfl) z (by rfl) (by rfl)) hHeld ?_
      try simp only [Act.put, List.getElem_toArray, List.getElem_cons_succ, List.getElem_cons_zero, List.setIfInBounds_toArray, List.set_cons_zero, List.set_cons_succ]
      refine wpAnyH_done (by kernel_rfl) ?_ _
      refine OnlyN.normal ?_
      clear hHeld
      go_wp2
      go_roundw
      case rel => exact ⟨i + 1, by have := HLT.out; omega, by go_num, HI3.out⟩
      case measure => simp [intOf]; omega
    · obtain rfl : i = 16 := by omega
      have e0 : decide ((16 : Int) < 16) = false := rfl
      go_wp2_with fail
      go_ret2
      exact ⟨rfl, HI.out.1⟩
end
end Go.Proofs.YtliakhknmckdgaaDoor

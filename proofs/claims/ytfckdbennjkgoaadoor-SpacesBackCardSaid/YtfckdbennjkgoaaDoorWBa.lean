/- The law SpacesBack: where nothing is stored. -/
import Derived.Test.YtfckdbennjkgoaaDoorWTw
import Derived.Test.YtfckdbennjkgoaaDoorR05
namespace Go.Proofs.YtfckdbennjkgoaaDoor.spacesBack
open Go.ChangeShapes Go.WideShapes Go.ChangeAt Go.RowKit
attribute [local go_sem] Oper.semAt_some
set_option maxRecDepth 8000 in
set_option maxHeartbeats 1000000 in
theorem walk_no (w : World) (hT : Tab w) (A : Option Addr) (l : List Oj) (cap : Nat) (x y : Ky) (a b : Int) (t : List UInt8) (hr : RdO w A l) (h : ¬ madeP l) : Calls Tryd.prog 4 #[.slice A l.length cap, .agg (twA x y a b), .string (st t)] w fun e w' => e = .returned (.bool true) ∧ Below w.heap.size w w' := by
  have HT := Lib.hid hT
  have HR := Lib.hid hr
  have HB0 := Lib.hid ((Below.refl w.heap.size w).alloc (Nat.le_refl _) (.cells (twA x y a b) 45))
  have HA0 := Lib.hid (Blk.new w 45 (twA x y a b))
  obtain ⟨c0, c1, c2, c3, c4, c5, c6, c7, c8, c9, c10, c11, c12, c13⟩ := tw_cells HA0.out
  have hsz := st_size t
  have HMD := Lib.hid (fun (W : World) (hr : RdO W A l) => made_n (cap := cap) hr h)
  clear hT hr h
  go_enter Tryd.func4, Tryd.ntmps4
  go_wp2_with (first
    | (go_at_call 9; refine (HMD.out _ (HR.out.below HB0.out)).mono ?_; rintro e w1 ⟨rfl, b_⟩; have HB1 := Lib.hid (HB0.out.trans (b_.mono HB0.out.size)); clear b_ c0 c1 c2 c3 c4 c5 c6 c7 c8 c9 c10 c11 c12 c13)
    | (go_at_call 10; refine (known_w _ (HT.out.below HB1.out)).mono ?_; rintro e v9 ⟨rfl, b_⟩; have B9 := Lib.hid (HB1.out.trans (b_.mono (HB1.out).size)); clear b_))
  go_ret
  exact ⟨rfl, B9.out⟩
set_option maxRecDepth 8000 in
set_option maxHeartbeats 1000000 in
theorem walk_big (w : World) (hT : Tab w) (A : Option Addr) (l : List Oj) (cap : Nat) (x y : Ky) (a b : Int) (t : List UInt8) (hr : RdO w A l) (h : madeP l) (hb : 64 < t.length) : Calls Tryd.prog 4 #[.slice A l.length cap, .agg (twA x y a b), .string (st t)] w fun e w' => e = .returned (.bool true) ∧ Below w.heap.size w w' := by
  have HT := Lib.hid hT
  have HR := Lib.hid hr
  have HB0 := Lib.hid ((Below.refl w.heap.size w).alloc (Nat.le_refl _) (.cells (twA x y a b) 45))
  have HA0 := Lib.hid (Blk.new w 45 (twA x y a b))
  obtain ⟨c0, c1, c2, c3, c4, c5, c6, c7, c8, c9, c10, c11, c12, c13⟩ := tw_cells HA0.out
  have hsz := st_size t
  have HMD := Lib.hid (fun (W : World) (hT : Tab W) (hr : RdO W A l) => made_w (cap := cap) hT hr h)
  have d0 : decide ((64 : Int) < (t.length : Int)) = true := decide_eq_true (by omega)
  have d1 : decide (64 < t.length) = true := decide_eq_true hb
  clear hT hr h hb
  go_enter Tryd.func4, Tryd.ntmps4
  go_wp2_with (first
    | (go_at_call 9; refine (HMD.out _ (HT.out.below HB0.out) (HR.out.below HB0.out)).mono ?_; rintro e w1 ⟨q, rfl, hq, ⟨A', cap', ps, hs⟩, b_⟩; have HQ := Lib.hid (show w.heap.size < q from Nat.lt_of_lt_of_le HA0.out.lt hq); have HB1 := Lib.hid (HB0.out.trans (b_.mono HB0.out.size)); have HA1 := Lib.hid (HA0.out.keep b_); have HS1 := Lib.hid hs; clear b_ hs hq c0 c1 c2 c3 c4 c5 c6 c7 c8 c9 c10 c11 c12 c13; obtain ⟨c0, c1, c2, c3, c4, c5, c6, c7, c8, c9, c10, c11, c12, c13⟩ := tw_cells HA1.out)
    | (go_at_call 10; refine (known_w _ (HT.out.below HB1.out)).mono ?_; rintro e v9 ⟨rfl, b_⟩; have B9 := Lib.hid (HB1.out.trans (b_.mono (HB1.out).size)); clear b_))
  go_ret
  exact ⟨rfl, B9.out⟩
set_option maxRecDepth 100000 in
set_option maxHeartbeats 4000000 in
theorem walk_st (w : World) (hT : Tab w) (A : Option Addr) (l : List Oj) (cap : Nat) (x y : Ky) (a b : Int) (t : List UInt8) (hr : RdO w A l) (h : madeP l) (ht : t.length ≤ 64) (ha : i64 a) (hb : i64 b) (hg : (storeA l x a t).2.1.k ≠ 0 ∨ (storeA l x a t).2.2 ≠ 0) : Calls Tryd.prog 4 #[.slice A l.length cap, .agg (twA x y a b), .string (st t)] w fun e w' => e = .returned (.bool true) ∧ Below w.heap.size w w' := by
  have HT := Lib.hid hT
  have HR := Lib.hid hr
  have HB0 := Lib.hid ((Below.refl w.heap.size w).alloc (Nat.le_refl _) (.cells (twA x y a b) 45))
  have HA0 := Lib.hid (Blk.new w 45 (twA x y a b))
  obtain ⟨c0, c1, c2, c3, c4, c5, c6, c7, c8, c9, c10, c11, c12, c13⟩ := tw_cells HA0.out
  have hsz := st_size t
  have hst := storeA_stays hg
  have HMD0 := Lib.hid (fun (W : World) (hT : Tab W) (hr : RdO W A l) => made_w (cap := cap) hT hr h)
  have HMD := Lib.hid HMD0.out
  have hw1 : ∀ (W : World) (base q : Nat) (A' : Option Addr) (cap' : Nat) (ps : List Nat), StAt W base q A' cap' ps l → Tab W → Calls Tryd.prog 11 #[pv q, x.val, .int .i64 a] W fun e w' => e = .returned (.tuple #[(walkA l x a).1.val, (walkA l x a).2.1.val, .int .i64 (walkA l x a).2.2]) ∧ Below W.heap.size W w' := fun W base q A' cap' ps hS hT => walk_all hS h.2.1 h.2.2.2 hT x a ha.2
  have hw2 : ∀ (W : World) (base q : Nat) (A' : Option Addr) (cap' : Nat) (ps : List Nat), StAt W base q A' cap' ps l → Tab W → Calls Tryd.prog 11 #[pv q, y.val, .int .i64 b] W fun e w' => e = .returned (.tuple #[(walkA l y b).1.val, (walkA l y b).2.1.val, .int .i64 (walkA l y b).2.2]) ∧ Below W.heap.size W w' := fun W base q A' cap' ps hS hT => walk_all hS h.2.1 h.2.2.2 hT y b hb.2
  have hw3 : ∀ (W : World) (base q : Nat) (A' : Option Addr) (cap' : Nat) (ps : List Nat), StAt W base q A' cap' ps l → Tab W → Calls Tryd.prog 14 #[pv q, x.val, .int .i64 a, .string (st t)] W fun e w' => e = .returned (.tuple #[(storeA l x a t).2.1.val, .int .i64 (storeA l x a t).2.2]) ∧ StAt w' base q A' cap' ps l ∧ Fr (fun k => k ∈ ps) W w' := fun W base q A' cap' ps hS hT => by
    have := sstore_all hS h.2.1 h.2.2.2 hT x a ha.2 t
    rw [hst] at this
    exact this
  obtain ⟨f3, hf3⟩ : ∃ f3, f3 = (storeA l x a t).2.1 := ⟨_, rfl⟩
  obtain ⟨m3, hm3⟩ : ∃ m3, m3 = (storeA l x a t).2.2 := ⟨_, rfl⟩
  rw [← hf3, ← hm3] at hw3 hg
  obtain ⟨fo1, hfo1⟩ : ∃ z, z = (walkA l x a).1 := ⟨_, rfl⟩
  obtain ⟨fa1, hfa1⟩ : ∃ z, z = (walkA l x a).2.1 := ⟨_, rfl⟩
  obtain ⟨m1, hm1⟩ : ∃ z, z = (walkA l x a).2.2 := ⟨_, rfl⟩
  rw [← hfo1, ← hfa1, ← hm1] at hw1
  obtain ⟨fo2, hfo2⟩ : ∃ z, z = (walkA l y b).1 := ⟨_, rfl⟩
  obtain ⟨fa2, hfa2⟩ : ∃ z, z = (walkA l y b).2.1 := ⟨_, rfl⟩
  obtain ⟨m2, hm2⟩ : ∃ z, z = (walkA l y b).2.2 := ⟨_, rfl⟩
  rw [← hfo2, ← hfa2, ← hm2] at hw2
  have HWA := Lib.hid (fun (W : World) {base q : Nat} {A' : Option Addr} {cap' : Nat} {ps : List Nat} (hS : StAt W base q A' cap' ps l) (hT : Tab W) => hw1 W base q A' cap' ps hS hT)
  have HWB := Lib.hid (fun (W : World) {base q : Nat} {A' : Option Addr} {cap' : Nat} {ps : List Nat} (hS : StAt W base q A' cap' ps l) (hT : Tab W) => hw2 W base q A' cap' ps hS hT)
  have HST := Lib.hid (fun (W : World) {base q : Nat} {A' : Option Addr} {cap' : Nat} {ps : List Nat} (hS : StAt W base q A' cap' ps l) (hT : Tab W) => hw3 W base q A' cap' ps hS hT)
  have HN0 := Lib.hid h.2.1
  have HNB := Lib.hid h.1
  have d0 : decide ((64 : Int) < (t.length : Int)) = false := decide_eq_false (by omega)
  have d1 : decide (64 < t.length) = false := decide_eq_false (by omega)
  have M0 := Lib.hid trivial
  have hz6 := z59
  have hz7 := z35
  clear hT hr h ht ha hb hst hw1 hw2 hw3 hf3 hm3 hfo1 hfa1 hm1 hfo2 hfa2 hm2 HMD0
  by_cases h0 : m3 = 0
  · subst h0
    have h1 : (f3.k != 0) = true := by rcases hg with h | h; simpa using h; exact absurd rfl h
    clear hg
    go_enter Tryd.func4, Tryd.ntmps4
    go_wp2_with (first
      | (go_at_call 9; refine (HMD.out _ (HT.out.below HB0.out) (HR.out.below HB0.out)).mono ?_; rintro e w1 ⟨q, rfl, hq, ⟨A', cap', ps, hs⟩, b_⟩; have HQ := Lib.hid (show w.heap.size < q from Nat.lt_of_lt_of_le HA0.out.lt hq); have HB1 := Lib.hid (HB0.out.trans (b_.mono HB0.out.size)); have HA1 := Lib.hid (HA0.out.keep b_); have HS1 := Lib.hid hs; clear b_ hs hq c0 c1 c2 c3 c4 c5 c6 c7 c8 c9 c10 c11 c12 c13; obtain ⟨c0, c1, c2, c3, c4, c5, c6, c7, c8, c9, c10, c11, c12, c13⟩ := tw_cells HA1.out)
      | (go_at_call 11; first
        | (clear M0; refine (HWA.out _ HS1.out (HT.out.below HB1.out)).mono ?_; rintro e w2 ⟨rfl, b_⟩; have HB2 := Lib.hid (HB1.out.trans (b_.mono HB1.out.size)); have HS2 := Lib.hid (HS1.out.below b_); have HA2 := Lib.hid (HA1.out.keep b_); have HL2 := Lib.hid (show w.heap.size < w2.heap.size from HA2.out.lt); clear b_ c0 c1 c2 c3 c4 c5 c6 c7 c8 c9 c10 c11 c12 c13)
        | (refine (HWB.out _ HS3.out (HT.out.below HB3.out)).mono ?_; rintro e w4 ⟨rfl, b_⟩; have HB4 := Lib.hid (HB3.out.trans (b_.mono HB3.out.size)); have HS4 := Lib.hid (HS3.out.below b_); have HA4 := Lib.hid (HA3.out.keep b_); have HP4 := Lib.hid (HP3.out.keep b_); have HF4 := Lib.hid (HF3.out.keep b_); have HL4 := Lib.hid (show w.heap.size < w4.heap.size from HA4.out.lt); clear b_ c0 c1 c2 c3 c4 c5 c6 c7 c8 c9 c10 c11 c12 c13))
      | (show wpList _ _ _ ({ dst := none, op := .store _ (.tmp 8) (.tmp 39), type := _, pos := _, after := _, guard := _ } :: _) _ _; refine wpList_store_big (l0 := zfo.cells) ((Blk.new w2 33 zfo.cells.toArray).alloc (.cells zfa.cells.toArray 36)) rfl (.tmp 8) (.tmp 39) (ty := 33) (l := Fo.cells fo1) rfl (by rfl) (by rfl) sizeFo rfl (Fo.one _) ?_)
      | (show wpList _ _ _ ({ dst := none, op := .store _ (.tmp 9) (.tmp 40), type := _, pos := _, after := _, guard := _ } :: _) _ _; refine wpList_store_big (l0 := zfa.cells) (Blk.row_far (Blk.new_of (w2.alloc (.cells zfo.cells.toArray 33)) 36 zfa.cells.toArray (g := w2.heap.size + 1) (by simp)) (b := w2.heap.size) (by omega) (Fo.cells fo1).toArray) rfl (.tmp 9) (.tmp 40) (ty := 36) (l := Fa.cells fa1) rfl (by rfl) (by rfl) sizeFa rfl (Fa.one _) ?_; have HA3 := Lib.hid (two_new HA2.out zfo.cells.toArray zfa.cells.toArray (Fo.cells fo1).toArray (Fa.cells fa1).toArray); have HP3 := Lib.hid ((Blk.setRow ((Blk.new w2 33 zfo.cells.toArray).alloc (.cells zfa.cells.toArray 36)) (Fo.cells fo1).toArray).row_far (b := w2.heap.size + 1) (by omega) (Fa.cells fa1).toArray); have HF3 := Lib.hid ((Blk.row_far (Blk.new_of (w2.alloc (.cells zfo.cells.toArray 33)) 36 zfa.cells.toArray (g := w2.heap.size + 1) (by simp)) (b := w2.heap.size) (by omega) (Fo.cells fo1).toArray).setRow (Fa.cells fa1).toArray); have HS3 := Lib.hid (st_two HS2.out zfo.cells.toArray zfa.cells.toArray (Fo.cells fo1).toArray (Fa.cells fa1).toArray); have HB3 := Lib.hid (two_rows (fo := fo1) (fa := fa1) (g := w2.heap.size) ((HB2.out.alloc HB2.out.size (.cells zfo.cells.toArray 33)).alloc (by have := HB2.out.size; simp; omega) (.cells zfa.cells.toArray 36)) HB2.out.size); generalize (((w2.alloc (.cells zfo.cells.toArray 33)).alloc (.cells zfa.cells.toArray 36)).setRow w2.heap.size (Fo.cells fo1).toArray).setRow (w2.heap.size + 1) (Fa.cells fa1).toArray = w3 at HA3 HP3 HF3 HS3 HB3 ⊢; obtain ⟨c0, c1, c2, c3, c4, c5, c6, c7, c8, c9, c10, c11, c12, c13⟩ := tw_cells HA3.out)
      | (show wpList _ _ _ ({ dst := none, op := .store _ (.tmp 11) (.tmp 49), type := _, pos := _, after := _, guard := _ } :: _) _ _; refine wpList_store_big (l0 := zfo.cells) ((Blk.new w4 33 zfo.cells.toArray).alloc (.cells zfa.cells.toArray 36)) rfl (.tmp 11) (.tmp 49) (ty := 33) (l := Fo.cells fo2) rfl (by rfl) (by rfl) sizeFo rfl (Fo.one _) ?_)
      | (show wpList _ _ _ ({ dst := none, op := .store _ (.tmp 12) (.tmp 50), type := _, pos := _, after := _, guard := _ } :: _) _ _; refine wpList_store_big (l0 := zfa.cells) (Blk.row_far (Blk.new_of (w4.alloc (.cells zfo.cells.toArray 33)) 36 zfa.cells.toArray (g := w4.heap.size + 1) (by simp)) (b := w4.heap.size) (by omega) (Fo.cells fo2).toArray) rfl (.tmp 12) (.tmp 50) (ty := 36) (l := Fa.cells fa2) rfl (by rfl) (by rfl) sizeFa rfl (Fa.one _) ?_; have HA5 := Lib.hid (two_new HA4.out zfo.cells.toArray zfa.cells.toArray (Fo.cells fo2).toArray (Fa.cells fa2).toArray); have HP5 := Lib.hid (two_new HP4.out zfo.cells.toArray zfa.cells.toArray (Fo.cells fo2).toArray (Fa.cells fa2).toArray); have HF5 := Lib.hid (two_new HF4.out zfo.cells.toArray zfa.cells.toArray (Fo.cells fo2).toArray (Fa.cells fa2).toArray); have HQQ5 := Lib.hid ((Blk.setRow ((Blk.new w4 33 zfo.cells.toArray).alloc (.cells zfa.cells.toArray 36)) (Fo.cells fo2).toArray).row_far (b := w4.heap.size + 1) (by omega) (Fa.cells fa2).toArray); have HG5 := Lib.hid ((Blk.row_far (Blk.new_of (w4.alloc (.cells zfo.cells.toArray 33)) 36 zfa.cells.toArray (g := w4.heap.size + 1) (by simp)) (b := w4.heap.size) (by omega) (Fo.cells fo2).toArray).setRow (Fa.cells fa2).toArray); have HS5 := Lib.hid (st_two HS4.out zfo.cells.toArray zfa.cells.toArray (Fo.cells fo2).toArray (Fa.cells fa2).toArray); have HB5 := Lib.hid (two_rows (fo := fo2) (fa := fa2) (g := w4.heap.size) ((HB4.out.alloc HB4.out.size (.cells zfo.cells.toArray 33)).alloc (by have := HB4.out.size; simp; omega) (.cells zfa.cells.toArray 36)) HB4.out.size); generalize (((w4.alloc (.cells zfo.cells.toArray 33)).alloc (.cells zfa.cells.toArray 36)).setRow w4.heap.size (Fo.cells fo2).toArray).setRow (w4.heap.size + 1) (Fa.cells fa2).toArray = w5 at HA5 HP5 HF5 HQQ5 HG5 HS5 HB5 ⊢; obtain ⟨c0, c1, c2, c3, c4, c5, c6, c7, c8, c9, c10, c11, c12, c13⟩ := tw_cells HA5.out)
      | (go_at_call 14; refine (HST.out _ HS5.out (HT.out.below HB5.out)).mono ?_; rintro e w6 ⟨rfl, s_, f_⟩; have HS6 := Lib.hid s_; have HB6 := Lib.hid (HB5.out.trans (f_.to_below (fun k hk => by have h1 := (HS1.out.pps k hk).1; have h3 := HQ.out; omega) HB5.out.size)); have HA6 := Lib.hid (show Blk w6 w.heap.size 45 (twA x y a b) from (f_.block _ HA5.out.lt (fun hm => by have h1 := (HS1.out.pps _ hm).1; have h3 := HQ.out; omega)).trans HA5.out); clear s_ f_ c0 c1 c2 c3 c4 c5 c6 c7 c8 c9 c10 c11 c12 c13)
      | (show wpList _ _ _ ({ dst := none, op := .store _ (.tmp 14) (.tmp 60), type := _, pos := _, after := _, guard := _ } :: _) _ _; refine wpList_store_big (l0 := zfa.cells) (Blk.new w6 36 zfa.cells.toArray) rfl (.tmp 14) (.tmp 60) (ty := 36) (l := Fa.cells f3) rfl (by rfl) (by rfl) sizeFa rfl (Fa.one _) ?_; have HA7 := Lib.hid (one_new HA6.out zfa.cells.toArray (Fa.cells f3).toArray); have HV7 := Lib.hid (Blk.setRow (Blk.new w6 36 zfa.cells.toArray) (Fa.cells f3).toArray); have HS7 := Lib.hid (st_one HS6.out zfa.cells.toArray (Fa.cells f3).toArray); have HB7 := Lib.hid (below_setRow (HB6.out.alloc HB6.out.size (.cells zfa.cells.toArray 36)) (b := w6.heap.size) HB6.out.size (Fa.cells f3).toArray); generalize (w6.alloc (.cells zfa.cells.toArray 36)).setRow w6.heap.size (Fa.cells f3).toArray = w7 at HA7 HV7 HS7 HB7 ⊢; obtain ⟨c0, c1, c2, c3, c4, c5, c6, c7, c8, c9, c10, c11, c12, c13⟩ := tw_cells HA7.out; have v0 : w7.cell? ⟨w6.heap.size, 0, none⟩ = some (.int .i64 f3.k) := HV7.out.cell 0)
      | (go_at_call 13; refine (same_n HS7.out rfl HN0.out (by have := HNB.out; omega) A cap (HR.out.below HB7.out)).mono ?_; rintro e w8 ⟨rfl, b_⟩; have HB8 := Lib.hid (HB7.out.trans (b_.mono HB7.out.size)); clear b_ c0 c1 c2 c3 c4 c5 c6 c7 c8 c9 c10 c11 c12 c13)
      | (go_at_call 10; refine (known_w _ (HT.out.below HB8.out)).mono ?_; rintro e v9 ⟨rfl, b_⟩; have B9 := Lib.hid (HB8.out.trans (b_.mono (HB8.out).size)); clear b_))
    go_ret
    exact ⟨rfl, B9.out⟩
  · have h1 : (m3 != 0) = true := by simpa using h0
    clear hg h0
    go_enter Tryd.func4, Tryd.ntmps4
    go_wp2_with (first
      | (go_at_call 9; refine (HMD.out _ (HT.out.below HB0.out) (HR.out.below HB0.out)).mono ?_; rintro e w1 ⟨q, rfl, hq, ⟨A', cap', ps, hs⟩, b_⟩; have HQ := Lib.hid (show w.heap.size < q from Nat.lt_of_lt_of_le HA0.out.lt hq); have HB1 := Lib.hid (HB0.out.trans (b_.mono HB0.out.size)); have HA1 := Lib.hid (HA0.out.keep b_); have HS1 := Lib.hid hs; clear b_ hs hq c0 c1 c2 c3 c4 c5 c6 c7 c8 c9 c10 c11 c12 c13; obtain ⟨c0, c1, c2, c3, c4, c5, c6, c7, c8, c9, c10, c11, c12, c13⟩ := tw_cells HA1.out)
      | (go_at_call 11; first
        | (clear M0; refine (HWA.out _ HS1.out (HT.out.below HB1.out)).mono ?_; rintro e w2 ⟨rfl, b_⟩; have HB2 := Lib.hid (HB1.out.trans (b_.mono HB1.out.size)); have HS2 := Lib.hid (HS1.out.below b_); have HA2 := Lib.hid (HA1.out.keep b_); have HL2 := Lib.hid (show w.heap.size < w2.heap.size from HA2.out.lt); clear b_ c0 c1 c2 c3 c4 c5 c6 c7 c8 c9 c10 c11 c12 c13)
        | (refine (HWB.out _ HS3.out (HT.out.below HB3.out)).mono ?_; rintro e w4 ⟨rfl, b_⟩; have HB4 := Lib.hid (HB3.out.trans (b_.mono HB3.out.size)); have HS4 := Lib.hid (HS3.out.below b_); have HA4 := Lib.hid (HA3.out.keep b_); have HP4 := Lib.hid (HP3.out.keep b_); have HF4 := Lib.hid (HF3.out.keep b_); have HL4 := Lib.hid (show w.heap.size < w4.heap.size from HA4.out.lt); clear b_ c0 c1 c2 c3 c4 c5 c6 c7 c8 c9 c10 c11 c12 c13))
      | (show wpList _ _ _ ({ dst := none, op := .store _ (.tmp 8) (.tmp 39), type := _, pos := _, after := _, guard := _ } :: _) _ _; refine wpList_store_big (l0 := zfo.cells) ((Blk.new w2 33 zfo.cells.toArray).alloc (.cells zfa.cells.toArray 36)) rfl (.tmp 8) (.tmp 39) (ty := 33) (l := Fo.cells fo1) rfl (by rfl) (by rfl) sizeFo rfl (Fo.one _) ?_)
      | (show wpList _ _ _ ({ dst := none, op := .store _ (.tmp 9) (.tmp 40), type := _, pos := _, after := _, guard := _ } :: _) _ _; refine wpList_store_big (l0 := zfa.cells) (Blk.row_far (Blk.new_of (w2.alloc (.cells zfo.cells.toArray 33)) 36 zfa.cells.toArray (g := w2.heap.size + 1) (by simp)) (b := w2.heap.size) (by omega) (Fo.cells fo1).toArray) rfl (.tmp 9) (.tmp 40) (ty := 36) (l := Fa.cells fa1) rfl (by rfl) (by rfl) sizeFa rfl (Fa.one _) ?_; have HA3 := Lib.hid (two_new HA2.out zfo.cells.toArray zfa.cells.toArray (Fo.cells fo1).toArray (Fa.cells fa1).toArray); have HP3 := Lib.hid ((Blk.setRow ((Blk.new w2 33 zfo.cells.toArray).alloc (.cells zfa.cells.toArray 36)) (Fo.cells fo1).toArray).row_far (b := w2.heap.size + 1) (by omega) (Fa.cells fa1).toArray); have HF3 := Lib.hid ((Blk.row_far (Blk.new_of (w2.alloc (.cells zfo.cells.toArray 33)) 36 zfa.cells.toArray (g := w2.heap.size + 1) (by simp)) (b := w2.heap.size) (by omega) (Fo.cells fo1).toArray).setRow (Fa.cells fa1).toArray); have HS3 := Lib.hid (st_two HS2.out zfo.cells.toArray zfa.cells.toArray (Fo.cells fo1).toArray (Fa.cells fa1).toArray); have HB3 := Lib.hid (two_rows (fo := fo1) (fa := fa1) (g := w2.heap.size) ((HB2.out.alloc HB2.out.size (.cells zfo.cells.toArray 33)).alloc (by have := HB2.out.size; simp; omega) (.cells zfa.cells.toArray 36)) HB2.out.size); generalize (((w2.alloc (.cells zfo.cells.toArray 33)).alloc (.cells zfa.cells.toArray 36)).setRow w2.heap.size (Fo.cells fo1).toArray).setRow (w2.heap.size + 1) (Fa.cells fa1).toArray = w3 at HA3 HP3 HF3 HS3 HB3 ⊢; obtain ⟨c0, c1, c2, c3, c4, c5, c6, c7, c8, c9, c10, c11, c12, c13⟩ := tw_cells HA3.out)
      | (show wpList _ _ _ ({ dst := none, op := .store _ (.tmp 11) (.tmp 49), type := _, pos := _, after := _, guard := _ } :: _) _ _; refine wpList_store_big (l0 := zfo.cells) ((Blk.new w4 33 zfo.cells.toArray).alloc (.cells zfa.cells.toArray 36)) rfl (.tmp 11) (.tmp 49) (ty := 33) (l := Fo.cells fo2) rfl (by rfl) (by rfl) sizeFo rfl (Fo.one _) ?_)
      | (show wpList _ _ _ ({ dst := none, op := .store _ (.tmp 12) (.tmp 50), type := _, pos := _, after := _, guard := _ } :: _) _ _; refine wpList_store_big (l0 := zfa.cells) (Blk.row_far (Blk.new_of (w4.alloc (.cells zfo.cells.toArray 33)) 36 zfa.cells.toArray (g := w4.heap.size + 1) (by simp)) (b := w4.heap.size) (by omega) (Fo.cells fo2).toArray) rfl (.tmp 12) (.tmp 50) (ty := 36) (l := Fa.cells fa2) rfl (by rfl) (by rfl) sizeFa rfl (Fa.one _) ?_; have HA5 := Lib.hid (two_new HA4.out zfo.cells.toArray zfa.cells.toArray (Fo.cells fo2).toArray (Fa.cells fa2).toArray); have HP5 := Lib.hid (two_new HP4.out zfo.cells.toArray zfa.cells.toArray (Fo.cells fo2).toArray (Fa.cells fa2).toArray); have HF5 := Lib.hid (two_new HF4.out zfo.cells.toArray zfa.cells.toArray (Fo.cells fo2).toArray (Fa.cells fa2).toArray); have HQQ5 := Lib.hid ((Blk.setRow ((Blk.new w4 33 zfo.cells.toArray).alloc (.cells zfa.cells.toArray 36)) (Fo.cells fo2).toArray).row_far (b := w4.heap.size + 1) (by omega) (Fa.cells fa2).toArray); have HG5 := Lib.hid ((Blk.row_far (Blk.new_of (w4.alloc (.cells zfo.cells.toArray 33)) 36 zfa.cells.toArray (g := w4.heap.size + 1) (by simp)) (b := w4.heap.size) (by omega) (Fo.cells fo2).toArray).setRow (Fa.cells fa2).toArray); have HS5 := Lib.hid (st_two HS4.out zfo.cells.toArray zfa.cells.toArray (Fo.cells fo2).toArray (Fa.cells fa2).toArray); have HB5 := Lib.hid (two_rows (fo := fo2) (fa := fa2) (g := w4.heap.size) ((HB4.out.alloc HB4.out.size (.cells zfo.cells.toArray 33)).alloc (by have := HB4.out.size; simp; omega) (.cells zfa.cells.toArray 36)) HB4.out.size); generalize (((w4.alloc (.cells zfo.cells.toArray 33)).alloc (.cells zfa.cells.toArray 36)).setRow w4.heap.size (Fo.cells fo2).toArray).setRow (w4.heap.size + 1) (Fa.cells fa2).toArray = w5 at HA5 HP5 HF5 HQQ5 HG5 HS5 HB5 ⊢; obtain ⟨c0, c1, c2, c3, c4, c5, c6, c7, c8, c9, c10, c11, c12, c13⟩ := tw_cells HA5.out)
      | (go_at_call 14; refine (HST.out _ HS5.out (HT.out.below HB5.out)).mono ?_; rintro e w6 ⟨rfl, s_, f_⟩; have HS6 := Lib.hid s_; have HB6 := Lib.hid (HB5.out.trans (f_.to_below (fun k hk => by have h1 := (HS1.out.pps k hk).1; have h3 := HQ.out; omega) HB5.out.size)); have HA6 := Lib.hid (show Blk w6 w.heap.size 45 (twA x y a b) from (f_.block _ HA5.out.lt (fun hm => by have h1 := (HS1.out.pps _ hm).1; have h3 := HQ.out; omega)).trans HA5.out); clear s_ f_ c0 c1 c2 c3 c4 c5 c6 c7 c8 c9 c10 c11 c12 c13)
      | (show wpList _ _ _ ({ dst := none, op := .store _ (.tmp 14) (.tmp 60), type := _, pos := _, after := _, guard := _ } :: _) _ _; refine wpList_store_big (l0 := zfa.cells) (Blk.new w6 36 zfa.cells.toArray) rfl (.tmp 14) (.tmp 60) (ty := 36) (l := Fa.cells f3) rfl (by rfl) (by rfl) sizeFa rfl (Fa.one _) ?_; have HA7 := Lib.hid (one_new HA6.out zfa.cells.toArray (Fa.cells f3).toArray); have HV7 := Lib.hid (Blk.setRow (Blk.new w6 36 zfa.cells.toArray) (Fa.cells f3).toArray); have HS7 := Lib.hid (st_one HS6.out zfa.cells.toArray (Fa.cells f3).toArray); have HB7 := Lib.hid (below_setRow (HB6.out.alloc HB6.out.size (.cells zfa.cells.toArray 36)) (b := w6.heap.size) HB6.out.size (Fa.cells f3).toArray); generalize (w6.alloc (.cells zfa.cells.toArray 36)).setRow w6.heap.size (Fa.cells f3).toArray = w7 at HA7 HV7 HS7 HB7 ⊢; obtain ⟨c0, c1, c2, c3, c4, c5, c6, c7, c8, c9, c10, c11, c12, c13⟩ := tw_cells HA7.out; have v0 : w7.cell? ⟨w6.heap.size, 0, none⟩ = some (.int .i64 f3.k) := HV7.out.cell 0)
      | (go_at_call 13; refine (same_n HS7.out rfl HN0.out (by have := HNB.out; omega) A cap (HR.out.below HB7.out)).mono ?_; rintro e w8 ⟨rfl, b_⟩; have HB8 := Lib.hid (HB7.out.trans (b_.mono HB7.out.size)); clear b_ c0 c1 c2 c3 c4 c5 c6 c7 c8 c9 c10 c11 c12 c13)
      | (go_at_call 10; refine (known_w _ (HT.out.below HB8.out)).mono ?_; rintro e v9 ⟨rfl, b_⟩; have B9 := Lib.hid (HB8.out.trans (b_.mono (HB8.out).size)); clear b_))
    go_ret
    exact ⟨rfl, B9.out⟩
end Go.Proofs.YtfckdbennjkgoaaDoor.spacesBack

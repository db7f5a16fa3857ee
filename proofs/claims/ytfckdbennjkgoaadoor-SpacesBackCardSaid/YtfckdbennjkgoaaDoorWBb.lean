/- The law SpacesBack: where a store goes. -/
import Derived.Test.YtfckdbennjkgoaaDoorWBa
import Derived.Test.YtfckdbennjkgoaaDoorR11
import Derived.Test.YtfckdbennjkgoaaDoorR09
namespace Go.Proofs.YtfckdbennjkgoaaDoor.spacesBack
open Go.ChangeShapes Go.WideShapes Go.ChangeAt Go.RowKit
attribute [local go_sem] Oper.semAt_some
set_option maxRecDepth 100000 in
set_option maxHeartbeats 1500000 in
theorem walk_go (w : World) (hT : Tab w) (A : Option Addr) (l : List Oj) (cap : Nat) (x y : Ky) (a b : Int) (t : List UInt8) (hr : RdO w A l) (h : madeP l) (ht : t.length ≤ 64) (ha : i64 a) (hb : i64 b) (hg1 : (storeA l x a t).2.1.k = 0) (hg2 : (storeA l x a t).2.2 = 0) : Calls Tryd.prog 4 #[.slice A l.length cap, .agg (twA x y a b), .string (st t)] w fun e w' => e = .returned (.bool true) ∧ Below w.heap.size w w' := by
  have HT := Lib.hid hT
  have HR := Lib.hid hr
  have HB0 := Lib.hid ((Below.refl w.heap.size w).alloc (Nat.le_refl _) (.cells (twA x y a b) 45))
  have HA0 := Lib.hid (Blk.new w 45 (twA x y a b))
  obtain ⟨c0, c1, c2, c3, c4, c5, c6, c7, c8, c9, c10, c11, c12, c13⟩ := tw_cells HA0.out
  have hsz := st_size t
  have HMD := Lib.hid (fun (W : World) (hT : Tab W) (hr : RdO W A l) => made_w (cap := cap) hT hr h)
  obtain ⟨ky, bb, kp, d, j, u, ew, hy0, hyo, hj, el, hla, hlb⟩ := storeA_back hg1 hg2
  have hw1 : ∀ (W : World) (base q : Nat) (A' : Option Addr) (cap' : Nat) (ps : List Nat), StAt W base q A' cap' ps l → Tab W → Calls Tryd.prog 11 #[pv q, x.val, .int .i64 a] W fun e w' => e = .returned (.tuple #[(⟨ky, (bb : Int), kp, (d : Int)⟩ : Fo).val, zfa.val, .int .i64 0]) ∧ Below W.heap.size W w' := fun W base q A' cap' ps hS hT => by
    have := walk_all hS h.2.1 h.2.2.2 hT x a ha.2
    rw [ew] at this
    exact this
  have hw2 : ∀ (W : World) (base q : Nat) (A' : Option Addr) (cap' : Nat) (ps : List Nat), StAt W base q A' cap' ps l → Tab W → Calls Tryd.prog 11 #[pv q, y.val, .int .i64 b] W fun e w' => e = .returned (.tuple #[(walkA l y b).1.val, (walkA l y b).2.1.val, .int .i64 (walkA l y b).2.2]) ∧ Below W.heap.size W w' := fun W base q A' cap' ps hS hT => walk_all hS h.2.1 h.2.2.2 hT y b hb.2
  have hw3 : ∀ (W : World) (base q : Nat) (A' : Option Addr) (cap' : Nat) (ps : List Nat), StAt W base q A' cap' ps l → Tab W → Calls Tryd.prog 14 #[pv q, x.val, .int .i64 a, .string (st t)] W fun e w' => e = .returned (.tuple #[(storeA l x a t).2.1.val, .int .i64 0]) ∧ StAt w' base q A' cap' ps (l.set j (layO u bb t)) ∧ Fr (fun k => k ∈ ps) W w' := fun W base q A' cap' ps hS hT => by
    have := sstore_all hS h.2.1 h.2.2.2 hT x a ha.2 t
    rw [hg2, el] at this
    exact this
  have hok2 : okAll (l.set j (layO u bb t)).length (l.set j (layO u bb t)) := by rw [← el, storeA_len]; exact storeA_ok h.2.2.2 x a t
  have hn2 : 0 < (l.set j (layO u bb t)).length := by rw [List.length_set]; exact h.2.1
  have hl1 : ∀ (W : World) (base q : Nat) (A' : Option Addr) (cap' : Nat) (ps : List Nat), StAt W base q A' cap' ps (l.set j (layO u bb t)) → Tab W → Calls Tryd.prog 16 #[pv q, x.val, .int .i64 a, .int .i64 (t.length : Int)] W fun e w' => e = .returned (.tuple #[.string (st t), zfa.val, .int .i64 0]) ∧ Below W.heap.size W w' := fun W base q A' cap' ps hS hT => by
    have := sload_all hS hn2 hok2 hT x a (t.length : Int) ha.2
    rw [← el, hla] at this
    exact this
  obtain ⟨f3, hf3⟩ : ∃ f3, f3 = (storeA l x a t).2.1 := ⟨_, rfl⟩
  rw [← hf3] at hw3 hg1
  obtain ⟨fo1, hfo1⟩ : ∃ z : Fo, z = ⟨ky, (bb : Int), kp, (d : Int)⟩ := ⟨_, rfl⟩
  have HR0 := Lib.hid (show fo1.x.r = 0 by rw [hfo1]; exact hy0)
  have HO1 := Lib.hid (show fo1.x.o = (j : Int) by rw [hfo1]; exact hyo)
  have HA1' := Lib.hid (show fo1.a = (bb : Int) by rw [hfo1])
  rw [← hfo1] at hw1
  have hl2 : ∀ (W : World) (base q : Nat) (A' : Option Addr) (cap' : Nat) (ps : List Nat), (walkA l y b).2.1.k = 0 → (walkA l y b).2.2 = 0 → (walkA l y b).1.x.o = (j : Int) → (walkA l y b).1.a = (bb : Int) → StAt W base q A' cap' ps (l.set j (layO u bb t)) → Tab W → Calls Tryd.prog 16 #[pv q, y.val, .int .i64 b, .int .i64 (t.length : Int)] W fun e w' => e = .returned (.tuple #[.string (st t), zfa.val, .int .i64 0]) ∧ Below W.heap.size W w' := fun W base q A' cap' ps g1 g2 g3 g4 hS hT => by
    have := sload_all hS hn2 hok2 hT y b (t.length : Int) hb.2
    rw [← el, hlb y b g1 g2 g3 g4 ht] at this
    exact this
  obtain ⟨fo2, hfo2⟩ : ∃ z, z = (walkA l y b).1 := ⟨_, rfl⟩
  obtain ⟨fa2, hfa2⟩ : ∃ z, z = (walkA l y b).2.1 := ⟨_, rfl⟩
  obtain ⟨m2, hm2⟩ : ∃ z, z = (walkA l y b).2.2 := ⟨_, rfl⟩
  rw [← hfo2, ← hfa2, ← hm2] at hw2 hl2
  have HK3 := Lib.hid hg1
  have HWA := Lib.hid (fun (W : World) {base q : Nat} {A' : Option Addr} {cap' : Nat} {ps : List Nat} (hS : StAt W base q A' cap' ps l) (hT : Tab W) => hw1 W base q A' cap' ps hS hT)
  have HWB := Lib.hid (fun (W : World) {base q : Nat} {A' : Option Addr} {cap' : Nat} {ps : List Nat} (hS : StAt W base q A' cap' ps l) (hT : Tab W) => hw2 W base q A' cap' ps hS hT)
  have HST := Lib.hid (fun (W : World) {base q : Nat} {A' : Option Addr} {cap' : Nat} {ps : List Nat} (hS : StAt W base q A' cap' ps l) (hT : Tab W) => hw3 W base q A' cap' ps hS hT)
  have HLA := Lib.hid (fun (W : World) {base q : Nat} {A' : Option Addr} {cap' : Nat} {ps : List Nat} (hS : StAt W base q A' cap' ps (l.set j (layO u bb t))) (hT : Tab W) => hl1 W base q A' cap' ps hS hT)
  have HLB := Lib.hid hl2
  have HJ := Lib.hid hj
  obtain ⟨n, hn⟩ : ∃ n, n = l.length := ⟨_, rfl⟩
  have HLN := Lib.hid hn
  have hn20 : n ≤ 20 := by rw [hn]; exact h.1
  have d0 : decide ((64 : Int) < (t.length : Int)) = false := decide_eq_false (by omega)
  have d1 : decide (64 < t.length) = false := decide_eq_false (by omega)
  have M0 := Lib.hid trivial
  have hz6 := z59
  have hz7 := z35
  have hz8 := z34
  have hbo := oz_len
  rw [← hn] at HMD ⊢
  clear hT hr h ht ha hb hw1 hw2 hw3 hl1 hl2 hla hlb hf3 hfo1 hfo2 hfa2 hm2 hg1 hg2 ew hy0 hyo el hok2 hn2 hj hn
  go_enter Tryd.func4, Tryd.ntmps4
  go_wp2_with (first
    | (go_at_call 9; refine (HMD.out _ (HT.out.below HB0.out) (HR.out.below HB0.out)).mono ?_; rintro e w1 ⟨q, rfl, hq, ⟨A', cap', ps, hs⟩, b_⟩; have HQ := Lib.hid (show w.heap.size < q from Nat.lt_of_lt_of_le HA0.out.lt hq); have HB1 := Lib.hid (HB0.out.trans (b_.mono HB0.out.size)); have HA1 := Lib.hid (HA0.out.keep b_); have HS1 := Lib.hid hs; clear b_ hs hq c0 c1 c2 c3 c4 c5 c6 c7 c8 c9 c10 c11 c12 c13; obtain ⟨c0, c1, c2, c3, c4, c5, c6, c7, c8, c9, c10, c11, c12, c13⟩ := tw_cells HA1.out)
    | (go_at_call 11; first
        | (clear M0; refine (HWA.out _ HS1.out (HT.out.below HB1.out)).mono ?_; rintro e w2 ⟨rfl, b_⟩; have HB2 := Lib.hid (HB1.out.trans (b_.mono HB1.out.size)); have HS2 := Lib.hid (HS1.out.below b_); have HA2 := Lib.hid (HA1.out.keep b_); have HN2 := Lib.hid (show w1.heap.size ≤ w2.heap.size from b_.size); have HL2 := Lib.hid (show w.heap.size < w2.heap.size from HA2.out.lt); clear b_ c0 c1 c2 c3 c4 c5 c6 c7 c8 c9 c10 c11 c12 c13)
        | (refine (HWB.out _ HS3.out (HT.out.below HB3.out)).mono ?_; rintro e w4 ⟨rfl, b_⟩; have HB4 := Lib.hid (HB3.out.trans (b_.mono HB3.out.size)); have HS4 := Lib.hid (HS3.out.below b_); have HA4 := Lib.hid (HA3.out.keep b_); have HP4 := Lib.hid (HP3.out.keep b_); have HF4 := Lib.hid (HF3.out.keep b_); have HL4 := Lib.hid (show w.heap.size < w4.heap.size from HA4.out.lt); clear b_ c0 c1 c2 c3 c4 c5 c6 c7 c8 c9 c10 c11 c12 c13))
    | (show wpList _ _ _ ({ dst := none, op := .store _ (.tmp 8) (.tmp 39), type := _, pos := _, after := _, guard := _ } :: _) _ _; refine wpList_store_big (l0 := zfo.cells) ((Blk.new w2 33 zfo.cells.toArray).alloc (.cells zfa.cells.toArray 36)) rfl (.tmp 8) (.tmp 39) (ty := 33) (l := Fo.cells fo1) rfl (by rfl) (by rfl) sizeFo rfl (Fo.one _) ?_)
    | (show wpList _ _ _ ({ dst := none, op := .store _ (.tmp 9) (.tmp 40), type := _, pos := _, after := _, guard := _ } :: _) _ _; refine wpList_store_big (l0 := zfa.cells) (Blk.row_far (Blk.new_of (w2.alloc (.cells zfo.cells.toArray 33)) 36 zfa.cells.toArray (g := w2.heap.size + 1) (by simp)) (b := w2.heap.size) (by omega) (Fo.cells fo1).toArray) rfl (.tmp 9) (.tmp 40) (ty := 36) (l := Fa.cells zfa) rfl (by rfl) (by rfl) sizeFa rfl (Fa.one _) ?_; have HA3 := Lib.hid (two_new HA2.out zfo.cells.toArray zfa.cells.toArray (Fo.cells fo1).toArray (Fa.cells zfa).toArray); have HP3 := Lib.hid ((Blk.setRow ((Blk.new w2 33 zfo.cells.toArray).alloc (.cells zfa.cells.toArray 36)) (Fo.cells fo1).toArray).row_far (b := w2.heap.size + 1) (by omega) (Fa.cells zfa).toArray); have HF3 := Lib.hid ((Blk.row_far (Blk.new_of (w2.alloc (.cells zfo.cells.toArray 33)) 36 zfa.cells.toArray (g := w2.heap.size + 1) (by simp)) (b := w2.heap.size) (by omega) (Fo.cells fo1).toArray).setRow (Fa.cells zfa).toArray); have HS3 := Lib.hid (st_two HS2.out zfo.cells.toArray zfa.cells.toArray (Fo.cells fo1).toArray (Fa.cells zfa).toArray); have HB3 := Lib.hid (two_rows (fo := fo1) (fa := zfa) (g := w2.heap.size) ((HB2.out.alloc HB2.out.size (.cells zfo.cells.toArray 33)).alloc (by have := HB2.out.size; simp; omega) (.cells zfa.cells.toArray 36)) HB2.out.size); generalize (((w2.alloc (.cells zfo.cells.toArray 33)).alloc (.cells zfa.cells.toArray 36)).setRow w2.heap.size (Fo.cells fo1).toArray).setRow (w2.heap.size + 1) (Fa.cells zfa).toArray = w3 at HA3 HP3 HF3 HS3 HB3 ⊢; obtain ⟨c0, c1, c2, c3, c4, c5, c6, c7, c8, c9, c10, c11, c12, c13⟩ := tw_cells HA3.out)
    | (show wpList _ _ _ ({ dst := none, op := .store _ (.tmp 11) (.tmp 49), type := _, pos := _, after := _, guard := _ } :: _) _ _; refine wpList_store_big (l0 := zfo.cells) ((Blk.new w4 33 zfo.cells.toArray).alloc (.cells zfa.cells.toArray 36)) rfl (.tmp 11) (.tmp 49) (ty := 33) (l := Fo.cells fo2) rfl (by rfl) (by rfl) sizeFo rfl (Fo.one _) ?_)
    | (show wpList _ _ _ ({ dst := none, op := .store _ (.tmp 12) (.tmp 50), type := _, pos := _, after := _, guard := _ } :: _) _ _; refine wpList_store_big (l0 := zfa.cells) (Blk.row_far (Blk.new_of (w4.alloc (.cells zfo.cells.toArray 33)) 36 zfa.cells.toArray (g := w4.heap.size + 1) (by simp)) (b := w4.heap.size) (by omega) (Fo.cells fo2).toArray) rfl (.tmp 12) (.tmp 50) (ty := 36) (l := Fa.cells fa2) rfl (by rfl) (by rfl) sizeFa rfl (Fa.one _) ?_; have HA5 := Lib.hid (two_new HA4.out zfo.cells.toArray zfa.cells.toArray (Fo.cells fo2).toArray (Fa.cells fa2).toArray); have HP5 := Lib.hid (two_new HP4.out zfo.cells.toArray zfa.cells.toArray (Fo.cells fo2).toArray (Fa.cells fa2).toArray); have HF5 := Lib.hid (two_new HF4.out zfo.cells.toArray zfa.cells.toArray (Fo.cells fo2).toArray (Fa.cells fa2).toArray); have HQQ5 := Lib.hid ((Blk.setRow ((Blk.new w4 33 zfo.cells.toArray).alloc (.cells zfa.cells.toArray 36)) (Fo.cells fo2).toArray).row_far (b := w4.heap.size + 1) (by omega) (Fa.cells fa2).toArray); have HG5 := Lib.hid ((Blk.row_far (Blk.new_of (w4.alloc (.cells zfo.cells.toArray 33)) 36 zfa.cells.toArray (g := w4.heap.size + 1) (by simp)) (b := w4.heap.size) (by omega) (Fo.cells fo2).toArray).setRow (Fa.cells fa2).toArray); have HS5 := Lib.hid (st_two HS4.out zfo.cells.toArray zfa.cells.toArray (Fo.cells fo2).toArray (Fa.cells fa2).toArray); have HB5 := Lib.hid (two_rows (fo := fo2) (fa := fa2) (g := w4.heap.size) ((HB4.out.alloc HB4.out.size (.cells zfo.cells.toArray 33)).alloc (by have := HB4.out.size; simp; omega) (.cells zfa.cells.toArray 36)) HB4.out.size); generalize (((w4.alloc (.cells zfo.cells.toArray 33)).alloc (.cells zfa.cells.toArray 36)).setRow w4.heap.size (Fo.cells fo2).toArray).setRow (w4.heap.size + 1) (Fa.cells fa2).toArray = w5 at HA5 HP5 HF5 HQQ5 HG5 HS5 HB5 ⊢; obtain ⟨c0, c1, c2, c3, c4, c5, c6, c7, c8, c9, c10, c11, c12, c13⟩ := tw_cells HA5.out)
    | (go_at_call 14; refine (HST.out _ HS5.out (HT.out.below HB5.out)).mono ?_; rintro e w6 ⟨rfl, s_, f_⟩; have HS6 := Lib.hid s_; have HB6 := Lib.hid (HB5.out.trans (f_.to_below (fun k hk => by have h1 := (HS1.out.pps k hk).1; have h3 := HQ.out; omega) HB5.out.size)); have HA6 := Lib.hid (show Blk w6 w.heap.size 45 (twA x y a b) from (f_.block _ HA5.out.lt (fun hm => by have h1 := (HS1.out.pps _ hm).1; have h3 := HQ.out; omega)).trans HA5.out); have HP6 := Lib.hid (show Blk w6 w2.heap.size 33 (Fo.cells fo1).toArray from (f_.block _ HP5.out.lt (fun hm => by have h2 := (HS1.out.lt _ (.inr (.inr hm))).2; have h6 := HN2.out; have h7 := HP4.out.lt; omega)).trans HP5.out); have HF6 := Lib.hid (show Blk w6 (w2.heap.size + 1) 36 (Fa.cells zfa).toArray from (f_.block _ HF5.out.lt (fun hm => by have h2 := (HS1.out.lt _ (.inr (.inr hm))).2; have h6 := HN2.out; have h7 := HP4.out.lt; omega)).trans HF5.out); have HQQ6 := Lib.hid (show Blk w6 w4.heap.size 33 (Fo.cells fo2).toArray from (f_.block _ HQQ5.out.lt (fun hm => by have h2 := (HS1.out.lt _ (.inr (.inr hm))).2; have h6 := HN2.out; have h7 := HP4.out.lt; omega)).trans HQQ5.out); have HG6 := Lib.hid (show Blk w6 (w4.heap.size + 1) 36 (Fa.cells fa2).toArray from (f_.block _ HG5.out.lt (fun hm => by have h2 := (HS1.out.lt _ (.inr (.inr hm))).2; have h6 := HN2.out; have h7 := HP4.out.lt; omega)).trans HG5.out); clear s_ f_ c0 c1 c2 c3 c4 c5 c6 c7 c8 c9 c10 c11 c12 c13)
    | (show wpList _ _ _ ({ dst := none, op := .store _ (.tmp 14) (.tmp 60), type := _, pos := _, after := _, guard := _ } :: _) _ _; refine wpList_store_big (l0 := zfa.cells) (Blk.new w6 36 zfa.cells.toArray) rfl (.tmp 14) (.tmp 60) (ty := 36) (l := Fa.cells f3) rfl (by rfl) (by rfl) sizeFa rfl (Fa.one _) ?_; have HA7 := Lib.hid (one_new HA6.out zfa.cells.toArray (Fa.cells f3).toArray); have HP7 := Lib.hid (one_new HP6.out zfa.cells.toArray (Fa.cells f3).toArray); have HF7 := Lib.hid (one_new HF6.out zfa.cells.toArray (Fa.cells f3).toArray); have HQQ7 := Lib.hid (one_new HQQ6.out zfa.cells.toArray (Fa.cells f3).toArray); have HG7 := Lib.hid (one_new HG6.out zfa.cells.toArray (Fa.cells f3).toArray); have HV7 := Lib.hid (Blk.setRow (Blk.new w6 36 zfa.cells.toArray) (Fa.cells f3).toArray); have HS7 := Lib.hid (st_one HS6.out zfa.cells.toArray (Fa.cells f3).toArray); have HB7 := Lib.hid (below_setRow (HB6.out.alloc HB6.out.size (.cells zfa.cells.toArray 36)) (b := w6.heap.size) HB6.out.size (Fa.cells f3).toArray); generalize (w6.alloc (.cells zfa.cells.toArray 36)).setRow w6.heap.size (Fa.cells f3).toArray = w7 at HA7 HP7 HF7 HQQ7 HG7 HV7 HS7 HB7 ⊢; obtain ⟨c0, c1, c2, c3, c4, c5, c6, c7, c8, c9, c10, c11, c12, c13⟩ := tw_cells HA7.out; have v0 := cell_eq (show w7.cell? ⟨w6.heap.size, 0, none⟩ = some (.int .i64 f3.k) from HV7.out.cell 0) HK3.out; have v1 : w7.cell? ⟨w2.heap.size + 1, 0, none⟩ = some (.int .i64 0) := HF7.out.cell 0; have v2 := cell_eq (show w7.cell? ⟨w2.heap.size, 4, none⟩ = some (.int .i64 fo1.x.r) from HP7.out.cell 4) HR0.out))
  have HX0 := Lib.hid (Below.refl w7.heap.size w7)
  have HX0' := HX0
  go_loopw [16, 17, 18] (fun q16 _ _ wr => ∃ i : Nat, i ≤ n ∧ q16 = .int .i64 i ∧ Below w7.heap.size w7 wr) (fun q16 _ _ _ => n + 1 - (intOf q16).toNat)
  case atStart => exact ⟨0, by omega, rfl, HX0.out⟩
  case round =>
    obtain ⟨i, hi, rfl, hx⟩ := hrel
    clear HX0
    have HX := Lib.hid hx
    clear hx
    by_cases hlt : i < n
    · have hlt' : i < l.length := by have := HLN.out; omega
      obtain ⟨ab, off, hA, hob⟩ := HR.out i hlt'
      subst hA
      have e0 : decide ((i : Int) < (n : Int)) = true := decide_eq_true (by omega)
      have e1 : decide (i < n) = true := decide_eq_true hlt
      by_cases hij : i = j
      · have y0 : ((i : Int) != (j : Int)) = false := by simp [hij]
        obtain ⟨uo, huo⟩ : ∃ z, z = (l.set j (layO u bb t))[i]'(by rw [List.length_set]; exact hlt') := ⟨_, rfl⟩
        have HGE := Lib.hid (fun (W : World) (hX : Below w7.heap.size w7 W) => (show Calls Tryd.prog 15 #[pv q, .int .i64 (i : Int)] W fun e w' => e = .returned (.tuple #[uo.val, .int .i64 0]) ∧ Below W.heap.size W w' from by
          have := get_at (HS7.out.below hX) i (by rw [List.length_set]; exact hlt')
          rw [← huo] at this
          exact this))
        clear huo hij hob
        go_wp2_with (first
          | (go_at_call 15; refine (HGE.out _ HX.out).mono ?_; rintro e w8 ⟨rfl, b_⟩; have HX8 := Lib.hid (HX.out.trans (b_.mono HX.out.size)); clear b_)
          | (show wpList _ _ _ ({ dst := none, op := .store _ (.tmp 17) (.tmp 98), type := _, pos := _, after := _, guard := _ } :: _) _ _; refine wpList_store_last rfl (.tmp 17) (.tmp 98) rfl w8.heap.size rfl rfl uo oz rfl ?_; have HX9 := Lib.hid (HX8.out.alloc HX8.out.size (.cells uo.cells.toArray 52)); have HU9 := Lib.hid (Blk.new w8 52 uo.cells.toArray); generalize w8.alloc (.cells uo.cells.toArray 52) = w9 at HX9 HU9 ⊢; have HP9 := Lib.hid (HP7.out.keep HX9.out); generalize w8.heap.size = gg at HU9 ⊢))
        refine wp_region_only (S := fun W => W.cell? ⟨w2.heap.size, 1, none⟩ = some (.int .i64 (j : Int))) (by kernel_rfl) (cell_eq (show w9.drew.cell? ⟨w2.heap.size, 1, none⟩ = some (.int .i64 fo1.x.o) from HP9.out.cell 1) HO1.out) (fun hHeld => ?_)
        refine wpAnyH_take (i := 0) (v := ?v10) rfl (by kernel_rfl) (by kernel_rfl) (by kernel_rfl) (fun _ _ _ h => h) (Or.inl ⟨by rfl, ?hy10⟩) hHeld ?rest10
        case hy10 =>
          intro w' hSw
          try dsimp only at hSw
          go_simp
          first | done | with_reducible rfl
        try simp only [Act.put, List.getElem_toArray, List.getElem_cons_zero, List.setIfInBounds_toArray, List.set_cons_zero, List.set_cons_succ]
        refine wpAnyH_take (i := 1) (v := ?v11) rfl (by kernel_rfl) (by kernel_rfl) (by kernel_rfl) (fun _ _ _ h => h) (Or.inl ⟨by rfl, ?hy11⟩) hHeld ?rest11
        case hy11 =>
          intro w' hSw
          try dsimp only at hSw
          go_simp
          first | done | with_reducible rfl
        try simp only [Act.put, List.getElem_toArray, List.getElem_cons_succ, List.getElem_cons_zero, List.setIfInBounds_toArray, List.set_cons_zero, List.set_cons_succ]
        refine wpAnyH_take (i := 2) (v := ?v12) rfl (by kernel_rfl) (by kernel_rfl) (by kernel_rfl) (fun _ _ _ h => h) (Or.inl ⟨by rfl, ?hy12⟩) hHeld ?rest12
        case hy12 =>
          intro w' hSw
          try dsimp only at hSw
          go_simp
          first | done | with_reducible rfl
        try simp only [Act.put, List.getElem_toArray, List.getElem_cons_succ, List.getElem_cons_zero, List.setIfInBounds_toArray, List.set_cons_zero, List.set_cons_succ]
        refine wpAnyH_take (i := 3) rfl (by kernel_rfl) (by kernel_rfl) (by kernel_rfl) (fun _ _ _ h => h) (y_cell (by rfl) 3 (.tmp 102) (by rfl) w2.heap.size 1 (by rfl) (.int .i64 (j : Int)) (ld_in _ _ _) (fun _ h => h)) hHeld ?_
        try simp only [Act.put, List.getElem_toArray, List.getElem_cons_succ, List.getElem_cons_zero, List.setIfInBounds_toArray, List.set_cons_zero, List.set_cons_succ]
        refine wpAnyH_take (i := 4) (v := ?v13) rfl (by kernel_rfl) (by kernel_rfl) (by kernel_rfl) (fun _ _ _ h => h) (Or.inl ⟨by rfl, ?hy13⟩) hHeld ?rest13
        case hy13 =>
          intro w' hSw
          try dsimp only at hSw
          go_simp
          first | done | with_reducible rfl
        try simp only [Act.put, List.getElem_toArray, List.getElem_cons_succ, List.getElem_cons_zero, List.setIfInBounds_toArray, List.set_cons_zero, List.set_cons_succ]
        refine wpAnyH_take (i := 5) (v := ?v14) rfl (by kernel_rfl) (by kernel_rfl) (by kernel_rfl) (fun _ _ _ h => h) (Or.inl ⟨by rfl, ?hy14⟩) hHeld ?rest14
        case hy14 =>
          intro w' hSw
          try dsimp only at hSw
          go_simp
          first | done | with_reducible rfl
        try simp only [Act.put, List.getElem_toArray, List.getElem_cons_succ, List.getElem_cons_zero, List.setIfInBounds_toArray, List.set_cons_zero, List.set_cons_succ]
        refine wpAnyH_take (i := 6) (v := undef) rfl (by kernel_rfl) (by kernel_rfl) (by kernel_rfl) (fun _ _ _ h => h) (Or.inr ⟨by rfl, rfl⟩) hHeld ?_
        try simp only [Act.put, List.getElem_toArray, List.getElem_cons_succ, List.getElem_cons_zero, List.setIfInBounds_toArray, List.set_cons_zero, List.set_cons_succ]
        refine wpAnyH_take (i := 7) (v := undef) rfl (by kernel_rfl) (by kernel_rfl) (by kernel_rfl) (fun _ _ _ h => h) (Or.inr ⟨by rfl, rfl⟩) hHeld ?_
        try simp only [Act.put, List.getElem_toArray, List.getElem_cons_succ, List.getElem_cons_zero, List.setIfInBounds_toArray, List.set_cons_zero, List.set_cons_succ]
        refine wpAnyH_take (i := 8) (v := undef) rfl (by kernel_rfl) (by kernel_rfl) (by kernel_rfl) (fun _ _ _ h => h) (Or.inr ⟨by rfl, rfl⟩) hHeld ?_
        try simp only [Act.put, List.getElem_toArray, List.getElem_cons_succ, List.getElem_cons_zero, List.setIfInBounds_toArray, List.set_cons_zero, List.set_cons_succ]
        refine wpAnyH_take (i := 9) (v := undef) rfl (by kernel_rfl) (by kernel_rfl) (by kernel_rfl) (fun _ _ _ h => h) (Or.inr ⟨by rfl, rfl⟩) hHeld ?_
        try simp only [Act.put, List.getElem_toArray, List.getElem_cons_succ, List.getElem_cons_zero, List.setIfInBounds_toArray, List.set_cons_zero, List.set_cons_succ]
        refine wpAnyH_take (i := 10) (v := undef) rfl (by kernel_rfl) (by kernel_rfl) (by kernel_rfl) (fun _ _ _ h => h) (Or.inr ⟨by rfl, rfl⟩) hHeld ?_
        try simp only [Act.put, List.getElem_toArray, List.getElem_cons_succ, List.getElem_cons_zero, List.setIfInBounds_toArray, List.set_cons_zero, List.set_cons_succ]
        refine wpAnyH_take (i := 11) (v := undef) rfl (by kernel_rfl) (by kernel_rfl) (by kernel_rfl) (fun _ _ _ h => h) (Or.inr ⟨by rfl, rfl⟩) hHeld ?_
        try simp only [Act.put, List.getElem_toArray, List.getElem_cons_succ, List.getElem_cons_zero, List.setIfInBounds_toArray, List.set_cons_zero, List.set_cons_succ]
        refine wpAnyH_take (i := 12) (v := ?v15) rfl (by kernel_rfl) (by kernel_rfl) (by kernel_rfl) (fun _ _ _ h => h) (Or.inl ⟨by rfl, ?hy15⟩) hHeld ?rest15
        case hy15 =>
          intro w' hSw
          try dsimp only at hSw
          go_simp
          first | done | with_reducible rfl
        try simp only [Act.put, List.getElem_toArray, List.getElem_cons_succ, List.getElem_cons_zero, List.setIfInBounds_toArray, List.set_cons_zero, List.set_cons_succ]
        refine wpAnyH_done (by kernel_rfl) ?_ _
        refine OnlyN.normal ?_
        go_wp2_with fail
        go_roundw
        case rel => exact ⟨i + 1, by omega, by go_num, below_drew HX9.out⟩
        case measure => simp [intOf]; omega
      · have y0 : ((i : Int) != (j : Int)) = true := by simp; omega
        obtain ⟨uo, huo⟩ : ∃ z, z = l[i] := ⟨_, rfl⟩
        rw [← huo] at hob
        have HOB := Lib.hid (fun (W : World) (hX : Below w7.heap.size w7 W) => (hob.below HB7.out).below hX)
        have HGE := Lib.hid (fun (W : World) (hX : Below w7.heap.size w7 W) => (show Calls Tryd.prog 15 #[pv q, .int .i64 (i : Int)] W fun e w' => e = .returned (.tuple #[uo.val, .int .i64 0]) ∧ Below W.heap.size W w' from by
          have := get_at (HS7.out.below hX) i (by rw [List.length_set]; exact hlt')
          rw [List.getElem_set_ne (fun e => hij e.symm), ← huo] at this
          exact this))
        clear huo hij hob
        go_wp2_with (first
          | (go_at_call 15; refine (HGE.out _ HX.out).mono ?_; rintro e w8 ⟨rfl, b_⟩; have HX8 := Lib.hid (HX.out.trans (b_.mono HX.out.size)); clear b_)
          | (show wpList _ _ _ ({ dst := none, op := .store _ (.tmp 17) (.tmp 98), type := _, pos := _, after := _, guard := _ } :: _) _ _; refine wpList_store_last rfl (.tmp 17) (.tmp 98) rfl w8.heap.size rfl rfl uo oz rfl ?_; have HX9 := Lib.hid (HX8.out.alloc HX8.out.size (.cells uo.cells.toArray 52)); have HU9 := Lib.hid (Blk.new w8 52 uo.cells.toArray); generalize w8.alloc (.cells uo.cells.toArray 52) = w9 at HX9 HU9 ⊢; have HP9 := Lib.hid (HP7.out.keep HX9.out); generalize w8.heap.size = gg at HU9 ⊢))
        refine wp_region_only (S := fun W => W.cell? ⟨w2.heap.size, 1, none⟩ = some (.int .i64 (j : Int)) ∧ ObAt W gg 0 uo ∧ ObAt W ab (off + i * 163) uo) (by kernel_rfl) ⟨cell_eq (show w9.drew.cell? ⟨w2.heap.size, 1, none⟩ = some (.int .i64 fo1.x.o) from HP9.out.cell 1) HO1.out, (show Blk w9.drew gg _ _ from HU9.out).ob, HOB.out _ (below_drew HX9.out)⟩ (fun hHeld => ?_)
        refine wpAnyH_take (i := 0) (v := ?v1) rfl (by kernel_rfl) (by kernel_rfl) (by kernel_rfl) (fun _ _ _ h => h) (Or.inl ⟨by rfl, ?hy1⟩) hHeld ?rest1
        case hy1 =>
          intro w' hSw
          try dsimp only at hSw
          go_simp
          first | done | with_reducible rfl
        try simp only [Act.put, List.getElem_toArray, List.getElem_cons_zero, List.setIfInBounds_toArray, List.set_cons_zero, List.set_cons_succ]
        refine wpAnyH_take (i := 1) (v := ?v2) rfl (by kernel_rfl) (by kernel_rfl) (by kernel_rfl) (fun _ _ _ h => h) (Or.inl ⟨by rfl, ?hy2⟩) hHeld ?rest2
        case hy2 =>
          intro w' hSw
          try dsimp only at hSw
          go_simp
          first | done | with_reducible rfl
        try simp only [Act.put, List.getElem_toArray, List.getElem_cons_succ, List.getElem_cons_zero, List.setIfInBounds_toArray, List.set_cons_zero, List.set_cons_succ]
        refine wpAnyH_take (i := 2) (v := ?v3) rfl (by kernel_rfl) (by kernel_rfl) (by kernel_rfl) (fun _ _ _ h => h) (Or.inl ⟨by rfl, ?hy3⟩) hHeld ?rest3
        case hy3 =>
          intro w' hSw
          try dsimp only at hSw
          go_simp
          first | done | with_reducible rfl
        try simp only [Act.put, List.getElem_toArray, List.getElem_cons_succ, List.getElem_cons_zero, List.setIfInBounds_toArray, List.set_cons_zero, List.set_cons_succ]
        refine wpAnyH_take (i := 3) rfl (by kernel_rfl) (by kernel_rfl) (by kernel_rfl) (fun _ _ _ h => h) (y_cell (by rfl) 3 (.tmp 102) (by rfl) w2.heap.size 1 (by rfl) (.int .i64 (j : Int)) (ld_in _ _ _) (fun _ h => h.1)) hHeld ?_
        try simp only [Act.put, List.getElem_toArray, List.getElem_cons_succ, List.getElem_cons_zero, List.setIfInBounds_toArray, List.set_cons_zero, List.set_cons_succ]
        refine wpAnyH_take (i := 4) (v := ?v4) rfl (by kernel_rfl) (by kernel_rfl) (by kernel_rfl) (fun _ _ _ h => h) (Or.inl ⟨by rfl, ?hy4⟩) hHeld ?rest4
        case hy4 =>
          intro w' hSw
          try dsimp only at hSw
          go_simp
          first | done | with_reducible rfl
        try simp only [Act.put, List.getElem_toArray, List.getElem_cons_succ, List.getElem_cons_zero, List.setIfInBounds_toArray, List.set_cons_zero, List.set_cons_succ]
        refine wpAnyH_take (i := 5) (v := ?v5) rfl (by kernel_rfl) (by kernel_rfl) (by kernel_rfl) (fun _ _ _ h => h) (Or.inl ⟨by rfl, ?hy5⟩) hHeld ?rest5
        case hy5 =>
          intro w' hSw
          try dsimp only at hSw
          go_simp
          first | done | with_reducible rfl
        try simp only [Act.put, List.getElem_toArray, List.getElem_cons_succ, List.getElem_cons_zero, List.setIfInBounds_toArray, List.set_cons_zero, List.set_cons_succ]
        refine wpAnyH_take (i := 6) rfl (by kernel_rfl) (by kernel_rfl) (by kernel_rfl) (fun _ _ _ h => h) (y_ob (by rfl) (.tmp 17) (by rfl) gg 0 (by rfl) uo (fun _ h => h.2.1)) hHeld ?_
        try simp only [Act.put, List.getElem_toArray, List.getElem_cons_succ, List.getElem_cons_zero, List.setIfInBounds_toArray, List.set_cons_zero, List.set_cons_succ]
        refine wpAnyH_take (i := 7) (v := ?v6) rfl (by kernel_rfl) (by kernel_rfl) (by kernel_rfl) (fun _ _ _ h => h) (Or.inl ⟨by rfl, ?hy6⟩) hHeld ?rest6
        case hy6 =>
          intro w' hSw
          try dsimp only at hSw
          go_simp
          first | done | with_reducible rfl
        try simp only [Act.put, List.getElem_toArray, List.getElem_cons_succ, List.getElem_cons_zero, List.setIfInBounds_toArray, List.set_cons_zero, List.set_cons_succ]
        refine wpAnyH_take (i := 8) (v := ?v7) rfl (by kernel_rfl) (by kernel_rfl) (by kernel_rfl) (fun _ _ _ h => h) (Or.inl ⟨by rfl, ?hy7⟩) hHeld ?rest7
        case hy7 =>
          intro w' hSw
          try dsimp only at hSw
          go_simp
          first | done | with_reducible rfl
        try simp only [Act.put, List.getElem_toArray, List.getElem_cons_succ, List.getElem_cons_zero, List.setIfInBounds_toArray, List.set_cons_zero, List.set_cons_succ]
        refine wpAnyH_take (i := 9) (v := ?v8) rfl (by kernel_rfl) (by kernel_rfl) (by kernel_rfl) (fun _ _ _ h => h) (Or.inl ⟨by rfl, ?hy8⟩) hHeld ?rest8
        case hy8 =>
          intro w' hSw
          try dsimp only at hSw
          go_simp
          first | done | with_reducible rfl
        try simp only [Act.put, List.getElem_toArray, List.getElem_cons_succ, List.getElem_cons_zero, List.setIfInBounds_toArray, List.set_cons_zero, List.set_cons_succ]
        refine wpAnyH_take (i := 10) rfl (by kernel_rfl) (by kernel_rfl) (by kernel_rfl) (fun _ _ _ h => h) (y_ob (by rfl) (.tmp 109) (by rfl) ab (off + i * 163) (by rfl) uo (fun _ h => h.2.2)) hHeld ?_
        try simp only [Act.put, List.getElem_toArray, List.getElem_cons_succ, List.getElem_cons_zero, List.setIfInBounds_toArray, List.set_cons_zero, List.set_cons_succ]
        refine wpAnyH_take (i := 11) rfl (by kernel_rfl) (by kernel_rfl) (by kernel_rfl) (fun _ _ _ h => h) (y_obne_self (by rfl) (by rfl) uo (by rfl) (by rfl)) hHeld ?_
        try simp only [Act.put, List.getElem_toArray, List.getElem_cons_succ, List.getElem_cons_zero, List.setIfInBounds_toArray, List.set_cons_zero, List.set_cons_succ]
        refine wpAnyH_take (i := 12) (v := ?v9) rfl (by kernel_rfl) (by kernel_rfl) (by kernel_rfl) (fun _ _ _ h => h) (Or.inl ⟨by rfl, ?hy9⟩) hHeld ?rest9
        case hy9 =>
          intro w' hSw
          try dsimp only at hSw
          go_simp
          first | done | with_reducible rfl
        try simp only [Act.put, List.getElem_toArray, List.getElem_cons_succ, List.getElem_cons_zero, List.setIfInBounds_toArray, List.set_cons_zero, List.set_cons_succ]
        refine wpAnyH_done (by kernel_rfl) ?_ _
        refine OnlyN.normal ?_
        go_wp2_with fail
        go_roundw
        case rel => exact ⟨i + 1, by omega, by go_num, below_drew HX9.out⟩
        case measure => simp [intOf]; omega
    · obtain rfl : i = n := by omega
      have e0 : decide ((i : Int) < (i : Int)) = false := decide_eq_false (by omega)
      have e1 : decide (i < i) = false := decide_eq_false (by omega)
      clear hi hlt
      have HA8 := Lib.hid (HA7.out.keep HX.out)
      have HP8 := Lib.hid (HP7.out.keep HX.out)
      have HQQ8 := Lib.hid (HQQ7.out.keep HX.out)
      have HG8 := Lib.hid (HG7.out.keep HX.out)
      have HS8 := Lib.hid (HS7.out.below HX.out)
      have HB8 := Lib.hid (HB7.out.trans (HX.out.mono HB7.out.size))
      have HL6 := Lib.hid (show w.heap.size < wr.heap.size from HA8.out.lt)
      clear HA7 HP7 HQQ7 HG7 HS7 HB7 HF7 HX HX0'
      obtain ⟨c0, c1, c2, c3, c4, c5, c6, c7, c8, c9, c10, c11, c12, c13⟩ := tw_cells HA8.out
      have M1 := Lib.hid trivial
      have K5 := Lib.hid trivial
      by_cases k1 : m2 ≠ 0
      · have q1 : (m2 == 0) = false := by simpa using k1
        go_wp2_with (first
          | (go_at_call 16; refine (HLA.out _ HS8.out (HT.out.below HB8.out)).mono ?_; rintro e w9 ⟨rfl, b_⟩; have HB9 := Lib.hid (HB8.out.trans (b_.mono HB8.out.size)); have HS9 := Lib.hid (HS8.out.below b_); have HA9 := Lib.hid (HA8.out.keep b_); have HP9 := Lib.hid (HP8.out.keep b_); have HQQ9 := Lib.hid (HQQ8.out.keep b_); have HG9 := Lib.hid (HG8.out.keep b_); clear b_ c0 c1 c2 c3 c4 c5 c6 c7 c8 c9 c10 c11 c12 c13)
          | (show wpList _ _ _ ({ dst := none, op := .store _ (.tmp 20) (.tmp 123), type := _, pos := _, after := _, guard := _ } :: _) _ _; refine wpList_store_big (l0 := zfa.cells) (Blk.new w9 36 zfa.cells.toArray) rfl (.tmp 20) (.tmp 123) (ty := 36) (l := Fa.cells zfa) rfl (by rfl) (by rfl) sizeFa rfl (Fa.one _) ?_; have HA10 := Lib.hid (one_new HA9.out zfa.cells.toArray (Fa.cells zfa).toArray); have HP10 := Lib.hid (one_new HP9.out zfa.cells.toArray (Fa.cells zfa).toArray); have HQQ10 := Lib.hid (one_new HQQ9.out zfa.cells.toArray (Fa.cells zfa).toArray); have HG10 := Lib.hid (one_new HG9.out zfa.cells.toArray (Fa.cells zfa).toArray); have HY10 := Lib.hid (Blk.setRow (Blk.new w9 36 zfa.cells.toArray) (Fa.cells zfa).toArray); have HS10 := Lib.hid (st_one HS9.out zfa.cells.toArray (Fa.cells zfa).toArray); have HB10 := Lib.hid (below_setRow (HB9.out.alloc HB9.out.size (.cells zfa.cells.toArray 36)) (b := w9.heap.size) HB9.out.size (Fa.cells zfa).toArray); generalize (w9.alloc (.cells zfa.cells.toArray 36)).setRow w9.heap.size (Fa.cells zfa).toArray = w10 at HA10 HP10 HQQ10 HG10 HY10 HS10 HB10 ⊢; obtain ⟨c0, c1, c2, c3, c4, c5, c6, c7, c8, c9, c10, c11, c12, c13⟩ := tw_cells HA10.out; have HW9 := Lib.hid (show w.heap.size ≤ w9.heap.size from HB9.out.size); have v3 : w10.cell? ⟨w9.heap.size, 0, none⟩ = some (.int .i64 0) := HY10.out.cell 0; go_wp2_with (first | (go_at_call 10; refine (known_w _ (HT.out.below HB10.out)).mono ?_; rintro e v19 ⟨rfl, b_⟩; have B9 := Lib.hid (HB10.out.trans (b_.mono (HB10.out).size)); clear b_))))
        go_ret
        exact ⟨rfl, B9.out⟩
      replace k1 : m2 = 0 := by omega
      subst k1
      by_cases k2 : fa2.k ≠ 0
      · have q2 : (fa2.k == 0) = false := by simpa using k2
        go_wp2_with (first
          | (go_at_call 16; refine (HLA.out _ HS8.out (HT.out.below HB8.out)).mono ?_; rintro e w9 ⟨rfl, b_⟩; have HB9 := Lib.hid (HB8.out.trans (b_.mono HB8.out.size)); have HS9 := Lib.hid (HS8.out.below b_); have HA9 := Lib.hid (HA8.out.keep b_); have HP9 := Lib.hid (HP8.out.keep b_); have HQQ9 := Lib.hid (HQQ8.out.keep b_); have HG9 := Lib.hid (HG8.out.keep b_); clear b_ c0 c1 c2 c3 c4 c5 c6 c7 c8 c9 c10 c11 c12 c13)
          | (show wpList _ _ _ ({ dst := none, op := .store _ (.tmp 20) (.tmp 123), type := _, pos := _, after := _, guard := _ } :: _) _ _; refine wpList_store_big (l0 := zfa.cells) (Blk.new w9 36 zfa.cells.toArray) rfl (.tmp 20) (.tmp 123) (ty := 36) (l := Fa.cells zfa) rfl (by rfl) (by rfl) sizeFa rfl (Fa.one _) ?_; have HA10 := Lib.hid (one_new HA9.out zfa.cells.toArray (Fa.cells zfa).toArray); have HP10 := Lib.hid (one_new HP9.out zfa.cells.toArray (Fa.cells zfa).toArray); have HQQ10 := Lib.hid (one_new HQQ9.out zfa.cells.toArray (Fa.cells zfa).toArray); have HG10 := Lib.hid (one_new HG9.out zfa.cells.toArray (Fa.cells zfa).toArray); have HY10 := Lib.hid (Blk.setRow (Blk.new w9 36 zfa.cells.toArray) (Fa.cells zfa).toArray); have HS10 := Lib.hid (st_one HS9.out zfa.cells.toArray (Fa.cells zfa).toArray); have HB10 := Lib.hid (below_setRow (HB9.out.alloc HB9.out.size (.cells zfa.cells.toArray 36)) (b := w9.heap.size) HB9.out.size (Fa.cells zfa).toArray); generalize (w9.alloc (.cells zfa.cells.toArray 36)).setRow w9.heap.size (Fa.cells zfa).toArray = w10 at HA10 HP10 HQQ10 HG10 HY10 HS10 HB10 ⊢; obtain ⟨c0, c1, c2, c3, c4, c5, c6, c7, c8, c9, c10, c11, c12, c13⟩ := tw_cells HA10.out; have HW9 := Lib.hid (show w.heap.size ≤ w9.heap.size from HB9.out.size); have v3 : w10.cell? ⟨w9.heap.size, 0, none⟩ = some (.int .i64 0) := HY10.out.cell 0; have v4 : w10.cell? ⟨w4.heap.size + 1, 0, none⟩ = some (.int .i64 fa2.k) := HG10.out.cell 0; go_wp2_with (first | (go_at_call 10; refine (known_w _ (HT.out.below HB10.out)).mono ?_; rintro e v19 ⟨rfl, b_⟩; have B9 := Lib.hid (HB10.out.trans (b_.mono (HB10.out).size)); clear b_))))
        go_ret
        exact ⟨rfl, B9.out⟩
      replace k2 : fa2.k = 0 := by omega
      have K2 := Lib.hid k2
      by_cases k3 : fo2.x.o ≠ (j : Int)
      · have q3 : (fo2.x.o == (j : Int)) = false := by simpa using k3
        clear k2
        go_wp2_with (first
          | (go_at_call 16; refine (HLA.out _ HS8.out (HT.out.below HB8.out)).mono ?_; rintro e w9 ⟨rfl, b_⟩; have HB9 := Lib.hid (HB8.out.trans (b_.mono HB8.out.size)); have HS9 := Lib.hid (HS8.out.below b_); have HA9 := Lib.hid (HA8.out.keep b_); have HP9 := Lib.hid (HP8.out.keep b_); have HQQ9 := Lib.hid (HQQ8.out.keep b_); have HG9 := Lib.hid (HG8.out.keep b_); clear b_ c0 c1 c2 c3 c4 c5 c6 c7 c8 c9 c10 c11 c12 c13)
          | (show wpList _ _ _ ({ dst := none, op := .store _ (.tmp 20) (.tmp 123), type := _, pos := _, after := _, guard := _ } :: _) _ _; refine wpList_store_big (l0 := zfa.cells) (Blk.new w9 36 zfa.cells.toArray) rfl (.tmp 20) (.tmp 123) (ty := 36) (l := Fa.cells zfa) rfl (by rfl) (by rfl) sizeFa rfl (Fa.one _) ?_; have HA10 := Lib.hid (one_new HA9.out zfa.cells.toArray (Fa.cells zfa).toArray); have HP10 := Lib.hid (one_new HP9.out zfa.cells.toArray (Fa.cells zfa).toArray); have HQQ10 := Lib.hid (one_new HQQ9.out zfa.cells.toArray (Fa.cells zfa).toArray); have HG10 := Lib.hid (one_new HG9.out zfa.cells.toArray (Fa.cells zfa).toArray); have HY10 := Lib.hid (Blk.setRow (Blk.new w9 36 zfa.cells.toArray) (Fa.cells zfa).toArray); have HS10 := Lib.hid (st_one HS9.out zfa.cells.toArray (Fa.cells zfa).toArray); have HB10 := Lib.hid (below_setRow (HB9.out.alloc HB9.out.size (.cells zfa.cells.toArray 36)) (b := w9.heap.size) HB9.out.size (Fa.cells zfa).toArray); generalize (w9.alloc (.cells zfa.cells.toArray 36)).setRow w9.heap.size (Fa.cells zfa).toArray = w10 at HA10 HP10 HQQ10 HG10 HY10 HS10 HB10 ⊢; obtain ⟨c0, c1, c2, c3, c4, c5, c6, c7, c8, c9, c10, c11, c12, c13⟩ := tw_cells HA10.out; have HW9 := Lib.hid (show w.heap.size ≤ w9.heap.size from HB9.out.size); have v3 : w10.cell? ⟨w9.heap.size, 0, none⟩ = some (.int .i64 0) := HY10.out.cell 0; have v4 : w10.cell? ⟨w4.heap.size + 1, 0, none⟩ = some (.int .i64 fa2.k) := HG10.out.cell 0; replace v4 := cell_eq v4 K2.out; have v5 : w10.cell? ⟨w4.heap.size, 1, none⟩ = some (.int .i64 fo2.x.o) := HQQ10.out.cell 1; have v6 := cell_eq (show w10.cell? ⟨w2.heap.size, 1, none⟩ = some (.int .i64 fo1.x.o) from HP10.out.cell 1) HO1.out; go_wp2_with (first | (go_at_call 10; refine (known_w _ (HT.out.below HB10.out)).mono ?_; rintro e v19 ⟨rfl, b_⟩; have B9 := Lib.hid (HB10.out.trans (b_.mono (HB10.out).size)); clear b_))))
        go_ret
        exact ⟨rfl, B9.out⟩
      replace k3 : fo2.x.o = (j : Int) := by omega
      have K3 := Lib.hid k3
      by_cases k4 : fo2.a ≠ (bb : Int)
      · have q4 : (fo2.a == (bb : Int)) = false := by simpa using k4
        clear k2 k3
        go_wp2_with (first
          | (go_at_call 16; refine (HLA.out _ HS8.out (HT.out.below HB8.out)).mono ?_; rintro e w9 ⟨rfl, b_⟩; have HB9 := Lib.hid (HB8.out.trans (b_.mono HB8.out.size)); have HS9 := Lib.hid (HS8.out.below b_); have HA9 := Lib.hid (HA8.out.keep b_); have HP9 := Lib.hid (HP8.out.keep b_); have HQQ9 := Lib.hid (HQQ8.out.keep b_); have HG9 := Lib.hid (HG8.out.keep b_); clear b_ c0 c1 c2 c3 c4 c5 c6 c7 c8 c9 c10 c11 c12 c13)
          | (show wpList _ _ _ ({ dst := none, op := .store _ (.tmp 20) (.tmp 123), type := _, pos := _, after := _, guard := _ } :: _) _ _; refine wpList_store_big (l0 := zfa.cells) (Blk.new w9 36 zfa.cells.toArray) rfl (.tmp 20) (.tmp 123) (ty := 36) (l := Fa.cells zfa) rfl (by rfl) (by rfl) sizeFa rfl (Fa.one _) ?_; have HA10 := Lib.hid (one_new HA9.out zfa.cells.toArray (Fa.cells zfa).toArray); have HP10 := Lib.hid (one_new HP9.out zfa.cells.toArray (Fa.cells zfa).toArray); have HQQ10 := Lib.hid (one_new HQQ9.out zfa.cells.toArray (Fa.cells zfa).toArray); have HG10 := Lib.hid (one_new HG9.out zfa.cells.toArray (Fa.cells zfa).toArray); have HY10 := Lib.hid (Blk.setRow (Blk.new w9 36 zfa.cells.toArray) (Fa.cells zfa).toArray); have HS10 := Lib.hid (st_one HS9.out zfa.cells.toArray (Fa.cells zfa).toArray); have HB10 := Lib.hid (below_setRow (HB9.out.alloc HB9.out.size (.cells zfa.cells.toArray 36)) (b := w9.heap.size) HB9.out.size (Fa.cells zfa).toArray); generalize (w9.alloc (.cells zfa.cells.toArray 36)).setRow w9.heap.size (Fa.cells zfa).toArray = w10 at HA10 HP10 HQQ10 HG10 HY10 HS10 HB10 ⊢; obtain ⟨c0, c1, c2, c3, c4, c5, c6, c7, c8, c9, c10, c11, c12, c13⟩ := tw_cells HA10.out; have HW9 := Lib.hid (show w.heap.size ≤ w9.heap.size from HB9.out.size); have v3 : w10.cell? ⟨w9.heap.size, 0, none⟩ = some (.int .i64 0) := HY10.out.cell 0; have v4 : w10.cell? ⟨w4.heap.size + 1, 0, none⟩ = some (.int .i64 fa2.k) := HG10.out.cell 0; replace v4 := cell_eq v4 K2.out; have v5 : w10.cell? ⟨w4.heap.size, 1, none⟩ = some (.int .i64 fo2.x.o) := HQQ10.out.cell 1; have v6 := cell_eq (show w10.cell? ⟨w2.heap.size, 1, none⟩ = some (.int .i64 fo1.x.o) from HP10.out.cell 1) HO1.out; replace v5 := cell_eq v5 K3.out; have v7 : w10.cell? ⟨w4.heap.size, 6, none⟩ = some (.int .i64 fo2.a) := HQQ10.out.cell 6; have v8 := cell_eq (show w10.cell? ⟨w2.heap.size, 6, none⟩ = some (.int .i64 fo1.a) from HP10.out.cell 6) HA1'.out; go_wp2_with (first | (go_at_call 10; refine (known_w _ (HT.out.below HB10.out)).mono ?_; rintro e v19 ⟨rfl, b_⟩; have B9 := Lib.hid (HB10.out.trans (b_.mono (HB10.out).size)); clear b_))))
        go_ret
        exact ⟨rfl, B9.out⟩
      replace k4 : fo2.a = (bb : Int) := by omega
      have K4 := Lib.hid k4
      have HLB2 := Lib.hid (fun (W : World) {base q : Nat} {A' : Option Addr} {cap' : Nat} {ps : List Nat} (hS : StAt W base q A' cap' ps (l.set j (layO u bb t))) (hT : Tab W) => HLB.out W base q A' cap' ps k2 rfl k3 k4 hS hT)
      clear k2 k3 k4
      go_wp2_with (first
        | (go_at_call 16; first
        | (clear M1; refine (HLA.out _ HS8.out (HT.out.below HB8.out)).mono ?_; rintro e w9 ⟨rfl, b_⟩; have HB9 := Lib.hid (HB8.out.trans (b_.mono HB8.out.size)); have HS9 := Lib.hid (HS8.out.below b_); have HA9 := Lib.hid (HA8.out.keep b_); have HP9 := Lib.hid (HP8.out.keep b_); have HQQ9 := Lib.hid (HQQ8.out.keep b_); have HG9 := Lib.hid (HG8.out.keep b_); clear b_ c0 c1 c2 c3 c4 c5 c6 c7 c8 c9 c10 c11 c12 c13)
        | (refine (HLB2.out _ HS10.out (HT.out.below HB10.out)).mono ?_; rintro e w11 ⟨rfl, b_⟩; have HB11 := Lib.hid (HB10.out.trans (b_.mono HB10.out.size)); have HY11 := Lib.hid (HY10.out.keep b_); have HGE9 := Lib.hid HW9.out; clear b_ c0 c1 c2 c3 c4 c5 c6 c7 c8 c9 c10 c11 c12 c13))
        | (show wpList _ _ _ ({ dst := none, op := .store _ (.tmp 20) (.tmp 123), type := _, pos := _, after := _, guard := _ } :: _) _ _; refine wpList_store_big (l0 := zfa.cells) (Blk.new w9 36 zfa.cells.toArray) rfl (.tmp 20) (.tmp 123) (ty := 36) (l := Fa.cells zfa) rfl (by rfl) (by rfl) sizeFa rfl (Fa.one _) ?_; have HA10 := Lib.hid (one_new HA9.out zfa.cells.toArray (Fa.cells zfa).toArray); have HP10 := Lib.hid (one_new HP9.out zfa.cells.toArray (Fa.cells zfa).toArray); have HQQ10 := Lib.hid (one_new HQQ9.out zfa.cells.toArray (Fa.cells zfa).toArray); have HG10 := Lib.hid (one_new HG9.out zfa.cells.toArray (Fa.cells zfa).toArray); have HY10 := Lib.hid (Blk.setRow (Blk.new w9 36 zfa.cells.toArray) (Fa.cells zfa).toArray); have HS10 := Lib.hid (st_one HS9.out zfa.cells.toArray (Fa.cells zfa).toArray); have HB10 := Lib.hid (below_setRow (HB9.out.alloc HB9.out.size (.cells zfa.cells.toArray 36)) (b := w9.heap.size) HB9.out.size (Fa.cells zfa).toArray); generalize (w9.alloc (.cells zfa.cells.toArray 36)).setRow w9.heap.size (Fa.cells zfa).toArray = w10 at HA10 HP10 HQQ10 HG10 HY10 HS10 HB10 ⊢; obtain ⟨c0, c1, c2, c3, c4, c5, c6, c7, c8, c9, c10, c11, c12, c13⟩ := tw_cells HA10.out; have HW9 := Lib.hid (show w.heap.size ≤ w9.heap.size from HB9.out.size); have v3 : w10.cell? ⟨w9.heap.size, 0, none⟩ = some (.int .i64 0) := HY10.out.cell 0; have v4 : w10.cell? ⟨w4.heap.size + 1, 0, none⟩ = some (.int .i64 fa2.k) := HG10.out.cell 0; replace v4 := cell_eq v4 K2.out; have v5 : w10.cell? ⟨w4.heap.size, 1, none⟩ = some (.int .i64 fo2.x.o) := HQQ10.out.cell 1; have v6 := cell_eq (show w10.cell? ⟨w2.heap.size, 1, none⟩ = some (.int .i64 fo1.x.o) from HP10.out.cell 1) HO1.out; replace v5 := cell_eq v5 K3.out; have v7 : w10.cell? ⟨w4.heap.size, 6, none⟩ = some (.int .i64 fo2.a) := HQQ10.out.cell 6; have v8 := cell_eq (show w10.cell? ⟨w2.heap.size, 6, none⟩ = some (.int .i64 fo1.a) from HP10.out.cell 6) HA1'.out; replace v7 := cell_eq v7 K4.out)
        | (show wpList _ _ _ ({ dst := none, op := .store _ (.tmp 20) (.tmp 170), type := _, pos := _, after := _, guard := _ } :: _) _ _; refine wpList_store_big (l0 := Fa.cells zfa) HY11.out rfl (.tmp 20) (.tmp 170) (ty := 36) (l := Fa.cells zfa) rfl (by rfl) (by rfl) sizeFa rfl (Fa.one _) ?_; have HY12 := Lib.hid (HY11.out.setRow (Fa.cells zfa).toArray); have HB12 := Lib.hid (below_setRow HB11.out (b := w9.heap.size) HW9.out (Fa.cells zfa).toArray); generalize w11.setRow w9.heap.size (Fa.cells zfa).toArray = w12 at HY12 HB12 ⊢; have v9 : w12.cell? ⟨w9.heap.size, 0, none⟩ = some (.int .i64 0) := HY12.out.cell 0)
        | (go_at_call 10; refine (known_w _ (HT.out.below HB12.out)).mono ?_; rintro e v19 ⟨rfl, b_⟩; have B9 := Lib.hid (HB12.out.trans (b_.mono (HB12.out).size)); clear b_))
      go_ret
      exact ⟨rfl, B9.out⟩
end Go.Proofs.YtfckdbennjkgoaaDoor.spacesBack

/- objects: Named, Prepared. -/
import Derived.Test.YtlhlgfehbfankaaDoorONew
import Derived.Test.YtlhlgfehbfankaaDoorKRco
namespace Go.Proofs.YtlhlgfehbfankaaDoor
open Go.RowKit
theorem Oj.ob (o : Oj) : Ob o.cells o.k o.c o.l := ⟨rfl, rfl, rfl⟩
/-- does a key count with an object -/
noncomputable def Ky.cn (x : Ky) (o : Oj) : Bool := x.cnt o.k o.c o.l
theorem cn_any (x : Ky) (o : Oj) (w : World) (hT : Tab w) : Calls Tryd.prog 38 #[x.val, o.val] w fun e w' => e = .returned (.bool (x.cn o)) ∧ Below w.heap.size w w' := count_any x o.cells _ _ _ w hT o.ob
theorem rcn_any (x : Ky) (o : Oj) (w : World) : Calls Tryd.prog 40 #[x.val, o.val] w fun e w' => e = .returned (.bool (x.cn o)) ∧ Below w.heap.size w w' := rcount_any x o.cells _ _ _ w o.ob
theorem cn_eq {x : Ky} {o : Oj} {b : Bool} {w : World} (h : x.cn o = b) (hT : Tab w) : Calls Tryd.prog 38 #[x.val, o.val] w fun e w' => e = .returned (.bool b) ∧ Below w.heap.size w w' := h ▸ cn_any x o w hT
/-- a pointer to a store, or nil -/
def IsP (v : Value) : Prop := v = .pointer none ∨ ∃ q, v = pv q
theorem Blk.setRow {w : World} {b : Nat} {t : TypeId} {l0 : Array Value} (h : Blk w b t l0) (c : Array Value) : Blk (w.setRow b c) b t c := setRow_heap w b l0 c t (0, 0) h
theorem below_setRow {B : Nat} {a w : World} {b : Nat} (h : Below B a w) (hb : B ≤ b) (c : Array Value) : Below B a (w.setRow b c) := ⟨h.os, h.tape, h.output, by have := h.size; simpa [World.setRow] using this, fun k hk => (setRow_other w b k c (by omega)).trans (h.block k hk)⟩
set_option maxRecDepth 100000 in
set_option maxHeartbeats 2000000 in
theorem nam_not0 (P : Value) (hP : IsP P) (x : Ky) (o : Oj) (hf : ¬ x.of) (w : World) (hT : Tab w) (ha : ∀ W, Below w.heap.size w W → Calls Tryd.prog 19 #[P, .int .i64 0] W fun e' w' => e' = .returned (.tuple #[o.val, .int .i64 0]) ∧ Below W.heap.size W w') :
    Calls Tryd.prog 20 #[P, x.val] w fun e' w' => e' = .returned (.tuple #[oz.val, .bool false]) ∧ Below w.heap.size w w' := by
  have hz := z34
  have hbl := oz_len
  have HA := Lib.hid ha
  have HF := Lib.hid hf
  have HT0 := Lib.hid ((hT.alloc (.cells (kc x.k x.o x.c x.l x.r x.v) 30)).alloc (.cells oz.cells.toArray 34))
  have HB0 := Lib.hid (((Below.refl w.heap.size w).alloc (Nat.le_refl _) (.cells (kc x.k x.o x.c x.l x.r x.v) 30)).alloc (by simp) (.cells oz.cells.toArray 34))
  have HK0 := Lib.hid ((Blk.new w 30 (kc x.k x.o x.c x.l x.r x.v)).alloc (.cells oz.cells.toArray 34))
  have HO0 := Lib.hid (show Blk ((w.alloc (.cells (kc x.k x.o x.c x.l x.r x.v) 30)).alloc (.cells oz.cells.toArray 34)) (w.heap.size + 1) 34 oz.cells.toArray from by have := Blk.new (w.alloc (.cells (kc x.k x.o x.c x.l x.r x.v) 30)) 34 oz.cells.toArray; simpa using this)
  clear hT ha hf
  rcases hP with rfl | ⟨q, rfl⟩
  all_goals
    go_enter Tryd.func20, Tryd.ntmps20
    go_wp2_with (first
      | (go_at_call 37; refine (kname_no x _ HT0.out HF.out).mono ?_; rintro e w1 ⟨rfl, b1⟩; have HB1 := Lib.hid (HB0.out.trans (b1.mono HB0.out.size)); have HT1 := Lib.hid (HT0.out.below b1); have HK1 := Lib.hid (HK0.out.keep b1); have HO1 := Lib.hid (HO0.out.keep b1); clear b1)
      | (go_at_call 19; refine (HA.out _ HB1.out).mono ?_; rintro e w2 ⟨rfl, b2⟩; have HB2 := Lib.hid (((HB1.out.trans (b2.mono HB1.out.size)).alloc (by have := HB1.out.size; have := b2.size; omega) (.cells o.cells.toArray 34))); have HT2 := Lib.hid ((HT1.out.below b2).alloc (.cells o.cells.toArray 34)); have HK2 := Lib.hid ((HK1.out.keep b2).alloc (.cells o.cells.toArray 34)); have HO2 := Lib.hid ((HO1.out.keep b2).alloc (.cells o.cells.toArray 34)); have HG2 := Lib.hid (Blk.new w2 34 o.cells.toArray); obtain ⟨c0, c1, c2, c3, c4, c5⟩ := HK2.out.six; clear b2)
      | (refine wpList_store_last rfl (.tmp 8) (.tmp 19) rfl _ rfl rfl o oz rfl ?_)
      | (refine wpList_yields (S := fun _ => True) (y_build (by rfl) (by rfl) built34) trivial ?_)
      | (refine wpList_store_ob HO2.out rfl (.tmp 4) (.tmp 33) rfl (by rfl) oz rfl ?_))
    exact bodyPost_ret (results_obj rfl _ _ (w.heap.size + 1) oz rfl (HO2.out.setRow _)) rfl ⟨rfl, below_setRow HB2.out (by omega) _⟩
set_option maxRecDepth 100000 in
set_option maxHeartbeats 2000000 in
theorem nam_notE (P : Value) (hP : IsP P) (x : Ky) (o : Oj) (hf : ¬ x.of) (e : Int) (w : World) (hT : Tab w) (ha : ∀ W, Below w.heap.size w W → Calls Tryd.prog 19 #[P, .int .i64 0] W fun e' w' => e' = .returned (.tuple #[o.val, .int .i64 e]) ∧ Below W.heap.size W w') :
    Calls Tryd.prog 20 #[P, x.val] w fun e' w' => e' = .returned (.tuple #[oz.val, .bool false]) ∧ Below w.heap.size w w' := by
  have hz := z34
  have hbl := oz_len
  have HA := Lib.hid ha
  have HF := Lib.hid hf
  have HT0 := Lib.hid ((hT.alloc (.cells (kc x.k x.o x.c x.l x.r x.v) 30)).alloc (.cells oz.cells.toArray 34))
  have HB0 := Lib.hid (((Below.refl w.heap.size w).alloc (Nat.le_refl _) (.cells (kc x.k x.o x.c x.l x.r x.v) 30)).alloc (by simp) (.cells oz.cells.toArray 34))
  have HK0 := Lib.hid ((Blk.new w 30 (kc x.k x.o x.c x.l x.r x.v)).alloc (.cells oz.cells.toArray 34))
  have HO0 := Lib.hid (show Blk ((w.alloc (.cells (kc x.k x.o x.c x.l x.r x.v) 30)).alloc (.cells oz.cells.toArray 34)) (w.heap.size + 1) 34 oz.cells.toArray from by have := Blk.new (w.alloc (.cells (kc x.k x.o x.c x.l x.r x.v) 30)) 34 oz.cells.toArray; simpa using this)
  clear hT ha hf
  rcases hP with rfl | ⟨q, rfl⟩
  all_goals
    go_enter Tryd.func20, Tryd.ntmps20
    go_wp2_with (first
      | (go_at_call 37; refine (kname_no x _ HT0.out HF.out).mono ?_; rintro e w1 ⟨rfl, b1⟩; have HB1 := Lib.hid (HB0.out.trans (b1.mono HB0.out.size)); have HT1 := Lib.hid (HT0.out.below b1); have HK1 := Lib.hid (HK0.out.keep b1); have HO1 := Lib.hid (HO0.out.keep b1); clear b1)
      | (go_at_call 19; refine (HA.out _ HB1.out).mono ?_; rintro e w2 ⟨rfl, b2⟩; have HB2 := Lib.hid (((HB1.out.trans (b2.mono HB1.out.size)).alloc (by have := HB1.out.size; have := b2.size; omega) (.cells o.cells.toArray 34))); have HT2 := Lib.hid ((HT1.out.below b2).alloc (.cells o.cells.toArray 34)); have HK2 := Lib.hid ((HK1.out.keep b2).alloc (.cells o.cells.toArray 34)); have HO2 := Lib.hid ((HO1.out.keep b2).alloc (.cells o.cells.toArray 34)); have HG2 := Lib.hid (Blk.new w2 34 o.cells.toArray); obtain ⟨c0, c1, c2, c3, c4, c5⟩ := HK2.out.six; clear b2)
      | (refine wpList_store_last rfl (.tmp 8) (.tmp 19) rfl _ rfl rfl o oz rfl ?_)
      | (refine wpList_yields (S := fun _ => True) (y_build (by rfl) (by rfl) built34) trivial ?_)
      | (refine wpList_store_ob HO2.out rfl (.tmp 4) (.tmp 33) rfl (by rfl) oz rfl ?_))
    exact bodyPost_ret (results_obj rfl _ _ (w.heap.size + 1) oz rfl (HO2.out.setRow _)) rfl ⟨rfl, below_setRow HB2.out (by omega) _⟩
set_option maxRecDepth 100000 in
set_option maxHeartbeats 2000000 in
theorem nam_out (P : Value) (hP : IsP P) (x : Ky) (o : Oj) (hf : x.of) (e : Int) (he : e ≠ 0) (w : World) (hT : Tab w) (ha : ∀ W, Below w.heap.size w W → Calls Tryd.prog 19 #[P, .int .i64 x.o] W fun e' w' => e' = .returned (.tuple #[o.val, .int .i64 e]) ∧ Below W.heap.size W w') :
    Calls Tryd.prog 20 #[P, x.val] w fun e' w' => e' = .returned (.tuple #[oz.val, .bool false]) ∧ Below w.heap.size w w' := by
  have hz := z34
  have hbl := oz_len
  have HA := Lib.hid ha
  have HF := Lib.hid hf
  have de : (e != 0) = true := by simpa using he
  have HT0 := Lib.hid ((hT.alloc (.cells (kc x.k x.o x.c x.l x.r x.v) 30)).alloc (.cells oz.cells.toArray 34))
  have HB0 := Lib.hid (((Below.refl w.heap.size w).alloc (Nat.le_refl _) (.cells (kc x.k x.o x.c x.l x.r x.v) 30)).alloc (by simp) (.cells oz.cells.toArray 34))
  have HK0 := Lib.hid ((Blk.new w 30 (kc x.k x.o x.c x.l x.r x.v)).alloc (.cells oz.cells.toArray 34))
  have HO0 := Lib.hid (show Blk ((w.alloc (.cells (kc x.k x.o x.c x.l x.r x.v) 30)).alloc (.cells oz.cells.toArray 34)) (w.heap.size + 1) 34 oz.cells.toArray from by have := Blk.new (w.alloc (.cells (kc x.k x.o x.c x.l x.r x.v) 30)) 34 oz.cells.toArray; simpa using this)
  clear hT ha hf he
  rcases hP with rfl | ⟨q, rfl⟩
  all_goals
    go_enter Tryd.func20, Tryd.ntmps20
    go_wp2_with (first
      | (go_at_call 37; refine (kname_yes x _ HT0.out HF.out).mono ?_; rintro e w1 ⟨rfl, b1⟩; have HB1 := Lib.hid (HB0.out.trans (b1.mono HB0.out.size)); have HT1 := Lib.hid (HT0.out.below b1); have HK1 := Lib.hid (HK0.out.keep b1); have HO1 := Lib.hid (HO0.out.keep b1); clear b1)
      | (go_at_call 19; refine (HA.out _ HB1.out).mono ?_; rintro e w2 ⟨rfl, b2⟩; have HB2 := Lib.hid (((HB1.out.trans (b2.mono HB1.out.size)).alloc (by have := HB1.out.size; have := b2.size; omega) (.cells o.cells.toArray 34))); have HT2 := Lib.hid ((HT1.out.below b2).alloc (.cells o.cells.toArray 34)); have HK2 := Lib.hid ((HK1.out.keep b2).alloc (.cells o.cells.toArray 34)); have HO2 := Lib.hid ((HO1.out.keep b2).alloc (.cells o.cells.toArray 34)); have HG2 := Lib.hid (Blk.new w2 34 o.cells.toArray); obtain ⟨c0, c1, c2, c3, c4, c5⟩ := HK2.out.six; clear b2)
      | (refine wpList_store_last rfl (.tmp 8) (.tmp 19) rfl _ rfl rfl o oz rfl ?_)
      | (refine wpList_yields (S := fun _ => True) (y_build (by rfl) (by rfl) built34) trivial ?_)
      | (refine wpList_store_ob HO2.out rfl (.tmp 4) (.tmp 33) rfl (by rfl) oz rfl ?_))
    exact bodyPost_ret (results_obj rfl _ _ (w.heap.size + 1) oz rfl (HO2.out.setRow _)) rfl ⟨rfl, below_setRow HB2.out (by omega) _⟩
set_option maxRecDepth 100000 in
set_option maxHeartbeats 2000000 in
theorem nam_no (P : Value) (hP : IsP P) (x : Ky) (o : Oj) (hf : x.of) (hc : x.cn o = false) (w : World) (hT : Tab w) (ha : ∀ W, Below w.heap.size w W → Calls Tryd.prog 19 #[P, .int .i64 x.o] W fun e' w' => e' = .returned (.tuple #[o.val, .int .i64 0]) ∧ Below W.heap.size W w') :
    Calls Tryd.prog 20 #[P, x.val] w fun e' w' => e' = .returned (.tuple #[oz.val, .bool false]) ∧ Below w.heap.size w w' := by
  have hz := z34
  have hbl := oz_len
  have HA := Lib.hid ha
  have HF := Lib.hid hf
  have HC := Lib.hid hc
  have HT0 := Lib.hid ((hT.alloc (.cells (kc x.k x.o x.c x.l x.r x.v) 30)).alloc (.cells oz.cells.toArray 34))
  have HB0 := Lib.hid (((Below.refl w.heap.size w).alloc (Nat.le_refl _) (.cells (kc x.k x.o x.c x.l x.r x.v) 30)).alloc (by simp) (.cells oz.cells.toArray 34))
  have HK0 := Lib.hid ((Blk.new w 30 (kc x.k x.o x.c x.l x.r x.v)).alloc (.cells oz.cells.toArray 34))
  have HO0 := Lib.hid (show Blk ((w.alloc (.cells (kc x.k x.o x.c x.l x.r x.v) 30)).alloc (.cells oz.cells.toArray 34)) (w.heap.size + 1) 34 oz.cells.toArray from by have := Blk.new (w.alloc (.cells (kc x.k x.o x.c x.l x.r x.v) 30)) 34 oz.cells.toArray; simpa using this)
  clear hT ha hf hc
  rcases hP with rfl | ⟨q, rfl⟩
  all_goals
    go_enter Tryd.func20, Tryd.ntmps20
    go_wp2_with (first
      | (go_at_call 37; refine (kname_yes x _ HT0.out HF.out).mono ?_; rintro e w1 ⟨rfl, b1⟩; have HB1 := Lib.hid (HB0.out.trans (b1.mono HB0.out.size)); have HT1 := Lib.hid (HT0.out.below b1); have HK1 := Lib.hid (HK0.out.keep b1); have HO1 := Lib.hid (HO0.out.keep b1); clear b1)
      | (go_at_call 19; refine (HA.out _ HB1.out).mono ?_; rintro e w2 ⟨rfl, b2⟩; have HB2 := Lib.hid (((HB1.out.trans (b2.mono HB1.out.size)).alloc (by have := HB1.out.size; have := b2.size; omega) (.cells o.cells.toArray 34))); have HT2 := Lib.hid ((HT1.out.below b2).alloc (.cells o.cells.toArray 34)); have HK2 := Lib.hid ((HK1.out.keep b2).alloc (.cells o.cells.toArray 34)); have HO2 := Lib.hid ((HO1.out.keep b2).alloc (.cells o.cells.toArray 34)); have HG2 := Lib.hid (Blk.new w2 34 o.cells.toArray); obtain ⟨c0, c1, c2, c3, c4, c5⟩ := HK2.out.six; clear b2)
      | (refine wpList_store_last rfl (.tmp 8) (.tmp 19) rfl _ rfl rfl o oz rfl ?_)
      | (refine wpList_yields (S := fun w' => ObAt w' w2.heap.size 0 o) (y_ob (by rfl) (.tmp 8) (by rfl) w2.heap.size 0 (by rfl) o (fun _ h => h)) HG2.out.ob ?_)
      | (go_at_call 38; refine (cn_eq HC.out HT2.out).mono ?_; rintro e w3 ⟨rfl, b3⟩; have HB3 := Lib.hid (HB2.out.trans (b3.mono HB2.out.size)); have HO3 := Lib.hid (HO2.out.keep b3); have HG3 := Lib.hid (HG2.out.keep b3); clear b3 c0 c1 c2 c3 c4 c5)
      | (refine wpList_yields (S := fun _ => True) (y_build (by rfl) (by rfl) built34) trivial ?_)
      | (refine wpList_store_ob HO3.out rfl (.tmp 4) (.tmp 33) rfl (by rfl) oz rfl ?_))
    exact bodyPost_ret (results_obj rfl _ _ (w.heap.size + 1) oz rfl (HO3.out.setRow _)) rfl ⟨rfl, below_setRow HB3.out (by omega) _⟩
set_option maxRecDepth 100000 in
set_option maxHeartbeats 2000000 in
theorem nam_yes (P : Value) (hP : IsP P) (x : Ky) (o : Oj) (hf : x.of) (hc : x.cn o = true) (w : World) (hT : Tab w) (ha : ∀ W, Below w.heap.size w W → Calls Tryd.prog 19 #[P, .int .i64 x.o] W fun e' w' => e' = .returned (.tuple #[o.val, .int .i64 0]) ∧ Below W.heap.size W w') :
    Calls Tryd.prog 20 #[P, x.val] w fun e' w' => e' = .returned (.tuple #[o.val, .bool true]) ∧ Below w.heap.size w w' := by
  have hz := z34
  have hbl := oz_len
  have HA := Lib.hid ha
  have HF := Lib.hid hf
  have HC := Lib.hid hc
  have HT0 := Lib.hid ((hT.alloc (.cells (kc x.k x.o x.c x.l x.r x.v) 30)).alloc (.cells oz.cells.toArray 34))
  have HB0 := Lib.hid (((Below.refl w.heap.size w).alloc (Nat.le_refl _) (.cells (kc x.k x.o x.c x.l x.r x.v) 30)).alloc (by simp) (.cells oz.cells.toArray 34))
  have HK0 := Lib.hid ((Blk.new w 30 (kc x.k x.o x.c x.l x.r x.v)).alloc (.cells oz.cells.toArray 34))
  have HO0 := Lib.hid (show Blk ((w.alloc (.cells (kc x.k x.o x.c x.l x.r x.v) 30)).alloc (.cells oz.cells.toArray 34)) (w.heap.size + 1) 34 oz.cells.toArray from by have := Blk.new (w.alloc (.cells (kc x.k x.o x.c x.l x.r x.v) 30)) 34 oz.cells.toArray; simpa using this)
  clear hT ha hf hc
  rcases hP with rfl | ⟨q, rfl⟩
  all_goals
    go_enter Tryd.func20, Tryd.ntmps20
    go_wp2_with (first
      | (go_at_call 37; refine (kname_yes x _ HT0.out HF.out).mono ?_; rintro e w1 ⟨rfl, b1⟩; have HB1 := Lib.hid (HB0.out.trans (b1.mono HB0.out.size)); have HT1 := Lib.hid (HT0.out.below b1); have HK1 := Lib.hid (HK0.out.keep b1); have HO1 := Lib.hid (HO0.out.keep b1); clear b1)
      | (go_at_call 19; refine (HA.out _ HB1.out).mono ?_; rintro e w2 ⟨rfl, b2⟩; have HB2 := Lib.hid (((HB1.out.trans (b2.mono HB1.out.size)).alloc (by have := HB1.out.size; have := b2.size; omega) (.cells o.cells.toArray 34))); have HT2 := Lib.hid ((HT1.out.below b2).alloc (.cells o.cells.toArray 34)); have HK2 := Lib.hid ((HK1.out.keep b2).alloc (.cells o.cells.toArray 34)); have HO2 := Lib.hid ((HO1.out.keep b2).alloc (.cells o.cells.toArray 34)); have HG2 := Lib.hid (Blk.new w2 34 o.cells.toArray); obtain ⟨c0, c1, c2, c3, c4, c5⟩ := HK2.out.six; clear b2)
      | (refine wpList_store_last rfl (.tmp 8) (.tmp 19) rfl _ rfl rfl o oz rfl ?_)
      | (refine wpList_yields (S := fun w' => ObAt w' w2.heap.size 0 o) (y_ob (by rfl) (.tmp 8) (by rfl) w2.heap.size 0 (by rfl) o (fun _ h => h)) HG2.out.ob ?_)
      | (go_at_call 38; refine (cn_eq HC.out HT2.out).mono ?_; rintro e w3 ⟨rfl, b3⟩; have HB3 := Lib.hid (HB2.out.trans (b3.mono HB2.out.size)); have HO3 := Lib.hid (HO2.out.keep b3); have HG3 := Lib.hid (HG2.out.keep b3); clear b3 c0 c1 c2 c3 c4 c5)
      | (refine wpList_yields (S := fun w' => ObAt w' w2.heap.size 0 o) (y_ob (by rfl) (.tmp 8) (by rfl) w2.heap.size 0 (by rfl) o (fun _ h => h)) HG3.out.ob ?_)
      | (refine wpList_store_ob HO3.out rfl (.tmp 4) (.tmp 34) rfl (by rfl) o rfl ?_))
    exact bodyPost_ret (results_obj rfl _ _ (w.heap.size + 1) o rfl (HO3.out.setRow _)) rfl ⟨rfl, below_setRow HB3.out (by omega) _⟩
end Go.Proofs.YtlhlgfehbfankaaDoor

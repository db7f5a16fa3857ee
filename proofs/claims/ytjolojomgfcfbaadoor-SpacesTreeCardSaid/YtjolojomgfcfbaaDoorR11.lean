/- objects: All, and a range over it. -/
import Derived.RangeFuncNested
import Derived.RangeFuncBound
import Derived.RangeFuncCalls
import Derived.RangeFuncLeaves
import Derived.RangeFuncBox
import Derived.RangeFuncFrom
import Derived.Shelf.Abstract
import Derived.Shelf.RegionOpen
import Derived.WalkKit
import Derived.OwnWalkIn
import Derived.TacticsInMore
import Derived.LoopNIn
import Derived.LoopIn
import Derived.Test.YtjolojomgfcfbaaDoorR10
import Derived.Test.YtjolojomgfcfbaaDoorR09
namespace Go.Proofs.YtjolojomgfcfbaaDoor
open Go.RowKit Go.Shelf
attribute [local go_sem] Oper.semAt_some
/-- what comes: a place -/
structure Ie (os : List Oj) where
  i : Nat
  lt : i < os.length
def Ie.o {os : List Oj} (y : Ie os) : Oj := os[y.i]'y.lt
/-- what has come: the first so many, in order -/
def EltsI {os : List Oj} (k : Nat) (xs : List (Ie os)) : Prop := xs.length = k ∧ ∀ (i : Nat) (y : Ie os), xs[i]? = some y → y.i = i
theorem EltsI.last {os : List Oj} {k : Nat} {pre : List (Ie os)} {x : Ie os} (h : EltsI k (pre ++ [x])) : x.i = pre.length := h.2 pre.length x (by simp)
/-- the blocks of a store lie as they lay -/
def KS (p : Nat) (A : Option Addr) (ps : List Nat) (W W' : World) : Prop := ∀ k, stHas p A ps k → W'.heap[k]? = W.heap[k]?
section
variable {F : Fence} {n : Nat} {w : World} {ops : Array Oper} {rest : List Oper} {o : Oper} {a : Act} {Q : Exit → Act → World → Prop}
end
section
variable {w0 : World} {base p : Nat} {A : Option Addr} {cap : Nat} {ps : List Nat} {os : List Oj}
end
set_option maxRecDepth 8000 in
theorem KS.put {w W : World} {base p : Nat} {A : Option Addr} {cap : Nat} {ps : List Nat} {os : List Oj} (h : StAt w base p A cap ps os) (l : Nat) (o o' : Obj) (hl : w.heap.size ≤ l) (_ : W.heap[l]? = some o) (_ : o.isCells = false) (_ : o.isWalk = false) : KS p A ps W (W.putObj l o') := by
  intro k hk
  have := (h.lt k hk).2
  simp only [World.putObj]
  rw [Array.getElem?_setIfInBounds_ne (by omega)]
theorem KS.trans {p : Nat} {A : Option Addr} {ps : List Nat} {X Y Z : World} (h : KS p A ps X Y) (k : KS p A ps Y Z) : KS p A ps X Z := fun b hb => (k b hb).trans (h b hb)
end Go.Proofs.YtjolojomgfcfbaaDoor
namespace Go.Proofs.YtjolojomgfcfbaaDoor
open Go.RowKit
end Go.Proofs.YtjolojomgfcfbaaDoor
namespace Go.Proofs.YtjolojomgfcfbaaDoor
open Go.RowKit
attribute [local go_sem] Oper.semAt_some
set_option maxRecDepth 8000 in
theorem cnt_of {x : Ky} {kk cc ll : Int} (hf : x.of) : x.cnt kk cc ll = true ↔ x.want = kk ∧ x.c = cc ∧ (x.k ≠ 7 ∨ x.l = ll) := by
  unfold Ky.cnt
  simp only [decide_eq_true_eq]
  exact ⟨fun h => h.2 hf, fun h => ⟨hf.1, fun _ => h⟩⟩
set_option maxRecDepth 8000 in
theorem cnt_f {x : Ky} {kk cc ll : Int} (hf : x.of) (h : ¬ (x.want = kk ∧ x.c = cc ∧ (x.k ≠ 7 ∨ x.l = ll))) : x.cnt kk cc ll = false := by
  rw [← Bool.not_eq_true]
  exact fun e => h ((cnt_of hf).1 e)
set_option maxRecDepth 8000 in
theorem want_of {x : Ky} (hf : x.of) : kWants x.k.toNat = x.want := by
  unfold Ky.want
  rw [if_pos hf, wants_of hf]
set_option maxRecDepth 8000 in
theorem want_ne {x : Ky} (hf : x.of) : x.want ≠ 0 := by
  rw [← want_of hf, wants_of hf]
  split <;> decide
set_option maxRecDepth 8000 in
theorem count_any (x : Ky) (l : List Value) (kk cc ll : Int) (w : World) (hT : Tab w) (ho : Ob l kk cc ll) :
    Calls Tryd.prog 51 #[x.val, .agg l.toArray] w fun e w' => e = .returned (.bool (x.cnt kk cc ll)) ∧ Below w.heap.size w w' := by
  by_cases hok : x.ok
  · by_cases hf : x.of
    · have hw := want_of hf
      have hn := want_ne hf
      have hkn := hf.2
      obtain ⟨k, oo, c, l', r, v⟩ := x
      simp only at hkn
      obtain ⟨n, rfl⟩ := Int.eq_ofNat_of_zero_le (show 0 ≤ k by omega)
      by_cases h7 : n = 7
      · subst h7
        by_cases hk : Ky.want ⟨((7 : Nat) : Int), oo, c, l', r, v⟩ = kk
        · by_cases hc : c = cc
          · have e : Ky.cnt ⟨((7 : Nat) : Int), oo, c, l', r, v⟩ kk cc ll = (l' == ll) := by
              rw [Bool.eq_iff_iff, cnt_of hf]
              exact ⟨fun h => beq_iff_eq.2 (h.2.2.resolve_left (fun e => e rfl)), fun h => ⟨hk, hc, .inr (beq_iff_eq.1 h)⟩⟩
            rw [e]
            exact cou7_y oo c l' r v l kk cc ll w hT ho hok _ hw hn hk hc
          · rw [cnt_f hf (fun h => hc h.2.1)]
            exact cou7_c oo c l' r v l kk cc ll w hT ho hok _ hw hn hk hc
        · rw [cnt_f hf (fun h => hk h.1)]
          exact cou7_k oo c l' r v l kk cc ll w hT ho hok _ hw hn hk
      · have h7' : ((n : Int)) ≠ 7 := by omega
        by_cases hk : Ky.want ⟨(n : Int), oo, c, l', r, v⟩ = kk
        · by_cases hc : c = cc
          · rw [cnt_yes ⟨hok, fun _ => ⟨hk, hc, .inl h7'⟩⟩]
            exact cou_y n oo c l' r v l kk cc ll w hT ho hok _ hw hn h7 hk hc
          · rw [cnt_f hf (fun h => hc h.2.1)]
            exact cou_c n oo c l' r v l kk cc ll w hT ho hok _ hw hn h7 hk hc
        · rw [cnt_f hf (fun h => hk h.1)]
          exact cou_k n oo c l' r v l kk cc ll w hT ho hok _ hw hn h7 hk
    · rw [cnt_yes ⟨hok, fun h => absurd h hf⟩]
      have hw := wants_not hf hok
      have hk0 := okK_in hok
      obtain ⟨k, oo, c, l', r, v⟩ := x
      simp only at hk0
      obtain ⟨n, rfl⟩ := Int.eq_ofNat_of_zero_le hk0.1
      exact cou_none n oo c l' r v l kk cc ll w hT ho hok _ hw rfl
  · rw [cnt_no (fun h => hok h.1)]
    exact cou_bad x l kk cc ll w hT ho hok
end Go.Proofs.YtjolojomgfcfbaaDoor
namespace Go.Proofs.YtjolojomgfcfbaaDoor
open Go.RowKit
theorem Oj.ob (o : Oj) : Ob o.cells o.k o.c o.l := ⟨rfl, rfl, rfl⟩
/-- does a key count with an object -/
noncomputable def Ky.cn (x : Ky) (o : Oj) : Bool := x.cnt o.k o.c o.l
theorem cn_any (x : Ky) (o : Oj) (w : World) (hT : Tab w) : Calls Tryd.prog 51 #[x.val, o.val] w fun e w' => e = .returned (.bool (x.cn o)) ∧ Below w.heap.size w w' := count_any x o.cells _ _ _ w hT o.ob
theorem cn_eq {x : Ky} {o : Oj} {b : Bool} {w : World} (h : x.cn o = b) (hT : Tab w) : Calls Tryd.prog 51 #[x.val, o.val] w fun e w' => e = .returned (.bool b) ∧ Below w.heap.size w w' := h ▸ cn_any x o w hT
/-- a pointer to a store, or nil -/
def IsP (v : Value) : Prop := v = .pointer none ∨ ∃ q, v = pv q
theorem Blk.setRow {w : World} {b : Nat} {t : TypeId} {l0 : Array Value} (h : Blk w b t l0) (c : Array Value) : Blk (w.setRow b c) b t c := setRow_heap w b l0 c t (0, 0) h
theorem below_setRow {B : Nat} {a w : World} {b : Nat} (h : Below B a w) (hb : B ≤ b) (c : Array Value) : Below B a (w.setRow b c) := ⟨h.os, h.tape, h.output, by have := h.size; simpa [World.setRow] using this, fun k hk => (setRow_other w b k c (by omega)).trans (h.block k hk)⟩
set_option maxRecDepth 100000 in
set_option maxHeartbeats 2000000 in
theorem nam_notE (P : Value) (hP : IsP P) (x : Ky) (o : Oj) (hf : ¬ x.of) (e : Int) (w : World) (hT : Tab w) (ha : ∀ W, Below w.heap.size w W → Calls Tryd.prog 52 #[P, .int .i64 0] W fun e' w' => e' = .returned (.tuple #[o.val, .int .i64 e]) ∧ Below W.heap.size W w') :
    Calls Tryd.prog 39 #[P, x.val] w fun e' w' => e' = .returned (.tuple #[oz.val, .bool false]) ∧ Below w.heap.size w w' := by
  have hz := z34
  have hbl := oz_len
  have HA := Lib.hid ha
  have HF := Lib.hid hf
  have HT0 := Lib.hid ((hT.alloc (.cells (kc x.k x.o x.c x.l x.r x.v) 29)).alloc (.cells oz.cells.toArray 33))
  have HB0 := Lib.hid (((Below.refl w.heap.size w).alloc (Nat.le_refl _) (.cells (kc x.k x.o x.c x.l x.r x.v) 29)).alloc (by simp) (.cells oz.cells.toArray 33))
  have HK0 := Lib.hid ((Blk.new w 29 (kc x.k x.o x.c x.l x.r x.v)).alloc (.cells oz.cells.toArray 33))
  have HO0 := Lib.hid (show Blk ((w.alloc (.cells (kc x.k x.o x.c x.l x.r x.v) 29)).alloc (.cells oz.cells.toArray 33)) (w.heap.size + 1) 33 oz.cells.toArray from by have := Blk.new (w.alloc (.cells (kc x.k x.o x.c x.l x.r x.v) 29)) 33 oz.cells.toArray; simpa using this)
  clear hT ha hf
  rcases hP with rfl | ⟨q, rfl⟩
  all_goals
    go_enter Tryd.func39, Tryd.ntmps39
    go_wp2_with (first
      | (go_at_call 34; refine (kname_no x _ HT0.out HF.out).mono ?_; rintro e w1 ⟨rfl, b1⟩; have HB1 := Lib.hid (HB0.out.trans (b1.mono HB0.out.size)); have HT1 := Lib.hid (HT0.out.below b1); have HK1 := Lib.hid (HK0.out.keep b1); have HO1 := Lib.hid (HO0.out.keep b1); clear b1)
      | (go_at_call 52; refine (HA.out _ HB1.out).mono ?_; rintro e w2 ⟨rfl, b2⟩; have HB2 := Lib.hid (((HB1.out.trans (b2.mono HB1.out.size)).alloc (by have := HB1.out.size; have := b2.size; omega) (.cells o.cells.toArray 33))); have HT2 := Lib.hid ((HT1.out.below b2).alloc (.cells o.cells.toArray 33)); have HK2 := Lib.hid ((HK1.out.keep b2).alloc (.cells o.cells.toArray 33)); have HO2 := Lib.hid ((HO1.out.keep b2).alloc (.cells o.cells.toArray 33)); have HG2 := Lib.hid (Blk.new w2 33 o.cells.toArray); obtain ⟨c0, c1, c2, c3, c4, c5⟩ := HK2.out.six; clear b2)
      | (refine wpList_store_last rfl (.tmp 8) (.tmp 19) rfl _ rfl rfl o oz rfl ?_)
      | (refine wpList_yields (S := fun _ => True) (y_build (by rfl) (by rfl) built34) trivial ?_)
      | (refine wpList_store_ob HO2.out rfl (.tmp 4) (.tmp 33) rfl (by rfl) oz rfl ?_))
    exact bodyPost_ret (results_obj rfl _ _ (w.heap.size + 1) oz rfl (HO2.out.setRow _)) rfl ⟨rfl, below_setRow HB2.out (by omega) _⟩
set_option maxRecDepth 100000 in
set_option maxHeartbeats 2000000 in
theorem nam_out (P : Value) (hP : IsP P) (x : Ky) (o : Oj) (hf : x.of) (e : Int) (he : e ≠ 0) (w : World) (hT : Tab w) (ha : ∀ W, Below w.heap.size w W → Calls Tryd.prog 52 #[P, .int .i64 x.o] W fun e' w' => e' = .returned (.tuple #[o.val, .int .i64 e]) ∧ Below W.heap.size W w') :
    Calls Tryd.prog 39 #[P, x.val] w fun e' w' => e' = .returned (.tuple #[oz.val, .bool false]) ∧ Below w.heap.size w w' := by
  have hz := z34
  have hbl := oz_len
  have HA := Lib.hid ha
  have HF := Lib.hid hf
  have de : (e != 0) = true := by simpa using he
  have HT0 := Lib.hid ((hT.alloc (.cells (kc x.k x.o x.c x.l x.r x.v) 29)).alloc (.cells oz.cells.toArray 33))
  have HB0 := Lib.hid (((Below.refl w.heap.size w).alloc (Nat.le_refl _) (.cells (kc x.k x.o x.c x.l x.r x.v) 29)).alloc (by simp) (.cells oz.cells.toArray 33))
  have HK0 := Lib.hid ((Blk.new w 29 (kc x.k x.o x.c x.l x.r x.v)).alloc (.cells oz.cells.toArray 33))
  have HO0 := Lib.hid (show Blk ((w.alloc (.cells (kc x.k x.o x.c x.l x.r x.v) 29)).alloc (.cells oz.cells.toArray 33)) (w.heap.size + 1) 33 oz.cells.toArray from by have := Blk.new (w.alloc (.cells (kc x.k x.o x.c x.l x.r x.v) 29)) 33 oz.cells.toArray; simpa using this)
  clear hT ha hf he
  rcases hP with rfl | ⟨q, rfl⟩
  all_goals
    go_enter Tryd.func39, Tryd.ntmps39
    go_wp2_with (first
      | (go_at_call 34; refine (kname_yes x _ HT0.out HF.out).mono ?_; rintro e w1 ⟨rfl, b1⟩; have HB1 := Lib.hid (HB0.out.trans (b1.mono HB0.out.size)); have HT1 := Lib.hid (HT0.out.below b1); have HK1 := Lib.hid (HK0.out.keep b1); have HO1 := Lib.hid (HO0.out.keep b1); clear b1)
      | (go_at_call 52; refine (HA.out _ HB1.out).mono ?_; rintro e w2 ⟨rfl, b2⟩; have HB2 := Lib.hid (((HB1.out.trans (b2.mono HB1.out.size)).alloc (by have := HB1.out.size; have := b2.size; omega) (.cells o.cells.toArray 33))); have HT2 := Lib.hid ((HT1.out.below b2).alloc (.cells o.cells.toArray 33)); have HK2 := Lib.hid ((HK1.out.keep b2).alloc (.cells o.cells.toArray 33)); have HO2 := Lib.hid ((HO1.out.keep b2).alloc (.cells o.cells.toArray 33)); have HG2 := Lib.hid (Blk.new w2 33 o.cells.toArray); obtain ⟨c0, c1, c2, c3, c4, c5⟩ := HK2.out.six; clear b2)
      | (refine wpList_store_last rfl (.tmp 8) (.tmp 19) rfl _ rfl rfl o oz rfl ?_)
      | (refine wpList_yields (S := fun _ => True) (y_build (by rfl) (by rfl) built34) trivial ?_)
      | (refine wpList_store_ob HO2.out rfl (.tmp 4) (.tmp 33) rfl (by rfl) oz rfl ?_))
    exact bodyPost_ret (results_obj rfl _ _ (w.heap.size + 1) oz rfl (HO2.out.setRow _)) rfl ⟨rfl, below_setRow HB2.out (by omega) _⟩
set_option maxRecDepth 100000 in
set_option maxHeartbeats 2000000 in
theorem nam_no (P : Value) (hP : IsP P) (x : Ky) (o : Oj) (hf : x.of) (hc : x.cn o = false) (w : World) (hT : Tab w) (ha : ∀ W, Below w.heap.size w W → Calls Tryd.prog 52 #[P, .int .i64 x.o] W fun e' w' => e' = .returned (.tuple #[o.val, .int .i64 0]) ∧ Below W.heap.size W w') :
    Calls Tryd.prog 39 #[P, x.val] w fun e' w' => e' = .returned (.tuple #[oz.val, .bool false]) ∧ Below w.heap.size w w' := by
  have hz := z34
  have hbl := oz_len
  have HA := Lib.hid ha
  have HF := Lib.hid hf
  have HC := Lib.hid hc
  have HT0 := Lib.hid ((hT.alloc (.cells (kc x.k x.o x.c x.l x.r x.v) 29)).alloc (.cells oz.cells.toArray 33))
  have HB0 := Lib.hid (((Below.refl w.heap.size w).alloc (Nat.le_refl _) (.cells (kc x.k x.o x.c x.l x.r x.v) 29)).alloc (by simp) (.cells oz.cells.toArray 33))
  have HK0 := Lib.hid ((Blk.new w 29 (kc x.k x.o x.c x.l x.r x.v)).alloc (.cells oz.cells.toArray 33))
  have HO0 := Lib.hid (show Blk ((w.alloc (.cells (kc x.k x.o x.c x.l x.r x.v) 29)).alloc (.cells oz.cells.toArray 33)) (w.heap.size + 1) 33 oz.cells.toArray from by have := Blk.new (w.alloc (.cells (kc x.k x.o x.c x.l x.r x.v) 29)) 33 oz.cells.toArray; simpa using this)
  clear hT ha hf hc
  rcases hP with rfl | ⟨q, rfl⟩
  all_goals
    go_enter Tryd.func39, Tryd.ntmps39
    go_wp2_with (first
      | (go_at_call 34; refine (kname_yes x _ HT0.out HF.out).mono ?_; rintro e w1 ⟨rfl, b1⟩; have HB1 := Lib.hid (HB0.out.trans (b1.mono HB0.out.size)); have HT1 := Lib.hid (HT0.out.below b1); have HK1 := Lib.hid (HK0.out.keep b1); have HO1 := Lib.hid (HO0.out.keep b1); clear b1)
      | (go_at_call 52; refine (HA.out _ HB1.out).mono ?_; rintro e w2 ⟨rfl, b2⟩; have HB2 := Lib.hid (((HB1.out.trans (b2.mono HB1.out.size)).alloc (by have := HB1.out.size; have := b2.size; omega) (.cells o.cells.toArray 33))); have HT2 := Lib.hid ((HT1.out.below b2).alloc (.cells o.cells.toArray 33)); have HK2 := Lib.hid ((HK1.out.keep b2).alloc (.cells o.cells.toArray 33)); have HO2 := Lib.hid ((HO1.out.keep b2).alloc (.cells o.cells.toArray 33)); have HG2 := Lib.hid (Blk.new w2 33 o.cells.toArray); obtain ⟨c0, c1, c2, c3, c4, c5⟩ := HK2.out.six; clear b2)
      | (refine wpList_store_last rfl (.tmp 8) (.tmp 19) rfl _ rfl rfl o oz rfl ?_)
      | (refine wpList_yields (S := fun w' => ObAt w' w2.heap.size 0 o) (y_ob (by rfl) (.tmp 8) (by rfl) w2.heap.size 0 (by rfl) o (fun _ h => h)) HG2.out.ob ?_)
      | (go_at_call 51; refine (cn_eq HC.out HT2.out).mono ?_; rintro e w3 ⟨rfl, b3⟩; have HB3 := Lib.hid (HB2.out.trans (b3.mono HB2.out.size)); have HO3 := Lib.hid (HO2.out.keep b3); have HG3 := Lib.hid (HG2.out.keep b3); clear b3 c0 c1 c2 c3 c4 c5)
      | (refine wpList_yields (S := fun _ => True) (y_build (by rfl) (by rfl) built34) trivial ?_)
      | (refine wpList_store_ob HO3.out rfl (.tmp 4) (.tmp 33) rfl (by rfl) oz rfl ?_))
    exact bodyPost_ret (results_obj rfl _ _ (w.heap.size + 1) oz rfl (HO3.out.setRow _)) rfl ⟨rfl, below_setRow HB3.out (by omega) _⟩
set_option maxRecDepth 100000 in
set_option maxHeartbeats 2000000 in
theorem nam_yes (P : Value) (hP : IsP P) (x : Ky) (o : Oj) (hf : x.of) (hc : x.cn o = true) (w : World) (hT : Tab w) (ha : ∀ W, Below w.heap.size w W → Calls Tryd.prog 52 #[P, .int .i64 x.o] W fun e' w' => e' = .returned (.tuple #[o.val, .int .i64 0]) ∧ Below W.heap.size W w') :
    Calls Tryd.prog 39 #[P, x.val] w fun e' w' => e' = .returned (.tuple #[o.val, .bool true]) ∧ Below w.heap.size w w' := by
  have hz := z34
  have hbl := oz_len
  have HA := Lib.hid ha
  have HF := Lib.hid hf
  have HC := Lib.hid hc
  have HT0 := Lib.hid ((hT.alloc (.cells (kc x.k x.o x.c x.l x.r x.v) 29)).alloc (.cells oz.cells.toArray 33))
  have HB0 := Lib.hid (((Below.refl w.heap.size w).alloc (Nat.le_refl _) (.cells (kc x.k x.o x.c x.l x.r x.v) 29)).alloc (by simp) (.cells oz.cells.toArray 33))
  have HK0 := Lib.hid ((Blk.new w 29 (kc x.k x.o x.c x.l x.r x.v)).alloc (.cells oz.cells.toArray 33))
  have HO0 := Lib.hid (show Blk ((w.alloc (.cells (kc x.k x.o x.c x.l x.r x.v) 29)).alloc (.cells oz.cells.toArray 33)) (w.heap.size + 1) 33 oz.cells.toArray from by have := Blk.new (w.alloc (.cells (kc x.k x.o x.c x.l x.r x.v) 29)) 33 oz.cells.toArray; simpa using this)
  clear hT ha hf hc
  rcases hP with rfl | ⟨q, rfl⟩
  all_goals
    go_enter Tryd.func39, Tryd.ntmps39
    go_wp2_with (first
      | (go_at_call 34; refine (kname_yes x _ HT0.out HF.out).mono ?_; rintro e w1 ⟨rfl, b1⟩; have HB1 := Lib.hid (HB0.out.trans (b1.mono HB0.out.size)); have HT1 := Lib.hid (HT0.out.below b1); have HK1 := Lib.hid (HK0.out.keep b1); have HO1 := Lib.hid (HO0.out.keep b1); clear b1)
      | (go_at_call 52; refine (HA.out _ HB1.out).mono ?_; rintro e w2 ⟨rfl, b2⟩; have HB2 := Lib.hid (((HB1.out.trans (b2.mono HB1.out.size)).alloc (by have := HB1.out.size; have := b2.size; omega) (.cells o.cells.toArray 33))); have HT2 := Lib.hid ((HT1.out.below b2).alloc (.cells o.cells.toArray 33)); have HK2 := Lib.hid ((HK1.out.keep b2).alloc (.cells o.cells.toArray 33)); have HO2 := Lib.hid ((HO1.out.keep b2).alloc (.cells o.cells.toArray 33)); have HG2 := Lib.hid (Blk.new w2 33 o.cells.toArray); obtain ⟨c0, c1, c2, c3, c4, c5⟩ := HK2.out.six; clear b2)
      | (refine wpList_store_last rfl (.tmp 8) (.tmp 19) rfl _ rfl rfl o oz rfl ?_)
      | (refine wpList_yields (S := fun w' => ObAt w' w2.heap.size 0 o) (y_ob (by rfl) (.tmp 8) (by rfl) w2.heap.size 0 (by rfl) o (fun _ h => h)) HG2.out.ob ?_)
      | (go_at_call 51; refine (cn_eq HC.out HT2.out).mono ?_; rintro e w3 ⟨rfl, b3⟩; have HB3 := Lib.hid (HB2.out.trans (b3.mono HB2.out.size)); have HO3 := Lib.hid (HO2.out.keep b3); have HG3 := Lib.hid (HG2.out.keep b3); clear b3 c0 c1 c2 c3 c4 c5)
      | (refine wpList_yields (S := fun w' => ObAt w' w2.heap.size 0 o) (y_ob (by rfl) (.tmp 8) (by rfl) w2.heap.size 0 (by rfl) o (fun _ h => h)) HG3.out.ob ?_)
      | (refine wpList_store_ob HO3.out rfl (.tmp 4) (.tmp 34) rfl (by rfl) o rfl ?_))
    exact bodyPost_ret (results_obj rfl _ _ (w.heap.size + 1) o rfl (HO3.out.setRow _)) rfl ⟨rfl, below_setRow HB3.out (by omega) _⟩
end Go.Proofs.YtjolojomgfcfbaaDoor

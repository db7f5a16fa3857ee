/- objects: what a key names; Prepared. -/
import Derived.Test.YtjolojomgfcfbaaDoorR11
import Derived.Test.YtjolojomgfcfbaaDoorR05
import Derived.Test.YtjolojomgfcfbaaDoorR10
namespace Go.Proofs.YtjolojomgfcfbaaDoor
open Go.RowKit
/-- the object that a key names and counts with -/
noncomputable def named (os : List Oj) (x : Ky) : Option Oj := @ite (Option Oj) x.of (Classical.propDecidable _) (os[x.o.toNat]?.filter fun o => x.cn o) none
theorem named_not {os : List Oj} {x : Ky} (h : ¬ x.of) : named os x = none := if_neg h
theorem named_is {os : List Oj} {x : Ky} (h : x.of) : named os x = os[x.o.toNat]?.filter fun o => x.cn o := if_pos h
section
variable {w : World} {base p : Nat} {A : Option Addr} {cap : Nat} {ps : List Nat} {os : List Oj}
set_option maxRecDepth 8000 in
theorem named_at (h : StAt w base p A cap ps os) (hn : 0 < os.length) (hT : Tab w) (x : Ky) :
    Calls Tryd.prog 39 #[pv p, x.val] w fun e w' => e = .returned (.tuple #[((named os x).getD oz).val, .bool (named os x).isSome]) ∧ Below w.heap.size w w' := by
  by_cases hf : x.of
  · rw [named_is hf]
    have h0 := of_o hf
    obtain ⟨n, hn'⟩ := Int.eq_ofNat_of_zero_le h0
    by_cases hlt : n < os.length
    · have e1 : os[x.o.toNat]? = some os[n] := by rw [hn', Int.toNat_natCast, List.getElem?_eq_getElem hlt]
      have hg := fun (W : World) (hb : Below w.heap.size w W) => get_at (h.below hb) n hlt
      rw [← hn'] at hg
      rw [e1]
      cases hc : x.cn os[n] with
      | true =>
        have := nam_yes (pv p) (.inr ⟨p, rfl⟩) x os[n] hf hc w hT hg
        rw [Option.filter_some]
        simpa [hc] using this
      | false =>
        have := nam_no (pv p) (.inr ⟨p, rfl⟩) x os[n] hf hc w hT hg
        rw [Option.filter_some]
        simpa [hc] using this
    · have e1 : os[x.o.toNat]? = none := by rw [hn', Int.toNat_natCast]; exact List.getElem?_eq_none (by omega)
      rw [e1]
      exact nam_out (pv p) (.inr ⟨p, rfl⟩) x oz hf 4 (by decide) w hT (fun W hb => get_out (h.below hb) hn x.o (.inr (by omega)))
  · rw [named_not hf]
    exact nam_notE (pv p) (.inr ⟨p, rfl⟩) x os[0] hf 0 w hT (fun W hb => get_at (h.below hb) 0 hn)
end
theorem wpList_store_ky {ops : Array Oper} {rest : List Oper} {o : Oper} {a : Act} {Q : Exit → Act → World → Prop} {w : World} {t : TypeId} {b : Nat} {y : Ky} (hb : Blk w b t (kc y.k y.o y.c y.l y.r y.v)) (hgd : o.guard = none) (p q : Operand) (ho : o.op = .store 29 p q) (hx : a.eval p = .pointer (some ⟨b, 0, none⟩)) (x : Ky) (hy : a.eval q = x.val)
    (h : wpList Tryd.prog ops Q rest (a.put o.dst undef) (w.setRow b (kc x.k x.o x.c x.l x.r x.v))) : wpList Tryd.prog ops Q (o :: rest) a w :=
  wpList_store_row hgd 29 p q ho b (kc x.k x.o x.c x.l x.r x.v) hx hy t (kc y.k y.o y.c y.l y.r y.v) hb size30 rfl (by simp [Value.oneCell']) h
theorem results_key {fn : Func} {p : Tmp} (h : fn.results = #[.cell p 29]) (tmps : Array Value) (w : World) (g : Nat) (x : Ky)
    (hp : tmps.getD p undef = .pointer (some ⟨g, 0, none⟩)) (hg : Blk w g 29 (kc x.k x.o x.c x.l x.r x.v)) : (results fn tmps).run Tryd.prog w = .ok x.val w :=
  results_cell_row (P := Tryd.prog) h tmps w g 29 _ (0, 0) _ hp hg Tryd.underlying29 rfl size30
set_option maxRecDepth 100000 in
set_option maxHeartbeats 2000000 in
theorem prep_1 (P : Value) (hP : IsP P) (x : Ky) (o : Oj) (w : World) (hT : Tab w) (ha : ∀ W, Below w.heap.size w W → Calls Tryd.prog 39 #[P, x.val] W fun e' w' => e' = .returned (.tuple #[o.val, .bool true]) ∧ Below W.heap.size W w') :
    Calls Tryd.prog 38 #[P, x.val] w fun e' w' => e' = .returned x.val ∧ Below w.heap.size w w' := by
  have hz := z34
  have hbl := oz_len
  have HA := Lib.hid ha
  have HT0 := Lib.hid ((hT.alloc (.cells (kc x.k x.o x.c x.l x.r x.v) 29)).alloc (.cells (kc 0 0 0 0 0 0) 29))
  have HB0 := Lib.hid (((Below.refl w.heap.size w).alloc (Nat.le_refl _) (.cells (kc x.k x.o x.c x.l x.r x.v) 29)).alloc (by simp) (.cells (kc 0 0 0 0 0 0) 29))
  have HK0 := Lib.hid ((Blk.new w 29 (kc x.k x.o x.c x.l x.r x.v)).alloc (.cells (kc 0 0 0 0 0 0) 29))
  have HZ0 := Lib.hid (show Blk ((w.alloc (.cells (kc x.k x.o x.c x.l x.r x.v) 29)).alloc (.cells (kc 0 0 0 0 0 0) 29)) (w.heap.size + 1) 29 (kc 0 0 0 0 0 0) from by have := Blk.new (w.alloc (.cells (kc x.k x.o x.c x.l x.r x.v) 29)) 29 (kc 0 0 0 0 0 0); simpa using this)
  clear hT ha
  rcases hP with rfl | ⟨q, rfl⟩
  all_goals
    go_enter Tryd.func38, Tryd.ntmps38
    go_wp2_with (first
      | (go_at_call 39; refine (HA.out _ HB0.out).mono ?_; rintro e w1 ⟨rfl, b1⟩; have HB1 := Lib.hid (((HB0.out.trans (b1.mono HB0.out.size)).alloc (by have := HB0.out.size; have := b1.size; omega) (.cells o.cells.toArray 33))); have HT1 := Lib.hid ((HT0.out.below b1).alloc (.cells o.cells.toArray 33)); have HK1 := Lib.hid ((HK0.out.keep b1).alloc (.cells o.cells.toArray 33)); have HZ1 := Lib.hid ((HZ0.out.keep b1).alloc (.cells o.cells.toArray 33)); obtain ⟨c0, c1, c2, c3, c4, c5⟩ := HK1.out.six; clear b1)
      | (refine wpList_store_last rfl (.tmp 5) (.tmp 11) rfl _ rfl rfl o oz rfl ?_)
      | (refine wpList_store_ky (y := zk) HZ1.out rfl (.tmp 4) (.tmp 23) rfl (by rfl) x (by rfl) ?_))
    exact bodyPost_ret (results_key rfl _ _ (w.heap.size + 1) x rfl (HZ1.out.setRow _)) rfl ⟨rfl, below_setRow HB1.out (by omega) _⟩
set_option maxRecDepth 100000 in
set_option maxHeartbeats 2000000 in
theorem prep_3 (P : Value) (hP : IsP P) (x : Ky) (o : Oj) (hc : x.cn oz = true) (w : World) (hT : Tab w) (ha : ∀ W, Below w.heap.size w W → Calls Tryd.prog 39 #[P, x.val] W fun e' w' => e' = .returned (.tuple #[o.val, .bool false]) ∧ Below W.heap.size W w') (hh : ∀ W, Below w.heap.size w W → Calls Tryd.prog 45 #[P] W fun e w' => e = .returned (.bool true) ∧ W = w') :
    Calls Tryd.prog 38 #[P, x.val] w fun e' w' => e' = .returned x.val ∧ Below w.heap.size w w' := by
  have hz := z34
  have hbl := oz_len
  have HA := Lib.hid ha
  have HC := Lib.hid hc
  have HH := Lib.hid hh
  have HT0 := Lib.hid ((hT.alloc (.cells (kc x.k x.o x.c x.l x.r x.v) 29)).alloc (.cells (kc 0 0 0 0 0 0) 29))
  have HB0 := Lib.hid (((Below.refl w.heap.size w).alloc (Nat.le_refl _) (.cells (kc x.k x.o x.c x.l x.r x.v) 29)).alloc (by simp) (.cells (kc 0 0 0 0 0 0) 29))
  have HK0 := Lib.hid ((Blk.new w 29 (kc x.k x.o x.c x.l x.r x.v)).alloc (.cells (kc 0 0 0 0 0 0) 29))
  have HZ0 := Lib.hid (show Blk ((w.alloc (.cells (kc x.k x.o x.c x.l x.r x.v) 29)).alloc (.cells (kc 0 0 0 0 0 0) 29)) (w.heap.size + 1) 29 (kc 0 0 0 0 0 0) from by have := Blk.new (w.alloc (.cells (kc x.k x.o x.c x.l x.r x.v) 29)) 29 (kc 0 0 0 0 0 0); simpa using this)
  clear hT ha hc hh
  rcases hP with rfl | ⟨q, rfl⟩
  all_goals
    go_enter Tryd.func38, Tryd.ntmps38
    go_wp2_with (first
      | (go_at_call 39; refine (HA.out _ HB0.out).mono ?_; rintro e w1 ⟨rfl, b1⟩; have HB1 := Lib.hid (((HB0.out.trans (b1.mono HB0.out.size)).alloc (by have := HB0.out.size; have := b1.size; omega) (.cells o.cells.toArray 33))); have HT1 := Lib.hid ((HT0.out.below b1).alloc (.cells o.cells.toArray 33)); have HK1 := Lib.hid ((HK0.out.keep b1).alloc (.cells o.cells.toArray 33)); have HZ1 := Lib.hid ((HZ0.out.keep b1).alloc (.cells o.cells.toArray 33)); obtain ⟨c0, c1, c2, c3, c4, c5⟩ := HK1.out.six; clear b1)
      | (refine wpList_store_last rfl (.tmp 5) (.tmp 11) rfl _ rfl rfl o oz rfl ?_)
      | (go_at_call 45; refine (HH.out _ HB1.out).mono ?_; rintro e w9 ⟨rfl, rfl⟩)
      | (refine wpList_yields (S := fun _ => True) (y_build (by rfl) (by rfl) built34) trivial ?_)
      | (go_at_call 51; refine (cn_eq HC.out HT1.out).mono ?_; rintro e w3 ⟨rfl, b3⟩; have HB3 := Lib.hid (HB1.out.trans (b3.mono HB1.out.size)); have HZ3 := Lib.hid (HZ1.out.keep b3); have HK3 := Lib.hid (HK1.out.keep b3); clear b3 c0 c1 c2 c3 c4 c5; obtain ⟨c0, c1, c2, c3, c4, c5⟩ := HK3.out.six)
      | (refine wpList_store_ky (y := zk) HZ3.out rfl (.tmp 4) (.tmp 23) rfl (by rfl) x (by rfl) ?_))
    exact bodyPost_ret (results_key rfl _ _ (w.heap.size + 1) x rfl (HZ3.out.setRow _)) rfl ⟨rfl, below_setRow HB3.out (by omega) _⟩
set_option maxRecDepth 100000 in
set_option maxHeartbeats 2000000 in
theorem prep_4 (P : Value) (hP : IsP P) (x : Ky) (o : Oj) (hc : x.cn oz = false) (w : World) (hT : Tab w) (ha : ∀ W, Below w.heap.size w W → Calls Tryd.prog 39 #[P, x.val] W fun e' w' => e' = .returned (.tuple #[o.val, .bool false]) ∧ Below W.heap.size W w') (hh : ∀ W, Below w.heap.size w W → Calls Tryd.prog 45 #[P] W fun e w' => e = .returned (.bool true) ∧ W = w') :
    Calls Tryd.prog 38 #[P, x.val] w fun e' w' => e' = .returned zk.val ∧ Below w.heap.size w w' := by
  have hz := z34
  have hbl := oz_len
  have HA := Lib.hid ha
  have HC := Lib.hid hc
  have HH := Lib.hid hh
  have HT0 := Lib.hid ((hT.alloc (.cells (kc x.k x.o x.c x.l x.r x.v) 29)).alloc (.cells (kc 0 0 0 0 0 0) 29))
  have HB0 := Lib.hid (((Below.refl w.heap.size w).alloc (Nat.le_refl _) (.cells (kc x.k x.o x.c x.l x.r x.v) 29)).alloc (by simp) (.cells (kc 0 0 0 0 0 0) 29))
  have HK0 := Lib.hid ((Blk.new w 29 (kc x.k x.o x.c x.l x.r x.v)).alloc (.cells (kc 0 0 0 0 0 0) 29))
  have HZ0 := Lib.hid (show Blk ((w.alloc (.cells (kc x.k x.o x.c x.l x.r x.v) 29)).alloc (.cells (kc 0 0 0 0 0 0) 29)) (w.heap.size + 1) 29 (kc 0 0 0 0 0 0) from by have := Blk.new (w.alloc (.cells (kc x.k x.o x.c x.l x.r x.v) 29)) 29 (kc 0 0 0 0 0 0); simpa using this)
  clear hT ha hc hh
  rcases hP with rfl | ⟨q, rfl⟩
  all_goals
    go_enter Tryd.func38, Tryd.ntmps38
    go_wp2_with (first
      | (go_at_call 39; refine (HA.out _ HB0.out).mono ?_; rintro e w1 ⟨rfl, b1⟩; have HB1 := Lib.hid (((HB0.out.trans (b1.mono HB0.out.size)).alloc (by have := HB0.out.size; have := b1.size; omega) (.cells o.cells.toArray 33))); have HT1 := Lib.hid ((HT0.out.below b1).alloc (.cells o.cells.toArray 33)); have HK1 := Lib.hid ((HK0.out.keep b1).alloc (.cells o.cells.toArray 33)); have HZ1 := Lib.hid ((HZ0.out.keep b1).alloc (.cells o.cells.toArray 33)); obtain ⟨c0, c1, c2, c3, c4, c5⟩ := HK1.out.six; clear b1)
      | (refine wpList_store_last rfl (.tmp 5) (.tmp 11) rfl _ rfl rfl o oz rfl ?_)
      | (go_at_call 45; refine (HH.out _ HB1.out).mono ?_; rintro e w9 ⟨rfl, rfl⟩)
      | (refine wpList_yields (S := fun _ => True) (y_build (by rfl) (by rfl) built34) trivial ?_)
      | (go_at_call 51; refine (cn_eq HC.out HT1.out).mono ?_; rintro e w3 ⟨rfl, b3⟩; have HB3 := Lib.hid (HB1.out.trans (b3.mono HB1.out.size)); have HZ3 := Lib.hid (HZ1.out.keep b3); have HK3 := Lib.hid (HK1.out.keep b3); clear b3 c0 c1 c2 c3 c4 c5; obtain ⟨c0, c1, c2, c3, c4, c5⟩ := HK3.out.six)
      | (refine wpList_store_ky (y := zk) HZ3.out rfl (.tmp 4) (.tmp 24) rfl (by rfl) zk (by rfl) ?_))
    exact bodyPost_ret (results_key rfl _ _ (w.heap.size + 1) zk rfl (HZ3.out.setRow _)) rfl ⟨rfl, below_setRow HB3.out (by omega) _⟩
/-- the key, if it counts, else the void key -/
noncomputable def prepd (os : List Oj) (x : Ky) : Ky := if (named os x).isSome || x.cn oz then x else zk
section
variable {w : World} {base p : Nat} {A : Option Addr} {cap : Nat} {ps : List Nat} {os : List Oj}
set_option maxRecDepth 8000 in
theorem prep_at (h : StAt w base p A cap ps os) (hn : 0 < os.length) (hT : Tab w) (x : Ky) :
    Calls Tryd.prog 38 #[pv p, x.val] w fun e w' => e = .returned (prepd os x).val ∧ Below w.heap.size w w' := by
  have hnm := fun (W : World) (hb : Below w.heap.size w W) => named_at (h.below hb) hn (hT.below hb) x
  have hth := fun (W : World) (hb : Below w.heap.size w W) => there_yes (h.below hb) hn
  unfold prepd
  cases hq : (named os x).isSome with
  | true =>
    rw [hq] at hnm
    exact prep_1 _ (.inr ⟨p, rfl⟩) x _ w hT hnm
  | false =>
    rw [hq] at hnm
    cases hc : x.cn oz with
    | true => exact prep_3 _ (.inr ⟨p, rfl⟩) x _ hc w hT hnm hth
    | false => exact prep_4 _ (.inr ⟨p, rfl⟩) x _ hc w hT hnm hth
end
end Go.Proofs.YtjolojomgfcfbaaDoor
namespace Go.Proofs.YtjolojomgfcfbaaDoor
open Go.RowKit
attribute [local go_sem] Oper.semAt_some
section
variable {w : World} {A : Option Addr} {l : List Oj} {cap : Nat}
end
end Go.Proofs.YtjolojomgfcfbaaDoor
namespace Go.Proofs.YtjolojomgfcfbaaDoor
open Go.RowKit
section
variable {w : World} {A : Option Addr} {l : List Oj} {cap : Nat}
set_option maxRecDepth 8000 in
theorem cn_oz {x : Ky} : x.cn oz = true ↔ x.ok ∧ ¬ x.of := by
  unfold Ky.cn
  constructor
  · intro h
    have hh : x.ok ∧ (x.of → x.want = 0 ∧ x.c = 0 ∧ (x.k ≠ 7 ∨ x.l = 0)) := by
      unfold Ky.cnt at h
      have h' := @of_decide_eq_true _ (Classical.propDecidable _) h
      exact h'
    refine ⟨hh.1, fun hf => ?_⟩
    have h1 := (hh.2 hf).1
    unfold Ky.want at h1
    rw [if_pos hf] at h1
    split at h1 <;> omega
  · rintro ⟨h1, h2⟩
    exact cnt_yes ⟨h1, fun h => absurd h h2⟩
end
end Go.Proofs.YtjolojomgfcfbaaDoor
namespace Go.Proofs.YtjolojomgfcfbaaDoor
open Go.ChangeShapes Go.WideShapes Go.ChangeAt Go.RowKit
section
variable {H : Type} {enc : TypeId × Value → H} {W : World} {base : Nat} {spare : Nat → Bool} {held : Bool} {fuel : Nat}
set_option maxRecDepth 8000 in
theorem cellsOf30 : Tryd.prog.cellsOf 29 = 6 := by kernel_rfl
end
end Go.Proofs.YtjolojomgfcfbaaDoor

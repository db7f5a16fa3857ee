/- objects: what a key names; Prepared. -/
import Derived.Test.YtfckdbennjkgoaaDoorR11
import Derived.Test.YtfckdbennjkgoaaDoorR05
import Derived.Test.YtfckdbennjkgoaaDoorR10
namespace Go.Proofs.YtfckdbennjkgoaaDoor
open Go.RowKit
/-- the object that a key names and counts with -/
noncomputable def named (os : List Oj) (x : Ky) : Option Oj := @ite (Option Oj) x.of (Classical.propDecidable _) (os[x.o.toNat]?.filter fun o => x.cn o) none
theorem named_not {os : List Oj} {x : Ky} (h : ¬ x.of) : named os x = none := if_neg h
theorem named_is {os : List Oj} {x : Ky} (h : x.of) : named os x = os[x.o.toNat]?.filter fun o => x.cn o := if_pos h
section
variable {w : World} {base p : Nat} {A : Option Addr} {cap : Nat} {ps : List Nat} {os : List Oj}
set_option maxRecDepth 8000 in
theorem named_at (h : StAt w base p A cap ps os) (hn : 0 < os.length) (hT : Tab w) (x : Ky) :
    Calls Tryd.prog 82 #[pv p, x.val] w fun e w' => e = .returned (.tuple #[((named os x).getD oz).val, .bool (named os x).isSome]) ∧ Below w.heap.size w w' := by
  by_cases hf : x.of
  · rw [named_is hf]
    have h0 := of_o hf
    obtain ⟨n, hn'⟩ := Int.eq_ofNat_of_zero_le h0
    by_cases hlt : n < os.length
    · have e1 : os[x.o.toNat]? = some os[n] := by rw [hn', Int.toNat_natCast, List.getElem?_eq_getElem hlt]
      have hg := fun (W : World) (hb : Below w.heap.size w W) => get_at (h.below hb) n hlt
      rw [← hn'] at hg
      rw [e1]
      cases hc : x.cn os[n] with
      | true =>
        have := nam_yes (pv p) (.inr ⟨p, rfl⟩) x os[n] hf hc w hT hg
        rw [Option.filter_some]
        simpa [hc] using this
      | false =>
        have := nam_no (pv p) (.inr ⟨p, rfl⟩) x os[n] hf hc w hT hg
        rw [Option.filter_some]
        simpa [hc] using this
    · have e1 : os[x.o.toNat]? = none := by rw [hn', Int.toNat_natCast]; exact List.getElem?_eq_none (by omega)
      rw [e1]
      exact nam_out (pv p) (.inr ⟨p, rfl⟩) x oz hf 4 (by decide) w hT (fun W hb => get_out (h.below hb) hn x.o (.inr (by omega)))
  · rw [named_not hf]
    exact nam_notE (pv p) (.inr ⟨p, rfl⟩) x os[0] hf 0 w hT (fun W hb => get_at (h.below hb) 0 hn)
set_option maxRecDepth 8000 in
theorem named_nil (w : World) (hT : Tab w) (x : Ky) :
    Calls Tryd.prog 82 #[.pointer none, x.val] w fun e w' => e = .returned (.tuple #[oz.val, .bool false]) ∧ Below w.heap.size w w' := by
  by_cases hf : x.of
  · exact nam_out _ (.inl rfl) x oz hf 1 (by decide) w hT (fun W _ => get_nil (w := W) x.o)
  · exact nam_notE _ (.inl rfl) x oz hf 1 w hT (fun W _ => get_nil (w := W) 0)
set_option maxRecDepth 8000 in
theorem named_none (h : StAt w base p A cap ps []) (hT : Tab w) (x : Ky) :
    Calls Tryd.prog 82 #[pv p, x.val] w fun e w' => e = .returned (.tuple #[oz.val, .bool false]) ∧ Below w.heap.size w w' := by
  by_cases hf : x.of
  · exact nam_out _ (.inr ⟨p, rfl⟩) x oz hf 1 (by decide) w hT (fun W hb => get_none (h.below hb) x.o)
  · exact nam_notE _ (.inr ⟨p, rfl⟩) x oz hf 1 w hT (fun W hb => get_none (h.below hb) 0)
end
theorem wpList_store_ky {ops : Array Oper} {rest : List Oper} {o : Oper} {a : Act} {Q : Exit → Act → World → Prop} {w : World} {t : TypeId} {b : Nat} {y : Ky} (hb : Blk w b t (kc y.k y.o y.c y.l y.r y.v)) (hgd : o.guard = none) (p q : Operand) (ho : o.op = .store 31 p q) (hx : a.eval p = .pointer (some ⟨b, 0, none⟩)) (x : Ky) (hy : a.eval q = x.val)
    (h : wpList Tryd.prog ops Q rest (a.put o.dst undef) (w.setRow b (kc x.k x.o x.c x.l x.r x.v))) : wpList Tryd.prog ops Q (o :: rest) a w :=
  wpList_store_row hgd 31 p q ho b (kc x.k x.o x.c x.l x.r x.v) hx hy t (kc y.k y.o y.c y.l y.r y.v) hb size30 rfl (by simp [Value.oneCell']) h
theorem results_key {fn : Func} {p : Tmp} (h : fn.results = #[.cell p 31]) (tmps : Array Value) (w : World) (g : Nat) (x : Ky)
    (hp : tmps.getD p undef = .pointer (some ⟨g, 0, none⟩)) (hg : Blk w g 31 (kc x.k x.o x.c x.l x.r x.v)) : (results fn tmps).run Tryd.prog w = .ok x.val w :=
  results_cell_row (P := Tryd.prog) h tmps w g 31 _ (0, 0) _ hp hg Tryd.underlying31 rfl size30
set_option maxRecDepth 100000 in
set_option maxHeartbeats 2000000 in
theorem prep_1 (P : Value) (hP : IsP P) (x : Ky) (o : Oj) (w : World) (hT : Tab w) (ha : ∀ W, Below w.heap.size w W → Calls Tryd.prog 82 #[P, x.val] W fun e' w' => e' = .returned (.tuple #[o.val, .bool true]) ∧ Below W.heap.size W w') :
    Calls Tryd.prog 78 #[P, x.val] w fun e' w' => e' = .returned x.val ∧ Below w.heap.size w w' := by
  have hz := z34
  have hbl := oz_len
  have HA := Lib.hid ha
  have HT0 := Lib.hid ((hT.alloc (.cells (kc x.k x.o x.c x.l x.r x.v) 31)).alloc (.cells (kc 0 0 0 0 0 0) 31))
  have HB0 := Lib.hid (((Below.refl w.heap.size w).alloc (Nat.le_refl _) (.cells (kc x.k x.o x.c x.l x.r x.v) 31)).alloc (by simp) (.cells (kc 0 0 0 0 0 0) 31))
  have HK0 := Lib.hid ((Blk.new w 31 (kc x.k x.o x.c x.l x.r x.v)).alloc (.cells (kc 0 0 0 0 0 0) 31))
  have HZ0 := Lib.hid (show Blk ((w.alloc (.cells (kc x.k x.o x.c x.l x.r x.v) 31)).alloc (.cells (kc 0 0 0 0 0 0) 31)) (w.heap.size + 1) 31 (kc 0 0 0 0 0 0) from by have := Blk.new (w.alloc (.cells (kc x.k x.o x.c x.l x.r x.v) 31)) 31 (kc 0 0 0 0 0 0); simpa using this)
  clear hT ha
  rcases hP with rfl | ⟨q, rfl⟩
  all_goals
    go_enter Tryd.func78, Tryd.ntmps78
    go_wp2_with (first
      | (go_at_call 82; refine (HA.out _ HB0.out).mono ?_; rintro e w1 ⟨rfl, b1⟩; have HB1 := Lib.hid (((HB0.out.trans (b1.mono HB0.out.size)).alloc (by have := HB0.out.size; have := b1.size; omega) (.cells o.cells.toArray 52))); have HT1 := Lib.hid ((HT0.out.below b1).alloc (.cells o.cells.toArray 52)); have HK1 := Lib.hid ((HK0.out.keep b1).alloc (.cells o.cells.toArray 52)); have HZ1 := Lib.hid ((HZ0.out.keep b1).alloc (.cells o.cells.toArray 52)); obtain ⟨c0, c1, c2, c3, c4, c5⟩ := HK1.out.six; clear b1)
      | (refine wpList_store_last rfl (.tmp 5) (.tmp 11) rfl _ rfl rfl o oz rfl ?_)
      | (refine wpList_store_ky (y := zk) HZ1.out rfl (.tmp 4) (.tmp 23) rfl (by rfl) x (by rfl) ?_))
    exact bodyPost_ret (results_key rfl _ _ (w.heap.size + 1) x rfl (HZ1.out.setRow _)) rfl ⟨rfl, below_setRow HB1.out (by omega) _⟩
set_option maxRecDepth 100000 in
set_option maxHeartbeats 2000000 in
theorem prep_2 (P : Value) (hP : IsP P) (x : Ky) (o : Oj) (w : World) (hT : Tab w) (ha : ∀ W, Below w.heap.size w W → Calls Tryd.prog 82 #[P, x.val] W fun e' w' => e' = .returned (.tuple #[o.val, .bool false]) ∧ Below W.heap.size W w') (hh : ∀ W, Below w.heap.size w W → Calls Tryd.prog 57 #[P] W fun e w' => e = .returned (.bool false) ∧ W = w') :
    Calls Tryd.prog 78 #[P, x.val] w fun e' w' => e' = .returned zk.val ∧ Below w.heap.size w w' := by
  have hz := z34
  have hbl := oz_len
  have HA := Lib.hid ha
  have HH := Lib.hid hh
  have HT0 := Lib.hid ((hT.alloc (.cells (kc x.k x.o x.c x.l x.r x.v) 31)).alloc (.cells (kc 0 0 0 0 0 0) 31))
  have HB0 := Lib.hid (((Below.refl w.heap.size w).alloc (Nat.le_refl _) (.cells (kc x.k x.o x.c x.l x.r x.v) 31)).alloc (by simp) (.cells (kc 0 0 0 0 0 0) 31))
  have HK0 := Lib.hid ((Blk.new w 31 (kc x.k x.o x.c x.l x.r x.v)).alloc (.cells (kc 0 0 0 0 0 0) 31))
  have HZ0 := Lib.hid (show Blk ((w.alloc (.cells (kc x.k x.o x.c x.l x.r x.v) 31)).alloc (.cells (kc 0 0 0 0 0 0) 31)) (w.heap.size + 1) 31 (kc 0 0 0 0 0 0) from by have := Blk.new (w.alloc (.cells (kc x.k x.o x.c x.l x.r x.v) 31)) 31 (kc 0 0 0 0 0 0); simpa using this)
  clear hT ha hh
  rcases hP with rfl | ⟨q, rfl⟩
  all_goals
    go_enter Tryd.func78, Tryd.ntmps78
    go_wp2_with (first
      | (go_at_call 82; refine (HA.out _ HB0.out).mono ?_; rintro e w1 ⟨rfl, b1⟩; have HB1 := Lib.hid (((HB0.out.trans (b1.mono HB0.out.size)).alloc (by have := HB0.out.size; have := b1.size; omega) (.cells o.cells.toArray 52))); have HT1 := Lib.hid ((HT0.out.below b1).alloc (.cells o.cells.toArray 52)); have HK1 := Lib.hid ((HK0.out.keep b1).alloc (.cells o.cells.toArray 52)); have HZ1 := Lib.hid ((HZ0.out.keep b1).alloc (.cells o.cells.toArray 52)); obtain ⟨c0, c1, c2, c3, c4, c5⟩ := HK1.out.six; clear b1)
      | (refine wpList_store_last rfl (.tmp 5) (.tmp 11) rfl _ rfl rfl o oz rfl ?_)
      | (go_at_call 57; refine (HH.out _ HB1.out).mono ?_; rintro e w9 ⟨rfl, rfl⟩)
      | (refine wpList_store_ky (y := zk) HZ1.out rfl (.tmp 4) (.tmp 24) rfl (by rfl) zk (by rfl) ?_))
    exact bodyPost_ret (results_key rfl _ _ (w.heap.size + 1) zk rfl (HZ1.out.setRow _)) rfl ⟨rfl, below_setRow HB1.out (by omega) _⟩
set_option maxRecDepth 100000 in
set_option maxHeartbeats 2000000 in
theorem prep_3 (P : Value) (hP : IsP P) (x : Ky) (o : Oj) (hc : x.cn oz = true) (w : World) (hT : Tab w) (ha : ∀ W, Below w.heap.size w W → Calls Tryd.prog 82 #[P, x.val] W fun e' w' => e' = .returned (.tuple #[o.val, .bool false]) ∧ Below W.heap.size W w') (hh : ∀ W, Below w.heap.size w W → Calls Tryd.prog 57 #[P] W fun e w' => e = .returned (.bool true) ∧ W = w') :
    Calls Tryd.prog 78 #[P, x.val] w fun e' w' => e' = .returned x.val ∧ Below w.heap.size w w' := by
  have hz := z34
  have hbl := oz_len
  have HA := Lib.hid ha
  have HC := Lib.hid hc
  have HH := Lib.hid hh
  have HT0 := Lib.hid ((hT.alloc (.cells (kc x.k x.o x.c x.l x.r x.v) 31)).alloc (.cells (kc 0 0 0 0 0 0) 31))
  have HB0 := Lib.hid (((Below.refl w.heap.size w).alloc (Nat.le_refl _) (.cells (kc x.k x.o x.c x.l x.r x.v) 31)).alloc (by simp) (.cells (kc 0 0 0 0 0 0) 31))
  have HK0 := Lib.hid ((Blk.new w 31 (kc x.k x.o x.c x.l x.r x.v)).alloc (.cells (kc 0 0 0 0 0 0) 31))
  have HZ0 := Lib.hid (show Blk ((w.alloc (.cells (kc x.k x.o x.c x.l x.r x.v) 31)).alloc (.cells (kc 0 0 0 0 0 0) 31)) (w.heap.size + 1) 31 (kc 0 0 0 0 0 0) from by have := Blk.new (w.alloc (.cells (kc x.k x.o x.c x.l x.r x.v) 31)) 31 (kc 0 0 0 0 0 0); simpa using this)
  clear hT ha hc hh
  rcases hP with rfl | ⟨q, rfl⟩
  all_goals
    go_enter Tryd.func78, Tryd.ntmps78
    go_wp2_with (first
      | (go_at_call 82; refine (HA.out _ HB0.out).mono ?_; rintro e w1 ⟨rfl, b1⟩; have HB1 := Lib.hid (((HB0.out.trans (b1.mono HB0.out.size)).alloc (by have := HB0.out.size; have := b1.size; omega) (.cells o.cells.toArray 52))); have HT1 := Lib.hid ((HT0.out.below b1).alloc (.cells o.cells.toArray 52)); have HK1 := Lib.hid ((HK0.out.keep b1).alloc (.cells o.cells.toArray 52)); have HZ1 := Lib.hid ((HZ0.out.keep b1).alloc (.cells o.cells.toArray 52)); obtain ⟨c0, c1, c2, c3, c4, c5⟩ := HK1.out.six; clear b1)
      | (refine wpList_store_last rfl (.tmp 5) (.tmp 11) rfl _ rfl rfl o oz rfl ?_)
      | (go_at_call 57; refine (HH.out _ HB1.out).mono ?_; rintro e w9 ⟨rfl, rfl⟩)
      | (refine wpList_yields (S := fun _ => True) (y_build (by rfl) (by rfl) built34) trivial ?_)
      | (go_at_call 96; refine (cn_eq HC.out HT1.out).mono ?_; rintro e w3 ⟨rfl, b3⟩; have HB3 := Lib.hid (HB1.out.trans (b3.mono HB1.out.size)); have HZ3 := Lib.hid (HZ1.out.keep b3); have HK3 := Lib.hid (HK1.out.keep b3); clear b3 c0 c1 c2 c3 c4 c5; obtain ⟨c0, c1, c2, c3, c4, c5⟩ := HK3.out.six)
      | (refine wpList_store_ky (y := zk) HZ3.out rfl (.tmp 4) (.tmp 23) rfl (by rfl) x (by rfl) ?_))
    exact bodyPost_ret (results_key rfl _ _ (w.heap.size + 1) x rfl (HZ3.out.setRow _)) rfl ⟨rfl, below_setRow HB3.out (by omega) _⟩
set_option maxRecDepth 100000 in
set_option maxHeartbeats 2000000 in
theorem prep_4 (P : Value) (hP : IsP P) (x : Ky) (o : Oj) (hc : x.cn oz = false) (w : World) (hT : Tab w) (ha : ∀ W, Below w.heap.size w W → Calls Tryd.prog 82 #[P, x.val] W fun e' w' => e' = .returned (.tuple #[o.val, .bool false]) ∧ Below W.heap.size W w') (hh : ∀ W, Below w.heap.size w W → Calls Tryd.prog 57 #[P] W fun e w' => e = .returned (.bool true) ∧ W = w') :
    Calls Tryd.prog 78 #[P, x.val] w fun e' w' => e' = .returned zk.val ∧ Below w.heap.size w w' := by
  have hz := z34
  have hbl := oz_len
  have HA := Lib.hid ha
  have HC := Lib.hid hc
  have HH := Lib.hid hh
  have HT0 := Lib.hid ((hT.alloc (.cells (kc x.k x.o x.c x.l x.r x.v) 31)).alloc (.cells (kc 0 0 0 0 0 0) 31))
  have HB0 := Lib.hid (((Below.refl w.heap.size w).alloc (Nat.le_refl _) (.cells (kc x.k x.o x.c x.l x.r x.v) 31)).alloc (by simp) (.cells (kc 0 0 0 0 0 0) 31))
  have HK0 := Lib.hid ((Blk.new w 31 (kc x.k x.o x.c x.l x.r x.v)).alloc (.cells (kc 0 0 0 0 0 0) 31))
  have HZ0 := Lib.hid (show Blk ((w.alloc (.cells (kc x.k x.o x.c x.l x.r x.v) 31)).alloc (.cells (kc 0 0 0 0 0 0) 31)) (w.heap.size + 1) 31 (kc 0 0 0 0 0 0) from by have := Blk.new (w.alloc (.cells (kc x.k x.o x.c x.l x.r x.v) 31)) 31 (kc 0 0 0 0 0 0); simpa using this)
  clear hT ha hc hh
  rcases hP with rfl | ⟨q, rfl⟩
  all_goals
    go_enter Tryd.func78, Tryd.ntmps78
    go_wp2_with (first
      | (go_at_call 82; refine (HA.out _ HB0.out).mono ?_; rintro e w1 ⟨rfl, b1⟩; have HB1 := Lib.hid (((HB0.out.trans (b1.mono HB0.out.size)).alloc (by have := HB0.out.size; have := b1.size; omega) (.cells o.cells.toArray 52))); have HT1 := Lib.hid ((HT0.out.below b1).alloc (.cells o.cells.toArray 52)); have HK1 := Lib.hid ((HK0.out.keep b1).alloc (.cells o.cells.toArray 52)); have HZ1 := Lib.hid ((HZ0.out.keep b1).alloc (.cells o.cells.toArray 52)); obtain ⟨c0, c1, c2, c3, c4, c5⟩ := HK1.out.six; clear b1)
      | (refine wpList_store_last rfl (.tmp 5) (.tmp 11) rfl _ rfl rfl o oz rfl ?_)
      | (go_at_call 57; refine (HH.out _ HB1.out).mono ?_; rintro e w9 ⟨rfl, rfl⟩)
      | (refine wpList_yields (S := fun _ => True) (y_build (by rfl) (by rfl) built34) trivial ?_)
      | (go_at_call 96; refine (cn_eq HC.out HT1.out).mono ?_; rintro e w3 ⟨rfl, b3⟩; have HB3 := Lib.hid (HB1.out.trans (b3.mono HB1.out.size)); have HZ3 := Lib.hid (HZ1.out.keep b3); have HK3 := Lib.hid (HK1.out.keep b3); clear b3 c0 c1 c2 c3 c4 c5; obtain ⟨c0, c1, c2, c3, c4, c5⟩ := HK3.out.six)
      | (refine wpList_store_ky (y := zk) HZ3.out rfl (.tmp 4) (.tmp 24) rfl (by rfl) zk (by rfl) ?_))
    exact bodyPost_ret (results_key rfl _ _ (w.heap.size + 1) zk rfl (HZ3.out.setRow _)) rfl ⟨rfl, below_setRow HB3.out (by omega) _⟩
/-- the key, if it counts, else the void key -/
noncomputable def prepd (os : List Oj) (x : Ky) : Ky := if (named os x).isSome || x.cn oz then x else zk
section
variable {w : World} {base p : Nat} {A : Option Addr} {cap : Nat} {ps : List Nat} {os : List Oj}
set_option maxRecDepth 8000 in
theorem prep_at (h : StAt w base p A cap ps os) (hn : 0 < os.length) (hT : Tab w) (x : Ky) :
    Calls Tryd.prog 78 #[pv p, x.val] w fun e w' => e = .returned (prepd os x).val ∧ Below w.heap.size w w' := by
  have hnm := fun (W : World) (hb : Below w.heap.size w W) => named_at (h.below hb) hn (hT.below hb) x
  have hth := fun (W : World) (hb : Below w.heap.size w W) => there_yes (h.below hb) hn
  unfold prepd
  cases hq : (named os x).isSome with
  | true =>
    rw [hq] at hnm
    exact prep_1 _ (.inr ⟨p, rfl⟩) x _ w hT hnm
  | false =>
    rw [hq] at hnm
    cases hc : x.cn oz with
    | true => exact prep_3 _ (.inr ⟨p, rfl⟩) x _ hc w hT hnm hth
    | false => exact prep_4 _ (.inr ⟨p, rfl⟩) x _ hc w hT hnm hth
theorem prep_none (h : StAt w base p A cap ps []) (hT : Tab w) (x : Ky) :
    Calls Tryd.prog 78 #[pv p, x.val] w fun e w' => e = .returned zk.val ∧ Below w.heap.size w w' :=
  prep_2 _ (.inr ⟨p, rfl⟩) x oz w hT (fun _ hb => named_none (h.below hb) (hT.below hb) x) (fun _ hb => there_no (h.below hb))
end
end Go.Proofs.YtfckdbennjkgoaaDoor
namespace Go.Proofs.YtfckdbennjkgoaaDoor
open Go.RowKit
attribute [local go_sem] Oper.semAt_some
section
variable {w : World} {A : Option Addr} {l : List Oj} {cap : Nat}
theorem six_and {a b c d e f g : Prop} (h : a ∧ b ∧ c ∧ d ∧ e ∧ f) (k : g) : a ∧ b ∧ c ∧ d ∧ e ∧ f ∧ g := ⟨h.1, h.2.1, h.2.2.1, h.2.2.2.1, h.2.2.2.2.1, h.2.2.2.2.2, k⟩
set_option maxRecDepth 100000 in
set_option maxHeartbeats 2000000 in
theorem rcounts_not (x : Ky) (h : ¬ x.of) :
    Calls Tryd.prog 27 #[.slice A l.length cap, x.val] w fun e w' => e = .returned (.bool false) ∧ Below w.heap.size w w' := by
  have HB := Lib.hid ((Below.refl w.heap.size w).alloc (Nat.le_refl _) (.cells (kc x.k x.o x.c x.l x.r x.v) 31))
  have HK := Lib.hid (Blk.new w 31 (kc x.k x.o x.c x.l x.r x.v))
  have HF := Lib.hid h
  have d0 : decide ((0 : Int) ≤ -1) = false := by decide
  clear h
  go_enter Tryd.func27, Tryd.ntmps27
  go_wp2_with (go_at_call 53; refine (rname_no x _ HF.out).mono ?_; rintro e w1 ⟨rfl, b1⟩; have HB1 := Lib.hid (HB.out.trans (b1.mono HB.out.size)); have HK1 := Lib.hid (HK.out.keep b1); clear b1)
  refine wp_region_only (S := fun w' => w'.cell? ⟨w.heap.size, 0, none⟩ = some (.int .i64 x.k) ∧ w'.cell? ⟨w.heap.size, 1, none⟩ = some (.int .i64 x.o) ∧ w'.cell? ⟨w.heap.size, 2, none⟩ = some (.int .i64 x.c) ∧ w'.cell? ⟨w.heap.size, 3, none⟩ = some (.int .i64 x.l) ∧ w'.cell? ⟨w.heap.size, 4, none⟩ = some (.int .i64 x.r) ∧ w'.cell? ⟨w.heap.size, 5, none⟩ = some (.int .i64 x.v)) (by kernel_rfl) HK1.out.drew.six (fun hHeld => ?_)
  refine wpAnyH_take (i := 0) (v := ?v1) rfl (by kernel_rfl) (by kernel_rfl) (by kernel_rfl) (fun _ _ _ h => h) (Or.inl ⟨by rfl, ?hy1⟩) hHeld ?rest1
  case hy1 =>
    intro w' hSw
    try dsimp only at hSw
    go_simp
    first | done | with_reducible rfl
  try simp only [Act.put, List.getElem_toArray, List.getElem_cons_zero, List.setIfInBounds_toArray, List.set_cons_zero, List.set_cons_succ]
  refine wpAnyH_take (i := 1) (v := ?v2) rfl (by kernel_rfl) (by kernel_rfl) (by kernel_rfl) (fun _ _ _ h => h) (Or.inl ⟨by rfl, ?hy2⟩) hHeld ?rest2
  case hy2 =>
    intro w' hSw
    try dsimp only at hSw
    go_simp
    first | done | with_reducible rfl
  try simp only [Act.put, List.getElem_toArray, List.getElem_cons_succ, List.getElem_cons_zero, List.setIfInBounds_toArray, List.set_cons_zero, List.set_cons_succ]
  refine wpAnyH_take (i := 2) (v := ?v3) rfl (by kernel_rfl) (by kernel_rfl) (by kernel_rfl) (fun _ _ _ h => h) (Or.inl ⟨by rfl, ?hy3⟩) hHeld ?rest3
  case hy3 =>
    intro w' hSw
    try dsimp only at hSw
    go_simp
    first | done | with_reducible rfl
  try simp only [Act.put, List.getElem_toArray, List.getElem_cons_succ, List.getElem_cons_zero, List.setIfInBounds_toArray, List.set_cons_zero, List.set_cons_succ]
  refine wpAnyH_take (i := 3) (v := undef) rfl (by kernel_rfl) (by kernel_rfl) (by kernel_rfl) (fun _ _ _ h => h) (Or.inr ⟨by rfl, rfl⟩) hHeld ?_
  try simp only [Act.put, List.getElem_toArray, List.getElem_cons_succ, List.getElem_cons_zero, List.setIfInBounds_toArray, List.set_cons_zero, List.set_cons_succ]
  refine wpAnyH_take (i := 4) (v := undef) rfl (by kernel_rfl) (by kernel_rfl) (by kernel_rfl) (fun _ _ _ h => h) (Or.inr ⟨by rfl, rfl⟩) hHeld ?_
  try simp only [Act.put, List.getElem_toArray, List.getElem_cons_succ, List.getElem_cons_zero, List.setIfInBounds_toArray, List.set_cons_zero, List.set_cons_succ]
  refine wpAnyH_take (i := 5) (v := undef) rfl (by kernel_rfl) (by kernel_rfl) (by kernel_rfl) (fun _ _ _ h => h) (Or.inr ⟨by rfl, rfl⟩) hHeld ?_
  try simp only [Act.put, List.getElem_toArray, List.getElem_cons_succ, List.getElem_cons_zero, List.setIfInBounds_toArray, List.set_cons_zero, List.set_cons_succ]
  refine wpAnyH_take (i := 6) (v := undef) rfl (by kernel_rfl) (by kernel_rfl) (by kernel_rfl) (fun _ _ _ h => h) (Or.inr ⟨by rfl, rfl⟩) hHeld ?_
  try simp only [Act.put, List.getElem_toArray, List.getElem_cons_succ, List.getElem_cons_zero, List.setIfInBounds_toArray, List.set_cons_zero, List.set_cons_succ]
  refine wpAnyH_take (i := 7) (v := ?v4) rfl (by kernel_rfl) (by kernel_rfl) (by kernel_rfl) (fun _ _ _ h => h) (Or.inl ⟨by rfl, ?hy4⟩) hHeld ?rest4
  case hy4 =>
    intro w' hSw
    try dsimp only at hSw
    go_simp
    first | done | with_reducible rfl
  try simp only [Act.put, List.getElem_toArray, List.getElem_cons_succ, List.getElem_cons_zero, List.setIfInBounds_toArray, List.set_cons_zero, List.set_cons_succ]
  refine wpAnyH_take (i := 8) (v := ?v5) rfl (by kernel_rfl) (by kernel_rfl) (by kernel_rfl) (fun _ _ _ h => h) (Or.inl ⟨by rfl, ?hy5⟩) hHeld ?rest5
  case hy5 =>
    intro w' hSw
    try dsimp only at hSw
    go_simp
    first | done | with_reducible rfl
  try simp only [Act.put, List.getElem_toArray, List.getElem_cons_succ, List.getElem_cons_zero, List.setIfInBounds_toArray, List.set_cons_zero, List.set_cons_succ]
  refine wpAnyH_take (i := 9) (v := undef) rfl (by kernel_rfl) (by kernel_rfl) (by kernel_rfl) (fun _ _ _ h => h) (Or.inr ⟨by rfl, rfl⟩) hHeld ?_
  try simp only [Act.put, List.getElem_toArray, List.getElem_cons_succ, List.getElem_cons_zero, List.setIfInBounds_toArray, List.set_cons_zero, List.set_cons_succ]
  refine wpAnyH_take (i := 10) (v := undef) rfl (by kernel_rfl) (by kernel_rfl) (by kernel_rfl) (fun _ _ _ h => h) (Or.inr ⟨by rfl, rfl⟩) hHeld ?_
  try simp only [Act.put, List.getElem_toArray, List.getElem_cons_succ, List.getElem_cons_zero, List.setIfInBounds_toArray, List.set_cons_zero, List.set_cons_succ]
  refine wpAnyH_take (i := 11) (v := undef) rfl (by kernel_rfl) (by kernel_rfl) (by kernel_rfl) (fun _ _ _ h => h) (Or.inr ⟨by rfl, rfl⟩) hHeld ?_
  try simp only [Act.put, List.getElem_toArray, List.getElem_cons_succ, List.getElem_cons_zero, List.setIfInBounds_toArray, List.set_cons_zero, List.set_cons_succ]
  refine wpAnyH_take (i := 12) (v := undef) rfl (by kernel_rfl) (by kernel_rfl) (by kernel_rfl) (fun _ _ _ h => h) (Or.inr ⟨by rfl, rfl⟩) hHeld ?_
  try simp only [Act.put, List.getElem_toArray, List.getElem_cons_succ, List.getElem_cons_zero, List.setIfInBounds_toArray, List.set_cons_zero, List.set_cons_succ]
  refine wpAnyH_take (i := 13) (v := undef) rfl (by kernel_rfl) (by kernel_rfl) (by kernel_rfl) (fun _ _ _ h => h) (Or.inr ⟨by rfl, rfl⟩) hHeld ?_
  try simp only [Act.put, List.getElem_toArray, List.getElem_cons_succ, List.getElem_cons_zero, List.setIfInBounds_toArray, List.set_cons_zero, List.set_cons_succ]
  refine wpAnyH_take (i := 14) (v := undef) rfl (by kernel_rfl) (by kernel_rfl) (by kernel_rfl) (fun _ _ _ h => h) (Or.inr ⟨by rfl, rfl⟩) hHeld ?_
  try simp only [Act.put, List.getElem_toArray, List.getElem_cons_succ, List.getElem_cons_zero, List.setIfInBounds_toArray, List.set_cons_zero, List.set_cons_succ]
  refine wpAnyH_take (i := 15) (v := undef) rfl (by kernel_rfl) (by kernel_rfl) (by kernel_rfl) (fun _ _ _ h => h) (Or.inr ⟨by rfl, rfl⟩) hHeld ?_
  try simp only [Act.put, List.getElem_toArray, List.getElem_cons_succ, List.getElem_cons_zero, List.setIfInBounds_toArray, List.set_cons_zero, List.set_cons_succ]
  refine wpAnyH_take (i := 16) (v := undef) rfl (by kernel_rfl) (by kernel_rfl) (by kernel_rfl) (fun _ _ _ h => h) (Or.inr ⟨by rfl, rfl⟩) hHeld ?_
  try simp only [Act.put, List.getElem_toArray, List.getElem_cons_succ, List.getElem_cons_zero, List.setIfInBounds_toArray, List.set_cons_zero, List.set_cons_succ]
  refine wpAnyH_take (i := 17) (v := undef) rfl (by kernel_rfl) (by kernel_rfl) (by kernel_rfl) (fun _ _ _ h => h) (Or.inr ⟨by rfl, rfl⟩) hHeld ?_
  try simp only [Act.put, List.getElem_toArray, List.getElem_cons_succ, List.getElem_cons_zero, List.setIfInBounds_toArray, List.set_cons_zero, List.set_cons_succ]
  refine wpAnyH_take (i := 18) (v := undef) rfl (by kernel_rfl) (by kernel_rfl) (by kernel_rfl) (fun _ _ _ h => h) (Or.inr ⟨by rfl, rfl⟩) hHeld ?_
  try simp only [Act.put, List.getElem_toArray, List.getElem_cons_succ, List.getElem_cons_zero, List.setIfInBounds_toArray, List.set_cons_zero, List.set_cons_succ]
  refine wpAnyH_take (i := 19) (v := ?v6) rfl (by kernel_rfl) (by kernel_rfl) (by kernel_rfl) (fun _ _ _ h => h) (Or.inl ⟨by rfl, ?hy6⟩) hHeld ?rest6
  case hy6 =>
    intro w' hSw
    try dsimp only at hSw
    go_simp
    first | done | with_reducible rfl
  try simp only [Act.put, List.getElem_toArray, List.getElem_cons_succ, List.getElem_cons_zero, List.setIfInBounds_toArray, List.set_cons_zero, List.set_cons_succ]
  refine wpAnyH_take (i := 20) (v := ?v7) rfl (by kernel_rfl) (by kernel_rfl) (by kernel_rfl) (fun _ _ _ h => h) (Or.inl ⟨by rfl, ?hy7⟩) hHeld ?rest7
  case hy7 =>
    intro w' hSw
    try dsimp only at hSw
    go_simp
    first | done | with_reducible rfl
  try simp only [Act.put, List.getElem_toArray, List.getElem_cons_succ, List.getElem_cons_zero, List.setIfInBounds_toArray, List.set_cons_zero, List.set_cons_succ]
  refine wpAnyH_done (by kernel_rfl) ?_ _
  refine OnlyN.normal ?_
  clear hHeld
  go_wp2
  go_ret
  exact ⟨rfl, below_drew HB1.out⟩
set_option maxRecDepth 100000 in
set_option maxHeartbeats 2000000 in
theorem rcounts_out (x : Ky) (h : x.of) (hi : (l.length : Int) ≤ x.o) :
    Calls Tryd.prog 27 #[.slice A l.length cap, x.val] w fun e w' => e = .returned (.bool false) ∧ Below w.heap.size w w' := by
  have HB := Lib.hid ((Below.refl w.heap.size w).alloc (Nat.le_refl _) (.cells (kc x.k x.o x.c x.l x.r x.v) 31))
  have HK := Lib.hid (Blk.new w 31 (kc x.k x.o x.c x.l x.r x.v))
  have HF := Lib.hid h
  have d0 : decide ((0 : Int) ≤ x.o) = true := decide_eq_true (of_o h)
  have d1 : decide (x.o < (l.length : Int)) = false := decide_eq_false (by omega)
  clear h hi
  go_enter Tryd.func27, Tryd.ntmps27
  go_wp2_with (go_at_call 53; refine (rname_yes x _ HF.out).mono ?_; rintro e w1 ⟨rfl, b1⟩; have HB1 := Lib.hid (HB.out.trans (b1.mono HB.out.size)); have HK1 := Lib.hid (HK.out.keep b1); clear b1)
  refine wp_region_only (S := fun w' => w'.cell? ⟨w.heap.size, 0, none⟩ = some (.int .i64 x.k) ∧ w'.cell? ⟨w.heap.size, 1, none⟩ = some (.int .i64 x.o) ∧ w'.cell? ⟨w.heap.size, 2, none⟩ = some (.int .i64 x.c) ∧ w'.cell? ⟨w.heap.size, 3, none⟩ = some (.int .i64 x.l) ∧ w'.cell? ⟨w.heap.size, 4, none⟩ = some (.int .i64 x.r) ∧ w'.cell? ⟨w.heap.size, 5, none⟩ = some (.int .i64 x.v)) (by kernel_rfl) HK1.out.drew.six (fun hHeld => ?_)
  refine wpAnyH_take (i := 0) (v := ?v8) rfl (by kernel_rfl) (by kernel_rfl) (by kernel_rfl) (fun _ _ _ h => h) (Or.inl ⟨by rfl, ?hy8⟩) hHeld ?rest8
  case hy8 =>
    intro w' hSw
    try dsimp only at hSw
    go_simp
    first | done | with_reducible rfl
  try simp only [Act.put, List.getElem_toArray, List.getElem_cons_zero, List.setIfInBounds_toArray, List.set_cons_zero, List.set_cons_succ]
  refine wpAnyH_take (i := 1) (v := ?v9) rfl (by kernel_rfl) (by kernel_rfl) (by kernel_rfl) (fun _ _ _ h => h) (Or.inl ⟨by rfl, ?hy9⟩) hHeld ?rest9
  case hy9 =>
    intro w' hSw
    try dsimp only at hSw
    go_simp
    first | done | with_reducible rfl
  try simp only [Act.put, List.getElem_toArray, List.getElem_cons_succ, List.getElem_cons_zero, List.setIfInBounds_toArray, List.set_cons_zero, List.set_cons_succ]
  refine wpAnyH_take (i := 2) (v := ?v10) rfl (by kernel_rfl) (by kernel_rfl) (by kernel_rfl) (fun _ _ _ h => h) (Or.inl ⟨by rfl, ?hy10⟩) hHeld ?rest10
  case hy10 =>
    intro w' hSw
    try dsimp only at hSw
    go_simp
    first | done | with_reducible rfl
  try simp only [Act.put, List.getElem_toArray, List.getElem_cons_succ, List.getElem_cons_zero, List.setIfInBounds_toArray, List.set_cons_zero, List.set_cons_succ]
  refine wpAnyH_take (i := 3) (v := ?v11) rfl (by kernel_rfl) (by kernel_rfl) (by kernel_rfl) (fun _ _ _ h => h) (Or.inl ⟨by rfl, ?hy11⟩) hHeld ?rest11
  case hy11 =>
    intro w' hSw
    try dsimp only at hSw
    go_simp
    first | done | with_reducible rfl
  try simp only [Act.put, List.getElem_toArray, List.getElem_cons_succ, List.getElem_cons_zero, List.setIfInBounds_toArray, List.set_cons_zero, List.set_cons_succ]
  refine wpAnyH_take (i := 4) (v := ?v12) rfl (by kernel_rfl) (by kernel_rfl) (by kernel_rfl) (fun _ _ _ h => h) (Or.inl ⟨by rfl, ?hy12⟩) hHeld ?rest12
  case hy12 =>
    intro w' hSw
    try dsimp only at hSw
    go_simp
    first | done | with_reducible rfl
  try simp only [Act.put, List.getElem_toArray, List.getElem_cons_succ, List.getElem_cons_zero, List.setIfInBounds_toArray, List.set_cons_zero, List.set_cons_succ]
  refine wpAnyH_take (i := 5) (v := ?v13) rfl (by kernel_rfl) (by kernel_rfl) (by kernel_rfl) (fun _ _ _ h => h) (Or.inl ⟨by rfl, ?hy13⟩) hHeld ?rest13
  case hy13 =>
    intro w' hSw
    try dsimp only at hSw
    go_simp
    first | done | with_reducible rfl
  try simp only [Act.put, List.getElem_toArray, List.getElem_cons_succ, List.getElem_cons_zero, List.setIfInBounds_toArray, List.set_cons_zero, List.set_cons_succ]
  refine wpAnyH_take (i := 6) (v := ?v14) rfl (by kernel_rfl) (by kernel_rfl) (by kernel_rfl) (fun _ _ _ h => h) (Or.inl ⟨by rfl, ?hy14⟩) hHeld ?rest14
  case hy14 =>
    intro w' hSw
    try dsimp only at hSw
    go_simp
    first | done | with_reducible rfl
  try simp only [Act.put, List.getElem_toArray, List.getElem_cons_succ, List.getElem_cons_zero, List.setIfInBounds_toArray, List.set_cons_zero, List.set_cons_succ]
  refine wpAnyH_take (i := 7) (v := ?v15) rfl (by kernel_rfl) (by kernel_rfl) (by kernel_rfl) (fun _ _ _ h => h) (Or.inl ⟨by rfl, ?hy15⟩) hHeld ?rest15
  case hy15 =>
    intro w' hSw
    try dsimp only at hSw
    go_simp
    first | done | with_reducible rfl
  try simp only [Act.put, List.getElem_toArray, List.getElem_cons_succ, List.getElem_cons_zero, List.setIfInBounds_toArray, List.set_cons_zero, List.set_cons_succ]
  refine wpAnyH_take (i := 8) (v := ?v16) rfl (by kernel_rfl) (by kernel_rfl) (by kernel_rfl) (fun _ _ _ h => h) (Or.inl ⟨by rfl, ?hy16⟩) hHeld ?rest16
  case hy16 =>
    intro w' hSw
    try dsimp only at hSw
    go_simp
    first | done | with_reducible rfl
  try simp only [Act.put, List.getElem_toArray, List.getElem_cons_succ, List.getElem_cons_zero, List.setIfInBounds_toArray, List.set_cons_zero, List.set_cons_succ]
  refine wpAnyH_take (i := 9) (v := undef) rfl (by kernel_rfl) (by kernel_rfl) (by kernel_rfl) (fun _ _ _ h => h) (Or.inr ⟨by rfl, rfl⟩) hHeld ?_
  try simp only [Act.put, List.getElem_toArray, List.getElem_cons_succ, List.getElem_cons_zero, List.setIfInBounds_toArray, List.set_cons_zero, List.set_cons_succ]
  refine wpAnyH_take (i := 10) (v := undef) rfl (by kernel_rfl) (by kernel_rfl) (by kernel_rfl) (fun _ _ _ h => h) (Or.inr ⟨by rfl, rfl⟩) hHeld ?_
  try simp only [Act.put, List.getElem_toArray, List.getElem_cons_succ, List.getElem_cons_zero, List.setIfInBounds_toArray, List.set_cons_zero, List.set_cons_succ]
  refine wpAnyH_take (i := 11) (v := undef) rfl (by kernel_rfl) (by kernel_rfl) (by kernel_rfl) (fun _ _ _ h => h) (Or.inr ⟨by rfl, rfl⟩) hHeld ?_
  try simp only [Act.put, List.getElem_toArray, List.getElem_cons_succ, List.getElem_cons_zero, List.setIfInBounds_toArray, List.set_cons_zero, List.set_cons_succ]
  refine wpAnyH_take (i := 12) (v := undef) rfl (by kernel_rfl) (by kernel_rfl) (by kernel_rfl) (fun _ _ _ h => h) (Or.inr ⟨by rfl, rfl⟩) hHeld ?_
  try simp only [Act.put, List.getElem_toArray, List.getElem_cons_succ, List.getElem_cons_zero, List.setIfInBounds_toArray, List.set_cons_zero, List.set_cons_succ]
  refine wpAnyH_take (i := 13) (v := undef) rfl (by kernel_rfl) (by kernel_rfl) (by kernel_rfl) (fun _ _ _ h => h) (Or.inr ⟨by rfl, rfl⟩) hHeld ?_
  try simp only [Act.put, List.getElem_toArray, List.getElem_cons_succ, List.getElem_cons_zero, List.setIfInBounds_toArray, List.set_cons_zero, List.set_cons_succ]
  refine wpAnyH_take (i := 14) (v := undef) rfl (by kernel_rfl) (by kernel_rfl) (by kernel_rfl) (fun _ _ _ h => h) (Or.inr ⟨by rfl, rfl⟩) hHeld ?_
  try simp only [Act.put, List.getElem_toArray, List.getElem_cons_succ, List.getElem_cons_zero, List.setIfInBounds_toArray, List.set_cons_zero, List.set_cons_succ]
  refine wpAnyH_take (i := 15) (v := undef) rfl (by kernel_rfl) (by kernel_rfl) (by kernel_rfl) (fun _ _ _ h => h) (Or.inr ⟨by rfl, rfl⟩) hHeld ?_
  try simp only [Act.put, List.getElem_toArray, List.getElem_cons_succ, List.getElem_cons_zero, List.setIfInBounds_toArray, List.set_cons_zero, List.set_cons_succ]
  refine wpAnyH_take (i := 16) (v := undef) rfl (by kernel_rfl) (by kernel_rfl) (by kernel_rfl) (fun _ _ _ h => h) (Or.inr ⟨by rfl, rfl⟩) hHeld ?_
  try simp only [Act.put, List.getElem_toArray, List.getElem_cons_succ, List.getElem_cons_zero, List.setIfInBounds_toArray, List.set_cons_zero, List.set_cons_succ]
  refine wpAnyH_take (i := 17) (v := undef) rfl (by kernel_rfl) (by kernel_rfl) (by kernel_rfl) (fun _ _ _ h => h) (Or.inr ⟨by rfl, rfl⟩) hHeld ?_
  try simp only [Act.put, List.getElem_toArray, List.getElem_cons_succ, List.getElem_cons_zero, List.setIfInBounds_toArray, List.set_cons_zero, List.set_cons_succ]
  refine wpAnyH_take (i := 18) (v := undef) rfl (by kernel_rfl) (by kernel_rfl) (by kernel_rfl) (fun _ _ _ h => h) (Or.inr ⟨by rfl, rfl⟩) hHeld ?_
  try simp only [Act.put, List.getElem_toArray, List.getElem_cons_succ, List.getElem_cons_zero, List.setIfInBounds_toArray, List.set_cons_zero, List.set_cons_succ]
  refine wpAnyH_take (i := 19) (v := ?v17) rfl (by kernel_rfl) (by kernel_rfl) (by kernel_rfl) (fun _ _ _ h => h) (Or.inl ⟨by rfl, ?hy17⟩) hHeld ?rest17
  case hy17 =>
    intro w' hSw
    try dsimp only at hSw
    go_simp
    first | done | with_reducible rfl
  try simp only [Act.put, List.getElem_toArray, List.getElem_cons_succ, List.getElem_cons_zero, List.setIfInBounds_toArray, List.set_cons_zero, List.set_cons_succ]
  refine wpAnyH_take (i := 20) (v := ?v18) rfl (by kernel_rfl) (by kernel_rfl) (by kernel_rfl) (fun _ _ _ h => h) (Or.inl ⟨by rfl, ?hy18⟩) hHeld ?rest18
  case hy18 =>
    intro w' hSw
    try dsimp only at hSw
    go_simp
    first | done | with_reducible rfl
  try simp only [Act.put, List.getElem_toArray, List.getElem_cons_succ, List.getElem_cons_zero, List.setIfInBounds_toArray, List.set_cons_zero, List.set_cons_succ]
  refine wpAnyH_done (by kernel_rfl) ?_ _
  refine OnlyN.normal ?_
  clear hHeld
  go_wp2
  go_ret
  exact ⟨rfl, below_drew HB1.out⟩
set_option maxRecDepth 100000 in
set_option maxHeartbeats 2000000 in
theorem rcounts_in (x : Ky) (h : x.of) (i : Nat) (hxi : x.o = i) (hi : i < l.length) (hl : l.length ≤ 1000) (b off : Nat) (hA : A = some ⟨b, off, none⟩) (o : Oj) (hob : ObAt w b (off + i * 163) o) :
    Calls Tryd.prog 27 #[.slice A l.length cap, x.val] w fun e w' => e = .returned (.bool (x.cn o)) ∧ Below w.heap.size w w' := by
  have HB := Lib.hid ((Below.refl w.heap.size w).alloc (Nat.le_refl _) (.cells (kc x.k x.o x.c x.l x.r x.v) 31))
  have HK := Lib.hid (Blk.new w 31 (kc x.k x.o x.c x.l x.r x.v))
  have HF := Lib.hid h
  have HOB := Lib.hid hob
  subst hA
  have d0 : decide ((0 : Int) ≤ x.o) = true := decide_eq_true (by omega)
  have d1 : decide (x.o < (l.length : Int)) = true := decide_eq_true (by omega)
  have hw : IntKind.i64.wrap ((l.length : Int) - 1) = (l.length : Int) - 1 := by simp only [IntKind.wrap, IntKind.bits, IntKind.signed]; simp; omega
  have hmn : (if (l.length : Int) - 1 < x.o then (l.length : Int) - 1 else x.o) = (i : Int) := by split <;> omega
  have hil : (i : Int) < (l.length : Int) := by omega
  clear h hob hxi
  go_enter Tryd.func27, Tryd.ntmps27
  go_wp2_with (go_at_call 53; refine (rname_yes x _ HF.out).mono ?_; rintro e w1 ⟨rfl, b1⟩; have HB1 := Lib.hid (HB.out.trans (b1.mono HB.out.size)); have HK1 := Lib.hid (HK.out.keep b1); clear b1)
  have HO1 := Lib.hid (HOB.out.below HB1.out)
  refine wp_region_only (S := fun w' => w'.cell? ⟨w.heap.size, 0, none⟩ = some (.int .i64 x.k) ∧ w'.cell? ⟨w.heap.size, 1, none⟩ = some (.int .i64 x.o) ∧ w'.cell? ⟨w.heap.size, 2, none⟩ = some (.int .i64 x.c) ∧ w'.cell? ⟨w.heap.size, 3, none⟩ = some (.int .i64 x.l) ∧ w'.cell? ⟨w.heap.size, 4, none⟩ = some (.int .i64 x.r) ∧ w'.cell? ⟨w.heap.size, 5, none⟩ = some (.int .i64 x.v) ∧ ObAt w' b (off + i * 163) o) (by kernel_rfl) (six_and HK1.out.drew.six HO1.out.drew) (fun hHeld => ?_)
  refine wpAnyH_take (i := 0) (v := ?v19) rfl (by kernel_rfl) (by kernel_rfl) (by kernel_rfl) (fun _ _ _ h => h) (Or.inl ⟨by rfl, ?hy19⟩) hHeld ?rest19
  case hy19 =>
    intro w' hSw
    try dsimp only at hSw
    go_simp
    first | done | with_reducible rfl
  try simp only [Act.put, List.getElem_toArray, List.getElem_cons_zero, List.setIfInBounds_toArray, List.set_cons_zero, List.set_cons_succ]
  refine wpAnyH_take (i := 1) (v := ?v20) rfl (by kernel_rfl) (by kernel_rfl) (by kernel_rfl) (fun _ _ _ h => h) (Or.inl ⟨by rfl, ?hy20⟩) hHeld ?rest20
  case hy20 =>
    intro w' hSw
    try dsimp only at hSw
    go_simp
    first | done | with_reducible rfl
  try simp only [Act.put, List.getElem_toArray, List.getElem_cons_succ, List.getElem_cons_zero, List.setIfInBounds_toArray, List.set_cons_zero, List.set_cons_succ]
  refine wpAnyH_take (i := 2) (v := ?v21) rfl (by kernel_rfl) (by kernel_rfl) (by kernel_rfl) (fun _ _ _ h => h) (Or.inl ⟨by rfl, ?hy21⟩) hHeld ?rest21
  case hy21 =>
    intro w' hSw
    try dsimp only at hSw
    go_simp
    first | done | with_reducible rfl
  try simp only [Act.put, List.getElem_toArray, List.getElem_cons_succ, List.getElem_cons_zero, List.setIfInBounds_toArray, List.set_cons_zero, List.set_cons_succ]
  refine wpAnyH_take (i := 3) (v := ?v22) rfl (by kernel_rfl) (by kernel_rfl) (by kernel_rfl) (fun _ _ _ h => h) (Or.inl ⟨by rfl, ?hy22⟩) hHeld ?rest22
  case hy22 =>
    intro w' hSw
    try dsimp only at hSw
    go_simp
    first | done | with_reducible rfl
  try simp only [Act.put, List.getElem_toArray, List.getElem_cons_succ, List.getElem_cons_zero, List.setIfInBounds_toArray, List.set_cons_zero, List.set_cons_succ]
  refine wpAnyH_take (i := 4) (v := ?v23) rfl (by kernel_rfl) (by kernel_rfl) (by kernel_rfl) (fun _ _ _ h => h) (Or.inl ⟨by rfl, ?hy23⟩) hHeld ?rest23
  case hy23 =>
    intro w' hSw
    try dsimp only at hSw
    go_simp
    first | done | with_reducible rfl
  try simp only [Act.put, List.getElem_toArray, List.getElem_cons_succ, List.getElem_cons_zero, List.setIfInBounds_toArray, List.set_cons_zero, List.set_cons_succ]
  refine wpAnyH_take (i := 5) (v := ?v24) rfl (by kernel_rfl) (by kernel_rfl) (by kernel_rfl) (fun _ _ _ h => h) (Or.inl ⟨by rfl, ?hy24⟩) hHeld ?rest24
  case hy24 =>
    intro w' hSw
    try dsimp only at hSw
    go_simp
    first | done | with_reducible rfl
  try simp only [Act.put, List.getElem_toArray, List.getElem_cons_succ, List.getElem_cons_zero, List.setIfInBounds_toArray, List.set_cons_zero, List.set_cons_succ]
  refine wpAnyH_take (i := 6) (v := ?v25) rfl (by kernel_rfl) (by kernel_rfl) (by kernel_rfl) (fun _ _ _ h => h) (Or.inl ⟨by rfl, ?hy25⟩) hHeld ?rest25
  case hy25 =>
    intro w' hSw
    try dsimp only at hSw
    go_simp
    first | done | with_reducible rfl
  try simp only [Act.put, List.getElem_toArray, List.getElem_cons_succ, List.getElem_cons_zero, List.setIfInBounds_toArray, List.set_cons_zero, List.set_cons_succ]
  refine wpAnyH_take (i := 7) (v := ?v26) rfl (by kernel_rfl) (by kernel_rfl) (by kernel_rfl) (fun _ _ _ h => h) (Or.inl ⟨by rfl, ?hy26⟩) hHeld ?rest26
  case hy26 =>
    intro w' hSw
    try dsimp only at hSw
    go_simp
    first | done | with_reducible rfl
  try simp only [Act.put, List.getElem_toArray, List.getElem_cons_succ, List.getElem_cons_zero, List.setIfInBounds_toArray, List.set_cons_zero, List.set_cons_succ]
  refine wpAnyH_take (i := 8) (v := ?v27) rfl (by kernel_rfl) (by kernel_rfl) (by kernel_rfl) (fun _ _ _ h => h) (Or.inl ⟨by rfl, ?hy27⟩) hHeld ?rest27
  case hy27 =>
    intro w' hSw
    try dsimp only at hSw
    go_simp
    first | done | with_reducible rfl
  try simp only [Act.put, List.getElem_toArray, List.getElem_cons_succ, List.getElem_cons_zero, List.setIfInBounds_toArray, List.set_cons_zero, List.set_cons_succ]
  refine wpAnyH_take (i := 9) (v := ?v28) rfl (by kernel_rfl) (by kernel_rfl) (by kernel_rfl) (fun _ _ _ h => h) (Or.inl ⟨by rfl, ?hy28⟩) hHeld ?rest28
  case hy28 =>
    intro w' hSw
    try dsimp only at hSw
    go_simp
    first | done | with_reducible rfl
  try simp only [Act.put, List.getElem_toArray, List.getElem_cons_succ, List.getElem_cons_zero, List.setIfInBounds_toArray, List.set_cons_zero, List.set_cons_succ]
  refine wpAnyH_take (i := 10) (v := ?v29) rfl (by kernel_rfl) (by kernel_rfl) (by kernel_rfl) (fun _ _ _ h => h) (Or.inl ⟨by rfl, ?hy29⟩) hHeld ?rest29
  case hy29 =>
    intro w' hSw
    try dsimp only at hSw
    go_simp
    first | done | with_reducible rfl
  try simp only [Act.put, List.getElem_toArray, List.getElem_cons_succ, List.getElem_cons_zero, List.setIfInBounds_toArray, List.set_cons_zero, List.set_cons_succ]
  refine wpAnyH_take (i := 11) (v := ?v30) rfl (by kernel_rfl) (by kernel_rfl) (by kernel_rfl) (fun _ _ _ h => h) (Or.inl ⟨by rfl, ?hy30⟩) hHeld ?rest30
  case hy30 =>
    intro w' hSw
    try dsimp only at hSw
    go_simp
    first | done | with_reducible rfl
  try simp only [Act.put, List.getElem_toArray, List.getElem_cons_succ, List.getElem_cons_zero, List.setIfInBounds_toArray, List.set_cons_zero, List.set_cons_succ]
  refine wpAnyH_take (i := 12) (v := ?v31) rfl (by kernel_rfl) (by kernel_rfl) (by kernel_rfl) (fun _ _ _ h => h) (Or.inl ⟨by rfl, ?hy31⟩) hHeld ?rest31
  case hy31 =>
    intro w' hSw
    try dsimp only at hSw
    go_simp
    first | done | with_reducible rfl
  try simp only [Act.put, List.getElem_toArray, List.getElem_cons_succ, List.getElem_cons_zero, List.setIfInBounds_toArray, List.set_cons_zero, List.set_cons_succ]
  refine wpAnyH_take (i := 13) (v := ?v32) rfl (by kernel_rfl) (by kernel_rfl) (by kernel_rfl) (fun _ _ _ h => h) (Or.inl ⟨by rfl, ?hy32⟩) hHeld ?rest32
  case hy32 =>
    intro w' hSw
    try dsimp only at hSw
    go_simp
    first | done | with_reducible rfl
  try simp only [Act.put, List.getElem_toArray, List.getElem_cons_succ, List.getElem_cons_zero, List.setIfInBounds_toArray, List.set_cons_zero, List.set_cons_succ]
  refine wpAnyH_take (i := 14) (v := ?v33) rfl (by kernel_rfl) (by kernel_rfl) (by kernel_rfl) (fun _ _ _ h => h) (Or.inl ⟨by rfl, ?hy33⟩) hHeld ?rest33
  case hy33 =>
    intro w' hSw
    try dsimp only at hSw
    go_simp
    first | done | with_reducible rfl
  try simp only [Act.put, List.getElem_toArray, List.getElem_cons_succ, List.getElem_cons_zero, List.setIfInBounds_toArray, List.set_cons_zero, List.set_cons_succ]
  refine wpAnyH_take (i := 15) (v := ?v34) rfl (by kernel_rfl) (by kernel_rfl) (by kernel_rfl) (fun _ _ _ h => h) (Or.inl ⟨by rfl, ?hy34⟩) hHeld ?rest34
  case hy34 =>
    intro w' hSw
    try dsimp only at hSw
    go_simp
    first | done | with_reducible rfl
  try simp only [Act.put, List.getElem_toArray, List.getElem_cons_succ, List.getElem_cons_zero, List.setIfInBounds_toArray, List.set_cons_zero, List.set_cons_succ]
  refine wpAnyH_take (i := 16) (v := ?v35) rfl (by kernel_rfl) (by kernel_rfl) (by kernel_rfl) (fun _ _ _ h => h) (Or.inl ⟨by rfl, ?hy35⟩) hHeld ?rest35
  case hy35 =>
    intro w' hSw
    try dsimp only at hSw
    go_simp
    first | done | with_reducible rfl
  try simp only [Act.put, List.getElem_toArray, List.getElem_cons_succ, List.getElem_cons_zero, List.setIfInBounds_toArray, List.set_cons_zero, List.set_cons_succ]
  refine wpAnyH_take (i := 17) rfl (by kernel_rfl) (by kernel_rfl) (by kernel_rfl) (fun _ _ _ h => h) (y_ob (by rfl) (.tmp 24) (by rfl) b (off + i * 163) (by rfl) o (fun _ h => h.2.2.2.2.2.2)) hHeld ?_
  try simp only [Act.put, List.getElem_toArray, List.getElem_cons_succ, List.getElem_cons_zero, List.setIfInBounds_toArray, List.set_cons_zero, List.set_cons_succ]
  refine wpAnyH_ready (rs := [18]) (by kernel_rfl) (by simp) ?_
  refine AllReadyH.cons (by rfl) (fun K hK => ?_) AllReadyH.nil
  go_simp
  refine (rcn_any x o _).mono ?_
  rintro e y1 ⟨rfl, b1⟩
  have HB2 := Lib.hid ((below_drew HB1.out).trans (b1.mono HB1.out.size))
  have HK2 := Lib.hid (HK1.out.drew.keep b1)
  have HO2 := Lib.hid (HO1.out.drew.below b1)
  clear b1 hHeld
  go_wp2_with fail
  refine hK.out _ _ (six_and HK2.out.six HO2.out) (fun hHeld => ?_)
  clear hK K
  try simp only [Act.put, List.getElem_toArray, List.getElem_cons_succ, List.getElem_cons_zero, List.setIfInBounds_toArray, List.set_cons_zero, List.set_cons_succ]
  refine wpAnyH_take (i := 19) (v := ?v36) rfl (by kernel_rfl) (by kernel_rfl) (by kernel_rfl) (fun _ _ _ h => h) (Or.inl ⟨by rfl, ?hy36⟩) hHeld ?rest36
  case hy36 =>
    intro w' hSw
    try dsimp only at hSw
    go_simp
    first | done | with_reducible rfl
  try simp only [Act.put, List.getElem_toArray, List.getElem_cons_succ, List.getElem_cons_zero, List.setIfInBounds_toArray, List.set_cons_zero, List.set_cons_succ]
  refine wpAnyH_take (i := 20) (v := ?v37) rfl (by kernel_rfl) (by kernel_rfl) (by kernel_rfl) (fun _ _ _ h => h) (Or.inl ⟨by rfl, ?hy37⟩) hHeld ?rest37
  case hy37 =>
    intro w' hSw
    try dsimp only at hSw
    go_simp
    first | done | with_reducible rfl
  try simp only [Act.put, List.getElem_toArray, List.getElem_cons_succ, List.getElem_cons_zero, List.setIfInBounds_toArray, List.set_cons_zero, List.set_cons_succ]
  refine wpAnyH_done (by kernel_rfl) ?_ _
  refine OnlyN.normal ?_
  clear hHeld
  go_wp2
  go_ret
  exact ⟨rfl, HB2.out⟩
set_option maxRecDepth 8000 in
theorem rchk_no2 (x : Ky) (h : ¬ x.ok) (w : World) : Calls Tryd.prog 52 #[x.val] w fun e w' => e = .returned (.int .i64 2) ∧ Below w.heap.size w w' := by
  have := rchk_any x w
  rwa [Ky.chk_no h] at this
set_option maxRecDepth 8000 in
theorem rcounts_any (hr : RdO w A l) (hl : l.length ≤ 1000) (x : Ky) : Calls Tryd.prog 27 #[.slice A l.length cap, x.val] w fun e w' => e = .returned (.bool (named l x).isSome) ∧ Below w.heap.size w w' := by
  by_cases hf : x.of
  · rw [named_is hf]
    have h0 := of_o hf
    obtain ⟨n, hn'⟩ := Int.eq_ofNat_of_zero_le h0
    by_cases hlt : n < l.length
    · have e1 : l[x.o.toNat]? = some l[n] := by rw [hn', Int.toNat_natCast, List.getElem?_eq_getElem hlt]
      obtain ⟨b, off, e, ho⟩ := hr n hlt
      have := rcounts_in (cap := cap) x hf n hn' hlt hl b off e l[n] ho
      rw [e1, Option.filter_some]
      cases hc : x.cn l[n] with
      | true => rw [hc] at this; exact this
      | false => rw [hc] at this; exact this
    · have e1 : l[x.o.toNat]? = none := by rw [hn', Int.toNat_natCast]; exact List.getElem?_eq_none (by omega)
      rw [e1]
      exact rcounts_out x hf (by omega)
  · rw [named_not hf]
    exact rcounts_not x hf
end
end Go.Proofs.YtfckdbennjkgoaaDoor
namespace Go.Proofs.YtfckdbennjkgoaaDoor
open Go.RowKit
section
variable {w : World} {A : Option Addr} {l : List Oj} {cap : Nat}
set_option maxRecDepth 100000 in
set_option maxHeartbeats 2000000 in
theorem rprep_bad (h0 : 0 < l.length) (x : Ky) (h : ¬ x.ok) :
    Calls Tryd.prog 28 #[.slice A l.length cap, x.val] w fun e w' => e = .returned zk.val ∧ Below w.heap.size w w' := by
  have HB0 := Lib.hid (((Below.refl w.heap.size w).alloc (Nat.le_refl _) (.cells (kc x.k x.o x.c x.l x.r x.v) 31)).alloc (by simp) (.cells (kc 0 0 0 0 0 0) 31))
  have HK0 := Lib.hid ((Blk.new w 31 (kc x.k x.o x.c x.l x.r x.v)).alloc (.cells (kc 0 0 0 0 0 0) 31))
  have HZ0 := Lib.hid (show Blk ((w.alloc (.cells (kc x.k x.o x.c x.l x.r x.v) 31)).alloc (.cells (kc 0 0 0 0 0 0) 31)) (w.heap.size + 1) 31 (kc 0 0 0 0 0 0) from by have := Blk.new (w.alloc (.cells (kc x.k x.o x.c x.l x.r x.v) 31)) 31 (kc 0 0 0 0 0 0); simpa using this)
  have dl : ((l.length : Int) == 0) = false := by simp; intro e; rw [e] at h0; exact absurd h0 (by decide)
  have hl0 : l ≠ [] := by rintro rfl; exact absurd h0 (by decide)
  have HO := Lib.hid h
  clear h
  obtain ⟨c0, c1, c2, c3, c4, c5⟩ := HK0.out.six
  go_enter Tryd.func28, Tryd.ntmps28
  go_wp2_with (go_at_call 52; refine (rchk_no2 x HO.out _).mono ?_; rintro e w1 ⟨rfl, b1⟩; have HB1 := Lib.hid (HB0.out.trans (b1.mono HB0.out.size)); have HZ1 := Lib.hid (HZ0.out.keep b1); clear b1 c0 c1 c2 c3 c4 c5; obtain ⟨c0, c1, c2, c3, c4, c5⟩ := HZ1.out.six; have f0 := HZ1.out.frozen 0; have f1 := HZ1.out.frozen 1; have f2 := HZ1.out.frozen 2; have f3 := HZ1.out.frozen 3; have f4 := HZ1.out.frozen 4; have f5 := HZ1.out.frozen 5)
  exact bodyPost_ret (results_key rfl _ _ (w.heap.size + 1) zk rfl ((((((HZ1.out.set_ 0 (.int .i64 0)).set_ 1 (.int .i64 0)).set_ 2 (.int .i64 0)).set_ 3 (.int .i64 0)).set_ 4 (.int .i64 0)).set_ 5 (.int .i64 0))) rfl ⟨rfl, below_set6 HB1.out (by omega) _ _ _ _ _ _⟩
set_option maxRecDepth 100000 in
set_option maxHeartbeats 2000000 in
theorem rprep_not (hr : RdO w A l) (hl : l.length ≤ 1000) (h0 : 0 < l.length) (x : Ky) (h : x.ok) (hf : ¬ x.of) :
    Calls Tryd.prog 28 #[.slice A l.length cap, x.val] w fun e w' => e = .returned x.val ∧ Below w.heap.size w w' := by
  have HB0 := Lib.hid (((Below.refl w.heap.size w).alloc (Nat.le_refl _) (.cells (kc x.k x.o x.c x.l x.r x.v) 31)).alloc (by simp) (.cells (kc 0 0 0 0 0 0) 31))
  have HR0 := Lib.hid ((hr.alloc (.cells (kc x.k x.o x.c x.l x.r x.v) 31)).alloc (.cells (kc 0 0 0 0 0 0) 31))
  have HL := Lib.hid hl
  have HK0 := Lib.hid ((Blk.new w 31 (kc x.k x.o x.c x.l x.r x.v)).alloc (.cells (kc 0 0 0 0 0 0) 31))
  have HZ0 := Lib.hid (show Blk ((w.alloc (.cells (kc x.k x.o x.c x.l x.r x.v) 31)).alloc (.cells (kc 0 0 0 0 0 0) 31)) (w.heap.size + 1) 31 (kc 0 0 0 0 0 0) from by have := Blk.new (w.alloc (.cells (kc x.k x.o x.c x.l x.r x.v) 31)) 31 (kc 0 0 0 0 0 0); simpa using this)
  have dl : ((l.length : Int) == 0) = false := by simp; intro e; rw [e] at h0; exact absurd h0 (by decide)
  have hl0 : l ≠ [] := by rintro rfl; exact absurd h0 (by decide)
  have HO := Lib.hid h
  have HF := Lib.hid hf
  have dn : decide ((0 : Int) ≤ -1) = false := by decide
  clear h hf
  obtain ⟨c0, c1, c2, c3, c4, c5⟩ := HK0.out.six
  clear hr
  go_enter Tryd.func28, Tryd.ntmps28
  go_wp2_with (first
    | (go_at_call 52; refine (Ky.chk_yes HO.out ▸ rchk_any x _).mono ?_; rintro e w1 ⟨rfl, b1⟩; have HB1 := Lib.hid (HB0.out.trans (b1.mono HB0.out.size)); have HR1 := Lib.hid (HR0.out.below b1); have HK1 := Lib.hid (HK0.out.keep b1); have HZ1 := Lib.hid (HZ0.out.keep b1); clear b1 c0 c1 c2 c3 c4 c5; obtain ⟨c0, c1, c2, c3, c4, c5⟩ := HK1.out.six)
    | (go_at_call 53; refine (rname_no x _ HF.out).mono ?_; rintro e w2 ⟨rfl, b2⟩; have HB2 := Lib.hid (HB1.out.trans (b2.mono HB1.out.size)); have HR2 := Lib.hid (HR1.out.below b2); have HK2 := Lib.hid (HK1.out.keep b2); have HZ2 := Lib.hid (HZ1.out.keep b2); clear b2 c0 c1 c2 c3 c4 c5; obtain ⟨c0, c1, c2, c3, c4, c5⟩ := HK2.out.six)
    | (refine wpList_store_ky (y := zk) HZ2.out rfl (.tmp 4) (.tmp 25) rfl (by rfl) x (by rfl) ?_))
  exact bodyPost_ret (results_key rfl _ _ (w.heap.size + 1) x rfl (HZ2.out.setRow _)) rfl ⟨rfl, below_setRow HB2.out (by omega) _⟩
set_option maxRecDepth 100000 in
set_option maxHeartbeats 2000000 in
theorem rprep_yes (hr : RdO w A l) (hl : l.length ≤ 1000) (h0 : 0 < l.length) (x : Ky) (hf : x.of) (hn : (named l x).isSome = true) :
    Calls Tryd.prog 28 #[.slice A l.length cap, x.val] w fun e w' => e = .returned x.val ∧ Below w.heap.size w w' := by
  have HB0 := Lib.hid (((Below.refl w.heap.size w).alloc (Nat.le_refl _) (.cells (kc x.k x.o x.c x.l x.r x.v) 31)).alloc (by simp) (.cells (kc 0 0 0 0 0 0) 31))
  have HR0 := Lib.hid ((hr.alloc (.cells (kc x.k x.o x.c x.l x.r x.v) 31)).alloc (.cells (kc 0 0 0 0 0 0) 31))
  have HL := Lib.hid hl
  have HK0 := Lib.hid ((Blk.new w 31 (kc x.k x.o x.c x.l x.r x.v)).alloc (.cells (kc 0 0 0 0 0 0) 31))
  have HZ0 := Lib.hid (show Blk ((w.alloc (.cells (kc x.k x.o x.c x.l x.r x.v) 31)).alloc (.cells (kc 0 0 0 0 0 0) 31)) (w.heap.size + 1) 31 (kc 0 0 0 0 0 0) from by have := Blk.new (w.alloc (.cells (kc x.k x.o x.c x.l x.r x.v) 31)) 31 (kc 0 0 0 0 0 0); simpa using this)
  have dl : ((l.length : Int) == 0) = false := by simp; intro e; rw [e] at h0; exact absurd h0 (by decide)
  have hl0 : l ≠ [] := by rintro rfl; exact absurd h0 (by decide)
  have HO := Lib.hid hf.1
  have HF := Lib.hid hf
  have HN := Lib.hid hn
  have dn : decide ((0 : Int) ≤ x.o) = true := decide_eq_true (of_o hf)
  clear hf hn
  obtain ⟨c0, c1, c2, c3, c4, c5⟩ := HK0.out.six
  clear hr
  go_enter Tryd.func28, Tryd.ntmps28
  go_wp2_with (first
    | (go_at_call 52; refine (Ky.chk_yes HO.out ▸ rchk_any x _).mono ?_; rintro e w1 ⟨rfl, b1⟩; have HB1 := Lib.hid (HB0.out.trans (b1.mono HB0.out.size)); have HR1 := Lib.hid (HR0.out.below b1); have HK1 := Lib.hid (HK0.out.keep b1); have HZ1 := Lib.hid (HZ0.out.keep b1); clear b1 c0 c1 c2 c3 c4 c5; obtain ⟨c0, c1, c2, c3, c4, c5⟩ := HK1.out.six)
    | (go_at_call 53; refine (rname_yes x _ HF.out).mono ?_; rintro e w2 ⟨rfl, b2⟩; have HB2 := Lib.hid (HB1.out.trans (b2.mono HB1.out.size)); have HR2 := Lib.hid (HR1.out.below b2); have HK2 := Lib.hid (HK1.out.keep b2); have HZ2 := Lib.hid (HZ1.out.keep b2); clear b2 c0 c1 c2 c3 c4 c5; obtain ⟨c0, c1, c2, c3, c4, c5⟩ := HK2.out.six)
    | (go_at_call 27; refine (HN.out ▸ rcounts_any HR2.out HL.out x).mono ?_; rintro e w3 ⟨rfl, b3⟩; have HB3 := Lib.hid (HB2.out.trans (b3.mono HB2.out.size)); have HR3 := Lib.hid (HR2.out.below b3); have HK3 := Lib.hid (HK2.out.keep b3); have HZ3 := Lib.hid (HZ2.out.keep b3); clear b3 c0 c1 c2 c3 c4 c5; obtain ⟨c0, c1, c2, c3, c4, c5⟩ := HK3.out.six)
    | (refine wpList_store_ky (y := zk) HZ3.out rfl (.tmp 4) (.tmp 25) rfl (by rfl) x (by rfl) ?_))
  exact bodyPost_ret (results_key rfl _ _ (w.heap.size + 1) x rfl (HZ3.out.setRow _)) rfl ⟨rfl, below_setRow HB3.out (by omega) _⟩
set_option maxRecDepth 100000 in
set_option maxHeartbeats 2000000 in
theorem rprep_no (hr : RdO w A l) (hl : l.length ≤ 1000) (h0 : 0 < l.length) (x : Ky) (hf : x.of) (hn : (named l x).isSome = false) :
    Calls Tryd.prog 28 #[.slice A l.length cap, x.val] w fun e w' => e = .returned zk.val ∧ Below w.heap.size w w' := by
  have HB0 := Lib.hid (((Below.refl w.heap.size w).alloc (Nat.le_refl _) (.cells (kc x.k x.o x.c x.l x.r x.v) 31)).alloc (by simp) (.cells (kc 0 0 0 0 0 0) 31))
  have HR0 := Lib.hid ((hr.alloc (.cells (kc x.k x.o x.c x.l x.r x.v) 31)).alloc (.cells (kc 0 0 0 0 0 0) 31))
  have HL := Lib.hid hl
  have HK0 := Lib.hid ((Blk.new w 31 (kc x.k x.o x.c x.l x.r x.v)).alloc (.cells (kc 0 0 0 0 0 0) 31))
  have HZ0 := Lib.hid (show Blk ((w.alloc (.cells (kc x.k x.o x.c x.l x.r x.v) 31)).alloc (.cells (kc 0 0 0 0 0 0) 31)) (w.heap.size + 1) 31 (kc 0 0 0 0 0 0) from by have := Blk.new (w.alloc (.cells (kc x.k x.o x.c x.l x.r x.v) 31)) 31 (kc 0 0 0 0 0 0); simpa using this)
  have dl : ((l.length : Int) == 0) = false := by simp; intro e; rw [e] at h0; exact absurd h0 (by decide)
  have hl0 : l ≠ [] := by rintro rfl; exact absurd h0 (by decide)
  have HO := Lib.hid hf.1
  have HF := Lib.hid hf
  have HN := Lib.hid hn
  have dn : decide ((0 : Int) ≤ x.o) = true := decide_eq_true (of_o hf)
  clear hf hn
  obtain ⟨c0, c1, c2, c3, c4, c5⟩ := HK0.out.six
  clear hr
  go_enter Tryd.func28, Tryd.ntmps28
  go_wp2_with (first
    | (go_at_call 52; refine (Ky.chk_yes HO.out ▸ rchk_any x _).mono ?_; rintro e w1 ⟨rfl, b1⟩; have HB1 := Lib.hid (HB0.out.trans (b1.mono HB0.out.size)); have HR1 := Lib.hid (HR0.out.below b1); have HK1 := Lib.hid (HK0.out.keep b1); have HZ1 := Lib.hid (HZ0.out.keep b1); clear b1 c0 c1 c2 c3 c4 c5; obtain ⟨c0, c1, c2, c3, c4, c5⟩ := HK1.out.six)
    | (go_at_call 53; refine (rname_yes x _ HF.out).mono ?_; rintro e w2 ⟨rfl, b2⟩; have HB2 := Lib.hid (HB1.out.trans (b2.mono HB1.out.size)); have HR2 := Lib.hid (HR1.out.below b2); have HK2 := Lib.hid (HK1.out.keep b2); have HZ2 := Lib.hid (HZ1.out.keep b2); clear b2 c0 c1 c2 c3 c4 c5; obtain ⟨c0, c1, c2, c3, c4, c5⟩ := HK2.out.six)
    | (go_at_call 27; refine (HN.out ▸ rcounts_any HR2.out HL.out x).mono ?_; rintro e w3 ⟨rfl, b3⟩; have HB3 := Lib.hid (HB2.out.trans (b3.mono HB2.out.size)); have HR3 := Lib.hid (HR2.out.below b3); have HK3 := Lib.hid (HK2.out.keep b3); have HZ3 := Lib.hid (HZ2.out.keep b3); clear b3 c0 c1 c2 c3 c4 c5; obtain ⟨c0, c1, c2, c3, c4, c5⟩ := HK3.out.six)
    | (refine wpList_store_ky (y := zk) HZ3.out rfl (.tmp 4) (.tmp 24) rfl (by rfl) zk (by rfl) ?_))
  exact bodyPost_ret (results_key rfl _ _ (w.heap.size + 1) zk rfl (HZ3.out.setRow _)) rfl ⟨rfl, below_setRow HB3.out (by omega) _⟩
set_option maxRecDepth 8000 in
theorem cn_oz {x : Ky} : x.cn oz = true ↔ x.ok ∧ ¬ x.of := by
  unfold Ky.cn
  constructor
  · intro h
    have hh : x.ok ∧ (x.of → x.want = 0 ∧ x.c = 0 ∧ (x.k ≠ 7 ∨ x.l = 0)) := by
      unfold Ky.cnt at h
      have h' := @of_decide_eq_true _ (Classical.propDecidable _) h
      exact h'
    refine ⟨hh.1, fun hf => ?_⟩
    have h1 := (hh.2 hf).1
    unfold Ky.want at h1
    rw [if_pos hf] at h1
    split at h1 <;> omega
  · rintro ⟨h1, h2⟩
    exact cnt_yes ⟨h1, fun h => absurd h h2⟩
set_option maxRecDepth 8000 in
theorem rprep_any (hr : RdO w A l) (hl : l.length ≤ 1000) (h0 : 0 < l.length) (x : Ky) :
    Calls Tryd.prog 28 #[.slice A l.length cap, x.val] w fun e w' => e = .returned (prepd l x).val ∧ Below w.heap.size w w' := by
  unfold prepd
  by_cases ho : x.ok
  · by_cases hf : x.of
    · have hz : x.cn oz = false := by
        cases h : x.cn oz with
        | false => rfl
        | true => exact absurd hf (cn_oz.1 h).2
      cases hn : (named l x).isSome with
      | true => exact rprep_yes hr hl h0 x hf hn
      | false => rw [hz]; exact rprep_no hr hl h0 x hf hn
    · rw [cn_oz.2 ⟨ho, hf⟩, Bool.or_true]
      exact rprep_not hr hl h0 x ho hf
  · have hz : x.cn oz = false := by
      cases h : x.cn oz with
      | false => rfl
      | true => exact absurd (cn_oz.1 h).1 ho
    rw [named_not (fun h => ho h.1), hz]
    exact rprep_bad h0 x ho
set_option maxRecDepth 8000 in
theorem prepd_idem (os : List Oj) (x : Ky) : prepd os (prepd os x) = prepd os x := by
  by_cases h : ((named os x).isSome || x.cn oz) = true
  · have e : prepd os x = x := if_pos h
    rw [e, e]
  · have e : prepd os x = zk := if_neg h
    rw [e]
    unfold prepd
    split <;> rfl
end
end Go.Proofs.YtfckdbennjkgoaaDoor
namespace Go.Proofs.YtfckdbennjkgoaaDoor
open Go.ChangeShapes Go.WideShapes Go.ChangeAt Go.RowKit
/-- chunks of a list, each known, are the list -/
theorem keys_of_chunks : ∀ (n : Nat) (cs : List Value), cs.length = n * 6 → (∀ i, i < n → ∃ y : Ky, (cs.drop (i * 6)).take 6 = kl y) → ∃ l : List Ky, l.length = n ∧ cs = kcs l
  | 0, cs, hl, _ => ⟨[], rfl, by cases cs with | nil => rfl | cons => simp at hl⟩
  | n + 1, cs, hl, h => by
    obtain ⟨y, hy⟩ := h 0 (by omega)
    obtain ⟨l, hll, hlc⟩ := keys_of_chunks n (cs.drop 6) (by rw [List.length_drop]; omega) (fun i hi => by
      obtain ⟨z, hz⟩ := h (i + 1) (by omega)
      exact ⟨z, by rw [List.drop_drop, show 6 + i * 6 = (i + 1) * 6 by omega]; exact hz⟩)
    refine ⟨y :: l, by simp [hll], ?_⟩
    rw [Nat.zero_mul, List.drop_zero] at hy
    rw [kcs, ← hy, ← hlc, List.take_append_drop]
set_option maxRecDepth 8000 in
theorem bytes_of_cells : ∀ (cs : List Value), (∀ i (h : i < cs.length), ∃ b : UInt8, cs[i] = .int .u8 (b.toNat : Int)) → ∃ l : List UInt8, cs = bv l
  | [], _ => ⟨[], rfl⟩
  | c :: cs, h => by
    obtain ⟨b, hb⟩ := h 0 (by simp)
    obtain ⟨l, rfl⟩ := bytes_of_cells cs (fun i hi => h (i + 1) (by simpa using hi))
    exact ⟨b :: l, by simp only [List.getElem_cons_zero] at hb; rw [hb]; rfl⟩
section
variable {H : Type} {enc : TypeId × Value → H} {W : World} {base : Nat} {spare : Nat → Bool} {held : Bool} {fuel : Nat}
set_option maxRecDepth 8000 in
theorem cellsOf30 : Tryd.prog.cellsOf 31 = 6 := by kernel_rfl
set_option maxRecDepth 8000 in
theorem cellsOf31 : Tryd.prog.cellsOf 49 = 96 := by kernel_rfl
set_option maxRecDepth 8000 in
theorem cellsOf32 : Tryd.prog.cellsOf 50 = 64 := by kernel_rfl
set_option maxRecDepth 8000 in
theorem cellsOf34 : Tryd.prog.cellsOf 52 = 163 := by kernel_rfl
set_option maxRecDepth 8000 in
theorem slots_cells {cs : List Value} {x : DataW H × List MemPlace} (h : DataW.trod enc Tryd.prog W base spare held fuel 49 cs = some x) : ∃ l : List Ky, l.length = 16 ∧ cs = kcs l := by
  obtain ⟨xs, n, _, _, hl, hn, hel⟩ := DataW.trod_array Tryd.underlying49 h
  rw [cellsOf31] at hl
  rw [cellsOf30] at hel
  refine keys_of_chunks 16 cs hl (fun i hi => ?_)
  have := hel i hi
  rw [List.getElem?_eq_getElem (by omega)] at this
  obtain ⟨y, hy⟩ := key_cells this
  exact ⟨y, hy⟩
set_option maxRecDepth 8000 in
theorem bytes_cells {cs : List Value} {x : DataW H × List MemPlace} (h : DataW.trod enc Tryd.prog W base spare held fuel 50 cs = some x) : ∃ l : List UInt8, l.length = 64 ∧ cs = bv l := by
  obtain ⟨xs, n, _, _, hl, hn, hel⟩ := DataW.trod_array Tryd.underlying50 h
  have c1 : Tryd.prog.cellsOf 5 = 1 := by kernel_rfl
  rw [cellsOf32] at hl
  rw [c1] at hel
  obtain ⟨l, rfl⟩ := bytes_of_cells cs (fun i hi => by
    have := hel i (by omega)
    rw [List.getElem?_eq_getElem (by omega), Nat.mul_one, List.drop_eq_getElem_cons hi, List.take_succ_cons, List.take_zero] at this
    obtain ⟨q, hq, _, hw⟩ := DataW.trod_int Tryd.underlying5 this
    simp only [List.cons.injEq, and_true] at hq
    have h1 : IntKind.u8.min = 0 := rfl
    have h2 : IntKind.u8.max = 255 := rfl
    simp only [Lit.wf, Bool.and_eq_true, decide_eq_true_eq] at hw
    exact ⟨UInt8.ofNat q.toNat, by rw [hq]; congr 1; simp; omega⟩)
  exact ⟨l, by rw [← bv_length, hl], rfl⟩
set_option maxRecDepth 100000 in
theorem object_cells {cs : List Value} {x : DataW H × List MemPlace} (h : DataW.trod enc Tryd.prog W base spare held fuel 52 cs = some x) : ∃ o : Oj, cs = o.cells := by
  obtain ⟨xs, n, _, _, hl, hn, hel⟩ := DataW.trod_struct Tryd.underlying52 h
  rw [cellsOf34] at hl
  have c1 : ∀ t, t = 48 ∨ t = 2 → Tryd.prog.cellsOf t = 1 := by
    intro t ht
    rcases ht with rfl | rfl <;> kernel_rfl
  have g : ∀ (off : Nat) (t : TypeId) (x : DataW H × List MemPlace), (t = 48 ∨ t = 2) → off < 163 → DataW.trod enc Tryd.prog W base spare held n t ((cs.drop off).take (Tryd.prog.cellsOf t)) = some x → ∃ q : Int, cs[off]? = some (.int .i64 q) := by
    intro off t x ht hoff hx
    rw [c1 t ht, List.drop_eq_getElem_cons (by omega)] at hx
    simp only [List.take_succ_cons, List.take_zero] at hx
    have hu : Tryd.prog.underlying t = some (.int .i64) := by
      rcases ht with rfl | rfl
      · exact Tryd.underlying48
      · exact Tryd.underlying2
    obtain ⟨q, hq, _, _⟩ := DataW.trod_int hu hx
    simp only [List.cons.injEq, and_true] at hq
    exact ⟨q, by rw [List.getElem?_eq_getElem (by omega), hq]⟩
  match xs, hn with
  | [y0, y1, y2, y3, y4], _ =>
    obtain ⟨q0, e0⟩ := g 0 48 y0 (.inl rfl) (by decide) (hel 0 _ rfl)
    obtain ⟨q1, e1⟩ := g 1 2 y1 (.inr rfl) (by decide) (hel 1 _ rfl)
    obtain ⟨q2, e2⟩ := g 2 2 y2 (.inr rfl) (by decide) (hel 2 _ rfl)
    have h3 : DataW.trod enc Tryd.prog W base spare held n 49 ((cs.drop 3).take (Tryd.prog.cellsOf 49)) = some y3 := hel 3 _ rfl
    have h4 : DataW.trod enc Tryd.prog W base spare held n 50 ((cs.drop 99).take (Tryd.prog.cellsOf 50)) = some y4 := hel 4 _ rfl
    obtain ⟨s, hs, es⟩ := slots_cells h3
    obtain ⟨b, hb, eb⟩ := bytes_cells h4
    rw [cellsOf31] at es
    rw [cellsOf32] at eb
    refine ⟨⟨q0, q1, q2, s, b, hs, hb⟩, ?_⟩
    match cs, e0, e1, e2, es, eb, hl with
    | c0 :: c1 :: c2 :: cs, e0, e1, e2, es, eb, hl =>
      simp only [List.getElem?_cons_zero, List.getElem?_cons_succ, Option.some.injEq] at e0 e1 e2
      subst e0 e1 e2
      simp only [Oj.cells, List.cons.injEq, true_and]
      have es' : cs.take 96 = kcs s := es
      have eb' : (cs.drop 96).take 64 = bv b := eb
      rw [← es', ← eb', List.take_of_length_le (l := cs.drop 96) (by simp at hl ⊢; omega), List.take_append_drop]
set_option maxRecDepth 8000 in
/-- an object that came in -/
theorem open_ob {r : Reach} {b0 : Nat} {v : Value} {d : DataW H} {p : List MemPlace} (hv : Value.okWide Tryd.prog W r b0 52 v) (h : DataW.Trod enc Tryd.prog W base spare held 52 v d p) : ∃ o : Oj, v = o.val := by
  obtain ⟨cs, rfl, _⟩ := okWide_struct Tryd.underlying52 hv
  obtain ⟨f, hf⟩ := h
  obtain ⟨o, ho⟩ := object_cells hf
  refine ⟨o, ?_⟩
  obtain ⟨l⟩ := cs
  simp only [Value.cells] at ho
  subst ho
  rfl
set_option maxRecDepth 8000 in
/-- objects that came in -/
theorem open_obs {r : Reach} {b0 : Nat} {v : Value} {d : DataW H} {p : List MemPlace} (hv : Value.okWide Tryd.prog W r b0 22 v) (h : DataW.Trod enc Tryd.prog W base spare held 22 v d p) :
    ∃ (A : Option Addr) (l : List Oj) (cap : Nat), v = .slice A l.length cap ∧ l.length ≤ cap ∧ cap ≤ maxLen ∧ RdO W A l := by
  obtain ⟨A, len, cap, rfl⟩ := okWide_slice Tryd.underlying22 hv
  obtain ⟨fuel, hf⟩ := h
  rcases Go.Deep.open_slice Tryd.underlying22 hf with ⟨hcs, _⟩ | ⟨a, len', cap', m, n, D, Pl, hcs, hb, hl, hm, hmm, hx, hi⟩
  · simp only [Value.cells, List.cons.injEq, Value.slice.injEq, and_true] at hcs
    obtain ⟨rfl, rfl, rfl⟩ := hcs
    exact ⟨none, [], 0, rfl, Nat.le_refl _, by simp [maxLen], fun i h => absurd h (by simp)⟩
  · simp only [Value.cells, List.cons.injEq, Value.slice.injEq, and_true] at hcs
    obtain ⟨rfl, rfl, rfl⟩ := hcs
    rw [cellsOf34] at hi
    have hlen : len ≤ m := by rw [hmm]; split <;> omega
    have key : ∀ i, i < len → ∃ o : Oj, a.spot = none ∧ ObAt W a.block (a.off + i * 163) o := by
      intro i hil
      obtain ⟨cs', hc, ht⟩ := hi i (by omega)
      obtain ⟨o, rfl⟩ := object_cells ht
      obtain ⟨_, _, hat⟩ := World.cells?_some hc
      have hs' : a.spot = none := by
        obtain ⟨cs0, hc0, ht0⟩ := hi 0 (by omega)
        have h0 := (World.cells?_some hc0).2.2 0 (by decide)
        obtain ⟨o', rfl⟩ := object_cells ht0
        have := World.cell?_spot (h0.trans (show (Oj.cells o')[0]? = some _ from rfl))
        simpa [Addr.add] using this
      refine ⟨o, hs', fun j v hv => ?_⟩
      have e := add_add_flat hs' (i * 163)
      have hj : j < 163 := by have := (List.getElem?_eq_some_iff.1 hv).1; rwa [o.len] at this
      have := hat j hj
      rw [e, add_flat] at this
      rw [this, hv]
    have ex : ∃ l : List Oj, l.length = len ∧ ∀ i (h : i < l.length), a.spot = none ∧ ObAt W a.block (a.off + i * 163) l[i] := by
      refine ⟨(List.range len).map fun i => if h : i < len then (key i h).choose else oz, by simp, fun i h => ?_⟩
      have hil : i < len := by simpa using h
      simp only [List.getElem_map, List.getElem_range, hil, dif_pos]
      exact (key i hil).choose_spec
    obtain ⟨l, rfl, hl2⟩ := ex
    refine ⟨some a, l, cap, rfl, hl, hm, fun i h => ?_⟩
    obtain ⟨hs, hk⟩ := hl2 i h
    obtain ⟨b, o, s⟩ := a
    simp only at hs
    subst hs
    exact ⟨b, o, rfl, hk⟩
end
end Go.Proofs.YtfckdbennjkgoaaDoor

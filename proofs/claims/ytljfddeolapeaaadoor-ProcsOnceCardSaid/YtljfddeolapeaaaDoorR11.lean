/- the definition's Weaken, Less. -/
import Derived.Test.YtljfddeolapeaaaDoorR10
import Derived.Test.YtljfddeolapeaaaDoorR04
import Derived.Test.YtljfddeolapeaaaDoorR05
import Derived.Test.YtljfddeolapeaaaDoorR09
namespace Go.Proofs.YtljfddeolapeaaaDoor
open Go.RowKit
end Go.Proofs.YtljfddeolapeaaaDoor
namespace Go.Proofs.YtljfddeolapeaaaDoor
open Go.RowKit
/-- weak -/
def Ky.weak (x : Ky) : Ky := if x.k = 0 ∨ x.k = 1 ∨ x.k = 8 then x else if x.k = 2 ∨ x.k = 3 then { x with r := (lsN x.r.toNat 3 (rm x.k) : Nat) } else ⟨0, 0, 0, 0, 0, 0⟩
theorem weak_self {x : Ky} (h : x.k = 0 ∨ x.k = 1 ∨ x.k = 8) : x.weak = x := if_pos h
set_option maxRecDepth 8000 in
theorem weak_less {x : Ky} (h : x.k = 2 ∨ x.k = 3) : x.weak = { x with r := (lsN x.r.toNat 3 (rm x.k) : Nat) } := by
  unfold Ky.weak
  rw [if_neg (by omega), if_pos h]
set_option maxRecDepth 8000 in
theorem weak_void {x : Ky} (h : x.k ≠ 0 ∧ x.k ≠ 1 ∧ x.k ≠ 8 ∧ x.k ≠ 2 ∧ x.k ≠ 3) : x.weak = ⟨0, 0, 0, 0, 0, 0⟩ := by
  unfold Ky.weak
  rw [if_neg (by omega), if_neg (by omega)]
end Go.Proofs.YtljfddeolapeaaaDoor
namespace Go.Proofs.YtljfddeolapeaaaDoor
open Go.RowKit
/-- the object that a key names and counts with -/
noncomputable def named (os : List Oj) (x : Ky) : Option Oj := @ite (Option Oj) x.of (Classical.propDecidable _) (os[x.o.toNat]?.filter fun o => x.cn o) none
theorem named_not {os : List Oj} {x : Ky} (h : ¬ x.of) : named os x = none := if_neg h
theorem named_is {os : List Oj} {x : Ky} (h : x.of) : named os x = os[x.o.toNat]?.filter fun o => x.cn o := if_pos h
section
variable {w : World} {base p : Nat} {A : Option Addr} {cap : Nat} {ps : List Nat} {os : List Oj}
set_option maxRecDepth 8000 in
theorem named_at (h : StAt w base p A cap ps os) (hn : 0 < os.length) (hT : Tab w) (x : Ky) :
    Calls Tryd.prog 18 #[pv p, x.val] w fun e w' => e = .returned (.tuple #[((named os x).getD oz).val, .bool (named os x).isSome]) ∧ Below w.heap.size w w' := by
  by_cases hf : x.of
  · rw [named_is hf]
    have h0 := of_o hf
    obtain ⟨n, hn'⟩ := Int.eq_ofNat_of_zero_le h0
    by_cases hlt : n < os.length
    · have e1 : os[x.o.toNat]? = some os[n] := by rw [hn', Int.toNat_natCast, List.getElem?_eq_getElem hlt]
      have hg := fun (W : World) (hb : Below w.heap.size w W) => get_at (h.below hb) n hlt
      rw [← hn'] at hg
      rw [e1]
      cases hc : x.cn os[n] with
      | true =>
        have := nam_yes (pv p) (.inr ⟨p, rfl⟩) x os[n] hf hc w hT hg
        rw [Option.filter_some]
        simpa [hc] using this
      | false =>
        have := nam_no (pv p) (.inr ⟨p, rfl⟩) x os[n] hf hc w hT hg
        rw [Option.filter_some]
        simpa [hc] using this
    · have e1 : os[x.o.toNat]? = none := by rw [hn', Int.toNat_natCast]; exact List.getElem?_eq_none (by omega)
      rw [e1]
      exact nam_out (pv p) (.inr ⟨p, rfl⟩) x oz hf 4 (by decide) w hT (fun W hb => get_out (h.below hb) hn x.o (.inr (by omega)))
  · rw [named_not hf]
    exact nam_notE (pv p) (.inr ⟨p, rfl⟩) x os[0] hf 0 w hT (fun W hb => get_at (h.below hb) 0 hn)
end
theorem wpList_store_ky {ops : Array Oper} {rest : List Oper} {o : Oper} {a : Act} {Q : Exit → Act → World → Prop} {w : World} {t : TypeId} {b : Nat} {y : Ky} (hb : Blk w b t (kc y.k y.o y.c y.l y.r y.v)) (hgd : o.guard = none) (p q : Operand) (ho : o.op = .store 33 p q) (hx : a.eval p = .pointer (some ⟨b, 0, none⟩)) (x : Ky) (hy : a.eval q = x.val)
    (h : wpList Tryd.prog ops Q rest (a.put o.dst undef) (w.setRow b (kc x.k x.o x.c x.l x.r x.v))) : wpList Tryd.prog ops Q (o :: rest) a w :=
  wpList_store_row hgd 33 p q ho b (kc x.k x.o x.c x.l x.r x.v) hx hy t (kc y.k y.o y.c y.l y.r y.v) hb size30 rfl (by simp [Value.oneCell']) h
theorem results_key {fn : Func} {p : Tmp} (h : fn.results = #[.cell p 33]) (tmps : Array Value) (w : World) (g : Nat) (x : Ky)
    (hp : tmps.getD p undef = .pointer (some ⟨g, 0, none⟩)) (hg : Blk w g 33 (kc x.k x.o x.c x.l x.r x.v)) : (results fn tmps).run Tryd.prog w = .ok x.val w :=
  results_cell_row (P := Tryd.prog) h tmps w g 33 _ (0, 0) _ hp hg Tryd.underlying33 rfl size30
set_option maxRecDepth 100000 in
set_option maxHeartbeats 2000000 in
theorem prep_1 (P : Value) (hP : IsP P) (x : Ky) (o : Oj) (w : World) (hT : Tab w) (ha : ∀ W, Below w.heap.size w W → Calls Tryd.prog 18 #[P, x.val] W fun e' w' => e' = .returned (.tuple #[o.val, .bool true]) ∧ Below W.heap.size W w') :
    Calls Tryd.prog 17 #[P, x.val] w fun e' w' => e' = .returned x.val ∧ Below w.heap.size w w' := by
  have hz := z34
  have hbl := oz_len
  have HA := Lib.hid ha
  have HT0 := Lib.hid ((hT.alloc (.cells (kc x.k x.o x.c x.l x.r x.v) 33)).alloc (.cells (kc 0 0 0 0 0 0) 33))
  have HB0 := Lib.hid (((Below.refl w.heap.size w).alloc (Nat.le_refl _) (.cells (kc x.k x.o x.c x.l x.r x.v) 33)).alloc (by simp) (.cells (kc 0 0 0 0 0 0) 33))
  have HK0 := Lib.hid ((Blk.new w 33 (kc x.k x.o x.c x.l x.r x.v)).alloc (.cells (kc 0 0 0 0 0 0) 33))
  have HZ0 := Lib.hid (show Blk ((w.alloc (.cells (kc x.k x.o x.c x.l x.r x.v) 33)).alloc (.cells (kc 0 0 0 0 0 0) 33)) (w.heap.size + 1) 33 (kc 0 0 0 0 0 0) from by have := Blk.new (w.alloc (.cells (kc x.k x.o x.c x.l x.r x.v) 33)) 33 (kc 0 0 0 0 0 0); simpa using this)
  clear hT ha
  rcases hP with rfl | ⟨q, rfl⟩
  all_goals
    go_enter Tryd.func17, Tryd.ntmps17
    go_wp2_with (first
      | (go_at_call 18; refine (HA.out _ HB0.out).mono ?_; rintro e w1 ⟨rfl, b1⟩; have HB1 := Lib.hid (((HB0.out.trans (b1.mono HB0.out.size)).alloc (by have := HB0.out.size; have := b1.size; omega) (.cells o.cells.toArray 56))); have HT1 := Lib.hid ((HT0.out.below b1).alloc (.cells o.cells.toArray 56)); have HK1 := Lib.hid ((HK0.out.keep b1).alloc (.cells o.cells.toArray 56)); have HZ1 := Lib.hid ((HZ0.out.keep b1).alloc (.cells o.cells.toArray 56)); obtain ⟨c0, c1, c2, c3, c4, c5⟩ := HK1.out.six; clear b1)
      | (refine wpList_store_last rfl (.tmp 5) (.tmp 11) rfl _ rfl rfl o oz rfl ?_)
      | (refine wpList_store_ky (y := zk) HZ1.out rfl (.tmp 4) (.tmp 23) rfl (by rfl) x (by rfl) ?_))
    exact bodyPost_ret (results_key rfl _ _ (w.heap.size + 1) x rfl (HZ1.out.setRow _)) rfl ⟨rfl, below_setRow HB1.out (by omega) _⟩
set_option maxRecDepth 100000 in
set_option maxHeartbeats 2000000 in
theorem prep_3 (P : Value) (hP : IsP P) (x : Ky) (o : Oj) (hc : x.cn oz = true) (w : World) (hT : Tab w) (ha : ∀ W, Below w.heap.size w W → Calls Tryd.prog 18 #[P, x.val] W fun e' w' => e' = .returned (.tuple #[o.val, .bool false]) ∧ Below W.heap.size W w') (hh : ∀ W, Below w.heap.size w W → Calls Tryd.prog 32 #[P] W fun e w' => e = .returned (.bool true) ∧ W = w') :
    Calls Tryd.prog 17 #[P, x.val] w fun e' w' => e' = .returned x.val ∧ Below w.heap.size w w' := by
  have hz := z34
  have hbl := oz_len
  have HA := Lib.hid ha
  have HC := Lib.hid hc
  have HH := Lib.hid hh
  have HT0 := Lib.hid ((hT.alloc (.cells (kc x.k x.o x.c x.l x.r x.v) 33)).alloc (.cells (kc 0 0 0 0 0 0) 33))
  have HB0 := Lib.hid (((Below.refl w.heap.size w).alloc (Nat.le_refl _) (.cells (kc x.k x.o x.c x.l x.r x.v) 33)).alloc (by simp) (.cells (kc 0 0 0 0 0 0) 33))
  have HK0 := Lib.hid ((Blk.new w 33 (kc x.k x.o x.c x.l x.r x.v)).alloc (.cells (kc 0 0 0 0 0 0) 33))
  have HZ0 := Lib.hid (show Blk ((w.alloc (.cells (kc x.k x.o x.c x.l x.r x.v) 33)).alloc (.cells (kc 0 0 0 0 0 0) 33)) (w.heap.size + 1) 33 (kc 0 0 0 0 0 0) from by have := Blk.new (w.alloc (.cells (kc x.k x.o x.c x.l x.r x.v) 33)) 33 (kc 0 0 0 0 0 0); simpa using this)
  clear hT ha hc hh
  rcases hP with rfl | ⟨q, rfl⟩
  all_goals
    go_enter Tryd.func17, Tryd.ntmps17
    go_wp2_with (first
      | (go_at_call 18; refine (HA.out _ HB0.out).mono ?_; rintro e w1 ⟨rfl, b1⟩; have HB1 := Lib.hid (((HB0.out.trans (b1.mono HB0.out.size)).alloc (by have := HB0.out.size; have := b1.size; omega) (.cells o.cells.toArray 56))); have HT1 := Lib.hid ((HT0.out.below b1).alloc (.cells o.cells.toArray 56)); have HK1 := Lib.hid ((HK0.out.keep b1).alloc (.cells o.cells.toArray 56)); have HZ1 := Lib.hid ((HZ0.out.keep b1).alloc (.cells o.cells.toArray 56)); obtain ⟨c0, c1, c2, c3, c4, c5⟩ := HK1.out.six; clear b1)
      | (refine wpList_store_last rfl (.tmp 5) (.tmp 11) rfl _ rfl rfl o oz rfl ?_)
      | (go_at_call 32; refine (HH.out _ HB1.out).mono ?_; rintro e w9 ⟨rfl, rfl⟩)
      | (refine wpList_yields (S := fun _ => True) (y_build (by rfl) (by rfl) built34) trivial ?_)
      | (go_at_call 45; refine (cn_eq HC.out HT1.out).mono ?_; rintro e w3 ⟨rfl, b3⟩; have HB3 := Lib.hid (HB1.out.trans (b3.mono HB1.out.size)); have HZ3 := Lib.hid (HZ1.out.keep b3); have HK3 := Lib.hid (HK1.out.keep b3); clear b3 c0 c1 c2 c3 c4 c5; obtain ⟨c0, c1, c2, c3, c4, c5⟩ := HK3.out.six)
      | (refine wpList_store_ky (y := zk) HZ3.out rfl (.tmp 4) (.tmp 23) rfl (by rfl) x (by rfl) ?_))
    exact bodyPost_ret (results_key rfl _ _ (w.heap.size + 1) x rfl (HZ3.out.setRow _)) rfl ⟨rfl, below_setRow HB3.out (by omega) _⟩
set_option maxRecDepth 100000 in
set_option maxHeartbeats 2000000 in
theorem prep_4 (P : Value) (hP : IsP P) (x : Ky) (o : Oj) (hc : x.cn oz = false) (w : World) (hT : Tab w) (ha : ∀ W, Below w.heap.size w W → Calls Tryd.prog 18 #[P, x.val] W fun e' w' => e' = .returned (.tuple #[o.val, .bool false]) ∧ Below W.heap.size W w') (hh : ∀ W, Below w.heap.size w W → Calls Tryd.prog 32 #[P] W fun e w' => e = .returned (.bool true) ∧ W = w') :
    Calls Tryd.prog 17 #[P, x.val] w fun e' w' => e' = .returned zk.val ∧ Below w.heap.size w w' := by
  have hz := z34
  have hbl := oz_len
  have HA := Lib.hid ha
  have HC := Lib.hid hc
  have HH := Lib.hid hh
  have HT0 := Lib.hid ((hT.alloc (.cells (kc x.k x.o x.c x.l x.r x.v) 33)).alloc (.cells (kc 0 0 0 0 0 0) 33))
  have HB0 := Lib.hid (((Below.refl w.heap.size w).alloc (Nat.le_refl _) (.cells (kc x.k x.o x.c x.l x.r x.v) 33)).alloc (by simp) (.cells (kc 0 0 0 0 0 0) 33))
  have HK0 := Lib.hid ((Blk.new w 33 (kc x.k x.o x.c x.l x.r x.v)).alloc (.cells (kc 0 0 0 0 0 0) 33))
  have HZ0 := Lib.hid (show Blk ((w.alloc (.cells (kc x.k x.o x.c x.l x.r x.v) 33)).alloc (.cells (kc 0 0 0 0 0 0) 33)) (w.heap.size + 1) 33 (kc 0 0 0 0 0 0) from by have := Blk.new (w.alloc (.cells (kc x.k x.o x.c x.l x.r x.v) 33)) 33 (kc 0 0 0 0 0 0); simpa using this)
  clear hT ha hc hh
  rcases hP with rfl | ⟨q, rfl⟩
  all_goals
    go_enter Tryd.func17, Tryd.ntmps17
    go_wp2_with (first
      | (go_at_call 18; refine (HA.out _ HB0.out).mono ?_; rintro e w1 ⟨rfl, b1⟩; have HB1 := Lib.hid (((HB0.out.trans (b1.mono HB0.out.size)).alloc (by have := HB0.out.size; have := b1.size; omega) (.cells o.cells.toArray 56))); have HT1 := Lib.hid ((HT0.out.below b1).alloc (.cells o.cells.toArray 56)); have HK1 := Lib.hid ((HK0.out.keep b1).alloc (.cells o.cells.toArray 56)); have HZ1 := Lib.hid ((HZ0.out.keep b1).alloc (.cells o.cells.toArray 56)); obtain ⟨c0, c1, c2, c3, c4, c5⟩ := HK1.out.six; clear b1)
      | (refine wpList_store_last rfl (.tmp 5) (.tmp 11) rfl _ rfl rfl o oz rfl ?_)
      | (go_at_call 32; refine (HH.out _ HB1.out).mono ?_; rintro e w9 ⟨rfl, rfl⟩)
      | (refine wpList_yields (S := fun _ => True) (y_build (by rfl) (by rfl) built34) trivial ?_)
      | (go_at_call 45; refine (cn_eq HC.out HT1.out).mono ?_; rintro e w3 ⟨rfl, b3⟩; have HB3 := Lib.hid (HB1.out.trans (b3.mono HB1.out.size)); have HZ3 := Lib.hid (HZ1.out.keep b3); have HK3 := Lib.hid (HK1.out.keep b3); clear b3 c0 c1 c2 c3 c4 c5; obtain ⟨c0, c1, c2, c3, c4, c5⟩ := HK3.out.six)
      | (refine wpList_store_ky (y := zk) HZ3.out rfl (.tmp 4) (.tmp 24) rfl (by rfl) zk (by rfl) ?_))
    exact bodyPost_ret (results_key rfl _ _ (w.heap.size + 1) zk rfl (HZ3.out.setRow _)) rfl ⟨rfl, below_setRow HB3.out (by omega) _⟩
/-- the key, if it counts, else the void key -/
noncomputable def prepd (os : List Oj) (x : Ky) : Ky := if (named os x).isSome || x.cn oz then x else zk
section
variable {w : World} {base p : Nat} {A : Option Addr} {cap : Nat} {ps : List Nat} {os : List Oj}
set_option maxRecDepth 8000 in
theorem prep_at (h : StAt w base p A cap ps os) (hn : 0 < os.length) (hT : Tab w) (x : Ky) :
    Calls Tryd.prog 17 #[pv p, x.val] w fun e w' => e = .returned (prepd os x).val ∧ Below w.heap.size w w' := by
  have hnm := fun (W : World) (hb : Below w.heap.size w W) => named_at (h.below hb) hn (hT.below hb) x
  have hth := fun (W : World) (hb : Below w.heap.size w W) => there_yes (h.below hb) hn
  unfold prepd
  cases hq : (named os x).isSome with
  | true =>
    rw [hq] at hnm
    exact prep_1 _ (.inr ⟨p, rfl⟩) x _ w hT hnm
  | false =>
    rw [hq] at hnm
    cases hc : x.cn oz with
    | true => exact prep_3 _ (.inr ⟨p, rfl⟩) x _ hc w hT hnm hth
    | false => exact prep_4 _ (.inr ⟨p, rfl⟩) x _ hc w hT hnm hth
end
end Go.Proofs.YtljfddeolapeaaaDoor
namespace Go.Proofs.YtljfddeolapeaaaDoor
open Go.RowKit
/-- may these be a store -/
def rightP (l : List Oj) : Prop := 1 ≤ l.length ∧ l.length ≤ 64 ∧ okAll l.length l
section
variable {w : World} {A : Option Addr} {l : List Oj} {cap : Nat}
set_option maxRecDepth 8000 in
theorem right_len (hn : ¬ (1 ≤ l.length ∧ l.length ≤ 64)) : Calls Tryd.prog 19 #[.slice A l.length cap] w fun e w' => e = .returned (.bool false) ∧ Below w.heap.size w w' := by
  by_cases h1 : l.length < 1
  · have d0 : decide (l.length < 1) = true := decide_eq_true h1
    have d0' : decide ((l.length : Int) < 1) = true := decide_eq_true (by omega)
    clear hn
    obtain ⟨n, hn⟩ : ∃ n, l.length = n := ⟨_, rfl⟩
    rw [hn] at d0 d0' ⊢
    obtain rfl : n = 0 := by omega
    go_enter Tryd.func19, Tryd.ntmps19
    go_wp2
    go_ret
    exact ⟨rfl, Below.refl _ _⟩
  · obtain ⟨n, hn'⟩ : ∃ n, l.length = n := ⟨_, rfl⟩
    rw [hn'] at hn h1 ⊢
    have d0 : decide ((n : Int) < 1) = false := decide_eq_false (by omega)
    have d1 : decide ((64 : Int) < (n : Int)) = true := decide_eq_true (by omega)
    go_enter Tryd.func19, Tryd.ntmps19
    go_wp2
    go_ret
    exact ⟨rfl, Below.refl _ _⟩
set_option maxRecDepth 100000 in
set_option maxHeartbeats 2000000 in
theorem right_in (hr : RdO w A l) (h1 : 1 ≤ l.length) (h2 : l.length ≤ 64) : Calls Tryd.prog 19 #[.slice A l.length cap] w fun e w' => ((e = .returned (.bool true) ∧ okAll l.length l) ∨ (e = .returned (.bool false) ∧ ¬ okAll l.length l)) ∧ Below w.heap.size w w' := by
  have HRW := Lib.hid hr
  have d0 : decide ((l.length : Int) < 1) = false := decide_eq_false (by omega)
  have d1 : decide ((64 : Int) < (l.length : Int)) = false := decide_eq_false (by omega)
  clear hr
  go_enter Tryd.func19, Tryd.ntmps19
  go_wp2
  go_loopw [3] (fun i wr => ∃ k : Nat, k ≤ l.length ∧ i = .int .i64 k ∧ Below w.heap.size w wr ∧ okAll l.length (l.take k)) (fun i _ => l.length + 1 - (intOf i).toNat)
  case atStart => exact ⟨0, by omega, rfl, Below.refl _ _, fun x hx => by simp at hx⟩
  case round =>
    obtain ⟨k, hk, rfl, hb, hok⟩ := hrel
    by_cases hlt : k < l.length
    · obtain ⟨b, off, rfl, hob⟩ := HRW.out k hlt
      obtain ⟨x, hx⟩ : ∃ x, l[k] = x := ⟨_, rfl⟩
      rw [hx] at hob
      have HO := Lib.hid (hob.below hb)
      have HB := Lib.hid hb
      have HK := Lib.hid hok
      have HX := Lib.hid hx
      have HLT := Lib.hid hlt
      clear hob hb hok hx
      by_cases hxo : x.ok l.length
      · have HXO := Lib.hid hxo
        clear hxo
        go_wp2_with (first
          | (refine wpList_yields (S := fun w' => ObAt w' b (off + k * 163) x) (y_ob (by rfl) (.tmp 20) (by rfl) b (off + k * 163) (by rfl) x (fun _ h => h)) HO.out ?_)
          | (go_at_call 48; refine (Oj.chk_yes HXO.out ▸ rcheck_any x l.length _).mono ?_; rintro e w1 ⟨rfl, b1⟩; have HB1 := Lib.hid (HB.out.trans (b1.mono HB.out.size)); clear b1))
        go_roundw
        case rel => exact ⟨k + 1, by omega, by go_num, HB1.out, take_snoc_x HLT.out HX.out HK.out HXO.out⟩
        case measure => simp [intOf]; omega
      · have HXO := Lib.hid hxo
        clear hxo
        go_wp2_with (first
          | (refine wpList_yields (S := fun w' => ObAt w' b (off + k * 163) x) (y_ob (by rfl) (.tmp 20) (by rfl) b (off + k * 163) (by rfl) x (fun _ h => h)) HO.out ?_)
          | (go_at_call 48; refine (Oj.chk_no HXO.out ▸ rcheck_any x l.length _).mono ?_; rintro e w1 ⟨rfl, b1⟩; have HB1 := Lib.hid (HB.out.trans (b1.mono HB.out.size)); clear b1))
        go_ret
        exact ⟨.inr ⟨rfl, fun h => HXO.out (ok_x h HLT.out HX.out)⟩, HB1.out⟩
    · obtain rfl : k = l.length := by omega
      rw [List.take_length] at hok
      go_wp2
      go_ret
      exact ⟨.inl ⟨rfl, hok⟩, hb⟩
set_option maxRecDepth 8000 in
theorem right_yes (hr : RdO w A l) (h : rightP l) : Calls Tryd.prog 19 #[.slice A l.length cap] w fun e w' => e = .returned (.bool true) ∧ Below w.heap.size w w' := by
  refine (right_in hr h.1 h.2.1).mono ?_
  rintro e w' ⟨⟨he, _⟩ | ⟨_, hno⟩, hb⟩
  · exact ⟨he, hb⟩
  · exact absurd h.2.2 hno
set_option maxRecDepth 8000 in
theorem right_no (hr : RdO w A l) (h : ¬ rightP l) : Calls Tryd.prog 19 #[.slice A l.length cap] w fun e w' => e = .returned (.bool false) ∧ Below w.heap.size w w' := by
  by_cases hn : 1 ≤ l.length ∧ l.length ≤ 64
  · refine (right_in hr hn.1 hn.2).mono ?_
    rintro e w' ⟨⟨_, hok⟩ | ⟨he, _⟩, hb⟩
    · exact absurd ⟨hn.1, hn.2, hok⟩ h
    · exact ⟨he, hb⟩
  · exact right_len hn
set_option maxRecDepth 8000 in
/-- a store of these, or none -/
theorem of_yes (hT : Tab w) (hr : RdO w A l) (h : rightP l) : Calls Tryd.prog 20 #[.slice A l.length cap] w fun e w' => e = .returned (.tuple #[pv w.heap.size, .int .i64 0]) ∧ (∃ A' cap' ps, StAt w' w.heap.size w.heap.size A' cap' ps l) ∧ Below w.heap.size w w' := by
  refine (of_any A l cap w hT hr h.1 h.2.1).mono ?_
  rintro e w' ⟨⟨A', cap', ps, he, hs, _⟩ | ⟨_, hno⟩, hb⟩
  · exact ⟨he, ⟨_, _, _, hs⟩, hb⟩
  · exact absurd h.2.2 hno
end
end Go.Proofs.YtljfddeolapeaaaDoor

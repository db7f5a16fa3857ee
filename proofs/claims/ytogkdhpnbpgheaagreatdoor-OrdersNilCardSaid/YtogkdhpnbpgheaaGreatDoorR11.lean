/- the definition's Weaken, Less. -/
import Derived.Test.YtogkdhpnbpgheaaGreatDoorR10
import Derived.Test.YtogkdhpnbpgheaaGreatDoorR04
import Derived.Test.YtogkdhpnbpgheaaGreatDoorR05
import Derived.Test.YtogkdhpnbpgheaaGreatDoorR09
namespace Go.Proofs.YtogkdhpnbpgheaaGreatDoor
open Go.RowKit
set_option maxRecDepth 8000 in
set_option maxHeartbeats 1000000 in
theorem rwk_2 (o c l v : Int) (r : Nat) (w : World) (hr : r < 8) :
    Calls Tryz.prog 212 #[.agg (kc 2 o c l r v)] w fun e w' => e = .returned (.agg (kc 2 o c l ((r ||| 3 : Nat) : Int) v)) ∧ Below w.heap.size w w' := by
  go_enter Tryz.func212, Tryz.ntmps212
  go_wp2_with (go_at_call 32; refine (with_any r 3 _ hr (by decide)).mono ?_; rintro e w' ⟨rfl, rfl⟩)
  refine bodyPost_ret (v := .agg (kc 2 o c l ((r ||| 3 : Nat) : Int) v)) (by simp [results, Tryz.results212, go_sem]) rfl ⟨rfl, ?_⟩
  exact ((Below.refl _ _).alloc (Nat.le_refl _) _).alloc (by simp) _
set_option maxRecDepth 8000 in
set_option maxHeartbeats 1000000 in
theorem rwk_3 (o c l r v : Int) (w : World) :
    Calls Tryz.prog 212 #[.agg (kc 3 o c l r v)] w fun e w' => e = .returned (.agg (kc 3 o c l 1 v)) ∧ Below w.heap.size w w' := by
  go_enter Tryz.func212, Tryz.ntmps212
  go_wp2_with (fail)
  refine bodyPost_ret (v := .agg (kc 3 o c l 1 v)) (by simp [results, Tryz.results212, go_sem]) rfl ⟨rfl, ?_⟩
  exact ((Below.refl _ _).alloc (Nat.le_refl _) _).alloc (by simp) _
set_option maxRecDepth 8000 in
set_option maxHeartbeats 1000000 in
theorem rwk_1 (o c l r v : Int) (w : World) :
    Calls Tryz.prog 212 #[.agg (kc 1 o c l r v)] w fun e w' => e = .returned (.agg (kc 1 o c l r v)) ∧ Below w.heap.size w w' := by
  go_enter Tryz.func212, Tryz.ntmps212
  go_wp2_with (fail)
  refine bodyPost_ret (v := .agg (kc 1 o c l r v)) (by simp [results, Tryz.results212, go_sem]) rfl ⟨rfl, ?_⟩
  exact ((Below.refl _ _).alloc (Nat.le_refl _) _).alloc (by simp) _
set_option maxRecDepth 8000 in
set_option maxHeartbeats 1000000 in
theorem rwk_8 (o c l r v : Int) (w : World) :
    Calls Tryz.prog 212 #[.agg (kc 8 o c l r v)] w fun e w' => e = .returned (.agg (kc 8 o c l r v)) ∧ Below w.heap.size w w' := by
  go_enter Tryz.func212, Tryz.ntmps212
  go_wp2_with (fail)
  refine bodyPost_ret (v := .agg (kc 8 o c l r v)) (by simp [results, Tryz.results212, go_sem]) rfl ⟨rfl, ?_⟩
  exact ((Below.refl _ _).alloc (Nat.le_refl _) _).alloc (by simp) _
set_option maxRecDepth 8000 in
set_option maxHeartbeats 1000000 in
theorem rwk_v (k o c l r v : Int) (w : World) (h : k ≠ 2 ∧ k ≠ 3 ∧ k ≠ 1 ∧ k ≠ 8) :
    Calls Tryz.prog 212 #[.agg (kc k o c l r v)] w fun e w' => e = .returned (.agg (kc 0 0 0 0 0 0)) ∧ Below w.heap.size w w' := by
  obtain ⟨h2, h3, h1, h8⟩ := h
  have e2 : (k == 2) = false := by simpa using h2
  have e3 : (k == 3) = false := by simpa using h3
  have e1 : (k == 1) = false := by simpa using h1
  have e8 : (k == 8) = false := by simpa using h8
  clear h2 h3 h1 h8
  go_enter Tryz.func212, Tryz.ntmps212
  go_wp2_with (fail)
  refine bodyPost_ret (v := .agg (kc 0 0 0 0 0 0)) (by simp [results, Tryz.results212, go_sem]) rfl ⟨rfl, ?_⟩
  exact ((Below.refl _ _).alloc (Nat.le_refl _) _).alloc (by simp) _
set_option maxRecDepth 8000 in
set_option maxHeartbeats 1000000 in
theorem rls_2 (o c l v : Int) (r q : Nat) (w : World) (hr : r < 8) (hq : q < 8) :
    Calls Tryz.prog 66 #[.agg (kc 2 o c l r v), .int .i64 q] w fun e w' => e = .returned (.agg (kc 2 o c l ((r ||| q : Nat) : Int) v)) ∧ Below w.heap.size w w' := by
  go_enter Tryz.func66, Tryz.ntmps66
  go_wp2_with (go_at_call 32; refine (with_any r q _ hr hq).mono ?_; rintro e w' ⟨rfl, rfl⟩)
  refine bodyPost_ret (v := .agg (kc 2 o c l ((r ||| q : Nat) : Int) v)) (by simp [results, Tryz.results66, go_sem]) rfl ⟨rfl, ?_⟩
  exact ((Below.refl _ _).alloc (Nat.le_refl _) _).alloc (by simp) _
set_option maxRecDepth 8000 in
set_option maxHeartbeats 1000000 in
theorem rls_3 (o c l v : Int) (r q : Nat) (w : World) (hr : r < 8) (hq : q < 8) :
    Calls Tryz.prog 66 #[.agg (kc 3 o c l r v), .int .i64 q] w fun e w' => e = .returned (.agg (kc 3 o c l ((r ||| (q % 2) : Nat) : Int) v)) ∧ Below w.heap.size w w' := by
  have hm : (q : Int) % 2 = ((q % 2 : Nat) : Int) := by omega
  have hq2 : q % 2 < 8 := by omega
  have HM := Lib.hid hm
  clear hm
  go_enter Tryz.func66, Tryz.ntmps66
  go_wp2_with (go_at_call 32; rw [HM.out]; refine (with_any r (q % 2) _ hr hq2).mono ?_; rintro e w' ⟨rfl, rfl⟩)
  refine bodyPost_ret (v := .agg (kc 3 o c l ((r ||| (q % 2) : Nat) : Int) v)) (by simp [results, Tryz.results66, go_sem]) rfl ⟨rfl, ?_⟩
  exact ((Below.refl _ _).alloc (Nat.le_refl _) _).alloc (by simp) _
set_option maxRecDepth 8000 in
set_option maxHeartbeats 1000000 in
theorem rls_o (k o c l r v q : Int) (w : World) (h : k ≠ 2 ∧ k ≠ 3) :
    Calls Tryz.prog 66 #[.agg (kc k o c l r v), .int .i64 q] w fun e w' => e = .returned (.agg (kc k o c l r v)) ∧ Below w.heap.size w w' := by
  obtain ⟨h2, h3⟩ := h
  have e2 : (k == 2) = false := by simpa using h2
  have e3 : (k == 3) = false := by simpa using h3
  clear h2 h3
  go_enter Tryz.func66, Tryz.ntmps66
  go_wp2_with (fail)
  refine bodyPost_ret (v := .agg (kc k o c l r v)) (by simp [results, Tryz.results66, go_sem]) rfl ⟨rfl, ?_⟩
  exact ((Below.refl _ _).alloc (Nat.le_refl _) _).alloc (by simp) _
end Go.Proofs.YtogkdhpnbpgheaaGreatDoor
namespace Go.Proofs.YtogkdhpnbpgheaaGreatDoor
open Go.RowKit
/-- weak -/
def Ky.weak (x : Ky) : Ky := if x.k = 0 ∨ x.k = 1 ∨ x.k = 8 then x else if x.k = 2 ∨ x.k = 3 then { x with r := (lsN x.r.toNat 3 (rm x.k) : Nat) } else ⟨0, 0, 0, 0, 0, 0⟩
theorem weak_self {x : Ky} (h : x.k = 0 ∨ x.k = 1 ∨ x.k = 8) : x.weak = x := if_pos h
set_option maxRecDepth 8000 in
theorem weak_less {x : Ky} (h : x.k = 2 ∨ x.k = 3) : x.weak = { x with r := (lsN x.r.toNat 3 (rm x.k) : Nat) } := by
  unfold Ky.weak
  rw [if_neg (by omega), if_pos h]
set_option maxRecDepth 8000 in
theorem weak_void {x : Ky} (h : x.k ≠ 0 ∧ x.k ≠ 1 ∧ x.k ≠ 8 ∧ x.k ≠ 2 ∧ x.k ≠ 3) : x.weak = ⟨0, 0, 0, 0, 0, 0⟩ := by
  unfold Ky.weak
  rw [if_neg (by omega), if_neg (by omega)]
set_option maxRecDepth 8000 in
theorem weaken_ok (x : Ky) (w : World) (hT : Tab w) (h : x.ok) :
    Calls Tryz.prog 217 #[x.val] w fun e w' => e = .returned (.tuple #[x.weak.val, .int .i64 0]) ∧ Below w.heap.size w w' := by
  obtain ⟨k, o, c, l, r, v⟩ := x
  by_cases h1 : k = 0 ∨ k = 1 ∨ k = 8
  · rw [weak_self h1]
    exact weaken_self k o c l r v w hT h h1
  · by_cases h2 : k = 2 ∨ k = 3
    · rw [weak_less h2]
      obtain ⟨_, n, hn, _, h8⟩ := ok_of h
      simp only at hn
      subst hn
      exact weaken_less k o c l v n w hT h h2 h8
    · rw [weak_void (by simp; omega)]
      exact weaken_void k o c l r v w hT h (by omega)
set_option maxRecDepth 8000 in
theorem lsN_or (r q : Nat) (hq : q < 8) : lsN r q 7 = r ||| q := by
  have : ∀ q, q < 8 → q &&& 7 = q := by decide
  unfold lsN
  rw [this q hq]
set_option maxRecDepth 8000 in
theorem lsN_one : ∀ q, q < 8 → ∀ r, r < 8 → lsN r q 1 = r ||| (q % 2) := by decide
set_option maxRecDepth 8000 in
theorem lsN_page : ∀ r, r < 2 → lsN r 3 1 = 1 := by decide
set_option maxRecDepth 8000 in
theorem lsN_zero (r q : Nat) : lsN r q 0 = r := by simp [lsN]
set_option maxRecDepth 8000 in
theorem rm_other {k : Int} (h2 : k ≠ 2) (h3 : k ≠ 3) : rm k = 0 := by
  unfold rm kRts
  rw [if_neg (by omega), if_neg (by omega)]
  rfl
set_option maxRecDepth 8000 in
theorem rweaken_ok (x : Ky) (w : World) (h : x.ok) :
    Calls Tryz.prog 212 #[x.val] w fun e w' => e = .returned x.weak.val ∧ Below w.heap.size w w' := by
  obtain ⟨k, o, c, l, r, v⟩ := x
  obtain ⟨_, n, hn, hm, h8⟩ := ok_of h
  simp only at hn hm
  subst hn
  by_cases h2 : k = 2
  · subst h2
    rw [weak_less (.inl rfl)]
    have := rwk_2 o c l v n w h8
    rw [← lsN_or n 3 (by decide)] at this
    exact this
  · by_cases h3 : k = 3
    · subst h3
      rw [weak_less (.inr rfl)]
      have e : lsN n 3 1 = 1 := lsN_page n (by have : rm 3 = 1 := rfl; omega)
      have := rwk_3 o c l n v w
      rw [show (1 : Int) = ((lsN n 3 1 : Nat) : Int) by rw [e]; rfl] at this
      exact this
    · by_cases h1 : k = 1
      · subst h1
        rw [weak_self (.inr (.inl rfl))]
        exact rwk_1 o c l n v w
      · by_cases h8' : k = 8
        · subst h8'
          rw [weak_self (.inr (.inr rfl))]
          exact rwk_8 o c l n v w
        · by_cases h0 : k = 0
          · subst h0
            rw [weak_self (.inl rfl)]
            obtain ⟨rfl, rfl, rfl, e, rfl⟩ := void_all h
            have e' : n = 0 := by have : ((n : Nat) : Int) = 0 := e; omega
            subst e'
            exact rwk_v 0 0 0 0 0 0 w (by omega)
          · rw [weak_void (by simp; omega)]
            exact rwk_v k o c l n v w (by omega)
end Go.Proofs.YtogkdhpnbpgheaaGreatDoor
namespace Go.Proofs.YtogkdhpnbpgheaaGreatDoor
open Go.RowKit
/-- the object that a key names and counts with -/
noncomputable def named (os : List Oj) (x : Ky) : Option Oj := @ite (Option Oj) x.of (Classical.propDecidable _) (os[x.o.toNat]?.filter fun o => x.cn o) none
theorem named_not {os : List Oj} {x : Ky} (h : ¬ x.of) : named os x = none := if_neg h
theorem named_is {os : List Oj} {x : Ky} (h : x.of) : named os x = os[x.o.toNat]?.filter fun o => x.cn o := if_pos h
section
variable {w : World} {base p : Nat} {A : Option Addr} {cap : Nat} {ps : List Nat} {os : List Oj}
set_option maxRecDepth 8000 in
theorem named_at (h : StAt w base p A cap ps os) (hn : 0 < os.length) (hT : Tab w) (x : Ky) :
    Calls Tryz.prog 82 #[pv p, x.val] w fun e w' => e = .returned (.tuple #[((named os x).getD oz).val, .bool (named os x).isSome]) ∧ Below w.heap.size w w' := by
  by_cases hf : x.of
  · rw [named_is hf]
    have h0 := of_o hf
    obtain ⟨n, hn'⟩ := Int.eq_ofNat_of_zero_le h0
    by_cases hlt : n < os.length
    · have e1 : os[x.o.toNat]? = some os[n] := by rw [hn', Int.toNat_natCast, List.getElem?_eq_getElem hlt]
      have hg := fun (W : World) (hb : Below w.heap.size w W) => get_at (h.below hb) n hlt
      rw [← hn'] at hg
      rw [e1]
      cases hc : x.cn os[n] with
      | true =>
        have := nam_yes (pv p) (.inr ⟨p, rfl⟩) x os[n] hf hc w hT hg
        rw [Option.filter_some]
        simpa [hc] using this
      | false =>
        have := nam_no (pv p) (.inr ⟨p, rfl⟩) x os[n] hf hc w hT hg
        rw [Option.filter_some]
        simpa [hc] using this
    · have e1 : os[x.o.toNat]? = none := by rw [hn', Int.toNat_natCast]; exact List.getElem?_eq_none (by omega)
      rw [e1]
      exact nam_out (pv p) (.inr ⟨p, rfl⟩) x oz hf 4 (by decide) w hT (fun W hb => get_out (h.below hb) hn x.o (.inr (by omega)))
  · rw [named_not hf]
    exact nam_notE (pv p) (.inr ⟨p, rfl⟩) x os[0] hf 0 w hT (fun W hb => get_at (h.below hb) 0 hn)
set_option maxRecDepth 8000 in
theorem named_nil (w : World) (hT : Tab w) (x : Ky) :
    Calls Tryz.prog 82 #[.pointer none, x.val] w fun e w' => e = .returned (.tuple #[oz.val, .bool false]) ∧ Below w.heap.size w w' := by
  by_cases hf : x.of
  · exact nam_out _ (.inl rfl) x oz hf 1 (by decide) w hT (fun W _ => get_nil (w := W) x.o)
  · exact nam_notE _ (.inl rfl) x oz hf 1 w hT (fun W _ => get_nil (w := W) 0)
set_option maxRecDepth 8000 in
theorem named_none (h : StAt w base p A cap ps []) (hT : Tab w) (x : Ky) :
    Calls Tryz.prog 82 #[pv p, x.val] w fun e w' => e = .returned (.tuple #[oz.val, .bool false]) ∧ Below w.heap.size w w' := by
  by_cases hf : x.of
  · exact nam_out _ (.inr ⟨p, rfl⟩) x oz hf 1 (by decide) w hT (fun W hb => get_none (h.below hb) x.o)
  · exact nam_notE _ (.inr ⟨p, rfl⟩) x oz hf 1 w hT (fun W hb => get_none (h.below hb) 0)
end
theorem wpList_store_ky {ops : Array Oper} {rest : List Oper} {o : Oper} {a : Act} {Q : Exit → Act → World → Prop} {w : World} {t : TypeId} {b : Nat} {y : Ky} (hb : Blk w b t (kc y.k y.o y.c y.l y.r y.v)) (hgd : o.guard = none) (p q : Operand) (ho : o.op = .store 33 p q) (hx : a.eval p = .pointer (some ⟨b, 0, none⟩)) (x : Ky) (hy : a.eval q = x.val)
    (h : wpList Tryz.prog ops Q rest (a.put o.dst undef) (w.setRow b (kc x.k x.o x.c x.l x.r x.v))) : wpList Tryz.prog ops Q (o :: rest) a w :=
  wpList_store_row hgd 33 p q ho b (kc x.k x.o x.c x.l x.r x.v) hx hy t (kc y.k y.o y.c y.l y.r y.v) hb size30 rfl (by simp [Value.oneCell']) h
theorem results_key {fn : Func} {p : Tmp} (h : fn.results = #[.cell p 33]) (tmps : Array Value) (w : World) (g : Nat) (x : Ky)
    (hp : tmps.getD p undef = .pointer (some ⟨g, 0, none⟩)) (hg : Blk w g 33 (kc x.k x.o x.c x.l x.r x.v)) : (results fn tmps).run Tryz.prog w = .ok x.val w :=
  results_cell_row (P := Tryz.prog) h tmps w g 33 _ (0, 0) _ hp hg Tryz.underlying33 rfl size30
set_option maxRecDepth 100000 in
set_option maxHeartbeats 2000000 in
theorem prep_1 (P : Value) (hP : IsP P) (x : Ky) (o : Oj) (w : World) (hT : Tab w) (ha : ∀ W, Below w.heap.size w W → Calls Tryz.prog 82 #[P, x.val] W fun e' w' => e' = .returned (.tuple #[o.val, .bool true]) ∧ Below W.heap.size W w') :
    Calls Tryz.prog 55 #[P, x.val] w fun e' w' => e' = .returned x.val ∧ Below w.heap.size w w' := by
  have hz := z34
  have hbl := oz_len
  have HA := Lib.hid ha
  have HT0 := Lib.hid ((hT.alloc (.cells (kc x.k x.o x.c x.l x.r x.v) 33)).alloc (.cells (kc 0 0 0 0 0 0) 33))
  have HB0 := Lib.hid (((Below.refl w.heap.size w).alloc (Nat.le_refl _) (.cells (kc x.k x.o x.c x.l x.r x.v) 33)).alloc (by simp) (.cells (kc 0 0 0 0 0 0) 33))
  have HK0 := Lib.hid ((Blk.new w 33 (kc x.k x.o x.c x.l x.r x.v)).alloc (.cells (kc 0 0 0 0 0 0) 33))
  have HZ0 := Lib.hid (show Blk ((w.alloc (.cells (kc x.k x.o x.c x.l x.r x.v) 33)).alloc (.cells (kc 0 0 0 0 0 0) 33)) (w.heap.size + 1) 33 (kc 0 0 0 0 0 0) from by have := Blk.new (w.alloc (.cells (kc x.k x.o x.c x.l x.r x.v) 33)) 33 (kc 0 0 0 0 0 0); simpa using this)
  clear hT ha
  rcases hP with rfl | ⟨q, rfl⟩
  all_goals
    go_enter Tryz.func55, Tryz.ntmps55
    go_wp2_with (first
      | (go_at_call 82; refine (HA.out _ HB0.out).mono ?_; rintro e w1 ⟨rfl, b1⟩; have HB1 := Lib.hid (((HB0.out.trans (b1.mono HB0.out.size)).alloc (by have := HB0.out.size; have := b1.size; omega) (.cells o.cells.toArray 49))); have HT1 := Lib.hid ((HT0.out.below b1).alloc (.cells o.cells.toArray 49)); have HK1 := Lib.hid ((HK0.out.keep b1).alloc (.cells o.cells.toArray 49)); have HZ1 := Lib.hid ((HZ0.out.keep b1).alloc (.cells o.cells.toArray 49)); obtain ⟨c0, c1, c2, c3, c4, c5⟩ := HK1.out.six; clear b1)
      | (refine wpList_store_last rfl (.tmp 5) (.tmp 11) rfl _ rfl rfl o oz rfl ?_)
      | (refine wpList_store_ky (y := zk) HZ1.out rfl (.tmp 4) (.tmp 23) rfl (by rfl) x (by rfl) ?_))
    exact bodyPost_ret (results_key rfl _ _ (w.heap.size + 1) x rfl (HZ1.out.setRow _)) rfl ⟨rfl, below_setRow HB1.out (by omega) _⟩
set_option maxRecDepth 100000 in
set_option maxHeartbeats 2000000 in
theorem prep_2 (P : Value) (hP : IsP P) (x : Ky) (o : Oj) (w : World) (hT : Tab w) (ha : ∀ W, Below w.heap.size w W → Calls Tryz.prog 82 #[P, x.val] W fun e' w' => e' = .returned (.tuple #[o.val, .bool false]) ∧ Below W.heap.size W w') (hh : ∀ W, Below w.heap.size w W → Calls Tryz.prog 51 #[P] W fun e w' => e = .returned (.bool false) ∧ W = w') :
    Calls Tryz.prog 55 #[P, x.val] w fun e' w' => e' = .returned zk.val ∧ Below w.heap.size w w' := by
  have hz := z34
  have hbl := oz_len
  have HA := Lib.hid ha
  have HH := Lib.hid hh
  have HT0 := Lib.hid ((hT.alloc (.cells (kc x.k x.o x.c x.l x.r x.v) 33)).alloc (.cells (kc 0 0 0 0 0 0) 33))
  have HB0 := Lib.hid (((Below.refl w.heap.size w).alloc (Nat.le_refl _) (.cells (kc x.k x.o x.c x.l x.r x.v) 33)).alloc (by simp) (.cells (kc 0 0 0 0 0 0) 33))
  have HK0 := Lib.hid ((Blk.new w 33 (kc x.k x.o x.c x.l x.r x.v)).alloc (.cells (kc 0 0 0 0 0 0) 33))
  have HZ0 := Lib.hid (show Blk ((w.alloc (.cells (kc x.k x.o x.c x.l x.r x.v) 33)).alloc (.cells (kc 0 0 0 0 0 0) 33)) (w.heap.size + 1) 33 (kc 0 0 0 0 0 0) from by have := Blk.new (w.alloc (.cells (kc x.k x.o x.c x.l x.r x.v) 33)) 33 (kc 0 0 0 0 0 0); simpa using this)
  clear hT ha hh
  rcases hP with rfl | ⟨q, rfl⟩
  all_goals
    go_enter Tryz.func55, Tryz.ntmps55
    go_wp2_with (first
      | (go_at_call 82; refine (HA.out _ HB0.out).mono ?_; rintro e w1 ⟨rfl, b1⟩; have HB1 := Lib.hid (((HB0.out.trans (b1.mono HB0.out.size)).alloc (by have := HB0.out.size; have := b1.size; omega) (.cells o.cells.toArray 49))); have HT1 := Lib.hid ((HT0.out.below b1).alloc (.cells o.cells.toArray 49)); have HK1 := Lib.hid ((HK0.out.keep b1).alloc (.cells o.cells.toArray 49)); have HZ1 := Lib.hid ((HZ0.out.keep b1).alloc (.cells o.cells.toArray 49)); obtain ⟨c0, c1, c2, c3, c4, c5⟩ := HK1.out.six; clear b1)
      | (refine wpList_store_last rfl (.tmp 5) (.tmp 11) rfl _ rfl rfl o oz rfl ?_)
      | (go_at_call 51; refine (HH.out _ HB1.out).mono ?_; rintro e w9 ⟨rfl, rfl⟩)
      | (refine wpList_store_ky (y := zk) HZ1.out rfl (.tmp 4) (.tmp 24) rfl (by rfl) zk (by rfl) ?_))
    exact bodyPost_ret (results_key rfl _ _ (w.heap.size + 1) zk rfl (HZ1.out.setRow _)) rfl ⟨rfl, below_setRow HB1.out (by omega) _⟩
set_option maxRecDepth 100000 in
set_option maxHeartbeats 2000000 in
theorem prep_3 (P : Value) (hP : IsP P) (x : Ky) (o : Oj) (hc : x.cn oz = true) (w : World) (hT : Tab w) (ha : ∀ W, Below w.heap.size w W → Calls Tryz.prog 82 #[P, x.val] W fun e' w' => e' = .returned (.tuple #[o.val, .bool false]) ∧ Below W.heap.size W w') (hh : ∀ W, Below w.heap.size w W → Calls Tryz.prog 51 #[P] W fun e w' => e = .returned (.bool true) ∧ W = w') :
    Calls Tryz.prog 55 #[P, x.val] w fun e' w' => e' = .returned x.val ∧ Below w.heap.size w w' := by
  have hz := z34
  have hbl := oz_len
  have HA := Lib.hid ha
  have HC := Lib.hid hc
  have HH := Lib.hid hh
  have HT0 := Lib.hid ((hT.alloc (.cells (kc x.k x.o x.c x.l x.r x.v) 33)).alloc (.cells (kc 0 0 0 0 0 0) 33))
  have HB0 := Lib.hid (((Below.refl w.heap.size w).alloc (Nat.le_refl _) (.cells (kc x.k x.o x.c x.l x.r x.v) 33)).alloc (by simp) (.cells (kc 0 0 0 0 0 0) 33))
  have HK0 := Lib.hid ((Blk.new w 33 (kc x.k x.o x.c x.l x.r x.v)).alloc (.cells (kc 0 0 0 0 0 0) 33))
  have HZ0 := Lib.hid (show Blk ((w.alloc (.cells (kc x.k x.o x.c x.l x.r x.v) 33)).alloc (.cells (kc 0 0 0 0 0 0) 33)) (w.heap.size + 1) 33 (kc 0 0 0 0 0 0) from by have := Blk.new (w.alloc (.cells (kc x.k x.o x.c x.l x.r x.v) 33)) 33 (kc 0 0 0 0 0 0); simpa using this)
  clear hT ha hc hh
  rcases hP with rfl | ⟨q, rfl⟩
  all_goals
    go_enter Tryz.func55, Tryz.ntmps55
    go_wp2_with (first
      | (go_at_call 82; refine (HA.out _ HB0.out).mono ?_; rintro e w1 ⟨rfl, b1⟩; have HB1 := Lib.hid (((HB0.out.trans (b1.mono HB0.out.size)).alloc (by have := HB0.out.size; have := b1.size; omega) (.cells o.cells.toArray 49))); have HT1 := Lib.hid ((HT0.out.below b1).alloc (.cells o.cells.toArray 49)); have HK1 := Lib.hid ((HK0.out.keep b1).alloc (.cells o.cells.toArray 49)); have HZ1 := Lib.hid ((HZ0.out.keep b1).alloc (.cells o.cells.toArray 49)); obtain ⟨c0, c1, c2, c3, c4, c5⟩ := HK1.out.six; clear b1)
      | (refine wpList_store_last rfl (.tmp 5) (.tmp 11) rfl _ rfl rfl o oz rfl ?_)
      | (go_at_call 51; refine (HH.out _ HB1.out).mono ?_; rintro e w9 ⟨rfl, rfl⟩)
      | (refine wpList_yields (S := fun _ => True) (y_build (by rfl) (by rfl) built34) trivial ?_)
      | (go_at_call 83; refine (cn_eq HC.out HT1.out).mono ?_; rintro e w3 ⟨rfl, b3⟩; have HB3 := Lib.hid (HB1.out.trans (b3.mono HB1.out.size)); have HZ3 := Lib.hid (HZ1.out.keep b3); have HK3 := Lib.hid (HK1.out.keep b3); clear b3 c0 c1 c2 c3 c4 c5; obtain ⟨c0, c1, c2, c3, c4, c5⟩ := HK3.out.six)
      | (refine wpList_store_ky (y := zk) HZ3.out rfl (.tmp 4) (.tmp 23) rfl (by rfl) x (by rfl) ?_))
    exact bodyPost_ret (results_key rfl _ _ (w.heap.size + 1) x rfl (HZ3.out.setRow _)) rfl ⟨rfl, below_setRow HB3.out (by omega) _⟩
set_option maxRecDepth 100000 in
set_option maxHeartbeats 2000000 in
theorem prep_4 (P : Value) (hP : IsP P) (x : Ky) (o : Oj) (hc : x.cn oz = false) (w : World) (hT : Tab w) (ha : ∀ W, Below w.heap.size w W → Calls Tryz.prog 82 #[P, x.val] W fun e' w' => e' = .returned (.tuple #[o.val, .bool false]) ∧ Below W.heap.size W w') (hh : ∀ W, Below w.heap.size w W → Calls Tryz.prog 51 #[P] W fun e w' => e = .returned (.bool true) ∧ W = w') :
    Calls Tryz.prog 55 #[P, x.val] w fun e' w' => e' = .returned zk.val ∧ Below w.heap.size w w' := by
  have hz := z34
  have hbl := oz_len
  have HA := Lib.hid ha
  have HC := Lib.hid hc
  have HH := Lib.hid hh
  have HT0 := Lib.hid ((hT.alloc (.cells (kc x.k x.o x.c x.l x.r x.v) 33)).alloc (.cells (kc 0 0 0 0 0 0) 33))
  have HB0 := Lib.hid (((Below.refl w.heap.size w).alloc (Nat.le_refl _) (.cells (kc x.k x.o x.c x.l x.r x.v) 33)).alloc (by simp) (.cells (kc 0 0 0 0 0 0) 33))
  have HK0 := Lib.hid ((Blk.new w 33 (kc x.k x.o x.c x.l x.r x.v)).alloc (.cells (kc 0 0 0 0 0 0) 33))
  have HZ0 := Lib.hid (show Blk ((w.alloc (.cells (kc x.k x.o x.c x.l x.r x.v) 33)).alloc (.cells (kc 0 0 0 0 0 0) 33)) (w.heap.size + 1) 33 (kc 0 0 0 0 0 0) from by have := Blk.new (w.alloc (.cells (kc x.k x.o x.c x.l x.r x.v) 33)) 33 (kc 0 0 0 0 0 0); simpa using this)
  clear hT ha hc hh
  rcases hP with rfl | ⟨q, rfl⟩
  all_goals
    go_enter Tryz.func55, Tryz.ntmps55
    go_wp2_with (first
      | (go_at_call 82; refine (HA.out _ HB0.out).mono ?_; rintro e w1 ⟨rfl, b1⟩; have HB1 := Lib.hid (((HB0.out.trans (b1.mono HB0.out.size)).alloc (by have := HB0.out.size; have := b1.size; omega) (.cells o.cells.toArray 49))); have HT1 := Lib.hid ((HT0.out.below b1).alloc (.cells o.cells.toArray 49)); have HK1 := Lib.hid ((HK0.out.keep b1).alloc (.cells o.cells.toArray 49)); have HZ1 := Lib.hid ((HZ0.out.keep b1).alloc (.cells o.cells.toArray 49)); obtain ⟨c0, c1, c2, c3, c4, c5⟩ := HK1.out.six; clear b1)
      | (refine wpList_store_last rfl (.tmp 5) (.tmp 11) rfl _ rfl rfl o oz rfl ?_)
      | (go_at_call 51; refine (HH.out _ HB1.out).mono ?_; rintro e w9 ⟨rfl, rfl⟩)
      | (refine wpList_yields (S := fun _ => True) (y_build (by rfl) (by rfl) built34) trivial ?_)
      | (go_at_call 83; refine (cn_eq HC.out HT1.out).mono ?_; rintro e w3 ⟨rfl, b3⟩; have HB3 := Lib.hid (HB1.out.trans (b3.mono HB1.out.size)); have HZ3 := Lib.hid (HZ1.out.keep b3); have HK3 := Lib.hid (HK1.out.keep b3); clear b3 c0 c1 c2 c3 c4 c5; obtain ⟨c0, c1, c2, c3, c4, c5⟩ := HK3.out.six)
      | (refine wpList_store_ky (y := zk) HZ3.out rfl (.tmp 4) (.tmp 24) rfl (by rfl) zk (by rfl) ?_))
    exact bodyPost_ret (results_key rfl _ _ (w.heap.size + 1) zk rfl (HZ3.out.setRow _)) rfl ⟨rfl, below_setRow HB3.out (by omega) _⟩
/-- the key, if it counts, else the void key -/
noncomputable def prepd (os : List Oj) (x : Ky) : Ky := if (named os x).isSome || x.cn oz then x else zk
section
variable {w : World} {base p : Nat} {A : Option Addr} {cap : Nat} {ps : List Nat} {os : List Oj}
set_option maxRecDepth 8000 in
theorem prep_at (h : StAt w base p A cap ps os) (hn : 0 < os.length) (hT : Tab w) (x : Ky) :
    Calls Tryz.prog 55 #[pv p, x.val] w fun e w' => e = .returned (prepd os x).val ∧ Below w.heap.size w w' := by
  have hnm := fun (W : World) (hb : Below w.heap.size w W) => named_at (h.below hb) hn (hT.below hb) x
  have hth := fun (W : World) (hb : Below w.heap.size w W) => there_yes (h.below hb) hn
  unfold prepd
  cases hq : (named os x).isSome with
  | true =>
    rw [hq] at hnm
    exact prep_1 _ (.inr ⟨p, rfl⟩) x _ w hT hnm
  | false =>
    rw [hq] at hnm
    cases hc : x.cn oz with
    | true => exact prep_3 _ (.inr ⟨p, rfl⟩) x _ hc w hT hnm hth
    | false => exact prep_4 _ (.inr ⟨p, rfl⟩) x _ hc w hT hnm hth
theorem prep_none (h : StAt w base p A cap ps []) (hT : Tab w) (x : Ky) :
    Calls Tryz.prog 55 #[pv p, x.val] w fun e w' => e = .returned zk.val ∧ Below w.heap.size w w' :=
  prep_2 _ (.inr ⟨p, rfl⟩) x oz w hT (fun _ hb => named_none (h.below hb) (hT.below hb) x) (fun _ hb => there_no (h.below hb))
end
end Go.Proofs.YtogkdhpnbpgheaaGreatDoor
namespace Go.Proofs.YtogkdhpnbpgheaaGreatDoor
open Go.RowKit
/-- may these be a store -/
def rightP (l : List Oj) : Prop := 1 ≤ l.length ∧ l.length ≤ 64 ∧ okAll l.length l
section
variable {w : World} {A : Option Addr} {l : List Oj} {cap : Nat}
set_option maxRecDepth 8000 in
theorem right_len (hn : ¬ (1 ≤ l.length ∧ l.length ≤ 64)) : Calls Tryz.prog 20 #[.slice A l.length cap] w fun e w' => e = .returned (.bool false) ∧ Below w.heap.size w w' := by
  by_cases h1 : l.length < 1
  · have d0 : decide (l.length < 1) = true := decide_eq_true h1
    have d0' : decide ((l.length : Int) < 1) = true := decide_eq_true (by omega)
    clear hn
    obtain ⟨n, hn⟩ : ∃ n, l.length = n := ⟨_, rfl⟩
    rw [hn] at d0 d0' ⊢
    obtain rfl : n = 0 := by omega
    go_enter Tryz.func20, Tryz.ntmps20
    go_wp2
    go_ret
    exact ⟨rfl, Below.refl _ _⟩
  · obtain ⟨n, hn'⟩ : ∃ n, l.length = n := ⟨_, rfl⟩
    rw [hn'] at hn h1 ⊢
    have d0 : decide ((n : Int) < 1) = false := decide_eq_false (by omega)
    have d1 : decide ((64 : Int) < (n : Int)) = true := decide_eq_true (by omega)
    go_enter Tryz.func20, Tryz.ntmps20
    go_wp2
    go_ret
    exact ⟨rfl, Below.refl _ _⟩
set_option maxRecDepth 100000 in
set_option maxHeartbeats 2000000 in
theorem right_in (hr : RdO w A l) (h1 : 1 ≤ l.length) (h2 : l.length ≤ 64) : Calls Tryz.prog 20 #[.slice A l.length cap] w fun e w' => ((e = .returned (.bool true) ∧ okAll l.length l) ∨ (e = .returned (.bool false) ∧ ¬ okAll l.length l)) ∧ Below w.heap.size w w' := by
  have HRW := Lib.hid hr
  have d0 : decide ((l.length : Int) < 1) = false := decide_eq_false (by omega)
  have d1 : decide ((64 : Int) < (l.length : Int)) = false := decide_eq_false (by omega)
  clear hr
  go_enter Tryz.func20, Tryz.ntmps20
  go_wp2
  go_loopw [3] (fun i wr => ∃ k : Nat, k ≤ l.length ∧ i = .int .i64 k ∧ Below w.heap.size w wr ∧ okAll l.length (l.take k)) (fun i _ => l.length + 1 - (intOf i).toNat)
  case atStart => exact ⟨0, by omega, rfl, Below.refl _ _, fun x hx => by simp at hx⟩
  case round =>
    obtain ⟨k, hk, rfl, hb, hok⟩ := hrel
    by_cases hlt : k < l.length
    · obtain ⟨b, off, rfl, hob⟩ := HRW.out k hlt
      obtain ⟨x, hx⟩ : ∃ x, l[k] = x := ⟨_, rfl⟩
      rw [hx] at hob
      have HO := Lib.hid (hob.below hb)
      have HB := Lib.hid hb
      have HK := Lib.hid hok
      have HX := Lib.hid hx
      have HLT := Lib.hid hlt
      clear hob hb hok hx
      by_cases hxo : x.ok l.length
      · have HXO := Lib.hid hxo
        clear hxo
        go_wp2_with (first
          | (refine wpList_yields (S := fun w' => ObAt w' b (off + k * 163) x) (y_ob (by rfl) (.tmp 20) (by rfl) b (off + k * 163) (by rfl) x (fun _ h => h)) HO.out ?_)
          | (go_at_call 33; refine (Oj.chk_yes HXO.out ▸ rcheck_any x l.length _).mono ?_; rintro e w1 ⟨rfl, b1⟩; have HB1 := Lib.hid (HB.out.trans (b1.mono HB.out.size)); clear b1))
        go_roundw
        case rel => exact ⟨k + 1, by omega, by go_num, HB1.out, take_snoc_x HLT.out HX.out HK.out HXO.out⟩
        case measure => simp [intOf]; omega
      · have HXO := Lib.hid hxo
        clear hxo
        go_wp2_with (first
          | (refine wpList_yields (S := fun w' => ObAt w' b (off + k * 163) x) (y_ob (by rfl) (.tmp 20) (by rfl) b (off + k * 163) (by rfl) x (fun _ h => h)) HO.out ?_)
          | (go_at_call 33; refine (Oj.chk_no HXO.out ▸ rcheck_any x l.length _).mono ?_; rintro e w1 ⟨rfl, b1⟩; have HB1 := Lib.hid (HB.out.trans (b1.mono HB.out.size)); clear b1))
        go_ret
        exact ⟨.inr ⟨rfl, fun h => HXO.out (ok_x h HLT.out HX.out)⟩, HB1.out⟩
    · obtain rfl : k = l.length := by omega
      rw [List.take_length] at hok
      go_wp2
      go_ret
      exact ⟨.inl ⟨rfl, hok⟩, hb⟩
set_option maxRecDepth 8000 in
theorem right_yes (hr : RdO w A l) (h : rightP l) : Calls Tryz.prog 20 #[.slice A l.length cap] w fun e w' => e = .returned (.bool true) ∧ Below w.heap.size w w' := by
  refine (right_in hr h.1 h.2.1).mono ?_
  rintro e w' ⟨⟨he, _⟩ | ⟨_, hno⟩, hb⟩
  · exact ⟨he, hb⟩
  · exact absurd h.2.2 hno
set_option maxRecDepth 8000 in
theorem right_no (hr : RdO w A l) (h : ¬ rightP l) : Calls Tryz.prog 20 #[.slice A l.length cap] w fun e w' => e = .returned (.bool false) ∧ Below w.heap.size w w' := by
  by_cases hn : 1 ≤ l.length ∧ l.length ≤ 64
  · refine (right_in hr hn.1 hn.2).mono ?_
    rintro e w' ⟨⟨_, hok⟩ | ⟨he, _⟩, hb⟩
    · exact absurd ⟨hn.1, hn.2, hok⟩ h
    · exact ⟨he, hb⟩
  · exact right_len hn
set_option maxRecDepth 8000 in
/-- a store of these, or none -/
theorem of_yes (hT : Tab w) (hr : RdO w A l) (h : rightP l) : Calls Tryz.prog 21 #[.slice A l.length cap] w fun e w' => e = .returned (.tuple #[pv w.heap.size, .int .i64 0]) ∧ (∃ A' cap' ps, StAt w' w.heap.size w.heap.size A' cap' ps l) ∧ Below w.heap.size w w' := by
  refine (of_any A l cap w hT hr h.1 h.2.1).mono ?_
  rintro e w' ⟨⟨A', cap', ps, he, hs, _⟩ | ⟨_, hno⟩, hb⟩
  · exact ⟨he, ⟨_, _, _, hs⟩, hb⟩
  · exact absurd h.2.2 hno
set_option maxRecDepth 8000 in
theorem of_no (hT : Tab w) (hr : RdO w A l) (h : ¬ rightP l) : Calls Tryz.prog 21 #[.slice A l.length cap] w fun e w' => e = .returned (.tuple #[.pointer none, .int .i64 2]) ∧ Below w.heap.size w w' := by
  by_cases hn : 1 ≤ l.length ∧ l.length ≤ 64
  · refine (of_any A l cap w hT hr hn.1 hn.2).mono ?_
    rintro e w' ⟨⟨A', cap', ps, _, _, hok⟩ | ⟨he, _⟩, hb⟩
    · exact absurd ⟨hn.1, hn.2, hok⟩ h
    · exact ⟨he, hb⟩
  · refine (of_many A l.length cap w hn).mono ?_
    rintro e w' ⟨he, rfl⟩
    exact ⟨he, Below.refl _ _⟩
end
end Go.Proofs.YtogkdhpnbpgheaaGreatDoor

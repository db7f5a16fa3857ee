/- volume: the parts of a plan, one behind the other; its size. -/
import Derived.Test.YtpihllgdgolgpaaDoorVBlk
namespace Go.Proofs.YtpihllgdgolgpaaDoor
open Go.RowKit
attribute [local go_sem] Oper.semAt_some
abbrev pv (p : Nat) : Value := .pointer (some ⟨p, 0, none⟩)
/-- what the two boxes of parts hold -/
structure PA (w : World) (pr pe base : Nat) (v : Value) (n : Nat) (l : List Pt) (e : Int) : Prop where
  row : Blk w pr 35 #[v]
  stop : Blk w pe 3 #[.int .i64 e]
  own : w.ownsRow base 40 4 v n (pcs l)
  size : base ≤ w.heap.size
set_option maxRecDepth 8000 in
theorem own_far {w : World} {base n size : Nat} {e : TypeId} {v : Value} {xs : List Value} (h : w.ownsRow base e size v n xs) {p : Addr} (hp : ∀ q, v.ownBlock = some q → q ≠ p.block) (u : Value) : (w.setCell p u).ownsRow base e size v n xs := by
  obtain ⟨hl, h0 | ⟨g, cap, cur, rfl, hb, hg, h1, h2, h3, ht⟩⟩ := h
  · exact ⟨hl, .inl h0⟩
  · exact ⟨hl, .inr ⟨g, cap, cur, rfl, hb, (Below.heap_setCell w p u g (hp g rfl)).trans hg, h1, h2, h3, ht⟩⟩
set_option maxRecDepth 8000 in
set_option maxHeartbeats 1000000 in
theorem add_any (pr pe base : Nat) (v : Value) (n : Nat) (l : List Pt) (e k a c : Int) (w : World) (h : PA w pr pe base v n l e) (hn : n ≤ 100) (hp : pr < pe) (hb : pe < base) (he : 0 ≤ e ∧ e ≤ 100000) (hc : 0 ≤ c ∧ c ≤ 100000) :
    Calls Tryd.prog 16 #[.int .i64 k, .int .i64 a, .int .i64 c, pv pr, pv pe] w fun r w' => r = .returned (.tuple #[]) ∧ (∃ v', PA w' pr pe base v' (n + 1) (l ++ [⟨k, a, e, e + c⟩]) (e + c)) ∧ Below pr w w' := by
  obtain ⟨h1, h2, h3, h4⟩ := h
  have c1 : w.cell? ⟨pr, 0, none⟩ = some v := h1.cell 0
  have c2 : w.cell? ⟨pe, 0, none⟩ = some (.int .i64 e) := h2.cell 0
  have H1 := Lib.hid h1
  have H2 := Lib.hid h2
  have H3 := Lib.hid h3
  have H4 := Lib.hid h4
  have HP := Lib.hid hp
  have HBb := Lib.hid hb
  clear h1 h2 h3 h4 hp hb
  go_enter Tryd.func16, Tryd.ntmps16
  go_wp2_with (refine wpList_append_pt rfl (.tmp 8) (.tmp 16) rfl (by rfl) H3.out ⟨k, a, e, e + c⟩ (by first | rfl | simp) (by omega) H4.out ?_; intro g' c' w1 hw1 hw2; have K1 := Lib.hid (H1.out.below hw2 (Nat.lt_trans HP.out HBb.out)); have K2 := Lib.hid (H2.out.below hw2 HBb.out); have O1 := Lib.hid hw1; have B1 := Lib.hid hw2; have f1 : w1.frozen? ⟨pr, 0, none⟩ = false := K1.out.frozen 0; have d1 : w1.cell? ⟨pr, 0, none⟩ = some v := K1.out.cell 0; have f2 : w1.frozen? ⟨pe, 0, none⟩ = false := K2.out.frozen 0; have d2 : w1.cell? ⟨pe, 0, none⟩ = some (.int .i64 e) := K2.out.cell 0; have hne : pr ≠ pe := Nat.ne_of_lt HP.out; have hne' : pe ≠ pr := (Nat.ne_of_lt HP.out).symm; clear hw1 hw2 c1 c2)
  go_end0
  refine ⟨rfl, ⟨_, (K1.out.set_ 0 _).far hne _, (K2.out.far hne' _).set_ 0 _, ?_, ?_⟩, ?_⟩
  · refine own_far (own_far O1.out ?_ _) ?_ _
    · exact fun q hq => by have := (World.ownsRow.lt O1.out _ hq).1; have := HP.out; have := HBb.out; simp; omega
    · exact fun q hq => by have := (World.ownsRow.lt O1.out _ hq).1; have := HP.out; have := HBb.out; simp; omega
  · have := B1.out.size
    have := H4.out
    simp [World.setCell]
    omega
  · exact ((B1.out.mono (Nat.le_trans (Nat.le_of_lt HP.out) (Nat.le_of_lt HBb.out))).setCell (p := ⟨pr, 0, none⟩) (Nat.le_refl _) _).setCell (p := ⟨pe, 0, none⟩) (Nat.le_of_lt HP.out) _
/-- a plan's parts -/
def partsL (n : Int) : List Pt := [⟨1, 0, 0, 2⟩, ⟨2, 0, 2, 3⟩, ⟨3, 0, 3, 11⟩, ⟨4, 0, 11, 11 + n⟩, ⟨2, 1, 11 + n, 12 + n⟩, ⟨3, 1, 12 + n, 20 + n⟩, ⟨4, 1, 20 + n, 20 + 2 * n⟩, ⟨5, 0, 20 + 2 * n, 20 + 3 * n⟩]
abbrev plan (n : Int) : Value := .agg #[.int .i64 n]
set_option maxRecDepth 8000 in
theorem parts_no (n : Int) (w : World) (h : ¬ (1 ≤ n ∧ n ≤ 64)) :
    Calls Tryd.prog 9 #[plan n] w fun r w' => r = .returned (.tuple #[.slice none 0 0, .int .i64 2]) ∧ Below w.heap.size w w' := by
  by_cases h1 : n < 1
  · have d0 : decide (n < 1) = true := decide_eq_true h1
    clear h h1
    go_enter Tryd.func9, Tryd.ntmps9
    go_wp2
    go_ret2
    exact ⟨rfl, (Below.refl _ _).alloc (Nat.le_refl _) _⟩
  · have d0 : decide (n < 1) = false := decide_eq_false h1
    have d1 : decide (64 < n) = true := decide_eq_true (by omega)
    clear h h1
    go_enter Tryd.func9, Tryd.ntmps9
    go_wp2
    go_ret2
    exact ⟨rfl, (Below.refl _ _).alloc (Nat.le_refl _) _⟩
set_option maxRecDepth 8000 in
set_option maxHeartbeats 4000000 in
theorem parts_yes (n : Int) (w : World) (h : 1 ≤ n ∧ n ≤ 64) :
    Calls Tryd.prog 9 #[plan n] w fun r w' => (∃ g c, r = .returned (.tuple #[.slice (some ⟨g, 0, none⟩) 8 c, .int .i64 0]) ∧ RdP w' g (partsL n)) ∧ Below w.heap.size w w' := by
  have d0 : decide (n < 1) = false := decide_eq_false (by omega)
  have d1 : decide (64 < n) = false := decide_eq_false (by omega)
  have HG := Lib.hid (((Blk.new w 23 #[.int .i64 n]).alloc (.cells #[.slice none 0 0] 35)).alloc (.cells #[.int .i64 0] 3))
  have HB := Lib.hid ((((Below.refl w.heap.size w).alloc (Nat.le_refl _) (.cells #[.int .i64 n] 23)).alloc (by simp) (.cells #[.slice none 0 0] 35)).alloc (by simp; omega) (.cells #[.int .i64 0] 3))
  have HA := Lib.hid (show PA (((w.alloc (.cells #[.int .i64 n] 23)).alloc (.cells #[.slice none 0 0] 35)).alloc (.cells #[.int .i64 0] 3)) (w.heap.size + 1) (w.heap.size + 2) (w.heap.size + 3) (.slice none 0 0) 0 [] 0 from
    ⟨by have := (Blk.new (w.alloc (.cells #[.int .i64 n] 23)) 35 #[.slice none 0 0]).alloc (.cells #[.int .i64 0] 3); simpa using this,
     by have := Blk.new ((w.alloc (.cells #[.int .i64 n] 23)).alloc (.cells #[.slice none 0 0] 35)) 3 #[.int .i64 0]; simpa using this,
     World.ownsRow_nil _ _ _ _, by simp⟩)
  have c0 : (((w.alloc (.cells #[.int .i64 n] 23)).alloc (.cells #[.slice none 0 0] 35)).alloc (.cells #[.int .i64 0] 3)).cell? ⟨w.heap.size, 0, none⟩ = some (.int .i64 n) := HG.out.one
  go_enter Tryd.func9, Tryd.ntmps9
  go_wp2_with (go_at_call 16; refine (add_any (w.heap.size + 1) (w.heap.size + 2) (w.heap.size + 3) _ _ _ _ _ _ _ _ HA.out (by omega) (by omega) (by omega) (by omega) (by omega)).mono ?_; rintro r w1 ⟨rfl, ⟨v1, ha⟩, hb⟩; have HA1 := Lib.hid ha; have HG1 := Lib.hid (HG.out.below hb (Nat.lt_succ_self _)); have HB1 := Lib.hid (HB.out.trans (hb.mono (Nat.le_succ _))); have c1 := HG1.out.one; clear ha hb HA HG HB c0)
  refine wp_loop_rounds 3 ?_
  rw [rounds_succ]
  go_wp2_with (first
    | (go_at_call 16; refine (add_any (w.heap.size + 1) (w.heap.size + 2) (w.heap.size + 3) _ _ _ _ _ _ _ _ HA1.out (by omega) (by omega) (by omega) (by omega) (by omega)).mono ?_; rintro r w2 ⟨rfl, ⟨v2, ha⟩, hb⟩; have HA2 := Lib.hid ha; have HG2 := Lib.hid (HG1.out.below hb (Nat.lt_succ_self _)); have HB2 := Lib.hid (HB1.out.trans (hb.mono (Nat.le_succ _))); have c2 := HG2.out.one; clear ha hb HA1 HG1 HB1 c1)
    | (go_at_call 16; refine (add_any (w.heap.size + 1) (w.heap.size + 2) (w.heap.size + 3) _ _ _ _ _ _ _ _ HA2.out (by omega) (by omega) (by omega) (by omega) (by omega)).mono ?_; rintro r w3 ⟨rfl, ⟨v3, ha⟩, hb⟩; have HA3 := Lib.hid ha; have HG3 := Lib.hid (HG2.out.below hb (Nat.lt_succ_self _)); have HB3 := Lib.hid (HB2.out.trans (hb.mono (Nat.le_succ _))); have c3 := HG3.out.one; clear ha hb HA2 HG2 HB2 c2)
    | (go_at_call 16; refine (add_any (w.heap.size + 1) (w.heap.size + 2) (w.heap.size + 3) _ _ _ _ _ _ _ _ HA3.out (by omega) (by omega) (by omega) (by omega) (by omega)).mono ?_; rintro r w4 ⟨rfl, ⟨v4, ha⟩, hb⟩; have HA4 := Lib.hid ha; have HG4 := Lib.hid (HG3.out.below hb (Nat.lt_succ_self _)); have HB4 := Lib.hid (HB3.out.trans (hb.mono (Nat.le_succ _))); have c4 := HG4.out.one; clear ha hb HA3 HG3 HB3 c3))
  rw [rounds_succ]
  go_wp2_with (first
    | (go_at_call 16; refine (add_any (w.heap.size + 1) (w.heap.size + 2) (w.heap.size + 3) _ _ _ _ _ _ _ _ HA4.out (by omega) (by omega) (by omega) (by omega) (by omega)).mono ?_; rintro r w5 ⟨rfl, ⟨v5, ha⟩, hb⟩; have HA5 := Lib.hid ha; have HG5 := Lib.hid (HG4.out.below hb (Nat.lt_succ_self _)); have HB5 := Lib.hid (HB4.out.trans (hb.mono (Nat.le_succ _))); have c5 := HG5.out.one; clear ha hb HA4 HG4 HB4 c4)
    | (go_at_call 16; refine (add_any (w.heap.size + 1) (w.heap.size + 2) (w.heap.size + 3) _ _ _ _ _ _ _ _ HA5.out (by omega) (by omega) (by omega) (by omega) (by omega)).mono ?_; rintro r w6 ⟨rfl, ⟨v6, ha⟩, hb⟩; have HA6 := Lib.hid ha; have HG6 := Lib.hid (HG5.out.below hb (Nat.lt_succ_self _)); have HB6 := Lib.hid (HB5.out.trans (hb.mono (Nat.le_succ _))); have c6 := HG6.out.one; clear ha hb HA5 HG5 HB5 c5)
    | (go_at_call 16; refine (add_any (w.heap.size + 1) (w.heap.size + 2) (w.heap.size + 3) _ _ _ _ _ _ _ _ HA6.out (by omega) (by omega) (by omega) (by omega) (by omega)).mono ?_; rintro r w7 ⟨rfl, ⟨v7, ha⟩, hb⟩; have HA7 := Lib.hid ha; have HG7 := Lib.hid (HG6.out.below hb (Nat.lt_succ_self _)); have HB7 := Lib.hid (HB6.out.trans (hb.mono (Nat.le_succ _))); have c7 := HG7.out.one; clear ha hb HA6 HG6 HB6 c6))
  rw [rounds_succ]
  go_wp2_with (go_at_call 16; refine (add_any (w.heap.size + 1) (w.heap.size + 2) (w.heap.size + 3) _ _ _ _ _ _ _ _ HA7.out (by omega) (by omega) (by omega) (by omega) (by omega)).mono ?_; rintro r w8 ⟨rfl, ⟨v8, ha⟩, hb⟩; have HA8 := Lib.hid ha; have HG8 := Lib.hid (HG7.out.below hb (Nat.lt_succ_self _)); have HB8 := Lib.hid (HB7.out.trans (hb.mono (Nat.le_succ _))); have c8 := HG8.out.one; have d8 : w8.cell? ⟨w.heap.size + 1, 0, none⟩ = some v8 := HA8.out.row.cell 0; clear ha hb HA7 HG7 HB7 c7)
  have hl : ∀ e, (((((((([] ++ [(⟨1, 0, 0, 0 + 2⟩ : Pt)]) ++ [⟨2, 0, 0 + 2, 0 + 2 + 1⟩]) ++ [⟨3, 0, 0 + 2 + 1, 0 + 2 + 1 + 8⟩]) ++ [⟨4, 0, 0 + 2 + 1 + 8, 0 + 2 + 1 + 8 + n⟩]) ++ [⟨2, 1, 0 + 2 + 1 + 8 + n, 0 + 2 + 1 + 8 + n + 1⟩]) ++ [⟨3, 1, 0 + 2 + 1 + 8 + n + 1, 0 + 2 + 1 + 8 + n + 1 + 8⟩]) ++ [⟨4, 1, 0 + 2 + 1 + 8 + n + 1 + 8, 0 + 2 + 1 + 8 + n + 1 + 8 + n⟩]) ++ [⟨5, 0, 0 + 2 + 1 + 8 + n + 1 + 8 + n, e⟩]) = (partsL n).dropLast ++ [⟨5, 0, 20 + 2 * n, e⟩] := by
    intro e
    simp only [partsL, List.nil_append, List.cons_append, List.dropLast, List.cons.injEq, Pt.mk.injEq, and_true, true_and]
    omega
  obtain ⟨g, cp, rfl, -, hr⟩ := RdP.of_own HA8.out.own (by omega)
  rw [hl, show 0 + 2 + 1 + 8 + n + 1 + 8 + n + n = 20 + 3 * n by omega] at hr
  go_ret2
  exact ⟨⟨g, cp, rfl, hr⟩, HB8.out⟩
set_option maxRecDepth 8000 in
set_option maxHeartbeats 1000000 in
theorem size_any (n : Int) (w : World) : Calls Tryd.prog 11 #[plan n] w fun r w' => r = .returned (.tuple #[.int .i64 (if 1 ≤ n ∧ n ≤ 64 then 20 + 3 * n else 0), .int .i64 (if 1 ≤ n ∧ n ≤ 64 then 0 else 2)]) ∧ Below w.heap.size w w' := by
  have HB := Lib.hid ((Below.refl w.heap.size w).alloc (Nat.le_refl _) (.cells #[.int .i64 n] 23))
  by_cases h : 1 ≤ n ∧ n ≤ 64
  · rw [if_pos h, if_pos h]
    have H := Lib.hid h
    clear h
    go_enter Tryd.func11, Tryd.ntmps11
    go_wp2_with (go_at_call 9; refine (parts_yes n _ H.out).mono ?_; rintro r w1 ⟨⟨g, c, rfl, hr⟩, hb⟩; have HB1 := Lib.hid (HB.out.trans (hb.mono HB.out.size)); have c3 : w1.cell? ⟨g, 31, none⟩ = some (.int .i64 (20 + 3 * n)) := hr 7 _ rfl 3 _ rfl; clear hr hb)
    go_ret2
    exact ⟨rfl, HB1.out⟩
  · rw [if_neg h, if_neg h]
    have H := Lib.hid h
    clear h
    go_enter Tryd.func11, Tryd.ntmps11
    go_wp2_with (go_at_call 9; refine (parts_no n _ H.out).mono ?_; rintro r w1 ⟨rfl, hb⟩; have HB1 := Lib.hid (HB.out.trans (hb.mono HB.out.size)); clear hb)
    go_ret2
    exact ⟨rfl, HB1.out⟩
end Go.Proofs.YtpihllgdgolgpaaDoor

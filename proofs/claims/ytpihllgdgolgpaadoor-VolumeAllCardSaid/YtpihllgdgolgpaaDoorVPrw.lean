/- volume: a plan's parts, with the type of the row that holds them. -/
import Derived.Test.YtpihllgdgolgpaaDoorVPart
namespace Go.Proofs.YtpihllgdgolgpaaDoor
open Go.RowKit
attribute [local go_sem] Oper.semAt_some
/-- a row of parts, in a block of its own -/
def RdPt (w : World) (g : Nat) (l : List Pt) : Prop := (∃ cur, w.heap[g]? = some (.cells cur 40 (0, 0))) ∧ RdP w g l
set_option maxRecDepth 8000 in
theorem RdPt.of_own {w : World} {l : List Pt} {base n : Nat} {v : Value} (h : w.ownsRow base 40 4 v n (pcs l)) (hn : 0 < n) : ∃ g c, v = .slice (some ⟨g, 0, none⟩) n c ∧ base ≤ g ∧ RdPt w g l := by
  obtain ⟨g, c, rfl, hb, hr⟩ := RdP.of_own h hn
  obtain ⟨_, ⟨h1, _⟩ | ⟨g', cap, cur, he, _, hg, _⟩⟩ := h
  · cases h1
  cases he
  exact ⟨g, c, rfl, hb, ⟨cur, hg⟩, hr⟩
set_option maxRecDepth 8000 in
set_option maxHeartbeats 4000000 in
theorem parts_row (n : Int) (w : World) (h : 1 ≤ n ∧ n ≤ 64) :
    Calls Tryd.prog 9 #[plan n] w fun r w' => (∃ g c, r = .returned (.tuple #[.slice (some ⟨g, 0, none⟩) 8 c, .int .i64 0]) ∧ RdPt w' g (partsL n)) ∧ Below w.heap.size w w' := by
  have d0 : decide (n < 1) = false := decide_eq_false (by omega)
  have d1 : decide (64 < n) = false := decide_eq_false (by omega)
  have HG := Lib.hid (((Blk.new w 23 #[.int .i64 n]).alloc (.cells #[.slice none 0 0] 35)).alloc (.cells #[.int .i64 0] 3))
  have HB := Lib.hid ((((Below.refl w.heap.size w).alloc (Nat.le_refl _) (.cells #[.int .i64 n] 23)).alloc (by simp) (.cells #[.slice none 0 0] 35)).alloc (by simp; omega) (.cells #[.int .i64 0] 3))
  have HA := Lib.hid (show PA (((w.alloc (.cells #[.int .i64 n] 23)).alloc (.cells #[.slice none 0 0] 35)).alloc (.cells #[.int .i64 0] 3)) (w.heap.size + 1) (w.heap.size + 2) (w.heap.size + 3) (.slice none 0 0) 0 [] 0 from
    ⟨by have := (Blk.new (w.alloc (.cells #[.int .i64 n] 23)) 35 #[.slice none 0 0]).alloc (.cells #[.int .i64 0] 3); simpa using this,
     by have := Blk.new ((w.alloc (.cells #[.int .i64 n] 23)).alloc (.cells #[.slice none 0 0] 35)) 3 #[.int .i64 0]; simpa using this,
     World.ownsRow_nil _ _ _ _, by simp⟩)
  have c0 : (((w.alloc (.cells #[.int .i64 n] 23)).alloc (.cells #[.slice none 0 0] 35)).alloc (.cells #[.int .i64 0] 3)).cell? ⟨w.heap.size, 0, none⟩ = some (.int .i64 n) := HG.out.one
  go_enter Tryd.func9, Tryd.ntmps9
  go_wp2_with (go_at_call 16; refine (add_any (w.heap.size + 1) (w.heap.size + 2) (w.heap.size + 3) _ _ _ _ _ _ _ _ HA.out (by omega) (by omega) (by omega) (by omega) (by omega)).mono ?_; rintro r w1 ⟨rfl, ⟨v1, ha⟩, hb⟩; have HA1 := Lib.hid ha; have HG1 := Lib.hid (HG.out.below hb (Nat.lt_succ_self _)); have HB1 := Lib.hid (HB.out.trans (hb.mono (Nat.le_succ _))); have c1 := HG1.out.one; clear ha hb HA HG HB c0)
  refine wp_loop_rounds 3 ?_
  rw [rounds_succ]
  go_wp2_with (first
    | (go_at_call 16; refine (add_any (w.heap.size + 1) (w.heap.size + 2) (w.heap.size + 3) _ _ _ _ _ _ _ _ HA1.out (by omega) (by omega) (by omega) (by omega) (by omega)).mono ?_; rintro r w2 ⟨rfl, ⟨v2, ha⟩, hb⟩; have HA2 := Lib.hid ha; have HG2 := Lib.hid (HG1.out.below hb (Nat.lt_succ_self _)); have HB2 := Lib.hid (HB1.out.trans (hb.mono (Nat.le_succ _))); have c2 := HG2.out.one; clear ha hb HA1 HG1 HB1 c1)
    | (go_at_call 16; refine (add_any (w.heap.size + 1) (w.heap.size + 2) (w.heap.size + 3) _ _ _ _ _ _ _ _ HA2.out (by omega) (by omega) (by omega) (by omega) (by omega)).mono ?_; rintro r w3 ⟨rfl, ⟨v3, ha⟩, hb⟩; have HA3 := Lib.hid ha; have HG3 := Lib.hid (HG2.out.below hb (Nat.lt_succ_self _)); have HB3 := Lib.hid (HB2.out.trans (hb.mono (Nat.le_succ _))); have c3 := HG3.out.one; clear ha hb HA2 HG2 HB2 c2)
    | (go_at_call 16; refine (add_any (w.heap.size + 1) (w.heap.size + 2) (w.heap.size + 3) _ _ _ _ _ _ _ _ HA3.out (by omega) (by omega) (by omega) (by omega) (by omega)).mono ?_; rintro r w4 ⟨rfl, ⟨v4, ha⟩, hb⟩; have HA4 := Lib.hid ha; have HG4 := Lib.hid (HG3.out.below hb (Nat.lt_succ_self _)); have HB4 := Lib.hid (HB3.out.trans (hb.mono (Nat.le_succ _))); have c4 := HG4.out.one; clear ha hb HA3 HG3 HB3 c3))
  rw [rounds_succ]
  go_wp2_with (first
    | (go_at_call 16; refine (add_any (w.heap.size + 1) (w.heap.size + 2) (w.heap.size + 3) _ _ _ _ _ _ _ _ HA4.out (by omega) (by omega) (by omega) (by omega) (by omega)).mono ?_; rintro r w5 ⟨rfl, ⟨v5, ha⟩, hb⟩; have HA5 := Lib.hid ha; have HG5 := Lib.hid (HG4.out.below hb (Nat.lt_succ_self _)); have HB5 := Lib.hid (HB4.out.trans (hb.mono (Nat.le_succ _))); have c5 := HG5.out.one; clear ha hb HA4 HG4 HB4 c4)
    | (go_at_call 16; refine (add_any (w.heap.size + 1) (w.heap.size + 2) (w.heap.size + 3) _ _ _ _ _ _ _ _ HA5.out (by omega) (by omega) (by omega) (by omega) (by omega)).mono ?_; rintro r w6 ⟨rfl, ⟨v6, ha⟩, hb⟩; have HA6 := Lib.hid ha; have HG6 := Lib.hid (HG5.out.below hb (Nat.lt_succ_self _)); have HB6 := Lib.hid (HB5.out.trans (hb.mono (Nat.le_succ _))); have c6 := HG6.out.one; clear ha hb HA5 HG5 HB5 c5)
    | (go_at_call 16; refine (add_any (w.heap.size + 1) (w.heap.size + 2) (w.heap.size + 3) _ _ _ _ _ _ _ _ HA6.out (by omega) (by omega) (by omega) (by omega) (by omega)).mono ?_; rintro r w7 ⟨rfl, ⟨v7, ha⟩, hb⟩; have HA7 := Lib.hid ha; have HG7 := Lib.hid (HG6.out.below hb (Nat.lt_succ_self _)); have HB7 := Lib.hid (HB6.out.trans (hb.mono (Nat.le_succ _))); have c7 := HG7.out.one; clear ha hb HA6 HG6 HB6 c6))
  rw [rounds_succ]
  go_wp2_with (go_at_call 16; refine (add_any (w.heap.size + 1) (w.heap.size + 2) (w.heap.size + 3) _ _ _ _ _ _ _ _ HA7.out (by omega) (by omega) (by omega) (by omega) (by omega)).mono ?_; rintro r w8 ⟨rfl, ⟨v8, ha⟩, hb⟩; have HA8 := Lib.hid ha; have HG8 := Lib.hid (HG7.out.below hb (Nat.lt_succ_self _)); have HB8 := Lib.hid (HB7.out.trans (hb.mono (Nat.le_succ _))); have c8 := HG8.out.one; have d8 : w8.cell? ⟨w.heap.size + 1, 0, none⟩ = some v8 := HA8.out.row.cell 0; clear ha hb HA7 HG7 HB7 c7)
  have hl : ∀ e, (((((((([] ++ [(⟨1, 0, 0, 0 + 2⟩ : Pt)]) ++ [⟨2, 0, 0 + 2, 0 + 2 + 1⟩]) ++ [⟨3, 0, 0 + 2 + 1, 0 + 2 + 1 + 8⟩]) ++ [⟨4, 0, 0 + 2 + 1 + 8, 0 + 2 + 1 + 8 + n⟩]) ++ [⟨2, 1, 0 + 2 + 1 + 8 + n, 0 + 2 + 1 + 8 + n + 1⟩]) ++ [⟨3, 1, 0 + 2 + 1 + 8 + n + 1, 0 + 2 + 1 + 8 + n + 1 + 8⟩]) ++ [⟨4, 1, 0 + 2 + 1 + 8 + n + 1 + 8, 0 + 2 + 1 + 8 + n + 1 + 8 + n⟩]) ++ [⟨5, 0, 0 + 2 + 1 + 8 + n + 1 + 8 + n, e⟩]) = (partsL n).dropLast ++ [⟨5, 0, 20 + 2 * n, e⟩] := by
    intro e
    simp only [partsL, List.nil_append, List.cons_append, List.dropLast, List.cons.injEq, Pt.mk.injEq, and_true, true_and]
    omega
  obtain ⟨g, cp, rfl, -, hr⟩ := RdPt.of_own HA8.out.own (by omega)
  rw [hl, show 0 + 2 + 1 + 8 + n + 1 + 8 + n + n = 20 + 3 * n by omega] at hr
  go_ret2
  exact ⟨⟨g, cp, rfl, hr⟩, HB8.out⟩
end Go.Proofs.YtpihllgdgolgpaaDoor

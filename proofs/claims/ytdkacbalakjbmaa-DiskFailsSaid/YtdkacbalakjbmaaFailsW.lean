/- law 2: DiskFails, the walk. -/
import Derived.Test.YtdkacbalakjbmaaFailsS
namespace Go.Proofs.Ytdkacbalakjbmaa.diskFails
open Go.RowKit
attribute [local go_sem] Oper.semAt_some
set_option maxRecDepth 100000 in
set_option maxHeartbeats 4000000 in
theorem walk_pos (w : World) (q : Nat) (q1 : 1 ≤ q) (q2 : q ≤ 12) (A : Option Addr) (c : Nat) (l : List Int) (hl : l.length ≤ 20) (hr : RdI w A l) (hwf : ∀ x ∈ l, x ≤ 9223372036854775807) (m : Int) (hm : m ≤ 40) (hp : ∀ x ∈ l, 0 ≤ x) :
    Calls Try.prog 6 #[.int .i64 (q : Int), .slice A l.length c, .int .i64 m] w fun e w' => e = .returned (.bool true) ∧ Below w.heap.size w w' := by
  have hz := z43
  have HR := Lib.hid hr
  have HWF := Lib.hid hwf
  have HP := Lib.hid hp
  have d1 : decide (20 < (l.length : Int)) = false := by simp; omega
  have d2 : decide (40 < m) = false := by simpa using hm
  clear hr hwf hp
  go_enter Try.func6, Try.ntmps6
  go_wp2_with (first
    | (go_at_call 20; refine (small_yes _ q q1 q2).mono ?_; rintro e w' ⟨rfl, rfl⟩)
    | (go_at_call 21; refine (begun_nil w q q1 q2).mono ?_; rintro e w1 ⟨p, pl0, A1, c1, rfl, da, b1⟩; have S0 := Lib.hid (st_begin (A1 := A1) (n1 := q * 512) (c1 := c1) da b1); obtain ⟨b8, hb8⟩ : ∃ b, b = w1.heap.size := ⟨_, rfl⟩; have HB8 := Lib.hid hb8; clear da b1 hb8))
  have R0 := Lib.hid (show Rel (ofD (List.replicate (q * 512) 0) q q) 0 [] from ⟨rfl, rfl, fun _ _ _ => rfl⟩)
  go_wp2_with (go_at_call 27; refine (st_flush S0.out R0.out (by decide) 0 (.inr ⟨by simp, rfl⟩)).mono ?_; rintro e w2 ⟨rfl, pl1, D1, s1, r1⟩; have S1 := Lib.hid s1; have R1 := Lib.hid r1; have z0 := (Blk.cell s1.p8 0).trans (show _ = some (.slice A1 (q * 512) c1) from rfl); have y0 := Blk.frozen s1.p8 0; have z1 := (Blk.cell s1.p8 1).trans (show _ = some (.slice none 0 0) from rfl); have y1 := Blk.frozen s1.p8 1; have z2 := (Blk.cell s1.p8 2).trans (show _ = some (.int .i64 0) from rfl); have y2 := Blk.frozen s1.p8 2; have z3 := (Blk.cell s1.p8 3).trans (show _ = some (.slice none 0 0) from rfl); have y3 := Blk.frozen s1.p8 3; clear s1 r1)
  go_wp2_with (go_at_call 28; refine (show Calls Try.prog _ #[(.agg #[.slice A1 (q * 512) c1, .slice none 0 0, .int .i64 0, .slice none 0 0])] w2 (fun e w' => e = .returned (.tuple #[(.agg #[.slice A1 (q * 512) c1, .slice none 0 0, .int .i64 1, .slice none 0 0]), .int .i64 0]) ∧ Below w2.heap.size w2 w') from rflush_none w2 ⟨A1, q * 512, c1, none, 0, 0, none, 0, 0⟩ 0 [] rfl (Nat.zero_le _) (Nat.zero_le _) S1.out.ri ⟨rfl, rfl, rfl⟩ 0 (.inr ⟨by simp, rfl⟩)).mono ?_; rintro e w3 ⟨rfl, b3⟩; have S2 := Lib.hid (S1.out.below b3); clear b3 z0 z1 z2 z3 y0 y1 y2 y3; have z0 := (Blk.cell S2.out.p8 0).trans (show _ = some (.slice A1 (q * 512) c1) from rfl); have y0 := Blk.frozen S2.out.p8 0; have z1 := (Blk.cell S2.out.p8 1).trans (show _ = some (.slice none 0 0) from rfl); have y1 := Blk.frozen S2.out.p8 1; have z2 := (Blk.cell S2.out.p8 2).trans (show _ = some (.int .i64 0) from rfl); have y2 := Blk.frozen S2.out.p8 2; have z3 := (Blk.cell S2.out.p8 3).trans (show _ = some (.slice none 0 0) from rfl); have y3 := Blk.frozen S2.out.p8 3)
  have S3 := Lib.hid (S2.out.store (r' := ⟨A1, q * 512, c1, none, 0, 0, none, 0, 0⟩) (s' := 1) (fl' := []) (fun j hj => absurd hj (by simp)) rfl (fun b off e => nomatch e) ⟨rfl, rfl, rfl⟩ (Nat.zero_le _))
  clear z0 z1 z2 z3 y0 y1 y2 y3
  go_wp2_with (go_at_call 29; refine (st_fail_pos (S3.out.alloc (.cells #[.int .i64 1, .int .i64 3, .int .i64 4] 3)) R1.out (some ⟨w3.heap.size, 0, none⟩) 3 [1, 3, 4] (by decide) (rdI3' _ w3.heap.size (by simp [World.setCell])) (by decide)).mono ?_; rintro e w4 ⟨rfl, pl2, D2, s4, r4⟩; have S4 := Lib.hid s4; have R4 := Lib.hid r4; have z0 := (Blk.cell s4.p8 0).trans (show _ = some (.slice A1 (q * 512) c1) from rfl); have y0 := Blk.frozen s4.p8 0; have z1 := (Blk.cell s4.p8 1).trans (show _ = some (.slice none 0 0) from rfl); have y1 := Blk.frozen s4.p8 1; have z2 := (Blk.cell s4.p8 2).trans (show _ = some (.int .i64 1) from rfl); have y2 := Blk.frozen s4.p8 2; have z3 := (Blk.cell s4.p8 3).trans (show _ = some (.slice none 0 0) from rfl); have y3 := Blk.frozen s4.p8 3; clear s4 r4)
  go_wp2_with (go_at_call 30; refine (st_rfail_pos (S4.out.alloc (.cells #[.int .i64 1, .int .i64 3, .int .i64 4] 3)) (by decide) (some ⟨w4.heap.size, 0, none⟩) 3 [1, 3, 4] (by decide) (rdI3 w4) (by decide) (by decide)).mono ?_; rintro e w5 ⟨A3, c3, he5, s5, ri5, hd5⟩; have he6 : e = .returned (.tuple #[(.agg #[.slice A1 (q * 512) c1, .slice none 0 0, .int .i64 1, .slice A3 3 c3]), .int .i64 0]) := he5; subst he6; have S5 := Lib.hid s5; have RI5 := Lib.hid ri5; have HD5 := Lib.hid hd5; clear he5 z0 z1 z2 z3 y0 y1 y2 y3; have z0 := (Blk.cell s5.p8 0).trans (show _ = some (.slice A1 (q * 512) c1) from rfl); have y0 := Blk.frozen s5.p8 0; have z1 := (Blk.cell s5.p8 1).trans (show _ = some (.slice none 0 0) from rfl); have y1 := Blk.frozen s5.p8 1; have z2 := (Blk.cell s5.p8 2).trans (show _ = some (.int .i64 1) from rfl); have y2 := Blk.frozen s5.p8 2; have z3 := (Blk.cell s5.p8 3).trans (show _ = some (.slice none 0 0) from rfl); have y3 := Blk.frozen s5.p8 3; clear s5 ri5 hd5)
  have S6 := Lib.hid (S5.out.store (r' := ⟨A1, q * 512, c1, none, 0, 0, A3, 3, c3⟩) (s' := 1) (fl' := failR 1 [1, 3, 4]) RI5.out rfl HD5.out ⟨rfl, rfl, rfl⟩ (by show 3 ≤ 1000; decide))
  clear z0 z1 z2 z3 y0 y1 y2 y3
  go_wp2_with (go_at_call 29; refine (st_fail_pos S6.out R4.out A c l (by omega) (HR.out.below S6.out.be) HP.out).mono ?_; rintro e w7 ⟨rfl, pl3, D3, s7, r7⟩; have S7 := Lib.hid s7; have R7 := Lib.hid r7; have z0 := (Blk.cell s7.p8 0).trans (show _ = some (.slice A1 (q * 512) c1) from rfl); have y0 := Blk.frozen s7.p8 0; have z1 := (Blk.cell s7.p8 1).trans (show _ = some (.slice none 0 0) from rfl); have y1 := Blk.frozen s7.p8 1; have z2 := (Blk.cell s7.p8 2).trans (show _ = some (.int .i64 1) from rfl); have y2 := Blk.frozen s7.p8 2; have z3 := (Blk.cell s7.p8 3).trans (show _ = some (.slice A3 3 c3) from rfl); have y3 := Blk.frozen s7.p8 3; clear s7 r7)
  go_wp2_with (first
    | (go_at_call 30; refine (show Calls Try.prog _ #[(.agg #[.slice A1 (q * 512) c1, .slice none 0 0, .int .i64 1, .slice A3 3 c3]), .slice A l.length c] w7 _ from st_rfail_pos S7.out (by decide) A c l (by omega) (HR.out.below S7.out.be) HWF.out HP.out).mono ?_; rintro e w8 ⟨A4, c4, he5, s8, ri8, hd8⟩; obtain ⟨fl, hfl⟩ : ∃ fl, fl = failR 1 l := ⟨_, rfl⟩; rw [← hfl] at he5 ri8; have he6 : e = .returned (.tuple #[(.agg #[.slice A1 (q * 512) c1, .slice none 0 0, .int .i64 1, .slice A4 fl.length c4]), .int .i64 0]) := he5; subst he6; have S8 := Lib.hid s8; have RI8 := Lib.hid ri8; have HD8 := Lib.hid hd8; have HFL := Lib.hid hfl; clear hfl he5 z0 z1 z2 z3 y0 y1 y2 y3; have z0 := (Blk.cell s8.p8 0).trans (show _ = some (.slice A1 (q * 512) c1) from rfl); have y0 := Blk.frozen s8.p8 0; have z1 := (Blk.cell s8.p8 1).trans (show _ = some (.slice none 0 0) from rfl); have y1 := Blk.frozen s8.p8 1; have z2 := (Blk.cell s8.p8 2).trans (show _ = some (.int .i64 1) from rfl); have y2 := Blk.frozen s8.p8 2; have z3 := (Blk.cell s8.p8 3).trans (show _ = some (.slice A3 3 c3) from rfl); have y3 := Blk.frozen s8.p8 3; clear s8 ri8 hd8)
    | (go_at_call 14; refine (num_any _ _).mono ?_; rintro e w' ⟨rfl, rfl⟩))
  have R8 := Lib.hid (show Rel D3 1 fl from HFL.out ▸ R7.out)
  have FLL := Lib.hid (show fl.length ≤ 1000 by have := failR_len 1 l; rw [HFL.out]; omega)
  have S9 := Lib.hid (S8.out.store (r' := ⟨A1, q * 512, c1, none, 0, 0, A4, fl.length, c4⟩) (s' := 1) (fl' := fl) RI8.out rfl HD8.out ⟨rfl, rfl, rfl⟩ FLL.out)
  clear z0 z1 z2 z3 y0 y1 y2 y3
  go_loopw [12] (fun i wr => ∃ k : Nat, k ≤ 40 ∧ i = .int .i64 k ∧ ∃ pl D, St w wr p w1.heap.size pl D ⟨A1, q * 512, c1, none, 0, 0, A4, fl.length, c4⟩ (1 + k) fl ∧ Rel D (1 + k) fl) (fun i _ => 41 - (intOf i).toNat)
  case atStart => exact ⟨0, by omega, rfl, pl3, D3, S9.out, R8.out⟩
  case round =>
    obtain ⟨k, hk, rfl, pl, D, hst, hrl⟩ := hrel
    clear S0 R0 S1 R1 S2 S3 S4 R4 S5 RI5 HD5 S6 S7 R7 RI8 HD8 FLL S8 R8 S9 HB8 HFL HR HWF HP
    by_cases hkm : (k : Int) < m
    · have d3 : decide ((k : Int) < m) = true := by simpa using hkm
      obtain ⟨t, ht⟩ : ∃ t, t = 1 + k := ⟨_, rfl⟩
      rw [← ht] at hst hrl
      have HT := Lib.hid ht
      have T40 := Lib.hid (show t ≤ 1000 by omega)
      have HKM := Lib.hid hkm
      obtain ⟨no, hno⟩ : ∃ no : Int, ((t : Int) ∈ fl ∧ no = 120) ∨ (¬ ((t : Int) ∈ fl) ∧ no = 0) := by
        by_cases h : (t : Int) ∈ fl
        · exact ⟨120, .inl ⟨h, rfl⟩⟩
        · exact ⟨0, .inr ⟨h, rfl⟩⟩
      have HNO := Lib.hid hno
      have SR := Lib.hid hst
      have RL := Lib.hid hrl
      have z0 := (Blk.cell hst.p8 0).trans (show _ = some (.slice A1 (q * 512) c1) from rfl)
      have y0 := Blk.frozen hst.p8 0
      have z1 := (Blk.cell hst.p8 1).trans (show _ = some (.slice none 0 0) from rfl)
      have y1 := Blk.frozen hst.p8 1
      have z2 := (Blk.cell hst.p8 2).trans (show _ = some (.int .i64 (t : Int)) from rfl)
      have y2 := Blk.frozen hst.p8 2
      have z3 := (Blk.cell hst.p8 3).trans (show _ = some (.slice A4 fl.length c4) from rfl)
      have y3 := Blk.frozen hst.p8 3
      clear ht hno hst hrl hkm
      go_wp2_with (go_at_call 28; refine (show Calls Try.prog _ #[(.agg #[.slice A1 (q * 512) c1, .slice none 0 0, .int .i64 (t : Int), .slice A4 fl.length c4])] wr (fun e w' => e = .returned (.tuple #[(.agg #[.slice A1 (q * 512) c1, .slice none 0 0, .int .i64 ((t : Int) + 1), .slice A4 fl.length c4]), .int .i64 no]) ∧ Below wr.heap.size wr w') from rflush_none wr ⟨A1, q * 512, c1, none, 0, 0, A4, fl.length, c4⟩ t fl SR.out.n3 (Nat.le_trans SR.out.sm (by decide)) (by have := T40.out; omega) SR.out.ri ⟨rfl, rfl, rfl⟩ no HNO.out).mono ?_; rintro e w3 ⟨rfl, b3⟩; have SB := Lib.hid ((SR.out.below b3).alloc (.cells #[.slice A1 (q * 512) c1, .slice none 0 0, .int .i64 ((t : Int) + 1), .slice A4 fl.length c4] 43)); clear b3 z0 z1 z2 z3 y0 y1 y2 y3; have z0 := (Blk.cell SB.out.p8 0).trans (show _ = some (.slice A1 (q * 512) c1) from rfl); have y0 := Blk.frozen SB.out.p8 0; have z1 := (Blk.cell SB.out.p8 1).trans (show _ = some (.slice none 0 0) from rfl); have y1 := Blk.frozen SB.out.p8 1; have z2 := (Blk.cell SB.out.p8 2).trans (show _ = some (.int .i64 (t : Int)) from rfl); have y2 := Blk.frozen SB.out.p8 2; have z3 := (Blk.cell SB.out.p8 3).trans (show _ = some (.slice A4 fl.length c4) from rfl); have y3 := Blk.frozen SB.out.p8 3)
      have SC := Lib.hid (show St w (((((w3.alloc (.cells #[.slice A1 (q * 512) c1, .slice none 0 0, .int .i64 ((t : Int) + 1), .slice A4 fl.length c4] 43)).setCell ⟨w1.heap.size, 0, none⟩ (.slice A1 (q * 512) c1)).setCell ⟨w1.heap.size, 1, none⟩ (.slice none 0 0)).setCell ⟨w1.heap.size, 2, none⟩ (.int .i64 ((t : Int) + 1))).setCell ⟨w1.heap.size, 3, none⟩ (.slice A4 fl.length c4)) p w1.heap.size pl D ⟨A1, q * 512, c1, none, 0, 0, A4, fl.length, c4⟩ (t + 1) fl from SB.out.store (r' := ⟨A1, q * 512, c1, none, 0, 0, A4, fl.length, c4⟩) (s' := t + 1) (fl' := fl) SB.out.ri SB.out.n3 SB.out.hd ⟨rfl, rfl, rfl⟩ SB.out.sm)
      generalize (((((w3.alloc (.cells #[.slice A1 (q * 512) c1, .slice none 0 0, .int .i64 ((t : Int) + 1), .slice A4 fl.length c4] 43)).setCell ⟨w1.heap.size, 0, none⟩ (.slice A1 (q * 512) c1)).setCell ⟨w1.heap.size, 1, none⟩ (.slice none 0 0)).setCell ⟨w1.heap.size, 2, none⟩ (.int .i64 ((t : Int) + 1))).setCell ⟨w1.heap.size, 3, none⟩ (.slice A4 fl.length c4)) = W5 at SC ⊢
      clear z0 z1 z2 z3 y0 y1 y2 y3 SB
      refine wp_region_only (S := fun w' => w'.cell? ⟨w1.heap.size, 2, none⟩ = some (.int .i64 ((t : Int) + 1))) (by kernel_rfl) ((Blk.cell (drew_blk SC.out.p8) 2).trans rfl) (fun hHeld => ?_)
      refine wpAnyH_take (i := 0) (v := ?v1) rfl (by kernel_rfl) (by kernel_rfl) (by kernel_rfl) (fun _ _ _ h => h) (Or.inl ⟨by rfl, ?hy1⟩) hHeld ?rest1
      case hy1 =>
        intro w' hSw
        try dsimp only at hSw
        go_simp
        first | done | with_reducible rfl
      try simp only [Act.put, List.getElem_toArray, List.getElem_cons_zero, List.setIfInBounds_toArray, List.set_cons_zero, List.set_cons_succ]
      refine wpAnyH_take (i := 3) (v := ?v2) rfl (by kernel_rfl) (by kernel_rfl) (by kernel_rfl) (fun _ _ _ h => h) (Or.inl ⟨by rfl, ?hy2⟩) hHeld ?rest2
      case hy2 =>
        intro w' hSw
        try dsimp only at hSw
        go_simp
        first | done | with_reducible rfl
      try simp only [Act.put, List.getElem_toArray, List.getElem_cons_succ, List.getElem_cons_zero, List.setIfInBounds_toArray, List.set_cons_zero, List.set_cons_succ]
      refine wpAnyH_ready (rs := [1]) (by kernel_rfl) (by simp) ?_
      refine AllReadyH.cons (by rfl) (fun K hK => ?_) AllReadyH.nil
      go_simp
      refine (st_flush SC.out.drew RL.out T40.out no HNO.out).mono ?_
      rintro e w6 ⟨rfl, pl6, D6, s6, r6⟩
      have S6 := Lib.hid s6
      have R6 := Lib.hid r6
      clear s6 r6
      go_wp2_with fail
      refine hK.out _ _ ((Blk.cell S6.out.p8 2).trans rfl) (fun hHeld => ?_)
      clear hK K
      try simp only [Act.put, List.getElem_toArray, List.getElem_cons_succ, List.getElem_cons_zero, List.setIfInBounds_toArray, List.set_cons_zero, List.set_cons_succ]
      refine wpAnyH_ready (rs := [2]) (by kernel_rfl) (by simp) ?_
      refine AllReadyH.cons (by rfl) (fun K hK => ?_) AllReadyH.nil
      go_simp
      refine (num_any _ _).mono ?_
      rintro e w' ⟨rfl, rfl⟩
      go_wp2_with fail
      refine hK.out _ _ hHeld (fun hHeld => ?_)
      clear hK K
      try simp only [Act.put, List.getElem_toArray, List.getElem_cons_succ, List.getElem_cons_zero, List.setIfInBounds_toArray, List.set_cons_zero, List.set_cons_succ]
      refine wpAnyH_take (i := 4) (v := ?v3) rfl (by kernel_rfl) (by kernel_rfl) (by kernel_rfl) (fun _ _ _ h => h) (Or.inl ⟨by rfl, ?hy3⟩) hHeld ?rest3
      case hy3 =>
        intro w' hSw
        try dsimp only at hSw
        go_simp
        first | done | with_reducible rfl
      try simp only [Act.put, List.getElem_toArray, List.getElem_cons_succ, List.getElem_cons_zero, List.setIfInBounds_toArray, List.set_cons_zero, List.set_cons_succ]
      refine wpAnyH_take (i := 5) (v := ?v4) rfl (by kernel_rfl) (by kernel_rfl) (by kernel_rfl) (fun _ _ _ h => h) (Or.inl ⟨by rfl, ?hy4⟩) hHeld ?rest4
      case hy4 =>
        intro w' hSw
        try dsimp only at hSw
        go_simp
        first | done | with_reducible rfl
      try simp only [Act.put, List.getElem_toArray, List.getElem_cons_succ, List.getElem_cons_zero, List.setIfInBounds_toArray, List.set_cons_zero, List.set_cons_succ]
      refine wpAnyH_take (i := 6) (v := ?v5) rfl (by kernel_rfl) (by kernel_rfl) (by kernel_rfl) (fun _ _ _ h => h) (Or.inl ⟨by rfl, ?hy5⟩) hHeld ?rest5
      case hy5 =>
        intro w' hSw
        try dsimp only at hSw
        go_simp
        first | done | with_reducible rfl
      try simp only [Act.put, List.getElem_toArray, List.getElem_cons_succ, List.getElem_cons_zero, List.setIfInBounds_toArray, List.set_cons_zero, List.set_cons_succ]
      refine wpAnyH_take (i := 8) (v := ?v6) rfl (by kernel_rfl) (by kernel_rfl) (by kernel_rfl) (fun _ _ _ h => h) (Or.inl ⟨by rfl, ?hy6⟩) hHeld ?rest6
      case hy6 =>
        intro w' hSw
        try dsimp only at hSw
        go_simp
        first | done | with_reducible rfl
      try simp only [Act.put, List.getElem_toArray, List.getElem_cons_succ, List.getElem_cons_zero, List.setIfInBounds_toArray, List.set_cons_zero, List.set_cons_succ]
      refine wpAnyH_take (i := 9) (v := ?v7) rfl (by kernel_rfl) (by kernel_rfl) (by kernel_rfl) (fun _ _ _ h => h) (Or.inl ⟨by rfl, ?hy7⟩) hHeld ?rest7
      case hy7 =>
        intro w' hSw
        try dsimp only at hSw
        go_simp
        first | done | with_reducible rfl
      try simp only [Act.put, List.getElem_toArray, List.getElem_cons_succ, List.getElem_cons_zero, List.setIfInBounds_toArray, List.set_cons_zero, List.set_cons_succ]
      refine wpAnyH_ready (rs := [7]) (by kernel_rfl) (by simp) ?_
      refine AllReadyH.cons (by rfl) (fun K hK => ?_) AllReadyH.nil
      go_simp
      refine (show Calls Try.prog _ _ w6 fun e w' => e = .returned (.int .i64 ((t : Int) + 1)) ∧ w6 = w' from by have h := steps_at S6.out.da; rw [R6.out.1] at h; exact h).mono ?_
      rintro e w' ⟨rfl, rfl⟩
      go_wp2_with fail
      refine hK.out _ _ hHeld (fun hHeld => ?_)
      clear hK K
      try simp only [Act.put, List.getElem_toArray, List.getElem_cons_succ, List.getElem_cons_zero, List.setIfInBounds_toArray, List.set_cons_zero, List.set_cons_succ]
      refine wpAnyH_take (i := 10) (v := ?v8) rfl (by kernel_rfl) (by kernel_rfl) (by kernel_rfl) (fun _ _ _ h => h) (Or.inl ⟨by rfl, ?hy8⟩) hHeld ?rest8
      case hy8 =>
        intro w' hSw
        try dsimp only at hSw
        go_simp
        first | done | with_reducible rfl
      try simp only [Act.put, List.getElem_toArray, List.getElem_cons_succ, List.getElem_cons_zero, List.setIfInBounds_toArray, List.set_cons_zero, List.set_cons_succ]
      refine wpAnyH_take (i := 11) (v := ?v9) rfl (by kernel_rfl) (by kernel_rfl) (by kernel_rfl) (fun _ _ _ h => h) (Or.inl ⟨by rfl, ?hy9⟩) hHeld ?rest9
      case hy9 =>
        intro w' hSw
        try dsimp only at hSw
        go_simp
        first | done | with_reducible rfl
      try simp only [Act.put, List.getElem_toArray, List.getElem_cons_succ, List.getElem_cons_zero, List.setIfInBounds_toArray, List.set_cons_zero, List.set_cons_succ]
      refine wpAnyH_done (by kernel_rfl) ?_ _
      refine OnlyN.normal ?_
      clear hHeld
      go_wp2
      go_roundw
      case rel => exact ⟨k + 1, by have := HKM.out; omega, by go_num, pl6, D6, (show t + 1 = 1 + (k + 1) by have := HT.out; omega) ▸ S6.out, (show t + 1 = 1 + (k + 1) by have := HT.out; omega) ▸ R6.out⟩
      case measure => simp [intOf]; omega
    · have d3 : decide ((k : Int) < m) = false := by simpa using hkm
      have BE := Lib.hid hst.be
      clear hst hrl hkm
      go_wp2_with (go_at_call 11; refine (works_any _).mono ?_; rintro e w9 ⟨rfl, hb9⟩; have LZ := Lib.hid (BE.out.trans (hb9.mono BE.out.size)))
      go_ret
      exact ⟨rfl, LZ.out⟩
set_option maxRecDepth 100000 in
set_option maxHeartbeats 4000000 in
theorem walk_neg (w : World) (q : Nat) (q1 : 1 ≤ q) (q2 : q ≤ 12) (A : Option Addr) (c : Nat) (l : List Int) (hl : l.length ≤ 20) (hr : RdI w A l) (hwf : ∀ x ∈ l, x ≤ 9223372036854775807) (m : Int) (hm : m ≤ 40) (hp : ∃ x ∈ l, x < 0) :
    Calls Try.prog 6 #[.int .i64 (q : Int), .slice A l.length c, .int .i64 m] w fun e w' => e = .returned (.bool true) ∧ Below w.heap.size w w' := by
  have hz := z43
  have HR := Lib.hid hr
  have HWF := Lib.hid hwf
  have HP := Lib.hid hp
  have d1 : decide (20 < (l.length : Int)) = false := by simp; omega
  have d2 : decide (40 < m) = false := by simpa using hm
  clear hr hwf hp
  go_enter Try.func6, Try.ntmps6
  go_wp2_with (first
    | (go_at_call 20; refine (small_yes _ q q1 q2).mono ?_; rintro e w' ⟨rfl, rfl⟩)
    | (go_at_call 21; refine (begun_nil w q q1 q2).mono ?_; rintro e w1 ⟨p, pl0, A1, c1, rfl, da, b1⟩; have S0 := Lib.hid (st_begin (A1 := A1) (n1 := q * 512) (c1 := c1) da b1); obtain ⟨b8, hb8⟩ : ∃ b, b = w1.heap.size := ⟨_, rfl⟩; have HB8 := Lib.hid hb8; clear da b1 hb8))
  have R0 := Lib.hid (show Rel (ofD (List.replicate (q * 512) 0) q q) 0 [] from ⟨rfl, rfl, fun _ _ _ => rfl⟩)
  go_wp2_with (go_at_call 27; refine (st_flush S0.out R0.out (by decide) 0 (.inr ⟨by simp, rfl⟩)).mono ?_; rintro e w2 ⟨rfl, pl1, D1, s1, r1⟩; have S1 := Lib.hid s1; have R1 := Lib.hid r1; have z0 := (Blk.cell s1.p8 0).trans (show _ = some (.slice A1 (q * 512) c1) from rfl); have y0 := Blk.frozen s1.p8 0; have z1 := (Blk.cell s1.p8 1).trans (show _ = some (.slice none 0 0) from rfl); have y1 := Blk.frozen s1.p8 1; have z2 := (Blk.cell s1.p8 2).trans (show _ = some (.int .i64 0) from rfl); have y2 := Blk.frozen s1.p8 2; have z3 := (Blk.cell s1.p8 3).trans (show _ = some (.slice none 0 0) from rfl); have y3 := Blk.frozen s1.p8 3; clear s1 r1)
  go_wp2_with (go_at_call 28; refine (show Calls Try.prog _ #[(.agg #[.slice A1 (q * 512) c1, .slice none 0 0, .int .i64 0, .slice none 0 0])] w2 (fun e w' => e = .returned (.tuple #[(.agg #[.slice A1 (q * 512) c1, .slice none 0 0, .int .i64 1, .slice none 0 0]), .int .i64 0]) ∧ Below w2.heap.size w2 w') from rflush_none w2 ⟨A1, q * 512, c1, none, 0, 0, none, 0, 0⟩ 0 [] rfl (Nat.zero_le _) (Nat.zero_le _) S1.out.ri ⟨rfl, rfl, rfl⟩ 0 (.inr ⟨by simp, rfl⟩)).mono ?_; rintro e w3 ⟨rfl, b3⟩; have S2 := Lib.hid (S1.out.below b3); clear b3 z0 z1 z2 z3 y0 y1 y2 y3; have z0 := (Blk.cell S2.out.p8 0).trans (show _ = some (.slice A1 (q * 512) c1) from rfl); have y0 := Blk.frozen S2.out.p8 0; have z1 := (Blk.cell S2.out.p8 1).trans (show _ = some (.slice none 0 0) from rfl); have y1 := Blk.frozen S2.out.p8 1; have z2 := (Blk.cell S2.out.p8 2).trans (show _ = some (.int .i64 0) from rfl); have y2 := Blk.frozen S2.out.p8 2; have z3 := (Blk.cell S2.out.p8 3).trans (show _ = some (.slice none 0 0) from rfl); have y3 := Blk.frozen S2.out.p8 3)
  have S3 := Lib.hid (S2.out.store (r' := ⟨A1, q * 512, c1, none, 0, 0, none, 0, 0⟩) (s' := 1) (fl' := []) (fun j hj => absurd hj (by simp)) rfl (fun b off e => nomatch e) ⟨rfl, rfl, rfl⟩ (Nat.zero_le _))
  clear z0 z1 z2 z3 y0 y1 y2 y3
  go_wp2_with (go_at_call 29; refine (st_fail_pos (S3.out.alloc (.cells #[.int .i64 1, .int .i64 3, .int .i64 4] 3)) R1.out (some ⟨w3.heap.size, 0, none⟩) 3 [1, 3, 4] (by decide) (rdI3' _ w3.heap.size (by simp [World.setCell])) (by decide)).mono ?_; rintro e w4 ⟨rfl, pl2, D2, s4, r4⟩; have S4 := Lib.hid s4; have R4 := Lib.hid r4; have z0 := (Blk.cell s4.p8 0).trans (show _ = some (.slice A1 (q * 512) c1) from rfl); have y0 := Blk.frozen s4.p8 0; have z1 := (Blk.cell s4.p8 1).trans (show _ = some (.slice none 0 0) from rfl); have y1 := Blk.frozen s4.p8 1; have z2 := (Blk.cell s4.p8 2).trans (show _ = some (.int .i64 1) from rfl); have y2 := Blk.frozen s4.p8 2; have z3 := (Blk.cell s4.p8 3).trans (show _ = some (.slice none 0 0) from rfl); have y3 := Blk.frozen s4.p8 3; clear s4 r4)
  go_wp2_with (go_at_call 30; refine (st_rfail_pos (S4.out.alloc (.cells #[.int .i64 1, .int .i64 3, .int .i64 4] 3)) (by decide) (some ⟨w4.heap.size, 0, none⟩) 3 [1, 3, 4] (by decide) (rdI3 w4) (by decide) (by decide)).mono ?_; rintro e w5 ⟨A3, c3, he5, s5, ri5, hd5⟩; have he6 : e = .returned (.tuple #[(.agg #[.slice A1 (q * 512) c1, .slice none 0 0, .int .i64 1, .slice A3 3 c3]), .int .i64 0]) := he5; subst he6; have S5 := Lib.hid s5; have RI5 := Lib.hid ri5; have HD5 := Lib.hid hd5; clear he5 z0 z1 z2 z3 y0 y1 y2 y3; have z0 := (Blk.cell s5.p8 0).trans (show _ = some (.slice A1 (q * 512) c1) from rfl); have y0 := Blk.frozen s5.p8 0; have z1 := (Blk.cell s5.p8 1).trans (show _ = some (.slice none 0 0) from rfl); have y1 := Blk.frozen s5.p8 1; have z2 := (Blk.cell s5.p8 2).trans (show _ = some (.int .i64 1) from rfl); have y2 := Blk.frozen s5.p8 2; have z3 := (Blk.cell s5.p8 3).trans (show _ = some (.slice none 0 0) from rfl); have y3 := Blk.frozen s5.p8 3; clear s5 ri5 hd5)
  have S6 := Lib.hid (S5.out.store (r' := ⟨A1, q * 512, c1, none, 0, 0, A3, 3, c3⟩) (s' := 1) (fl' := failR 1 [1, 3, 4]) RI5.out rfl HD5.out ⟨rfl, rfl, rfl⟩ (by show 3 ≤ 1000; decide))
  clear z0 z1 z2 z3 y0 y1 y2 y3
  go_wp2_with (go_at_call 29; refine (st_fail_neg S6.out A c l (by omega) (HR.out.below S6.out.be) HP.out).mono ?_; rintro e w7 ⟨rfl, s7⟩; have S7 := Lib.hid s7; have z0 := (Blk.cell s7.p8 0).trans (show _ = some (.slice A1 (q * 512) c1) from rfl); have y0 := Blk.frozen s7.p8 0; have z1 := (Blk.cell s7.p8 1).trans (show _ = some (.slice none 0 0) from rfl); have y1 := Blk.frozen s7.p8 1; have z2 := (Blk.cell s7.p8 2).trans (show _ = some (.int .i64 1) from rfl); have y2 := Blk.frozen s7.p8 2; have z3 := (Blk.cell s7.p8 3).trans (show _ = some (.slice A3 3 c3) from rfl); have y3 := Blk.frozen s7.p8 3; clear s7)
  go_wp2_with (first
    | (go_at_call 30; refine (show Calls Try.prog _ #[(.agg #[.slice A1 (q * 512) c1, .slice none 0 0, .int .i64 1, .slice A3 3 c3]), .slice A l.length c] w7 (fun e W' => e = .returned (.tuple #[(.agg #[.slice A1 (q * 512) c1, .slice none 0 0, .int .i64 1, .slice A3 3 c3]), .int .i64 2]) ∧ St w W' p w1.heap.size pl2 D2 ⟨A1, q * 512, c1, none, 0, 0, A3, 3, c3⟩ 1 (failR 1 [1, 3, 4])) from st_rfail_neg S7.out (by decide) A c l (by omega) (HR.out.below S7.out.be) HWF.out HP.out).mono ?_; rintro e w8 ⟨rfl, s8⟩; have S8 := Lib.hid s8; clear z0 z1 z2 z3 y0 y1 y2 y3; have z0 := (Blk.cell s8.p8 0).trans (show _ = some (.slice A1 (q * 512) c1) from rfl); have y0 := Blk.frozen s8.p8 0; have z1 := (Blk.cell s8.p8 1).trans (show _ = some (.slice none 0 0) from rfl); have y1 := Blk.frozen s8.p8 1; have z2 := (Blk.cell s8.p8 2).trans (show _ = some (.int .i64 1) from rfl); have y2 := Blk.frozen s8.p8 2; have z3 := (Blk.cell s8.p8 3).trans (show _ = some (.slice A3 3 c3) from rfl); have y3 := Blk.frozen s8.p8 3; clear s8)
    | (go_at_call 14; refine (num_any _ _).mono ?_; rintro e w' ⟨rfl, rfl⟩))
  obtain ⟨fl, hfl⟩ : ∃ fl, fl = failR 1 [1, 3, 4] := ⟨_, rfl⟩
  have R8 := R4
  rw [← hfl] at S8 R8
  have HFL := Lib.hid hfl
  clear hfl
  have S9 := Lib.hid (S8.out.store (r' := ⟨A1, q * 512, c1, none, 0, 0, A3, 3, c3⟩) (s' := 1) (fl' := fl) S8.out.ri S8.out.n3 S8.out.hd ⟨rfl, rfl, rfl⟩ S8.out.sm)
  clear z0 z1 z2 z3 y0 y1 y2 y3
  go_loopw [12] (fun i wr => ∃ k : Nat, k ≤ 40 ∧ i = .int .i64 k ∧ ∃ pl D, St w wr p w1.heap.size pl D ⟨A1, q * 512, c1, none, 0, 0, A3, 3, c3⟩ (1 + k) fl ∧ Rel D (1 + k) fl) (fun i _ => 41 - (intOf i).toNat)
  case atStart => exact ⟨0, by omega, rfl, pl2, D2, S9.out, R8.out⟩
  case round =>
    obtain ⟨k, hk, rfl, pl, D, hst, hrl⟩ := hrel
    clear S0 R0 S1 R1 S2 S3 S4 R4 S5 RI5 HD5 S6 S7 S8 R8 S9 HB8 HFL HR HWF HP
    by_cases hkm : (k : Int) < m
    · have d3 : decide ((k : Int) < m) = true := by simpa using hkm
      obtain ⟨t, ht⟩ : ∃ t, t = 1 + k := ⟨_, rfl⟩
      rw [← ht] at hst hrl
      have HT := Lib.hid ht
      have T40 := Lib.hid (show t ≤ 1000 by omega)
      have HKM := Lib.hid hkm
      obtain ⟨no, hno⟩ : ∃ no : Int, ((t : Int) ∈ fl ∧ no = 120) ∨ (¬ ((t : Int) ∈ fl) ∧ no = 0) := by
        by_cases h : (t : Int) ∈ fl
        · exact ⟨120, .inl ⟨h, rfl⟩⟩
        · exact ⟨0, .inr ⟨h, rfl⟩⟩
      have HNO := Lib.hid hno
      have SR := Lib.hid hst
      have RL := Lib.hid hrl
      have z0 := (Blk.cell hst.p8 0).trans (show _ = some (.slice A1 (q * 512) c1) from rfl)
      have y0 := Blk.frozen hst.p8 0
      have z1 := (Blk.cell hst.p8 1).trans (show _ = some (.slice none 0 0) from rfl)
      have y1 := Blk.frozen hst.p8 1
      have z2 := (Blk.cell hst.p8 2).trans (show _ = some (.int .i64 (t : Int)) from rfl)
      have y2 := Blk.frozen hst.p8 2
      have z3 := (Blk.cell hst.p8 3).trans (show _ = some (.slice A3 3 c3) from rfl)
      have y3 := Blk.frozen hst.p8 3
      clear ht hno hst hrl hkm
      go_wp2_with (go_at_call 28; refine (show Calls Try.prog _ #[(.agg #[.slice A1 (q * 512) c1, .slice none 0 0, .int .i64 (t : Int), .slice A3 3 c3])] wr (fun e w' => e = .returned (.tuple #[(.agg #[.slice A1 (q * 512) c1, .slice none 0 0, .int .i64 ((t : Int) + 1), .slice A3 3 c3]), .int .i64 no]) ∧ Below wr.heap.size wr w') from rflush_none wr ⟨A1, q * 512, c1, none, 0, 0, A3, 3, c3⟩ t fl SR.out.n3 (Nat.le_trans SR.out.sm (by decide)) (by have := T40.out; omega) SR.out.ri ⟨rfl, rfl, rfl⟩ no HNO.out).mono ?_; rintro e w3 ⟨rfl, b3⟩; have SB := Lib.hid ((SR.out.below b3).alloc (.cells #[.slice A1 (q * 512) c1, .slice none 0 0, .int .i64 ((t : Int) + 1), .slice A3 3 c3] 43)); clear b3 z0 z1 z2 z3 y0 y1 y2 y3; have z0 := (Blk.cell SB.out.p8 0).trans (show _ = some (.slice A1 (q * 512) c1) from rfl); have y0 := Blk.frozen SB.out.p8 0; have z1 := (Blk.cell SB.out.p8 1).trans (show _ = some (.slice none 0 0) from rfl); have y1 := Blk.frozen SB.out.p8 1; have z2 := (Blk.cell SB.out.p8 2).trans (show _ = some (.int .i64 (t : Int)) from rfl); have y2 := Blk.frozen SB.out.p8 2; have z3 := (Blk.cell SB.out.p8 3).trans (show _ = some (.slice A3 3 c3) from rfl); have y3 := Blk.frozen SB.out.p8 3)
      have SC := Lib.hid (show St w (((((w3.alloc (.cells #[.slice A1 (q * 512) c1, .slice none 0 0, .int .i64 ((t : Int) + 1), .slice A3 3 c3] 43)).setCell ⟨w1.heap.size, 0, none⟩ (.slice A1 (q * 512) c1)).setCell ⟨w1.heap.size, 1, none⟩ (.slice none 0 0)).setCell ⟨w1.heap.size, 2, none⟩ (.int .i64 ((t : Int) + 1))).setCell ⟨w1.heap.size, 3, none⟩ (.slice A3 3 c3)) p w1.heap.size pl D ⟨A1, q * 512, c1, none, 0, 0, A3, 3, c3⟩ (t + 1) fl from SB.out.store (r' := ⟨A1, q * 512, c1, none, 0, 0, A3, 3, c3⟩) (s' := t + 1) (fl' := fl) SB.out.ri SB.out.n3 SB.out.hd ⟨rfl, rfl, rfl⟩ SB.out.sm)
      generalize (((((w3.alloc (.cells #[.slice A1 (q * 512) c1, .slice none 0 0, .int .i64 ((t : Int) + 1), .slice A3 3 c3] 43)).setCell ⟨w1.heap.size, 0, none⟩ (.slice A1 (q * 512) c1)).setCell ⟨w1.heap.size, 1, none⟩ (.slice none 0 0)).setCell ⟨w1.heap.size, 2, none⟩ (.int .i64 ((t : Int) + 1))).setCell ⟨w1.heap.size, 3, none⟩ (.slice A3 3 c3)) = W5 at SC ⊢
      clear z0 z1 z2 z3 y0 y1 y2 y3 SB
      refine wp_region_only (S := fun w' => w'.cell? ⟨w1.heap.size, 2, none⟩ = some (.int .i64 ((t : Int) + 1))) (by kernel_rfl) ((Blk.cell (drew_blk SC.out.p8) 2).trans rfl) (fun hHeld => ?_)
      refine wpAnyH_take (i := 0) (v := ?v10) rfl (by kernel_rfl) (by kernel_rfl) (by kernel_rfl) (fun _ _ _ h => h) (Or.inl ⟨by rfl, ?hy10⟩) hHeld ?rest10
      case hy10 =>
        intro w' hSw
        try dsimp only at hSw
        go_simp
        first | done | with_reducible rfl
      try simp only [Act.put, List.getElem_toArray, List.getElem_cons_zero, List.setIfInBounds_toArray, List.set_cons_zero, List.set_cons_succ]
      refine wpAnyH_take (i := 3) (v := ?v11) rfl (by kernel_rfl) (by kernel_rfl) (by kernel_rfl) (fun _ _ _ h => h) (Or.inl ⟨by rfl, ?hy11⟩) hHeld ?rest11
      case hy11 =>
        intro w' hSw
        try dsimp only at hSw
        go_simp
        first | done | with_reducible rfl
      try simp only [Act.put, List.getElem_toArray, List.getElem_cons_succ, List.getElem_cons_zero, List.setIfInBounds_toArray, List.set_cons_zero, List.set_cons_succ]
      refine wpAnyH_ready (rs := [1]) (by kernel_rfl) (by simp) ?_
      refine AllReadyH.cons (by rfl) (fun K hK => ?_) AllReadyH.nil
      go_simp
      refine (st_flush SC.out.drew RL.out T40.out no HNO.out).mono ?_
      rintro e w6 ⟨rfl, pl6, D6, s6, r6⟩
      have S6 := Lib.hid s6
      have R6 := Lib.hid r6
      clear s6 r6
      go_wp2_with fail
      refine hK.out _ _ ((Blk.cell S6.out.p8 2).trans rfl) (fun hHeld => ?_)
      clear hK K
      try simp only [Act.put, List.getElem_toArray, List.getElem_cons_succ, List.getElem_cons_zero, List.setIfInBounds_toArray, List.set_cons_zero, List.set_cons_succ]
      refine wpAnyH_ready (rs := [2]) (by kernel_rfl) (by simp) ?_
      refine AllReadyH.cons (by rfl) (fun K hK => ?_) AllReadyH.nil
      go_simp
      refine (num_any _ _).mono ?_
      rintro e w' ⟨rfl, rfl⟩
      go_wp2_with fail
      refine hK.out _ _ hHeld (fun hHeld => ?_)
      clear hK K
      try simp only [Act.put, List.getElem_toArray, List.getElem_cons_succ, List.getElem_cons_zero, List.setIfInBounds_toArray, List.set_cons_zero, List.set_cons_succ]
      refine wpAnyH_take (i := 4) (v := ?v12) rfl (by kernel_rfl) (by kernel_rfl) (by kernel_rfl) (fun _ _ _ h => h) (Or.inl ⟨by rfl, ?hy12⟩) hHeld ?rest12
      case hy12 =>
        intro w' hSw
        try dsimp only at hSw
        go_simp
        first | done | with_reducible rfl
      try simp only [Act.put, List.getElem_toArray, List.getElem_cons_succ, List.getElem_cons_zero, List.setIfInBounds_toArray, List.set_cons_zero, List.set_cons_succ]
      refine wpAnyH_take (i := 5) (v := ?v13) rfl (by kernel_rfl) (by kernel_rfl) (by kernel_rfl) (fun _ _ _ h => h) (Or.inl ⟨by rfl, ?hy13⟩) hHeld ?rest13
      case hy13 =>
        intro w' hSw
        try dsimp only at hSw
        go_simp
        first | done | with_reducible rfl
      try simp only [Act.put, List.getElem_toArray, List.getElem_cons_succ, List.getElem_cons_zero, List.setIfInBounds_toArray, List.set_cons_zero, List.set_cons_succ]
      refine wpAnyH_take (i := 6) (v := ?v14) rfl (by kernel_rfl) (by kernel_rfl) (by kernel_rfl) (fun _ _ _ h => h) (Or.inl ⟨by rfl, ?hy14⟩) hHeld ?rest14
      case hy14 =>
        intro w' hSw
        try dsimp only at hSw
        go_simp
        first | done | with_reducible rfl
      try simp only [Act.put, List.getElem_toArray, List.getElem_cons_succ, List.getElem_cons_zero, List.setIfInBounds_toArray, List.set_cons_zero, List.set_cons_succ]
      refine wpAnyH_take (i := 8) (v := ?v15) rfl (by kernel_rfl) (by kernel_rfl) (by kernel_rfl) (fun _ _ _ h => h) (Or.inl ⟨by rfl, ?hy15⟩) hHeld ?rest15
      case hy15 =>
        intro w' hSw
        try dsimp only at hSw
        go_simp
        first | done | with_reducible rfl
      try simp only [Act.put, List.getElem_toArray, List.getElem_cons_succ, List.getElem_cons_zero, List.setIfInBounds_toArray, List.set_cons_zero, List.set_cons_succ]
      refine wpAnyH_take (i := 9) (v := ?v16) rfl (by kernel_rfl) (by kernel_rfl) (by kernel_rfl) (fun _ _ _ h => h) (Or.inl ⟨by rfl, ?hy16⟩) hHeld ?rest16
      case hy16 =>
        intro w' hSw
        try dsimp only at hSw
        go_simp
        first | done | with_reducible rfl
      try simp only [Act.put, List.getElem_toArray, List.getElem_cons_succ, List.getElem_cons_zero, List.setIfInBounds_toArray, List.set_cons_zero, List.set_cons_succ]
      refine wpAnyH_ready (rs := [7]) (by kernel_rfl) (by simp) ?_
      refine AllReadyH.cons (by rfl) (fun K hK => ?_) AllReadyH.nil
      go_simp
      refine (show Calls Try.prog _ _ w6 fun e w' => e = .returned (.int .i64 ((t : Int) + 1)) ∧ w6 = w' from by have h := steps_at S6.out.da; rw [R6.out.1] at h; exact h).mono ?_
      rintro e w' ⟨rfl, rfl⟩
      go_wp2_with fail
      refine hK.out _ _ hHeld (fun hHeld => ?_)
      clear hK K
      try simp only [Act.put, List.getElem_toArray, List.getElem_cons_succ, List.getElem_cons_zero, List.setIfInBounds_toArray, List.set_cons_zero, List.set_cons_succ]
      refine wpAnyH_take (i := 10) (v := ?v17) rfl (by kernel_rfl) (by kernel_rfl) (by kernel_rfl) (fun _ _ _ h => h) (Or.inl ⟨by rfl, ?hy17⟩) hHeld ?rest17
      case hy17 =>
        intro w' hSw
        try dsimp only at hSw
        go_simp
        first | done | with_reducible rfl
      try simp only [Act.put, List.getElem_toArray, List.getElem_cons_succ, List.getElem_cons_zero, List.setIfInBounds_toArray, List.set_cons_zero, List.set_cons_succ]
      refine wpAnyH_take (i := 11) (v := ?v18) rfl (by kernel_rfl) (by kernel_rfl) (by kernel_rfl) (fun _ _ _ h => h) (Or.inl ⟨by rfl, ?hy18⟩) hHeld ?rest18
      case hy18 =>
        intro w' hSw
        try dsimp only at hSw
        go_simp
        first | done | with_reducible rfl
      try simp only [Act.put, List.getElem_toArray, List.getElem_cons_succ, List.getElem_cons_zero, List.setIfInBounds_toArray, List.set_cons_zero, List.set_cons_succ]
      refine wpAnyH_done (by kernel_rfl) ?_ _
      refine OnlyN.normal ?_
      clear hHeld
      go_wp2
      go_roundw
      case rel => exact ⟨k + 1, by have := HKM.out; omega, by go_num, pl6, D6, (show t + 1 = 1 + (k + 1) by have := HT.out; omega) ▸ S6.out, (show t + 1 = 1 + (k + 1) by have := HT.out; omega) ▸ R6.out⟩
      case measure => simp [intOf]; omega
    · have d3 : decide ((k : Int) < m) = false := by simpa using hkm
      have BE := Lib.hid hst.be
      clear hst hrl hkm
      go_wp2_with (go_at_call 11; refine (works_any _).mono ?_; rintro e w9 ⟨rfl, hb9⟩; have LZ := Lib.hid (BE.out.trans (hb9.mono BE.out.size)))
      go_ret
      exact ⟨rfl, LZ.out⟩
end Go.Proofs.Ytdkacbalakjbmaa.diskFails

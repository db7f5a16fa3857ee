/- law 2: act, at a crash. -/
import Derived.Test.YtgjamgojjajcnaaQ34
import Derived.Test.YtgjamgojjajcnaaQ24
import Derived.Test.YtgjamgojjajcnaaQ33
import Derived.Test.YtgjamgojjajcnaaQ21
import Derived.Test.YtgjamgojjajcnaaQ32
import Derived.Test.YtgjamgojjajcnaaQ06
namespace Go.Proofs.Ytgjamgojjajcnaa
open Go.RowKit
attribute [local go_sem] Oper.semAt_some
set_option maxRecDepth 8000 in
theorem size_crash : (Try.prog.info? 26).map (·.size) = some 3 := by kernel_rfl
theorem crash_range {W : World} {g : Nat} {x : Ac} (h : Blk W g 28 x.cs.toArray) : W.rangeAt g 5 [.slice x.kA x.keep.length x.kc, .int .i64 x.torn, .int .i64 x.bytes] := fun i v hi => by
  match i, hi with
  | 0, hi => exact (h.cell 5).trans hi
  | 1, hi => exact (h.cell 6).trans hi
  | 2, hi => exact (h.cell 7).trans hi
set_option maxRecDepth 100000 in
set_option maxHeartbeats 8000000 in
theorem act5_no {w : World} {B p : Nat} {pl : Pl} {D : Dk} {r : Rp} {R : Rf} {s z : Nat} (h : Bo w B p pl D r R s z) (x : Ac) (hl : x.lies w) (hx : ¬ (0 ≤ x.what ∧ x.what ≤ 4)) (hc : x.bytes < 0 ∨ 512 < x.bytes) :
    Calls Try.prog 11 #[.pointer (some ⟨p, 0, none⟩), r.val s, x.val] w (ActPost w B p pl r R z R s) := by
  have hz := z43
  have H := Lib.hid h
  obtain ⟨Wd, hW⟩ : ∃ Wd, Wd = ((w.alloc (.cells #[.slice r.A1 r.n1 r.c1, .slice r.A2 r.n2 r.c2, .int .i64 (s : Int), .slice r.A3 r.n3 r.c3] 34)).alloc (.cells x.cs.toArray 28)).alloc (.cells #[.slice none 0 0, .slice none 0 0, .int .i64 0, .slice none 0 0] 34) := ⟨_, rfl⟩
  have A0 := Lib.hid (show Ag w r s x Wd from by rw [hW]; exact Ag.of w r s x)
  have x0 : (x.what == 0) = false := beq_eq_false_iff_ne.2 (fun e => hx (by omega))
  have x1 : (x.what == 1) = false := beq_eq_false_iff_ne.2 (fun e => hx (by omega))
  have x2 : (x.what == 2) = false := beq_eq_false_iff_ne.2 (fun e => hx (by omega))
  have x3 : (x.what == 3) = false := beq_eq_false_iff_ne.2 (fun e => hx (by omega))
  have x4 : (x.what == 4) = false := beq_eq_false_iff_ne.2 (fun e => hx (by omega))
  have c0 := (A0.out.h1.cell 0).trans (show _ = some (.int .i64 x.what) from rfl)
  have KR := Lib.hid (hl.keep.below A0.out.be)
  have AX := Lib.hid (crash_range A0.out.h1)
  rw [hW] at c0 AX
  have REF := Lib.hid (fun (W : World) => show Calls Try.prog 36 #[r.val s, x.cr.val x.kA x.kc] W fun e w' => e = .returned (.tuple #[.agg #[.slice none 0 0, .slice none 0 0, .int .i64 0, .slice none 0 0], .int .i64 2]) ∧ Below W.heap.size W w' from by
    by_cases hn : x.bytes < 0
    · exact rcrash_neg W r s x.cr x.kA x.kc hn
    · exact rcrash_big W r s x.cr x.kA x.kc ⟨hn, hc.resolve_left hn⟩)
  have HC := Lib.hid hc
  clear hc
  clear h hx hl
  go_enter Try.func11, Try.ntmps11
  go_wp2_with (first
    | (refine wpList_load_mid rfl 26 (.tmp 140) rfl (w.heap.size + 1) 5 rfl [.slice x.kA x.keep.length x.kc, .int .i64 x.torn, .int .i64 x.bytes] _ AX.out Try.underlying26 rfl size_crash ?_))
  rw [← hW]
  clear hW c0 AX x0 x1 x2 x3 x4
  refine (crash_no (H.out.da.below A0.out.be) x.cr x.kA x.kc HC.out).mono ?_
  rintro e W5 ⟨rfl, hb5⟩
  have A5 := Lib.hid (A0.out.go hb5)
  clear A0 hb5
  go_wp2_with (first
    | (refine wpList_load_mid rfl 34 (.tmp 4) rfl w.heap.size 0 rfl [.slice r.A1 r.n1 r.c1, .slice r.A2 r.n2 r.c2, .int .i64 (s : Int), .slice r.A3 r.n3 r.c3] _ (Blk.rangeAt (l := [.slice r.A1 r.n1 r.c1, .slice r.A2 r.n2 r.c2, .int .i64 (s : Int), .slice r.A3 r.n3 r.c3]) A5.out.h0) Try.underlying34 rfl size43 ?_)
    | (refine wpList_load_mid rfl 26 (.tmp 147) rfl (w.heap.size + 1) 5 rfl [.slice x.kA x.keep.length x.kc, .int .i64 x.torn, .int .i64 x.bytes] _ (crash_range A5.out.h1) Try.underlying26 rfl size_crash ?_))
  refine (REF.out _).mono ?_
  rintro e W6 ⟨rfl, hb6⟩
  have A6 := Lib.hid (A5.out.go hb6)
  clear A5 hb6 REF
  go_wp2_with (go_at_call 14; refine (num_any _ _).mono ?_; rintro e m7 ⟨rfl, rfl⟩)
  have A7 := Lib.hid (A6.out.alloc (.cells #[.slice none 0 0, .slice none 0 0, .int .i64 0, .slice none 0 0] 34))
  generalize W6.alloc (.cells #[.slice none 0 0, .slice none 0 0, .int .i64 0, .slice none 0 0] 34) = W7 at A7 ⊢
  have A8 := Lib.hid A7.out.drew
  clear A6 A7
  refine wp_region_only (S := fun w' => Blk w' w.heap.size 34 #[.slice r.A1 r.n1 r.c1, .slice r.A2 r.n2 r.c2, .int .i64 (s : Int), .slice r.A3 r.n3 r.c3]) (by kernel_rfl) A8.out.h0 (fun hHeld => ?_)
  refine wpAnyH_take (i := 0) (v := ?v1) rfl (by kernel_rfl) (by kernel_rfl) (by kernel_rfl) (fun _ _ _ h => h) (Or.inl ⟨by rfl, ?hy1⟩) hHeld ?rest1
  case hy1 =>
    intro w' hSw
    try dsimp only at hSw
    go_simp
    first | done | with_reducible rfl
  try simp only [Act.put, List.getElem_toArray, List.getElem_cons_zero, List.setIfInBounds_toArray, List.set_cons_zero, List.set_cons_succ]
  refine wpAnyH_take (i := 1) rfl (by kernel_rfl) (by kernel_rfl) (by kernel_rfl) (fun _ _ _ h => h) (yieldsIf_load_mid (by rfl) 34 (.tmp 4) (by rfl) w.heap.size 0 (by rfl) [.slice r.A1 r.n1 r.c1, .slice r.A2 r.n2 r.c2, .int .i64 (s : Int), .slice r.A3 r.n3 r.c3] _ (fun w' hSw => Blk.rangeAt hSw) Try.underlying34 rfl size43) hHeld ?_
  try simp only [Act.put, List.getElem_toArray, List.getElem_cons_succ, List.getElem_cons_zero, List.setIfInBounds_toArray, List.set_cons_zero, List.set_cons_succ]
  refine wpAnyH_take (i := 2) (v := ?v2) rfl (by kernel_rfl) (by kernel_rfl) (by kernel_rfl) (fun _ _ _ h => h) (Or.inl ⟨by rfl, ?hy2⟩) hHeld ?rest2
  case hy2 =>
    intro w' hSw
    try dsimp only at hSw
    go_simp
    first | done | with_reducible rfl
  try simp only [Act.put, List.getElem_toArray, List.getElem_cons_succ, List.getElem_cons_zero, List.setIfInBounds_toArray, List.set_cons_zero, List.set_cons_succ]
  refine wpAnyH_ready (rs := [3]) (by kernel_rfl) (by simp) ?_
  refine AllReadyH.cons (by rfl) (fun K hK => ?_) AllReadyH.nil
  refine step_store_whole rfl 34 (.tmp 7) (.tmp 168) rfl (by rfl) #[.slice r.A1 r.n1 r.c1, .slice r.A2 r.n2 r.c2, .int .i64 (s : Int), .slice r.A3 r.n3 r.c3] #[.slice none 0 0, .slice none 0 0, .int .i64 0, .slice none 0 0] 34 (by rfl) A8.out.h7 (size43c _ _ _ _) rfl (one43 _ _ _ _ _ _ _ _ _ _) ?_
  intro m8 j8 f8
  have J8 := Lib.hid j8
  have BO8 := Lib.hid (show Bo m8 B p pl D r R s z from (H.out.below A8.out.be).far f8 (fun hk => by have := (H.out.da.lt _ hk).1; omega) (fun hk => by have := H.out.rf.lt hk; omega))
  have FR8 := Lib.hid (show Fr (pl.has p) w m8 from Fr.of_below (A8.out.be.trans (f8.to_below (fun k e => by subst e; omega) A8.out.be.size)))
  have Y8 := Lib.hid (show Blk m8 w.heap.size 34 #[.slice r.A1 r.n1 r.c1, .slice r.A2 r.n2 r.c2, .int .i64 (s : Int), .slice r.A3 r.n3 r.c3] from f8.keepBlk A8.out.h0 (by omega))
  clear hHeld j8 f8
  refine hK.out _ _ Y8.out (fun hHeld => ?_)
  clear hK K
  try simp only [Act.put, List.getElem_toArray, List.getElem_cons_succ, List.getElem_cons_zero]
  refine wpAnyH_take (i := 4) (v := ?v3) rfl (by kernel_rfl) (by kernel_rfl) (by kernel_rfl) (fun _ _ _ h => h) (Or.inl ⟨by rfl, ?hy3⟩) hHeld ?rest3
  case hy3 =>
    intro w' hSw
    try dsimp only at hSw
    go_simp
    first | done | with_reducible rfl
  try simp only [Act.put, List.getElem_toArray, List.getElem_cons_succ, List.getElem_cons_zero, List.setIfInBounds_toArray, List.set_cons_zero, List.set_cons_succ]
  refine wpAnyH_done (by kernel_rfl) ?_ _
  refine OnlyN.normal ?_
  clear hHeld
  go_wp2_with fail
  exact bodyPost_ret (results_act rfl _ _ (w.heap.size + 1 + 1) #[.slice r.A1 r.n1 r.c1, .slice r.A2 r.n2 r.c2, .int .i64 (s : Int), .slice r.A3 r.n3 r.c3] rfl rfl J8.out) rfl ⟨pl, D, r, rfl, BO8.out, FR8.out, fun q hq => .inl hq, fun b hb => .inl hb⟩
set_option maxRecDepth 100000 in
set_option maxHeartbeats 8000000 in
theorem act5_yes {w : World} {B p : Nat} {pl : Pl} {D : Dk} {r : Rp} {R : Rf} {s z : Nat} (h : Bo w B p pl D r R s z) (x : Ac) (hl : x.lies w) (hx : ¬ (0 ≤ x.what ∧ x.what ≤ 4)) (hb0 : 0 ≤ x.bytes) (hbm : x.bytes ≤ 512) :
    Calls Try.prog 11 #[.pointer (some ⟨p, 0, none⟩), r.val s, x.val] w (ActPost' w B p pl r R z (crRf R x.cr) 0) := by
  have hz := z43
  have H := Lib.hid h
  obtain ⟨Wd, hW⟩ : ∃ Wd, Wd = ((w.alloc (.cells #[.slice r.A1 r.n1 r.c1, .slice r.A2 r.n2 r.c2, .int .i64 (s : Int), .slice r.A3 r.n3 r.c3] 34)).alloc (.cells x.cs.toArray 28)).alloc (.cells #[.slice none 0 0, .slice none 0 0, .int .i64 0, .slice none 0 0] 34) := ⟨_, rfl⟩
  have A0 := Lib.hid (show Ag w r s x Wd from by rw [hW]; exact Ag.of w r s x)
  have x0 : (x.what == 0) = false := beq_eq_false_iff_ne.2 (fun e => hx (by omega))
  have x1 : (x.what == 1) = false := beq_eq_false_iff_ne.2 (fun e => hx (by omega))
  have x2 : (x.what == 2) = false := beq_eq_false_iff_ne.2 (fun e => hx (by omega))
  have x3 : (x.what == 3) = false := beq_eq_false_iff_ne.2 (fun e => hx (by omega))
  have x4 : (x.what == 4) = false := beq_eq_false_iff_ne.2 (fun e => hx (by omega))
  have c0 := (A0.out.h1.cell 0).trans (show _ = some (.int .i64 x.what) from rfl)
  have KR := Lib.hid (hl.keep.below A0.out.be)
  have AX := Lib.hid (crash_range A0.out.h1)
  rw [hW] at c0 AX
  have HC0 := Lib.hid hb0
  have HC5 := Lib.hid hbm
  have HW := Lib.hid (show D.waits.length ≤ 1000000 by rw [h.al.waits]; have := h.rf.m2; omega)
  clear hb0 hbm
  clear h hx hl
  go_enter Try.func11, Try.ntmps11
  go_wp2_with (first
    | (refine wpList_load_mid rfl 26 (.tmp 140) rfl (w.heap.size + 1) 5 rfl [.slice x.kA x.keep.length x.kc, .int .i64 x.torn, .int .i64 x.bytes] _ AX.out Try.underlying26 rfl size_crash ?_))
  rw [← hW]
  clear hW c0 AX x0 x1 x2 x3 x4
  refine (crash_ok (H.out.da.below A0.out.be) HW.out x.cr x.kA x.kc KR.out HC0.out HC5.out).mono ?_
  rintro e W5 ⟨p', m, rfl, hd5, hb5⟩
  have A5 := Lib.hid (A0.out.go hb5)
  have K5 := Lib.hid (KR.out.below hb5)
  have HD := Lib.hid hd5
  have HB5 := Lib.hid hb5
  clear hb5 hd5 KR
  go_wp2_with (first
    | (refine wpList_load_mid rfl 34 (.tmp 4) rfl w.heap.size 0 rfl [.slice r.A1 r.n1 r.c1, .slice r.A2 r.n2 r.c2, .int .i64 (s : Int), .slice r.A3 r.n3 r.c3] _ (Blk.rangeAt (l := [.slice r.A1 r.n1 r.c1, .slice r.A2 r.n2 r.c2, .int .i64 (s : Int), .slice r.A3 r.n3 r.c3]) A5.out.h0) Try.underlying34 rfl size43 ?_)
    | (refine wpList_load_mid rfl 26 (.tmp 147) rfl (w.heap.size + 1) 5 rfl [.slice x.kA x.keep.length x.kc, .int .i64 x.torn, .int .i64 x.bytes] _ (crash_range A5.out.h1) Try.underlying26 rfl size_crash ?_))
  refine (rcrash_goes (H.out.rf.below A5.out.be) s x.cr x.kA x.kc K5.out HC0.out HC5.out).mono ?_
  rintro e W6 ⟨A', c', rfl, hb6, hr6, hat6⟩
  have A6 := Lib.hid (A5.out.go hb6)
  obtain ⟨bo6, hp6, ha6⟩ := bo_crashed H.out A0.out.be HB5.out hb6 HD.out hr6 hat6 (c' := c') HC0.out HC5.out
  have BO6 := Lib.hid bo6
  have HP := Lib.hid hp6
  have HA := Lib.hid ha6
  have HPN := Lib.hid (show ¬ (leftPl m).has p' (w.heap.size + 1 + 1) from fun hk => by have := (HD.out.lt _ hk).2; have := A0.out.h7.lt; omega)
  have HRN := Lib.hid (show ¬ Rp.at_ ⟨A', r.n1, c', none, 0, 0, none, 0, 0⟩ (crRf R x.cr) (w.heap.size + 1 + 1) from fun hk => by
    obtain ⟨off, ⟨e, hp⟩ | ⟨e, hp⟩ | ⟨e, hp⟩⟩ := hk
    · rcases hat6 with h1 | h1
      · have := H.out.rf.lt (b := w.heap.size + 1 + 1) ⟨off, .inl ⟨h1 ▸ e, by rw [H.out.rf.l1]; have := H.out.rf.z1; omega⟩⟩
        omega
      · have := h1 _ off e
        have := A5.out.h7.lt
        omega
    · cases e
    · cases e)
  clear A5 A0 K5 HB5 HD hb6 hr6 hat6 bo6 hp6 ha6
  go_wp2_with (first
    | (go_at_call 14; refine (num_any _ _).mono ?_; rintro e m7 ⟨rfl, rfl⟩))
  have A7 := Lib.hid (A6.out.alloc (.cells #[.slice A' r.n1 c', .slice none 0 0, .int .i64 0, .slice none 0 0] 34))
  have BO7 := Lib.hid (BO6.out.alloc (.cells #[.slice A' r.n1 c', .slice none 0 0, .int .i64 0, .slice none 0 0] 34))
  have G7 := Lib.hid (Blk.new W6 34 #[.slice A' r.n1 c', .slice none 0 0, .int .i64 0, .slice none 0 0])
  have GG := Lib.hid (show w.heap.size + 1 + 1 < W6.heap.size from A6.out.h7.lt)
  generalize W6.alloc (.cells #[.slice A' r.n1 c', .slice none 0 0, .int .i64 0, .slice none 0 0] 34) = W7 at A7 BO7 G7 ⊢
  generalize W6.heap.size = g6 at G7 GG ⊢
  have A8 := Lib.hid A7.out.drew
  have BO8 := Lib.hid BO7.out.drew
  have G8 := Lib.hid (show Blk W7.drew g6 34 #[.slice A' r.n1 c', .slice none 0 0, .int .i64 0, .slice none 0 0] from G7.out.below (Below.drew (Below.refl _ W7)) G7.out.lt)
  clear A6 A7 BO6 BO7 G7
  refine wp_region_only (S := fun w' => Blk w' g6 34 #[.slice A' r.n1 c', .slice none 0 0, .int .i64 0, .slice none 0 0] ∧ Blk w' w.heap.size 34 #[.slice r.A1 r.n1 r.c1, .slice r.A2 r.n2 r.c2, .int .i64 (s : Int), .slice r.A3 r.n3 r.c3]) (by kernel_rfl) ⟨G8.out, A8.out.h0⟩ (fun hHeld => ?_)
  refine wpAnyH_take (i := 0) (v := ?v4) rfl (by kernel_rfl) (by kernel_rfl) (by kernel_rfl) (fun _ _ _ h => h) (Or.inl ⟨by rfl, ?hy4⟩) hHeld ?rest4
  case hy4 =>
    intro w' hSw
    try dsimp only at hSw
    go_simp
    first | done | with_reducible rfl
  try simp only [Act.put, List.getElem_toArray, List.getElem_cons_zero, List.setIfInBounds_toArray, List.set_cons_zero, List.set_cons_succ]
  refine wpAnyH_take (i := 1) rfl (by kernel_rfl) (by kernel_rfl) (by kernel_rfl) (fun _ _ _ h => h) (yieldsIf_load_mid (by rfl) 34 (.tmp 24) (by rfl) g6 0 (by rfl) [.slice A' r.n1 c', .slice none 0 0, .int .i64 0, .slice none 0 0] _ (fun w' hSw => Blk.rangeAt hSw.1) Try.underlying34 rfl size43) hHeld ?_
  try simp only [Act.put, List.getElem_toArray, List.getElem_cons_succ, List.getElem_cons_zero, List.setIfInBounds_toArray, List.set_cons_zero, List.set_cons_succ]
  refine wpAnyH_take (i := 2) (v := ?v5) rfl (by kernel_rfl) (by kernel_rfl) (by kernel_rfl) (fun _ _ _ h => h) (Or.inl ⟨by rfl, ?hy5⟩) hHeld ?rest5
  case hy5 =>
    intro w' hSw
    try dsimp only at hSw
    go_simp
    first | done | with_reducible rfl
  try simp only [Act.put, List.getElem_toArray, List.getElem_cons_succ, List.getElem_cons_zero, List.setIfInBounds_toArray, List.set_cons_zero, List.set_cons_succ]
  refine wpAnyH_take (i := 3) rfl (by kernel_rfl) (by kernel_rfl) (by kernel_rfl) (fun _ _ _ h => h) (yieldsIf_load_mid (by rfl) 34 (.tmp 4) (by rfl) w.heap.size 0 (by rfl) [.slice r.A1 r.n1 r.c1, .slice r.A2 r.n2 r.c2, .int .i64 (s : Int), .slice r.A3 r.n3 r.c3] _ (fun w' hSw => Blk.rangeAt hSw.2) Try.underlying34 rfl size43) hHeld ?_
  try simp only [Act.put, List.getElem_toArray, List.getElem_cons_succ, List.getElem_cons_zero, List.setIfInBounds_toArray, List.set_cons_zero, List.set_cons_succ]
  refine wpAnyH_ready (rs := [4]) (by kernel_rfl) (by simp) ?_
  refine AllReadyH.cons (by rfl) (fun K hK => ?_) AllReadyH.nil
  go_simp
  refine (stands_any (H.out.da.below A8.out.be) (H.out.rf.below A8.out.be) H.out.al).mono ?_
  rintro e m7 ⟨rfl, hb7⟩
  have A9 := Lib.hid (A8.out.go hb7)
  have BO9 := Lib.hid (BO8.out.below hb7)
  have G9 := Lib.hid (G8.out.below hb7 G8.out.lt)
  clear hHeld hb7
  refine hK.out _ _ ⟨G9.out, A9.out.h0⟩ (fun hHeld => ?_)
  clear hK K
  try simp only [Act.put, List.getElem_toArray, List.getElem_cons_succ, List.getElem_cons_zero, List.setIfInBounds_toArray, List.set_cons_zero, List.set_cons_succ]
  refine wpAnyH_take (i := 5) (v := ?v6) rfl (by kernel_rfl) (by kernel_rfl) (by kernel_rfl) (fun _ _ _ h => h) (Or.inl ⟨by rfl, ?hy6⟩) hHeld ?rest6
  case hy6 =>
    intro w' hSw
    try dsimp only at hSw
    go_simp
    first | done | with_reducible rfl
  try simp only [Act.put, List.getElem_toArray, List.getElem_cons_succ, List.getElem_cons_zero, List.setIfInBounds_toArray, List.set_cons_zero, List.set_cons_succ]
  refine wpAnyH_ready (rs := [6]) (by kernel_rfl) (by simp) ?_
  refine AllReadyH.cons (by rfl) (fun K hK => ?_) AllReadyH.nil
  refine step_store_whole rfl 34 (.tmp 7) (.tmp 170) rfl (by rfl) #[.slice A' r.n1 c', .slice none 0 0, .int .i64 0, .slice none 0 0] #[.slice none 0 0, .slice none 0 0, .int .i64 0, .slice none 0 0] 34 (by rfl) A9.out.h7 (size43c _ _ _ _) rfl (one43 _ none none _ _ _ _ _ _ _) ?_
  intro m8 j8 f8
  have J8 := Lib.hid j8
  have BO10 := Lib.hid (show Bo m8 B p' (leftPl m) (D.crashed x.cr) ⟨A', r.n1, c', none, 0, 0, none, 0, 0⟩ (crRf R x.cr) 0 z from BO9.out.far f8 HPN.out HRN.out)
  have FR8 := Lib.hid (show Fr (pl.has p) w m8 from Fr.of_below (A9.out.be.trans (f8.to_below (fun k e => by subst e; omega) A9.out.be.size)))
  have Y8 := Lib.hid (show Blk m8 w.heap.size 34 #[.slice r.A1 r.n1 r.c1, .slice r.A2 r.n2 r.c2, .int .i64 (s : Int), .slice r.A3 r.n3 r.c3] from f8.keepBlk A9.out.h0 (by omega))
  have G10 := Lib.hid (show Blk m8 g6 34 #[.slice A' r.n1 c', .slice none 0 0, .int .i64 0, .slice none 0 0] from f8.keepBlk G9.out (by have := GG.out; omega))
  clear hHeld j8 f8
  refine hK.out _ _ ⟨G10.out, Y8.out⟩ (fun hHeld => ?_)
  clear hK K
  try simp only [Act.put, List.getElem_toArray, List.getElem_cons_succ, List.getElem_cons_zero]
  refine wpAnyH_take (i := 7) (v := ?v7) rfl (by kernel_rfl) (by kernel_rfl) (by kernel_rfl) (fun _ _ _ h => h) (Or.inl ⟨by rfl, ?hy7⟩) hHeld ?rest7
  case hy7 =>
    intro w' hSw
    try dsimp only at hSw
    go_simp
    first | done | with_reducible rfl
  try simp only [Act.put, List.getElem_toArray, List.getElem_cons_succ, List.getElem_cons_zero, List.setIfInBounds_toArray, List.set_cons_zero, List.set_cons_succ]
  refine wpAnyH_done (by kernel_rfl) ?_ _
  refine OnlyN.normal ?_
  clear hHeld
  go_wp2_with fail
  exact bodyPost_ret (results_act rfl _ _ (w.heap.size + 1 + 1) #[.slice A' r.n1 c', .slice none 0 0, .int .i64 0, .slice none 0 0] rfl rfl J8.out) rfl ⟨p', leftPl m, D.crashed x.cr, _, rfl, BO10.out, FR8.out, fun q hq => .inr (HP.out q hq), HA.out⟩
end Go.Proofs.Ytgjamgojjajcnaa
namespace Go.Proofs.Ytgjamgojjajcnaa
open Go.RowKit
set_option maxRecDepth 8000 in
theorem wRf_ws2 (R : Rf) (s z : Nat) (n : Int) (l : List UInt8) : (wRf R s z n l).ws.length ≤ R.ws.length + 1 := by
  unfold wRf
  split
  · omega
  · split
    · omega
    · simp
set_option maxRecDepth 8000 in
theorem wSt_le2 (s z : Nat) (n : Int) : wSt s z n ≤ s + 1 := by
  unfold wSt
  split <;> omega
set_option maxRecDepth 8000 in
theorem flRf_ws (R : Rf) (s : Nat) : (flRf R s).ws.length ≤ R.ws.length := by
  unfold flRf
  split
  · omega
  · simp
set_option maxRecDepth 8000 in
theorem faRf_ws (R : Rf) (s : Nat) (l : List Int) : (faRf R s l).ws = R.ws := by
  unfold faRf
  split <;> rfl
set_option maxRecDepth 8000 in
theorem spRf_ws (R : Rf) (z : Nat) (n k : Int) (b : UInt8) : (spRf R z n k b).ws.length = R.ws.length := by
  unfold spRf
  split
  · simp [Rf.spoilt]
  · rfl
set_option maxRecDepth 8000 in
/-- act, whatever the call -/
theorem act_any {w : World} {B p : Nat} {pl : Pl} {D : Dk} {r : Rp} {R : Rf} {s z : Nat} (h : Bo w B p pl D r R s z) (hs : s ≤ 1000) (hN : R.ws.length ≤ 1000) (x : Ac) (hl : x.lies w) (hln : x.steps.length ≤ 1000) :
    Calls Try.prog 11 #[.pointer (some ⟨p, 0, none⟩), r.val s, x.val] w (fun e w' => ∃ R' s', ActPost' w B p pl r R z R' s' e w' ∧ R'.ws.length ≤ R.ws.length + 1 ∧ s' ≤ s + 1) := by
  by_cases h0 : x.what = 0
  · exact (act0_any h (by omega) x h0 _ rfl).mono fun e w' hh => ⟨_, _, hh.any, by omega, wSt_le2 _ _ _⟩
  by_cases h1 : x.what = 1
  · exact (act1_any h (by omega) (by omega) x h1).mono fun e w' hh => ⟨_, _, hh.any, wRf_ws2 _ _ _ _ _, wSt_le2 _ _ _⟩
  by_cases h2 : x.what = 2
  · exact (act2_any h (by omega) x h2).mono fun e w' hh => ⟨_, _, hh.any, by have := flRf_ws R s; omega, Nat.le_refl _⟩
  by_cases h3 : x.what = 3
  · exact (act3_any h (by omega) x h3 hl hln).mono fun e w' hh => ⟨_, _, hh.any, by rw [faRf_ws]; omega, by omega⟩
  by_cases h4 : x.what = 4
  · exact (act4_any h x h4).mono fun e w' hh => ⟨_, _, hh.any, by rw [spRf_ws]; omega, by omega⟩
  have hx : ¬ (0 ≤ x.what ∧ x.what ≤ 4) := by omega
  by_cases hc : x.bytes < 0 ∨ 512 < x.bytes
  · exact (act5_no h x hl hx hc).mono fun e w' hh => ⟨_, _, hh.any, by omega, by omega⟩
  · exact (act5_yes h x hl hx (by omega) (by omega)).mono fun e w' hh => ⟨_, _, hh, by simp [crRf], by omega⟩
section
variable {w0 W W' W'' : World} {B p p' : Nat} {pl pl' : Pl} {D D' : Dk} {r r' : Rp} {R R' : Rf} {s s' z g : Nat}
set_option maxRecDepth 8000 in
/-- a step of act, and the document's disk stored -/
theorem Lw.went (h : Lw w0 B p pl D r R s z g W) (bo : Bo W' B p' pl' D' r' R' s' z) (hf : Fr (pl.has p) W W') (hpl : ∀ q, pl'.has p' q → pl.has p q ∨ W.heap.size ≤ q) (hat : ∀ b, r'.at_ R' b → r.at_ R b ∨ W.heap.size ≤ b)
    (hg : Blk W'' g 34 #[.slice r'.A1 r'.n1 r'.c1, .slice r'.A2 r'.n2 r'.c2, .int .i64 (s' : Int), .slice r'.A3 r'.n3 r'.c3]) (hf2 : Fr (fun k => k = g) W' W'') : Lw w0 B p' pl' D' r' R' s' z g W'' := by
  have h1 : ¬ pl'.has p' g := fun hk => by
    rcases hpl g hk with h1 | h1
    · exact h.ng h1
    · have := h.bg.lt; omega
  have h2 : ¬ r'.at_ R' g := fun hk => by
    rcases hat g hk with h1 | h1
    · exact h.nr h1
    · have := h.bg.lt; omega
  exact {
    bo := bo.far hf2 h1 h2
    be := (h.below' hf).trans (hf2.to_below (fun k e => by subst e; exact h.g0) (h.below' hf).size)
    bg := hg
    ng := h1
    nr := h2
    b0 := h.b0
    g0 := h.g0 }
end
set_option maxRecDepth 8000 in
theorem size_act {x : Ac} : (Try.prog.info? 28).map (·.size) = some x.cs.length := by kernel_rfl
theorem blk_range4 {W : World} {g : Nat} {t : TypeId} {v0 v1 v2 v3 : Value} (h : Blk W g t #[v0, v1, v2, v3]) : W.rangeAt g 0 [v0, v1, v2, v3] := Blk.rangeAt (l := [v0, v1, v2, v3]) h
end Go.Proofs.Ytgjamgojjajcnaa
namespace Go.Proofs.Ytgjamgojjajcnaa
open Go.RowKit
section
variable {P : Program} {ops : Array Oper} {Q : Exit → Act → World → Prop} {md : Region.Mode} {S : World → Prop} {zs : List Nat}
/-- whatever order is picked from here on, and S holds behind each operation but these -/
def wpAnyV (P : Program) (md : Region.Mode) (ops : Array Oper) (Q : Exit → Act → World → Prop) (S : World → Prop) (zs : List Nat) : Nat → Array Bool → Act → World → Prop
  | 0, listed, a, w => Region.ready md ops listed = [] ∧ Q .normal a w
  | fuel + 1, listed, a, w => (Region.ready md ops listed = [] → Q .normal a w) ∧
    ∀ i ∈ Region.ready md ops listed, wpOp P ops Q i (fun a' w' => (i ∈ zs ∨ S w') ∧ wpAnyV P md ops Q S zs fuel (listed.setIfInBounds i true) a' w') a w
theorem wpAny_of_V : ∀ (fuel : Nat) (listed : Array Bool) (a : Act) (w : World), wpAnyV P md ops Q S zs fuel listed a w → wpAny P md ops Q fuel listed a w
  | 0, _, _, _, h => h
  | fuel + 1, _, _, _, h => ⟨h.1, fun i hi => wpOp_mono (fun a' w' h' => wpAny_of_V fuel _ a' w' h'.2) (h.2 i hi)⟩
/-- none of these comes up while i is not listed: each waits for i, or for one ahead of it -/
def blockB (md : Region.Mode) (ops : Array Oper) : List Nat → List Nat → Bool
  | _, [] => true
  | acc, b :: bs => acc.any (fun a => waitsB md ops b a) && blockB md ops (b :: acc) bs
theorem block_ready {listed : Array Bool} : ∀ (bs acc : List Nat), blockB md ops acc bs = true → (∀ a ∈ acc, listed.getD a true = false) → (∀ b ∈ bs, listed.getD b true = false) → ∀ b ∈ bs, b ∉ Region.ready md ops listed
  | [], _, _, _, _ => fun _ hb => by cases hb
  | b :: bs, acc, h, ha, hb => by
    simp only [blockB, Bool.and_eq_true, List.any_eq_true] at h
    obtain ⟨⟨a, hm, hw⟩, hr⟩ := h
    intro c hc
    rcases List.mem_cons.1 hc with rfl | hc
    · exact not_ready_un hw (ha a hm)
    · exact block_ready bs (b :: acc) hr (fun x hx => by
        rcases List.mem_cons.1 hx with rfl | hx
        · exact hb _ (by simp)
        · exact ha x hx) (fun x hx => hb x (by simp [hx])) c hc
set_option maxRecDepth 8000 in
theorem wpAnyV_first {i : Nat} {oi : Oper} {v : Value} (hi : ops[i]? = some oi) (hsel : ∀ (j : Nat) (o : Oper) cs b, ops[j]? = some o → o.op ≠ .select cs b) (hQ : ∀ c a w, Q (.panic c) (a.put oi.dst v) w → Q (.panic c) a w) (p : List Nat) (hz : blockB md ops [i] (p ++ zs) = true) (fuel : Nat) :
    ∀ (listed : Array Bool) (a : Act) (w : World), (∀ j oj, ops[j]? = some oj → j ≠ i → listed.getD j true = false → (∀ e ∈ oj.after, Region.binds md e = true → e.on ≠ i) → oi.apart ops oj = true) →
      (∀ j ∈ p ++ zs, listed.getD j true = false) → i ∈ Region.ready md ops listed → YieldsIf P ops S oi v a → S w → wpAnyV P md ops Q S zs fuel (listed.setIfInBounds i true) (a.put oi.dst v) w → wpAnyV P md ops Q S zs (fuel + 1) listed a w := by
  induction fuel with
  | zero =>
    intro listed a w _ _ hr hy hS hh
    constructor
    · intro h
      rw [h] at hr
      cases hr
    · intro j hj
      rcases Decidable.em (j = i) with rfl | hne
      · exact hy.wpOp hi hS ⟨.inr hS, hh⟩
      · have hm := ready_mono hj hne
        rw [hh.1] at hm
        cases hm
  | succ fuel ih =>
    intro listed a w hfree hun0 hr hy hS hh
    have hil : listed.getD i true = false := (mem_ready.1 hr).1
    have hc := block_ready (p ++ zs) [i] hz (fun x hx => by rw [List.mem_singleton.1 hx]; exact hil) hun0
    constructor
    · intro h
      rw [h] at hr
      cases hr
    · intro j hj
      rcases Decidable.em (j = i) with rfl | hne
      · exact hy.wpOp hi hS ⟨.inr hS, hh⟩
      · obtain ⟨hun, oj, hoj, haft⟩ := mem_ready.1 hj
        have hjp : ¬ j ∈ p ++ zs := fun hm => hc j hm hj
        have hjz : ¬ j ∈ zs := fun hm => hjp (by simp [hm])
        have hno : ∀ e ∈ oj.after, Region.binds md e = true → e.on ≠ i := by
          intro e he hb heq
          refine not_ready_un (z := j) ?_ hil hj
          unfold waitsB
          rw [hoj]
          simp only [Array.any_eq_true, Bool.and_eq_true, beq_iff_eq]
          obtain ⟨k, hk, hek⟩ := Array.mem_iff_getElem.1 he
          exact ⟨k, hk, by rw [hek]; exact hb, by rw [hek]; exact heq⟩
        have h2 := wpOp_putIf hoj (hfree j oj hoj hne hun hno) (fun cs b => hsel i oi cs b hi) (fun cs b => hsel j oj cs b hoj) hQ hy (hh.2 j (ready_mono hj hne))
        refine wpOp_mono (fun a' w' h3 => ?_) h2
        obtain ⟨hy', hs', hu⟩ := h3
        have hs2 := hs'.resolve_left hjz
        refine ⟨.inr hs2, ih _ a' w' ?_ ?_ (ready_mono hr (Ne.symm hne)) hy' hs2 ?_⟩
        · intro k ok hk hki hl hn
          refine hfree k ok hk hki ?_ hn
          rcases Decidable.em (j = k) with rfl | hjk
          · exact hun
          · rwa [getD_set_ne true hjk] at hl
        · intro k hk
          rw [getD_set_ne true (by rintro rfl; exact hjp hk)]
          exact hun0 k hk
        · rw [Array.setIfInBounds_comm _ _ hne]
          exact hu
set_option maxRecDepth 8000 in
theorem wpAnyV_firstT {i : Nat} {oi : Oper} {v : Value} (hi : ops[i]? = some oi) (hsel : ∀ (j : Nat) (o : Oper) cs b, ops[j]? = some o → o.op ≠ .select cs b) (hQ : ∀ c a w, Q (.panic c) (a.put oi.dst v) w → Q (.panic c) a w) (hz : i ∈ zs) (fuel : Nat) :
    ∀ (listed : Array Bool) (a : Act) (w : World), (∀ j oj, ops[j]? = some oj → j ≠ i → listed.getD j true = false → (∀ e ∈ oj.after, Region.binds md e = true → e.on ≠ i) → oi.apart ops oj = true) →
      i ∈ Region.ready md ops listed → YieldsIf P ops (fun _ => True) oi v a → wpAnyV P md ops Q S zs fuel (listed.setIfInBounds i true) (a.put oi.dst v) w → wpAnyV P md ops Q S zs (fuel + 1) listed a w := by
  induction fuel with
  | zero =>
    intro listed a w _ hr hy hh
    constructor
    · intro h
      rw [h] at hr
      cases hr
    · intro j hj
      rcases Decidable.em (j = i) with rfl | hne
      · exact hy.wpOp hi trivial ⟨.inl hz, hh⟩
      · have hm := ready_mono hj hne
        rw [hh.1] at hm
        cases hm
  | succ fuel ih =>
    intro listed a w hfree hr hy hh
    have hil : listed.getD i true = false := (mem_ready.1 hr).1
    constructor
    · intro h
      rw [h] at hr
      cases hr
    · intro j hj
      rcases Decidable.em (j = i) with rfl | hne
      · exact hy.wpOp hi trivial ⟨.inl hz, hh⟩
      · obtain ⟨hun, oj, hoj, haft⟩ := mem_ready.1 hj
        have hno : ∀ e ∈ oj.after, Region.binds md e = true → e.on ≠ i := by
          intro e he hb heq
          refine not_ready_un (z := j) ?_ hil hj
          unfold waitsB
          rw [hoj]
          simp only [Array.any_eq_true, Bool.and_eq_true, beq_iff_eq]
          obtain ⟨k, hk, hek⟩ := Array.mem_iff_getElem.1 he
          exact ⟨k, hk, by rw [hek]; exact hb, by rw [hek]; exact heq⟩
        have h2 := wpOp_putIf hoj (hfree j oj hoj hne hun hno) (fun cs b => hsel i oi cs b hi) (fun cs b => hsel j oj cs b hoj) hQ hy (hh.2 j (ready_mono hj hne))
        refine wpOp_mono (fun a' w' h3 => ?_) h2
        obtain ⟨hy', hs', hu⟩ := h3
        refine ⟨hs', ih _ a' w' ?_ (ready_mono hr (Ne.symm hne)) hy' ?_⟩
        · intro k ok hk hki hl hn
          refine hfree k ok hk hki ?_ hn
          rcases Decidable.em (j = k) with rfl | hjk
          · exact hun
          · rwa [getD_set_ne true hjk] at hl
        · rw [Array.setIfInBounds_comm _ _ hne]
          exact hu
set_option maxRecDepth 8000 in
theorem wpAnyV_take (p : List Nat) {i : Nat} {oi : Oper} {v : Value} {fuel : Nat} {listed : Array Bool} {a : Act} {w : World} (hi : ops[i]? = some oi)
    (hs : Region.noSelect ops = true) (hf : Region.free md ops listed i = true) (hr : (Region.ready md ops listed).contains i = true) (hz : (blockB md ops [i] (p ++ zs) && (p ++ zs).all (fun j => !listed.getD j true)) = true)
    (hQ : ∀ c a w, Q (.panic c) (a.put oi.dst v) w → Q (.panic c) a w) (hy : YieldsIf P ops S oi v a) (hS : S w)
    (h : wpAnyV P md ops Q S zs fuel (listed.setIfInBounds i true) (a.put oi.dst v) w) : wpAnyV P md ops Q S zs (fuel + 1) listed a w := by
  rw [Bool.and_eq_true, List.all_eq_true] at hz
  exact wpAnyV_first hi (Region.noSelect_spec hs) hQ p hz.1 fuel listed a w (Region.free_spec hi hf) (fun j hj => by simpa using hz.2 j hj) (by simpa using hr) hy hS h
theorem wpAnyV_takeT {i : Nat} {oi : Oper} {v : Value} {fuel : Nat} {listed : Array Bool} {a : Act} {w : World} (hi : ops[i]? = some oi)
    (hs : Region.noSelect ops = true) (hf : Region.free md ops listed i = true) (hr : (Region.ready md ops listed).contains i = true) (hz : zs.contains i = true)
    (hQ : ∀ c a w, Q (.panic c) (a.put oi.dst v) w → Q (.panic c) a w) (hy : YieldsIf P ops (fun _ => True) oi v a)
    (h : wpAnyV P md ops Q S zs fuel (listed.setIfInBounds i true) (a.put oi.dst v) w) : wpAnyV P md ops Q S zs (fuel + 1) listed a w :=
  wpAnyV_firstT hi (Region.noSelect_spec hs) hQ (by simpa using hz) fuel listed a w (Region.free_spec hi hf) (by simpa using hr) hy h
theorem wpAnyV_one {i : Nat} {o : Oper} {fuel : Nat} {listed : Array Bool} {a : Act} {w : World} (hr : Region.ready md ops listed = [i]) (ho : ops[i]? = some o)
    (h : ∀ K' : Act → World → Prop, Shut (∀ a w, (i ∈ zs ∨ S w) → ((i ∈ zs ∨ S w) → wpAnyV P md ops Q S zs fuel (listed.setIfInBounds i true) a w) → K' a w) → if Region.wanted o (yielded ops a.tmps) = true then Oper.wp P o a w K' Q else K' (a.put o.dst undef) w) :
    wpAnyV P md ops Q S zs (fuel + 1) listed a w :=
  ⟨fun h0 => (by rw [hr] at h0; cases h0), fun j hj => by
    rw [hr, List.mem_singleton] at hj
    subst hj
    exact wpOp_step ho (fun K' hK => h K' (fun a w hS hW => hK a w ⟨hS, hW hS⟩))⟩
theorem wpAnyV_done {listed : Array Bool} {a : Act} {w : World} (hr : Region.ready md ops listed = []) (h : Q .normal a w) : ∀ fuel, wpAnyV P md ops Q S zs fuel listed a w
  | 0 => ⟨hr, h⟩
  | _ + 1 => ⟨fun _ => h, by rw [hr]; simp⟩
theorem wp_region_V {id : Nat} {a : Act} {w : World} (zs : List Nat) (hm : P.follows .mixedOrders = true) (hS : S w.drew)
    (h : S w.drew → wpAnyV P .any ops (OnlyN Q) S zs ops.size (Array.replicate ops.size false) a w.drew) : (Code.region id ops true).wp P Q a w :=
  Code.wp_mono OnlyN.imp (wp_region_any hm (wpAny_of_V _ _ _ _ (h hS)))
theorem wpIn_region_V_out {n id : Nat} {a : Act} {w : World} (zs : List Nat) (hm : P.follows .mixedOrders = true) (hS : S w.drew)
    (h : S w.drew → wpAnyV P .any ops (OnlyN Q) S zs ops.size (Array.replicate ops.size false) a w.drew) : (Code.region id ops true).wpIn Fence.wide n P Q a w :=
  wpIn_wide.2 (wp_region_V zs hm hS h)
theorem wpIn_region_V_round {l n id : Nat} {a : Act} {w : World} (zs : List Nat) (hm : P.follows .mixedOrders = true) (hd : ∀ (i : Nat) (o : Oper), ops[i]? = some o → ∀ c, o.op ≠ .defer c) (hS : S w.drew)
    (h : S w.drew → wpAnyV P .any ops (OnlyN Q) S zs ops.size (Array.replicate ops.size false) a w.drew) : (Code.region id ops true).wpIn (Fence.wide.inRound l) n P Q a w :=
  wpIn_region_any hm (wpAnyIn_of_only hd _ _ _ _ (wpAny_of_V _ _ _ _ (h hS)))
end
end Go.Proofs.Ytgjamgojjajcnaa

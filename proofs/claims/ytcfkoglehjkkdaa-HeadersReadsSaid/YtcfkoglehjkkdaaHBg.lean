/- headers: Both, where both sectors are read, whatever they have. -/
import Derived.Test.YtcfkoglehjkkdaaHBoth
import Derived.Test.YtcfkoglehjkkdaaHAny
namespace Go.Proofs.Ytcfkoglehjkkdaa
open Go.RowKit
attribute [local go_sem] Oper.semAt_some
attribute [local go_sem] run_store_bv run_store_wc run_store_bv_drew run_store_wc_drew
set_option maxRecDepth 8000 in
theorem got_cases (z : Nat) (l : List UInt8) (hl : l.length = 512) : ∃ (u : Hd) (ok : Bool), (∀ W : World, Calls Try.prog 50 #[sec l] W fun r w' => r = .returned (.tuple #[u.val, .bool ok]) ∧ Below W.heap.size W w') ∧
    ((ok = true ∧ (1 ≤ u.o ∧ u.o ≤ 64) ∧ (20 + 3 * u.o == (z : Int)) = true ∧ gotH z l = u ∧ gotB z l = true) ∨ (ok = true ∧ (1 ≤ u.o ∧ u.o ≤ 64) ∧ (20 + 3 * u.o == (z : Int)) = false ∧ gotH z l = hd0 ∧ gotB z l = false) ∨ (ok = false ∧ gotH z l = hd0 ∧ gotB z l = false)) := by
  refine ⟨_, _, fun W => headerOf_any l hl, ?_⟩
  by_cases h : okB l ∧ l = hdS (eB l) (aB l) (oB l)
  · rw [if_pos h, decide_eq_true h]
    by_cases hz : 20 + 3 * oB l = z
    · have hg : gotB z l = true := decide_eq_true ⟨h.1, hz, h.2⟩
      exact .inl ⟨rfl, by simp only; omega, by rw [beq_iff_eq]; simp only; omega, by unfold gotH; rw [hg]; rfl, hg⟩
    · have hg : gotB z l = false := decide_eq_false (fun x => hz x.2.1)
      exact .inr (.inl ⟨rfl, by simp only; omega, by rw [beq_eq_false_iff_ne]; simp only; omega, by unfold gotH; rw [hg]; rfl, hg⟩)
  · rw [if_neg h, decide_eq_false h]
    have hg : gotB z l = false := decide_eq_false (fun x => h ⟨x.1, x.2.2⟩)
    exact .inr (.inr ⟨rfl, by unfold gotH; rw [hg]; rfl, hg⟩)
set_option maxRecDepth 100000 in
set_option maxHeartbeats 8000000 in
theorem both_ok {w : World} {base p : Nat} {pl : Pl} {D : Dk} (hd : DiskAt w base p pl D) (hN : D.waits.length ≤ 1000000) (hs : D.steps < 999990) (hz2 : 2 ≤ D.size) (hf0 : D.next = false) (hf1 : D.stepped.next = false) :
    Calls Try.prog 20 #[.pointer (some ⟨p, 0, none⟩)] w fun r w' => r = .returned (.tuple #[.agg (cs2 (gotH D.size (D.reads 0)) (gotH D.size (D.reads 1))).toArray, .agg #[.bool (gotB D.size (D.reads 0)), .bool (gotB D.size (D.reads 1))], .int .i64 0]) ∧ DiskAt w' base p pl D.stepped.stepped ∧ Fr (pl.has p) w w' := by
  have hz := z52
  have hz3 := z53
  have hz22 := z112
  have hz4 := z47
  have hz5 := z23
  have Z2 := Lib.hid hz2
  have L0 := Lib.hid (show (D.reads 0).length = 512 from readL_length _ _ _ (hd.lens 0) (fun x hx => (hd.wlens x hx).1))
  have L1 := Lib.hid (show (D.reads 1).length = 512 from readL_length _ _ _ (hd.lens 1) (fun x hx => (hd.wlens x hx).1))
  obtain ⟨u0, k0, ho0, cc0⟩ := got_cases D.size (D.reads 0) L0.out
  obtain ⟨u1, k1, ho1, cc1⟩ := got_cases D.size (D.reads 1) L1.out
  obtain ⟨g0, hg0⟩ : ∃ g, gotH D.size (D.reads 0) = g := ⟨_, rfl⟩
  obtain ⟨g1, hg1⟩ : ∃ g, gotH D.size (D.reads 1) = g := ⟨_, rfl⟩
  obtain ⟨a, ha⟩ : ∃ g, gotB D.size (D.reads 0) = g := ⟨_, rfl⟩
  obtain ⟨b, hb⟩ : ∃ g, gotB D.size (D.reads 1) = g := ⟨_, rfl⟩
  rw [hg0, ha] at cc0
  rw [hg1, hb] at cc1
  rw [hg0, hg1, ha, hb]
  have HO0 := Lib.hid ho0
  have HO1 := Lib.hid ho1
  have CC0 := Lib.hid cc0
  have CC1 := Lib.hid cc1
  have HN := Lib.hid hN
  have HS := Lib.hid hs
  have HF0 := Lib.hid hf0
  have HF1 := Lib.hid hf1
  have B0 := Lib.hid (bt_new hd)
  have hi0 := index112_0 (D.reads 0) (D.reads 1) L0.out
  have hi1 := index112_1 (D.reads 0) (D.reads 1) L0.out L1.out
  have m0 : (D.reads 0).length = zs.length := by rw [L0.out, zs_length]
  have m1 : (D.reads 1).length = zs.length := by rw [L1.out, zs_length]
  have n0 : (bv (D.reads 0)).length = 512 := by rw [bv_length, L0.out]
  have n1 : (bv (D.reads 1)).length = 512 := by rw [bv_length, L1.out]
  have hl2 : (D.reads 0 ++ D.reads 1).length = zs2.length := by rw [List.length_append, L0.out, L1.out, zs2_length]
  have hb2 : (bv (D.reads 0 ++ D.reads 1)).length = 1024 := by rw [bv_length, hl2, zs2_length]
  clear hd hN hs hf0 hf1 hz2 ho0 ho1 cc0 cc1 hg0 hg1 ha hb
  go_enter Try.func20, Try.ntmps20
  go_wp2_with fail
  generalize (((w.alloc (.cells (cs2 hd0 hd0).toArray 49)).alloc (.cells #[.bool false, .bool false] 50)).alloc (.cells (cs2 hd0 hd0).toArray 49)).alloc (.cells #[.bool false, .bool false] 50) = W at B0 ⊢
  refine (sectors_any B0.out.da HN.out Z2.out HS.out HF0.out HF1.out).mono ?_
  rintro r W1 ⟨rfl, hd1, hf1⟩
  have B1 := Lib.hid (B0.out.moved hd1 hf1)
  clear hd1 hf1 B0
  have GB := Lib.hid (Blk.new W1 108 (bv (D.reads 0 ++ D.reads 1)).toArray)
  have B2 := Lib.hid (B1.out.alloc (.cells (bv (D.reads 0 ++ D.reads 1)).toArray 108))
  go_wp2_with (refine wpList_load_mid rfl 108 (.tmp 7) rfl W1.heap.size 0 rfl (bv (D.reads 0 ++ D.reads 1)) _ GB.out.rangeAt Try.underlying108 rfl (by rw [hb2]; exact size112) ?_)
  generalize W1.alloc (.cells (bv (D.reads 0 ++ D.reads 1)).toArray 108) = U0 at GB B2 ⊢
  have A0 := Lib.hid B2.out
  clear GB B2 B1 hl2 hb2
  go_loopw [24] (fun i wr => (i = .int .i64 0 ∧ Bt w base p pl D.stepped.stepped hd0 hd0 false false wr) ∨ (i = .int .i64 1 ∧ Bt w base p pl D.stepped.stepped g0 hd0 a false wr) ∨ (i = .int .i64 2 ∧ Bt w base p pl D.stepped.stepped g0 g1 a b wr)) (fun i _ => 2 - (intOf i).toNat)
  case atStart => exact .inl ⟨rfl, A0.out⟩
  case round =>
    rcases hrel with ⟨rfl, hbt⟩ | ⟨rfl, hbt⟩ | ⟨rfl, hbt⟩
    · have A := Lib.hid hbt
      clear hbt A0
      have PB := Lib.hid (A.out.alloc (.cells (bv (D.reads 0)).toArray 56))
      have PR := Lib.hid (Blk.new wr 56 (bv (D.reads 0)).toArray)
      go_wp2_with (first
        | (refine wpList_load47 rfl (.tmp 10) rfl wr.heap.size 0 rfl (D.reads 0) PR.out.rangeAt L0.out ?_)
        | (go_at_call 50; refine (HO0.out _).mono ?_; rintro r Y ⟨rfl, hb⟩; have C := Lib.hid (PB.out.next hb); have N := Lib.hid (blk_drew (Blk.new Y 28 (Hd.cs u0).toArray)); have B := Lib.hid ((C.out.alloc (.cells (Hd.cs u0).toArray 28)).drew); clear hb PB PR))
      rcases CC0.out with ⟨rfl, q1, q2, rfl, rfl⟩ | ⟨rfl, q1, q2, rfl, rfl⟩ | ⟨rfl, rfl, rfl⟩
      · have Q1 := Lib.hid q1
        have Q2 := Lib.hid q2
        clear q1 q2
        refine wp_region_only (S := fun w' => Blk w' Y.heap.size 28 (Hd.cs g0).toArray) (by kernel_rfl) N.out (fun hHeld => ?_)
        refine wpAnyH_take (i := 0) (v := ?v1) rfl (by kernel_rfl) (by kernel_rfl) (by kernel_rfl) (fun _ _ _ h => h) (Or.inl ⟨by rfl, ?hy1⟩) hHeld ?rest1
        case hy1 =>
          intro w' hSw
          try dsimp only at hSw
          go_simp
          first | done | with_reducible rfl
        try simp only [Act.put, List.getElem_toArray, List.getElem_cons_zero, List.setIfInBounds_toArray, List.set_cons_zero, List.set_cons_succ]
        refine wpAnyH_take (i := 1) (v := ?v2) rfl (by kernel_rfl) (by kernel_rfl) (by kernel_rfl) (fun _ _ _ h => h) (Or.inl ⟨by rfl, ?hy2⟩) hHeld ?rest2
        case hy2 =>
          intro w' hSw
          try dsimp only at hSw
          go_simp
          first | done | with_reducible rfl
        try simp only [Act.put, List.getElem_toArray, List.getElem_cons_succ, List.getElem_cons_zero, List.setIfInBounds_toArray, List.set_cons_zero, List.set_cons_succ]
        refine wpAnyH_take (i := 2) rfl (by kernel_rfl) (by kernel_rfl) (by kernel_rfl) (fun _ _ _ h => h) (yieldsIf_load_mid (by rfl) 28 (.tmp 11) (by rfl) Y.heap.size 0 (by rfl) (Hd.cs g0) _ (fun w' hSw => Blk.rangeAt (l := Hd.cs g0) hSw) Try.underlying28 rfl (size23 _)) hHeld ?_
        try simp only [Act.put, List.getElem_toArray, List.getElem_cons_succ, List.getElem_cons_zero, List.setIfInBounds_toArray, List.set_cons_zero, List.set_cons_succ]
        refine wpAnyH_take (i := 3) (v := ?v3) rfl (by kernel_rfl) (by kernel_rfl) (by kernel_rfl) (fun _ _ _ h => h) (Or.inl ⟨by rfl, ?hy3⟩) hHeld ?rest3
        case hy3 =>
          intro w' hSw
          try dsimp only at hSw
          go_simp
          first | done | with_reducible rfl
        try simp only [Act.put, List.getElem_toArray, List.getElem_cons_succ, List.getElem_cons_zero, List.setIfInBounds_toArray, List.set_cons_zero, List.set_cons_succ]
        refine wpAnyH_ready (rs := [4]) (by kernel_rfl) (by simp) ?_
        refine AllReadyH.cons (by rfl) (fun K hK => ?_) AllReadyH.nil
        go_simp
        refine (size_at B.out.da).mono ?_
        rintro r w' ⟨rfl, rfl⟩
        clear hHeld
        refine hK.out _ _ N.out (fun hHeld => ?_)
        clear hK K
        try simp only [Act.put, List.getElem_toArray, List.getElem_cons_succ, List.getElem_cons_zero, List.setIfInBounds_toArray, List.set_cons_zero, List.set_cons_succ]
        refine wpAnyH_ready (rs := [5]) (by kernel_rfl) (by simp) ?_
        refine AllReadyH.cons (by rfl) (fun K hK => ?_) AllReadyH.nil
        go_simp
        refine (fits_any g0 Q1.out _ _).mono ?_
        rw [show D.stepped.stepped.size = D.size from rfl, Q2.out]
        rintro r X ⟨rfl, hb⟩
        replace N := Lib.hid (N.out.below hb N.out.lt)
        replace B := Lib.hid (B.out.next hb)
        clear hb hHeld
        refine hK.out _ _ N.out (fun hHeld => ?_)
        clear hK K
        try dsimp only
        refine wpAnyH_take (i := 6) (v := ?v4) rfl (by kernel_rfl) (by kernel_rfl) (by kernel_rfl) (fun _ _ _ h => h) (Or.inl ⟨by rfl, ?hy4⟩) hHeld ?rest4
        case hy4 =>
          intro w' hSw
          try dsimp only at hSw
          go_simp
          first | done | with_reducible rfl
        try simp only [Act.put, List.getElem_toArray, List.getElem_cons_succ, List.getElem_cons_zero, List.setIfInBounds_toArray, List.set_cons_zero, List.set_cons_succ]
        refine wpAnyH_done (by kernel_rfl) ?_ _
        refine OnlyN.normal ?_
        clear hHeld
        obtain ⟨V, hV⟩ : ∃ V, V = X.setRow (w.heap.size + 1 + 1) ((cs2 hd0 hd0).take 0 ++ Hd.cs g0 ++ (cs2 hd0 hd0).drop (0 + (Hd.cs g0).length)).toArray := ⟨_, rfl⟩
        have P := Lib.hid (show Bt w base p pl D.stepped.stepped g0 hd0 false false V from by rw [hV]; exact B.out.put5 g0 hd0)
        have c := (P.out.h6.cell 0).trans (show _ = some (.bool false) from rfl)
        have f := P.out.h6.frozen 0
        go_wp2_with (first
          | (refine wpList_load_mid rfl 28 (.tmp 11) rfl Y.heap.size 0 rfl (Hd.cs g0) _ (Blk.rangeAt (l := Hd.cs g0) N.out) Try.underlying28 rfl (size23 _) ?_)
          | (refine wpList_store_mid8 (off := 0) (l := cs2 hd0 hd0) (ys := Hd.cs g0) rfl 28 (.tmp 43) (.tmp 42) rfl B.out.h5 rfl rfl (by simp [cs2]) (size23 _) (by simp [Value.oneCell']) ?_; rw [← hV]; clear hV))
        go_roundw
        case rel => exact .inr (.inl ⟨rfl, P.out.put6a⟩)
        case measure => simp [intOf]
      · have Q1 := Lib.hid q1
        have Q2 := Lib.hid q2
        clear q1 q2
        refine wp_region_only (S := fun w' => Blk w' Y.heap.size 28 (Hd.cs u0).toArray) (by kernel_rfl) N.out (fun hHeld => ?_)
        refine wpAnyH_take (i := 0) (v := ?v5) rfl (by kernel_rfl) (by kernel_rfl) (by kernel_rfl) (fun _ _ _ h => h) (Or.inl ⟨by rfl, ?hy5⟩) hHeld ?rest5
        case hy5 =>
          intro w' hSw
          try dsimp only at hSw
          go_simp
          first | done | with_reducible rfl
        try simp only [Act.put, List.getElem_toArray, List.getElem_cons_zero, List.setIfInBounds_toArray, List.set_cons_zero, List.set_cons_succ]
        refine wpAnyH_take (i := 1) (v := ?v6) rfl (by kernel_rfl) (by kernel_rfl) (by kernel_rfl) (fun _ _ _ h => h) (Or.inl ⟨by rfl, ?hy6⟩) hHeld ?rest6
        case hy6 =>
          intro w' hSw
          try dsimp only at hSw
          go_simp
          first | done | with_reducible rfl
        try simp only [Act.put, List.getElem_toArray, List.getElem_cons_succ, List.getElem_cons_zero, List.setIfInBounds_toArray, List.set_cons_zero, List.set_cons_succ]
        refine wpAnyH_take (i := 2) rfl (by kernel_rfl) (by kernel_rfl) (by kernel_rfl) (fun _ _ _ h => h) (yieldsIf_load_mid (by rfl) 28 (.tmp 11) (by rfl) Y.heap.size 0 (by rfl) (Hd.cs u0) _ (fun w' hSw => Blk.rangeAt (l := Hd.cs u0) hSw) Try.underlying28 rfl (size23 _)) hHeld ?_
        try simp only [Act.put, List.getElem_toArray, List.getElem_cons_succ, List.getElem_cons_zero, List.setIfInBounds_toArray, List.set_cons_zero, List.set_cons_succ]
        refine wpAnyH_take (i := 3) (v := ?v7) rfl (by kernel_rfl) (by kernel_rfl) (by kernel_rfl) (fun _ _ _ h => h) (Or.inl ⟨by rfl, ?hy7⟩) hHeld ?rest7
        case hy7 =>
          intro w' hSw
          try dsimp only at hSw
          go_simp
          first | done | with_reducible rfl
        try simp only [Act.put, List.getElem_toArray, List.getElem_cons_succ, List.getElem_cons_zero, List.setIfInBounds_toArray, List.set_cons_zero, List.set_cons_succ]
        refine wpAnyH_ready (rs := [4]) (by kernel_rfl) (by simp) ?_
        refine AllReadyH.cons (by rfl) (fun K hK => ?_) AllReadyH.nil
        go_simp
        refine (size_at B.out.da).mono ?_
        rintro r w' ⟨rfl, rfl⟩
        clear hHeld
        refine hK.out _ _ N.out (fun hHeld => ?_)
        clear hK K
        try simp only [Act.put, List.getElem_toArray, List.getElem_cons_succ, List.getElem_cons_zero, List.setIfInBounds_toArray, List.set_cons_zero, List.set_cons_succ]
        refine wpAnyH_ready (rs := [5]) (by kernel_rfl) (by simp) ?_
        refine AllReadyH.cons (by rfl) (fun K hK => ?_) AllReadyH.nil
        go_simp
        refine (fits_any u0 Q1.out _ _).mono ?_
        rw [show D.stepped.stepped.size = D.size from rfl, Q2.out]
        rintro r X ⟨rfl, hb⟩
        replace N := Lib.hid (N.out.below hb N.out.lt)
        replace B := Lib.hid (B.out.next hb)
        clear hb hHeld
        refine hK.out _ _ N.out (fun hHeld => ?_)
        clear hK K
        try dsimp only
        refine wpAnyH_take (i := 6) (v := ?v8) rfl (by kernel_rfl) (by kernel_rfl) (by kernel_rfl) (fun _ _ _ h => h) (Or.inl ⟨by rfl, ?hy8⟩) hHeld ?rest8
        case hy8 =>
          intro w' hSw
          try dsimp only at hSw
          go_simp
          first | done | with_reducible rfl
        try simp only [Act.put, List.getElem_toArray, List.getElem_cons_succ, List.getElem_cons_zero, List.setIfInBounds_toArray, List.set_cons_zero, List.set_cons_succ]
        refine wpAnyH_done (by kernel_rfl) ?_ _
        refine OnlyN.normal ?_
        clear hHeld
        go_wp2_with fail
        go_roundw
        case rel => exact .inr (.inl ⟨rfl, B.out⟩)
        case measure => simp [intOf]
      · skip
        refine wp_region_only (S := fun _ => True) (by kernel_rfl) trivial (fun hHeld => ?_)
        refine wpAnyH_take (i := 0) (v := ?v9) rfl (by kernel_rfl) (by kernel_rfl) (by kernel_rfl) (fun _ _ _ h => h) (Or.inl ⟨by rfl, ?hy9⟩) hHeld ?rest9
        case hy9 =>
          intro w' hSw
          try dsimp only at hSw
          go_simp
          first | done | with_reducible rfl
        try simp only [Act.put, List.getElem_toArray, List.getElem_cons_zero, List.setIfInBounds_toArray, List.set_cons_zero, List.set_cons_succ]
        refine wpAnyH_take (i := 1) (v := ?v10) rfl (by kernel_rfl) (by kernel_rfl) (by kernel_rfl) (fun _ _ _ h => h) (Or.inl ⟨by rfl, ?hy10⟩) hHeld ?rest10
        case hy10 =>
          intro w' hSw
          try dsimp only at hSw
          go_simp
          first | done | with_reducible rfl
        try simp only [Act.put, List.getElem_toArray, List.getElem_cons_succ, List.getElem_cons_zero, List.setIfInBounds_toArray, List.set_cons_zero, List.set_cons_succ]
        refine wpAnyH_take (i := 2) (v := undef) rfl (by kernel_rfl) (by kernel_rfl) (by kernel_rfl) (fun _ _ _ h => h) (Or.inr ⟨by rfl, rfl⟩) hHeld ?_
        try simp only [Act.put, List.getElem_toArray, List.getElem_cons_succ, List.getElem_cons_zero, List.setIfInBounds_toArray, List.set_cons_zero, List.set_cons_succ]
        refine wpAnyH_take (i := 3) (v := undef) rfl (by kernel_rfl) (by kernel_rfl) (by kernel_rfl) (fun _ _ _ h => h) (Or.inr ⟨by rfl, rfl⟩) hHeld ?_
        try simp only [Act.put, List.getElem_toArray, List.getElem_cons_succ, List.getElem_cons_zero, List.setIfInBounds_toArray, List.set_cons_zero, List.set_cons_succ]
        refine wpAnyH_take (i := 4) (v := undef) rfl (by kernel_rfl) (by kernel_rfl) (by kernel_rfl) (fun _ _ _ h => h) (Or.inr ⟨by rfl, rfl⟩) hHeld ?_
        try simp only [Act.put, List.getElem_toArray, List.getElem_cons_succ, List.getElem_cons_zero, List.setIfInBounds_toArray, List.set_cons_zero, List.set_cons_succ]
        refine wpAnyH_take (i := 5) (v := undef) rfl (by kernel_rfl) (by kernel_rfl) (by kernel_rfl) (fun _ _ _ h => h) (Or.inr ⟨by rfl, rfl⟩) hHeld ?_
        try simp only [Act.put, List.getElem_toArray, List.getElem_cons_succ, List.getElem_cons_zero, List.setIfInBounds_toArray, List.set_cons_zero, List.set_cons_succ]
        refine wpAnyH_take (i := 6) (v := ?v11) rfl (by kernel_rfl) (by kernel_rfl) (by kernel_rfl) (fun _ _ _ h => h) (Or.inl ⟨by rfl, ?hy11⟩) hHeld ?rest11
        case hy11 =>
          intro w' hSw
          try dsimp only at hSw
          go_simp
          first | done | with_reducible rfl
        try simp only [Act.put, List.getElem_toArray, List.getElem_cons_succ, List.getElem_cons_zero, List.setIfInBounds_toArray, List.set_cons_zero, List.set_cons_succ]
        refine wpAnyH_done (by kernel_rfl) ?_ _
        refine OnlyN.normal ?_
        clear hHeld
        go_wp2_with fail
        go_roundw
        case rel => exact .inr (.inl ⟨rfl, B.out⟩)
        case measure => simp [intOf]
    · have A := Lib.hid hbt
      clear hbt A0
      have PB := Lib.hid (A.out.alloc (.cells (bv (D.reads 1)).toArray 56))
      have PR := Lib.hid (Blk.new wr 56 (bv (D.reads 1)).toArray)
      go_wp2_with (first
        | (refine wpList_load47 rfl (.tmp 10) rfl wr.heap.size 0 rfl (D.reads 1) PR.out.rangeAt L1.out ?_)
        | (go_at_call 50; refine (HO1.out _).mono ?_; rintro r Y ⟨rfl, hb⟩; have C := Lib.hid (PB.out.next hb); have N := Lib.hid (blk_drew (Blk.new Y 28 (Hd.cs u1).toArray)); have B := Lib.hid ((C.out.alloc (.cells (Hd.cs u1).toArray 28)).drew); clear hb PB PR))
      rcases CC1.out with ⟨rfl, q1, q2, rfl, rfl⟩ | ⟨rfl, q1, q2, rfl, rfl⟩ | ⟨rfl, rfl, rfl⟩
      · have Q1 := Lib.hid q1
        have Q2 := Lib.hid q2
        clear q1 q2
        refine wp_region_only (S := fun w' => Blk w' Y.heap.size 28 (Hd.cs g1).toArray) (by kernel_rfl) N.out (fun hHeld => ?_)
        refine wpAnyH_take (i := 0) (v := ?v12) rfl (by kernel_rfl) (by kernel_rfl) (by kernel_rfl) (fun _ _ _ h => h) (Or.inl ⟨by rfl, ?hy12⟩) hHeld ?rest12
        case hy12 =>
          intro w' hSw
          try dsimp only at hSw
          go_simp
          first | done | with_reducible rfl
        try simp only [Act.put, List.getElem_toArray, List.getElem_cons_zero, List.setIfInBounds_toArray, List.set_cons_zero, List.set_cons_succ]
        refine wpAnyH_take (i := 1) (v := ?v13) rfl (by kernel_rfl) (by kernel_rfl) (by kernel_rfl) (fun _ _ _ h => h) (Or.inl ⟨by rfl, ?hy13⟩) hHeld ?rest13
        case hy13 =>
          intro w' hSw
          try dsimp only at hSw
          go_simp
          first | done | with_reducible rfl
        try simp only [Act.put, List.getElem_toArray, List.getElem_cons_succ, List.getElem_cons_zero, List.setIfInBounds_toArray, List.set_cons_zero, List.set_cons_succ]
        refine wpAnyH_take (i := 2) rfl (by kernel_rfl) (by kernel_rfl) (by kernel_rfl) (fun _ _ _ h => h) (yieldsIf_load_mid (by rfl) 28 (.tmp 11) (by rfl) Y.heap.size 0 (by rfl) (Hd.cs g1) _ (fun w' hSw => Blk.rangeAt (l := Hd.cs g1) hSw) Try.underlying28 rfl (size23 _)) hHeld ?_
        try simp only [Act.put, List.getElem_toArray, List.getElem_cons_succ, List.getElem_cons_zero, List.setIfInBounds_toArray, List.set_cons_zero, List.set_cons_succ]
        refine wpAnyH_take (i := 3) (v := ?v14) rfl (by kernel_rfl) (by kernel_rfl) (by kernel_rfl) (fun _ _ _ h => h) (Or.inl ⟨by rfl, ?hy14⟩) hHeld ?rest14
        case hy14 =>
          intro w' hSw
          try dsimp only at hSw
          go_simp
          first | done | with_reducible rfl
        try simp only [Act.put, List.getElem_toArray, List.getElem_cons_succ, List.getElem_cons_zero, List.setIfInBounds_toArray, List.set_cons_zero, List.set_cons_succ]
        refine wpAnyH_ready (rs := [4]) (by kernel_rfl) (by simp) ?_
        refine AllReadyH.cons (by rfl) (fun K hK => ?_) AllReadyH.nil
        go_simp
        refine (size_at B.out.da).mono ?_
        rintro r w' ⟨rfl, rfl⟩
        clear hHeld
        refine hK.out _ _ N.out (fun hHeld => ?_)
        clear hK K
        try simp only [Act.put, List.getElem_toArray, List.getElem_cons_succ, List.getElem_cons_zero, List.setIfInBounds_toArray, List.set_cons_zero, List.set_cons_succ]
        refine wpAnyH_ready (rs := [5]) (by kernel_rfl) (by simp) ?_
        refine AllReadyH.cons (by rfl) (fun K hK => ?_) AllReadyH.nil
        go_simp
        refine (fits_any g1 Q1.out _ _).mono ?_
        rw [show D.stepped.stepped.size = D.size from rfl, Q2.out]
        rintro r X ⟨rfl, hb⟩
        replace N := Lib.hid (N.out.below hb N.out.lt)
        replace B := Lib.hid (B.out.next hb)
        clear hb hHeld
        refine hK.out _ _ N.out (fun hHeld => ?_)
        clear hK K
        try dsimp only
        refine wpAnyH_take (i := 6) (v := ?v15) rfl (by kernel_rfl) (by kernel_rfl) (by kernel_rfl) (fun _ _ _ h => h) (Or.inl ⟨by rfl, ?hy15⟩) hHeld ?rest15
        case hy15 =>
          intro w' hSw
          try dsimp only at hSw
          go_simp
          first | done | with_reducible rfl
        try simp only [Act.put, List.getElem_toArray, List.getElem_cons_succ, List.getElem_cons_zero, List.setIfInBounds_toArray, List.set_cons_zero, List.set_cons_succ]
        refine wpAnyH_done (by kernel_rfl) ?_ _
        refine OnlyN.normal ?_
        clear hHeld
        obtain ⟨V, hV⟩ : ∃ V, V = X.setRow (w.heap.size + 1 + 1) ((cs2 g0 hd0).take 3 ++ Hd.cs g1 ++ (cs2 g0 hd0).drop (3 + (Hd.cs g1).length)).toArray := ⟨_, rfl⟩
        have P := Lib.hid (show Bt w base p pl D.stepped.stepped g0 g1 a false V from by rw [hV]; exact B.out.put5 g0 g1)
        have c := (P.out.h6.cell 1).trans (show _ = some (.bool false) from rfl)
        have f := P.out.h6.frozen 1
        go_wp2_with (first
          | (refine wpList_load_mid rfl 28 (.tmp 11) rfl Y.heap.size 0 rfl (Hd.cs g1) _ (Blk.rangeAt (l := Hd.cs g1) N.out) Try.underlying28 rfl (size23 _) ?_)
          | (refine wpList_store_mid8 (off := 3) (l := cs2 g0 hd0) (ys := Hd.cs g1) rfl 28 (.tmp 43) (.tmp 42) rfl B.out.h5 rfl rfl (by simp [cs2]) (size23 _) (by simp [Value.oneCell']) ?_; rw [← hV]; clear hV))
        go_roundw
        case rel => exact .inr (.inr ⟨rfl, P.out.put6b⟩)
        case measure => simp [intOf]
      · have Q1 := Lib.hid q1
        have Q2 := Lib.hid q2
        clear q1 q2
        refine wp_region_only (S := fun w' => Blk w' Y.heap.size 28 (Hd.cs u1).toArray) (by kernel_rfl) N.out (fun hHeld => ?_)
        refine wpAnyH_take (i := 0) (v := ?v16) rfl (by kernel_rfl) (by kernel_rfl) (by kernel_rfl) (fun _ _ _ h => h) (Or.inl ⟨by rfl, ?hy16⟩) hHeld ?rest16
        case hy16 =>
          intro w' hSw
          try dsimp only at hSw
          go_simp
          first | done | with_reducible rfl
        try simp only [Act.put, List.getElem_toArray, List.getElem_cons_zero, List.setIfInBounds_toArray, List.set_cons_zero, List.set_cons_succ]
        refine wpAnyH_take (i := 1) (v := ?v17) rfl (by kernel_rfl) (by kernel_rfl) (by kernel_rfl) (fun _ _ _ h => h) (Or.inl ⟨by rfl, ?hy17⟩) hHeld ?rest17
        case hy17 =>
          intro w' hSw
          try dsimp only at hSw
          go_simp
          first | done | with_reducible rfl
        try simp only [Act.put, List.getElem_toArray, List.getElem_cons_succ, List.getElem_cons_zero, List.setIfInBounds_toArray, List.set_cons_zero, List.set_cons_succ]
        refine wpAnyH_take (i := 2) rfl (by kernel_rfl) (by kernel_rfl) (by kernel_rfl) (fun _ _ _ h => h) (yieldsIf_load_mid (by rfl) 28 (.tmp 11) (by rfl) Y.heap.size 0 (by rfl) (Hd.cs u1) _ (fun w' hSw => Blk.rangeAt (l := Hd.cs u1) hSw) Try.underlying28 rfl (size23 _)) hHeld ?_
        try simp only [Act.put, List.getElem_toArray, List.getElem_cons_succ, List.getElem_cons_zero, List.setIfInBounds_toArray, List.set_cons_zero, List.set_cons_succ]
        refine wpAnyH_take (i := 3) (v := ?v18) rfl (by kernel_rfl) (by kernel_rfl) (by kernel_rfl) (fun _ _ _ h => h) (Or.inl ⟨by rfl, ?hy18⟩) hHeld ?rest18
        case hy18 =>
          intro w' hSw
          try dsimp only at hSw
          go_simp
          first | done | with_reducible rfl
        try simp only [Act.put, List.getElem_toArray, List.getElem_cons_succ, List.getElem_cons_zero, List.setIfInBounds_toArray, List.set_cons_zero, List.set_cons_succ]
        refine wpAnyH_ready (rs := [4]) (by kernel_rfl) (by simp) ?_
        refine AllReadyH.cons (by rfl) (fun K hK => ?_) AllReadyH.nil
        go_simp
        refine (size_at B.out.da).mono ?_
        rintro r w' ⟨rfl, rfl⟩
        clear hHeld
        refine hK.out _ _ N.out (fun hHeld => ?_)
        clear hK K
        try simp only [Act.put, List.getElem_toArray, List.getElem_cons_succ, List.getElem_cons_zero, List.setIfInBounds_toArray, List.set_cons_zero, List.set_cons_succ]
        refine wpAnyH_ready (rs := [5]) (by kernel_rfl) (by simp) ?_
        refine AllReadyH.cons (by rfl) (fun K hK => ?_) AllReadyH.nil
        go_simp
        refine (fits_any u1 Q1.out _ _).mono ?_
        rw [show D.stepped.stepped.size = D.size from rfl, Q2.out]
        rintro r X ⟨rfl, hb⟩
        replace N := Lib.hid (N.out.below hb N.out.lt)
        replace B := Lib.hid (B.out.next hb)
        clear hb hHeld
        refine hK.out _ _ N.out (fun hHeld => ?_)
        clear hK K
        try dsimp only
        refine wpAnyH_take (i := 6) (v := ?v19) rfl (by kernel_rfl) (by kernel_rfl) (by kernel_rfl) (fun _ _ _ h => h) (Or.inl ⟨by rfl, ?hy19⟩) hHeld ?rest19
        case hy19 =>
          intro w' hSw
          try dsimp only at hSw
          go_simp
          first | done | with_reducible rfl
        try simp only [Act.put, List.getElem_toArray, List.getElem_cons_succ, List.getElem_cons_zero, List.setIfInBounds_toArray, List.set_cons_zero, List.set_cons_succ]
        refine wpAnyH_done (by kernel_rfl) ?_ _
        refine OnlyN.normal ?_
        clear hHeld
        go_wp2_with fail
        go_roundw
        case rel => exact .inr (.inr ⟨rfl, B.out⟩)
        case measure => simp [intOf]
      · skip
        refine wp_region_only (S := fun _ => True) (by kernel_rfl) trivial (fun hHeld => ?_)
        refine wpAnyH_take (i := 0) (v := ?v20) rfl (by kernel_rfl) (by kernel_rfl) (by kernel_rfl) (fun _ _ _ h => h) (Or.inl ⟨by rfl, ?hy20⟩) hHeld ?rest20
        case hy20 =>
          intro w' hSw
          try dsimp only at hSw
          go_simp
          first | done | with_reducible rfl
        try simp only [Act.put, List.getElem_toArray, List.getElem_cons_zero, List.setIfInBounds_toArray, List.set_cons_zero, List.set_cons_succ]
        refine wpAnyH_take (i := 1) (v := ?v21) rfl (by kernel_rfl) (by kernel_rfl) (by kernel_rfl) (fun _ _ _ h => h) (Or.inl ⟨by rfl, ?hy21⟩) hHeld ?rest21
        case hy21 =>
          intro w' hSw
          try dsimp only at hSw
          go_simp
          first | done | with_reducible rfl
        try simp only [Act.put, List.getElem_toArray, List.getElem_cons_succ, List.getElem_cons_zero, List.setIfInBounds_toArray, List.set_cons_zero, List.set_cons_succ]
        refine wpAnyH_take (i := 2) (v := undef) rfl (by kernel_rfl) (by kernel_rfl) (by kernel_rfl) (fun _ _ _ h => h) (Or.inr ⟨by rfl, rfl⟩) hHeld ?_
        try simp only [Act.put, List.getElem_toArray, List.getElem_cons_succ, List.getElem_cons_zero, List.setIfInBounds_toArray, List.set_cons_zero, List.set_cons_succ]
        refine wpAnyH_take (i := 3) (v := undef) rfl (by kernel_rfl) (by kernel_rfl) (by kernel_rfl) (fun _ _ _ h => h) (Or.inr ⟨by rfl, rfl⟩) hHeld ?_
        try simp only [Act.put, List.getElem_toArray, List.getElem_cons_succ, List.getElem_cons_zero, List.setIfInBounds_toArray, List.set_cons_zero, List.set_cons_succ]
        refine wpAnyH_take (i := 4) (v := undef) rfl (by kernel_rfl) (by kernel_rfl) (by kernel_rfl) (fun _ _ _ h => h) (Or.inr ⟨by rfl, rfl⟩) hHeld ?_
        try simp only [Act.put, List.getElem_toArray, List.getElem_cons_succ, List.getElem_cons_zero, List.setIfInBounds_toArray, List.set_cons_zero, List.set_cons_succ]
        refine wpAnyH_take (i := 5) (v := undef) rfl (by kernel_rfl) (by kernel_rfl) (by kernel_rfl) (fun _ _ _ h => h) (Or.inr ⟨by rfl, rfl⟩) hHeld ?_
        try simp only [Act.put, List.getElem_toArray, List.getElem_cons_succ, List.getElem_cons_zero, List.setIfInBounds_toArray, List.set_cons_zero, List.set_cons_succ]
        refine wpAnyH_take (i := 6) (v := ?v22) rfl (by kernel_rfl) (by kernel_rfl) (by kernel_rfl) (fun _ _ _ h => h) (Or.inl ⟨by rfl, ?hy22⟩) hHeld ?rest22
        case hy22 =>
          intro w' hSw
          try dsimp only at hSw
          go_simp
          first | done | with_reducible rfl
        try simp only [Act.put, List.getElem_toArray, List.getElem_cons_succ, List.getElem_cons_zero, List.setIfInBounds_toArray, List.set_cons_zero, List.set_cons_succ]
        refine wpAnyH_done (by kernel_rfl) ?_ _
        refine OnlyN.normal ?_
        clear hHeld
        go_wp2_with fail
        go_roundw
        case rel => exact .inr (.inr ⟨rfl, B.out⟩)
        case measure => simp [intOf]
    · have A2 := Lib.hid hbt
      clear hbt A0
      go_wp2_with fail
      have A3 := Lib.hid A2.out.drew
      refine wp_region_only (S := fun w' => Blk w' (w.heap.size + 1 + 1) 49 (cs2 g0 g1).toArray ∧ Blk w' (w.heap.size + 1 + 1 + 1) 50 #[.bool a, .bool b]) (by kernel_rfl) ⟨A3.out.h5, A3.out.h6⟩ (fun hHeld => ?_)
      refine wpAnyH_take (i := 0) rfl (by kernel_rfl) (by kernel_rfl) (by kernel_rfl) (fun _ _ _ h => h) (yieldsIf_load_mid (by rfl) 49 (.tmp 5) (by rfl) (w.heap.size + 1 + 1) 0 (by rfl) (cs2 g0 g1) _ (fun w' hSw => Blk.rangeAt (l := cs2 g0 g1) hSw.1) Try.underlying49 rfl (size52 _ _)) hHeld ?_
      try simp only [Act.put, List.getElem_toArray, List.getElem_cons_zero, List.setIfInBounds_toArray, List.set_cons_zero, List.set_cons_succ]
      refine wpAnyH_take (i := 1) rfl (by kernel_rfl) (by kernel_rfl) (by kernel_rfl) (fun _ _ _ h => h) (yieldsIf_load_mid (by rfl) 50 (.tmp 6) (by rfl) (w.heap.size + 1 + 1 + 1) 0 (by rfl) [.bool a, .bool b] _ (fun w' hSw => Blk.rangeAt (l := [.bool a, .bool b]) hSw.2) Try.underlying50 rfl (size53 _ _)) hHeld ?_
      try simp only [Act.put, List.getElem_toArray, List.getElem_cons_succ, List.getElem_cons_zero, List.setIfInBounds_toArray, List.set_cons_zero, List.set_cons_succ]
      refine wpAnyH_ready (rs := [2]) (by kernel_rfl) (by simp) ?_
      refine AllReadyH.cons (by rfl) (fun K hK => ?_) AllReadyH.nil
      refine step_store8 rfl 49 (.tmp 2) (.tmp 46) rfl (by rfl) (cs2 g0 g1).toArray (cs2 hd0 hd0).toArray 49 (by rfl) A3.out.h2 (by kernel_rfl) rfl (cs2_one _ _) ?_
      intro W6 j6 f6
      have J6 := Lib.hid j6
      have K6 := Lib.hid (f6.keepBlk A3.out.h3 (by omega))
      have K5 := Lib.hid (f6.keepBlk A3.out.h5 (by omega))
      have K4 := Lib.hid (f6.keepBlk A3.out.h6 (by omega))
      have D6 := Lib.hid (A3.out.da.fr f6 (fun k hk e => A3.out.nh k (by omega) hk))
      have F6 := Lib.hid (A3.out.fr.then_ f6 (fun i hi e => by omega))
      clear hHeld j6 f6
      refine hK.out _ _ ⟨K5.out, K4.out⟩ (fun hHeld => ?_)
      clear hK K
      try simp only [Act.put, List.getElem_toArray, List.getElem_cons_succ, List.getElem_cons_zero]
      refine wpAnyH_ready (rs := [3]) (by kernel_rfl) (by simp) ?_
      refine AllReadyH.cons (by rfl) (fun K hK => ?_) AllReadyH.nil
      refine step_store8 rfl 50 (.tmp 3) (.tmp 47) rfl (by rfl) #[.bool a, .bool b] #[.bool false, .bool false] 50 (by rfl) K6.out (by kernel_rfl) rfl (by simp [Value.oneCell']) ?_
      intro W7 j7 f7
      have J7 := Lib.hid j7
      have M7 := Lib.hid (f7.keepBlk J6.out (by omega))
      have M5 := Lib.hid (f7.keepBlk K5.out (by omega))
      have M4 := Lib.hid (f7.keepBlk K4.out (by omega))
      have D7 := Lib.hid (D6.out.fr f7 (fun k hk e => A3.out.nh k (by omega) hk))
      have F7 := Lib.hid (F6.out.then_ f7 (fun i hi e => by omega))
      clear hHeld j7 f7
      refine hK.out _ _ ⟨M5.out, M4.out⟩ (fun hHeld => ?_)
      clear hK K
      try simp only [Act.put, List.getElem_toArray, List.getElem_cons_succ, List.getElem_cons_zero]
      refine wpAnyH_take (i := 4) (v := ?v23) rfl (by kernel_rfl) (by kernel_rfl) (by kernel_rfl) (fun _ _ _ h => h) (Or.inl ⟨by rfl, ?hy23⟩) hHeld ?rest23
      case hy23 =>
        intro w' hSw
        try dsimp only at hSw
        go_simp
        first | done | with_reducible rfl
      try simp only [Act.put, List.getElem_toArray, List.getElem_cons_succ, List.getElem_cons_zero, List.setIfInBounds_toArray, List.set_cons_zero, List.set_cons_succ]
      refine wpAnyH_done (by kernel_rfl) ?_ _
      refine OnlyN.normal ?_
      clear hHeld
      go_wp2_with fail
      exact bodyPost_ret (results_both rfl _ _ w.heap.size (w.heap.size + 1) g0 g1 a b rfl rfl M7.out J7.out) rfl ⟨rfl, D7.out, F7.out⟩
end Go.Proofs.Ytcfkoglehjkkdaa

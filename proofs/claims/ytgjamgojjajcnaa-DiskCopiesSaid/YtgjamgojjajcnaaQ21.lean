/- law 2: act, at a Write. -/
import Derived.Test.YtgjamgojjajcnaaQ20
namespace Go.Proofs.Ytgjamgojjajcnaa
open Go.RowKit
attribute [local go_sem] Oper.semAt_some
set_option maxRecDepth 100000 in
set_option maxHeartbeats 8000000 in
theorem act1_any {w : World} {B p : Nat} {pl : Pl} {D : Dk} {r : Rp} {R : Rf} {s z : Nat} (h : Bo w B p pl D r R s z) (hN : R.ws.length < 100000) (hs : s ≤ 100000) (x : Ac) (hx : x.what = 1) :
    Calls Try.prog 11 #[.pointer (some ⟨p, 0, none⟩), r.val s, x.val] w (ActPost w B p pl r R z (wRf R s z x.sector (fullL x.byte)) (wSt s z x.sector)) := by
  have hz := z43
  have H := Lib.hid h
  have HN := Lib.hid hN
  have HS := Lib.hid hs
  obtain ⟨Wd, hW⟩ : ∃ Wd, Wd = ((w.alloc (.cells #[.slice r.A1 r.n1 r.c1, .slice r.A2 r.n2 r.c2, .int .i64 (s : Int), .slice r.A3 r.n3 r.c3] 34)).alloc (.cells x.cs.toArray 28)).alloc (.cells #[.slice none 0 0, .slice none 0 0, .int .i64 0, .slice none 0 0] 34) := ⟨_, rfl⟩
  have A0 := Lib.hid (show Ag w r s x Wd from by rw [hW]; exact Ag.of w r s x)
  have x0 : (x.what == 0) = false := by rw [hx]; rfl
  have x1 : (x.what == 1) = true := by rw [hx]; rfl
  clear h hN hs hx
  go_enter Try.func11, Try.ntmps11
  go_wp2_with fail
  rw [← hW]
  clear hW
  have A := Lib.hid A0.out.drew
  refine wp_region_only (S := fun w' => w'.cell? ⟨w.heap.size + 1, 1, none⟩ = some (.int .i64 x.sector) ∧ w'.cell? ⟨w.heap.size + 1, 3, none⟩ = some (.int .u8 (x.byte.toNat : Int)) ∧ Blk w' w.heap.size 34 #[.slice r.A1 r.n1 r.c1, .slice r.A2 r.n2 r.c2, .int .i64 (s : Int), .slice r.A3 r.n3 r.c3]) (by kernel_rfl) A0.out.fs (fun hHeld => ?_)
  refine wpAnyH_take (i := 0) rfl (by kernel_rfl) (by kernel_rfl) (by kernel_rfl) (fun _ _ _ h => h) (yieldsIf_load_mid (by rfl) 34 (.tmp 4) (by rfl) w.heap.size 0 (by rfl) [.slice r.A1 r.n1 r.c1, .slice r.A2 r.n2 r.c2, .int .i64 (s : Int), .slice r.A3 r.n3 r.c3] _ (fun w' hSw => Blk.rangeAt hSw.2.2) Try.underlying34 rfl size43) hHeld ?_
  try simp only [Act.put, List.getElem_toArray, List.getElem_cons_zero, List.setIfInBounds_toArray, List.set_cons_zero, List.set_cons_succ]
  refine wpAnyH_take (i := 1) (v := ?v31) rfl (by kernel_rfl) (by kernel_rfl) (by kernel_rfl) (fun _ _ _ h => h) (Or.inl ⟨by rfl, ?hy31⟩) hHeld ?rest31
  case hy31 =>
    intro w' hSw
    try dsimp only at hSw
    go_simp
    first | done | with_reducible rfl
  try simp only [Act.put, List.getElem_toArray, List.getElem_cons_succ, List.getElem_cons_zero, List.setIfInBounds_toArray, List.set_cons_zero, List.set_cons_succ]
  refine wpAnyH_take (i := 2) (v := ?v32) rfl (by kernel_rfl) (by kernel_rfl) (by kernel_rfl) (fun _ _ _ h => h) (Or.inl ⟨by rfl, ?hy32⟩) hHeld ?rest32
  case hy32 =>
    intro w' hSw
    try dsimp only at hSw
    go_simp
    first | done | with_reducible rfl
  try simp only [Act.put, List.getElem_toArray, List.getElem_cons_succ, List.getElem_cons_zero, List.setIfInBounds_toArray, List.set_cons_zero, List.set_cons_succ]
  refine wpAnyH_take (i := 3) (v := ?v33) rfl (by kernel_rfl) (by kernel_rfl) (by kernel_rfl) (fun _ _ _ h => h) (Or.inl ⟨by rfl, ?hy33⟩) hHeld ?rest33
  case hy33 =>
    intro w' hSw
    try dsimp only at hSw
    go_simp
    first | done | with_reducible rfl
  try simp only [Act.put, List.getElem_toArray, List.getElem_cons_succ, List.getElem_cons_zero, List.setIfInBounds_toArray, List.set_cons_zero, List.set_cons_succ]
  refine wpAnyH_take (i := 4) (v := ?v34) rfl (by kernel_rfl) (by kernel_rfl) (by kernel_rfl) (fun _ _ _ h => h) (Or.inl ⟨by rfl, ?hy34⟩) hHeld ?rest34
  case hy34 =>
    intro w' hSw
    try dsimp only at hSw
    go_simp
    first | done | with_reducible rfl
  try simp only [Act.put, List.getElem_toArray, List.getElem_cons_succ, List.getElem_cons_zero, List.setIfInBounds_toArray, List.set_cons_zero, List.set_cons_succ]
  refine wpAnyH_ready (rs := [5, 10]) (by kernel_rfl) (by simp) ?_
  refine AllReadyH.cons (by rfl) (fun K hK => ?_) (AllReadyH.cons (by rfl) (fun K hK => ?_) AllReadyH.nil)
  · go_simp
    refine (full_at _ x.byte).mono ?_
    rintro e m1 ⟨rfl, hb⟩
    have A := Lib.hid (A.out.go hb)
    clear hb hHeld
    refine hK.out _ _ A.out.fs (fun hHeld => ?_)
    clear hK K
    try simp only [Act.put, List.getElem_toArray, List.getElem_cons_succ, List.getElem_cons_zero, List.setIfInBounds_toArray, List.set_cons_zero, List.set_cons_succ]
    refine wpAnyH_ready (rs := [6, 10]) (by kernel_rfl) (by simp) ?_
    refine AllReadyH.cons (by rfl) (fun K hK => ?_) (AllReadyH.cons (by rfl) (fun K hK => ?_) AllReadyH.nil)
    · go_simp
      refine (rwrite_any (H.out.rf.below A.out.be) HN.out HS.out x.sector (fullL x.byte) (fullL_length _)).mono ?_
      rintro e m2 ⟨r', rfl, hb, hr, e1, e3, e2⟩
      have T := Lib.hid hr
      have NA0 := Lib.hid (show ∀ b, r'.at_ (wRf R s z x.sector (fullL x.byte)) b → r.at_ R b ∨ w.heap.size + 1 + 1 < b from fun b hb' => (at_write e1 e3 e2 hb').imp id (fun h => Nat.lt_of_lt_of_le A.out.h7.lt h))
      have A := Lib.hid (A.out.go hb)
      obtain ⟨t, ht⟩ : ∃ t, t = wSt s z x.sector := ⟨_, rfl⟩
      obtain ⟨no, hno⟩ : ∃ no, no = wNo R s z x.sector := ⟨_, rfl⟩
      rw [← ht, ← hno]
      have HT := Lib.hid ht
      have HNO := Lib.hid hno
      clear hb hr e1 e2 e3 ht hno hHeld
      refine hK.out _ _ A.out.fs (fun hHeld => ?_)
      clear hK K
      try simp only [Act.put, List.getElem_toArray, List.getElem_cons_succ, List.getElem_cons_zero, List.setIfInBounds_toArray, List.set_cons_zero, List.set_cons_succ]
      refine wpAnyH_take (i := 7) (v := ?v35) rfl (by kernel_rfl) (by kernel_rfl) (by kernel_rfl) (fun _ _ _ h => h) (Or.inl ⟨by rfl, ?hy35⟩) hHeld ?rest35
      case hy35 =>
        intro w' hSw
        try dsimp only at hSw
        go_simp
        first | done | with_reducible rfl
      try simp only [Act.put, List.getElem_toArray, List.getElem_cons_succ, List.getElem_cons_zero, List.setIfInBounds_toArray, List.set_cons_zero, List.set_cons_succ]
      refine wpAnyH_take (i := 8) (v := ?v36) rfl (by kernel_rfl) (by kernel_rfl) (by kernel_rfl) (fun _ _ _ h => h) (Or.inl ⟨by rfl, ?hy36⟩) hHeld ?rest36
      case hy36 =>
        intro w' hSw
        try dsimp only at hSw
        go_simp
        first | done | with_reducible rfl
      try simp only [Act.put, List.getElem_toArray, List.getElem_cons_succ, List.getElem_cons_zero, List.setIfInBounds_toArray, List.set_cons_zero, List.set_cons_succ]
      refine wpAnyH_take (i := 9) (v := ?v37) rfl (by kernel_rfl) (by kernel_rfl) (by kernel_rfl) (fun _ _ _ h => h) (Or.inl ⟨by rfl, ?hy37⟩) hHeld ?rest37
      case hy37 =>
        intro w' hSw
        try dsimp only at hSw
        go_simp
        first | done | with_reducible rfl
      try simp only [Act.put, List.getElem_toArray, List.getElem_cons_succ, List.getElem_cons_zero, List.setIfInBounds_toArray, List.set_cons_zero, List.set_cons_succ]
      refine wpAnyH_ready (rs := [10]) (by kernel_rfl) (by simp) ?_
      refine AllReadyH.cons (by rfl) (fun K hK => ?_) AllReadyH.nil
      refine step_alloc43 rfl (by rfl) ?_
      intro g m3 hg hw
      have G := Lib.hid (show Blk m3 g 34 #[.slice none 0 0, .slice none 0 0, .int .i64 0, .slice none 0 0] from by rw [hw, hg]; exact Blk.new _ _ _)
      have GG := Lib.hid (show w.heap.size + 1 + 1 < g from by rw [hg]; exact A.out.h7.lt)
      have NA := Lib.hid (show ∀ b, r'.at_ (wRf R s z x.sector (fullL x.byte)) b → b ≠ g from fun b hb' e => by have := T.out.lt hb'; omega)
      have T := Lib.hid (show RefAt m3 r' (wRf R s z x.sector (fullL x.byte)) z from by rw [hw]; exact T.out.alloc _)
      have A := Lib.hid (show Ag w r s x m3 from by rw [hw]; exact A.out.alloc _)
      clear hg hw hHeld
      refine hK.out _ _ A.out.fs (fun hHeld => ?_)
      clear hK K
      try simp only [Act.put, List.getElem_toArray, List.getElem_cons_succ, List.getElem_cons_zero, List.setIfInBounds_toArray, List.set_cons_zero, List.set_cons_succ]
      refine wpAnyH_ready (rs := [11]) (by kernel_rfl) (by simp) ?_
      refine AllReadyH.cons (by rfl) (fun K hK => ?_) AllReadyH.nil
      refine step_store_whole rfl 34 (.tmp 14) (.tmp 66) rfl (by rfl) #[.slice r'.A1 r'.n1 r'.c1, .slice r'.A2 r'.n2 r'.c2, .int .i64 (t : Int), .slice r'.A3 r'.n3 r'.c3] #[.slice none 0 0, .slice none 0 0, .int .i64 0, .slice none 0 0] 34 (by rfl) G.out (size43c _ _ _ _) rfl (one43 _ _ _ _ _ _ _ _ _ _) ?_
      intro m4 j4 f4
      have J := Lib.hid j4
      have AJ := Lib.hid (A.out.stored GG.out f4)
      have TJ := Lib.hid (T.out.fr f4 (fun b hb' e => NA.out b hb' e))
      have FJ := Lib.hid f4
      clear hHeld j4 f4 A T G
      refine hK.out _ _ AJ.out.fs (fun hHeld => ?_)
      clear hK K
      try simp only [Act.put, List.getElem_toArray, List.getElem_cons_succ, List.getElem_cons_zero]
      refine wpAnyH_take (i := 12) (v := ?v38) rfl (by kernel_rfl) (by kernel_rfl) (by kernel_rfl) (fun _ _ _ h => h) (Or.inl ⟨by rfl, ?hy38⟩) hHeld ?rest38
      case hy38 =>
        intro w' hSw
        try dsimp only at hSw
        go_simp
        first | done | with_reducible rfl
      try simp only [Act.put, List.getElem_toArray, List.getElem_cons_succ, List.getElem_cons_zero, List.setIfInBounds_toArray, List.set_cons_zero, List.set_cons_succ]
      refine wpAnyH_done (by kernel_rfl) ?_ _
      refine OnlyN.normal ?_
      clear hHeld
      have X4 := Lib.hid (show Ah w x g #[.slice r'.A1 r'.n1 r'.c1, .slice r'.A2 r'.n2 r'.c2, .int .i64 (t : Int), .slice r'.A3 r'.n3 r'.c3] m4 from ⟨AJ.out.h1, AJ.out.h7, J.out⟩)
      have BJ := Lib.hid AJ.out.be
      clear AJ J FJ NA
      go_wp2_with fail
      refine wp_region_only (S := fun w' => w'.cell? ⟨w.heap.size + 1, 1, none⟩ = some (.int .i64 x.sector) ∧ w'.cell? ⟨w.heap.size + 1, 3, none⟩ = some (.int .u8 (x.byte.toNat : Int)) ∧ Blk w' g 34 #[.slice r'.A1 r'.n1 r'.c1, .slice r'.A2 r'.n2 r'.c2, .int .i64 (t : Int), .slice r'.A3 r'.n3 r'.c3]) (by kernel_rfl) X4.out.fs (fun hHeld => ?_)
      refine wpAnyH_take (i := 0) (v := ?v1) rfl (by kernel_rfl) (by kernel_rfl) (by kernel_rfl) (fun _ _ _ h => h) (Or.inl ⟨by rfl, ?hy1⟩) hHeld ?rest1
      case hy1 =>
        intro w' hSw
        try dsimp only at hSw
        go_simp
        first | done | with_reducible rfl
      try simp only [Act.put, List.getElem_toArray, List.getElem_cons_zero, List.setIfInBounds_toArray, List.set_cons_zero, List.set_cons_succ]
      refine wpAnyH_take (i := 1) rfl (by kernel_rfl) (by kernel_rfl) (by kernel_rfl) (fun _ _ _ h => h) (yieldsIf_load_mid (by rfl) 34 (.tmp 14) (by rfl) g 0 (by rfl) [.slice r'.A1 r'.n1 r'.c1, .slice r'.A2 r'.n2 r'.c2, .int .i64 (t : Int), .slice r'.A3 r'.n3 r'.c3] _ (fun w' hSw => Blk.rangeAt hSw.2.2) Try.underlying34 rfl size43) hHeld ?_
      try simp only [Act.put, List.getElem_toArray, List.getElem_cons_succ, List.getElem_cons_zero, List.setIfInBounds_toArray, List.set_cons_zero, List.set_cons_succ]
      refine wpAnyH_take (i := 2) (v := ?v2) rfl (by kernel_rfl) (by kernel_rfl) (by kernel_rfl) (fun _ _ _ h => h) (Or.inl ⟨by rfl, ?hy2⟩) hHeld ?rest2
      case hy2 =>
        intro w' hSw
        try dsimp only at hSw
        go_simp
        first | done | with_reducible rfl
      try simp only [Act.put, List.getElem_toArray, List.getElem_cons_succ, List.getElem_cons_zero, List.setIfInBounds_toArray, List.set_cons_zero, List.set_cons_succ]
      refine wpAnyH_take (i := 3) (v := ?v3) rfl (by kernel_rfl) (by kernel_rfl) (by kernel_rfl) (fun _ _ _ h => h) (Or.inl ⟨by rfl, ?hy3⟩) hHeld ?rest3
      case hy3 =>
        intro w' hSw
        try dsimp only at hSw
        go_simp
        first | done | with_reducible rfl
      try simp only [Act.put, List.getElem_toArray, List.getElem_cons_succ, List.getElem_cons_zero, List.setIfInBounds_toArray, List.set_cons_zero, List.set_cons_succ]
      refine wpAnyH_take (i := 4) (v := ?v4) rfl (by kernel_rfl) (by kernel_rfl) (by kernel_rfl) (fun _ _ _ h => h) (Or.inl ⟨by rfl, ?hy4⟩) hHeld ?rest4
      case hy4 =>
        intro w' hSw
        try dsimp only at hSw
        go_simp
        first | done | with_reducible rfl
      try simp only [Act.put, List.getElem_toArray, List.getElem_cons_succ, List.getElem_cons_zero, List.setIfInBounds_toArray, List.set_cons_zero, List.set_cons_succ]
      refine wpAnyH_take (i := 5) (v := ?v5) rfl (by kernel_rfl) (by kernel_rfl) (by kernel_rfl) (fun _ _ _ h => h) (Or.inl ⟨by rfl, ?hy5⟩) hHeld ?rest5
      case hy5 =>
        intro w' hSw
        try dsimp only at hSw
        go_simp
        first | done | with_reducible rfl
      try simp only [Act.put, List.getElem_toArray, List.getElem_cons_succ, List.getElem_cons_zero, List.setIfInBounds_toArray, List.set_cons_zero, List.set_cons_succ]
      refine wpAnyH_take (i := 6) (v := ?v6) rfl (by kernel_rfl) (by kernel_rfl) (by kernel_rfl) (fun _ _ _ h => h) (Or.inl ⟨by rfl, ?hy6⟩) hHeld ?rest6
      case hy6 =>
        intro w' hSw
        try dsimp only at hSw
        go_simp
        first | done | with_reducible rfl
      try simp only [Act.put, List.getElem_toArray, List.getElem_cons_succ, List.getElem_cons_zero, List.setIfInBounds_toArray, List.set_cons_zero, List.set_cons_succ]
      refine wpAnyH_take (i := 10) (v := ?v7) rfl (by kernel_rfl) (by kernel_rfl) (by kernel_rfl) (fun _ _ _ h => h) (Or.inl ⟨by rfl, ?hy7⟩) hHeld ?rest7
      case hy7 =>
        intro w' hSw
        try dsimp only at hSw
        go_simp
        first | done | with_reducible rfl
      try simp only [Act.put, List.getElem_toArray, List.getElem_cons_succ, List.getElem_cons_zero, List.setIfInBounds_toArray, List.set_cons_zero, List.set_cons_succ]
      refine wpAnyH_ready (rs := [7]) (by kernel_rfl) (by simp) ?_
      refine AllReadyH.cons (by rfl) (fun K hK => ?_) AllReadyH.nil
      go_simp
      refine (full_at _ x.byte).mono ?_
      rintro e m5 ⟨rfl, hb⟩
      have X5 := Lib.hid (X4.out.below (Below.drew (Below.refl _ m4)) |>.below hb)
      have T5 := Lib.hid (TJ.out.drew.below hb)
      have B5 := Lib.hid (show Below w.heap.size w m5 from BJ.out.drew.trans (hb.mono BJ.out.size))
      clear hb hHeld TJ BJ X4
      refine hK.out _ _ X5.out.fs (fun hHeld => ?_)
      clear hK K
      try simp only [Act.put, List.getElem_toArray, List.getElem_cons_succ, List.getElem_cons_zero, List.setIfInBounds_toArray, List.set_cons_zero, List.set_cons_succ]
      refine wpAnyH_ready (rs := [8]) (by kernel_rfl) (by simp) ?_
      refine AllReadyH.cons (by rfl) (fun K hK => ?_) AllReadyH.nil
      go_simp
      refine (dwrite_any (H.out.da.below B5.out) (Nat.le_trans H.out.hB B5.out.size) H.out.al HN.out HS.out x.sector (fullL x.byte) (fullL_length _)).mono ?_
      rintro e m6 ⟨rfl, pl', D', hd, hf, hpl, hal⟩
      have X6 := Lib.hid (X5.out.fr hf (fun k hk => (H.out.da.lt k hk).1) GG.out)
      have BO := Lib.hid (H.out.mk' B5.out.size T5.out (fun b hb' => (NA0.out b hb').imp id (fun h => by omega)) hd hf hpl hal)
      have FR := Lib.hid (show Fr (pl.has p) w m6 from (Fr.of_below B5.out).trans hf)
      have PL := Lib.hid (show ∀ q, pl'.has p q → pl.has p q ∨ w.heap.size + 1 + 1 < q from fun q hq => (hpl q hq).imp id (fun h => Nat.lt_of_lt_of_le X5.out.h7.lt h))
      rw [← HNO.out]
      clear hd hf hpl hal hHeld T5 B5 X5
      refine hK.out _ _ X6.out.fs (fun hHeld => ?_)
      clear hK K
      try simp only [Act.put, List.getElem_toArray, List.getElem_cons_succ, List.getElem_cons_zero, List.setIfInBounds_toArray, List.set_cons_zero, List.set_cons_succ]
      refine wpAnyH_ready (rs := [9]) (by kernel_rfl) (by simp) ?_
      refine AllReadyH.cons (by rfl) (fun K hK => ?_) AllReadyH.nil
      go_simp
      refine (num_any _ _).mono ?_
      rintro e m7 ⟨rfl, rfl⟩
      clear hHeld
      refine hK.out _ _ X6.out.fs (fun hHeld => ?_)
      clear hK K
      try simp only [Act.put, List.getElem_toArray, List.getElem_cons_succ, List.getElem_cons_zero, List.setIfInBounds_toArray, List.set_cons_zero, List.set_cons_succ]
      refine wpAnyH_take (i := 11) (v := ?v8) rfl (by kernel_rfl) (by kernel_rfl) (by kernel_rfl) (fun _ _ _ h => h) (Or.inl ⟨by rfl, ?hy8⟩) hHeld ?rest8
      case hy8 =>
        intro w' hSw
        try dsimp only at hSw
        go_simp
        first | done | with_reducible rfl
      try simp only [Act.put, List.getElem_toArray, List.getElem_cons_succ, List.getElem_cons_zero, List.setIfInBounds_toArray, List.set_cons_zero, List.set_cons_succ]
      refine wpAnyH_take (i := 12) (v := ?v9) rfl (by kernel_rfl) (by kernel_rfl) (by kernel_rfl) (fun _ _ _ h => h) (Or.inl ⟨by rfl, ?hy9⟩) hHeld ?rest9
      case hy9 =>
        intro w' hSw
        try dsimp only at hSw
        go_simp
        first | done | with_reducible rfl
      try simp only [Act.put, List.getElem_toArray, List.getElem_cons_succ, List.getElem_cons_zero, List.setIfInBounds_toArray, List.set_cons_zero, List.set_cons_succ]
      refine wpAnyH_ready (rs := [13]) (by kernel_rfl) (by simp) ?_
      refine AllReadyH.cons (by rfl) (fun K hK => ?_) AllReadyH.nil
      refine step_store_whole rfl 34 (.tmp 7) (.tmp 69) rfl (by rfl) #[.slice r'.A1 r'.n1 r'.c1, .slice r'.A2 r'.n2 r'.c2, .int .i64 (t : Int), .slice r'.A3 r'.n3 r'.c3] #[.slice none 0 0, .slice none 0 0, .int .i64 0, .slice none 0 0] 34 (by rfl) X6.out.h7 (size43c _ _ _ _) rfl (one43 _ _ _ _ _ _ _ _ _ _) ?_
      intro m8 j8 f8
      have J8 := Lib.hid j8
      have BO8 := Lib.hid (show Bo m8 B p pl' D' r' (wRf R s z x.sector (fullL x.byte)) (wSt s z x.sector) z from BO.out.far f8 (fun hk => by rcases PL.out _ hk with h | h; (have := (H.out.da.lt _ h).1; omega); omega) (fun hk => by rcases NA0.out _ hk with h | h; (have := H.out.rf.lt h; omega); omega))
      have FR8 := Lib.hid (FR.out.then_ f8 (fun i hi e => by omega))
      have X8 := Lib.hid (show m8.cell? ⟨w.heap.size + 1, 1, none⟩ = some (.int .i64 x.sector) ∧ m8.cell? ⟨w.heap.size + 1, 3, none⟩ = some (.int .u8 (x.byte.toNat : Int)) ∧ Blk m8 g 34 #[.slice r'.A1 r'.n1 r'.c1, .slice r'.A2 r'.n2 r'.c2, .int .i64 (t : Int), .slice r'.A3 r'.n3 r'.c3] from ⟨((f8.keepBlk X6.out.h1 (by omega)).cell 1).trans rfl, ((f8.keepBlk X6.out.h1 (by omega)).cell 3).trans rfl, f8.keepBlk X6.out.hg (by have := GG.out; omega)⟩)
      clear hHeld j8 f8 BO FR X6
      refine hK.out _ _ X8.out (fun hHeld => ?_)
      clear hK K
      try simp only [Act.put, List.getElem_toArray, List.getElem_cons_succ, List.getElem_cons_zero]
      refine wpAnyH_take (i := 14) (v := ?v10) rfl (by kernel_rfl) (by kernel_rfl) (by kernel_rfl) (fun _ _ _ h => h) (Or.inl ⟨by rfl, ?hy10⟩) hHeld ?rest10
      case hy10 =>
        intro w' hSw
        try dsimp only at hSw
        go_simp
        first | done | with_reducible rfl
      try simp only [Act.put, List.getElem_toArray, List.getElem_cons_succ, List.getElem_cons_zero, List.setIfInBounds_toArray, List.set_cons_zero, List.set_cons_succ]
      refine wpAnyH_done (by kernel_rfl) ?_ _
      refine OnlyN.normal ?_
      clear hHeld
      go_wp2_with fail
      exact bodyPost_ret (results_act rfl _ _ (w.heap.size + 1 + 1) #[.slice r'.A1 r'.n1 r'.c1, .slice r'.A2 r'.n2 r'.c2, .int .i64 (t : Int), .slice r'.A3 r'.n3 r'.c3] rfl rfl J8.out) rfl ⟨pl', D', r', by rw [← HT.out]; rfl, BO8.out, FR8.out, fun q hq => (PL.out q hq).imp id (fun h => by omega), fun b hb' => (NA0.out b hb').imp id (fun h => by omega)⟩
    · refine step_alloc43 rfl (by rfl) ?_
      intro g m2 hg hw
      have G := Lib.hid (show Blk m2 g 34 #[.slice none 0 0, .slice none 0 0, .int .i64 0, .slice none 0 0] from by rw [hw, hg]; exact Blk.new _ _ _)
      have GG := Lib.hid (show w.heap.size + 1 + 1 < g from by rw [hg]; exact A.out.h7.lt)
      have A := Lib.hid (show Ag w r s x m2 from by rw [hw]; exact A.out.alloc _)
      clear hg hw hHeld
      refine hK.out _ _ A.out.fs (fun hHeld => ?_)
      clear hK K
      try simp only [Act.put, List.getElem_toArray, List.getElem_cons_succ, List.getElem_cons_zero, List.setIfInBounds_toArray, List.set_cons_zero, List.set_cons_succ]
      refine wpAnyH_ready (rs := [6]) (by kernel_rfl) (by simp) ?_
      refine AllReadyH.cons (by rfl) (fun K hK => ?_) AllReadyH.nil
      go_simp
      refine (rwrite_any (H.out.rf.below A.out.be) HN.out HS.out x.sector (fullL x.byte) (fullL_length _)).mono ?_
      rintro e m3 ⟨r', rfl, hb, hr, e1, e3, e2⟩
      have T := Lib.hid hr
      have NA0 := Lib.hid (show ∀ b, r'.at_ (wRf R s z x.sector (fullL x.byte)) b → r.at_ R b ∨ w.heap.size + 1 + 1 < b from fun b hb' => (at_write e1 e3 e2 hb').imp id (fun h => Nat.lt_of_lt_of_le A.out.h7.lt h))
      have NA := Lib.hid (show ∀ b, r'.at_ (wRf R s z x.sector (fullL x.byte)) b → b ≠ g from fun b hb' => by
        have hg := G.out.lt
        have hg2 := GG.out
        rcases at_write e1 e3 e2 hb' with h | h
        · have := H.out.rf.lt h
          omega
        · omega)
      have G := Lib.hid (G.out.below hb G.out.lt)
      have A := Lib.hid (A.out.go hb)
      obtain ⟨t, ht⟩ : ∃ t, t = wSt s z x.sector := ⟨_, rfl⟩
      obtain ⟨no, hno⟩ : ∃ no, no = wNo R s z x.sector := ⟨_, rfl⟩
      rw [← ht, ← hno]
      have HT := Lib.hid ht
      have HNO := Lib.hid hno
      clear hb hr e1 e2 e3 ht hno hHeld
      refine hK.out _ _ A.out.fs (fun hHeld => ?_)
      clear hK K
      try simp only [Act.put, List.getElem_toArray, List.getElem_cons_succ, List.getElem_cons_zero, List.setIfInBounds_toArray, List.set_cons_zero, List.set_cons_succ]
      refine wpAnyH_take (i := 7) (v := ?v39) rfl (by kernel_rfl) (by kernel_rfl) (by kernel_rfl) (fun _ _ _ h => h) (Or.inl ⟨by rfl, ?hy39⟩) hHeld ?rest39
      case hy39 =>
        intro w' hSw
        try dsimp only at hSw
        go_simp
        first | done | with_reducible rfl
      try simp only [Act.put, List.getElem_toArray, List.getElem_cons_succ, List.getElem_cons_zero, List.setIfInBounds_toArray, List.set_cons_zero, List.set_cons_succ]
      refine wpAnyH_take (i := 8) (v := ?v40) rfl (by kernel_rfl) (by kernel_rfl) (by kernel_rfl) (fun _ _ _ h => h) (Or.inl ⟨by rfl, ?hy40⟩) hHeld ?rest40
      case hy40 =>
        intro w' hSw
        try dsimp only at hSw
        go_simp
        first | done | with_reducible rfl
      try simp only [Act.put, List.getElem_toArray, List.getElem_cons_succ, List.getElem_cons_zero, List.setIfInBounds_toArray, List.set_cons_zero, List.set_cons_succ]
      refine wpAnyH_take (i := 9) (v := ?v41) rfl (by kernel_rfl) (by kernel_rfl) (by kernel_rfl) (fun _ _ _ h => h) (Or.inl ⟨by rfl, ?hy41⟩) hHeld ?rest41
      case hy41 =>
        intro w' hSw
        try dsimp only at hSw
        go_simp
        first | done | with_reducible rfl
      try simp only [Act.put, List.getElem_toArray, List.getElem_cons_succ, List.getElem_cons_zero, List.setIfInBounds_toArray, List.set_cons_zero, List.set_cons_succ]
      refine wpAnyH_ready (rs := [11]) (by kernel_rfl) (by simp) ?_
      refine AllReadyH.cons (by rfl) (fun K hK => ?_) AllReadyH.nil
      refine step_store_whole rfl 34 (.tmp 14) (.tmp 66) rfl (by rfl) #[.slice r'.A1 r'.n1 r'.c1, .slice r'.A2 r'.n2 r'.c2, .int .i64 (t : Int), .slice r'.A3 r'.n3 r'.c3] #[.slice none 0 0, .slice none 0 0, .int .i64 0, .slice none 0 0] 34 (by rfl) G.out (size43c _ _ _ _) rfl (one43 _ _ _ _ _ _ _ _ _ _) ?_
      intro m4 j4 f4
      have J := Lib.hid j4
      have AJ := Lib.hid (A.out.stored GG.out f4)
      have TJ := Lib.hid (T.out.fr f4 (fun b hb' e => NA.out b hb' e))
      have FJ := Lib.hid f4
      clear hHeld j4 f4 A T G
      refine hK.out _ _ AJ.out.fs (fun hHeld => ?_)
      clear hK K
      try simp only [Act.put, List.getElem_toArray, List.getElem_cons_succ, List.getElem_cons_zero]
      refine wpAnyH_take (i := 12) (v := ?v42) rfl (by kernel_rfl) (by kernel_rfl) (by kernel_rfl) (fun _ _ _ h => h) (Or.inl ⟨by rfl, ?hy42⟩) hHeld ?rest42
      case hy42 =>
        intro w' hSw
        try dsimp only at hSw
        go_simp
        first | done | with_reducible rfl
      try simp only [Act.put, List.getElem_toArray, List.getElem_cons_succ, List.getElem_cons_zero, List.setIfInBounds_toArray, List.set_cons_zero, List.set_cons_succ]
      refine wpAnyH_done (by kernel_rfl) ?_ _
      refine OnlyN.normal ?_
      clear hHeld
      have X4 := Lib.hid (show Ah w x g #[.slice r'.A1 r'.n1 r'.c1, .slice r'.A2 r'.n2 r'.c2, .int .i64 (t : Int), .slice r'.A3 r'.n3 r'.c3] m4 from ⟨AJ.out.h1, AJ.out.h7, J.out⟩)
      have BJ := Lib.hid AJ.out.be
      clear AJ J FJ NA
      go_wp2_with fail
      refine wp_region_only (S := fun w' => w'.cell? ⟨w.heap.size + 1, 1, none⟩ = some (.int .i64 x.sector) ∧ w'.cell? ⟨w.heap.size + 1, 3, none⟩ = some (.int .u8 (x.byte.toNat : Int)) ∧ Blk w' g 34 #[.slice r'.A1 r'.n1 r'.c1, .slice r'.A2 r'.n2 r'.c2, .int .i64 (t : Int), .slice r'.A3 r'.n3 r'.c3]) (by kernel_rfl) X4.out.fs (fun hHeld => ?_)
      refine wpAnyH_take (i := 0) (v := ?v11) rfl (by kernel_rfl) (by kernel_rfl) (by kernel_rfl) (fun _ _ _ h => h) (Or.inl ⟨by rfl, ?hy11⟩) hHeld ?rest11
      case hy11 =>
        intro w' hSw
        try dsimp only at hSw
        go_simp
        first | done | with_reducible rfl
      try simp only [Act.put, List.getElem_toArray, List.getElem_cons_zero, List.setIfInBounds_toArray, List.set_cons_zero, List.set_cons_succ]
      refine wpAnyH_take (i := 1) rfl (by kernel_rfl) (by kernel_rfl) (by kernel_rfl) (fun _ _ _ h => h) (yieldsIf_load_mid (by rfl) 34 (.tmp 14) (by rfl) g 0 (by rfl) [.slice r'.A1 r'.n1 r'.c1, .slice r'.A2 r'.n2 r'.c2, .int .i64 (t : Int), .slice r'.A3 r'.n3 r'.c3] _ (fun w' hSw => Blk.rangeAt hSw.2.2) Try.underlying34 rfl size43) hHeld ?_
      try simp only [Act.put, List.getElem_toArray, List.getElem_cons_succ, List.getElem_cons_zero, List.setIfInBounds_toArray, List.set_cons_zero, List.set_cons_succ]
      refine wpAnyH_take (i := 2) (v := ?v12) rfl (by kernel_rfl) (by kernel_rfl) (by kernel_rfl) (fun _ _ _ h => h) (Or.inl ⟨by rfl, ?hy12⟩) hHeld ?rest12
      case hy12 =>
        intro w' hSw
        try dsimp only at hSw
        go_simp
        first | done | with_reducible rfl
      try simp only [Act.put, List.getElem_toArray, List.getElem_cons_succ, List.getElem_cons_zero, List.setIfInBounds_toArray, List.set_cons_zero, List.set_cons_succ]
      refine wpAnyH_take (i := 3) (v := ?v13) rfl (by kernel_rfl) (by kernel_rfl) (by kernel_rfl) (fun _ _ _ h => h) (Or.inl ⟨by rfl, ?hy13⟩) hHeld ?rest13
      case hy13 =>
        intro w' hSw
        try dsimp only at hSw
        go_simp
        first | done | with_reducible rfl
      try simp only [Act.put, List.getElem_toArray, List.getElem_cons_succ, List.getElem_cons_zero, List.setIfInBounds_toArray, List.set_cons_zero, List.set_cons_succ]
      refine wpAnyH_take (i := 4) (v := ?v14) rfl (by kernel_rfl) (by kernel_rfl) (by kernel_rfl) (fun _ _ _ h => h) (Or.inl ⟨by rfl, ?hy14⟩) hHeld ?rest14
      case hy14 =>
        intro w' hSw
        try dsimp only at hSw
        go_simp
        first | done | with_reducible rfl
      try simp only [Act.put, List.getElem_toArray, List.getElem_cons_succ, List.getElem_cons_zero, List.setIfInBounds_toArray, List.set_cons_zero, List.set_cons_succ]
      refine wpAnyH_take (i := 5) (v := ?v15) rfl (by kernel_rfl) (by kernel_rfl) (by kernel_rfl) (fun _ _ _ h => h) (Or.inl ⟨by rfl, ?hy15⟩) hHeld ?rest15
      case hy15 =>
        intro w' hSw
        try dsimp only at hSw
        go_simp
        first | done | with_reducible rfl
      try simp only [Act.put, List.getElem_toArray, List.getElem_cons_succ, List.getElem_cons_zero, List.setIfInBounds_toArray, List.set_cons_zero, List.set_cons_succ]
      refine wpAnyH_take (i := 6) (v := ?v16) rfl (by kernel_rfl) (by kernel_rfl) (by kernel_rfl) (fun _ _ _ h => h) (Or.inl ⟨by rfl, ?hy16⟩) hHeld ?rest16
      case hy16 =>
        intro w' hSw
        try dsimp only at hSw
        go_simp
        first | done | with_reducible rfl
      try simp only [Act.put, List.getElem_toArray, List.getElem_cons_succ, List.getElem_cons_zero, List.setIfInBounds_toArray, List.set_cons_zero, List.set_cons_succ]
      refine wpAnyH_take (i := 10) (v := ?v17) rfl (by kernel_rfl) (by kernel_rfl) (by kernel_rfl) (fun _ _ _ h => h) (Or.inl ⟨by rfl, ?hy17⟩) hHeld ?rest17
      case hy17 =>
        intro w' hSw
        try dsimp only at hSw
        go_simp
        first | done | with_reducible rfl
      try simp only [Act.put, List.getElem_toArray, List.getElem_cons_succ, List.getElem_cons_zero, List.setIfInBounds_toArray, List.set_cons_zero, List.set_cons_succ]
      refine wpAnyH_ready (rs := [7]) (by kernel_rfl) (by simp) ?_
      refine AllReadyH.cons (by rfl) (fun K hK => ?_) AllReadyH.nil
      go_simp
      refine (full_at _ x.byte).mono ?_
      rintro e m5 ⟨rfl, hb⟩
      have X5 := Lib.hid (X4.out.below (Below.drew (Below.refl _ m4)) |>.below hb)
      have T5 := Lib.hid (TJ.out.drew.below hb)
      have B5 := Lib.hid (show Below w.heap.size w m5 from BJ.out.drew.trans (hb.mono BJ.out.size))
      clear hb hHeld TJ BJ X4
      refine hK.out _ _ X5.out.fs (fun hHeld => ?_)
      clear hK K
      try simp only [Act.put, List.getElem_toArray, List.getElem_cons_succ, List.getElem_cons_zero, List.setIfInBounds_toArray, List.set_cons_zero, List.set_cons_succ]
      refine wpAnyH_ready (rs := [8]) (by kernel_rfl) (by simp) ?_
      refine AllReadyH.cons (by rfl) (fun K hK => ?_) AllReadyH.nil
      go_simp
      refine (dwrite_any (H.out.da.below B5.out) (Nat.le_trans H.out.hB B5.out.size) H.out.al HN.out HS.out x.sector (fullL x.byte) (fullL_length _)).mono ?_
      rintro e m6 ⟨rfl, pl', D', hd, hf, hpl, hal⟩
      have X6 := Lib.hid (X5.out.fr hf (fun k hk => (H.out.da.lt k hk).1) GG.out)
      have BO := Lib.hid (H.out.mk' B5.out.size T5.out (fun b hb' => (NA0.out b hb').imp id (fun h => by omega)) hd hf hpl hal)
      have FR := Lib.hid (show Fr (pl.has p) w m6 from (Fr.of_below B5.out).trans hf)
      have PL := Lib.hid (show ∀ q, pl'.has p q → pl.has p q ∨ w.heap.size + 1 + 1 < q from fun q hq => (hpl q hq).imp id (fun h => Nat.lt_of_lt_of_le X5.out.h7.lt h))
      rw [← HNO.out]
      clear hd hf hpl hal hHeld T5 B5 X5
      refine hK.out _ _ X6.out.fs (fun hHeld => ?_)
      clear hK K
      try simp only [Act.put, List.getElem_toArray, List.getElem_cons_succ, List.getElem_cons_zero, List.setIfInBounds_toArray, List.set_cons_zero, List.set_cons_succ]
      refine wpAnyH_ready (rs := [9]) (by kernel_rfl) (by simp) ?_
      refine AllReadyH.cons (by rfl) (fun K hK => ?_) AllReadyH.nil
      go_simp
      refine (num_any _ _).mono ?_
      rintro e m7 ⟨rfl, rfl⟩
      clear hHeld
      refine hK.out _ _ X6.out.fs (fun hHeld => ?_)
      clear hK K
      try simp only [Act.put, List.getElem_toArray, List.getElem_cons_succ, List.getElem_cons_zero, List.setIfInBounds_toArray, List.set_cons_zero, List.set_cons_succ]
      refine wpAnyH_take (i := 11) (v := ?v18) rfl (by kernel_rfl) (by kernel_rfl) (by kernel_rfl) (fun _ _ _ h => h) (Or.inl ⟨by rfl, ?hy18⟩) hHeld ?rest18
      case hy18 =>
        intro w' hSw
        try dsimp only at hSw
        go_simp
        first | done | with_reducible rfl
      try simp only [Act.put, List.getElem_toArray, List.getElem_cons_succ, List.getElem_cons_zero, List.setIfInBounds_toArray, List.set_cons_zero, List.set_cons_succ]
      refine wpAnyH_take (i := 12) (v := ?v19) rfl (by kernel_rfl) (by kernel_rfl) (by kernel_rfl) (fun _ _ _ h => h) (Or.inl ⟨by rfl, ?hy19⟩) hHeld ?rest19
      case hy19 =>
        intro w' hSw
        try dsimp only at hSw
        go_simp
        first | done | with_reducible rfl
      try simp only [Act.put, List.getElem_toArray, List.getElem_cons_succ, List.getElem_cons_zero, List.setIfInBounds_toArray, List.set_cons_zero, List.set_cons_succ]
      refine wpAnyH_ready (rs := [13]) (by kernel_rfl) (by simp) ?_
      refine AllReadyH.cons (by rfl) (fun K hK => ?_) AllReadyH.nil
      refine step_store_whole rfl 34 (.tmp 7) (.tmp 69) rfl (by rfl) #[.slice r'.A1 r'.n1 r'.c1, .slice r'.A2 r'.n2 r'.c2, .int .i64 (t : Int), .slice r'.A3 r'.n3 r'.c3] #[.slice none 0 0, .slice none 0 0, .int .i64 0, .slice none 0 0] 34 (by rfl) X6.out.h7 (size43c _ _ _ _) rfl (one43 _ _ _ _ _ _ _ _ _ _) ?_
      intro m8 j8 f8
      have J8 := Lib.hid j8
      have BO8 := Lib.hid (show Bo m8 B p pl' D' r' (wRf R s z x.sector (fullL x.byte)) (wSt s z x.sector) z from BO.out.far f8 (fun hk => by rcases PL.out _ hk with h | h; (have := (H.out.da.lt _ h).1; omega); omega) (fun hk => by rcases NA0.out _ hk with h | h; (have := H.out.rf.lt h; omega); omega))
      have FR8 := Lib.hid (FR.out.then_ f8 (fun i hi e => by omega))
      have X8 := Lib.hid (show m8.cell? ⟨w.heap.size + 1, 1, none⟩ = some (.int .i64 x.sector) ∧ m8.cell? ⟨w.heap.size + 1, 3, none⟩ = some (.int .u8 (x.byte.toNat : Int)) ∧ Blk m8 g 34 #[.slice r'.A1 r'.n1 r'.c1, .slice r'.A2 r'.n2 r'.c2, .int .i64 (t : Int), .slice r'.A3 r'.n3 r'.c3] from ⟨((f8.keepBlk X6.out.h1 (by omega)).cell 1).trans rfl, ((f8.keepBlk X6.out.h1 (by omega)).cell 3).trans rfl, f8.keepBlk X6.out.hg (by have := GG.out; omega)⟩)
      clear hHeld j8 f8 BO FR X6
      refine hK.out _ _ X8.out (fun hHeld => ?_)
      clear hK K
      try simp only [Act.put, List.getElem_toArray, List.getElem_cons_succ, List.getElem_cons_zero]
      refine wpAnyH_take (i := 14) (v := ?v20) rfl (by kernel_rfl) (by kernel_rfl) (by kernel_rfl) (fun _ _ _ h => h) (Or.inl ⟨by rfl, ?hy20⟩) hHeld ?rest20
      case hy20 =>
        intro w' hSw
        try dsimp only at hSw
        go_simp
        first | done | with_reducible rfl
      try simp only [Act.put, List.getElem_toArray, List.getElem_cons_succ, List.getElem_cons_zero, List.setIfInBounds_toArray, List.set_cons_zero, List.set_cons_succ]
      refine wpAnyH_done (by kernel_rfl) ?_ _
      refine OnlyN.normal ?_
      clear hHeld
      go_wp2_with fail
      exact bodyPost_ret (results_act rfl _ _ (w.heap.size + 1 + 1) #[.slice r'.A1 r'.n1 r'.c1, .slice r'.A2 r'.n2 r'.c2, .int .i64 (t : Int), .slice r'.A3 r'.n3 r'.c3] rfl rfl J8.out) rfl ⟨pl', D', r', by rw [← HT.out]; rfl, BO8.out, FR8.out, fun q hq => (PL.out q hq).imp id (fun h => by omega), fun b hb' => (NA0.out b hb').imp id (fun h => by omega)⟩
  · refine step_alloc43 rfl (by rfl) ?_
    intro g m1 hg hw
    have G := Lib.hid (show Blk m1 g 34 #[.slice none 0 0, .slice none 0 0, .int .i64 0, .slice none 0 0] from by rw [hw, hg]; exact Blk.new _ _ _)
    have GG := Lib.hid (show w.heap.size + 1 + 1 < g from by rw [hg]; exact A.out.h7.lt)
    have A := Lib.hid (show Ag w r s x m1 from by rw [hw]; exact A.out.alloc _)
    clear hg hw hHeld
    refine hK.out _ _ A.out.fs (fun hHeld => ?_)
    clear hK K
    try simp only [Act.put, List.getElem_toArray, List.getElem_cons_succ, List.getElem_cons_zero, List.setIfInBounds_toArray, List.set_cons_zero, List.set_cons_succ]
    refine wpAnyH_ready (rs := [5]) (by kernel_rfl) (by simp) ?_
    refine AllReadyH.cons (by rfl) (fun K hK => ?_) AllReadyH.nil
    go_simp
    refine (full_at _ x.byte).mono ?_
    rintro e m2 ⟨rfl, hb⟩
    have G := Lib.hid (G.out.below hb G.out.lt)
    have A := Lib.hid (A.out.go hb)
    clear hb hHeld
    refine hK.out _ _ A.out.fs (fun hHeld => ?_)
    clear hK K
    try simp only [Act.put, List.getElem_toArray, List.getElem_cons_succ, List.getElem_cons_zero, List.setIfInBounds_toArray, List.set_cons_zero, List.set_cons_succ]
    refine wpAnyH_ready (rs := [6]) (by kernel_rfl) (by simp) ?_
    refine AllReadyH.cons (by rfl) (fun K hK => ?_) AllReadyH.nil
    go_simp
    refine (rwrite_any (H.out.rf.below A.out.be) HN.out HS.out x.sector (fullL x.byte) (fullL_length _)).mono ?_
    rintro e m3 ⟨r', rfl, hb, hr, e1, e3, e2⟩
    have T := Lib.hid hr
    have NA0 := Lib.hid (show ∀ b, r'.at_ (wRf R s z x.sector (fullL x.byte)) b → r.at_ R b ∨ w.heap.size + 1 + 1 < b from fun b hb' => (at_write e1 e3 e2 hb').imp id (fun h => Nat.lt_of_lt_of_le A.out.h7.lt h))
    have NA := Lib.hid (show ∀ b, r'.at_ (wRf R s z x.sector (fullL x.byte)) b → b ≠ g from fun b hb' => by
      have hg := G.out.lt
      have hg2 := GG.out
      rcases at_write e1 e3 e2 hb' with h | h
      · have := H.out.rf.lt h
        omega
      · omega)
    have G := Lib.hid (G.out.below hb G.out.lt)
    have A := Lib.hid (A.out.go hb)
    obtain ⟨t, ht⟩ : ∃ t, t = wSt s z x.sector := ⟨_, rfl⟩
    obtain ⟨no, hno⟩ : ∃ no, no = wNo R s z x.sector := ⟨_, rfl⟩
    rw [← ht, ← hno]
    have HT := Lib.hid ht
    have HNO := Lib.hid hno
    clear hb hr e1 e2 e3 ht hno hHeld
    refine hK.out _ _ A.out.fs (fun hHeld => ?_)
    clear hK K
    try simp only [Act.put, List.getElem_toArray, List.getElem_cons_succ, List.getElem_cons_zero, List.setIfInBounds_toArray, List.set_cons_zero, List.set_cons_succ]
    refine wpAnyH_take (i := 7) (v := ?v43) rfl (by kernel_rfl) (by kernel_rfl) (by kernel_rfl) (fun _ _ _ h => h) (Or.inl ⟨by rfl, ?hy43⟩) hHeld ?rest43
    case hy43 =>
      intro w' hSw
      try dsimp only at hSw
      go_simp
      first | done | with_reducible rfl
    try simp only [Act.put, List.getElem_toArray, List.getElem_cons_succ, List.getElem_cons_zero, List.setIfInBounds_toArray, List.set_cons_zero, List.set_cons_succ]
    refine wpAnyH_take (i := 8) (v := ?v44) rfl (by kernel_rfl) (by kernel_rfl) (by kernel_rfl) (fun _ _ _ h => h) (Or.inl ⟨by rfl, ?hy44⟩) hHeld ?rest44
    case hy44 =>
      intro w' hSw
      try dsimp only at hSw
      go_simp
      first | done | with_reducible rfl
    try simp only [Act.put, List.getElem_toArray, List.getElem_cons_succ, List.getElem_cons_zero, List.setIfInBounds_toArray, List.set_cons_zero, List.set_cons_succ]
    refine wpAnyH_take (i := 9) (v := ?v45) rfl (by kernel_rfl) (by kernel_rfl) (by kernel_rfl) (fun _ _ _ h => h) (Or.inl ⟨by rfl, ?hy45⟩) hHeld ?rest45
    case hy45 =>
      intro w' hSw
      try dsimp only at hSw
      go_simp
      first | done | with_reducible rfl
    try simp only [Act.put, List.getElem_toArray, List.getElem_cons_succ, List.getElem_cons_zero, List.setIfInBounds_toArray, List.set_cons_zero, List.set_cons_succ]
    refine wpAnyH_ready (rs := [11]) (by kernel_rfl) (by simp) ?_
    refine AllReadyH.cons (by rfl) (fun K hK => ?_) AllReadyH.nil
    refine step_store_whole rfl 34 (.tmp 14) (.tmp 66) rfl (by rfl) #[.slice r'.A1 r'.n1 r'.c1, .slice r'.A2 r'.n2 r'.c2, .int .i64 (t : Int), .slice r'.A3 r'.n3 r'.c3] #[.slice none 0 0, .slice none 0 0, .int .i64 0, .slice none 0 0] 34 (by rfl) G.out (size43c _ _ _ _) rfl (one43 _ _ _ _ _ _ _ _ _ _) ?_
    intro m4 j4 f4
    have J := Lib.hid j4
    have AJ := Lib.hid (A.out.stored GG.out f4)
    have TJ := Lib.hid (T.out.fr f4 (fun b hb' e => NA.out b hb' e))
    have FJ := Lib.hid f4
    clear hHeld j4 f4 A T G
    refine hK.out _ _ AJ.out.fs (fun hHeld => ?_)
    clear hK K
    try simp only [Act.put, List.getElem_toArray, List.getElem_cons_succ, List.getElem_cons_zero]
    refine wpAnyH_take (i := 12) (v := ?v46) rfl (by kernel_rfl) (by kernel_rfl) (by kernel_rfl) (fun _ _ _ h => h) (Or.inl ⟨by rfl, ?hy46⟩) hHeld ?rest46
    case hy46 =>
      intro w' hSw
      try dsimp only at hSw
      go_simp
      first | done | with_reducible rfl
    try simp only [Act.put, List.getElem_toArray, List.getElem_cons_succ, List.getElem_cons_zero, List.setIfInBounds_toArray, List.set_cons_zero, List.set_cons_succ]
    refine wpAnyH_done (by kernel_rfl) ?_ _
    refine OnlyN.normal ?_
    clear hHeld
    have X4 := Lib.hid (show Ah w x g #[.slice r'.A1 r'.n1 r'.c1, .slice r'.A2 r'.n2 r'.c2, .int .i64 (t : Int), .slice r'.A3 r'.n3 r'.c3] m4 from ⟨AJ.out.h1, AJ.out.h7, J.out⟩)
    have BJ := Lib.hid AJ.out.be
    clear AJ J FJ NA
    go_wp2_with fail
    refine wp_region_only (S := fun w' => w'.cell? ⟨w.heap.size + 1, 1, none⟩ = some (.int .i64 x.sector) ∧ w'.cell? ⟨w.heap.size + 1, 3, none⟩ = some (.int .u8 (x.byte.toNat : Int)) ∧ Blk w' g 34 #[.slice r'.A1 r'.n1 r'.c1, .slice r'.A2 r'.n2 r'.c2, .int .i64 (t : Int), .slice r'.A3 r'.n3 r'.c3]) (by kernel_rfl) X4.out.fs (fun hHeld => ?_)
    refine wpAnyH_take (i := 0) (v := ?v21) rfl (by kernel_rfl) (by kernel_rfl) (by kernel_rfl) (fun _ _ _ h => h) (Or.inl ⟨by rfl, ?hy21⟩) hHeld ?rest21
    case hy21 =>
      intro w' hSw
      try dsimp only at hSw
      go_simp
      first | done | with_reducible rfl
    try simp only [Act.put, List.getElem_toArray, List.getElem_cons_zero, List.setIfInBounds_toArray, List.set_cons_zero, List.set_cons_succ]
    refine wpAnyH_take (i := 1) rfl (by kernel_rfl) (by kernel_rfl) (by kernel_rfl) (fun _ _ _ h => h) (yieldsIf_load_mid (by rfl) 34 (.tmp 14) (by rfl) g 0 (by rfl) [.slice r'.A1 r'.n1 r'.c1, .slice r'.A2 r'.n2 r'.c2, .int .i64 (t : Int), .slice r'.A3 r'.n3 r'.c3] _ (fun w' hSw => Blk.rangeAt hSw.2.2) Try.underlying34 rfl size43) hHeld ?_
    try simp only [Act.put, List.getElem_toArray, List.getElem_cons_succ, List.getElem_cons_zero, List.setIfInBounds_toArray, List.set_cons_zero, List.set_cons_succ]
    refine wpAnyH_take (i := 2) (v := ?v22) rfl (by kernel_rfl) (by kernel_rfl) (by kernel_rfl) (fun _ _ _ h => h) (Or.inl ⟨by rfl, ?hy22⟩) hHeld ?rest22
    case hy22 =>
      intro w' hSw
      try dsimp only at hSw
      go_simp
      first | done | with_reducible rfl
    try simp only [Act.put, List.getElem_toArray, List.getElem_cons_succ, List.getElem_cons_zero, List.setIfInBounds_toArray, List.set_cons_zero, List.set_cons_succ]
    refine wpAnyH_take (i := 3) (v := ?v23) rfl (by kernel_rfl) (by kernel_rfl) (by kernel_rfl) (fun _ _ _ h => h) (Or.inl ⟨by rfl, ?hy23⟩) hHeld ?rest23
    case hy23 =>
      intro w' hSw
      try dsimp only at hSw
      go_simp
      first | done | with_reducible rfl
    try simp only [Act.put, List.getElem_toArray, List.getElem_cons_succ, List.getElem_cons_zero, List.setIfInBounds_toArray, List.set_cons_zero, List.set_cons_succ]
    refine wpAnyH_take (i := 4) (v := ?v24) rfl (by kernel_rfl) (by kernel_rfl) (by kernel_rfl) (fun _ _ _ h => h) (Or.inl ⟨by rfl, ?hy24⟩) hHeld ?rest24
    case hy24 =>
      intro w' hSw
      try dsimp only at hSw
      go_simp
      first | done | with_reducible rfl
    try simp only [Act.put, List.getElem_toArray, List.getElem_cons_succ, List.getElem_cons_zero, List.setIfInBounds_toArray, List.set_cons_zero, List.set_cons_succ]
    refine wpAnyH_take (i := 5) (v := ?v25) rfl (by kernel_rfl) (by kernel_rfl) (by kernel_rfl) (fun _ _ _ h => h) (Or.inl ⟨by rfl, ?hy25⟩) hHeld ?rest25
    case hy25 =>
      intro w' hSw
      try dsimp only at hSw
      go_simp
      first | done | with_reducible rfl
    try simp only [Act.put, List.getElem_toArray, List.getElem_cons_succ, List.getElem_cons_zero, List.setIfInBounds_toArray, List.set_cons_zero, List.set_cons_succ]
    refine wpAnyH_take (i := 6) (v := ?v26) rfl (by kernel_rfl) (by kernel_rfl) (by kernel_rfl) (fun _ _ _ h => h) (Or.inl ⟨by rfl, ?hy26⟩) hHeld ?rest26
    case hy26 =>
      intro w' hSw
      try dsimp only at hSw
      go_simp
      first | done | with_reducible rfl
    try simp only [Act.put, List.getElem_toArray, List.getElem_cons_succ, List.getElem_cons_zero, List.setIfInBounds_toArray, List.set_cons_zero, List.set_cons_succ]
    refine wpAnyH_take (i := 10) (v := ?v27) rfl (by kernel_rfl) (by kernel_rfl) (by kernel_rfl) (fun _ _ _ h => h) (Or.inl ⟨by rfl, ?hy27⟩) hHeld ?rest27
    case hy27 =>
      intro w' hSw
      try dsimp only at hSw
      go_simp
      first | done | with_reducible rfl
    try simp only [Act.put, List.getElem_toArray, List.getElem_cons_succ, List.getElem_cons_zero, List.setIfInBounds_toArray, List.set_cons_zero, List.set_cons_succ]
    refine wpAnyH_ready (rs := [7]) (by kernel_rfl) (by simp) ?_
    refine AllReadyH.cons (by rfl) (fun K hK => ?_) AllReadyH.nil
    go_simp
    refine (full_at _ x.byte).mono ?_
    rintro e m5 ⟨rfl, hb⟩
    have X5 := Lib.hid (X4.out.below (Below.drew (Below.refl _ m4)) |>.below hb)
    have T5 := Lib.hid (TJ.out.drew.below hb)
    have B5 := Lib.hid (show Below w.heap.size w m5 from BJ.out.drew.trans (hb.mono BJ.out.size))
    clear hb hHeld TJ BJ X4
    refine hK.out _ _ X5.out.fs (fun hHeld => ?_)
    clear hK K
    try simp only [Act.put, List.getElem_toArray, List.getElem_cons_succ, List.getElem_cons_zero, List.setIfInBounds_toArray, List.set_cons_zero, List.set_cons_succ]
    refine wpAnyH_ready (rs := [8]) (by kernel_rfl) (by simp) ?_
    refine AllReadyH.cons (by rfl) (fun K hK => ?_) AllReadyH.nil
    go_simp
    refine (dwrite_any (H.out.da.below B5.out) (Nat.le_trans H.out.hB B5.out.size) H.out.al HN.out HS.out x.sector (fullL x.byte) (fullL_length _)).mono ?_
    rintro e m6 ⟨rfl, pl', D', hd, hf, hpl, hal⟩
    have X6 := Lib.hid (X5.out.fr hf (fun k hk => (H.out.da.lt k hk).1) GG.out)
    have BO := Lib.hid (H.out.mk' B5.out.size T5.out (fun b hb' => (NA0.out b hb').imp id (fun h => by omega)) hd hf hpl hal)
    have FR := Lib.hid (show Fr (pl.has p) w m6 from (Fr.of_below B5.out).trans hf)
    have PL := Lib.hid (show ∀ q, pl'.has p q → pl.has p q ∨ w.heap.size + 1 + 1 < q from fun q hq => (hpl q hq).imp id (fun h => Nat.lt_of_lt_of_le X5.out.h7.lt h))
    rw [← HNO.out]
    clear hd hf hpl hal hHeld T5 B5 X5
    refine hK.out _ _ X6.out.fs (fun hHeld => ?_)
    clear hK K
    try simp only [Act.put, List.getElem_toArray, List.getElem_cons_succ, List.getElem_cons_zero, List.setIfInBounds_toArray, List.set_cons_zero, List.set_cons_succ]
    refine wpAnyH_ready (rs := [9]) (by kernel_rfl) (by simp) ?_
    refine AllReadyH.cons (by rfl) (fun K hK => ?_) AllReadyH.nil
    go_simp
    refine (num_any _ _).mono ?_
    rintro e m7 ⟨rfl, rfl⟩
    clear hHeld
    refine hK.out _ _ X6.out.fs (fun hHeld => ?_)
    clear hK K
    try simp only [Act.put, List.getElem_toArray, List.getElem_cons_succ, List.getElem_cons_zero, List.setIfInBounds_toArray, List.set_cons_zero, List.set_cons_succ]
    refine wpAnyH_take (i := 11) (v := ?v28) rfl (by kernel_rfl) (by kernel_rfl) (by kernel_rfl) (fun _ _ _ h => h) (Or.inl ⟨by rfl, ?hy28⟩) hHeld ?rest28
    case hy28 =>
      intro w' hSw
      try dsimp only at hSw
      go_simp
      first | done | with_reducible rfl
    try simp only [Act.put, List.getElem_toArray, List.getElem_cons_succ, List.getElem_cons_zero, List.setIfInBounds_toArray, List.set_cons_zero, List.set_cons_succ]
    refine wpAnyH_take (i := 12) (v := ?v29) rfl (by kernel_rfl) (by kernel_rfl) (by kernel_rfl) (fun _ _ _ h => h) (Or.inl ⟨by rfl, ?hy29⟩) hHeld ?rest29
    case hy29 =>
      intro w' hSw
      try dsimp only at hSw
      go_simp
      first | done | with_reducible rfl
    try simp only [Act.put, List.getElem_toArray, List.getElem_cons_succ, List.getElem_cons_zero, List.setIfInBounds_toArray, List.set_cons_zero, List.set_cons_succ]
    refine wpAnyH_ready (rs := [13]) (by kernel_rfl) (by simp) ?_
    refine AllReadyH.cons (by rfl) (fun K hK => ?_) AllReadyH.nil
    refine step_store_whole rfl 34 (.tmp 7) (.tmp 69) rfl (by rfl) #[.slice r'.A1 r'.n1 r'.c1, .slice r'.A2 r'.n2 r'.c2, .int .i64 (t : Int), .slice r'.A3 r'.n3 r'.c3] #[.slice none 0 0, .slice none 0 0, .int .i64 0, .slice none 0 0] 34 (by rfl) X6.out.h7 (size43c _ _ _ _) rfl (one43 _ _ _ _ _ _ _ _ _ _) ?_
    intro m8 j8 f8
    have J8 := Lib.hid j8
    have BO8 := Lib.hid (show Bo m8 B p pl' D' r' (wRf R s z x.sector (fullL x.byte)) (wSt s z x.sector) z from BO.out.far f8 (fun hk => by rcases PL.out _ hk with h | h; (have := (H.out.da.lt _ h).1; omega); omega) (fun hk => by rcases NA0.out _ hk with h | h; (have := H.out.rf.lt h; omega); omega))
    have FR8 := Lib.hid (FR.out.then_ f8 (fun i hi e => by omega))
    have X8 := Lib.hid (show m8.cell? ⟨w.heap.size + 1, 1, none⟩ = some (.int .i64 x.sector) ∧ m8.cell? ⟨w.heap.size + 1, 3, none⟩ = some (.int .u8 (x.byte.toNat : Int)) ∧ Blk m8 g 34 #[.slice r'.A1 r'.n1 r'.c1, .slice r'.A2 r'.n2 r'.c2, .int .i64 (t : Int), .slice r'.A3 r'.n3 r'.c3] from ⟨((f8.keepBlk X6.out.h1 (by omega)).cell 1).trans rfl, ((f8.keepBlk X6.out.h1 (by omega)).cell 3).trans rfl, f8.keepBlk X6.out.hg (by have := GG.out; omega)⟩)
    clear hHeld j8 f8 BO FR X6
    refine hK.out _ _ X8.out (fun hHeld => ?_)
    clear hK K
    try simp only [Act.put, List.getElem_toArray, List.getElem_cons_succ, List.getElem_cons_zero]
    refine wpAnyH_take (i := 14) (v := ?v30) rfl (by kernel_rfl) (by kernel_rfl) (by kernel_rfl) (fun _ _ _ h => h) (Or.inl ⟨by rfl, ?hy30⟩) hHeld ?rest30
    case hy30 =>
      intro w' hSw
      try dsimp only at hSw
      go_simp
      first | done | with_reducible rfl
    try simp only [Act.put, List.getElem_toArray, List.getElem_cons_succ, List.getElem_cons_zero, List.setIfInBounds_toArray, List.set_cons_zero, List.set_cons_succ]
    refine wpAnyH_done (by kernel_rfl) ?_ _
    refine OnlyN.normal ?_
    clear hHeld
    go_wp2_with fail
    exact bodyPost_ret (results_act rfl _ _ (w.heap.size + 1 + 1) #[.slice r'.A1 r'.n1 r'.c1, .slice r'.A2 r'.n2 r'.c2, .int .i64 (t : Int), .slice r'.A3 r'.n3 r'.c3] rfl rfl J8.out) rfl ⟨pl', D', r', by rw [← HT.out]; rfl, BO8.out, FR8.out, fun q hq => (PL.out q hq).imp id (fun h => by omega), fun b hb' => (NA0.out b hb').imp id (fun h => by omega)⟩
end Go.Proofs.Ytgjamgojjajcnaa

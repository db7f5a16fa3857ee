/- The law HeadersWrites returns true for every input: it is told what is written of a header. No condition. -/
import Derived.Test.YtcfkoglehjkkdaaHPut
namespace Go.Proofs.Ytcfkoglehjkkdaa.headersWrites
open Go.ChangeShapes Go.WideShapes Go.ChangeAt Go.RowKit
attribute [local go_sem] Oper.semAt_some
set_option maxRecDepth 100000 in
set_option maxHeartbeats 8000000 in
theorem walk_no (w : World) (x : Ds) (n : Int) (h : Hd) (hx : ¬ x.ok) : Calls Try.prog 3 #[x.val, .int .i64 n, h.val] w fun e w' => e = .returned (.bool true) ∧ Below w.heap.size w w' := by
  have X0 := Lib.hid ((Blk.new w 26 x.cs.toArray).alloc (.cells h.cs.toArray 28))
  have H0 := Lib.hid (blk_new1 w (.cells x.cs.toArray 26) 28 h.cs.toArray)
  have L0 := Lib.hid (((Below.refl w.heap.size w).alloc (Nat.le_refl _) (.cells x.cs.toArray 26)).alloc (by simp) (.cells h.cs.toArray 28))
  have HX := Lib.hid hx
  clear hx
  go_enter Try.func3, Try.ntmps3
  go_wp2_with (first
    | (refine wpList_load_mid rfl 26 (.tmp 3) rfl w.heap.size 0 rfl x.cs _ (Blk.rangeAt (l := x.cs) X0.out) Try.underlying26 rfl (sizeDs x) ?_)
    | (go_at_call 7; refine (small_no _ x HX.out).mono ?_; rintro e W1 ⟨rfl, hb⟩; have L1 := Lib.hid (L0.out.trans (hb.mono L0.out.size)); clear hb)
    | (go_at_call 8; refine (works8_any _).mono ?_; rintro e W2 ⟨rfl, hb⟩; have L2 := Lib.hid (L1.out.trans (hb.mono L1.out.size)); clear hb))
  go_ret
  exact ⟨rfl, L2.out⟩
set_option maxRecDepth 100000 in
set_option maxHeartbeats 8000000 in
theorem walk_in8 (w : World) (z : Nat) (A0 : Option Addr) (n0 c0 : Nat) (A1 : Option Addr) (n1 c1 : Nat) (A2 : Option Addr) (c2 : Nat) (l0 l1 : List UInt8) (lf : List Int) (n : Int) (h : Hd) (he : h.e ≤ 9223372036854775807) (hx : Ds.ok ⟨(z : Int), A0, n0, c0, A1, n1, c1, A2, lf.length, c2⟩)
    (e0 : l0.length = n0) (e1 : l1.length = n1) (r0 : Rd w A0 l0) (r1 : Rd w A1 l1) (r2 : RdI w A2 lf) (rwf : ∀ m ∈ lf, m ≤ 9223372036854775807) :
    Calls Try.prog 3 #[Ds.val ⟨(z : Int), A0, n0, c0, A1, n1, c1, A2, lf.length, c2⟩, .int .i64 n, h.val] w fun e w' => e = .returned (.bool true) ∧ Below w.heap.size w w' := by
  have hz := z43
  obtain ⟨x, hxe⟩ : ∃ x : Ds, x = ⟨(z : Int), A0, n0, c0, A1, n1, c1, A2, lf.length, c2⟩ := ⟨_, rfl⟩
  have OK := Lib.hid hx
  have ZZ := Lib.hid (show 1 ≤ z ∧ z ≤ 220 by have h1 := hx.1; have h2 := hx.2.1; simp only at h1 h2; omega)
  have ZL := Lib.hid (And.intro e0 e1)
  have R0 := Lib.hid r0
  have R1 := Lib.hid r1
  have R2 := Lib.hid r2
  have RW := Lib.hid rwf
  have HE := Lib.hid he
  clear hx e0 e1 r0 r1 r2 rwf he hxe x
  have X0 := Lib.hid ((Blk.new w 26 (Ds.cs ⟨(z : Int), A0, n0, c0, A1, n1, c1, A2, lf.length, c2⟩).toArray).alloc (.cells h.cs.toArray 28))
  have H0 := Lib.hid (blk_new1 w (.cells (Ds.cs ⟨(z : Int), A0, n0, c0, A1, n1, c1, A2, lf.length, c2⟩).toArray 26) 28 h.cs.toArray)
  have L0 := Lib.hid (((Below.refl w.heap.size w).alloc (Nat.le_refl _) (.cells (Ds.cs ⟨(z : Int), A0, n0, c0, A1, n1, c1, A2, lf.length, c2⟩).toArray 26)).alloc (by simp) (.cells h.cs.toArray 28))
  go_enter Try.func3, Try.ntmps3
  go_wp2_with (first
    | (refine wpList_load_mid rfl 26 (.tmp 3) rfl w.heap.size 0 rfl (Ds.cs ⟨(z : Int), A0, n0, c0, A1, n1, c1, A2, lf.length, c2⟩) _ (Blk.rangeAt (l := (Ds.cs ⟨(z : Int), A0, n0, c0, A1, n1, c1, A2, lf.length, c2⟩)) X0.out) Try.underlying26 rfl (sizeDs _) ?_)
    | (go_at_call 7; refine (small_yes _ _ OK.out).mono ?_; rintro e W1 ⟨rfl, hb⟩; have X1 := Lib.hid (X0.out.below hb X0.out.lt); have H1 := Lib.hid (H0.out.below hb H0.out.lt); have L1 := Lib.hid (L0.out.trans (hb.mono L0.out.size)); have RA := Lib.hid (R0.out.below L1.out); have RB := Lib.hid (R1.out.below L1.out); have RC := Lib.hid (R2.out.below L1.out); have LT := Lib.hid H1.out.lt; clear hb)
    | (refine wpList_load_mid rfl 26 (.tmp 3) rfl w.heap.size 0 rfl (Ds.cs ⟨(z : Int), A0, n0, c0, A1, n1, c1, A2, lf.length, c2⟩) _ (Blk.rangeAt (l := (Ds.cs ⟨(z : Int), A0, n0, c0, A1, n1, c1, A2, lf.length, c2⟩)) X1.out) Try.underlying26 rfl (sizeDs _) ?_)
    | (go_at_call 9; refine (made_any _ z ZZ.out.1 ZZ.out.2 A0 n0 c0 A1 n1 c1 A2 c2 l0 l1 lf ZL.out.1 ZL.out.2 OK.out.2.2.1 OK.out.2.2.2.1 OK.out.2.2.2.2 RA.out RB.out RC.out RW.out).mono ?_; rintro e W2 ⟨p, pl, D, r, fl, rfl, bo, hb⟩; obtain ⟨R, hR⟩ : ∃ R : Rf, R = ⟨mB z l0 l1, [], fl⟩ := ⟨_, rfl⟩; rw [← hR] at bo; have RN := Lib.hid (show R.ws.length < 100000 by rw [hR]; show (0 : Nat) < 100000; omega); have B2 := Lib.hid bo; have H2 := Lib.hid (H1.out.below hb H1.out.lt); have L2 := Lib.hid (L1.out.trans (hb.mono L1.out.size)); have G2 := Lib.hid (Blk.new W2 33 #[.slice none 0 0, .slice none 0 0, .int .i64 0, .slice none 0 0]); have L2a := Lib.hid (L2.out.alloc L2.out.size (.cells #[.slice none 0 0, .slice none 0 0, .int .i64 0, .slice none 0 0] 33)); have H2a := Lib.hid (H2.out.alloc (.cells #[.slice none 0 0, .slice none 0 0, .int .i64 0, .slice none 0 0] 33)); have B2a := Lib.hid (B2.out.alloc (.cells #[.slice none 0 0, .slice none 0 0, .int .i64 0, .slice none 0 0] 33)); clear hb bo hR)
    | (refine wpList_store_g8 rfl 33 (.tmp 8) (.tmp 21) rfl (g := W2.heap.size) (by rfl) #[.slice r.A1 r.n1 r.c1, .slice r.A2 r.n2 r.c2, .int .i64 0, .slice r.A3 r.n3 r.c3] #[.slice none 0 0, .slice none 0 0, .int .i64 0, .slice none 0 0] 33 (by rfl) G2.out (size43c8 _ _ _ _) rfl (one43c8 _ _ _ _ _ _ _ _ _) ?_; intro W3 g3 f3; have G3 := Lib.hid g3; have B3 := Lib.hid (B2a.out.far8 f3 (fun hk => by have := (B2.out.da.lt _ hk).1; omega) (fun hk => by have := B2.out.rf.lt hk; omega)); have H3 := Lib.hid (f3.keepBlk H2a.out (by have := H2.out.lt; omega)); have L3 := Lib.hid (L2a.out.trans (f3.to_below (fun k e => by have := L2.out.size; omega) L2a.out.size)); clear g3 f3)
    | (refine wpList_load_mid rfl 33 (.tmp 8) rfl W2.heap.size 0 rfl [.slice r.A1 r.n1 r.c1, .slice r.A2 r.n2 r.c2, .int .i64 0, .slice r.A3 r.n3 r.c3] _ (Blk.rangeAt G3.out) Try.underlying33 rfl size43 ?_)
    | (refine wpList_load_mid rfl 28 (.tmp 5) rfl (w.heap.size + 1) 0 rfl h.cs _ (Blk.rangeAt (l := h.cs) H3.out) Try.underlying28 rfl (size23 _) ?_)
    | (go_at_call 10; refine (rwriteh_any (s := 0) B3.out.rf RN.out (Nat.zero_le _) n h HE.out).mono ?_; rintro e W4 ⟨r', rfl, hb, hr4, e1, e3, e2⟩; obtain ⟨t, ht⟩ : ∃ t, hwSt 0 z n h = t := ⟨_, rfl⟩; obtain ⟨Q2, hq2⟩ : ∃ Q2, hwRf R 0 z n h = Q2 := ⟨_, rfl⟩; rw [ht]; rw [hq2] at hr4; have AT := Lib.hid (fun b (hb : r'.at_ Q2 b) => at_write8 (W := W3) (b := b) e1 e3 e2 (by rw [hq2]; exact hb)); have HT := Lib.hid ht; have HQ := Lib.hid hq2; clear ht hq2; have RF4 := Lib.hid hr4; have H4 := Lib.hid (H3.out.below hb H3.out.lt); have L4 := Lib.hid (L3.out.trans (hb.mono L3.out.size)); have BW4 := Lib.hid hb; have G4 := Lib.hid (Blk.new W4 33 #[.slice none 0 0, .slice none 0 0, .int .i64 0, .slice none 0 0]); have L4a := Lib.hid (L4.out.alloc L4.out.size (.cells #[.slice none 0 0, .slice none 0 0, .int .i64 0, .slice none 0 0] 33)); have H4a := Lib.hid (H4.out.alloc (.cells #[.slice none 0 0, .slice none 0 0, .int .i64 0, .slice none 0 0] 33)); have BW4a := Lib.hid (BW4.out.alloc BW4.out.size (.cells #[.slice none 0 0, .slice none 0 0, .int .i64 0, .slice none 0 0] 33)); have RF4a := Lib.hid (RF4.out.alloc (.cells #[.slice none 0 0, .slice none 0 0, .int .i64 0, .slice none 0 0] 33)); clear hb hr4 e1 e2 e3)
    | (refine wpList_store_g8 rfl 33 (.tmp 10) (.tmp 28) rfl (g := W4.heap.size) (by rfl) #[.slice r'.A1 r'.n1 r'.c1, .slice r'.A2 r'.n2 r'.c2, .int .i64 (t : Int), .slice r'.A3 r'.n3 r'.c3] #[.slice none 0 0, .slice none 0 0, .int .i64 0, .slice none 0 0] 33 (by rfl) G4.out (size43c8 _ _ _ _) rfl (one43c8 _ _ _ _ _ _ _ _ _) ?_; intro W5 g5 f5; have G5 := Lib.hid g5; have RF5 := Lib.hid (RF4a.out.fr f5 (fun b hb e => by have := RF4.out.lt hb; omega)); have H5 := Lib.hid (f5.keepBlk H4a.out (by have := H4.out.lt; omega)); have L5 := Lib.hid (L4a.out.trans (f5.to_below (fun k e => by have := L4.out.size; omega) L4a.out.size)); have BW5 := Lib.hid (BW4a.out.trans (f5.to_below (fun k e => by have := BW4.out.size; omega) BW4a.out.size)); have G4s := Lib.hid BW4.out.size; clear g5 f5)
    | (refine wpList_load_mid rfl 28 (.tmp 5) rfl (w.heap.size + 1) 0 rfl h.cs _ (Blk.rangeAt (l := h.cs) H5.out) Try.underlying28 rfl (size23 _) ?_)
    | (go_at_call 11; refine (hwrite_any (B3.out.da.below BW5.out) (Nat.le_trans B3.out.hB BW5.out.size) B3.out.al RN.out (Nat.zero_le _) ZZ.out.1 n h HE.out).mono ?_; rintro e W6 ⟨rfl, pl', D', hd, hf, hpl, hal⟩; have BO := Lib.hid (B3.out.mk8 BW5.out.size RF5.out AT.out hd hf hpl (by rw [HT.out, HQ.out] at hal; exact hal)); have HC := Lib.hid (hf.keepBlk H5.out (fun hk => by have := (B3.out.da.lt _ hk).2; have := LT.out; omega)); have HG := Lib.hid (hf.keepBlk G5.out (fun hk => by have := (B3.out.da.lt _ hk).1; have := G4s.out; omega)); have HL := Lib.hid (L5.out.trans (hf.to_below (fun k hk => by have := (B3.out.da.lt _ hk).2; have := LT.out; omega) L5.out.size)); clear hd hf hpl hal))
  obtain ⟨no, hno⟩ : ∃ no, no = hwNo R 0 z n h := ⟨_, rfl⟩
  rw [← hno]
  clear hno HT HQ AT
  have HNW := Lib.hid (show D'.waits.length ≤ 1000000 by rw [BO.out.al.waits]; have := BO.out.rf.m2; omega)
  have HLB := Lib.hid (all_length BO.out.da)
  have HLR := Lib.hid (layR_length Q2.ws Q2.lb BO.out.rf.l1 BO.out.rf.wl)
  have HST := Lib.hid BO.out.al.steps
  have hq : ((st D'.all).toList == (st (layR Q2.lb Q2.ws)).toList) = true := st_beq (BO.out.al.all BO.out.da BO.out.rf.l1)
  have hq2 : ((D'.waits.length : Int) == (r'.n2 : Int)) = true := by rw [BO.out.al.waits, BO.out.rf.n2]; exact beq_self_eq_true _
  replace BO := Lib.hid BO.out.drew
  replace HC := Lib.hid (blk_drew HC.out)
  replace HG := Lib.hid (blk_drew HG.out)
  replace HL := Lib.hid HL.out.drew
  refine wp_region_only (S := fun w' => w'.cell? ⟨W4.heap.size, 1, none⟩ = some (.slice r'.A2 r'.n2 r'.c2) ∧ w'.cell? ⟨W4.heap.size, 2, none⟩ = some (.int .i64 (t : Int)) ∧ Blk w' (w.heap.size + 1) 28 h.cs.toArray ∧ Blk w' W4.heap.size 33 #[.slice r'.A1 r'.n1 r'.c1, .slice r'.A2 r'.n2 r'.c2, .int .i64 (t : Int), .slice r'.A3 r'.n3 r'.c3]) (by kernel_rfl) (⟨(HG.out.cell 1).trans rfl, (HG.out.cell 2).trans rfl, HC.out, HG.out⟩) (fun hHeld => ?_)
  refine wpAnyH_take (i := 0) (v := ?v1) rfl (by kernel_rfl) (by kernel_rfl) (by kernel_rfl) (fun _ _ _ h => h) (Or.inl ⟨by rfl, ?hy1⟩) hHeld ?rest1
  case hy1 =>
    intro w' hSw
    try dsimp only at hSw
    go_simp
    first | done | with_reducible rfl
  try simp only [Act.put, List.getElem_toArray, List.getElem_cons_zero, List.setIfInBounds_toArray, List.set_cons_zero, List.set_cons_succ]
  refine wpAnyH_take (i := 1) (v := ?v2) rfl (by kernel_rfl) (by kernel_rfl) (by kernel_rfl) (fun _ _ _ h => h) (Or.inl ⟨by rfl, ?hy2⟩) hHeld ?rest2
  case hy2 =>
    intro w' hSw
    try dsimp only at hSw
    go_simp
    first | done | with_reducible rfl
  try simp only [Act.put, List.getElem_toArray, List.getElem_cons_succ, List.getElem_cons_zero, List.setIfInBounds_toArray, List.set_cons_zero, List.set_cons_succ]
  refine wpAnyH_take (i := 2) (v := ?v3) rfl (by kernel_rfl) (by kernel_rfl) (by kernel_rfl) (fun _ _ _ h => h) (Or.inl ⟨by rfl, ?hy3⟩) hHeld ?rest3
  case hy3 =>
    intro w' hSw
    try dsimp only at hSw
    go_simp
    first | done | with_reducible rfl
  try simp only [Act.put, List.getElem_toArray, List.getElem_cons_succ, List.getElem_cons_zero, List.setIfInBounds_toArray, List.set_cons_zero, List.set_cons_succ]
  refine wpAnyH_take (i := 4) (v := ?v4) rfl (by kernel_rfl) (by kernel_rfl) (by kernel_rfl) (fun _ _ _ h => h) (Or.inl ⟨by rfl, ?hy4⟩) hHeld ?rest4
  case hy4 =>
    intro w' hSw
    try dsimp only at hSw
    go_simp
    first | done | with_reducible rfl
  try simp only [Act.put, List.getElem_toArray, List.getElem_cons_succ, List.getElem_cons_zero, List.setIfInBounds_toArray, List.set_cons_zero, List.set_cons_succ]
  refine wpAnyH_ready (rs := [3]) (by kernel_rfl) (by simp) ?_
  refine AllReadyH.cons (by rfl) (fun K hK => ?_) AllReadyH.nil
  go_simp
  refine (num8_any _ _).mono ?_
  rintro e y1 ⟨rfl, rfl⟩
  clear hHeld
  refine hK.out _ _ (⟨(HG.out.cell 1).trans rfl, (HG.out.cell 2).trans rfl, HC.out, HG.out⟩) (fun hHeld => ?_)
  clear hK K
  try simp only [Act.put, List.getElem_toArray, List.getElem_cons_succ, List.getElem_cons_zero, List.setIfInBounds_toArray, List.set_cons_zero, List.set_cons_succ]
  refine wpAnyH_take (i := 5) (v := ?v5) rfl (by kernel_rfl) (by kernel_rfl) (by kernel_rfl) (fun _ _ _ h => h) (Or.inl ⟨by rfl, ?hy5⟩) hHeld ?rest5
  case hy5 =>
    intro w' hSw
    try dsimp only at hSw
    go_simp
    first | done | with_reducible rfl
  try simp only [Act.put, List.getElem_toArray, List.getElem_cons_succ, List.getElem_cons_zero, List.setIfInBounds_toArray, List.set_cons_zero, List.set_cons_succ]
  refine wpAnyH_take (i := 6) (v := ?v6) rfl (by kernel_rfl) (by kernel_rfl) (by kernel_rfl) (fun _ _ _ h => h) (Or.inl ⟨by rfl, ?hy6⟩) hHeld ?rest6
  case hy6 =>
    intro w' hSw
    try dsimp only at hSw
    go_simp
    first | done | with_reducible rfl
  try simp only [Act.put, List.getElem_toArray, List.getElem_cons_succ, List.getElem_cons_zero, List.setIfInBounds_toArray, List.set_cons_zero, List.set_cons_succ]
  refine wpAnyH_take (i := 7) (v := ?v7) rfl (by kernel_rfl) (by kernel_rfl) (by kernel_rfl) (fun _ _ _ h => h) (Or.inl ⟨by rfl, ?hy7⟩) hHeld ?rest7
  case hy7 =>
    intro w' hSw
    try dsimp only at hSw
    go_simp
    first | done | with_reducible rfl
  try simp only [Act.put, List.getElem_toArray, List.getElem_cons_succ, List.getElem_cons_zero, List.setIfInBounds_toArray, List.set_cons_zero, List.set_cons_succ]
  refine wpAnyH_take (i := 8) (v := ?v8) rfl (by kernel_rfl) (by kernel_rfl) (by kernel_rfl) (fun _ _ _ h => h) (Or.inl ⟨by rfl, ?hy8⟩) hHeld ?rest8
  case hy8 =>
    intro w' hSw
    try dsimp only at hSw
    go_simp
    first | done | with_reducible rfl
  try simp only [Act.put, List.getElem_toArray, List.getElem_cons_succ, List.getElem_cons_zero, List.setIfInBounds_toArray, List.set_cons_zero, List.set_cons_succ]
  refine wpAnyH_take (i := 11) rfl (by kernel_rfl) (by kernel_rfl) (by kernel_rfl) (fun _ _ _ h => h) (yieldsIf_load_mid (by rfl) 33 (.tmp 10) (by rfl) W4.heap.size 0 (by rfl) [.slice r'.A1 r'.n1 r'.c1, .slice r'.A2 r'.n2 r'.c2, .int .i64 (t : Int), .slice r'.A3 r'.n3 r'.c3] _ (fun w' hSw => Blk.rangeAt hSw.2.2.2) Try.underlying33 rfl size43) hHeld ?_
  try simp only [Act.put, List.getElem_toArray, List.getElem_cons_succ, List.getElem_cons_zero, List.setIfInBounds_toArray, List.set_cons_zero, List.set_cons_succ]
  refine wpAnyH_ready (rs := [9]) (by kernel_rfl) (by simp) ?_
  refine AllReadyH.cons (by rfl) (fun K hK => ?_) AllReadyH.nil
  go_simp
  refine (bytes_at BO.out.da HNW.out).mono ?_
  rintro e w1 ⟨v, rfl, hown, hb⟩
  obtain ⟨AB, cB, rfl⟩ := own_shape hown
  have RB := Lib.hid (show Rd w1 AB D'.all from Rd.of_own hown)
  have BO := Lib.hid (BO.out.below hb)
  have HC := Lib.hid (HC.out.below hb HC.out.lt)
  have HG := Lib.hid (HG.out.below hb HG.out.lt)
  have HL := Lib.hid (HL.out.trans (hb.mono HL.out.size))
  clear hown hb hHeld
  go_wp2_with fail
  refine hK.out _ _ (⟨(HG.out.cell 1).trans rfl, (HG.out.cell 2).trans rfl, HC.out, HG.out⟩) (fun hHeld => ?_)
  clear hK K
  try simp only [Act.put, List.getElem_toArray, List.getElem_cons_succ, List.getElem_cons_zero, List.setIfInBounds_toArray, List.set_cons_zero, List.set_cons_succ]
  refine wpAnyH_ready (rs := [10, 12]) (by kernel_rfl) (by simp) ?_
  refine AllReadyH.cons (by rfl) (fun K hK => ?_) (AllReadyH.cons (by rfl) (fun K hK => ?_) AllReadyH.nil)
  · have s1 := str_run8 (c := cB) HLB.out RB.out
    go_simp
    clear s1 hHeld
    go_wp2_with fail
    refine hK.out _ _ (⟨(HG.out.cell 1).trans rfl, (HG.out.cell 2).trans rfl, HC.out, HG.out⟩) (fun hHeld => ?_)
    clear hK K
    try simp only [Act.put, List.getElem_toArray, List.getElem_cons_succ, List.getElem_cons_zero, List.setIfInBounds_toArray, List.set_cons_zero, List.set_cons_succ]
    refine wpAnyH_ready (rs := [12]) (by kernel_rfl) (by simp) ?_
    refine AllReadyH.cons (by rfl) (fun K hK => ?_) AllReadyH.nil
    go_simp
    refine (rbytes_any BO.out.rf t).mono ?_
    rintro e w4 ⟨v, rfl, hown, hb⟩
    obtain ⟨AR, cR, rfl⟩ := own_shape hown
    have RR := Lib.hid (show Rd w4 AR (layR Q2.lb Q2.ws) from Rd.of_own hown)
    have BO := Lib.hid (BO.out.below hb)
    have HC := Lib.hid (HC.out.below hb HC.out.lt)
    have HG := Lib.hid (HG.out.below hb HG.out.lt)
    have HL := Lib.hid (HL.out.trans (hb.mono HL.out.size))
    have RB := Lib.hid (RB.out.below hb)
    clear hown hb hHeld
    go_wp2_with fail
    refine hK.out _ _ (⟨(HG.out.cell 1).trans rfl, (HG.out.cell 2).trans rfl, HC.out, HG.out⟩) (fun hHeld => ?_)
    clear hK K
    try simp only [Act.put, List.getElem_toArray, List.getElem_cons_succ, List.getElem_cons_zero, List.setIfInBounds_toArray, List.set_cons_zero, List.set_cons_succ]
    refine wpAnyH_ready (rs := [13]) (by kernel_rfl) (by simp) ?_
    refine AllReadyH.cons (by rfl) (fun K hK => ?_) AllReadyH.nil
    have s2 := str_run8 (c := cR) HLR.out RR.out
    go_simp
    clear s2 hHeld
    go_wp2_with fail
    refine hK.out _ _ (⟨(HG.out.cell 1).trans rfl, (HG.out.cell 2).trans rfl, HC.out, HG.out⟩) (fun hHeld => ?_)
    clear hK K
    try simp only [Act.put, List.getElem_toArray, List.getElem_cons_succ, List.getElem_cons_zero, List.setIfInBounds_toArray, List.set_cons_zero, List.set_cons_succ]
    refine wpAnyH_take (i := 14) (v := ?v9) rfl (by kernel_rfl) (by kernel_rfl) (by kernel_rfl) (fun _ _ _ h => h) (Or.inl ⟨by rfl, ?hy9⟩) hHeld ?rest9
    case hy9 =>
      intro w' hSw
      try dsimp only at hSw
      go_simp
      first | done | with_reducible rfl
    try simp only [Act.put, List.getElem_toArray, List.getElem_cons_succ, List.getElem_cons_zero, List.setIfInBounds_toArray, List.set_cons_zero, List.set_cons_succ]
    refine wpAnyH_take (i := 15) (v := ?v10) rfl (by kernel_rfl) (by kernel_rfl) (by kernel_rfl) (fun _ _ _ h => h) (Or.inl ⟨by rfl, ?hy10⟩) hHeld ?rest10
    case hy10 =>
      intro w' hSw
      try dsimp only at hSw
      go_simp
      first | done | with_reducible rfl
    try simp only [Act.put, List.getElem_toArray, List.getElem_cons_succ, List.getElem_cons_zero, List.setIfInBounds_toArray, List.set_cons_zero, List.set_cons_succ]
    refine wpAnyH_take (i := 16) (v := ?v11) rfl (by kernel_rfl) (by kernel_rfl) (by kernel_rfl) (fun _ _ _ h => h) (Or.inl ⟨by rfl, ?hy11⟩) hHeld ?rest11
    case hy11 =>
      intro w' hSw
      try dsimp only at hSw
      go_simp
      first | done | with_reducible rfl
    try simp only [Act.put, List.getElem_toArray, List.getElem_cons_succ, List.getElem_cons_zero, List.setIfInBounds_toArray, List.set_cons_zero, List.set_cons_succ]
    refine wpAnyH_take (i := 17) (v := ?v12) rfl (by kernel_rfl) (by kernel_rfl) (by kernel_rfl) (fun _ _ _ h => h) (Or.inl ⟨by rfl, ?hy12⟩) hHeld ?rest12
    case hy12 =>
      intro w' hSw
      try dsimp only at hSw
      go_simp
      first | done | with_reducible rfl
    try simp only [Act.put, List.getElem_toArray, List.getElem_cons_succ, List.getElem_cons_zero, List.setIfInBounds_toArray, List.set_cons_zero, List.set_cons_succ]
    refine wpAnyH_take (i := 19) (v := ?v13) rfl (by kernel_rfl) (by kernel_rfl) (by kernel_rfl) (fun _ _ _ h => h) (Or.inl ⟨by rfl, ?hy13⟩) hHeld ?rest13
    case hy13 =>
      intro w' hSw
      try dsimp only at hSw
      go_simp
      first | done | with_reducible rfl
    try simp only [Act.put, List.getElem_toArray, List.getElem_cons_succ, List.getElem_cons_zero, List.setIfInBounds_toArray, List.set_cons_zero, List.set_cons_succ]
    refine wpAnyH_take (i := 20) (v := ?v14) rfl (by kernel_rfl) (by kernel_rfl) (by kernel_rfl) (fun _ _ _ h => h) (Or.inl ⟨by rfl, ?hy14⟩) hHeld ?rest14
    case hy14 =>
      intro w' hSw
      try dsimp only at hSw
      go_simp
      first | done | with_reducible rfl
    try simp only [Act.put, List.getElem_toArray, List.getElem_cons_succ, List.getElem_cons_zero, List.setIfInBounds_toArray, List.set_cons_zero, List.set_cons_succ]
    refine wpAnyH_ready (rs := [18]) (by kernel_rfl) (by simp) ?_
    refine AllReadyH.cons (by rfl) (fun K hK => ?_) AllReadyH.nil
    go_simp
    refine (steps_at BO.out.da).mono ?_
    rw [HST.out]
    rintro e y1 ⟨rfl, rfl⟩
    clear hHeld
    go_wp2_with fail
    refine hK.out _ _ (⟨(HG.out.cell 1).trans rfl, (HG.out.cell 2).trans rfl, HC.out, HG.out⟩) (fun hHeld => ?_)
    clear hK K
    try simp only [Act.put, List.getElem_toArray, List.getElem_cons_succ, List.getElem_cons_zero, List.setIfInBounds_toArray, List.set_cons_zero, List.set_cons_succ]
    refine wpAnyH_take (i := 21) (v := ?v15) rfl (by kernel_rfl) (by kernel_rfl) (by kernel_rfl) (fun _ _ _ h => h) (Or.inl ⟨by rfl, ?hy15⟩) hHeld ?rest15
    case hy15 =>
      intro w' hSw
      try dsimp only at hSw
      go_simp
      first | done | with_reducible rfl
    try simp only [Act.put, List.getElem_toArray, List.getElem_cons_succ, List.getElem_cons_zero, List.setIfInBounds_toArray, List.set_cons_zero, List.set_cons_succ]
    refine wpAnyH_take (i := 22) (v := ?v16) rfl (by kernel_rfl) (by kernel_rfl) (by kernel_rfl) (fun _ _ _ h => h) (Or.inl ⟨by rfl, ?hy16⟩) hHeld ?rest16
    case hy16 =>
      intro w' hSw
      try dsimp only at hSw
      go_simp
      first | done | with_reducible rfl
    try simp only [Act.put, List.getElem_toArray, List.getElem_cons_succ, List.getElem_cons_zero, List.setIfInBounds_toArray, List.set_cons_zero, List.set_cons_succ]
    refine wpAnyH_take (i := 23) (v := ?v17) rfl (by kernel_rfl) (by kernel_rfl) (by kernel_rfl) (fun _ _ _ h => h) (Or.inl ⟨by rfl, ?hy17⟩) hHeld ?rest17
    case hy17 =>
      intro w' hSw
      try dsimp only at hSw
      go_simp
      first | done | with_reducible rfl
    try simp only [Act.put, List.getElem_toArray, List.getElem_cons_succ, List.getElem_cons_zero, List.setIfInBounds_toArray, List.set_cons_zero, List.set_cons_succ]
    refine wpAnyH_take (i := 24) (v := ?v18) rfl (by kernel_rfl) (by kernel_rfl) (by kernel_rfl) (fun _ _ _ h => h) (Or.inl ⟨by rfl, ?hy18⟩) hHeld ?rest18
    case hy18 =>
      intro w' hSw
      try dsimp only at hSw
      go_simp
      first | done | with_reducible rfl
    try simp only [Act.put, List.getElem_toArray, List.getElem_cons_succ, List.getElem_cons_zero, List.setIfInBounds_toArray, List.set_cons_zero, List.set_cons_succ]
    refine wpAnyH_take (i := 27) (v := ?v19) rfl (by kernel_rfl) (by kernel_rfl) (by kernel_rfl) (fun _ _ _ h => h) (Or.inl ⟨by rfl, ?hy19⟩) hHeld ?rest19
    case hy19 =>
      intro w' hSw
      try dsimp only at hSw
      go_simp
      first | done | with_reducible rfl
    try simp only [Act.put, List.getElem_toArray, List.getElem_cons_succ, List.getElem_cons_zero, List.setIfInBounds_toArray, List.set_cons_zero, List.set_cons_succ]
    refine wpAnyH_take (i := 28) (v := ?v20) rfl (by kernel_rfl) (by kernel_rfl) (by kernel_rfl) (fun _ _ _ h => h) (Or.inl ⟨by rfl, ?hy20⟩) hHeld ?rest20
    case hy20 =>
      intro w' hSw
      try dsimp only at hSw
      go_simp
      first | done | with_reducible rfl
    try simp only [Act.put, List.getElem_toArray, List.getElem_cons_succ, List.getElem_cons_zero, List.setIfInBounds_toArray, List.set_cons_zero, List.set_cons_succ]
    refine wpAnyH_take (i := 29) (v := ?v21) rfl (by kernel_rfl) (by kernel_rfl) (by kernel_rfl) (fun _ _ _ h => h) (Or.inl ⟨by rfl, ?hy21⟩) hHeld ?rest21
    case hy21 =>
      intro w' hSw
      try dsimp only at hSw
      go_simp
      first | done | with_reducible rfl
    try simp only [Act.put, List.getElem_toArray, List.getElem_cons_succ, List.getElem_cons_zero, List.setIfInBounds_toArray, List.set_cons_zero, List.set_cons_succ]
    refine wpAnyH_ready (rs := [25]) (by kernel_rfl) (by simp) ?_
    refine AllReadyH.cons (by rfl) (fun K hK => ?_) AllReadyH.nil
    go_simp
    refine (waits_at BO.out.da HNW.out).mono ?_
    rintro e w9 ⟨v, rfl, hown, hb⟩
    obtain ⟨AW, cW, rfl⟩ := own_shape hown
    have BO := Lib.hid (BO.out.below hb)
    have HC := Lib.hid (HC.out.below hb HC.out.lt)
    have HG := Lib.hid (HG.out.below hb HG.out.lt)
    have HL := Lib.hid (HL.out.trans (hb.mono HL.out.size))
    clear hown hb hHeld
    go_wp2_with fail
    refine hK.out _ _ (⟨(HG.out.cell 1).trans rfl, (HG.out.cell 2).trans rfl, HC.out, HG.out⟩) (fun hHeld => ?_)
    clear hK K
    try simp only [Act.put, List.getElem_toArray, List.getElem_cons_succ, List.getElem_cons_zero, List.setIfInBounds_toArray, List.set_cons_zero, List.set_cons_succ]
    refine wpAnyH_take (i := 26) (v := ?v22) rfl (by kernel_rfl) (by kernel_rfl) (by kernel_rfl) (fun _ _ _ h => h) (Or.inl ⟨by rfl, ?hy22⟩) hHeld ?rest22
    case hy22 =>
      intro w' hSw
      try dsimp only at hSw
      go_simp
      first | done | with_reducible rfl
    try simp only [Act.put, List.getElem_toArray, List.getElem_cons_succ, List.getElem_cons_zero, List.setIfInBounds_toArray, List.set_cons_zero, List.set_cons_succ]
    refine wpAnyH_take (i := 30) (v := ?v23) rfl (by kernel_rfl) (by kernel_rfl) (by kernel_rfl) (fun _ _ _ h => h) (Or.inl ⟨by rfl, ?hy23⟩) hHeld ?rest23
    case hy23 =>
      intro w' hSw
      try dsimp only at hSw
      go_simp
      first | done | with_reducible rfl
    try simp only [Act.put, List.getElem_toArray, List.getElem_cons_succ, List.getElem_cons_zero, List.setIfInBounds_toArray, List.set_cons_zero, List.set_cons_succ]
    refine wpAnyH_take (i := 31) (v := ?v24) rfl (by kernel_rfl) (by kernel_rfl) (by kernel_rfl) (fun _ _ _ h => h) (Or.inl ⟨by rfl, ?hy24⟩) hHeld ?rest24
    case hy24 =>
      intro w' hSw
      try dsimp only at hSw
      go_simp
      first | done | with_reducible rfl
    try simp only [Act.put, List.getElem_toArray, List.getElem_cons_succ, List.getElem_cons_zero, List.setIfInBounds_toArray, List.set_cons_zero, List.set_cons_succ]
    refine wpAnyH_take (i := 32) (v := ?v25) rfl (by kernel_rfl) (by kernel_rfl) (by kernel_rfl) (fun _ _ _ h => h) (Or.inl ⟨by rfl, ?hy25⟩) hHeld ?rest25
    case hy25 =>
      intro w' hSw
      try dsimp only at hSw
      go_simp
      first | done | with_reducible rfl
    try simp only [Act.put, List.getElem_toArray, List.getElem_cons_succ, List.getElem_cons_zero, List.setIfInBounds_toArray, List.set_cons_zero, List.set_cons_succ]
    refine wpAnyH_take (i := 33) (v := ?v26) rfl (by kernel_rfl) (by kernel_rfl) (by kernel_rfl) (fun _ _ _ h => h) (Or.inl ⟨by rfl, ?hy26⟩) hHeld ?rest26
    case hy26 =>
      intro w' hSw
      try dsimp only at hSw
      go_simp
      first | done | with_reducible rfl
    try simp only [Act.put, List.getElem_toArray, List.getElem_cons_succ, List.getElem_cons_zero, List.setIfInBounds_toArray, List.set_cons_zero, List.set_cons_succ]
    refine wpAnyH_take (i := 34) rfl (by kernel_rfl) (by kernel_rfl) (by kernel_rfl) (fun _ _ _ h => h) (yieldsIf_load_mid (by rfl) 28 (.tmp 5) (by rfl) (w.heap.size + 1) 0 (by rfl) h.cs _ (fun w' hSw => Blk.rangeAt (l := h.cs) hSw.2.2.1) Try.underlying28 rfl (size23 _)) hHeld ?_
    try simp only [Act.put, List.getElem_toArray, List.getElem_cons_succ, List.getElem_cons_zero, List.setIfInBounds_toArray, List.set_cons_zero, List.set_cons_succ]
    refine wpAnyH_ready (rs := [35]) (by kernel_rfl) (by simp) ?_
    refine AllReadyH.cons (by rfl) (fun K hK => ?_) AllReadyH.nil
    go_simp
    refine (hwrite_nil n h _).mono ?_
    rintro e w35 ⟨rfl, hb⟩
    have BO := Lib.hid (BO.out.below hb)
    have HC := Lib.hid (HC.out.below hb HC.out.lt)
    have HG := Lib.hid (HG.out.below hb HG.out.lt)
    have HL := Lib.hid (HL.out.trans (hb.mono HL.out.size))
    clear hb hHeld
    go_wp2_with fail
    refine hK.out _ _ (⟨(HG.out.cell 1).trans rfl, (HG.out.cell 2).trans rfl, HC.out, HG.out⟩) (fun hHeld => ?_)
    clear hK K
    try simp only [Act.put, List.getElem_toArray, List.getElem_cons_succ, List.getElem_cons_zero, List.setIfInBounds_toArray, List.set_cons_zero, List.set_cons_succ]
    refine wpAnyH_ready (rs := [36]) (by kernel_rfl) (by simp) ?_
    refine AllReadyH.cons (by rfl) (fun K hK => ?_) AllReadyH.nil
    go_simp
    refine (num8_any _ _).mono ?_
    rintro e y1 ⟨rfl, rfl⟩
    clear hHeld
    refine hK.out _ _ (⟨(HG.out.cell 1).trans rfl, (HG.out.cell 2).trans rfl, HC.out, HG.out⟩) (fun hHeld => ?_)
    clear hK K
    try simp only [Act.put, List.getElem_toArray, List.getElem_cons_succ, List.getElem_cons_zero, List.setIfInBounds_toArray, List.set_cons_zero, List.set_cons_succ]
    refine wpAnyH_take (i := 37) (v := ?v27) rfl (by kernel_rfl) (by kernel_rfl) (by kernel_rfl) (fun _ _ _ h => h) (Or.inl ⟨by rfl, ?hy27⟩) hHeld ?rest27
    case hy27 =>
      intro w' hSw
      try dsimp only at hSw
      go_simp
      first | done | with_reducible rfl
    try simp only [Act.put, List.getElem_toArray, List.getElem_cons_succ, List.getElem_cons_zero, List.setIfInBounds_toArray, List.set_cons_zero, List.set_cons_succ]
    refine wpAnyH_take (i := 38) (v := ?v28) rfl (by kernel_rfl) (by kernel_rfl) (by kernel_rfl) (fun _ _ _ h => h) (Or.inl ⟨by rfl, ?hy28⟩) hHeld ?rest28
    case hy28 =>
      intro w' hSw
      try dsimp only at hSw
      go_simp
      first | done | with_reducible rfl
    try simp only [Act.put, List.getElem_toArray, List.getElem_cons_succ, List.getElem_cons_zero, List.setIfInBounds_toArray, List.set_cons_zero, List.set_cons_succ]
    refine wpAnyH_take (i := 39) (v := ?v29) rfl (by kernel_rfl) (by kernel_rfl) (by kernel_rfl) (fun _ _ _ h => h) (Or.inl ⟨by rfl, ?hy29⟩) hHeld ?rest29
    case hy29 =>
      intro w' hSw
      try dsimp only at hSw
      go_simp
      first | done | with_reducible rfl
    try simp only [Act.put, List.getElem_toArray, List.getElem_cons_succ, List.getElem_cons_zero, List.setIfInBounds_toArray, List.set_cons_zero, List.set_cons_succ]
    refine wpAnyH_ready (rs := [40]) (by kernel_rfl) (by simp) ?_
    refine AllReadyH.cons (by rfl) (fun K hK => ?_) AllReadyH.nil
    go_simp
    refine (works8_any _).mono ?_
    rintro e w40 ⟨rfl, hb⟩
    have BO := Lib.hid (BO.out.below hb)
    have HC := Lib.hid (HC.out.below hb HC.out.lt)
    have HG := Lib.hid (HG.out.below hb HG.out.lt)
    have HL := Lib.hid (HL.out.trans (hb.mono HL.out.size))
    clear hb hHeld
    go_wp2_with fail
    refine hK.out _ _ (⟨(HG.out.cell 1).trans rfl, (HG.out.cell 2).trans rfl, HC.out, HG.out⟩) (fun hHeld => ?_)
    clear hK K
    try simp only [Act.put, List.getElem_toArray, List.getElem_cons_succ, List.getElem_cons_zero, List.setIfInBounds_toArray, List.set_cons_zero, List.set_cons_succ]
    refine wpAnyH_take (i := 41) (v := ?v30) rfl (by kernel_rfl) (by kernel_rfl) (by kernel_rfl) (fun _ _ _ h => h) (Or.inl ⟨by rfl, ?hy30⟩) hHeld ?rest30
    case hy30 =>
      intro w' hSw
      try dsimp only at hSw
      go_simp
      first | done | with_reducible rfl
    try simp only [Act.put, List.getElem_toArray, List.getElem_cons_succ, List.getElem_cons_zero, List.setIfInBounds_toArray, List.set_cons_zero, List.set_cons_succ]
    refine wpAnyH_take (i := 42) (v := ?v31) rfl (by kernel_rfl) (by kernel_rfl) (by kernel_rfl) (fun _ _ _ h => h) (Or.inl ⟨by rfl, ?hy31⟩) hHeld ?rest31
    case hy31 =>
      intro w' hSw
      try dsimp only at hSw
      go_simp
      first | done | with_reducible rfl
    try simp only [Act.put, List.getElem_toArray, List.getElem_cons_succ, List.getElem_cons_zero, List.setIfInBounds_toArray, List.set_cons_zero, List.set_cons_succ]
    refine wpAnyH_done (by kernel_rfl) ?_ _
    refine OnlyN.normal ?_
    try clear hHeld
    go_wp2
    go_ret
    exact ⟨rfl, HL.out⟩
  · go_simp
    refine (rbytes_any BO.out.rf t).mono ?_
    rintro e w4 ⟨v, rfl, hown, hb⟩
    obtain ⟨AR, cR, rfl⟩ := own_shape hown
    have RR := Lib.hid (show Rd w4 AR (layR Q2.lb Q2.ws) from Rd.of_own hown)
    have BO := Lib.hid (BO.out.below hb)
    have HC := Lib.hid (HC.out.below hb HC.out.lt)
    have HG := Lib.hid (HG.out.below hb HG.out.lt)
    have HL := Lib.hid (HL.out.trans (hb.mono HL.out.size))
    have RB := Lib.hid (RB.out.below hb)
    clear hown hb hHeld
    go_wp2_with fail
    refine hK.out _ _ (⟨(HG.out.cell 1).trans rfl, (HG.out.cell 2).trans rfl, HC.out, HG.out⟩) (fun hHeld => ?_)
    clear hK K
    try simp only [Act.put, List.getElem_toArray, List.getElem_cons_succ, List.getElem_cons_zero, List.setIfInBounds_toArray, List.set_cons_zero, List.set_cons_succ]
    refine wpAnyH_ready (rs := [10, 13]) (by kernel_rfl) (by simp) ?_
    refine AllReadyH.cons (by rfl) (fun K hK => ?_) (AllReadyH.cons (by rfl) (fun K hK => ?_) AllReadyH.nil)
    · have s1 := str_run8 (c := cB) HLB.out RB.out
      go_simp
      clear s1 hHeld
      go_wp2_with fail
      refine hK.out _ _ (⟨(HG.out.cell 1).trans rfl, (HG.out.cell 2).trans rfl, HC.out, HG.out⟩) (fun hHeld => ?_)
      clear hK K
      try simp only [Act.put, List.getElem_toArray, List.getElem_cons_succ, List.getElem_cons_zero, List.setIfInBounds_toArray, List.set_cons_zero, List.set_cons_succ]
      refine wpAnyH_ready (rs := [13]) (by kernel_rfl) (by simp) ?_
      refine AllReadyH.cons (by rfl) (fun K hK => ?_) AllReadyH.nil
      have s2 := str_run8 (c := cR) HLR.out RR.out
      go_simp
      clear s2 hHeld
      go_wp2_with fail
      refine hK.out _ _ (⟨(HG.out.cell 1).trans rfl, (HG.out.cell 2).trans rfl, HC.out, HG.out⟩) (fun hHeld => ?_)
      clear hK K
      try simp only [Act.put, List.getElem_toArray, List.getElem_cons_succ, List.getElem_cons_zero, List.setIfInBounds_toArray, List.set_cons_zero, List.set_cons_succ]
      refine wpAnyH_take (i := 14) (v := ?v32) rfl (by kernel_rfl) (by kernel_rfl) (by kernel_rfl) (fun _ _ _ h => h) (Or.inl ⟨by rfl, ?hy32⟩) hHeld ?rest32
      case hy32 =>
        intro w' hSw
        try dsimp only at hSw
        go_simp
        first | done | with_reducible rfl
      try simp only [Act.put, List.getElem_toArray, List.getElem_cons_succ, List.getElem_cons_zero, List.setIfInBounds_toArray, List.set_cons_zero, List.set_cons_succ]
      refine wpAnyH_take (i := 15) (v := ?v33) rfl (by kernel_rfl) (by kernel_rfl) (by kernel_rfl) (fun _ _ _ h => h) (Or.inl ⟨by rfl, ?hy33⟩) hHeld ?rest33
      case hy33 =>
        intro w' hSw
        try dsimp only at hSw
        go_simp
        first | done | with_reducible rfl
      try simp only [Act.put, List.getElem_toArray, List.getElem_cons_succ, List.getElem_cons_zero, List.setIfInBounds_toArray, List.set_cons_zero, List.set_cons_succ]
      refine wpAnyH_take (i := 16) (v := ?v34) rfl (by kernel_rfl) (by kernel_rfl) (by kernel_rfl) (fun _ _ _ h => h) (Or.inl ⟨by rfl, ?hy34⟩) hHeld ?rest34
      case hy34 =>
        intro w' hSw
        try dsimp only at hSw
        go_simp
        first | done | with_reducible rfl
      try simp only [Act.put, List.getElem_toArray, List.getElem_cons_succ, List.getElem_cons_zero, List.setIfInBounds_toArray, List.set_cons_zero, List.set_cons_succ]
      refine wpAnyH_take (i := 17) (v := ?v35) rfl (by kernel_rfl) (by kernel_rfl) (by kernel_rfl) (fun _ _ _ h => h) (Or.inl ⟨by rfl, ?hy35⟩) hHeld ?rest35
      case hy35 =>
        intro w' hSw
        try dsimp only at hSw
        go_simp
        first | done | with_reducible rfl
      try simp only [Act.put, List.getElem_toArray, List.getElem_cons_succ, List.getElem_cons_zero, List.setIfInBounds_toArray, List.set_cons_zero, List.set_cons_succ]
      refine wpAnyH_take (i := 19) (v := ?v36) rfl (by kernel_rfl) (by kernel_rfl) (by kernel_rfl) (fun _ _ _ h => h) (Or.inl ⟨by rfl, ?hy36⟩) hHeld ?rest36
      case hy36 =>
        intro w' hSw
        try dsimp only at hSw
        go_simp
        first | done | with_reducible rfl
      try simp only [Act.put, List.getElem_toArray, List.getElem_cons_succ, List.getElem_cons_zero, List.setIfInBounds_toArray, List.set_cons_zero, List.set_cons_succ]
      refine wpAnyH_take (i := 20) (v := ?v37) rfl (by kernel_rfl) (by kernel_rfl) (by kernel_rfl) (fun _ _ _ h => h) (Or.inl ⟨by rfl, ?hy37⟩) hHeld ?rest37
      case hy37 =>
        intro w' hSw
        try dsimp only at hSw
        go_simp
        first | done | with_reducible rfl
      try simp only [Act.put, List.getElem_toArray, List.getElem_cons_succ, List.getElem_cons_zero, List.setIfInBounds_toArray, List.set_cons_zero, List.set_cons_succ]
      refine wpAnyH_ready (rs := [18]) (by kernel_rfl) (by simp) ?_
      refine AllReadyH.cons (by rfl) (fun K hK => ?_) AllReadyH.nil
      go_simp
      refine (steps_at BO.out.da).mono ?_
      rw [HST.out]
      rintro e y1 ⟨rfl, rfl⟩
      clear hHeld
      go_wp2_with fail
      refine hK.out _ _ (⟨(HG.out.cell 1).trans rfl, (HG.out.cell 2).trans rfl, HC.out, HG.out⟩) (fun hHeld => ?_)
      clear hK K
      try simp only [Act.put, List.getElem_toArray, List.getElem_cons_succ, List.getElem_cons_zero, List.setIfInBounds_toArray, List.set_cons_zero, List.set_cons_succ]
      refine wpAnyH_take (i := 21) (v := ?v38) rfl (by kernel_rfl) (by kernel_rfl) (by kernel_rfl) (fun _ _ _ h => h) (Or.inl ⟨by rfl, ?hy38⟩) hHeld ?rest38
      case hy38 =>
        intro w' hSw
        try dsimp only at hSw
        go_simp
        first | done | with_reducible rfl
      try simp only [Act.put, List.getElem_toArray, List.getElem_cons_succ, List.getElem_cons_zero, List.setIfInBounds_toArray, List.set_cons_zero, List.set_cons_succ]
      refine wpAnyH_take (i := 22) (v := ?v39) rfl (by kernel_rfl) (by kernel_rfl) (by kernel_rfl) (fun _ _ _ h => h) (Or.inl ⟨by rfl, ?hy39⟩) hHeld ?rest39
      case hy39 =>
        intro w' hSw
        try dsimp only at hSw
        go_simp
        first | done | with_reducible rfl
      try simp only [Act.put, List.getElem_toArray, List.getElem_cons_succ, List.getElem_cons_zero, List.setIfInBounds_toArray, List.set_cons_zero, List.set_cons_succ]
      refine wpAnyH_take (i := 23) (v := ?v40) rfl (by kernel_rfl) (by kernel_rfl) (by kernel_rfl) (fun _ _ _ h => h) (Or.inl ⟨by rfl, ?hy40⟩) hHeld ?rest40
      case hy40 =>
        intro w' hSw
        try dsimp only at hSw
        go_simp
        first | done | with_reducible rfl
      try simp only [Act.put, List.getElem_toArray, List.getElem_cons_succ, List.getElem_cons_zero, List.setIfInBounds_toArray, List.set_cons_zero, List.set_cons_succ]
      refine wpAnyH_take (i := 24) (v := ?v41) rfl (by kernel_rfl) (by kernel_rfl) (by kernel_rfl) (fun _ _ _ h => h) (Or.inl ⟨by rfl, ?hy41⟩) hHeld ?rest41
      case hy41 =>
        intro w' hSw
        try dsimp only at hSw
        go_simp
        first | done | with_reducible rfl
      try simp only [Act.put, List.getElem_toArray, List.getElem_cons_succ, List.getElem_cons_zero, List.setIfInBounds_toArray, List.set_cons_zero, List.set_cons_succ]
      refine wpAnyH_take (i := 27) (v := ?v42) rfl (by kernel_rfl) (by kernel_rfl) (by kernel_rfl) (fun _ _ _ h => h) (Or.inl ⟨by rfl, ?hy42⟩) hHeld ?rest42
      case hy42 =>
        intro w' hSw
        try dsimp only at hSw
        go_simp
        first | done | with_reducible rfl
      try simp only [Act.put, List.getElem_toArray, List.getElem_cons_succ, List.getElem_cons_zero, List.setIfInBounds_toArray, List.set_cons_zero, List.set_cons_succ]
      refine wpAnyH_take (i := 28) (v := ?v43) rfl (by kernel_rfl) (by kernel_rfl) (by kernel_rfl) (fun _ _ _ h => h) (Or.inl ⟨by rfl, ?hy43⟩) hHeld ?rest43
      case hy43 =>
        intro w' hSw
        try dsimp only at hSw
        go_simp
        first | done | with_reducible rfl
      try simp only [Act.put, List.getElem_toArray, List.getElem_cons_succ, List.getElem_cons_zero, List.setIfInBounds_toArray, List.set_cons_zero, List.set_cons_succ]
      refine wpAnyH_take (i := 29) (v := ?v44) rfl (by kernel_rfl) (by kernel_rfl) (by kernel_rfl) (fun _ _ _ h => h) (Or.inl ⟨by rfl, ?hy44⟩) hHeld ?rest44
      case hy44 =>
        intro w' hSw
        try dsimp only at hSw
        go_simp
        first | done | with_reducible rfl
      try simp only [Act.put, List.getElem_toArray, List.getElem_cons_succ, List.getElem_cons_zero, List.setIfInBounds_toArray, List.set_cons_zero, List.set_cons_succ]
      refine wpAnyH_ready (rs := [25]) (by kernel_rfl) (by simp) ?_
      refine AllReadyH.cons (by rfl) (fun K hK => ?_) AllReadyH.nil
      go_simp
      refine (waits_at BO.out.da HNW.out).mono ?_
      rintro e w9 ⟨v, rfl, hown, hb⟩
      obtain ⟨AW, cW, rfl⟩ := own_shape hown
      have BO := Lib.hid (BO.out.below hb)
      have HC := Lib.hid (HC.out.below hb HC.out.lt)
      have HG := Lib.hid (HG.out.below hb HG.out.lt)
      have HL := Lib.hid (HL.out.trans (hb.mono HL.out.size))
      clear hown hb hHeld
      go_wp2_with fail
      refine hK.out _ _ (⟨(HG.out.cell 1).trans rfl, (HG.out.cell 2).trans rfl, HC.out, HG.out⟩) (fun hHeld => ?_)
      clear hK K
      try simp only [Act.put, List.getElem_toArray, List.getElem_cons_succ, List.getElem_cons_zero, List.setIfInBounds_toArray, List.set_cons_zero, List.set_cons_succ]
      refine wpAnyH_take (i := 26) (v := ?v45) rfl (by kernel_rfl) (by kernel_rfl) (by kernel_rfl) (fun _ _ _ h => h) (Or.inl ⟨by rfl, ?hy45⟩) hHeld ?rest45
      case hy45 =>
        intro w' hSw
        try dsimp only at hSw
        go_simp
        first | done | with_reducible rfl
      try simp only [Act.put, List.getElem_toArray, List.getElem_cons_succ, List.getElem_cons_zero, List.setIfInBounds_toArray, List.set_cons_zero, List.set_cons_succ]
      refine wpAnyH_take (i := 30) (v := ?v46) rfl (by kernel_rfl) (by kernel_rfl) (by kernel_rfl) (fun _ _ _ h => h) (Or.inl ⟨by rfl, ?hy46⟩) hHeld ?rest46
      case hy46 =>
        intro w' hSw
        try dsimp only at hSw
        go_simp
        first | done | with_reducible rfl
      try simp only [Act.put, List.getElem_toArray, List.getElem_cons_succ, List.getElem_cons_zero, List.setIfInBounds_toArray, List.set_cons_zero, List.set_cons_succ]
      refine wpAnyH_take (i := 31) (v := ?v47) rfl (by kernel_rfl) (by kernel_rfl) (by kernel_rfl) (fun _ _ _ h => h) (Or.inl ⟨by rfl, ?hy47⟩) hHeld ?rest47
      case hy47 =>
        intro w' hSw
        try dsimp only at hSw
        go_simp
        first | done | with_reducible rfl
      try simp only [Act.put, List.getElem_toArray, List.getElem_cons_succ, List.getElem_cons_zero, List.setIfInBounds_toArray, List.set_cons_zero, List.set_cons_succ]
      refine wpAnyH_take (i := 32) (v := ?v48) rfl (by kernel_rfl) (by kernel_rfl) (by kernel_rfl) (fun _ _ _ h => h) (Or.inl ⟨by rfl, ?hy48⟩) hHeld ?rest48
      case hy48 =>
        intro w' hSw
        try dsimp only at hSw
        go_simp
        first | done | with_reducible rfl
      try simp only [Act.put, List.getElem_toArray, List.getElem_cons_succ, List.getElem_cons_zero, List.setIfInBounds_toArray, List.set_cons_zero, List.set_cons_succ]
      refine wpAnyH_take (i := 33) (v := ?v49) rfl (by kernel_rfl) (by kernel_rfl) (by kernel_rfl) (fun _ _ _ h => h) (Or.inl ⟨by rfl, ?hy49⟩) hHeld ?rest49
      case hy49 =>
        intro w' hSw
        try dsimp only at hSw
        go_simp
        first | done | with_reducible rfl
      try simp only [Act.put, List.getElem_toArray, List.getElem_cons_succ, List.getElem_cons_zero, List.setIfInBounds_toArray, List.set_cons_zero, List.set_cons_succ]
      refine wpAnyH_take (i := 34) rfl (by kernel_rfl) (by kernel_rfl) (by kernel_rfl) (fun _ _ _ h => h) (yieldsIf_load_mid (by rfl) 28 (.tmp 5) (by rfl) (w.heap.size + 1) 0 (by rfl) h.cs _ (fun w' hSw => Blk.rangeAt (l := h.cs) hSw.2.2.1) Try.underlying28 rfl (size23 _)) hHeld ?_
      try simp only [Act.put, List.getElem_toArray, List.getElem_cons_succ, List.getElem_cons_zero, List.setIfInBounds_toArray, List.set_cons_zero, List.set_cons_succ]
      refine wpAnyH_ready (rs := [35]) (by kernel_rfl) (by simp) ?_
      refine AllReadyH.cons (by rfl) (fun K hK => ?_) AllReadyH.nil
      go_simp
      refine (hwrite_nil n h _).mono ?_
      rintro e w35 ⟨rfl, hb⟩
      have BO := Lib.hid (BO.out.below hb)
      have HC := Lib.hid (HC.out.below hb HC.out.lt)
      have HG := Lib.hid (HG.out.below hb HG.out.lt)
      have HL := Lib.hid (HL.out.trans (hb.mono HL.out.size))
      clear hb hHeld
      go_wp2_with fail
      refine hK.out _ _ (⟨(HG.out.cell 1).trans rfl, (HG.out.cell 2).trans rfl, HC.out, HG.out⟩) (fun hHeld => ?_)
      clear hK K
      try simp only [Act.put, List.getElem_toArray, List.getElem_cons_succ, List.getElem_cons_zero, List.setIfInBounds_toArray, List.set_cons_zero, List.set_cons_succ]
      refine wpAnyH_ready (rs := [36]) (by kernel_rfl) (by simp) ?_
      refine AllReadyH.cons (by rfl) (fun K hK => ?_) AllReadyH.nil
      go_simp
      refine (num8_any _ _).mono ?_
      rintro e y1 ⟨rfl, rfl⟩
      clear hHeld
      refine hK.out _ _ (⟨(HG.out.cell 1).trans rfl, (HG.out.cell 2).trans rfl, HC.out, HG.out⟩) (fun hHeld => ?_)
      clear hK K
      try simp only [Act.put, List.getElem_toArray, List.getElem_cons_succ, List.getElem_cons_zero, List.setIfInBounds_toArray, List.set_cons_zero, List.set_cons_succ]
      refine wpAnyH_take (i := 37) (v := ?v50) rfl (by kernel_rfl) (by kernel_rfl) (by kernel_rfl) (fun _ _ _ h => h) (Or.inl ⟨by rfl, ?hy50⟩) hHeld ?rest50
      case hy50 =>
        intro w' hSw
        try dsimp only at hSw
        go_simp
        first | done | with_reducible rfl
      try simp only [Act.put, List.getElem_toArray, List.getElem_cons_succ, List.getElem_cons_zero, List.setIfInBounds_toArray, List.set_cons_zero, List.set_cons_succ]
      refine wpAnyH_take (i := 38) (v := ?v51) rfl (by kernel_rfl) (by kernel_rfl) (by kernel_rfl) (fun _ _ _ h => h) (Or.inl ⟨by rfl, ?hy51⟩) hHeld ?rest51
      case hy51 =>
        intro w' hSw
        try dsimp only at hSw
        go_simp
        first | done | with_reducible rfl
      try simp only [Act.put, List.getElem_toArray, List.getElem_cons_succ, List.getElem_cons_zero, List.setIfInBounds_toArray, List.set_cons_zero, List.set_cons_succ]
      refine wpAnyH_take (i := 39) (v := ?v52) rfl (by kernel_rfl) (by kernel_rfl) (by kernel_rfl) (fun _ _ _ h => h) (Or.inl ⟨by rfl, ?hy52⟩) hHeld ?rest52
      case hy52 =>
        intro w' hSw
        try dsimp only at hSw
        go_simp
        first | done | with_reducible rfl
      try simp only [Act.put, List.getElem_toArray, List.getElem_cons_succ, List.getElem_cons_zero, List.setIfInBounds_toArray, List.set_cons_zero, List.set_cons_succ]
      refine wpAnyH_ready (rs := [40]) (by kernel_rfl) (by simp) ?_
      refine AllReadyH.cons (by rfl) (fun K hK => ?_) AllReadyH.nil
      go_simp
      refine (works8_any _).mono ?_
      rintro e w40 ⟨rfl, hb⟩
      have BO := Lib.hid (BO.out.below hb)
      have HC := Lib.hid (HC.out.below hb HC.out.lt)
      have HG := Lib.hid (HG.out.below hb HG.out.lt)
      have HL := Lib.hid (HL.out.trans (hb.mono HL.out.size))
      clear hb hHeld
      go_wp2_with fail
      refine hK.out _ _ (⟨(HG.out.cell 1).trans rfl, (HG.out.cell 2).trans rfl, HC.out, HG.out⟩) (fun hHeld => ?_)
      clear hK K
      try simp only [Act.put, List.getElem_toArray, List.getElem_cons_succ, List.getElem_cons_zero, List.setIfInBounds_toArray, List.set_cons_zero, List.set_cons_succ]
      refine wpAnyH_take (i := 41) (v := ?v53) rfl (by kernel_rfl) (by kernel_rfl) (by kernel_rfl) (fun _ _ _ h => h) (Or.inl ⟨by rfl, ?hy53⟩) hHeld ?rest53
      case hy53 =>
        intro w' hSw
        try dsimp only at hSw
        go_simp
        first | done | with_reducible rfl
      try simp only [Act.put, List.getElem_toArray, List.getElem_cons_succ, List.getElem_cons_zero, List.setIfInBounds_toArray, List.set_cons_zero, List.set_cons_succ]
      refine wpAnyH_take (i := 42) (v := ?v54) rfl (by kernel_rfl) (by kernel_rfl) (by kernel_rfl) (fun _ _ _ h => h) (Or.inl ⟨by rfl, ?hy54⟩) hHeld ?rest54
      case hy54 =>
        intro w' hSw
        try dsimp only at hSw
        go_simp
        first | done | with_reducible rfl
      try simp only [Act.put, List.getElem_toArray, List.getElem_cons_succ, List.getElem_cons_zero, List.setIfInBounds_toArray, List.set_cons_zero, List.set_cons_succ]
      refine wpAnyH_done (by kernel_rfl) ?_ _
      refine OnlyN.normal ?_
      try clear hHeld
      go_wp2
      go_ret
      exact ⟨rfl, HL.out⟩
    · have s2 := str_run8 (c := cR) HLR.out RR.out
      go_simp
      clear s2 hHeld
      go_wp2_with fail
      refine hK.out _ _ (⟨(HG.out.cell 1).trans rfl, (HG.out.cell 2).trans rfl, HC.out, HG.out⟩) (fun hHeld => ?_)
      clear hK K
      try simp only [Act.put, List.getElem_toArray, List.getElem_cons_succ, List.getElem_cons_zero, List.setIfInBounds_toArray, List.set_cons_zero, List.set_cons_succ]
      refine wpAnyH_ready (rs := [10]) (by kernel_rfl) (by simp) ?_
      refine AllReadyH.cons (by rfl) (fun K hK => ?_) AllReadyH.nil
      have s1 := str_run8 (c := cB) HLB.out RB.out
      go_simp
      clear s1 hHeld
      go_wp2_with fail
      refine hK.out _ _ (⟨(HG.out.cell 1).trans rfl, (HG.out.cell 2).trans rfl, HC.out, HG.out⟩) (fun hHeld => ?_)
      clear hK K
      try simp only [Act.put, List.getElem_toArray, List.getElem_cons_succ, List.getElem_cons_zero, List.setIfInBounds_toArray, List.set_cons_zero, List.set_cons_succ]
      refine wpAnyH_take (i := 14) (v := ?v55) rfl (by kernel_rfl) (by kernel_rfl) (by kernel_rfl) (fun _ _ _ h => h) (Or.inl ⟨by rfl, ?hy55⟩) hHeld ?rest55
      case hy55 =>
        intro w' hSw
        try dsimp only at hSw
        go_simp
        first | done | with_reducible rfl
      try simp only [Act.put, List.getElem_toArray, List.getElem_cons_succ, List.getElem_cons_zero, List.setIfInBounds_toArray, List.set_cons_zero, List.set_cons_succ]
      refine wpAnyH_take (i := 15) (v := ?v56) rfl (by kernel_rfl) (by kernel_rfl) (by kernel_rfl) (fun _ _ _ h => h) (Or.inl ⟨by rfl, ?hy56⟩) hHeld ?rest56
      case hy56 =>
        intro w' hSw
        try dsimp only at hSw
        go_simp
        first | done | with_reducible rfl
      try simp only [Act.put, List.getElem_toArray, List.getElem_cons_succ, List.getElem_cons_zero, List.setIfInBounds_toArray, List.set_cons_zero, List.set_cons_succ]
      refine wpAnyH_take (i := 16) (v := ?v57) rfl (by kernel_rfl) (by kernel_rfl) (by kernel_rfl) (fun _ _ _ h => h) (Or.inl ⟨by rfl, ?hy57⟩) hHeld ?rest57
      case hy57 =>
        intro w' hSw
        try dsimp only at hSw
        go_simp
        first | done | with_reducible rfl
      try simp only [Act.put, List.getElem_toArray, List.getElem_cons_succ, List.getElem_cons_zero, List.setIfInBounds_toArray, List.set_cons_zero, List.set_cons_succ]
      refine wpAnyH_take (i := 17) (v := ?v58) rfl (by kernel_rfl) (by kernel_rfl) (by kernel_rfl) (fun _ _ _ h => h) (Or.inl ⟨by rfl, ?hy58⟩) hHeld ?rest58
      case hy58 =>
        intro w' hSw
        try dsimp only at hSw
        go_simp
        first | done | with_reducible rfl
      try simp only [Act.put, List.getElem_toArray, List.getElem_cons_succ, List.getElem_cons_zero, List.setIfInBounds_toArray, List.set_cons_zero, List.set_cons_succ]
      refine wpAnyH_take (i := 19) (v := ?v59) rfl (by kernel_rfl) (by kernel_rfl) (by kernel_rfl) (fun _ _ _ h => h) (Or.inl ⟨by rfl, ?hy59⟩) hHeld ?rest59
      case hy59 =>
        intro w' hSw
        try dsimp only at hSw
        go_simp
        first | done | with_reducible rfl
      try simp only [Act.put, List.getElem_toArray, List.getElem_cons_succ, List.getElem_cons_zero, List.setIfInBounds_toArray, List.set_cons_zero, List.set_cons_succ]
      refine wpAnyH_take (i := 20) (v := ?v60) rfl (by kernel_rfl) (by kernel_rfl) (by kernel_rfl) (fun _ _ _ h => h) (Or.inl ⟨by rfl, ?hy60⟩) hHeld ?rest60
      case hy60 =>
        intro w' hSw
        try dsimp only at hSw
        go_simp
        first | done | with_reducible rfl
      try simp only [Act.put, List.getElem_toArray, List.getElem_cons_succ, List.getElem_cons_zero, List.setIfInBounds_toArray, List.set_cons_zero, List.set_cons_succ]
      refine wpAnyH_ready (rs := [18]) (by kernel_rfl) (by simp) ?_
      refine AllReadyH.cons (by rfl) (fun K hK => ?_) AllReadyH.nil
      go_simp
      refine (steps_at BO.out.da).mono ?_
      rw [HST.out]
      rintro e y1 ⟨rfl, rfl⟩
      clear hHeld
      go_wp2_with fail
      refine hK.out _ _ (⟨(HG.out.cell 1).trans rfl, (HG.out.cell 2).trans rfl, HC.out, HG.out⟩) (fun hHeld => ?_)
      clear hK K
      try simp only [Act.put, List.getElem_toArray, List.getElem_cons_succ, List.getElem_cons_zero, List.setIfInBounds_toArray, List.set_cons_zero, List.set_cons_succ]
      refine wpAnyH_take (i := 21) (v := ?v61) rfl (by kernel_rfl) (by kernel_rfl) (by kernel_rfl) (fun _ _ _ h => h) (Or.inl ⟨by rfl, ?hy61⟩) hHeld ?rest61
      case hy61 =>
        intro w' hSw
        try dsimp only at hSw
        go_simp
        first | done | with_reducible rfl
      try simp only [Act.put, List.getElem_toArray, List.getElem_cons_succ, List.getElem_cons_zero, List.setIfInBounds_toArray, List.set_cons_zero, List.set_cons_succ]
      refine wpAnyH_take (i := 22) (v := ?v62) rfl (by kernel_rfl) (by kernel_rfl) (by kernel_rfl) (fun _ _ _ h => h) (Or.inl ⟨by rfl, ?hy62⟩) hHeld ?rest62
      case hy62 =>
        intro w' hSw
        try dsimp only at hSw
        go_simp
        first | done | with_reducible rfl
      try simp only [Act.put, List.getElem_toArray, List.getElem_cons_succ, List.getElem_cons_zero, List.setIfInBounds_toArray, List.set_cons_zero, List.set_cons_succ]
      refine wpAnyH_take (i := 23) (v := ?v63) rfl (by kernel_rfl) (by kernel_rfl) (by kernel_rfl) (fun _ _ _ h => h) (Or.inl ⟨by rfl, ?hy63⟩) hHeld ?rest63
      case hy63 =>
        intro w' hSw
        try dsimp only at hSw
        go_simp
        first | done | with_reducible rfl
      try simp only [Act.put, List.getElem_toArray, List.getElem_cons_succ, List.getElem_cons_zero, List.setIfInBounds_toArray, List.set_cons_zero, List.set_cons_succ]
      refine wpAnyH_take (i := 24) (v := ?v64) rfl (by kernel_rfl) (by kernel_rfl) (by kernel_rfl) (fun _ _ _ h => h) (Or.inl ⟨by rfl, ?hy64⟩) hHeld ?rest64
      case hy64 =>
        intro w' hSw
        try dsimp only at hSw
        go_simp
        first | done | with_reducible rfl
      try simp only [Act.put, List.getElem_toArray, List.getElem_cons_succ, List.getElem_cons_zero, List.setIfInBounds_toArray, List.set_cons_zero, List.set_cons_succ]
      refine wpAnyH_take (i := 27) (v := ?v65) rfl (by kernel_rfl) (by kernel_rfl) (by kernel_rfl) (fun _ _ _ h => h) (Or.inl ⟨by rfl, ?hy65⟩) hHeld ?rest65
      case hy65 =>
        intro w' hSw
        try dsimp only at hSw
        go_simp
        first | done | with_reducible rfl
      try simp only [Act.put, List.getElem_toArray, List.getElem_cons_succ, List.getElem_cons_zero, List.setIfInBounds_toArray, List.set_cons_zero, List.set_cons_succ]
      refine wpAnyH_take (i := 28) (v := ?v66) rfl (by kernel_rfl) (by kernel_rfl) (by kernel_rfl) (fun _ _ _ h => h) (Or.inl ⟨by rfl, ?hy66⟩) hHeld ?rest66
      case hy66 =>
        intro w' hSw
        try dsimp only at hSw
        go_simp
        first | done | with_reducible rfl
      try simp only [Act.put, List.getElem_toArray, List.getElem_cons_succ, List.getElem_cons_zero, List.setIfInBounds_toArray, List.set_cons_zero, List.set_cons_succ]
      refine wpAnyH_take (i := 29) (v := ?v67) rfl (by kernel_rfl) (by kernel_rfl) (by kernel_rfl) (fun _ _ _ h => h) (Or.inl ⟨by rfl, ?hy67⟩) hHeld ?rest67
      case hy67 =>
        intro w' hSw
        try dsimp only at hSw
        go_simp
        first | done | with_reducible rfl
      try simp only [Act.put, List.getElem_toArray, List.getElem_cons_succ, List.getElem_cons_zero, List.setIfInBounds_toArray, List.set_cons_zero, List.set_cons_succ]
      refine wpAnyH_ready (rs := [25]) (by kernel_rfl) (by simp) ?_
      refine AllReadyH.cons (by rfl) (fun K hK => ?_) AllReadyH.nil
      go_simp
      refine (waits_at BO.out.da HNW.out).mono ?_
      rintro e w9 ⟨v, rfl, hown, hb⟩
      obtain ⟨AW, cW, rfl⟩ := own_shape hown
      have BO := Lib.hid (BO.out.below hb)
      have HC := Lib.hid (HC.out.below hb HC.out.lt)
      have HG := Lib.hid (HG.out.below hb HG.out.lt)
      have HL := Lib.hid (HL.out.trans (hb.mono HL.out.size))
      clear hown hb hHeld
      go_wp2_with fail
      refine hK.out _ _ (⟨(HG.out.cell 1).trans rfl, (HG.out.cell 2).trans rfl, HC.out, HG.out⟩) (fun hHeld => ?_)
      clear hK K
      try simp only [Act.put, List.getElem_toArray, List.getElem_cons_succ, List.getElem_cons_zero, List.setIfInBounds_toArray, List.set_cons_zero, List.set_cons_succ]
      refine wpAnyH_take (i := 26) (v := ?v68) rfl (by kernel_rfl) (by kernel_rfl) (by kernel_rfl) (fun _ _ _ h => h) (Or.inl ⟨by rfl, ?hy68⟩) hHeld ?rest68
      case hy68 =>
        intro w' hSw
        try dsimp only at hSw
        go_simp
        first | done | with_reducible rfl
      try simp only [Act.put, List.getElem_toArray, List.getElem_cons_succ, List.getElem_cons_zero, List.setIfInBounds_toArray, List.set_cons_zero, List.set_cons_succ]
      refine wpAnyH_take (i := 30) (v := ?v69) rfl (by kernel_rfl) (by kernel_rfl) (by kernel_rfl) (fun _ _ _ h => h) (Or.inl ⟨by rfl, ?hy69⟩) hHeld ?rest69
      case hy69 =>
        intro w' hSw
        try dsimp only at hSw
        go_simp
        first | done | with_reducible rfl
      try simp only [Act.put, List.getElem_toArray, List.getElem_cons_succ, List.getElem_cons_zero, List.setIfInBounds_toArray, List.set_cons_zero, List.set_cons_succ]
      refine wpAnyH_take (i := 31) (v := ?v70) rfl (by kernel_rfl) (by kernel_rfl) (by kernel_rfl) (fun _ _ _ h => h) (Or.inl ⟨by rfl, ?hy70⟩) hHeld ?rest70
      case hy70 =>
        intro w' hSw
        try dsimp only at hSw
        go_simp
        first | done | with_reducible rfl
      try simp only [Act.put, List.getElem_toArray, List.getElem_cons_succ, List.getElem_cons_zero, List.setIfInBounds_toArray, List.set_cons_zero, List.set_cons_succ]
      refine wpAnyH_take (i := 32) (v := ?v71) rfl (by kernel_rfl) (by kernel_rfl) (by kernel_rfl) (fun _ _ _ h => h) (Or.inl ⟨by rfl, ?hy71⟩) hHeld ?rest71
      case hy71 =>
        intro w' hSw
        try dsimp only at hSw
        go_simp
        first | done | with_reducible rfl
      try simp only [Act.put, List.getElem_toArray, List.getElem_cons_succ, List.getElem_cons_zero, List.setIfInBounds_toArray, List.set_cons_zero, List.set_cons_succ]
      refine wpAnyH_take (i := 33) (v := ?v72) rfl (by kernel_rfl) (by kernel_rfl) (by kernel_rfl) (fun _ _ _ h => h) (Or.inl ⟨by rfl, ?hy72⟩) hHeld ?rest72
      case hy72 =>
        intro w' hSw
        try dsimp only at hSw
        go_simp
        first | done | with_reducible rfl
      try simp only [Act.put, List.getElem_toArray, List.getElem_cons_succ, List.getElem_cons_zero, List.setIfInBounds_toArray, List.set_cons_zero, List.set_cons_succ]
      refine wpAnyH_take (i := 34) rfl (by kernel_rfl) (by kernel_rfl) (by kernel_rfl) (fun _ _ _ h => h) (yieldsIf_load_mid (by rfl) 28 (.tmp 5) (by rfl) (w.heap.size + 1) 0 (by rfl) h.cs _ (fun w' hSw => Blk.rangeAt (l := h.cs) hSw.2.2.1) Try.underlying28 rfl (size23 _)) hHeld ?_
      try simp only [Act.put, List.getElem_toArray, List.getElem_cons_succ, List.getElem_cons_zero, List.setIfInBounds_toArray, List.set_cons_zero, List.set_cons_succ]
      refine wpAnyH_ready (rs := [35]) (by kernel_rfl) (by simp) ?_
      refine AllReadyH.cons (by rfl) (fun K hK => ?_) AllReadyH.nil
      go_simp
      refine (hwrite_nil n h _).mono ?_
      rintro e w35 ⟨rfl, hb⟩
      have BO := Lib.hid (BO.out.below hb)
      have HC := Lib.hid (HC.out.below hb HC.out.lt)
      have HG := Lib.hid (HG.out.below hb HG.out.lt)
      have HL := Lib.hid (HL.out.trans (hb.mono HL.out.size))
      clear hb hHeld
      go_wp2_with fail
      refine hK.out _ _ (⟨(HG.out.cell 1).trans rfl, (HG.out.cell 2).trans rfl, HC.out, HG.out⟩) (fun hHeld => ?_)
      clear hK K
      try simp only [Act.put, List.getElem_toArray, List.getElem_cons_succ, List.getElem_cons_zero, List.setIfInBounds_toArray, List.set_cons_zero, List.set_cons_succ]
      refine wpAnyH_ready (rs := [36]) (by kernel_rfl) (by simp) ?_
      refine AllReadyH.cons (by rfl) (fun K hK => ?_) AllReadyH.nil
      go_simp
      refine (num8_any _ _).mono ?_
      rintro e y1 ⟨rfl, rfl⟩
      clear hHeld
      refine hK.out _ _ (⟨(HG.out.cell 1).trans rfl, (HG.out.cell 2).trans rfl, HC.out, HG.out⟩) (fun hHeld => ?_)
      clear hK K
      try simp only [Act.put, List.getElem_toArray, List.getElem_cons_succ, List.getElem_cons_zero, List.setIfInBounds_toArray, List.set_cons_zero, List.set_cons_succ]
      refine wpAnyH_take (i := 37) (v := ?v73) rfl (by kernel_rfl) (by kernel_rfl) (by kernel_rfl) (fun _ _ _ h => h) (Or.inl ⟨by rfl, ?hy73⟩) hHeld ?rest73
      case hy73 =>
        intro w' hSw
        try dsimp only at hSw
        go_simp
        first | done | with_reducible rfl
      try simp only [Act.put, List.getElem_toArray, List.getElem_cons_succ, List.getElem_cons_zero, List.setIfInBounds_toArray, List.set_cons_zero, List.set_cons_succ]
      refine wpAnyH_take (i := 38) (v := ?v74) rfl (by kernel_rfl) (by kernel_rfl) (by kernel_rfl) (fun _ _ _ h => h) (Or.inl ⟨by rfl, ?hy74⟩) hHeld ?rest74
      case hy74 =>
        intro w' hSw
        try dsimp only at hSw
        go_simp
        first | done | with_reducible rfl
      try simp only [Act.put, List.getElem_toArray, List.getElem_cons_succ, List.getElem_cons_zero, List.setIfInBounds_toArray, List.set_cons_zero, List.set_cons_succ]
      refine wpAnyH_take (i := 39) (v := ?v75) rfl (by kernel_rfl) (by kernel_rfl) (by kernel_rfl) (fun _ _ _ h => h) (Or.inl ⟨by rfl, ?hy75⟩) hHeld ?rest75
      case hy75 =>
        intro w' hSw
        try dsimp only at hSw
        go_simp
        first | done | with_reducible rfl
      try simp only [Act.put, List.getElem_toArray, List.getElem_cons_succ, List.getElem_cons_zero, List.setIfInBounds_toArray, List.set_cons_zero, List.set_cons_succ]
      refine wpAnyH_ready (rs := [40]) (by kernel_rfl) (by simp) ?_
      refine AllReadyH.cons (by rfl) (fun K hK => ?_) AllReadyH.nil
      go_simp
      refine (works8_any _).mono ?_
      rintro e w40 ⟨rfl, hb⟩
      have BO := Lib.hid (BO.out.below hb)
      have HC := Lib.hid (HC.out.below hb HC.out.lt)
      have HG := Lib.hid (HG.out.below hb HG.out.lt)
      have HL := Lib.hid (HL.out.trans (hb.mono HL.out.size))
      clear hb hHeld
      go_wp2_with fail
      refine hK.out _ _ (⟨(HG.out.cell 1).trans rfl, (HG.out.cell 2).trans rfl, HC.out, HG.out⟩) (fun hHeld => ?_)
      clear hK K
      try simp only [Act.put, List.getElem_toArray, List.getElem_cons_succ, List.getElem_cons_zero, List.setIfInBounds_toArray, List.set_cons_zero, List.set_cons_succ]
      refine wpAnyH_take (i := 41) (v := ?v76) rfl (by kernel_rfl) (by kernel_rfl) (by kernel_rfl) (fun _ _ _ h => h) (Or.inl ⟨by rfl, ?hy76⟩) hHeld ?rest76
      case hy76 =>
        intro w' hSw
        try dsimp only at hSw
        go_simp
        first | done | with_reducible rfl
      try simp only [Act.put, List.getElem_toArray, List.getElem_cons_succ, List.getElem_cons_zero, List.setIfInBounds_toArray, List.set_cons_zero, List.set_cons_succ]
      refine wpAnyH_take (i := 42) (v := ?v77) rfl (by kernel_rfl) (by kernel_rfl) (by kernel_rfl) (fun _ _ _ h => h) (Or.inl ⟨by rfl, ?hy77⟩) hHeld ?rest77
      case hy77 =>
        intro w' hSw
        try dsimp only at hSw
        go_simp
        first | done | with_reducible rfl
      try simp only [Act.put, List.getElem_toArray, List.getElem_cons_succ, List.getElem_cons_zero, List.setIfInBounds_toArray, List.set_cons_zero, List.set_cons_succ]
      refine wpAnyH_done (by kernel_rfl) ?_ _
      refine OnlyN.normal ?_
      try clear hHeld
      go_wp2
      go_ret
      exact ⟨rfl, HL.out⟩
set_option maxRecDepth 8000 in
theorem walk (w : World) (x : Ds) (h0 : ∃ l : List UInt8, l.length = x.n0 ∧ Rd w x.A0 l) (h1 : ∃ l : List UInt8, l.length = x.n1 ∧ Rd w x.A1 l) (h2 : ∃ l : List Int, l.length = x.n2 ∧ RdI w x.A2 l ∧ ∀ n ∈ l, n ≤ 9223372036854775807) (n : Int) (h : Hd) (he : h.e ≤ 9223372036854775807) : Calls Try.prog 3 #[x.val, .int .i64 n, h.val] w fun e w' => e = .returned (.bool true) ∧ Below w.heap.size w w' := by
  by_cases hx : x.ok
  · obtain ⟨s, A0, n0, c0, A1, n1, c1, A2, n2, c2⟩ := x
    obtain ⟨l0, e0, r0⟩ := h0
    obtain ⟨l1, e1, r1⟩ := h1
    obtain ⟨lf, e2, r2, rwf⟩ := h2
    simp only at e0 e1 e2 r0 r1 r2
    subst e2
    obtain ⟨z, rfl⟩ := Int.eq_ofNat_of_zero_le (show 0 ≤ s by have := hx.1; simp only at this; omega)
    exact walk_in8 w z A0 n0 c0 A1 n1 c1 A2 c2 l0 l1 lf n h he hx e0 e1 r0 r1 r2 rwf
  · exact walk_no w x n h hx
set_option maxRecDepth 100000 in
theorem lifted (os : Os) (started : os.Started) (H : Type) (enc : TypeId × Value → H) :
    ReturnsInHanded {} Try.checked os 3 .any (Rows.headersWritesSpec.pre6 enc Try.prog Try.f3 Rows.headersWritesRow.domain false) (Rows.headersWritesSpec.post enc Try.prog Try.f3 false true false false) := by
  refine returnsInHanded_of_change_sized (C := Try.checked) own started (by kernel_rfl) Try.func3
    (ChangeSpec.witness6 (enc := enc) (C := Try.checked) false ⟨#[], #[.agg #[.int .i64 0, .slice none 0 0, .slice none 0 0, .slice none 0 0], .int .i64 0, .agg #[.int .i64 0, .int .i64 0, .int .i64 0]], []⟩ 8 (by kernel_rfl) (by kernel_rfl) (by kernel_rfl) (by kernel_rfl)) ?_
  intro W base args ds gs before hval0 hW hcnd hsz _
  have hval : ∀ (j : Nat) t v, Try.f3.params[j]? = some t → args[j]? = some v → Value.okWide Try.prog W .any base t v := hval0
  have hW' := hW
  obtain ⟨p, q, hA0, hV, rfl, hfz, hnd⟩ := hW
  have hA : DataW.TrodAll enc Try.prog W 0 (fun _ => true) true Try.f3.params.toList args.toList ds p := hA0
  rw [Try.params3] at hA hval hsz
  obtain ⟨v0, vs0, d0, ds0, p0, q0, hargs, rfl, rfl, h0, t0⟩ := trodAll_cons hA
  obtain ⟨v1, vs1, d1, ds1, p1, q1, rfl, rfl, rfl, h1, t1⟩ := trodAll_cons t0
  obtain ⟨v2, vs2, d2, ds2, p2, q2, rfl, rfl, rfl, h2, t2⟩ := trodAll_cons t1
  obtain ⟨rfl, rfl, rfl⟩ := trodAll_nil t2
  obtain rfl : args = #[v0, v1, v2] := by cases args; simp_all
  obtain ⟨rfl, rfl⟩ := trodVars_none hV
  have k0 := h0
  have lt0 : ∀ x ∈ p0, x.block < W.heap.size := by obtain ⟨m, hm⟩ := k0; exact DataW.trod_lt m _ _ _ hm
  obtain ⟨x0, rfl, ha0, hb0, hc0⟩ := open_ds (hval 0 26 v0 rfl rfl) h0
  have k1 := h1
  have lt1 : ∀ x ∈ p1, x.block < W.heap.size := by obtain ⟨m, hm⟩ := k1; exact DataW.trod_lt m _ _ _ hm
  obtain ⟨a1, rfl, rfl, rfl, f1⟩ := open_int Try.underlying3 (hval 1 3 v1 rfl rfl) h1
  have k2 := h2
  have lt2 : ∀ x ∈ p2, x.block < W.heap.size := by obtain ⟨m, hm⟩ := k2; exact DataW.trod_lt m _ _ _ hm
  obtain ⟨x2, rfl, hx2⟩ := open_hdr (hval 2 28 v2 rfl rfl) h2
  clear hA0 hval0
  refine (walk W x0 ha0 hb0 hc0 a1 x2 hx2).mono fun e W' ⟨he, bel⟩ => ?_
  subst he
  exact ⟨_, rfl, _, _, _, [], _, [], hW', trodAll_mk1 (shut_bool Try.underlying4 _), (trodAll_cons_mk (Below.trod laidOut (by kernel_rfl) (of_decide_eq_true (by kernel_rfl)) k0 bel lt0) (trodAll_cons_mk (shut_int Try.underlying3 f1) (trodAll_cons_mk (Below.trod laidOut (by kernel_rfl) (of_decide_eq_true (by kernel_rfl)) k2 bel lt2) trodAll_mk0))), rfl, bel.frame _, fun h => by cases h⟩
theorem over : Rows.headersWritesRow.holds Try.pinned (OpenSpec.ofChange Rows.headersWritesSpec) :=
  OpenClaim.holds_of_wide 3 Try.f3 rfl rfl rfl rfl rfl rfl rfl ⟨rfl, rfl, rfl, rfl, rfl⟩ rfl rfl rfl rfl rfl (by kernel_rfl) Try.func3 (by kernel_rfl)
    (of_decide_eq_true (by kernel_rfl)) (by unfold Func.isWrapper; first | (rw [if_pos (by decide +kernel)]; kernel_rfl) | (rw [if_neg (by decide +kernel)]; exact ⟨rfl, rfl⟩))
    (fun os started H enc _ => lifted os started H enc)
theorem proved : Rows.HeadersWritesSaid := over
end Go.Proofs.Ytcfkoglehjkkdaa.headersWrites

/- The law DiskSpoils returns true for every input: what is read of bytes that rot. No condition. -/
import Derived.Test.YtnmjfjejhcdjlaaQ21
import Derived.Test.YtnmjfjejhcdjlaaQ24
import Derived.Test.YtnmjfjejhcdjlaaQ15
import Derived.Test.YtnmjfjejhcdjlaaQ31
import Derived.Test.YtnmjfjejhcdjlaaQ10
import Derived.Test.YtnmjfjejhcdjlaaQ25
namespace Go.Proofs.Ytnmjfjejhcdjlaa.diskSpoils
open Go.ChangeShapes Go.WideShapes Go.ChangeAt Go.RowKit
attribute [local go_sem] Oper.semAt_some
attribute [local go_sem] run_store_bv run_store_wc run_store_bv_drew run_store_wc_drew
set_option maxRecDepth 100000 in
set_option maxHeartbeats 1000000 in
theorem wRf_ws (R : Rf) (s z : Nat) (n : Int) (l : List UInt8) (k : Nat) (h : R.ws.length ≤ k) : (wRf R s z n l).ws.length ≤ k + 1 := by
  unfold wRf
  split
  · omega
  · split
    · omega
    · simp; omega
set_option maxRecDepth 8000 in
theorem wSt_le (s z : Nat) (n : Int) : wSt s z n ≤ s + 1 := by
  unfold wSt
  split <;> omega
set_option maxRecDepth 8000 in
theorem bv_ones (S : List UInt8) : (bv S).toArray.all (fun x => x.oneCell') = true := by
  rw [Array.all_eq_true_iff_forall_mem]
  intro u hu
  exact bv_one S u (by simpa using hu)
set_option maxRecDepth 8000 in
theorem size28' {x : Ac} : (Try.prog.info? 28).map (·.size) = some x.cs.length := by kernel_rfl
theorem _root_.Go.Proofs.Ytnmjfjejhcdjlaa.Blk.rangeAt' {W : World} {g : Nat} {t : TypeId} {v0 v1 v2 v3 : Value} (h : Blk W g t #[v0, v1, v2, v3]) : W.rangeAt g 0 [v0, v1, v2, v3] := Blk.rangeAt (l := [v0, v1, v2, v3]) h
theorem fr_set (W : World) (b : Nat) (u : Value) : Fr (fun k => k = b) W (W.setCell ⟨b, 0, none⟩ u) := (Fr.refl (fun k => k = b) W).setCell (fun _ => rfl) u
/-- two stores into older blocks -/
theorem lw_two {w0 W : World} {B p : Nat} {pl : Pl} {D : Dk} {r : Rp} {R : Rf} {s z g : Nat} (h : Lw w0 B p pl D r R s z g W) (hB : w0.heap.size + 4 ≤ B) (hg : w0.heap.size + 1 < g) (hn : ∀ b, r.at_ R b → w0.heap.size + 2 ≤ b) (u v : Value) : Lw w0 B p pl D r R s z g ((W.setCell ⟨w0.heap.size, 0, none⟩ u).setCell ⟨w0.heap.size + 1, 0, none⟩ v) :=
  { h with
    bo := ((h.bo.far (g := w0.heap.size) (fr_set W _ u) (fun hk => by have := (h.bo.da.lt _ hk).2; omega) (fun hk => by have := hn _ hk; omega)).far (g := w0.heap.size + 1) (fr_set _ _ v) (fun hk => by have := (h.bo.da.lt _ hk).2; omega) (fun hk => by have := hn _ hk; omega))
    be := (h.be.setCell (Nat.le_refl _) u).setCell (by simp) v
    bg := (h.bg.far (by simp only; omega) u).far (by simp only; omega) v }
set_option maxRecDepth 100000 in
set_option maxHeartbeats 1000000 in
theorem walk_size (w : World) (s : Int) (A : Option Addr) (n c : Nat) (x y : Ac) (h : (s < 1 ∨ 12 < s) ∨ 3000 < n) :
    Calls Try.prog 5 #[.int .i64 s, .slice A n c, x.val, y.val] w fun e w' => e = .returned (.bool true) ∧ Below w.heap.size w w' := by
  have B0 := Lib.hid (((Below.refl w.heap.size w).alloc (Nat.le_refl _) (.cells x.cs.toArray 28)).alloc (by simp) (.cells y.cs.toArray 28))
  by_cases h0 : s < 1 ∨ 12 < s
  · clear h
    go_enter Try.func5, Try.ntmps5
    go_wp2_with (first
      | (go_at_call 8; refine (diskFails.small_no _ s h0).mono ?_; rintro e w' ⟨rfl, rfl⟩)
      | (go_at_call 9; refine (works_any _).mono ?_; rintro e w9 ⟨rfl, hb9⟩; have B9 := Lib.hid (B0.out.trans (hb9.mono B0.out.size)); clear hb9))
    go_ret
    exact ⟨rfl, B9.out⟩
  · obtain ⟨q, rfl⟩ : ∃ q : Nat, s = (q : Int) := ⟨s.toNat, by omega⟩
    have q1 : 1 ≤ q := by omega
    have q2 : q ≤ 12 := by omega
    have n1 : (3000 : Int) < (n : Int) := by omega
    clear h h0
    go_enter Try.func5, Try.ntmps5
    go_wp2_with (first
      | (go_at_call 8; refine (diskFails.small_yes _ q q1 q2).mono ?_; rintro e w' ⟨rfl, rfl⟩)
      | (go_at_call 9; refine (works_any _).mono ?_; rintro e w9 ⟨rfl, hb9⟩; have B9 := Lib.hid (B0.out.trans (hb9.mono B0.out.size)); clear hb9))
    go_ret
    exact ⟨rfl, B9.out⟩
set_option maxRecDepth 100000 in
set_option maxHeartbeats 8000000 in
theorem walk_main (w : World) (s : Nat) (s1 : 1 ≤ s) (s2 : s ≤ 12) (A : Option Addr) (n c : Nat) (l : List UInt8) (hn : l.length = n) (h3 : n ≤ 3000) (hr : Rd w A l) (x y : Ac) :
    Calls Try.prog 5 #[.int .i64 (s : Int), .slice A n c, x.val, y.val] w fun e w' => e = .returned (.bool true) ∧ Below w.heap.size w w' := by
  have hz := z43
  have hz47 := z47
  have n1 : ¬ (3000 : Int) < (n : Int) := by omega
  have B0 := Lib.hid (((Below.refl w.heap.size w).alloc (Nat.le_refl _) (.cells x.cs.toArray 28)).alloc (by simp) (.cells y.cs.toArray 28))
  have X0 := Lib.hid ((Blk.new w 28 x.cs.toArray).alloc (.cells y.cs.toArray 28))
  have Y0 := Lib.hid (show Blk ((w.alloc (.cells x.cs.toArray 28)).alloc (.cells y.cs.toArray 28)) (w.heap.size + 1) 28 y.cs.toArray from by have := Blk.new (w.alloc (.cells x.cs.toArray 28)) 28 y.cs.toArray; simpa using this)
  have R0 := Lib.hid ((hr.alloc (.cells x.cs.toArray 28)).alloc (.cells y.cs.toArray 28))
  have S0 := Lib.hid (show ((w.alloc (.cells x.cs.toArray 28)).alloc (.cells y.cs.toArray 28)).heap.size = w.heap.size + 2 by simp)
  have HN := Lib.hid hn
  have H3 := Lib.hid h3
  clear hn h3 hr
  go_enter Try.func5, Try.ntmps5
  go_wp2_with (go_at_call 8; refine (diskFails.small_yes _ s s1 s2).mono ?_; rintro e w' ⟨rfl, rfl⟩)
  generalize (w.alloc (.cells x.cs.toArray 28)).alloc (.cells y.cs.toArray 28) = w1 at B0 X0 Y0 R0 S0 ⊢
  refine (begun_any w1 s s1 s2 A n c l HN.out H3.out R0.out).mono ?_
  rintro e w2 ⟨p, pl, rfl, da, bg, hb⟩
  obtain ⟨q, hq⟩ : ∃ q : Rp, q = ⟨some ⟨w1.heap.size + 1, 0, none⟩, s * 512, s * 512, none, 0, 0, none, 0, 0⟩ := ⟨_, rfl⟩
  have BO0 := Lib.hid (bo_begun da bg s1 s2)
  rw [← hq] at BO0 ⊢
  have hq0 := hq
  clear hq
  obtain ⟨R, hR⟩ : ∃ R : Rf, R = ⟨begB l (s * 512), [], []⟩ := ⟨_, rfl⟩
  have RW := Lib.hid (show R.ws = [] by rw [hR])
  rw [← hR] at BO0
  have NAT := Lib.hid (show ∀ b, q.at_ R b → w.heap.size + 2 ≤ b from by rw [hR, hq0]; rintro b ⟨off, ⟨e, _⟩ | ⟨e, _⟩ | ⟨e, _⟩⟩ <;> first | (injection e with e; injection e with e1 _; have := S0.out; omega) | cases e)
  generalize ofD (begB l (s * 512)) s s = D at BO0
  clear hR hq0
  have G2 := Lib.hid (show w.heap.size + 2 ≤ w2.heap.size by have := hb.size; have := S0.out; omega)
  have LX := Lib.hid (((X0.out.below hb X0.out.lt).alloc (.cells #[.slice q.A1 q.n1 q.c1, .slice q.A2 q.n2 q.c2, .int .i64 0, .slice q.A3 q.n3 q.c3] 34)))
  have LY := Lib.hid (((Y0.out.below hb Y0.out.lt).alloc (.cells #[.slice q.A1 q.n1 q.c1, .slice q.A2 q.n2 q.c2, .int .i64 0, .slice q.A3 q.n3 q.c3] 34)))
  have L0 := Lib.hid (show Lw w (w1.heap.size + 2) p pl D q R 0 s w2.heap.size (w2.alloc (.cells #[.slice q.A1 q.n1 q.c1, .slice q.A2 q.n2 q.c2, .int .i64 0, .slice q.A3 q.n3 q.c3] 34)) from {
    bo := BO0.out.alloc _
    be := (B0.out.trans (hb.mono (by have := S0.out; omega))).alloc (by have := G2.out; omega) _
    bg := Blk.new w2 _ _
    ng := fun hk => by have := (BO0.out.da.lt _ hk).1; omega
    nr := fun hk => by have := BO0.out.rf.lt hk; omega
    b0 := by have := S0.out; omega
    g0 := by have := G2.out; omega })
  have SB := Lib.hid (show w.heap.size + 4 ≤ w1.heap.size + 2 by have := S0.out; omega)
  have SG := Lib.hid (show (w2.alloc (.cells #[.slice q.A1 q.n1 q.c1, .slice q.A2 q.n2 q.c2, .int .i64 0, .slice q.A3 q.n3 q.c3] 34)).heap.size = w2.heap.size + 1 by simp)
  clear da bg hb X0 Y0 R0 B0 BO0
  have c0 := (LX.out.cell 0).trans (show _ = some (.int .i64 x.what) from rfl)
  have c1 := (LY.out.cell 0).trans (show _ = some (.int .i64 y.what) from rfl)
  have f0 := LX.out.frozen 0
  have f1 := LY.out.frozen 0
  obtain ⟨x1, hx1⟩ : ∃ x1 : Ac, x1 = { x with what := 1 } := ⟨_, rfl⟩
  obtain ⟨y1, hy1⟩ : ∃ y1 : Ac, y1 = { y with what := 4 } := ⟨_, rfl⟩
  have X1 := Lib.hid (show Blk (((w2.alloc (.cells #[.slice q.A1 q.n1 q.c1, .slice q.A2 q.n2 q.c2, .int .i64 0, .slice q.A3 q.n3 q.c3] 34)).setCell ⟨w.heap.size, 0, none⟩ (.int .i64 1)).setCell ⟨w.heap.size + 1, 0, none⟩ (.int .i64 4)) w.heap.size 28 x1.cs.toArray from by rw [hx1]; exact (LX.out.set_ 0 _).far (by simp) _)
  have Y1 := Lib.hid (show Blk (((w2.alloc (.cells #[.slice q.A1 q.n1 q.c1, .slice q.A2 q.n2 q.c2, .int .i64 0, .slice q.A3 q.n3 q.c3] 34)).setCell ⟨w.heap.size, 0, none⟩ (.int .i64 1)).setCell ⟨w.heap.size + 1, 0, none⟩ (.int .i64 4)) (w.heap.size + 1) 28 y1.cs.toArray from by rw [hy1]; exact (LY.out.far (by simp) _).set_ 0 _)
  have L1 := Lib.hid (lw_two L0.out SB.out (by have := G2.out; omega) NAT.out (.int .i64 1) (.int .i64 4))
  have HX1 := Lib.hid (show x1.what = 1 by rw [hx1])
  have HY1 := Lib.hid (show y1.what = 4 by rw [hy1])
  have hxs : (x1.cs).length = 8 := rfl
  clear hx1 hy1 LX LY L0
  go_wp2_with (first
    | (refine wpList_load_mid rfl 34 (.tmp 10) rfl w2.heap.size 0 rfl _ _ L1.out.bg.rangeAt' Try.underlying34 rfl size43 ?_)
    | (refine wpList_load_mid rfl 28 (.tmp 6) rfl w.heap.size 0 rfl x1.cs _ X1.out.rangeAt Try.underlying28 rfl size28' ?_))
  generalize ((w2.alloc (.cells #[.slice q.A1 q.n1 q.c1, .slice q.A2 q.n2 q.c2, .int .i64 0, .slice q.A3 q.n3 q.c3] 34)).setCell ⟨w.heap.size, 0, none⟩ (.int .i64 1)).setCell ⟨w.heap.size + 1, 0, none⟩ (.int .i64 4) = W3 at X1 Y1 L1 ⊢
  clear c0 c1 f0 f1 SG
  have NG := Lib.hid (show w.heap.size + 1 ≠ w2.heap.size by have := G2.out; omega)
  refine (act1_any L1.out.bo (by rw [RW.out]; exact Nat.lt_of_lt_of_le Nat.zero_lt_one (by omega)) (by omega) x1 HX1.out).mono ?_
  rintro e W4 ⟨pl1, D1, q1, rfl, bo1, f1, hpl1, hat1⟩
  have RW1 := Lib.hid (wRf_ws R 0 s x1.sector (fullL x1.byte) 0 (by rw [RW.out]; exact Nat.le_refl _))
  have SW1 := Lib.hid (wSt_le 0 s x1.sector)
  obtain ⟨R1, hR1⟩ : ∃ R1, R1 = wRf R 0 s x1.sector (fullL x1.byte) := ⟨_, rfl⟩
  obtain ⟨t1, ht1⟩ : ∃ t1, t1 = wSt 0 s x1.sector := ⟨_, rfl⟩
  rw [← hR1] at bo1 hat1 RW1
  rw [← ht1] at bo1 SW1 ⊢
  have J1 := Lib.hid (L1.out.kept f1)
  have L2 := Lib.hid (L1.out.stored bo1 f1 hpl1 hat1)
  have Y2 := Lib.hid (Blk.setRow_far (L1.out.blk Y1.out (by have := SB.out; omega) f1) NG.out #[.slice q1.A1 q1.n1 q1.c1, .slice q1.A2 q1.n2 q1.c2, .int .i64 (t1 : Int), .slice q1.A3 q1.n3 q1.c3])
  clear bo1 f1 hpl1 hat1 L1 X1 Y1 hR1 ht1
  go_wp2_with (first
    | (refine wpList_store_row rfl 34 (.tmp 10) (.tmp 38) rfl w2.heap.size #[.slice q1.A1 q1.n1 q1.c1, .slice q1.A2 q1.n2 q1.c2, .int .i64 (t1 : Int), .slice q1.A3 q1.n3 q1.c3] rfl rfl 34 _ J1.out (size43c _ _ _ _) rfl (one43 _ _ _ _ _ _ _ _ _ _) ?_)
    | (refine wpList_load_mid rfl 34 (.tmp 10) rfl w2.heap.size 0 rfl _ _ L2.out.bg.rangeAt' Try.underlying34 rfl size43 ?_)
    | (refine wpList_load_mid rfl 28 (.tmp 7) rfl (w.heap.size + 1) 0 rfl y1.cs _ Y2.out.rangeAt Try.underlying28 rfl size28' ?_))
  generalize W4.setRow w2.heap.size #[.slice q1.A1 q1.n1 q1.c1, .slice q1.A2 q1.n2 q1.c2, .int .i64 (t1 : Int), .slice q1.A3 q1.n3 q1.c3] = W5 at L2 Y2 ⊢
  clear J1
  refine (act4_any L2.out.bo y1 HY1.out).mono ?_
  rintro e W6 ⟨pl2, D2, q2, rfl, bo2, f2, hpl2, hat2⟩
  obtain ⟨R2, hR2⟩ : ∃ R2, R2 = spRf R1 s y1.sector y1.at_ y1.byte := ⟨_, rfl⟩
  rw [← hR2] at bo2 hat2
  have J2 := Lib.hid (L2.out.kept f2)
  have L3 := Lib.hid (L2.out.stored bo2 f2 hpl2 hat2)
  clear bo2 f2 hpl2 hat2 L2 Y2 hR2 RW RW1 SW1
  go_wp2_with (first
    | (refine wpList_store_row rfl 34 (.tmp 10) (.tmp 46) rfl w2.heap.size #[.slice q2.A1 q2.n1 q2.c1, .slice q2.A2 q2.n2 q2.c2, .int .i64 (t1 : Int), .slice q2.A3 q2.n3 q2.c3] rfl rfl 34 _ J2.out (size43c _ _ _ _) rfl (one43 _ _ _ _ _ _ _ _ _ _) ?_)
    | (refine wpList_yieldsD (S := fun w' => w'.rangeAt w2.heap.size 0 [.slice q2.A1 q2.n1 q2.c1, .slice q2.A2 q2.n2 q2.c2, .int .i64 (t1 : Int), .slice q2.A3 q2.n3 q2.c3]) (yieldsIf_load_mid (by rfl) 34 (.tmp 10) (by rfl) w2.heap.size 0 (by rfl) [.slice q2.A1 q2.n1 q2.c1, .slice q2.A2 q2.n2 q2.c2, .int .i64 (t1 : Int), .slice q2.A3 q2.n3 q2.c3] _ (fun w' hSw => hSw) Try.underlying34 rfl size43) L3.out.bg.rangeAt' ?_)
    | (go_at_call 15; refine (stands_any L3.out.bo.da L3.out.bo.rf L3.out.bo.al).mono ?_; rintro e Wb ⟨rfl, hbb⟩; have BB := Lib.hid (L3.out.be.trans (hbb.mono L3.out.be.size)); clear hbb)
    | (go_at_call 9; refine (works_any _).mono ?_; rintro e Wc ⟨rfl, hbc⟩; have BC := Lib.hid (BB.out.trans (hbc.mono BB.out.size)); clear hbc))
  go_ret
  exact ⟨rfl, BC.out⟩
set_option maxRecDepth 8000 in
theorem walk (w : World) (s : Int) (A : Option Addr) (n c : Nat) (l : List UInt8) (hn : l.length = n) (hr : Rd w A l) (x : Ac) (_ : x.lies w) (y : Ac) (_ : y.lies w) :
    Calls Try.prog 5 #[.int .i64 s, .slice A n c, x.val, y.val] w fun e w' => e = .returned (.bool true) ∧ Below w.heap.size w w' := by
  by_cases h : (s < 1 ∨ 12 < s) ∨ 3000 < n
  · exact walk_size w s A n c x y h
  · obtain ⟨q, rfl⟩ : ∃ q : Nat, s = (q : Int) := ⟨s.toNat, by omega⟩
    exact walk_main w q (by omega) (by omega) A n c l hn (by omega) hr x y
set_option maxRecDepth 100000 in
theorem lifted (os : Os) (started : os.Started) (H : Type) (enc : TypeId × Value → H) :
    ReturnsInHanded {} Try.checked os 5 .any (Rows.diskSpoilsSpec.pre6 enc Try.prog Try.f5 Rows.diskSpoilsRow.domain false) (Rows.diskSpoilsSpec.post enc Try.prog Try.f5 false true false false) := by
  refine returnsInHanded_of_change_sized (C := Try.checked) own started (by kernel_rfl) Try.func5
    (ChangeSpec.witness6 (enc := enc) (C := Try.checked) false ⟨#[], #[.int .i64 0, .slice none 0 0, .agg #[.int .i64 0, .int .i64 0, .int .i64 0, .int .u8 0, .slice none 0 0, .slice none 0 0, .int .i64 0, .int .i64 0], .agg #[.int .i64 0, .int .i64 0, .int .i64 0, .int .u8 0, .slice none 0 0, .slice none 0 0, .int .i64 0, .int .i64 0]], []⟩ 8 (by kernel_rfl) (by kernel_rfl) (by kernel_rfl) (by kernel_rfl)) ?_
  intro W base args ds gs before hval0 hW hcnd hsz _
  have hval : ∀ (j : Nat) t v, Try.f5.params[j]? = some t → args[j]? = some v → Value.okWide Try.prog W .any base t v := hval0
  have hW' := hW
  obtain ⟨p, q, hA0, hV, rfl, hfz, hnd⟩ := hW
  have hA : DataW.TrodAll enc Try.prog W 0 (fun _ => true) true Try.f5.params.toList args.toList ds p := hA0
  rw [Try.params5] at hA hval hsz
  obtain ⟨v0, vs0, d0, ds0, p0, q0, hargs, rfl, rfl, h0, t0⟩ := trodAll_cons hA
  obtain ⟨v1, vs1, d1, ds1, p1, q1, rfl, rfl, rfl, h1, t1⟩ := trodAll_cons t0
  obtain ⟨v2, vs2, d2, ds2, p2, q2, rfl, rfl, rfl, h2, t2⟩ := trodAll_cons t1
  obtain ⟨v3, vs3, d3, ds3, p3, q3, rfl, rfl, rfl, h3, t3⟩ := trodAll_cons t2
  obtain ⟨rfl, rfl, rfl⟩ := trodAll_nil t3
  obtain rfl : args = #[v0, v1, v2, v3] := by cases args; simp_all
  obtain ⟨rfl, rfl⟩ := trodVars_none hV
  have k0 := h0
  have lt0 : ∀ x ∈ p0, x.block < W.heap.size := by obtain ⟨m, hm⟩ := k0; exact DataW.trod_lt m _ _ _ hm
  obtain ⟨a0, rfl, rfl, rfl, f0⟩ := open_int Try.underlying3 (hval 0 3 v0 rfl rfl) h0
  have k1 := h1
  have lt1 : ∀ x ∈ p1, x.block < W.heap.size := by obtain ⟨m, hm⟩ := k1; exact DataW.trod_lt m _ _ _ hm
  obtain ⟨A1, n1, c1, l1, rfl, hl1, hc1, hr1⟩ := open_bytes (hval 1 22 v1 rfl rfl) h1
  have k2 := h2
  have lt2 : ∀ x ∈ p2, x.block < W.heap.size := by obtain ⟨m, hm⟩ := k2; exact DataW.trod_lt m _ _ _ hm
  obtain ⟨x2, rfl, hx2⟩ := open_act (hval 2 28 v2 rfl rfl) h2 (fun q hq => by have := List.all_eq_true.1 hsz q (DataW.weights_mem_each (j := 2) (t := 28) (d := d2) rfl rfl q hq); simpa using this)
  have k3 := h3
  have lt3 : ∀ x ∈ p3, x.block < W.heap.size := by obtain ⟨m, hm⟩ := k3; exact DataW.trod_lt m _ _ _ hm
  obtain ⟨x3, rfl, hx3⟩ := open_act (hval 3 28 v3 rfl rfl) h3 (fun q hq => by have := List.all_eq_true.1 hsz q (DataW.weights_mem_each (j := 3) (t := 28) (d := d3) rfl rfl q hq); simpa using this)
  clear hA0 hval0
  refine (walk W a0 A1 n1 c1 l1 hl1 hr1 x2 hx2 x3 hx3).mono fun e W' ⟨he, bel⟩ => ?_
  subst he
  exact ⟨_, rfl, _, _, _, [], _, [], hW', trodAll_mk1 (shut_bool Try.underlying4 _), (trodAll_cons_mk (shut_int Try.underlying3 f0) (trodAll_cons_mk (Below.trod laidOut (by kernel_rfl) (of_decide_eq_true (by kernel_rfl)) k1 bel lt1) (trodAll_cons_mk (Below.trod laidOut (by kernel_rfl) (of_decide_eq_true (by kernel_rfl)) k2 bel lt2) (trodAll_cons_mk (Below.trod laidOut (by kernel_rfl) (of_decide_eq_true (by kernel_rfl)) k3 bel lt3) trodAll_mk0)))), rfl, bel.frame _, fun h => by cases h⟩
theorem over : Rows.diskSpoilsRow.holds Try.pinned (OpenSpec.ofChange Rows.diskSpoilsSpec) :=
  OpenClaim.holds_of_wide 5 Try.f5 rfl rfl rfl rfl rfl rfl rfl ⟨rfl, rfl, rfl, rfl, rfl⟩ rfl rfl rfl rfl rfl (by kernel_rfl) Try.func5 (by kernel_rfl)
    (of_decide_eq_true (by kernel_rfl)) (by unfold Func.isWrapper; first | (rw [if_pos (by decide +kernel)]; kernel_rfl) | (rw [if_neg (by decide +kernel)]; exact ⟨rfl, rfl⟩))
    (fun os started H enc _ => lifted os started H enc)
theorem proved : Rows.DiskSpoilsSaid := over
end Go.Proofs.Ytnmjfjejhcdjlaa.diskSpoils

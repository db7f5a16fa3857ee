/- The law DiskCopies returns true for every input: a copy stands alike and goes on apart; which disks are the same. No condition. -/
import Derived.Test.YtgjamgojjajcnaaQ35
import Derived.Test.YtgjamgojjajcnaaQ37
import Derived.Test.YtgjamgojjajcnaaQ24
import Derived.Test.YtgjamgojjajcnaaQ15
import Derived.Test.YtgjamgojjajcnaaQ31
import Derived.Test.YtgjamgojjajcnaaQ10
import Derived.Test.YtgjamgojjajcnaaQ25
namespace Go.Proofs.Ytgjamgojjajcnaa.diskCopies
open Go.ChangeShapes Go.WideShapes Go.ChangeAt Go.RowKit
attribute [local go_sem] Oper.semAt_some
attribute [local go_sem] run_store_bv run_store_wc run_store_bv_drew run_store_wc_drew
set_option maxRecDepth 100000 in
set_option maxHeartbeats 1000000 in
theorem walk_size (w : World) (s : Int) (A : Option Addr) (n c : Nat) (SA : Option Addr) (sl sc : Nat) (x : Ac) (h : (s < 1 ∨ 12 < s) ∨ 3000 < n) :
    Calls Try.prog 7 #[.int .i64 s, .slice A n c, .slice SA sl sc, x.val] w fun e w' => e = .returned (.bool true) ∧ Below w.heap.size w w' := by
  have B0 := Lib.hid ((Below.refl w.heap.size w).alloc (Nat.le_refl _) (.cells x.cs.toArray 28))
  by_cases h0 : s < 1 ∨ 12 < s
  · clear h
    go_enter Try.func7, Try.ntmps7
    go_wp2_with (first
      | (go_at_call 8; refine (diskFails.small_no _ s h0).mono ?_; rintro e w' ⟨rfl, rfl⟩)
      | (go_at_call 9; refine (works_any _).mono ?_; rintro e w9 ⟨rfl, hb9⟩; have B9 := Lib.hid (B0.out.trans (hb9.mono B0.out.size)); clear hb9))
    go_ret
    exact ⟨rfl, B9.out⟩
  · obtain ⟨q, rfl⟩ : ∃ q : Nat, s = (q : Int) := ⟨s.toNat, by omega⟩
    have q1 : 1 ≤ q := by omega
    have q2 : q ≤ 12 := by omega
    have n1 : (3000 : Int) < (n : Int) := by omega
    clear h h0
    go_enter Try.func7, Try.ntmps7
    go_wp2_with (first
      | (go_at_call 8; refine (diskFails.small_yes _ q q1 q2).mono ?_; rintro e w' ⟨rfl, rfl⟩)
      | (go_at_call 9; refine (works_any _).mono ?_; rintro e w9 ⟨rfl, hb9⟩; have B9 := Lib.hid (B0.out.trans (hb9.mono B0.out.size)); clear hb9))
    go_ret
    exact ⟨rfl, B9.out⟩
set_option maxRecDepth 100000 in
set_option maxHeartbeats 16000000 in
theorem walk_main (w : World) (s : Nat) (s1 : 1 ≤ s) (s2 : s ≤ 12) (A : Option Addr) (n c : Nat) (l : List UInt8) (hn : l.length = n) (h3 : n ≤ 3000) (hr : Rd w A l) (SA : Option Addr) (sc : Nat) (la : List Ac) (hra : RdA w SA la) (hls : ∀ x ∈ la, x.lies w) (hlb : la.length ≤ 140737488351232) (x : Ac) (hxl : x.lies w) :
    Calls Try.prog 7 #[.int .i64 (s : Int), .slice A n c, .slice SA la.length sc, x.val] w fun e w' => e = .returned (.bool true) ∧ Below w.heap.size w w' := by
  have hz := z43
  have hz47 := z47
  have hzC := zC2
  have B0 := Lib.hid ((Below.refl w.heap.size w).alloc (Nat.le_refl _) (.cells x.cs.toArray 28))
  have X0 := Lib.hid (Blk.new w 28 x.cs.toArray)
  have HR := Lib.hid (hra.below ((Below.refl _ w).alloc (Nat.le_refl _) (.cells x.cs.toArray 28)))
  have HLS := Lib.hid (fun y hy => (hls y hy).below ((Below.refl _ w).alloc (Nat.le_refl _) (.cells x.cs.toArray 28)))
  have HLB := Lib.hid hlb
  have n1 : decide ((3000 : Int) < (n : Int)) = false := decide_eq_false (by omega)
  have HLN := Lib.hid hn
  have HN3 := Lib.hid h3
  have HRB := Lib.hid (hr.alloc (.cells x.cs.toArray 28))
  have HXL0 := Lib.hid hxl
  have SZ0 := Lib.hid (show (w.alloc (.cells x.cs.toArray 28)).heap.size = w.heap.size + 1 by simp)
  clear hr hn h3 hra hls hlb hxl
  go_enter Try.func7, Try.ntmps7
  go_wp2_with (go_at_call 8; refine (diskFails.small_yes _ s s1 s2).mono ?_; rintro e w' ⟨rfl, rfl⟩)
  generalize w.alloc (.cells x.cs.toArray 28) = w0 at B0 X0 HR HLS HRB SZ0 ⊢
  refine (few_any _ SA sc la HR.out HLS.out HLB.out).mono ?_
  rintro e wa ⟨rfl | ⟨rfl, ht⟩, hb⟩
  · have B1 := Lib.hid (B0.out.trans (hb.mono B0.out.size))
    clear hb hz hz47 hzC
    go_wp2_with (go_at_call 9; refine (works_any _).mono ?_; rintro e w9 ⟨rfl, hb9⟩; have B9 := Lib.hid (B1.out.trans (hb9.mono B1.out.size)); clear hb9)
    go_ret
    exact ⟨rfl, B9.out⟩
  have BA := Lib.hid hb
  have XA := Lib.hid (X0.out.below hb X0.out.lt)
  have HL40 := Lib.hid (show la.length ≤ 40 by have := (tot_mem la).1; omega)
  have HST := Lib.hid (show ∀ x ∈ la, x.steps.length ≤ 1000 from fun x hx => by have := (tot_mem la).2 x hx; omega)
  have XAL := Lib.hid (rdA_one (Blk.new wa 28 x.cs.toArray))
  have BA2 := Lib.hid (BA.out.alloc BA.out.size (.cells x.cs.toArray 28))
  have XLA := Lib.hid (show ∀ y ∈ [x], y.lies (wa.alloc (.cells x.cs.toArray 28)) from fun y hy => by rw [List.mem_singleton.1 hy]; exact HXL0.out.below (B0.out.trans (BA2.out.mono B0.out.size)))
  clear hb ht
  go_wp2_with (first
    | (refine wpList_yieldsD (S := fun w' => w'.rangeAt w.heap.size 0 x.cs) (yieldsIf_load_mid (by rfl) 28 (.tmp 7) (by rfl) w.heap.size 0 (by rfl) x.cs _ (fun w' hSw => hSw) Try.underlying28 rfl size_act) (Blk.rangeAt (l := x.cs) XA.out) ?_)
    | (refine wpList_buildSlice28 (by rfl) (.tmp 41) (by rfl) x (by rfl) ?_))
  refine (few_any _ (some ⟨wa.heap.size, 0, none⟩) 1 [x] XAL.out XLA.out (by simp)).mono ?_
  rintro e w1 ⟨rfl | ⟨rfl, ht⟩, hb⟩
  · have B1 := Lib.hid (B0.out.trans ((BA2.out.trans (hb.mono BA2.out.size)).mono B0.out.size))
    clear hb hz hz47 hzC
    go_wp2_with (go_at_call 9; refine (works_any _).mono ?_; rintro e w9 ⟨rfl, hb9⟩; have B9 := Lib.hid (B1.out.trans (hb9.mono B1.out.size)); clear hb9)
    go_ret
    exact ⟨rfl, B9.out⟩
  · have B1 := Lib.hid (BA2.out.trans (hb.mono BA2.out.size))
    have HXS0 := Lib.hid (show x.steps.length ≤ 1000 by have := (tot_mem [x]).2 x (by simp); omega)
    have R1 := Lib.hid (HRB.out.below B1.out)
    clear hb ht BA XA XAL BA2 XLA
    go_wp2_with fail
    refine (begun_any w1 s s1 s2 A n c l HLN.out HN3.out R1.out).mono ?_
    rintro e w2 ⟨p, pl, rfl, da, bg, hb⟩
    obtain ⟨q, hq⟩ : ∃ q : Rp, q = ⟨some ⟨w1.heap.size + 1, 0, none⟩, s * 512, s * 512, none, 0, 0, none, 0, 0⟩ := ⟨_, rfl⟩
    have BO0 := Lib.hid (bo_begun da bg s1 s2)
    have HQ1 := Lib.hid (show q.A1 = some ⟨w1.heap.size + 1, 0, none⟩ by rw [hq])
    rw [← hq] at BO0 ⊢
    have HB2 := Lib.hid hb
    obtain ⟨R, hR⟩ : ∃ R : Rf, R = ⟨begB l (s * 512), [], []⟩ := ⟨_, rfl⟩
    have RFL := Lib.hid (show R.fl = [] by rw [hR])
    have RW := Lib.hid (show R.ws = [] by rw [hR])
    rw [← hR] at BO0
    generalize ofD (begB l (s * 512)) s s = D at BO0
    clear hR hq da bg hb
    have G2 := Lib.hid (show w0.heap.size ≤ w2.heap.size from Nat.le_trans B1.out.size HB2.out.size)
    have L0 := Lib.hid (show Lw w0 (w1.heap.size + 2) p pl D q R 0 s w2.heap.size (w2.alloc (.cells #[.slice q.A1 q.n1 q.c1, .slice q.A2 q.n2 q.c2, .int .i64 0, .slice q.A3 q.n3 q.c3] 34)) from {
      bo := BO0.out.alloc _
      be := (B1.out.trans (HB2.out.mono B1.out.size)).alloc G2.out _
      bg := Blk.new w2 _ _
      ng := fun hk => by have := (BO0.out.da.lt _ hk).1; omega
      nr := fun hk => by have := BO0.out.rf.lt hk; omega
      b0 := by have := B1.out.size; omega
      g0 := G2.out })
    have NA0 := Lib.hid (show ∀ b, q.at_ R b → w0.heap.size ≤ b from fun b hb => by
      obtain ⟨off, ⟨e, _⟩ | ⟨e, hp⟩ | ⟨e, hp⟩⟩ := hb
      · rw [HQ1.out] at e
        injection e with e
        injection e with e1
        have := B1.out.size
        omega
      · rw [RW.out] at hp
        exact absurd hp (by simp)
      · rw [RFL.out] at hp
        exact absurd hp (by simp))
    go_wp2_with fail
    generalize w2.alloc (.cells #[.slice q.A1 q.n1 q.c1, .slice q.A2 q.n2 q.c2, .int .i64 0, .slice q.A3 q.n3 q.c3] 34) = W2 at L0 ⊢
    generalize w2.heap.size = g at L0 G2 HB2 ⊢
    obtain ⟨BB, hBB⟩ : ∃ BB, BB = w1.heap.size + 2 := ⟨_, rfl⟩
    rw [← hBB] at L0
    have HBB := Lib.hid (show w.heap.size + 1 ≤ BB by have := B1.out.size; have := SZ0.out; omega)
    have HGG := Lib.hid (show w.heap.size + 1 ≤ g by have := G2.out; have := SZ0.out; omega)
    clear BO0 HB2 hBB HQ1 RFL
    go_loopw [9, 11, 12] (fun dv fv i wr => ∃ (k p : Nat) (pl : Pl) (D : Dk) (q : Rp) (R : Rf) (t : Nat), k ≤ la.length ∧ dv = .pointer (some ⟨p, 0, none⟩) ∧ fv = .bool true ∧ i = .int .i64 (k : Int) ∧ Lw w0 BB p pl D q R t s g wr ∧ R.ws.length ≤ k ∧ t ≤ k ∧ ∀ b, q.at_ R b → w0.heap.size ≤ b) (fun _ _ i _ => la.length - (intOf i).toNat)
    case atStart => exact ⟨0, p, pl, D, q, R, 0, Nat.zero_le _, rfl, rfl, rfl, L0.out, by rw [RW.out]; exact Nat.le_refl _, Nat.le_refl _, NA0.out⟩
    case round =>
      obtain ⟨k, p, pl, D, q, R, t, hk, rfl, rfl, rfl, hL, hw, ht, hna⟩ := hrel
      clear L0 RW NA0
      have LX := Lib.hid hL
      have WK := Lib.hid hw
      have TK := Lib.hid ht
      have NA := Lib.hid hna
      clear hL hw ht hna
      by_cases hlt : k < la.length
      · have i1 : (0 : Int) ≤ (k : Int) := by omega
        have i2 : (k : Int) < (la.length : Int) := by omega
        have kb : k ≤ 1000 := by have := HL40.out; omega
        have TB := Lib.hid (show t ≤ 1000 by have := TK.out; omega)
        have WB := Lib.hid (show R.ws.length ≤ 1000 by have := WK.out; omega)
        obtain ⟨y, hx⟩ : ∃ y, la[k]? = some y := ⟨_, List.getElem?_eq_getElem hlt⟩
        obtain ⟨b, off, rfl, hc⟩ := HR.out k y hx
        have HXR := Lib.hid (show ∀ W, Below w0.heap.size w0 W → W.rangeAt b (off + k * 8) y.cs from fun W hW j u hu => (hW.cell (p := ⟨b, off + k * 8 + j, none⟩) (cell_lt (hc j u hu))).trans (hc j u hu))
        have HXL := Lib.hid (show y.lies wr.drew from (HLS.out y (List.mem_of_getElem? hx)).below (LX.out.be.trans (Below.drew (Below.refl _ wr))))
        have HXS := Lib.hid (HST.out y (List.mem_of_getElem? hx))
        have LD := Lib.hid (show Lw w0 BB p pl D q R t s g wr.drew from LX.out.next (Below.drew (Below.refl _ wr)))
        clear hx hc
        go_wp2_with fail
        refine wp_region_V (S := fun w' => w'.rangeAt g 0 [.slice q.A1 q.n1 q.c1, .slice q.A2 q.n2 q.c2, .int .i64 (t : Int), .slice q.A3 q.n3 q.c3] ∧ w'.rangeAt b (off + k * 8) y.cs) [6, 7, 8, 9, 10, 11, 12, 13] (by kernel_rfl) ⟨blk_range4 LD.out.bg, HXR.out _ LD.out.be⟩ (fun hHeld => ?_)
        refine wpAnyV_take [] (i := 0) (v := ?v1) rfl (by kernel_rfl) (by kernel_rfl) (by kernel_rfl) (by kernel_rfl) (fun _ _ _ h => h) (Or.inl ⟨by rfl, ?hy1⟩) hHeld ?rest1
        case hy1 =>
          intro w' hSw
          try dsimp only at hSw
          go_simp
          first | done | with_reducible rfl
        try simp only [Act.put, List.getElem_toArray, List.getElem_cons_zero, List.setIfInBounds_toArray, List.set_cons_zero, List.set_cons_succ]
        refine wpAnyV_take [] (i := 1) rfl (by kernel_rfl) (by kernel_rfl) (by kernel_rfl) (by kernel_rfl) (fun _ _ _ h => h) (yieldsIf_load_mid (by rfl) 34 (.tmp 10) (by rfl) g (0) (by rfl) [.slice q.A1 q.n1 q.c1, .slice q.A2 q.n2 q.c2, .int .i64 (t : Int), .slice q.A3 q.n3 q.c3] _ (fun w' hSw => hSw.1) Try.underlying34 rfl size43) hHeld ?_
        try simp only [Act.put, List.getElem_toArray, List.getElem_cons_succ, List.getElem_cons_zero, List.setIfInBounds_toArray, List.set_cons_zero, List.set_cons_succ]
        refine wpAnyV_take [4, 5] (i := 2) (v := ?v2) rfl (by kernel_rfl) (by kernel_rfl) (by kernel_rfl) (by kernel_rfl) (fun _ _ _ h => h) (Or.inl ⟨by rfl, ?hy2⟩) hHeld ?rest2
        case hy2 =>
          intro w' hSw
          try dsimp only at hSw
          go_simp
          first | done | with_reducible rfl
        try simp only [Act.put, List.getElem_toArray, List.getElem_cons_succ, List.getElem_cons_zero, List.setIfInBounds_toArray, List.set_cons_zero, List.set_cons_succ]
        refine wpAnyV_take [4, 5] (i := 3) (v := ?v3) rfl (by kernel_rfl) (by kernel_rfl) (by kernel_rfl) (by kernel_rfl) (fun _ _ _ h => h) (Or.inl ⟨by rfl, ?hy3⟩) hHeld ?rest3
        case hy3 =>
          intro w' hSw
          try dsimp only at hSw
          go_simp
          first | done | with_reducible rfl
        try simp only [Act.put, List.getElem_toArray, List.getElem_cons_succ, List.getElem_cons_zero, List.setIfInBounds_toArray, List.set_cons_zero, List.set_cons_succ]
        refine wpAnyV_take [5] (i := 4) (v := ?v4) rfl (by kernel_rfl) (by kernel_rfl) (by kernel_rfl) (by kernel_rfl) (fun _ _ _ h => h) (Or.inl ⟨by rfl, ?hy4⟩) hHeld ?rest4
        case hy4 =>
          intro w' hSw
          try dsimp only at hSw
          go_simp
          first | done | with_reducible rfl
        try simp only [Act.put, List.getElem_toArray, List.getElem_cons_succ, List.getElem_cons_zero, List.setIfInBounds_toArray, List.set_cons_zero, List.set_cons_succ]
        refine wpAnyV_take [] (i := 5) rfl (by kernel_rfl) (by kernel_rfl) (by kernel_rfl) (by kernel_rfl) (fun _ _ _ h => h) (yieldsIf_load_mid (by rfl) 28 (.tmp 68) (by rfl) b (off + k * 8) (by rfl) y.cs _ (fun w' hSw => hSw.2) Try.underlying28 rfl size_act) hHeld ?_
        try simp only [Act.put, List.getElem_toArray, List.getElem_cons_succ, List.getElem_cons_zero, List.setIfInBounds_toArray, List.set_cons_zero, List.set_cons_succ]
        refine wpAnyV_one (i := 6) (by kernel_rfl) (by rfl) (fun K hK => ?_)
        go_simp
        refine (act_any LD.out.bo TB.out WB.out y HXL.out HXS.out).mono ?_
        rintro e W4 ⟨R', t', ⟨p', pl', D', q', rfl, bo, hf, hpl, hat⟩, hw', ht'⟩
        have JG := Lib.hid (LD.out.kept hf)
        have BO4 := Lib.hid bo
        have FR4 := Lib.hid hf
        have HP4 := Lib.hid hpl
        have HA4 := Lib.hid hat
        have HW4 := Lib.hid (show R'.ws.length ≤ k + 1 by have := WK.out; omega)
        have HT4 := Lib.hid (show t' ≤ k + 1 by have := TK.out; omega)
        have NA4 := Lib.hid (show ∀ b, q'.at_ R' b → w0.heap.size ≤ b from fun b hb => by rcases hat b hb with h | h; (exact NA.out b h); (have := LD.out.be.size; omega))
        clear hHeld bo hf hpl hat hw' ht'
        refine hK.out _ _ (.inl (by decide)) (fun hHeld => ?_)
        clear hK K
        try simp only [Act.put, List.getElem_toArray, List.getElem_cons_succ, List.getElem_cons_zero, List.setIfInBounds_toArray, List.set_cons_zero, List.set_cons_succ]
        refine wpAnyV_takeT (i := 7) (v := ?v5) rfl (by kernel_rfl) (by kernel_rfl) (by kernel_rfl) (by rfl) (fun _ _ _ h => h) (Or.inl ⟨by rfl, ?hy5⟩) ?rest5
        case hy5 =>
          intro w' hSw
          try dsimp only at hSw
          go_simp
          first | done | with_reducible rfl
        try simp only [Act.put, List.getElem_toArray, List.getElem_cons_succ, List.getElem_cons_zero, List.setIfInBounds_toArray, List.set_cons_zero, List.set_cons_succ]
        refine wpAnyV_takeT (i := 8) (v := ?v6) rfl (by kernel_rfl) (by kernel_rfl) (by kernel_rfl) (by rfl) (fun _ _ _ h => h) (Or.inl ⟨by rfl, ?hy6⟩) ?rest6
        case hy6 =>
          intro w' hSw
          try dsimp only at hSw
          go_simp
          first | done | with_reducible rfl
        try simp only [Act.put, List.getElem_toArray, List.getElem_cons_succ, List.getElem_cons_zero, List.setIfInBounds_toArray, List.set_cons_zero, List.set_cons_succ]
        refine wpAnyV_takeT (i := 9) (v := ?v7) rfl (by kernel_rfl) (by kernel_rfl) (by kernel_rfl) (by rfl) (fun _ _ _ h => h) (Or.inl ⟨by rfl, ?hy7⟩) ?rest7
        case hy7 =>
          intro w' hSw
          try dsimp only at hSw
          go_simp
          first | done | with_reducible rfl
        try simp only [Act.put, List.getElem_toArray, List.getElem_cons_succ, List.getElem_cons_zero, List.setIfInBounds_toArray, List.set_cons_zero, List.set_cons_succ]
        refine wpAnyV_takeT (i := 10) (v := ?v8) rfl (by kernel_rfl) (by kernel_rfl) (by kernel_rfl) (by rfl) (fun _ _ _ h => h) (Or.inl ⟨by rfl, ?hy8⟩) ?rest8
        case hy8 =>
          intro w' hSw
          try dsimp only at hSw
          go_simp
          first | done | with_reducible rfl
        try simp only [Act.put, List.getElem_toArray, List.getElem_cons_succ, List.getElem_cons_zero, List.setIfInBounds_toArray, List.set_cons_zero, List.set_cons_succ]
        refine wpAnyV_takeT (i := 11) (v := ?v9) rfl (by kernel_rfl) (by kernel_rfl) (by kernel_rfl) (by rfl) (fun _ _ _ h => h) (Or.inl ⟨by rfl, ?hy9⟩) ?rest9
        case hy9 =>
          intro w' hSw
          try dsimp only at hSw
          go_simp
          first | done | with_reducible rfl
        try simp only [Act.put, List.getElem_toArray, List.getElem_cons_succ, List.getElem_cons_zero, List.setIfInBounds_toArray, List.set_cons_zero, List.set_cons_succ]
        refine wpAnyV_one (i := 12) (by kernel_rfl) (by rfl) (fun K hK => ?_)
        refine step_store_whole rfl 34 (.tmp 10) (.tmp 72) rfl (by rfl) #[.slice q'.A1 q'.n1 q'.c1, .slice q'.A2 q'.n2 q'.c2, .int .i64 (t' : Int), .slice q'.A3 q'.n3 q'.c3] #[.slice q.A1 q.n1 q.c1, .slice q.A2 q.n2 q.c2, .int .i64 (t : Int), .slice q.A3 q.n3 q.c3] 34 (by rfl) JG.out (size43c _ _ _ _) rfl (one43 _ _ _ _ _ _ _ _ _ _) ?_
        intro m8 j8 f8
        have L8 := Lib.hid (LD.out.went BO4.out FR4.out HP4.out HA4.out j8 f8)
        clear hHeld j8 f8
        refine hK.out _ _ (.inl (by decide)) (fun hHeld => ?_)
        clear hK K
        try simp only [Act.put, List.getElem_toArray, List.getElem_cons_succ, List.getElem_cons_zero]
        refine wpAnyV_one (i := 13) (by kernel_rfl) (by rfl) (fun K hK => ?_)
        go_simp
        refine hK.out _ _ (.inl (by decide)) (fun hHeld => ?_)
        clear hK K
        try simp only [Act.put, List.getElem_toArray, List.getElem_cons_succ, List.getElem_cons_zero, List.setIfInBounds_toArray, List.set_cons_zero, List.set_cons_succ]
        refine wpAnyV_done (by kernel_rfl) ?_ _
        refine OnlyN.normal ?_
        clear hHeld
        go_wp2_with fail
        go_roundw
        case rel => exact ⟨k + 1, p', pl', D', q', R', t', by omega, rfl, rfl, by go_num, L8.out, HW4.out, HT4.out, NA4.out⟩
        case measure => simp [intOf]; omega
      · obtain rfl : k = la.length := by omega
        have i2 : ¬ ((la.length : Nat) : Int) < (la.length : Int) := by omega
        have HT40 := Lib.hid (show t ≤ 40 from Nat.le_trans TK.out HL40.out)
        have HW40 := Lib.hid (show R.ws.length ≤ 40 from Nat.le_trans WK.out HL40.out)
        have HDW := Lib.hid (show D.waits.length ≤ 1000000 by rw [LX.out.bo.al.waits]; have := HW40.out; omega)
        have HDW0 := Lib.hid (show D.waits.length ≤ 40 by rw [LX.out.bo.al.waits]; exact HW40.out)
        have HDS := Lib.hid (show D.steps < 1000000 by rw [LX.out.bo.al.steps]; have := HT40.out; omega)
        have X1 := Lib.hid (X0.out.below LX.out.be X0.out.lt)
        have LY := Lib.hid (LX.out.rebase B0.out)
        have HCS := Lib.hid X1.out.lt
        have HNX := Lib.hid (show ¬ q.at_ R w.heap.size from fun hk => by have := NA.out _ hk; have := SZ0.out; omega)
        clear LX NA TK WK hlt
        go_wp2_with fail
        refine (copy_at LY.out.bo.da HDW.out).mono ?_
        rintro e W1 ⟨pc, plc, rfl, dc, hb⟩
        have C1 := Lib.hid dc
        have HCB := Lib.hid (show ∀ k, pl.has p k → k < wr.heap.size from fun k hk => (LY.out.bo.da.lt k hk).1)
        have L1 := Lib.hid (LY.out.next hb)
        have X2 := Lib.hid (X1.out.below hb X1.out.lt)
        clear dc hb LY X1
        go_wp2_with fail
        refine (dsame_at C1.out L1.out.bo.da rfl HDW.out).mono ?_
        rintro e W2 ⟨⟨u, rfl, hu⟩, hb⟩
        obtain rfl : u = true := hu.2 ⟨fun _ _ => rfl, rfl⟩
        have C2 := Lib.hid (C1.out.below hb)
        have L2 := Lib.hid (L1.out.next hb)
        have X3 := Lib.hid (X2.out.below hb X2.out.lt)
        clear hb hu C1 L1 X2
        go_wp2_with (refine wpList_yieldsD (S := fun w' => w'.rangeAt g 0 [.slice q.A1 q.n1 q.c1, .slice q.A2 q.n2 q.c2, .int .i64 (t : Int), .slice q.A3 q.n3 q.c3]) (yieldsIf_load_mid (by rfl) 34 (.tmp 10) (by rfl) g 0 (by rfl) [.slice q.A1 q.n1 q.c1, .slice q.A2 q.n2 q.c2, .int .i64 (t : Int), .slice q.A3 q.n3 q.c3] _ (fun w' hSw => hSw) Try.underlying34 rfl size43) (blk_range4 L2.out.bg) ?_)
        refine (stands_any C2.out L2.out.bo.rf L2.out.bo.al).mono ?_
        rintro e W3 ⟨rfl, hb⟩
        obtain ⟨x5, hx5⟩ : ∃ x5 : Ac, x5 = { x with what := x.what.tmod 5 } := ⟨_, rfl⟩
        have C3 := Lib.hid ((C2.out.below hb).keep (w' := W3.setCell ⟨w.heap.size, 0, none⟩ (.int .i64 (x.what.tmod 5))) (fun k hk => Below.heap_setCell W3 _ _ k (by have := ((C2.out.below hb).lt k hk).2; have := HCS.out; show k ≠ w.heap.size; omega)))
        have L3 := Lib.hid ((L2.out.next hb).set0 (by have := HBB.out; omega) (by have := HGG.out; omega) HNX.out (.int .i64 (x.what.tmod 5)))
        have X4 := Lib.hid (X3.out.below hb X3.out.lt)
        have X5 := Lib.hid (show Blk (W3.setCell ⟨w.heap.size, 0, none⟩ (.int .i64 (x.what.tmod 5))) w.heap.size 28 x5.cs.toArray from by rw [hx5]; exact X4.out.set_ 0 _)
        have XL5 := Lib.hid (show x5.lies (W3.setCell ⟨w.heap.size, 0, none⟩ (.int .i64 (x.what.tmod 5))) from by have := HXL0.out.below L3.out.be; rw [hx5]; exact ⟨this.steps, this.keep, this.s1, this.k1, this.wf⟩)
        have XS5 := Lib.hid (show x5.steps.length ≤ 1000 by rw [hx5]; exact HXS0.out)
        have c0 := (X4.out.cell 0).trans (show _ = some (.int .i64 x.what) from rfl)
        have f0 := X4.out.frozen 0
        clear hb C2 L2 X3 hx5
        go_wp2_with (first
          | (refine wpList_load_mid rfl 34 (.tmp 10) rfl g 0 rfl _ _ (blk_range4 L3.out.bg) Try.underlying34 rfl size43 ?_)
          | (refine wpList_load_mid rfl 28 (.tmp 7) rfl w.heap.size 0 rfl x5.cs _ (Blk.rangeAt (l := x5.cs) X5.out) Try.underlying28 rfl size_act ?_))
        clear c0 f0 X4
        generalize W3.setCell ⟨w.heap.size, 0, none⟩ (.int .i64 (x.what.tmod 5)) = W3' at C3 L3 X5 XL5 ⊢
        refine (act_any L3.out.bo (by have := HT40.out; omega) (by have := HW40.out; omega) x5 XL5.out XS5.out).mono ?_
        rintro e W4 ⟨R', t', ⟨p', pl', D', q', rfl, bo, hf, hpl, hat⟩, hw', ht'⟩
        have O4 := Lib.hid (show Od w (W4.alloc (.cells #[.slice q'.A1 q'.n1 q'.c1, .slice q'.A2 q'.n2 q'.c2, .int .i64 (t' : Int), .slice q'.A3 q'.n3 q'.c3] 34)) wr.heap.size pc plc D BB p' pl' D' q R t q' R' t' s g W4.heap.size from {
          c := (C3.out.fr hf (fun k hk e => by have := HCB.out k e; have := (C3.out.lt k hk).2; omega)).alloc _
          e := bo.da.alloc _
          rf := (L3.out.bo.rf.fr hf L3.out.bo.ap).alloc _
          rf' := bo.rf.alloc _
          al := L3.out.bo.al
          al' := bo.al
          bg := (L3.out.kept hf).alloc _
          bn := Blk.new W4 _ _
          be := (L3.out.below' hf).alloc (L3.out.below' hf).size _ })
        have HDW' := Lib.hid (show D'.waits.length ≤ 1000000 by rw [bo.al.waits]; have := HW40.out; omega)
        have HSZ := Lib.hid (show D'.size = D.size by rw [bo.al.size, L3.out.bo.al.size])
        clear bo hf hpl hat hw' ht' C3 L3 X5 XL5 XS5 hz
        go_wp2_with (first
          | (refine wpList_load_mid rfl 34 (.tmp 15) rfl W4.heap.size 0 rfl _ _ (blk_range4 O4.out.bn) Try.underlying34 rfl size43 ?_)
          | (refine wpList_load_mid rfl 34 (.tmp 10) rfl g 0 rfl _ _ (blk_range4 O4.out.bg) Try.underlying34 rfl size43 ?_))
        generalize W4.alloc (.cells #[.slice q'.A1 q'.n1 q'.c1, .slice q'.A2 q'.n2 q'.c2, .int .i64 (t' : Int), .slice q'.A3 q'.n3 q'.c3] 34) = W5 at O4 ⊢
        generalize W4.heap.size = gn at O4 ⊢
        refine (rsame_any O4.out.rf' O4.out.rf t' t).mono ?_
        rintro e W6 ⟨⟨u, rfl, hu⟩, hb⟩
        have O6 := Lib.hid (O4.out.next hb)
        have HU := Lib.hid (hu.trans (same_iff O4.out.al O4.out.al' O4.out.rf.l1 O4.out.rf'.l1).symm)
        clear hu hb O4
        go_wp2_with fail
        refine (copy_at O6.out.c HDW.out).mono ?_
        rintro e W7 ⟨pP, plP, rfl, dP, hb⟩
        have P7 := Lib.hid dP
        have O7 := Lib.hid (O6.out.next hb)
        have BP := Lib.hid hb
        clear dP hb
        go_wp2_with fail
        refine (copy_at O7.out.c HDW.out).mono ?_
        rintro e W8 ⟨pQ, plQ, rfl, dQ, hb⟩
        have O8 := Lib.hid (O7.out.next hb)
        have Q8 := Lib.hid (show PQ W6 W8 W6.heap.size pP plP D W7.heap.size pQ plQ D from {
          a := P7.out.below hb
          b := dQ
          ap := fun k h1 h2 => by have := (P7.out.lt k h1).1; have := (dQ.lt k h2).2; omega
          be := BP.out.trans (hb.mono BP.out.size)
          p0 := Nat.le_refl _
          q0 := BP.out.size
          pb := Nat.le_trans BP.out.size hb.size
          qb := hb.size })
        generalize W6.heap.size = bP at Q8
        clear dQ hb O7 P7 BP
        go_wp2_with fail
        refine (fail0 Q8.out.a Q8.out.pb).mono ?_
        rintro e W9 ⟨rfl, plP1, hd, hf, hpl⟩
        have Q9 := Lib.hid (Q8.out.left hd hf hpl)
        clear hd hf hpl Q8
        go_wp2_with fail
        refine (fail0 Q9.out.b Q9.out.qb).mono ?_
        rintro e W10 ⟨rfl, plQ1, hd, hf, hpl⟩
        have Q10 := Lib.hid (Q9.out.right hd hf hpl)
        clear hd hf hpl Q9
        go_wp2_with fail
        refine (show Calls Try.prog _ #[.int .u8 1] W10 _ from full_at W10 1).mono ?_
        rintro e W11 ⟨rfl, hb⟩
        have Q11 := Lib.hid (Q10.out.next hb)
        clear hb Q10
        go_wp2_with fail
        refine (write0 Q11.out.a Q11.out.pb HDW.out HDS.out 1).mono ?_
        rintro e W12 ⟨rfl, plP2, DP, hd, hwP, hsP, hf, hpl⟩
        have Q12 := Lib.hid (Q11.out.left hd hf hpl)
        have WP := Lib.hid hwP
        have SP := Lib.hid hsP
        clear hd hf hpl hwP hsP Q11
        go_wp2_with fail
        refine (show Calls Try.prog _ #[.int .u8 2] W12 _ from full_at W12 2).mono ?_
        rintro e W13 ⟨rfl, hb⟩
        have Q13 := Lib.hid (Q12.out.next hb)
        clear hb Q12
        go_wp2_with fail
        refine (write0 Q13.out.b Q13.out.qb HDW.out HDS.out 2).mono ?_
        rintro e W14 ⟨rfl, plQ2, DQ, hd, hwQ, hsQ, hf, hpl⟩
        have Q14 := Lib.hid (Q13.out.right hd hf hpl)
        have WQ := Lib.hid hwQ
        have SQ := Lib.hid hsQ
        clear hd hf hpl hwQ hsQ Q13
        go_wp2_with fail
        refine (read_nil _ 0).mono ?_
        rintro e W15 ⟨rfl, hb⟩
        have Q15 := Lib.hid ((Q14.out.next hb).next ((Below.refl _ W15).alloc (Nat.le_refl _) (.cells (bv zs).toArray 38)))
        clear hb Q14
        go_wp2_with fail
        generalize W15.alloc (.cells (bv zs).toArray 38) = W16 at Q15 ⊢
        refine (show Calls Try.prog _ #[.pointer none, .agg #[.slice none 0 0, .int .i64 0, .int .i64 0]] W16 _ from crash_nil W16 ⟨[], 0, 0⟩ none 0).mono ?_
        rintro e W17 ⟨rfl, hb⟩
        have Q17 := Lib.hid (Q15.out.next hb)
        clear hb Q15 hzC
        go_wp2_with (go_at_call 14; refine (num_any _ _).mono ?_; rintro e mm ⟨rfl, rfl⟩)
        refine (dsame_at Q17.out.a Q17.out.b (by rw [SQ.out, SP.out]) (by rw [WP.out, List.length_append]; have := HDW0.out; simp only [List.length_cons, List.length_nil]; omega)).mono ?_
        rintro e W18 ⟨⟨u2, rfl, hu⟩, hb⟩
        obtain rfl : u2 = false := by
          cases u2
          · rfl
          · have h := (hu.1 rfl).2
            rw [WP.out, WQ.out] at h
            have h2 := List.append_cancel_left h
            injection h2 with h3
            injection h3 with h4 h5
            exact absurd h5 full_ne
        have O18 := Lib.hid (O6.out.next (Q17.out.next hb).be)
        clear hb hu Q17 O6 O8 WP WQ SP SQ
        obtain ⟨e0, e1, e2, e3⟩ := cells4 O18.out.bg
        go_wp2_with fail
        clear e0 e1 e2 e3
        refine (stands_any O18.out.c O18.out.rf O18.out.al).mono ?_
        rintro e W19 ⟨rfl, hb⟩
        have O19 := Lib.hid (O18.out.next hb)
        clear hb O18
        go_wp2_with fail
        refine (dsame_at O19.out.c O19.out.e HSZ.out HDW.out).mono ?_
        rintro e W20 ⟨⟨u2, rfl, hu⟩, hb⟩
        obtain rfl : u2 = u := Bool.eq_iff_iff.2 (hu.trans HU.out.symm)
        have O20 := Lib.hid (O19.out.next hb)
        clear hb hu O19
        go_wp2_with fail
        refine (dsame_at O20.out.e O20.out.c HSZ.out.symm HDW'.out).mono ?_
        rintro e W21 ⟨⟨u3, rfl, hu⟩, hb⟩
        obtain rfl : u3 = u2 := Bool.eq_iff_iff.2 ((hu.trans (sameD_symm HSZ.out)).trans HU.out.symm)
        have OX := Lib.hid (O20.out.next hb)
        clear hb hu O20
        go_wp2_with (first
          | (go_at_call 14; refine (num_any _ _).mono ?_; rintro e mm ⟨rfl, rfl⟩)
          | (go_at_call 22; refine (show Calls Try.prog _ #[.int .u8 1] _ _ from full_at _ 1).mono ?_; rintro e mm ⟨rfl, hb⟩; replace OX := Lib.hid (OX.out.next hb); clear hb)
          | (go_at_call 21; refine (write_nil _ 0 (fullL 1)).mono ?_; rintro e mm ⟨rfl, hb⟩; replace OX := Lib.hid (OX.out.next hb); clear hb)
          | (go_at_call 24; refine (flush_nil _).mono ?_; rintro e mm ⟨rfl, hb⟩; replace OX := Lib.hid (OX.out.next hb); clear hb)
          | (go_at_call 20; refine (fail_nil _ _).mono ?_; rintro e mm ⟨rfl, rfl⟩)
          | (go_at_call 25; refine (show Calls Try.prog _ #[.pointer none, .int .i64 0, .int .i64 0, .int .u8 1] _ _ from spoil_nil _ 0 0 1).mono ?_; rintro e mm ⟨rfl, hb⟩; replace OX := Lib.hid (OX.out.next hb); clear hb)
          | (go_at_call 26; refine (size_nil _).mono ?_; rintro e mm ⟨rfl, rfl⟩)
          | (go_at_call 27; refine (steps_nil _).mono ?_; rintro e mm ⟨rfl, rfl⟩)
          | (go_at_call 28; refine (waits_nil _).mono ?_; rintro e mm ⟨rfl, rfl⟩)
          | (go_at_call 29; refine (bytes_nil _).mono ?_; rintro e mm ⟨rfl, rfl⟩)
          | (go_at_call 17; refine (copy_nil _).mono ?_; rintro e mm ⟨rfl, rfl⟩))
        refine (dsame_nn _).mono ?_
        rintro e mm ⟨rfl, rfl⟩
        go_wp2_with fail
        refine (dsame_ns OX.out.c).mono ?_
        rintro e mm ⟨rfl, rfl⟩
        go_wp2_with fail
        refine (dsame_sn OX.out.c).mono ?_
        rintro e mm ⟨rfl, rfl⟩
        have BE := Lib.hid OX.out.be
        go_wp2_with (go_at_call 9; refine (works_any _).mono ?_; rintro e w9 ⟨rfl, hb9⟩; have B9 := Lib.hid (BE.out.trans (hb9.mono BE.out.size)); clear hb9)
        go_ret
        exact ⟨rfl, B9.out⟩
set_option maxRecDepth 8000 in
theorem walk (w : World) (s : Int) (A : Option Addr) (n c : Nat) (l : List UInt8) (hn : l.length = n) (hr : Rd w A l) (SA : Option Addr) (sc : Nat) (la : List Ac) (hra : RdA w SA la) (hls : ∀ x ∈ la, x.lies w) (hlb : la.length ≤ 140737488351232) (x : Ac) (hxl : x.lies w) :
    Calls Try.prog 7 #[.int .i64 s, .slice A n c, .slice SA la.length sc, x.val] w fun e w' => e = .returned (.bool true) ∧ Below w.heap.size w w' := by
  by_cases h : (s < 1 ∨ 12 < s) ∨ 3000 < n
  · exact walk_size w s A n c SA la.length sc x h
  · obtain ⟨q, rfl⟩ : ∃ q : Nat, s = (q : Int) := ⟨s.toNat, by omega⟩
    exact walk_main w q (by omega) (by omega) A n c l hn (by omega) hr SA sc la hra hls hlb x hxl
set_option maxRecDepth 100000 in
theorem lifted (os : Os) (started : os.Started) (H : Type) (enc : TypeId × Value → H) :
    ReturnsInHanded {} Try.checked os 7 .any (Rows.diskCopiesSpec.pre6 enc Try.prog Try.f7 Rows.diskCopiesRow.domain false) (Rows.diskCopiesSpec.post enc Try.prog Try.f7 false true false false) := by
  refine returnsInHanded_of_change_sized (C := Try.checked) own started (by kernel_rfl) Try.func7
    (ChangeSpec.witness6 (enc := enc) (C := Try.checked) false ⟨#[], #[.int .i64 0, .slice none 0 0, .slice none 0 0, .agg #[.int .i64 0, .int .i64 0, .int .i64 0, .int .u8 0, .slice none 0 0, .slice none 0 0, .int .i64 0, .int .i64 0]], []⟩ 8 (by kernel_rfl) (by kernel_rfl) (by kernel_rfl) (by kernel_rfl)) ?_
  intro W base args ds gs before hval0 hW hcnd hsz _
  have hval : ∀ (j : Nat) t v, Try.f7.params[j]? = some t → args[j]? = some v → Value.okWide Try.prog W .any base t v := hval0
  have hW' := hW
  obtain ⟨p, q, hA0, hV, rfl, hfz, hnd⟩ := hW
  have hA : DataW.TrodAll enc Try.prog W 0 (fun _ => true) true Try.f7.params.toList args.toList ds p := hA0
  rw [Try.params7] at hA hval hsz
  obtain ⟨v0, vs0, d0, ds0, p0, q0, hargs, rfl, rfl, h0, t0⟩ := trodAll_cons hA
  obtain ⟨v1, vs1, d1, ds1, p1, q1, rfl, rfl, rfl, h1, t1⟩ := trodAll_cons t0
  obtain ⟨v2, vs2, d2, ds2, p2, q2, rfl, rfl, rfl, h2, t2⟩ := trodAll_cons t1
  obtain ⟨v3, vs3, d3, ds3, p3, q3, rfl, rfl, rfl, h3, t3⟩ := trodAll_cons t2
  obtain ⟨rfl, rfl, rfl⟩ := trodAll_nil t3
  obtain rfl : args = #[v0, v1, v2, v3] := by cases args; simp_all
  obtain ⟨rfl, rfl⟩ := trodVars_none hV
  have k0 := h0
  have lt0 : ∀ x ∈ p0, x.block < W.heap.size := by obtain ⟨m, hm⟩ := k0; exact DataW.trod_lt m _ _ _ hm
  obtain ⟨a0, rfl, rfl, rfl, f0⟩ := open_int Try.underlying3 (hval 0 3 v0 rfl rfl) h0
  have k1 := h1
  have lt1 : ∀ x ∈ p1, x.block < W.heap.size := by obtain ⟨m, hm⟩ := k1; exact DataW.trod_lt m _ _ _ hm
  obtain ⟨A1, n1, c1, l1, rfl, hl1, hc1, hr1⟩ := open_bytes (hval 1 22 v1 rfl rfl) h1
  have k2 := h2
  have lt2 : ∀ x ∈ p2, x.block < W.heap.size := by obtain ⟨m, hm⟩ := k2; exact DataW.trod_lt m _ _ _ hm
  obtain ⟨A2, l2, c2, rfl, hr2, hs2, hb2⟩ := open_acts (hval 2 47 v2 rfl rfl) h2 (fun q hq => by have := List.all_eq_true.1 hsz q (DataW.weights_mem_each (j := 2) (t := 47) (d := d2) rfl rfl q hq); simpa using this)
  have k3 := h3
  have lt3 : ∀ x ∈ p3, x.block < W.heap.size := by obtain ⟨m, hm⟩ := k3; exact DataW.trod_lt m _ _ _ hm
  obtain ⟨x3, rfl, hx3⟩ := open_act (hval 3 28 v3 rfl rfl) h3 (fun q hq => by have := List.all_eq_true.1 hsz q (DataW.weights_mem_each (j := 3) (t := 28) (d := d3) rfl rfl q hq); simpa using this)
  clear hA0 hval0
  refine (walk W a0 A1 n1 c1 l1 hl1 hr1 A2 c2 l2 hr2 hs2 hb2 x3 hx3).mono fun e W' ⟨he, bel⟩ => ?_
  subst he
  exact ⟨_, rfl, _, _, _, [], _, [], hW', trodAll_mk1 (shut_bool Try.underlying4 _), (trodAll_cons_mk (shut_int Try.underlying3 f0) (trodAll_cons_mk (Below.trod laidOut (by kernel_rfl) (of_decide_eq_true (by kernel_rfl)) k1 bel lt1) (trodAll_cons_mk (Below.trod laidOut (by kernel_rfl) (of_decide_eq_true (by kernel_rfl)) k2 bel lt2) (trodAll_cons_mk (Below.trod laidOut (by kernel_rfl) (of_decide_eq_true (by kernel_rfl)) k3 bel lt3) trodAll_mk0)))), rfl, bel.frame _, fun h => by cases h⟩
theorem over : Rows.diskCopiesRow.holds Try.pinned (OpenSpec.ofChange Rows.diskCopiesSpec) :=
  OpenClaim.holds_of_wide 7 Try.f7 rfl rfl rfl rfl rfl rfl rfl ⟨rfl, rfl, rfl, rfl, rfl⟩ rfl rfl rfl rfl rfl (by kernel_rfl) Try.func7 (by kernel_rfl)
    (of_decide_eq_true (by kernel_rfl)) (by unfold Func.isWrapper; first | (rw [if_pos (by decide +kernel)]; kernel_rfl) | (rw [if_neg (by decide +kernel)]; exact ⟨rfl, rfl⟩))
    (fun os started H enc _ => lifted os started H enc)
theorem proved : Rows.DiskCopiesSaid := over
end Go.Proofs.Ytgjamgojjajcnaa.diskCopies

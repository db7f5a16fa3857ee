/- The law DiskPlays returns true for every input: what calls tell, and how a disk stands behind them. No condition. -/
import Derived.Test.YtgjamgojjajcnaaQ35
import Derived.Test.YtgjamgojjajcnaaQ15
import Derived.Test.YtgjamgojjajcnaaQ31
import Derived.Test.YtgjamgojjajcnaaQ10
import Derived.Test.YtgjamgojjajcnaaQ25
namespace Go.Proofs.Ytgjamgojjajcnaa.diskPlays
open Go.ChangeShapes Go.WideShapes Go.ChangeAt Go.RowKit
attribute [local go_sem] Oper.semAt_some
attribute [local go_sem] run_store_bv run_store_wc run_store_bv_drew run_store_wc_drew
set_option maxRecDepth 100000 in
set_option maxHeartbeats 1000000 in
theorem walk_size (w : World) (s : Int) (A : Option Addr) (n c : Nat) (SA : Option Addr) (sl sc : Nat) (h : (s < 1 ∨ 12 < s) ∨ 3000 < n) :
    Calls Try.prog 4 #[.int .i64 s, .slice A n c, .slice SA sl sc] w fun e w' => e = .returned (.bool true) ∧ Below w.heap.size w w' := by
  have B0 := Lib.hid (Below.refl w.heap.size w)
  by_cases h0 : s < 1 ∨ 12 < s
  · clear h
    go_enter Try.func4, Try.ntmps4
    go_wp2_with (first
      | (go_at_call 8; refine (diskFails.small_no _ s h0).mono ?_; rintro e w' ⟨rfl, rfl⟩)
      | (go_at_call 9; refine (works_any _).mono ?_; rintro e w9 ⟨rfl, hb9⟩; have B9 := Lib.hid (B0.out.trans (hb9.mono B0.out.size)); clear hb9))
    go_ret
    exact ⟨rfl, B9.out⟩
  · obtain ⟨q, rfl⟩ : ∃ q : Nat, s = (q : Int) := ⟨s.toNat, by omega⟩
    have q1 : 1 ≤ q := by omega
    have q2 : q ≤ 12 := by omega
    have n1 : (3000 : Int) < (n : Int) := by omega
    clear h h0
    go_enter Try.func4, Try.ntmps4
    go_wp2_with (first
      | (go_at_call 8; refine (diskFails.small_yes _ q q1 q2).mono ?_; rintro e w' ⟨rfl, rfl⟩)
      | (go_at_call 9; refine (works_any _).mono ?_; rintro e w9 ⟨rfl, hb9⟩; have B9 := Lib.hid (B0.out.trans (hb9.mono B0.out.size)); clear hb9))
    go_ret
    exact ⟨rfl, B9.out⟩
set_option maxRecDepth 100000 in
set_option maxHeartbeats 8000000 in
theorem walk_main (w : World) (s : Nat) (s1 : 1 ≤ s) (s2 : s ≤ 12) (A : Option Addr) (n c : Nat) (l : List UInt8) (hn : l.length = n) (h3 : n ≤ 3000) (hr : Rd w A l) (SA : Option Addr) (sc : Nat) (la : List Ac) (hra : RdA w SA la) (hls : ∀ x ∈ la, x.lies w) (hlb : la.length ≤ 140737488351232) :
    Calls Try.prog 4 #[.int .i64 (s : Int), .slice A n c, .slice SA la.length sc] w fun e w' => e = .returned (.bool true) ∧ Below w.heap.size w w' := by
  have hz := z43
  have n1 : ¬ (3000 : Int) < (n : Int) := by omega
  have HLN := Lib.hid hn
  have HN3 := Lib.hid h3
  have HRB := Lib.hid hr
  have HR := Lib.hid hra
  have HLS := Lib.hid hls
  have HLB := Lib.hid hlb
  clear hr hn h3 hra hls hlb
  go_enter Try.func4, Try.ntmps4
  go_wp2_with (go_at_call 8; refine (diskFails.small_yes _ s s1 s2).mono ?_; rintro e w' ⟨rfl, rfl⟩)
  refine (few_any _ SA sc la HR.out HLS.out HLB.out).mono ?_
  rintro e w1 ⟨rfl | ⟨rfl, ht⟩, hb⟩
  · have B1 := Lib.hid hb
    clear hb hz
    go_wp2_with (go_at_call 9; refine (works_any _).mono ?_; rintro e w9 ⟨rfl, hb9⟩; have B9 := Lib.hid (B1.out.trans (hb9.mono B1.out.size)); clear hb9)
    go_ret
    exact ⟨rfl, B9.out⟩
  · have B1 := Lib.hid hb
    have HL40 := Lib.hid (show la.length ≤ 40 by have := (tot_mem la).1; omega)
    have HST := Lib.hid (show ∀ x ∈ la, x.steps.length ≤ 1000 from fun x hx => by have := (tot_mem la).2 x hx; omega)
    have R1 := Lib.hid (HRB.out.below hb)
    clear hb ht
    go_wp2_with fail
    refine (begun_any w1 s s1 s2 A n c l HLN.out HN3.out R1.out).mono ?_
    rintro e w2 ⟨p, pl, rfl, da, bg, hb⟩
    obtain ⟨q, hq⟩ : ∃ q : Rp, q = ⟨some ⟨w1.heap.size + 1, 0, none⟩, s * 512, s * 512, none, 0, 0, none, 0, 0⟩ := ⟨_, rfl⟩
    have BO0 := Lib.hid (bo_begun da bg s1 s2)
    rw [← hq] at BO0 ⊢
    have HB2 := Lib.hid hb
    obtain ⟨R, hR⟩ : ∃ R : Rf, R = ⟨begB l (s * 512), [], []⟩ := ⟨_, rfl⟩
    have RW := Lib.hid (show R.ws = [] by rw [hR])
    rw [← hR] at BO0
    generalize ofD (begB l (s * 512)) s s = D at BO0
    clear hR hq da bg hb
    have G2 := Lib.hid (show w.heap.size ≤ w2.heap.size from Nat.le_trans B1.out.size HB2.out.size)
    have L0 := Lib.hid (show Lw w (w1.heap.size + 2) p pl D q R 0 s w2.heap.size (w2.alloc (.cells #[.slice q.A1 q.n1 q.c1, .slice q.A2 q.n2 q.c2, .int .i64 0, .slice q.A3 q.n3 q.c3] 34)) from {
      bo := BO0.out.alloc _
      be := (B1.out.trans (HB2.out.mono B1.out.size)).alloc G2.out _
      bg := Blk.new w2 _ _
      ng := fun hk => by have := (BO0.out.da.lt _ hk).1; omega
      nr := fun hk => by have := BO0.out.rf.lt hk; omega
      b0 := by have := B1.out.size; omega
      g0 := G2.out })
    go_wp2_with fail
    generalize w2.alloc (.cells #[.slice q.A1 q.n1 q.c1, .slice q.A2 q.n2 q.c2, .int .i64 0, .slice q.A3 q.n3 q.c3] 34) = W2 at L0 ⊢
    generalize w2.heap.size = g at L0 G2 HB2 ⊢
    obtain ⟨BB, hBB⟩ : ∃ BB, BB = w1.heap.size + 2 := ⟨_, rfl⟩
    rw [← hBB] at L0
    clear BO0 HB2 hBB
    go_loopw [7, 9, 10] (fun dv fv i wr => ∃ (k p : Nat) (pl : Pl) (D : Dk) (q : Rp) (R : Rf) (t : Nat), k ≤ la.length ∧ dv = .pointer (some ⟨p, 0, none⟩) ∧ fv = .bool true ∧ i = .int .i64 (k : Int) ∧ Lw w BB p pl D q R t s g wr ∧ R.ws.length ≤ k ∧ t ≤ k) (fun _ _ i _ => la.length - (intOf i).toNat)
    case atStart => exact ⟨0, p, pl, D, q, R, 0, Nat.zero_le _, rfl, rfl, rfl, L0.out, by rw [RW.out]; exact Nat.le_refl _, Nat.le_refl _⟩
    case round =>
      obtain ⟨k, p, pl, D, q, R, t, hk, rfl, rfl, rfl, hL, hw, ht⟩ := hrel
      clear L0 RW
      have LX := Lib.hid hL
      have WK := Lib.hid hw
      have TK := Lib.hid ht
      clear hL hw ht
      by_cases hlt : k < la.length
      · have i1 : (0 : Int) ≤ (k : Int) := by omega
        have i2 : (k : Int) < (la.length : Int) := by omega
        have kb : k ≤ 1000 := by have := HL40.out; omega
        have TB := Lib.hid (show t ≤ 1000 by have := TK.out; omega)
        have WB := Lib.hid (show R.ws.length ≤ 1000 by have := WK.out; omega)
        obtain ⟨x, hx⟩ : ∃ x, la[k]? = some x := ⟨_, List.getElem?_eq_getElem hlt⟩
        obtain ⟨b, off, rfl, hc⟩ := HR.out k x hx
        have HXR := Lib.hid (show ∀ W, Below w.heap.size w W → W.rangeAt b (off + k * 8) x.cs from fun W hW j u hu => (hW.cell (p := ⟨b, off + k * 8 + j, none⟩) (cell_lt (hc j u hu))).trans (hc j u hu))
        have HXL := Lib.hid (show x.lies wr.drew from (HLS.out x (List.mem_of_getElem? hx)).below (LX.out.be.trans (Below.drew (Below.refl _ wr))))
        have HXS := Lib.hid (HST.out x (List.mem_of_getElem? hx))
        have LD := Lib.hid (show Lw w BB p pl D q R t s g wr.drew from LX.out.next (Below.drew (Below.refl _ wr)))
        clear hx hc
        go_wp2_with fail
        refine wp_region_V (S := fun w' => w'.rangeAt g 0 [.slice q.A1 q.n1 q.c1, .slice q.A2 q.n2 q.c2, .int .i64 (t : Int), .slice q.A3 q.n3 q.c3] ∧ w'.rangeAt b (off + k * 8) x.cs) [6, 7, 8, 9, 10, 11, 12, 13] (by kernel_rfl) ⟨blk_range4 LD.out.bg, HXR.out _ LD.out.be⟩ (fun hHeld => ?_)
        refine wpAnyV_take [] (i := 0) (v := ?v1) rfl (by kernel_rfl) (by kernel_rfl) (by kernel_rfl) (by kernel_rfl) (fun _ _ _ h => h) (Or.inl ⟨by rfl, ?hy1⟩) hHeld ?rest1
        case hy1 =>
          intro w' hSw
          try dsimp only at hSw
          go_simp
          first | done | with_reducible rfl
        try simp only [Act.put, List.getElem_toArray, List.getElem_cons_zero, List.setIfInBounds_toArray, List.set_cons_zero, List.set_cons_succ]
        refine wpAnyV_take [] (i := 1) rfl (by kernel_rfl) (by kernel_rfl) (by kernel_rfl) (by kernel_rfl) (fun _ _ _ h => h) (yieldsIf_load_mid (by rfl) 34 (.tmp 8) (by rfl) g (0) (by rfl) [.slice q.A1 q.n1 q.c1, .slice q.A2 q.n2 q.c2, .int .i64 (t : Int), .slice q.A3 q.n3 q.c3] _ (fun w' hSw => hSw.1) Try.underlying34 rfl size43) hHeld ?_
        try simp only [Act.put, List.getElem_toArray, List.getElem_cons_succ, List.getElem_cons_zero, List.setIfInBounds_toArray, List.set_cons_zero, List.set_cons_succ]
        refine wpAnyV_take [4, 5] (i := 2) (v := ?v2) rfl (by kernel_rfl) (by kernel_rfl) (by kernel_rfl) (by kernel_rfl) (fun _ _ _ h => h) (Or.inl ⟨by rfl, ?hy2⟩) hHeld ?rest2
        case hy2 =>
          intro w' hSw
          try dsimp only at hSw
          go_simp
          first | done | with_reducible rfl
        try simp only [Act.put, List.getElem_toArray, List.getElem_cons_succ, List.getElem_cons_zero, List.setIfInBounds_toArray, List.set_cons_zero, List.set_cons_succ]
        refine wpAnyV_take [4, 5] (i := 3) (v := ?v3) rfl (by kernel_rfl) (by kernel_rfl) (by kernel_rfl) (by kernel_rfl) (fun _ _ _ h => h) (Or.inl ⟨by rfl, ?hy3⟩) hHeld ?rest3
        case hy3 =>
          intro w' hSw
          try dsimp only at hSw
          go_simp
          first | done | with_reducible rfl
        try simp only [Act.put, List.getElem_toArray, List.getElem_cons_succ, List.getElem_cons_zero, List.setIfInBounds_toArray, List.set_cons_zero, List.set_cons_succ]
        refine wpAnyV_take [5] (i := 4) (v := ?v4) rfl (by kernel_rfl) (by kernel_rfl) (by kernel_rfl) (by kernel_rfl) (fun _ _ _ h => h) (Or.inl ⟨by rfl, ?hy4⟩) hHeld ?rest4
        case hy4 =>
          intro w' hSw
          try dsimp only at hSw
          go_simp
          first | done | with_reducible rfl
        try simp only [Act.put, List.getElem_toArray, List.getElem_cons_succ, List.getElem_cons_zero, List.setIfInBounds_toArray, List.set_cons_zero, List.set_cons_succ]
        refine wpAnyV_take [] (i := 5) rfl (by kernel_rfl) (by kernel_rfl) (by kernel_rfl) (by kernel_rfl) (fun _ _ _ h => h) (yieldsIf_load_mid (by rfl) 28 (.tmp 46) (by rfl) b (off + k * 8) (by rfl) x.cs _ (fun w' hSw => hSw.2) Try.underlying28 rfl size_act) hHeld ?_
        try simp only [Act.put, List.getElem_toArray, List.getElem_cons_succ, List.getElem_cons_zero, List.setIfInBounds_toArray, List.set_cons_zero, List.set_cons_succ]
        refine wpAnyV_one (i := 6) (by kernel_rfl) (by rfl) (fun K hK => ?_)
        go_simp
        refine (act_any LD.out.bo TB.out WB.out x HXL.out HXS.out).mono ?_
        rintro e W4 ⟨R', t', ⟨p', pl', D', q', rfl, bo, hf, hpl, hat⟩, hw', ht'⟩
        have JG := Lib.hid (LD.out.kept hf)
        have BO4 := Lib.hid bo
        have FR4 := Lib.hid hf
        have HP4 := Lib.hid hpl
        have HA4 := Lib.hid hat
        have HW4 := Lib.hid (show R'.ws.length ≤ k + 1 by have := WK.out; omega)
        have HT4 := Lib.hid (show t' ≤ k + 1 by have := TK.out; omega)
        clear hHeld bo hf hpl hat hw' ht'
        refine hK.out _ _ (.inl (by decide)) (fun hHeld => ?_)
        clear hK K
        try simp only [Act.put, List.getElem_toArray, List.getElem_cons_succ, List.getElem_cons_zero, List.setIfInBounds_toArray, List.set_cons_zero, List.set_cons_succ]
        refine wpAnyV_takeT (i := 7) (v := ?v5) rfl (by kernel_rfl) (by kernel_rfl) (by kernel_rfl) (by rfl) (fun _ _ _ h => h) (Or.inl ⟨by rfl, ?hy5⟩) ?rest5
        case hy5 =>
          intro w' hSw
          try dsimp only at hSw
          go_simp
          first | done | with_reducible rfl
        try simp only [Act.put, List.getElem_toArray, List.getElem_cons_succ, List.getElem_cons_zero, List.setIfInBounds_toArray, List.set_cons_zero, List.set_cons_succ]
        refine wpAnyV_takeT (i := 8) (v := ?v6) rfl (by kernel_rfl) (by kernel_rfl) (by kernel_rfl) (by rfl) (fun _ _ _ h => h) (Or.inl ⟨by rfl, ?hy6⟩) ?rest6
        case hy6 =>
          intro w' hSw
          try dsimp only at hSw
          go_simp
          first | done | with_reducible rfl
        try simp only [Act.put, List.getElem_toArray, List.getElem_cons_succ, List.getElem_cons_zero, List.setIfInBounds_toArray, List.set_cons_zero, List.set_cons_succ]
        refine wpAnyV_takeT (i := 9) (v := ?v7) rfl (by kernel_rfl) (by kernel_rfl) (by kernel_rfl) (by rfl) (fun _ _ _ h => h) (Or.inl ⟨by rfl, ?hy7⟩) ?rest7
        case hy7 =>
          intro w' hSw
          try dsimp only at hSw
          go_simp
          first | done | with_reducible rfl
        try simp only [Act.put, List.getElem_toArray, List.getElem_cons_succ, List.getElem_cons_zero, List.setIfInBounds_toArray, List.set_cons_zero, List.set_cons_succ]
        refine wpAnyV_takeT (i := 10) (v := ?v8) rfl (by kernel_rfl) (by kernel_rfl) (by kernel_rfl) (by rfl) (fun _ _ _ h => h) (Or.inl ⟨by rfl, ?hy8⟩) ?rest8
        case hy8 =>
          intro w' hSw
          try dsimp only at hSw
          go_simp
          first | done | with_reducible rfl
        try simp only [Act.put, List.getElem_toArray, List.getElem_cons_succ, List.getElem_cons_zero, List.setIfInBounds_toArray, List.set_cons_zero, List.set_cons_succ]
        refine wpAnyV_takeT (i := 11) (v := ?v9) rfl (by kernel_rfl) (by kernel_rfl) (by kernel_rfl) (by rfl) (fun _ _ _ h => h) (Or.inl ⟨by rfl, ?hy9⟩) ?rest9
        case hy9 =>
          intro w' hSw
          try dsimp only at hSw
          go_simp
          first | done | with_reducible rfl
        try simp only [Act.put, List.getElem_toArray, List.getElem_cons_succ, List.getElem_cons_zero, List.setIfInBounds_toArray, List.set_cons_zero, List.set_cons_succ]
        refine wpAnyV_one (i := 12) (by kernel_rfl) (by rfl) (fun K hK => ?_)
        refine step_store_whole rfl 34 (.tmp 8) (.tmp 50) rfl (by rfl) #[.slice q'.A1 q'.n1 q'.c1, .slice q'.A2 q'.n2 q'.c2, .int .i64 (t' : Int), .slice q'.A3 q'.n3 q'.c3] #[.slice q.A1 q.n1 q.c1, .slice q.A2 q.n2 q.c2, .int .i64 (t : Int), .slice q.A3 q.n3 q.c3] 34 (by rfl) JG.out (size43c _ _ _ _) rfl (one43 _ _ _ _ _ _ _ _ _ _) ?_
        intro m8 j8 f8
        have L8 := Lib.hid (LD.out.went BO4.out FR4.out HP4.out HA4.out j8 f8)
        clear hHeld j8 f8
        refine hK.out _ _ (.inl (by decide)) (fun hHeld => ?_)
        clear hK K
        try simp only [Act.put, List.getElem_toArray, List.getElem_cons_succ, List.getElem_cons_zero]
        refine wpAnyV_one (i := 13) (by kernel_rfl) (by rfl) (fun K hK => ?_)
        go_simp
        refine hK.out _ _ (.inl (by decide)) (fun hHeld => ?_)
        clear hK K
        try simp only [Act.put, List.getElem_toArray, List.getElem_cons_succ, List.getElem_cons_zero, List.setIfInBounds_toArray, List.set_cons_zero, List.set_cons_succ]
        refine wpAnyV_done (by kernel_rfl) ?_ _
        refine OnlyN.normal ?_
        clear hHeld
        go_wp2_with (first
          | (refine wpList_yieldsD (S := fun w' => w'.rangeAt g 0 [.slice q'.A1 q'.n1 q'.c1, .slice q'.A2 q'.n2 q'.c2, .int .i64 (t' : Int), .slice q'.A3 q'.n3 q'.c3]) (yieldsIf_load_mid (by rfl) 34 (.tmp 8) (by rfl) g 0 (by rfl) [.slice q'.A1 q'.n1 q'.c1, .slice q'.A2 q'.n2 q'.c2, .int .i64 (t' : Int), .slice q'.A3 q'.n3 q'.c3] _ (fun w' hSw => hSw) Try.underlying34 rfl size43) (blk_range4 L8.out.bg) ?_)
          | (go_at_call 15; refine (stands_any L8.out.bo.da L8.out.bo.rf L8.out.bo.al).mono ?_; rintro e W9 ⟨rfl, hb9⟩; have L9 := Lib.hid (L8.out.next hb9); clear hb9))
        go_roundw
        case rel => exact ⟨k + 1, p', pl', D', q', R', t', by omega, rfl, rfl, by go_num, L9.out, HW4.out, HT4.out⟩
        case measure => simp [intOf]; omega
      · obtain rfl : k = la.length := by omega
        have i2 : ¬ ((la.length : Nat) : Int) < (la.length : Int) := by omega
        have BX := Lib.hid LX.out.be
        go_wp2_with (go_at_call 9; refine (works_any _).mono ?_; rintro e w9 ⟨rfl, hb9⟩; have B9 := Lib.hid (BX.out.trans (hb9.mono BX.out.size)); clear hb9)
        go_ret
        exact ⟨rfl, B9.out⟩
set_option maxRecDepth 8000 in
theorem walk (w : World) (s : Int) (A : Option Addr) (n c : Nat) (l : List UInt8) (hn : l.length = n) (hr : Rd w A l) (SA : Option Addr) (sc : Nat) (la : List Ac) (hra : RdA w SA la) (hls : ∀ x ∈ la, x.lies w) (hlb : la.length ≤ 140737488351232) :
    Calls Try.prog 4 #[.int .i64 s, .slice A n c, .slice SA la.length sc] w fun e w' => e = .returned (.bool true) ∧ Below w.heap.size w w' := by
  by_cases h : (s < 1 ∨ 12 < s) ∨ 3000 < n
  · exact walk_size w s A n c SA la.length sc h
  · obtain ⟨q, rfl⟩ : ∃ q : Nat, s = (q : Int) := ⟨s.toNat, by omega⟩
    exact walk_main w q (by omega) (by omega) A n c l hn (by omega) hr SA sc la hra hls hlb
set_option maxRecDepth 100000 in
theorem lifted (os : Os) (started : os.Started) (H : Type) (enc : TypeId × Value → H) :
    ReturnsInHanded {} Try.checked os 4 .any (Rows.diskPlaysSpec.pre6 enc Try.prog Try.f4 Rows.diskPlaysRow.domain false) (Rows.diskPlaysSpec.post enc Try.prog Try.f4 false true false false) := by
  refine returnsInHanded_of_change_sized (C := Try.checked) own started (by kernel_rfl) Try.func4
    (ChangeSpec.witness6 (enc := enc) (C := Try.checked) false ⟨#[], #[.int .i64 0, .slice none 0 0, .slice none 0 0], []⟩ 8 (by kernel_rfl) (by kernel_rfl) (by kernel_rfl) (by kernel_rfl)) ?_
  intro W base args ds gs before hval0 hW hcnd hsz _
  have hval : ∀ (j : Nat) t v, Try.f4.params[j]? = some t → args[j]? = some v → Value.okWide Try.prog W .any base t v := hval0
  have hW' := hW
  obtain ⟨p, q, hA0, hV, rfl, hfz, hnd⟩ := hW
  have hA : DataW.TrodAll enc Try.prog W 0 (fun _ => true) true Try.f4.params.toList args.toList ds p := hA0
  rw [Try.params4] at hA hval hsz
  obtain ⟨v0, vs0, d0, ds0, p0, q0, hargs, rfl, rfl, h0, t0⟩ := trodAll_cons hA
  obtain ⟨v1, vs1, d1, ds1, p1, q1, rfl, rfl, rfl, h1, t1⟩ := trodAll_cons t0
  obtain ⟨v2, vs2, d2, ds2, p2, q2, rfl, rfl, rfl, h2, t2⟩ := trodAll_cons t1
  obtain ⟨rfl, rfl, rfl⟩ := trodAll_nil t2
  obtain rfl : args = #[v0, v1, v2] := by cases args; simp_all
  obtain ⟨rfl, rfl⟩ := trodVars_none hV
  have k0 := h0
  have lt0 : ∀ x ∈ p0, x.block < W.heap.size := by obtain ⟨m, hm⟩ := k0; exact DataW.trod_lt m _ _ _ hm
  obtain ⟨a0, rfl, rfl, rfl, f0⟩ := open_int Try.underlying3 (hval 0 3 v0 rfl rfl) h0
  have k1 := h1
  have lt1 : ∀ x ∈ p1, x.block < W.heap.size := by obtain ⟨m, hm⟩ := k1; exact DataW.trod_lt m _ _ _ hm
  obtain ⟨A1, n1, c1, l1, rfl, hl1, hc1, hr1⟩ := open_bytes (hval 1 22 v1 rfl rfl) h1
  have k2 := h2
  have lt2 : ∀ x ∈ p2, x.block < W.heap.size := by obtain ⟨m, hm⟩ := k2; exact DataW.trod_lt m _ _ _ hm
  obtain ⟨A2, l2, c2, rfl, hr2, hs2, hb2⟩ := open_acts (hval 2 47 v2 rfl rfl) h2 (fun q hq => by have := List.all_eq_true.1 hsz q (DataW.weights_mem_each (j := 2) (t := 47) (d := d2) rfl rfl q hq); simpa using this)
  clear hA0 hval0
  refine (walk W a0 A1 n1 c1 l1 hl1 hr1 A2 c2 l2 hr2 hs2 hb2).mono fun e W' ⟨he, bel⟩ => ?_
  subst he
  exact ⟨_, rfl, _, _, _, [], _, [], hW', trodAll_mk1 (shut_bool Try.underlying4 _), (trodAll_cons_mk (shut_int Try.underlying3 f0) (trodAll_cons_mk (Below.trod laidOut (by kernel_rfl) (of_decide_eq_true (by kernel_rfl)) k1 bel lt1) (trodAll_cons_mk (Below.trod laidOut (by kernel_rfl) (of_decide_eq_true (by kernel_rfl)) k2 bel lt2) trodAll_mk0))), rfl, bel.frame _, fun h => by cases h⟩
theorem over : Rows.diskPlaysRow.holds Try.pinned (OpenSpec.ofChange Rows.diskPlaysSpec) :=
  OpenClaim.holds_of_wide 4 Try.f4 rfl rfl rfl rfl rfl rfl rfl ⟨rfl, rfl, rfl, rfl, rfl⟩ rfl rfl rfl rfl rfl (by kernel_rfl) Try.func4 (by kernel_rfl)
    (of_decide_eq_true (by kernel_rfl)) (by unfold Func.isWrapper; first | (rw [if_pos (by decide +kernel)]; kernel_rfl) | (rw [if_neg (by decide +kernel)]; exact ⟨rfl, rfl⟩))
    (fun os started H enc _ => lifted os started H enc)
theorem proved : Rows.DiskPlaysSaid := over
end Go.Proofs.Ytgjamgojjajcnaa.diskPlays

/- nodes: got. -/
import Derived.Test.YtliakhknmckdgaaDoorNAsk
import Derived.Test.YtliakhknmckdgaaDoorR09
import Derived.Test.YtliakhknmckdgaaDoorR05
namespace Go.Proofs.YtliakhknmckdgaaDoor
open Go.RowKit
set_option maxRecDepth 8000 in
theorem named_of {os : List Oj} {x : Ky} (h : (named os x).isSome = true) : x.of := by
  by_cases hf : x.of
  · exact hf
  · rw [named_not hf] at h
    cases h
set_option maxRecDepth 8000 in
theorem cn_ok {x : Ky} {o : Oj} (h : x.cn o = true) : x.ok := by
  unfold Ky.cn Ky.cnt at h
  simp only [decide_eq_true_eq] at h
  exact h.1
set_option maxRecDepth 8000 in
theorem prepd_ok (os : List Oj) (y : Ky) : (prepd os y).ok := by
  unfold prepd
  by_cases h : ((named os y).isSome || y.cn oz) = true
  · rw [if_pos h]
    simp only [Bool.or_eq_true] at h
    rcases h with h | h
    · exact (named_of h).1
    · exact cn_ok h
  · rw [if_neg h]
    exact zk_ok
/-- what is got by a key of what a slot has -/
noncomputable def gotK (os : List Oj) (x y : Ky) : Ky := if x.r / 2 % 2 = 1 then (prepd os y).weak else prepd os y
section
variable {ops : Array Oper} {o : Oper} {a : Act} {w : World} {K : Act → World → Prop} {Q : Exit → Act → World → Prop} {E : Prop} {P : Program}
set_option maxRecDepth 8000 in
theorem step_alloc30 (hgd : o.guard = none) (ho : o.op = .alloc 32)
    (h : ∀ g w', g = w.heap.size → w' = w.alloc (.cells (kl zk).toArray 32) → K (a.put o.dst (.pointer (some ⟨g, 0, none⟩))) w') :
    if Region.wanted o (yielded ops a.tmps) = true then Oper.wp Tryd.prog o a w K Q else E := by
  have hw : Region.wanted o (yielded ops a.tmps) = true := by simp [Region.wanted, hgd]
  rw [if_pos hw]
  unfold Oper.wp
  simp [execOp, ho, Result.andThen]
  exact h _ _ rfl rfl
set_option maxRecDepth 8000 in
theorem step_store_big {t ty : TypeId} {b : Nat} {l0 l : List Value} (hb : Blk w b t l0.toArray) (hgd : o.guard = none) (x y : Operand) (ho : o.op = .store ty x y) (hx : a.eval x = .pointer (some ⟨b, 0, none⟩)) (hy : a.eval y = .agg l.toArray) (hs : (P.info? ty).map (·.size) = some l.length) (hl : l0.length = l.length) (h1 : ∀ u ∈ l, u.oneCell' = true)
    (h : K (a.put o.dst undef) (w.setRow b l.toArray)) : if Region.wanted o (yielded ops a.tmps) = true then Oper.wp P o a w K Q else E := by
  rw [if_pos (by simp [Region.wanted, hgd])]
  exact wp_store_row ty x y ho b l.toArray hx hy t l0.toArray hb (by rw [List.size_toArray]; exact hs) (by rw [List.size_toArray, List.size_toArray, hl]) (all_one h1) h
end
section
variable {w : World} {base p : Nat} {A : Option Addr} {cap : Nat} {ps : List Nat} {os : List Oj}
set_option maxRecDepth 8000 in
theorem KeyAt.at_heap {w w' : World} {b o : Nat} {x : Ky} (h : KeyAt w b o x) (hk : w'.heap[b]? = w.heap[b]?) : KeyAt w' b o x := by
  obtain ⟨h0, h1, h2, h3, h4, h5⟩ := h
  exact ⟨(World.cell?_of_block (a := ⟨b, o, none⟩) hk).trans h0, (World.cell?_of_block (a := ⟨b, o + 1, none⟩) hk).trans h1, (World.cell?_of_block (a := ⟨b, o + 2, none⟩) hk).trans h2, (World.cell?_of_block (a := ⟨b, o + 3, none⟩) hk).trans h3, (World.cell?_of_block (a := ⟨b, o + 4, none⟩) hk).trans h4, (World.cell?_of_block (a := ⟨b, o + 5, none⟩) hk).trans h5⟩
set_option maxRecDepth 8000 in
theorem slot6 {g off i : Nat} {y : Ky} (h : KeyAt w g (off + 7 + 3 + i * 6) y) : KeyAt w g (off + 10 + i * 6) y := by
  rw [show off + 10 + i * 6 = off + 7 + 3 + i * 6 by omega]
  exact h
set_option maxRecDepth 100000 in
set_option maxHeartbeats 4000000 in
theorem got_plain (h : StAt w base p A cap ps os) (hn : 0 < os.length) (hT : Tab w) (x : Ky) (u : Oj) (i : Nat) (hi : i < 16) (y : Ky) (hy : u.s[i]? = some y) (hok : x.ok) (hr : x.r / 2 % 2 ≠ 1) :
    Calls Tryd.prog 37 #[akv p x u, .int .i64 (i : Int)] w fun e w' => e = .returned (prepd os y).val ∧ Below w.heap.size w w' := by
  obtain ⟨_, r, hr', _, hr8⟩ := ok_of hok
  have ha := and2 r hr' hr8
  have hd : (((r / 2 % 2 * 2 : Nat) : Int) == 0) = true := by rw [hr'] at hr; simp; omega
  obtain ⟨v, hv⟩ : ∃ v, prepd os y = v := ⟨_, rfl⟩
  have HV := Lib.hid hv
  have HVO := Lib.hid (show v.ok from hv ▸ prepd_ok os y)
  rw [hv]
  have hbl := akc_len p x u
  have HN := Lib.hid hn
  have HT0 := Lib.hid ((hT.alloc (.cells (akc p x u).toArray 87)).alloc (.cells (kl zk).toArray 32))
  have HS0 := Lib.hid ((h.alloc (.cells (akc p x u).toArray 87)).alloc (.cells (kl zk).toArray 32))
  have HB0 := Lib.hid (((Below.refl w.heap.size w).alloc (Nat.le_refl _) (.cells (akc p x u).toArray 87)).alloc (by simp) (.cells (kl zk).toArray 32))
  have HK0 := Lib.hid ((Blk.new w 87 (akc p x u).toArray).alloc (.cells (kl zk).toArray 32))
  have HA0 := Lib.hid (Blk.new_of (w.alloc (.cells (akc p x u).toArray 87)) 32 (kl zk).toArray (g := w.heap.size + 1) (by simp))
  have HY0 : Hid (KeyAt ((w.alloc (.cells (akc p x u).toArray 87)).alloc (.cells (kl zk).toArray 32)) w.heap.size (10 + i * 6) y) := Lib.hid (by
    obtain ⟨y', hy', hk⟩ := HK0.out.ak.node.slot hi
    rw [hy] at hy'
    injection hy' with hy'
    subst hy'
    have := slot6 hk
    rwa [Nat.zero_add] at this)
  have d16 : (i : Int) < 16 := by omega
  have HI := Lib.hid hi
  clear hT h hn hv hy hok hr hr'
  go_enter Tryd.func37, Tryd.ntmps37
  go_wp2_with fail
  refine wp_region_only (S := fun w' => w'.cell? ⟨w.heap.size, 0, none⟩ = some (pv p) ∧ w'.cell? ⟨w.heap.size, 10 + i * 6, none⟩ = some (.int .i64 y.k) ∧ w'.cell? ⟨w.heap.size, 10 + i * 6 + 1, none⟩ = some (.int .i64 y.o) ∧ w'.cell? ⟨w.heap.size, 10 + i * 6 + 2, none⟩ = some (.int .i64 y.c) ∧ w'.cell? ⟨w.heap.size, 10 + i * 6 + 3, none⟩ = some (.int .i64 y.l) ∧ w'.cell? ⟨w.heap.size, 10 + i * 6 + 4, none⟩ = some (.int .i64 y.r) ∧ w'.cell? ⟨w.heap.size, 10 + i * 6 + 5, none⟩ = some (.int .i64 y.v)) (by kernel_rfl) ⟨HK0.out.drew.ak.p0, HY0.out.drew.six⟩ (fun hHeld => ?_)
  refine wpAnyH_take (i := 0) (v := ?v1) rfl (by kernel_rfl) (by kernel_rfl) (by kernel_rfl) (fun _ _ _ h => h) (Or.inl ⟨by rfl, ?hy1⟩) hHeld ?rest1
  case hy1 =>
    intro w' hSw
    try dsimp only at hSw
    go_simp
    first | done | with_reducible rfl
  try simp only [Act.put, List.getElem_toArray, List.getElem_cons_zero, List.setIfInBounds_toArray, List.set_cons_zero, List.set_cons_succ]
  refine wpAnyH_take (i := 1) (v := ?v2) rfl (by kernel_rfl) (by kernel_rfl) (by kernel_rfl) (fun _ _ _ h => h) (Or.inl ⟨by rfl, ?hy2⟩) hHeld ?rest2
  case hy2 =>
    intro w' hSw
    try dsimp only at hSw
    go_simp
    first | done | with_reducible rfl
  try simp only [Act.put, List.getElem_toArray, List.getElem_cons_succ, List.getElem_cons_zero, List.setIfInBounds_toArray, List.set_cons_zero, List.set_cons_succ]
  refine wpAnyH_take (i := 2) (v := ?v3) rfl (by kernel_rfl) (by kernel_rfl) (by kernel_rfl) (fun _ _ _ h => h) (Or.inl ⟨by rfl, ?hy3⟩) hHeld ?rest3
  case hy3 =>
    intro w' hSw
    try dsimp only at hSw
    go_simp
    first | done | with_reducible rfl
  try simp only [Act.put, List.getElem_toArray, List.getElem_cons_succ, List.getElem_cons_zero, List.setIfInBounds_toArray, List.set_cons_zero, List.set_cons_succ]
  refine wpAnyH_take (i := 3) (v := ?v4) rfl (by kernel_rfl) (by kernel_rfl) (by kernel_rfl) (fun _ _ _ h => h) (Or.inl ⟨by rfl, ?hy4⟩) hHeld ?rest4
  case hy4 =>
    intro w' hSw
    try dsimp only at hSw
    go_simp
    first | done | with_reducible rfl
  try simp only [Act.put, List.getElem_toArray, List.getElem_cons_succ, List.getElem_cons_zero, List.setIfInBounds_toArray, List.set_cons_zero, List.set_cons_succ]
  refine wpAnyH_take (i := 4) (v := ?v5) rfl (by kernel_rfl) (by kernel_rfl) (by kernel_rfl) (fun _ _ _ h => h) (Or.inl ⟨by rfl, ?hy5⟩) hHeld ?rest5
  case hy5 =>
    intro w' hSw
    try dsimp only at hSw
    go_simp
    first | done | with_reducible rfl
  try simp only [Act.put, List.getElem_toArray, List.getElem_cons_succ, List.getElem_cons_zero, List.setIfInBounds_toArray, List.set_cons_zero, List.set_cons_succ]
  refine wpAnyH_take (i := 5) (v := ?v6) rfl (by kernel_rfl) (by kernel_rfl) (by kernel_rfl) (fun _ _ _ h => h) (Or.inl ⟨by rfl, ?hy6⟩) hHeld ?rest6
  case hy6 =>
    intro w' hSw
    try dsimp only at hSw
    go_simp
    first | done | with_reducible rfl
  try simp only [Act.put, List.getElem_toArray, List.getElem_cons_succ, List.getElem_cons_zero, List.setIfInBounds_toArray, List.set_cons_zero, List.set_cons_succ]
  refine wpAnyH_take (i := 6) (v := ?v7) rfl (by kernel_rfl) (by kernel_rfl) (by kernel_rfl) (fun _ _ _ h => h) (Or.inl ⟨by rfl, ?hy7⟩) hHeld ?rest7
  case hy7 =>
    intro w' hSw
    try dsimp only at hSw
    go_simp
    first | done | with_reducible rfl
  try simp only [Act.put, List.getElem_toArray, List.getElem_cons_succ, List.getElem_cons_zero, List.setIfInBounds_toArray, List.set_cons_zero, List.set_cons_succ]
  refine wpAnyH_ready (rs := [7, 8]) (by kernel_rfl) (by simp) ?_
  refine AllReadyH.cons (by rfl) (fun K hK => ?_) (AllReadyH.cons (by rfl) (fun K hK => ?_) AllReadyH.nil)
  · go_simp
    refine (HV.out ▸ prep_at (HS0.out.drew) HN.out (HT0.out.drew) y).mono ?_
    rintro e w2 ⟨rfl, b2⟩
    have HB2 := Lib.hid ((below_drew HB0.out).trans (b2.mono (below_drew HB0.out).size))
    have HK2 := Lib.hid ((HK0.out.drew).keep b2)
    have HA2 := Lib.hid ((HA0.out.drew).keep b2)
    have HY2 := Lib.hid ((HY0.out.drew).keep b2)
    clear b2 hHeld
    go_wp2_with fail
    refine hK.out _ _ ⟨HK2.out.ak.p0, HY2.out.six⟩ (fun hHeld => ?_)
    clear hK K
    try simp only [Act.put, List.getElem_toArray, List.getElem_cons_succ, List.getElem_cons_zero, List.setIfInBounds_toArray, List.set_cons_zero, List.set_cons_succ]
    refine wpAnyH_ready (rs := [8]) (by kernel_rfl) (by simp) ?_
    refine AllReadyH.cons (by rfl) (fun K hK => ?_) AllReadyH.nil
    refine step_alloc30 rfl (by rfl) ?_
    intro g3 w3 hg hw
    have HGE3 := Lib.hid (show w.heap.size + 2 ≤ g3 by have h1 := HB2.out.size; have h2 := HB0.out.size; have h3 := HA2.out.lt; subst hg; simp at h3 ⊢; try omega)
    have HB3 := Lib.hid (show Below w.heap.size w w3 by subst hw; exact HB2.out.alloc HB2.out.size _)
    have HK3 := Lib.hid (show Blk w3 w.heap.size _ _ by subst hw; exact (HK2.out).alloc _)
    have HA3 := Lib.hid (show Blk w3 (w.heap.size + 1) _ _ by subst hw; exact (HA2.out).alloc _)
    have HY3 := Lib.hid (show KeyAt w3 w.heap.size (10 + i * 6) y by subst hw; exact (HY2.out).alloc _)
    have HG3 := Lib.hid (show Blk w3 g3 32 (kl zk).toArray by subst hw hg; exact Blk.new _ _ _)
    clear hg hw hHeld
    refine hK.out _ _ ⟨HK3.out.ak.p0, HY3.out.six⟩ (fun hHeld => ?_)
    clear hK K
    try simp only [Act.put, List.getElem_toArray, List.getElem_cons_succ, List.getElem_cons_zero, List.setIfInBounds_toArray, List.set_cons_zero, List.set_cons_succ]
    refine wpAnyH_ready (rs := [9]) (by kernel_rfl) (by simp) ?_
    refine AllReadyH.cons (by rfl) (fun K hK => ?_) AllReadyH.nil
    refine step_store_big HG3.out rfl (.tmp 5) (.tmp 15) (ty := 32) (l := kl v) rfl (by rfl) (by rfl) size30 rfl (kl_one v) ?_
    have HB9 := Lib.hid (below_setRow HB3.out (show w.heap.size ≤ g3 by have := HGE3.out; omega) (kl v).toArray)
    have HK9 := Lib.hid (Blk.row_far HK3.out (show w.heap.size ≠ g3 by have := HGE3.out; omega) (kl v).toArray)
    have HA9 := Lib.hid (Blk.row_far HA3.out (show w.heap.size + 1 ≠ g3 by have := HGE3.out; omega) (kl v).toArray)
    have HY9 : Hid (KeyAt (w3.setRow g3 (kl v).toArray) w.heap.size (10 + i * 6) y) := Lib.hid (HY3.out.at_heap (setRow_other _ _ _ _ (by have := HGE3.out; omega)))
    have HG9 := Lib.hid (HG3.out.setRow (kl v).toArray)
    generalize w3.setRow g3 (kl v).toArray = W at HB9 HK9 HA9 HY9 HG9 ⊢
    refine hK.out _ _ ⟨HK9.out.ak.p0, HY9.out.six⟩ (fun hHeld => ?_)
    clear hK K
    try simp only [Act.put, List.getElem_toArray, List.getElem_cons_succ, List.getElem_cons_zero]
    refine wpAnyH_done (by kernel_rfl) ?_ _
    refine OnlyN.normal ?_
    clear hHeld
    obtain ⟨k0, k1, k2, k3, k4, k5⟩ := HK9.out.ak.key.six
    obtain ⟨g0, g1, g2, g3, g4, g5⟩ := HG9.out.six
    go_wp2_with (first
      | (refine wpList_store_ky (y := zk) HA9.out rfl (.tmp 4) (.tmp 21) rfl (by rfl) v (by rfl) ?_))
    exact bodyPost_ret (results_key rfl _ _ (w.heap.size + 1) v rfl (HA9.out.setRow _)) rfl ⟨rfl, below_setRow HB9.out (by omega) _⟩
  · refine step_alloc30 rfl (by rfl) ?_
    intro g1 w1 hg hw
    have HGE1 := Lib.hid (show w.heap.size + 2 ≤ g1 by have h1 := (below_drew HB0.out).size; have h2 := HB0.out.size; have h3 := HA0.out.lt; subst hg; simp at h3 ⊢; try omega)
    have HB1 := Lib.hid (show Below w.heap.size w w1 by subst hw; exact (below_drew HB0.out).alloc (below_drew HB0.out).size _)
    have HK1 := Lib.hid (show Blk w1 w.heap.size _ _ by subst hw; exact (HK0.out.drew).alloc _)
    have HA1 := Lib.hid (show Blk w1 (w.heap.size + 1) _ _ by subst hw; exact (HA0.out.drew).alloc _)
    have HY1 := Lib.hid (show KeyAt w1 w.heap.size (10 + i * 6) y by subst hw; exact (HY0.out.drew).alloc _)
    have HG1 := Lib.hid (show Blk w1 g1 32 (kl zk).toArray by subst hw hg; exact Blk.new _ _ _)
    have HS1 := Lib.hid (show StAt w1 base p A cap ps os by subst hw; exact (HS0.out.drew).alloc _)
    have HT1 := Lib.hid (show Tab w1 by subst hw; exact (HT0.out.drew).alloc _)
    clear hg hw hHeld
    refine hK.out _ _ ⟨HK1.out.ak.p0, HY1.out.six⟩ (fun hHeld => ?_)
    clear hK K
    try simp only [Act.put, List.getElem_toArray, List.getElem_cons_succ, List.getElem_cons_zero, List.setIfInBounds_toArray, List.set_cons_zero, List.set_cons_succ]
    refine wpAnyH_ready (rs := [7]) (by kernel_rfl) (by simp) ?_
    refine AllReadyH.cons (by rfl) (fun K hK => ?_) AllReadyH.nil
    go_simp
    refine (HV.out ▸ prep_at (HS1.out) HN.out (HT1.out) y).mono ?_
    rintro e w3 ⟨rfl, b3⟩
    have HB3 := Lib.hid (HB1.out.trans (b3.mono HB1.out.size))
    have HK3 := Lib.hid ((HK1.out).keep b3)
    have HA3 := Lib.hid ((HA1.out).keep b3)
    have HY3 := Lib.hid ((HY1.out).keep b3)
    have HG3 := Lib.hid (HG1.out.keep b3)
    clear b3 hHeld
    go_wp2_with fail
    refine hK.out _ _ ⟨HK3.out.ak.p0, HY3.out.six⟩ (fun hHeld => ?_)
    clear hK K
    try simp only [Act.put, List.getElem_toArray, List.getElem_cons_succ, List.getElem_cons_zero, List.setIfInBounds_toArray, List.set_cons_zero, List.set_cons_succ]
    refine wpAnyH_ready (rs := [9]) (by kernel_rfl) (by simp) ?_
    refine AllReadyH.cons (by rfl) (fun K hK => ?_) AllReadyH.nil
    refine step_store_big HG3.out rfl (.tmp 5) (.tmp 15) (ty := 32) (l := kl v) rfl (by rfl) (by rfl) size30 rfl (kl_one v) ?_
    have HB9 := Lib.hid (below_setRow HB3.out (show w.heap.size ≤ g1 by have := HGE1.out; omega) (kl v).toArray)
    have HK9 := Lib.hid (Blk.row_far HK3.out (show w.heap.size ≠ g1 by have := HGE1.out; omega) (kl v).toArray)
    have HA9 := Lib.hid (Blk.row_far HA3.out (show w.heap.size + 1 ≠ g1 by have := HGE1.out; omega) (kl v).toArray)
    have HY9 : Hid (KeyAt (w3.setRow g1 (kl v).toArray) w.heap.size (10 + i * 6) y) := Lib.hid (HY3.out.at_heap (setRow_other _ _ _ _ (by have := HGE1.out; omega)))
    have HG9 := Lib.hid (HG3.out.setRow (kl v).toArray)
    generalize w3.setRow g1 (kl v).toArray = W at HB9 HK9 HA9 HY9 HG9 ⊢
    refine hK.out _ _ ⟨HK9.out.ak.p0, HY9.out.six⟩ (fun hHeld => ?_)
    clear hK K
    try simp only [Act.put, List.getElem_toArray, List.getElem_cons_succ, List.getElem_cons_zero]
    refine wpAnyH_done (by kernel_rfl) ?_ _
    refine OnlyN.normal ?_
    clear hHeld
    obtain ⟨k0, k1, k2, k3, k4, k5⟩ := HK9.out.ak.key.six
    obtain ⟨g0, g1, g2, g3, g4, g5⟩ := HG9.out.six
    go_wp2_with (first
      | (refine wpList_store_ky (y := zk) HA9.out rfl (.tmp 4) (.tmp 21) rfl (by rfl) v (by rfl) ?_))
    exact bodyPost_ret (results_key rfl _ _ (w.heap.size + 1) v rfl (HA9.out.setRow _)) rfl ⟨rfl, below_setRow HB9.out (by omega) _⟩
set_option maxRecDepth 100000 in
set_option maxHeartbeats 4000000 in
theorem got_weak (h : StAt w base p A cap ps os) (hn : 0 < os.length) (hT : Tab w) (x : Ky) (u : Oj) (i : Nat) (hi : i < 16) (y : Ky) (hy : u.s[i]? = some y) (hok : x.ok) (hr : x.r / 2 % 2 = 1) :
    Calls Tryd.prog 37 #[akv p x u, .int .i64 (i : Int)] w fun e w' => e = .returned (prepd os y).weak.val ∧ Below w.heap.size w w' := by
  obtain ⟨_, r, hr', _, hr8⟩ := ok_of hok
  have ha := and2 r hr' hr8
  have hd : (((r / 2 % 2 * 2 : Nat) : Int) == 0) = false := by rw [hr'] at hr; simp; omega
  obtain ⟨v, hv⟩ : ∃ v, prepd os y = v := ⟨_, rfl⟩
  have HV := Lib.hid hv
  have HVO := Lib.hid (show v.ok from hv ▸ prepd_ok os y)
  rw [hv]
  have hbl := akc_len p x u
  have HN := Lib.hid hn
  have HT0 := Lib.hid ((hT.alloc (.cells (akc p x u).toArray 87)).alloc (.cells (kl zk).toArray 32))
  have HS0 := Lib.hid ((h.alloc (.cells (akc p x u).toArray 87)).alloc (.cells (kl zk).toArray 32))
  have HB0 := Lib.hid (((Below.refl w.heap.size w).alloc (Nat.le_refl _) (.cells (akc p x u).toArray 87)).alloc (by simp) (.cells (kl zk).toArray 32))
  have HK0 := Lib.hid ((Blk.new w 87 (akc p x u).toArray).alloc (.cells (kl zk).toArray 32))
  have HA0 := Lib.hid (Blk.new_of (w.alloc (.cells (akc p x u).toArray 87)) 32 (kl zk).toArray (g := w.heap.size + 1) (by simp))
  have HY0 : Hid (KeyAt ((w.alloc (.cells (akc p x u).toArray 87)).alloc (.cells (kl zk).toArray 32)) w.heap.size (10 + i * 6) y) := Lib.hid (by
    obtain ⟨y', hy', hk⟩ := HK0.out.ak.node.slot hi
    rw [hy] at hy'
    injection hy' with hy'
    subst hy'
    have := slot6 hk
    rwa [Nat.zero_add] at this)
  have d16 : (i : Int) < 16 := by omega
  have HI := Lib.hid hi
  have HTab := Lib.hid hT
  clear hT h hn hv hy hok hr hr'
  go_enter Tryd.func37, Tryd.ntmps37
  go_wp2_with fail
  refine wp_region_only (S := fun w' => w'.cell? ⟨w.heap.size, 0, none⟩ = some (pv p) ∧ w'.cell? ⟨w.heap.size, 10 + i * 6, none⟩ = some (.int .i64 y.k) ∧ w'.cell? ⟨w.heap.size, 10 + i * 6 + 1, none⟩ = some (.int .i64 y.o) ∧ w'.cell? ⟨w.heap.size, 10 + i * 6 + 2, none⟩ = some (.int .i64 y.c) ∧ w'.cell? ⟨w.heap.size, 10 + i * 6 + 3, none⟩ = some (.int .i64 y.l) ∧ w'.cell? ⟨w.heap.size, 10 + i * 6 + 4, none⟩ = some (.int .i64 y.r) ∧ w'.cell? ⟨w.heap.size, 10 + i * 6 + 5, none⟩ = some (.int .i64 y.v)) (by kernel_rfl) ⟨HK0.out.drew.ak.p0, HY0.out.drew.six⟩ (fun hHeld => ?_)
  refine wpAnyH_take (i := 0) (v := ?v8) rfl (by kernel_rfl) (by kernel_rfl) (by kernel_rfl) (fun _ _ _ h => h) (Or.inl ⟨by rfl, ?hy8⟩) hHeld ?rest8
  case hy8 =>
    intro w' hSw
    try dsimp only at hSw
    go_simp
    first | done | with_reducible rfl
  try simp only [Act.put, List.getElem_toArray, List.getElem_cons_zero, List.setIfInBounds_toArray, List.set_cons_zero, List.set_cons_succ]
  refine wpAnyH_take (i := 1) (v := ?v9) rfl (by kernel_rfl) (by kernel_rfl) (by kernel_rfl) (fun _ _ _ h => h) (Or.inl ⟨by rfl, ?hy9⟩) hHeld ?rest9
  case hy9 =>
    intro w' hSw
    try dsimp only at hSw
    go_simp
    first | done | with_reducible rfl
  try simp only [Act.put, List.getElem_toArray, List.getElem_cons_succ, List.getElem_cons_zero, List.setIfInBounds_toArray, List.set_cons_zero, List.set_cons_succ]
  refine wpAnyH_take (i := 2) (v := ?v10) rfl (by kernel_rfl) (by kernel_rfl) (by kernel_rfl) (fun _ _ _ h => h) (Or.inl ⟨by rfl, ?hy10⟩) hHeld ?rest10
  case hy10 =>
    intro w' hSw
    try dsimp only at hSw
    go_simp
    first | done | with_reducible rfl
  try simp only [Act.put, List.getElem_toArray, List.getElem_cons_succ, List.getElem_cons_zero, List.setIfInBounds_toArray, List.set_cons_zero, List.set_cons_succ]
  refine wpAnyH_take (i := 3) (v := ?v11) rfl (by kernel_rfl) (by kernel_rfl) (by kernel_rfl) (fun _ _ _ h => h) (Or.inl ⟨by rfl, ?hy11⟩) hHeld ?rest11
  case hy11 =>
    intro w' hSw
    try dsimp only at hSw
    go_simp
    first | done | with_reducible rfl
  try simp only [Act.put, List.getElem_toArray, List.getElem_cons_succ, List.getElem_cons_zero, List.setIfInBounds_toArray, List.set_cons_zero, List.set_cons_succ]
  refine wpAnyH_take (i := 4) (v := ?v12) rfl (by kernel_rfl) (by kernel_rfl) (by kernel_rfl) (fun _ _ _ h => h) (Or.inl ⟨by rfl, ?hy12⟩) hHeld ?rest12
  case hy12 =>
    intro w' hSw
    try dsimp only at hSw
    go_simp
    first | done | with_reducible rfl
  try simp only [Act.put, List.getElem_toArray, List.getElem_cons_succ, List.getElem_cons_zero, List.setIfInBounds_toArray, List.set_cons_zero, List.set_cons_succ]
  refine wpAnyH_take (i := 5) (v := ?v13) rfl (by kernel_rfl) (by kernel_rfl) (by kernel_rfl) (fun _ _ _ h => h) (Or.inl ⟨by rfl, ?hy13⟩) hHeld ?rest13
  case hy13 =>
    intro w' hSw
    try dsimp only at hSw
    go_simp
    first | done | with_reducible rfl
  try simp only [Act.put, List.getElem_toArray, List.getElem_cons_succ, List.getElem_cons_zero, List.setIfInBounds_toArray, List.set_cons_zero, List.set_cons_succ]
  refine wpAnyH_take (i := 6) (v := ?v14) rfl (by kernel_rfl) (by kernel_rfl) (by kernel_rfl) (fun _ _ _ h => h) (Or.inl ⟨by rfl, ?hy14⟩) hHeld ?rest14
  case hy14 =>
    intro w' hSw
    try dsimp only at hSw
    go_simp
    first | done | with_reducible rfl
  try simp only [Act.put, List.getElem_toArray, List.getElem_cons_succ, List.getElem_cons_zero, List.setIfInBounds_toArray, List.set_cons_zero, List.set_cons_succ]
  refine wpAnyH_ready (rs := [7, 8]) (by kernel_rfl) (by simp) ?_
  refine AllReadyH.cons (by rfl) (fun K hK => ?_) (AllReadyH.cons (by rfl) (fun K hK => ?_) AllReadyH.nil)
  · go_simp
    refine (HV.out ▸ prep_at (HS0.out.drew) HN.out (HT0.out.drew) y).mono ?_
    rintro e w2 ⟨rfl, b2⟩
    have HB2 := Lib.hid ((below_drew HB0.out).trans (b2.mono (below_drew HB0.out).size))
    have HK2 := Lib.hid ((HK0.out.drew).keep b2)
    have HA2 := Lib.hid ((HA0.out.drew).keep b2)
    have HY2 := Lib.hid ((HY0.out.drew).keep b2)
    clear b2 hHeld
    go_wp2_with fail
    refine hK.out _ _ ⟨HK2.out.ak.p0, HY2.out.six⟩ (fun hHeld => ?_)
    clear hK K
    try simp only [Act.put, List.getElem_toArray, List.getElem_cons_succ, List.getElem_cons_zero, List.setIfInBounds_toArray, List.set_cons_zero, List.set_cons_succ]
    refine wpAnyH_ready (rs := [8]) (by kernel_rfl) (by simp) ?_
    refine AllReadyH.cons (by rfl) (fun K hK => ?_) AllReadyH.nil
    refine step_alloc30 rfl (by rfl) ?_
    intro g3 w3 hg hw
    have HGE3 := Lib.hid (show w.heap.size + 2 ≤ g3 by have h1 := HB2.out.size; have h2 := HB0.out.size; have h3 := HA2.out.lt; subst hg; simp at h3 ⊢; try omega)
    have HB3 := Lib.hid (show Below w.heap.size w w3 by subst hw; exact HB2.out.alloc HB2.out.size _)
    have HK3 := Lib.hid (show Blk w3 w.heap.size _ _ by subst hw; exact (HK2.out).alloc _)
    have HA3 := Lib.hid (show Blk w3 (w.heap.size + 1) _ _ by subst hw; exact (HA2.out).alloc _)
    have HY3 := Lib.hid (show KeyAt w3 w.heap.size (10 + i * 6) y by subst hw; exact (HY2.out).alloc _)
    have HG3 := Lib.hid (show Blk w3 g3 32 (kl zk).toArray by subst hw hg; exact Blk.new _ _ _)
    clear hg hw hHeld
    refine hK.out _ _ ⟨HK3.out.ak.p0, HY3.out.six⟩ (fun hHeld => ?_)
    clear hK K
    try simp only [Act.put, List.getElem_toArray, List.getElem_cons_succ, List.getElem_cons_zero, List.setIfInBounds_toArray, List.set_cons_zero, List.set_cons_succ]
    refine wpAnyH_ready (rs := [9]) (by kernel_rfl) (by simp) ?_
    refine AllReadyH.cons (by rfl) (fun K hK => ?_) AllReadyH.nil
    refine step_store_big HG3.out rfl (.tmp 5) (.tmp 15) (ty := 32) (l := kl v) rfl (by rfl) (by rfl) size30 rfl (kl_one v) ?_
    have HB9 := Lib.hid (below_setRow HB3.out (show w.heap.size ≤ g3 by have := HGE3.out; omega) (kl v).toArray)
    have HK9 := Lib.hid (Blk.row_far HK3.out (show w.heap.size ≠ g3 by have := HGE3.out; omega) (kl v).toArray)
    have HA9 := Lib.hid (Blk.row_far HA3.out (show w.heap.size + 1 ≠ g3 by have := HGE3.out; omega) (kl v).toArray)
    have HY9 : Hid (KeyAt (w3.setRow g3 (kl v).toArray) w.heap.size (10 + i * 6) y) := Lib.hid (HY3.out.at_heap (setRow_other _ _ _ _ (by have := HGE3.out; omega)))
    have HG9 := Lib.hid (HG3.out.setRow (kl v).toArray)
    generalize w3.setRow g3 (kl v).toArray = W at HB9 HK9 HA9 HY9 HG9 ⊢
    refine hK.out _ _ ⟨HK9.out.ak.p0, HY9.out.six⟩ (fun hHeld => ?_)
    clear hK K
    try simp only [Act.put, List.getElem_toArray, List.getElem_cons_succ, List.getElem_cons_zero]
    refine wpAnyH_done (by kernel_rfl) ?_ _
    refine OnlyN.normal ?_
    clear hHeld
    obtain ⟨k0, k1, k2, k3, k4, k5⟩ := HK9.out.ak.key.six
    obtain ⟨g0, g1, g2, g3, g4, g5⟩ := HG9.out.six
    go_wp2_with (first
      | (go_at_call 68; refine (weaken_ok v _ (HTab.out.below HB9.out) HVO.out).mono ?_; rintro e z ⟨rfl, bz⟩; have HBz := Lib.hid ((HB9.out.trans (bz.mono HB9.out.size)).alloc (Nat.le_trans HB9.out.size bz.size) (.cells (kl v.weak).toArray 32)); have HAz := Lib.hid ((HA9.out.keep bz).alloc (.cells (kl v.weak).toArray 32)); obtain ⟨z0, z1, z2, z3, z4, z5⟩ := (Blk.new z 32 (kl v.weak).toArray).six; clear bz g0 g1 g2 g3 g4 g5 k0 k1 k2 k3 k4 k5)
      | (refine wpList_store_new (l := kl v.weak) (l0 := kl zk) (ty := 32) rfl (.tmp 6) (.tmp 25) (by rfl) _ rfl (by rfl) (by rfl) size30 rfl (kl_one _) ?_)
      | (refine wpList_store_ky (y := zk) HAz.out rfl (.tmp 4) (.tmp 27) rfl (by rfl) v.weak (by rfl) ?_))
    exact bodyPost_ret (results_key rfl _ _ (w.heap.size + 1) v.weak rfl (HAz.out.setRow _)) rfl ⟨rfl, below_setRow HBz.out (by omega) _⟩
  · refine step_alloc30 rfl (by rfl) ?_
    intro g1 w1 hg hw
    have HGE1 := Lib.hid (show w.heap.size + 2 ≤ g1 by have h1 := (below_drew HB0.out).size; have h2 := HB0.out.size; have h3 := HA0.out.lt; subst hg; simp at h3 ⊢; try omega)
    have HB1 := Lib.hid (show Below w.heap.size w w1 by subst hw; exact (below_drew HB0.out).alloc (below_drew HB0.out).size _)
    have HK1 := Lib.hid (show Blk w1 w.heap.size _ _ by subst hw; exact (HK0.out.drew).alloc _)
    have HA1 := Lib.hid (show Blk w1 (w.heap.size + 1) _ _ by subst hw; exact (HA0.out.drew).alloc _)
    have HY1 := Lib.hid (show KeyAt w1 w.heap.size (10 + i * 6) y by subst hw; exact (HY0.out.drew).alloc _)
    have HG1 := Lib.hid (show Blk w1 g1 32 (kl zk).toArray by subst hw hg; exact Blk.new _ _ _)
    have HS1 := Lib.hid (show StAt w1 base p A cap ps os by subst hw; exact (HS0.out.drew).alloc _)
    have HT1 := Lib.hid (show Tab w1 by subst hw; exact (HT0.out.drew).alloc _)
    clear hg hw hHeld
    refine hK.out _ _ ⟨HK1.out.ak.p0, HY1.out.six⟩ (fun hHeld => ?_)
    clear hK K
    try simp only [Act.put, List.getElem_toArray, List.getElem_cons_succ, List.getElem_cons_zero, List.setIfInBounds_toArray, List.set_cons_zero, List.set_cons_succ]
    refine wpAnyH_ready (rs := [7]) (by kernel_rfl) (by simp) ?_
    refine AllReadyH.cons (by rfl) (fun K hK => ?_) AllReadyH.nil
    go_simp
    refine (HV.out ▸ prep_at (HS1.out) HN.out (HT1.out) y).mono ?_
    rintro e w3 ⟨rfl, b3⟩
    have HB3 := Lib.hid (HB1.out.trans (b3.mono HB1.out.size))
    have HK3 := Lib.hid ((HK1.out).keep b3)
    have HA3 := Lib.hid ((HA1.out).keep b3)
    have HY3 := Lib.hid ((HY1.out).keep b3)
    have HG3 := Lib.hid (HG1.out.keep b3)
    clear b3 hHeld
    go_wp2_with fail
    refine hK.out _ _ ⟨HK3.out.ak.p0, HY3.out.six⟩ (fun hHeld => ?_)
    clear hK K
    try simp only [Act.put, List.getElem_toArray, List.getElem_cons_succ, List.getElem_cons_zero, List.setIfInBounds_toArray, List.set_cons_zero, List.set_cons_succ]
    refine wpAnyH_ready (rs := [9]) (by kernel_rfl) (by simp) ?_
    refine AllReadyH.cons (by rfl) (fun K hK => ?_) AllReadyH.nil
    refine step_store_big HG3.out rfl (.tmp 5) (.tmp 15) (ty := 32) (l := kl v) rfl (by rfl) (by rfl) size30 rfl (kl_one v) ?_
    have HB9 := Lib.hid (below_setRow HB3.out (show w.heap.size ≤ g1 by have := HGE1.out; omega) (kl v).toArray)
    have HK9 := Lib.hid (Blk.row_far HK3.out (show w.heap.size ≠ g1 by have := HGE1.out; omega) (kl v).toArray)
    have HA9 := Lib.hid (Blk.row_far HA3.out (show w.heap.size + 1 ≠ g1 by have := HGE1.out; omega) (kl v).toArray)
    have HY9 : Hid (KeyAt (w3.setRow g1 (kl v).toArray) w.heap.size (10 + i * 6) y) := Lib.hid (HY3.out.at_heap (setRow_other _ _ _ _ (by have := HGE1.out; omega)))
    have HG9 := Lib.hid (HG3.out.setRow (kl v).toArray)
    generalize w3.setRow g1 (kl v).toArray = W at HB9 HK9 HA9 HY9 HG9 ⊢
    refine hK.out _ _ ⟨HK9.out.ak.p0, HY9.out.six⟩ (fun hHeld => ?_)
    clear hK K
    try simp only [Act.put, List.getElem_toArray, List.getElem_cons_succ, List.getElem_cons_zero]
    refine wpAnyH_done (by kernel_rfl) ?_ _
    refine OnlyN.normal ?_
    clear hHeld
    obtain ⟨k0, k1, k2, k3, k4, k5⟩ := HK9.out.ak.key.six
    obtain ⟨g0, g1, g2, g3, g4, g5⟩ := HG9.out.six
    go_wp2_with (first
      | (go_at_call 68; refine (weaken_ok v _ (HTab.out.below HB9.out) HVO.out).mono ?_; rintro e z ⟨rfl, bz⟩; have HBz := Lib.hid ((HB9.out.trans (bz.mono HB9.out.size)).alloc (Nat.le_trans HB9.out.size bz.size) (.cells (kl v.weak).toArray 32)); have HAz := Lib.hid ((HA9.out.keep bz).alloc (.cells (kl v.weak).toArray 32)); obtain ⟨z0, z1, z2, z3, z4, z5⟩ := (Blk.new z 32 (kl v.weak).toArray).six; clear bz g0 g1 g2 g3 g4 g5 k0 k1 k2 k3 k4 k5)
      | (refine wpList_store_new (l := kl v.weak) (l0 := kl zk) (ty := 32) rfl (.tmp 6) (.tmp 25) (by rfl) _ rfl (by rfl) (by rfl) size30 rfl (kl_one _) ?_)
      | (refine wpList_store_ky (y := zk) HAz.out rfl (.tmp 4) (.tmp 27) rfl (by rfl) v.weak (by rfl) ?_))
    exact bodyPost_ret (results_key rfl _ _ (w.heap.size + 1) v.weak rfl (HAz.out.setRow _)) rfl ⟨rfl, below_setRow HBz.out (by omega) _⟩
set_option maxRecDepth 8000 in
theorem got_any (h : StAt w base p A cap ps os) (hn : 0 < os.length) (hT : Tab w) (x : Ky) (u : Oj) (i : Nat) (hi : i < 16) (y : Ky) (hy : u.s[i]? = some y) (hok : x.ok) :
    Calls Tryd.prog 37 #[akv p x u, .int .i64 (i : Int)] w fun e w' => e = .returned (gotK os x y).val ∧ Below w.heap.size w w' := by
  unfold gotK
  by_cases hr : x.r / 2 % 2 = 1
  · rw [if_pos hr]
    exact got_weak h hn hT x u i hi y hy hok hr
  · rw [if_neg hr]
    exact got_plain h hn hT x u i hi y hy hok hr
end
end Go.Proofs.YtliakhknmckdgaaDoor

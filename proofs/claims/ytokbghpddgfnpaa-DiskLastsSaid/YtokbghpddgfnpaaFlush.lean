/- disk: the walk of Flush. -/
import Derived.Test.YtokbghpddgfnpaaWrite
namespace Go.Proofs.Ytokbghpddgfnpaa
open Go.RowKit Go.Shelf
attribute [local go_sem] Oper.semAt_some
attribute [local go_sem] run_store_bv run_store_wc run_store_bv_drew run_store_wc_drew
/-- sectors with writes laid over them, of each so many bytes as its number says -/
def layC (kf : Nat → Nat) (L : Nat → List UInt8) (es : List (Nat × (Nat × List UInt8))) : Nat → List UInt8 :=
  es.foldl (fun L e => upL L e.2.1 (layL (L e.2.1) e.2.2 (kf e.1))) L
set_option maxRecDepth 8000 in
theorem layC_snoc (kf : Nat → Nat) (L : Nat → List UInt8) (es : List (Nat × (Nat × List UInt8))) (e : Nat × (Nat × List UInt8)) :
    layC kf L (es ++ [e]) = upL (layC kf L es) e.2.1 (layL (layC kf L es e.2.1) e.2.2 (kf e.1)) := by simp [layC]
theorem layC_length (kf : Nat → Nat) (hk : ∀ i, kf i ≤ 512) : ∀ (es : List (Nat × (Nat × List UInt8))) (L : Nat → List UInt8), (∀ n, (L n).length = 512) → (∀ e ∈ es, e.2.2.length = 512) → ∀ n, (layC kf L es n).length = 512
  | [], _, hL, _ => hL
  | e :: es, L, hL, he => layC_length kf hk es _ (fun n => by
      show (upL L e.2.1 (layL (L e.2.1) e.2.2 (kf e.1)) n).length = 512
      unfold upL
      split
      · exact layL_length _ _ _ (hL _) (he e (by simp)) (hk _)
      · exact hL n) (fun x hx => he x (by simp [hx]))
/-- what has come, with its numbers -/
def wis {D : Dk} (xs : List (DW D)) : List (Nat × (Nat × List UInt8)) := xs.map (fun y => (y.i, y.x))
set_option maxRecDepth 8000 in
theorem wis_snoc {D : Dk} (xs : List (DW D)) (x : DW D) : wis (xs ++ [x]) = wis xs ++ [(x.i, x.x)] := by simp [wis]
set_option maxRecDepth 8000 in
theorem wis_len {D : Dk} (xs : List (DW D)) : ∀ e ∈ wis xs, e.2.2.length = 512 := by
  intro e he
  obtain ⟨y, _, rfl⟩ := List.mem_map.1 he
  exact y.len
/-- the writes that wait, with their numbers -/
def Dk.nums (D : Dk) : List (Nat × (Nat × List UInt8)) := D.waits.mapIdx fun i x => (i, x)
set_option maxRecDepth 8000 in
theorem wis_all {D : Dk} {xs : List (DW D)} (h : wxs xs = D.waits) (hi : ∀ (i : Nat) (y : DW D), xs[i]? = some y → y.i = i) : wis xs = D.nums := by
  apply List.ext_getElem?
  intro i
  have h2 := congrArg (·[i]?) h
  simp only [wxs, List.getElem?_map] at h2
  rw [wis, Dk.nums, List.getElem?_map, List.getElem?_mapIdx, ← h2]
  cases hx : xs[i]? with
  | none => rfl
  | some y => simp [hi i y hx]
def Dk.laid (D : Dk) (kf : Nat → Nat) : Nat → List UInt8 := layC kf D.lasts D.nums
/-- behind a flush -/
def Dk.flushed (D : Dk) : Dk := { D with lasts := D.laid (fun _ => 512), waits := [] }
theorem own_fr {β : Type} {B : Nat} {S : Nat → Prop} {w0 : World} (hB : w0.heap.size ≤ B) : OwnFrom B (fun (_ : β) W => Fr S w0 W) := fun _ _ _ _ hs hg hr =>
  hs.grown hg (fun i e hi => by have := (hr i e).1; omega)
theorem own_sec {β : Type} {B m : Nat} (hB : m < B) (f : β → Nat → List UInt8) : OwnFrom B (fun (s : β) W => SecMap W m (f s)) := fun _ X _ _ hs hg hr =>
  hs.keep (hg.block m hs.lt (fun e => by have := (hr m e.symm).1; omega))
theorem keepsFrom_fr {B m : Nat} {W W' : World} (h : Fr (· = m) W W') (hm : m < B) : KeepsFrom B W W' :=
  ⟨h.size, fun k o hk ho _ => (h.block k (Array.getElem?_eq_some_iff.1 ho).1 (by omega)).trans ho⟩
/-- the map of sectors has turned -/
theorem DiskAt.turned {w w' : World} {base p : Nat} {pl : Pl} {D : Dk} (h : DiskAt w base p pl D) (hf : Fr (· = pl.m) w w') {L : Nat → List UInt8} (hm : SecMap w' pl.m L) (hl : ∀ n, (L n).length = 512) : DiskAt w' base p pl { D with lasts := L } :=
  { h with
    blk := hf.keepBlk h.blk (fun e => h.ne_pm e.symm)
    map := hm
    row := h.keepRow (fun g hv => hf.block g (h.row.lt g hv).2 (fun e => h.ne_mw (by rw [hv, e])))
    set := h.set.keep (fun b hb => hf.block b (h.set.lt b hb) (fun e => h.ne (by rw [hb, e])))
    lens := hl }
set_option maxRecDepth 8000 in
/-- nothing waits any more -/
theorem DiskAt.emptied {w : World} {base p : Nat} {pl : Pl} {D : Dk} (h : DiskAt w base p pl D) : DiskAt (w.setCell ⟨p, 2, none⟩ (.slice none 0 0)) base p { pl with wv := .slice none 0 0 } { D with waits := [] } :=
  { h with
    blk := h.blk.set_ 2 _
    map := h.map.keep (Below.heap_setCell _ _ _ _ h.ne_pm)
    row := World.ownsRow_nil _ _ _ _
    set := h.set.keep (fun b hb => Below.heap_setCell _ _ _ _ (fun e => h.ne_pf (by rw [hb, e])))
    wlens := by simp }
theorem DiskAt.putObj {w : World} {base p : Nat} {pl : Pl} {D : Dk} (h : DiskAt w base p pl D) {B : Nat} (hB : ¬ pl.has p B) (o : Obj) : DiskAt (w.putObj B o) base p pl D :=
  h.keep fun k hk => World.putObj_heap_other (by rintro rfl; exact hB hk)
theorem Fr.putObj {S : Nat → Prop} {a b : World} (h : Fr S a b) {B : Nat} (hB : a.heap.size ≤ B) (o : Obj) : Fr S a (b.putObj B o) :=
  h.grown (grownBy_putObj' b B o) (fun i e hi => by injection e with e; omega)
set_option maxRecDepth 100000 in
set_option maxHeartbeats 2000000 in
theorem flush1_at {w : World} {base p : Nat} {pl : Pl} {D : Dk} (h : DiskAt w base p pl D) (hN : D.waits.length ≤ 1000000) (b0 : Nat) (c0 : Blk w b0 31 #[.pointer (some ⟨p, 0, none⟩)]) :
    Calls Try.prog 58 #[.pointer (some ⟨b0, 0, none⟩)] w fun e w' =>
      e = .returned (.tuple #[]) ∧ DiskAt w' base p { pl with wv := .slice none 0 0 } D.flushed ∧ Fr (pl.has p) w w' := by
  have hz8 := z84
  have hFw : ∀ f, Fence.wide.fn f := fun _ => trivial
  have h0 := (c0.cell 0).trans rfl
  have H := Lib.hid h
  have C0 := Lib.hid c0
  clear h c0
  refine (callsIn_wide (n := 4)).1 (callsIn_of_wp_marks Try.func58 rfl trivial ?_ rfl)
  simp only [Try.ntmps58, List.size_toArray, List.length_cons, List.length_nil, Nat.reduceAdd, Nat.reduceSub, Array.replicate_succ, Array.replicate_zero, List.push_toArray, List.append_toArray, List.nil_append, List.cons_append]
  gi_wp2_with (gi_at_call 55; refine ((callsIn_wide (n := 3)).2 (waiting_any _ _)).mono ?_; rintro e w' ⟨rfl, rfl⟩)
  have B7 := Lib.hid (Blk.new w 31 #[.pointer (some ⟨p, 0, none⟩)])
  have HD := Lib.hid (H.out.alloc (.cells #[.pointer (some ⟨p, 0, none⟩)] 31))
  have CD := Lib.hid (C0.out.alloc (.cells #[.pointer (some ⟨p, 0, none⟩)] 31))
  have FR := Lib.hid ((Fr.refl (pl.has p) w).alloc (.cells #[.pointer (some ⟨p, 0, none⟩)] 31))
  generalize w.alloc (.cells #[.pointer (some ⟨p, 0, none⟩)] 31) = W0 at B7 HD CD FR ⊢
  clear h0
  refine range_waiting HD.out hN rfl ((B7.out.cell 0).trans rfl) rfl (by omega)
    (fun xs W => SecMap W pl.m (layC (fun _ => 512) D.lasts (wis xs)) ∧ Fr (· = pl.m) W0 W)
    ((own_sec HD.out.map.lt (fun xs => layC (fun _ => 512) D.lasts (wis xs))).and (own_fr (Nat.le_refl _)))
    ⟨HD.out.map, Fr.refl _ _⟩
    (fun x b => { tmps := #[.pointer (some ⟨b0, 0, none⟩), undef, .pointer (some ⟨b, 0, none⟩), .pointer (some ⟨p, 0, none⟩), .func (.func 63) #[] #[.pointer (some ⟨w.heap.size, 0, none⟩)], .int .i64 (x.i : Int), wv x.x, undef, undef, undef, undef, undef, undef, undef, undef, undef], defers := [] })
    ?assign ?body (fun pre W h => h.2.size) ?done
  case assign =>
    intro l x W K hK
    have hxz : x.x.2.length = zs.length := by rw [x.len, zs_length]
    have hwl : (wc x.x).length = 513 := wc_length x.x x.len
    have HKK := Lib.hid hK
    clear hK
    gi_wp2
    exact HKK.out
  case body =>
    rintro l pre x b W _ ⟨i1, i2⟩ hb hbw
    have XL := Lib.hid x.len
    have I1 := Lib.hid i1
    have I2 := Lib.hid i2
    have HW := Lib.hid hbw
    have BN := Lib.hid hb
    have LL := Lib.hid (layC_length (fun _ => 512) (fun _ => Nat.le_refl _) (wis pre) D.lasts HD.out.lens (wis_len pre) x.x.1)
    have WS := Lib.hid (wis_snoc pre x)
    have LS := Lib.hid (layC_snoc (fun _ => 512) D.lasts (wis pre) (x.i, x.x))
    have C0W : Hid (Blk W b0 31 #[.pointer (some ⟨p, 0, none⟩)]) := i2.keepBlk CD.out (by rintro rfl; obtain ⟨es, ck, hm, _⟩ := HD.out.map; have hc := CD.out; unfold Blk at hc; rw [hc] at hm; cases hm)
    have PW : Hid (Blk W p 85 (dcells pl D)) := i2.keepBlk HD.out.blk (fun e => HD.out.ne_pm e.symm)
    clear i1 i2 hbw hb
    gi_wp2_with fail
    refine wpIn_region_round (S := fun w' => w'.cell? ⟨b0, 0, none⟩ = some (.pointer (some ⟨p, 0, none⟩)) ∧ w'.cell? ⟨p, 1, none⟩ = some (.map (some pl.m)) ∧ w'.rangeAt b 0 (wc x.x)) (by kernel_rfl) (noDefer (by kernel_rfl)) ⟨(C0W.out.cell 0).trans rfl, (PW.out.cell 1).trans rfl, HW.out.rangeAt⟩ (fun hHeld => ?_)
    refine wpAnyH_take (i := 0) (v := ?v1) rfl (by kernel_rfl) (by kernel_rfl) (by kernel_rfl) (fun _ _ _ h => h) (Or.inl ⟨by rfl, ?hy1⟩) hHeld ?rest1
    case hy1 =>
      intro w' hSw
      try dsimp only at hSw
      go_simp
      first | done | with_reducible rfl
    try simp only [Act.put, List.getElem_toArray, List.getElem_cons_zero, List.setIfInBounds_toArray, List.set_cons_zero, List.set_cons_succ]
    refine wpAnyH_take (i := 1) (v := ?v2) rfl (by kernel_rfl) (by kernel_rfl) (by kernel_rfl) (fun _ _ _ h => h) (Or.inl ⟨by rfl, ?hy2⟩) hHeld ?rest2
    case hy2 =>
      intro w' hSw
      try dsimp only at hSw
      go_simp
      first | done | with_reducible rfl
    try simp only [Act.put, List.getElem_toArray, List.getElem_cons_succ, List.getElem_cons_zero, List.setIfInBounds_toArray, List.set_cons_zero, List.set_cons_succ]
    refine wpAnyH_take (i := 2) (v := ?v3) rfl (by kernel_rfl) (by kernel_rfl) (by kernel_rfl) (fun _ _ _ h => h) (Or.inl ⟨by rfl, ?hy3⟩) hHeld ?rest3
    case hy3 =>
      intro w' hSw
      try dsimp only at hSw
      go_simp
      first | done | with_reducible rfl
    try simp only [Act.put, List.getElem_toArray, List.getElem_cons_succ, List.getElem_cons_zero, List.setIfInBounds_toArray, List.set_cons_zero, List.set_cons_succ]
    refine wpAnyH_take (i := 3) (v := ?v4) rfl (by kernel_rfl) (by kernel_rfl) (by kernel_rfl) (fun _ _ _ h => h) (Or.inl ⟨by rfl, ?hy4⟩) hHeld ?rest4
    case hy4 =>
      intro w' hSw
      try dsimp only at hSw
      go_simp
      first | done | with_reducible rfl
    try simp only [Act.put, List.getElem_toArray, List.getElem_cons_succ, List.getElem_cons_zero, List.setIfInBounds_toArray, List.set_cons_zero, List.set_cons_succ]
    refine wpAnyH_take (i := 4) rfl (by kernel_rfl) (by kernel_rfl) (by kernel_rfl) (fun _ _ _ h => h) (yieldsIf_load_mid (by rfl) 89 _ (by rfl) b 0 (by rfl) (wc x.x) _ (fun w' hSw => hSw.2.2) Try.underlying89 rfl (by rw [wc_length _ XL.out]; exact size84)) hHeld ?_
    try simp only [Act.put, List.getElem_toArray, List.getElem_cons_succ, List.getElem_cons_zero, List.setIfInBounds_toArray, List.set_cons_zero, List.set_cons_succ]
    refine wpAnyH_ready (rs := [5]) (by kernel_rfl) (by simp) ?_
    refine AllReadyH.cons (by rfl) (fun K hK => ?_) AllReadyH.nil
    go_simp
    refine (lay_any W.drew pl.m _ x.x 512 I1.out XL.out LL.out (Nat.le_refl _)).mono ?_
    rintro e w5 ⟨rfl, sm5, fr5⟩
    have SM5 := Lib.hid sm5
    have FR5 := Lib.hid (show Fr (· = pl.m) W w5 from (Fr.refl _ W).drew.trans fr5)
    have hne : ∀ k, k < W.heap.size → k ≠ pl.m → w5.heap[k]? = W.heap[k]? := fun k hk hn => fr5.block k hk hn
    have cb0 := (hne b0 C0W.out.lt (by rintro rfl; obtain ⟨es, ck, hm, _⟩ := I1.out; have hc := C0W.out; unfold Blk at hc; rw [hc] at hm; cases hm)).trans C0W.out
    have cp := (hne p PW.out.lt (fun e => HD.out.ne_pm e.symm)).trans PW.out
    have cb := (hne b HW.out.lt (by rintro rfl; have := HD.out.map.lt; have := BN.out; omega)).trans HW.out
    have CS := Lib.hid (show _ ∧ _ ∧ _ from ⟨(Blk.cell (t := 31) cb0 0).trans rfl, (Blk.cell (t := 85) cp 1).trans rfl, Blk.rangeAt (t := 89) cb⟩)
    clear sm5 fr5 hne cb0 cp cb
    go_wp2_with fail
    refine hK.out _ _ CS.out (fun hHeld => ?_)
    clear hK K
    try simp only [Act.put, List.getElem_toArray, List.getElem_cons_succ, List.getElem_cons_zero, List.setIfInBounds_toArray, List.set_cons_zero, List.set_cons_succ]
    refine wpAnyH_done (by kernel_rfl) ?_ _
    refine OnlyN.normal ?_
    refine ⟨rfl, keepsFrom_fr FR5.out HD.out.map.lt, fun k hk => FR5.out.block k ?_ (fun e => HD.out.ne_mw (e ▸ hk)), ?_, I2.out.trans FR5.out⟩
    · exact Nat.lt_of_lt_of_le (HD.out.row.lt k hk).2 I2.out.size
    · rw [WS.out, LS.out]
      exact SM5.out
  case done =>
    rintro B xs W hB hxs hxi ⟨i1, i2⟩ hD
    rw [wis_all hxs hxi] at i1
    have I1 := Lib.hid i1
    have I2 := Lib.hid i2
    have c0W := ((i2.keepBlk CD.out (by rintro rfl; obtain ⟨es, ck, hm, _⟩ := HD.out.map; have hc := CD.out; unfold Blk at hc; rw [hc] at hm; cases hm)).cell 0).trans rfl
    have PW : Hid (Blk W p 85 (dcells pl D)) := i2.keepBlk HD.out.blk (fun e => HD.out.ne_pm e.symm)
    have c2W := (PW.out.cell 2).trans (show (dcells pl D)[2]? = some pl.wv from rfl)
    have f2W := PW.out.frozen 2
    have HDB := Lib.hid hD
    have BB := Lib.hid hB
    clear i1 i2 hD hB hxs hxi
    gi_wp2
    have hl := layC_length (fun _ => 512) (fun _ => Nat.le_refl _) D.nums D.lasts HD.out.lens (fun e he => by
      obtain ⟨i, hi, rfl⟩ := List.mem_mapIdx.1 he
      exact (HD.out.wlens _ (List.getElem_mem hi)).1)
    have hd1 := HD.out.turned I2.out I1.out hl
    have hpB : p ≠ B := by have := HD.out.blk.lt; have := BB.out; omega
    have hsW := Nat.le_trans FR.out.size I2.out.size
    refine ⟨by simp, .inl ⟨_, _, rfl, run_takeDeferred ((Below.heap_setCell W ⟨p, 2, none⟩ _ B (Ne.symm hpB)).trans HDB.out), ?_⟩⟩
    refine ⟨_, results_none rfl _ _ _, rfl, hd1.emptied.putObj ?_ _, ?_⟩
    · rintro (e | e | e | e)
      · exact hpB e.symm
      · have := HD.out.map.lt; have := BB.out; simp only at e; omega
      · cases e
      · have := HD.out.set.lt B e; have := BB.out; omega
    · exact ((FR.out.then_ I2.out (fun i _ e => .inr (.inl e))).setCell (fun _ => .inl rfl) _).putObj (Nat.le_trans FR.out.size BB.out) _
theorem enters56 (args : Array Value) (w : World) : (callFunc 58 args).run Try.prog w = .ok (.enter 58 args) w := enters_of Try.func58 (by kernel_rfl) rfl args w
set_option maxRecDepth 100000 in
set_option maxHeartbeats 800000 in
theorem flush_nil (w : World) : Calls Try.prog 25 #[.pointer none] w fun e w' => e = .returned (.int .i64 1) ∧ Below w.heap.size w w' := by
  go_enter Try.func25, Try.ntmps25
  go_wp2_with (go_at_call 48; refine (there_nil _).mono ?_; rintro e w' ⟨rfl, rfl⟩)
  go_ret
  exact ⟨rfl, (Below.refl _ w).alloc (Nat.le_refl _) _⟩
set_option maxRecDepth 100000 in
set_option maxHeartbeats 800000 in
theorem flush_fails {w : World} {base p : Nat} {pl : Pl} {D : Dk} (h : DiskAt w base p pl D) (hs : D.steps < 1000000) (hf : D.next = true) :
    Calls Try.prog 25 #[.pointer (some ⟨p, 0, none⟩)] w fun e w' => e = .returned (.int .i64 120) ∧ DiskAt w' base p pl D.stepped ∧ Fr (pl.has p) w w' := by
  have H := Lib.hid (h.alloc (.cells #[.pointer (some ⟨p, 0, none⟩)] 31))
  have FR := Lib.hid ((Fr.refl (pl.has p) w).alloc (.cells #[.pointer (some ⟨p, 0, none⟩)] 31))
  have HF := Lib.hid hf
  clear h hf
  go_enter Try.func25, Try.ntmps25
  go_wp2_with fail
  refine (there_at H.out).mono ?_
  rintro e w' ⟨rfl, rfl⟩
  go_wp2_with fail
  refine (step_fails H.out HF.out hs _).mono ?_
  rintro e w2 ⟨rfl, h2, f2⟩
  have J2 := Lib.hid h2
  have JF := Lib.hid (FR.out.trans f2)
  clear h2 f2
  go_wp2
  go_ret
  exact ⟨rfl, J2.out, JF.out⟩
set_option maxRecDepth 100000 in
set_option maxHeartbeats 800000 in
theorem flush_goes {w : World} {base p : Nat} {pl : Pl} {D : Dk} (h : DiskAt w base p pl D) (hN : D.waits.length ≤ 1000000) (hs : D.steps < 1000000) (hf : D.next = false) :
    Calls Try.prog 25 #[.pointer (some ⟨p, 0, none⟩)] w fun e w' => e = .returned (.int .i64 0) ∧ DiskAt w' base p { pl with wv := .slice none 0 0 } D.stepped.flushed ∧ Fr (pl.has p) w w' := by
  have N := Lib.hid (h.not_new (Nat.le_refl _))
  have H := Lib.hid (h.alloc (.cells #[.pointer (some ⟨p, 0, none⟩)] 31))
  have FR := Lib.hid ((Fr.refl (pl.has p) w).alloc (.cells #[.pointer (some ⟨p, 0, none⟩)] 31))
  have B0 := Lib.hid (Blk.new w 31 #[.pointer (some ⟨p, 0, none⟩)])
  have HF := Lib.hid hf
  clear h hf
  go_enter Try.func25, Try.ntmps25
  go_wp2_with fail
  refine (there_at H.out).mono ?_
  rintro e w' ⟨rfl, rfl⟩
  go_wp2_with fail
  refine (step_goes H.out HF.out hs _ _ (fun w' => DiskAt w' base p { pl with wv := .slice none 0 0 } D.stepped.flushed ∧ Fr (pl.has p) w w') ?hdo (enters56 _)).mono ?_
  case hdo =>
    intro W1 h1 f1
    refine (flush1_at h1 hN w.heap.size (f1.keepBlk B0.out N.out)).mono ?_
    rintro e w3 ⟨rfl, h3, f3⟩
    exact ⟨rfl, h3, (FR.out.trans f1).trans f3⟩
  rintro e w2 ⟨rfl, h2⟩
  have J2 := Lib.hid h2
  clear h2
  go_wp2
  go_ret
  exact ⟨rfl, J2.out⟩
end Go.Proofs.Ytokbghpddgfnpaa

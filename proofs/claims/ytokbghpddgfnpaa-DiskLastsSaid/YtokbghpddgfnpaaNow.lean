/- disk: the walk of now. -/
import Derived.Test.YtokbghpddgfnpaaIter
import Derived.Test.YtokbghpddgfnpaaRegIn
namespace Go.Proofs.Ytokbghpddgfnpaa
open Go.RowKit Go.Shelf
attribute [local go_sem] Oper.semAt_some
attribute [local go_sem] run_store_bv run_store_wc run_store_bv_drew run_store_wc_drew
/-- what is read of a sector: the last write of it, else what lasts -/
def readL (l : List UInt8) (n : Nat) (ws : List (Nat × List UInt8)) : List UInt8 := ws.foldl (fun s w => if w.1 = n then w.2 else s) l
theorem readL_length (n : Nat) : ∀ (ws : List (Nat × List UInt8)) (l : List UInt8), l.length = 512 → (∀ x ∈ ws, x.2.length = 512) → (readL l n ws).length = 512
  | [], _, hl, _ => hl
  | x :: ws, l, hl, hw => readL_length n ws (if x.1 = n then x.2 else l) (by split; exact hw x (by simp); exact hl) (fun y hy => hw y (by simp [hy]))
set_option maxRecDepth 8000 in
theorem readL_snoc (l : List UInt8) (n : Nat) (ws : List (Nat × List UInt8)) (x : Nat × List UInt8) : readL l n (ws ++ [x]) = if x.1 = n then x.2 else readL l n ws := by simp [readL]
theorem wc_tail (x : Nat × List UInt8) {w : World} {b : Nat} {t : TypeId} (h : Blk w b t (wc x).toArray) : w.rangeAt b 1 (bv x.2) := fun j v hv => by
  rw [h.cell, List.getElem?_toArray, Nat.add_comm, wc, List.getElem?_cons_succ]
  exact hv
def Dk.reads (D : Dk) (n : Nat) : List UInt8 := readL (D.lasts n) n D.waits
set_option maxRecDepth 100000 in
set_option maxHeartbeats 2000000 in
theorem now_at {w : World} {base p : Nat} {pl : Pl} {D : Dk} (h : DiskAt w base p pl D) (hN : D.waits.length ≤ 1000000) (k : Nat) :
    Calls Try.prog 41 #[.pointer (some ⟨p, 0, none⟩), .int .i64 (k : Int)] w fun e w' => e = .returned (sec (D.reads k)) ∧ Below w.heap.size w w' := by
  have hz := z47
  have hz8 := z84
  have hFw : ∀ f, Fence.wide.fn f := fun _ => trivial
  refine (callsIn_wide (n := 4)).1 (callsIn_of_wp_marks Try.func41 rfl trivial ?_ rfl)
  simp only [Try.ntmps41, List.size_toArray, List.length_cons, List.length_nil, Nat.reduceAdd, Nat.reduceSub, Array.replicate_succ, Array.replicate_zero, List.push_toArray, List.append_toArray, List.nil_append, List.cons_append]
  gi_wp2
  have b3 : Blk ((w.alloc (.cells #[.int .i64 (k : Int)] 3)).alloc (.cells (bv zs).toArray 38)) w.heap.size 3 #[.int .i64 (k : Int)] := (Blk.new w _ _).alloc _
  have b4 : Blk ((w.alloc (.cells #[.int .i64 (k : Int)] 3)).alloc (.cells (bv zs).toArray 38)) (w.heap.size + 1) 38 (bv zs).toArray := heap_alloc2_new _ _ _
  have hd : DiskAt ((w.alloc (.cells #[.int .i64 (k : Int)] 3)).alloc (.cells (bv zs).toArray 38)) base p pl D := (h.alloc _).alloc _
  have bl : Below w.heap.size w ((w.alloc (.cells #[.int .i64 (k : Int)] 3)).alloc (.cells (bv zs).toArray 38)) := ((Below.refl _ w).alloc (Nat.le_refl _) _).alloc (by simp) _
  have sz : ((w.alloc (.cells #[.int .i64 (k : Int)] 3)).alloc (.cells (bv zs).toArray 38)).heap.size = w.heap.size + 2 := by simp
  generalize (w.alloc (.cells #[.int .i64 (k : Int)] 3)).alloc (.cells (bv zs).toArray 38) = W at b3 b4 hd bl sz ⊢
  have B3 := Lib.hid b3
  have B4 := Lib.hid b4
  have HD := Lib.hid hd
  have BL := Lib.hid bl
  have SZ := Lib.hid sz
  have LL := Lib.hid (hd.lens k)
  clear h b3 b4 hd bl sz
  have hlz : (D.lasts k).length = zs.length := by rw [LL.out, zs_length]
  have hbl : (bv (D.lasts k)).length = 512 := by rw [bv_length, LL.out]
  refine wpIn_region_out (S := fun w' => w'.cell? ⟨p, 1, none⟩ = some (.map (some pl.m)) ∧ w'.cell? ⟨w.heap.size, 0, none⟩ = some (.int .i64 (k : Int)) ∧ (Instr.lookup 81 (.map (some pl.m)) (.int .i64 (k : Int)) false).run Try.prog w' = .ok (sec (D.lasts k)) w') (by kernel_rfl) ⟨HD.out.c1, B3.out.cell 0, HD.out.drew.map.look k⟩ (fun hHeld => ?_)
  refine wpAnyH_take (i := 0) (v := ?v0) rfl (by kernel_rfl) (by kernel_rfl) (by kernel_rfl) (fun _ _ _ h => h) (Or.inl ⟨by rfl, ?hy0⟩) hHeld ?rest0
  case hy0 =>
    intro w' hSw
    try dsimp only at hSw
    go_simp
    first | done | with_reducible rfl
  try simp only [Act.put, List.getElem_toArray, List.getElem_cons_zero, List.setIfInBounds_toArray, List.set_cons_zero, List.set_cons_succ]
  refine wpAnyH_take (i := 1) (v := ?v1) rfl (by kernel_rfl) (by kernel_rfl) (by kernel_rfl) (fun _ _ _ h => h) (Or.inl ⟨by rfl, ?hy1⟩) hHeld ?rest1
  case hy1 =>
    intro w' hSw
    try dsimp only at hSw
    go_simp
    first | done | with_reducible rfl
  try simp only [Act.put, List.getElem_toArray, List.getElem_cons_succ, List.getElem_cons_zero, List.setIfInBounds_toArray, List.set_cons_zero, List.set_cons_succ]
  refine wpAnyH_take (i := 2) (v := ?v2) rfl (by kernel_rfl) (by kernel_rfl) (by kernel_rfl) (fun _ _ _ h => h) (Or.inl ⟨by rfl, ?hy2⟩) hHeld ?rest2
  case hy2 =>
    intro w' hSw
    try dsimp only at hSw
    go_simp
    first | done | with_reducible rfl
  try simp only [Act.put, List.getElem_toArray, List.getElem_cons_succ, List.getElem_cons_zero, List.setIfInBounds_toArray, List.set_cons_zero, List.set_cons_succ]
  refine wpAnyH_take (i := 3) (v := ?v3) rfl (by kernel_rfl) (by kernel_rfl) (by kernel_rfl) (fun _ _ _ h => h) (Or.inl ⟨by rfl, ?hy3⟩) hHeld ?rest3
  case hy3 =>
    intro w' hSw
    try dsimp only at hSw
    go_simp
    first | done | with_reducible rfl
  try simp only [Act.put, List.getElem_toArray, List.getElem_cons_succ, List.getElem_cons_zero, List.setIfInBounds_toArray, List.set_cons_zero, List.set_cons_succ]
  refine wpAnyH_take (i := 4) (v := ?v4) rfl (by kernel_rfl) (by kernel_rfl) (by kernel_rfl) (fun _ _ _ h => h) (Or.inl ⟨by rfl, ?hy4⟩) hHeld ?rest4
  case hy4 =>
    intro w' hSw
    try dsimp only at hSw
    go_simp
    first | done | with_reducible rfl
  try simp only [Act.put, List.getElem_toArray, List.getElem_cons_succ, List.getElem_cons_zero, List.setIfInBounds_toArray, List.set_cons_zero, List.set_cons_succ]
  refine wpAnyH_take (i := 5) (v := ?v5) rfl (by kernel_rfl) (by kernel_rfl) (by kernel_rfl) (fun _ _ _ h => h) (Or.inl ⟨by rfl, ?hy5⟩) hHeld ?rest5
  case hy5 =>
    intro w' hSw
    try dsimp only at hSw
    go_simp
    first | done | with_reducible rfl
  try simp only [Act.put, List.getElem_toArray, List.getElem_cons_succ, List.getElem_cons_zero, List.setIfInBounds_toArray, List.set_cons_zero, List.set_cons_succ]
  refine wpAnyH_ready (rs := [6]) (by kernel_rfl) (by simp) ?_
  refine AllReadyH.cons (by rfl) (fun K hK => ?_) AllReadyH.nil
  go_simp
  refine hK.out _ _ ⟨(HD.out.drew.alloc _).c1, ((B3.out : Blk W.drew _ _ _).alloc _).cell 0, (HD.out.drew.alloc _).map.look k⟩ (fun hHeld => ?_)
  clear hK K
  try simp only [Act.put, List.getElem_toArray, List.getElem_cons_succ, List.getElem_cons_zero, List.setIfInBounds_toArray, List.set_cons_zero, List.set_cons_succ]
  refine wpAnyH_ready (rs := [7]) (by kernel_rfl) (by simp) ?_
  refine AllReadyH.cons (by rfl) (fun K hK => ?_) AllReadyH.nil
  go_simp
  refine hK.out _ _ ⟨(HD.out.drew.alloc _).c1, ((B3.out : Blk W.drew _ _ _).alloc _).cell 0, (HD.out.drew.alloc _).map.look k⟩ (fun hHeld => ?_)
  clear hK K
  try simp only [Act.put, List.getElem_toArray, List.getElem_cons_succ, List.getElem_cons_zero, List.setIfInBounds_toArray, List.set_cons_zero, List.set_cons_succ]
  refine wpAnyH_done (by kernel_rfl) ?_ _
  refine OnlyN.normal ?_
  have H5 := Lib.hid (show Blk (W.alloc (.cells (bv (D.lasts k)).toArray 38)).drew W.heap.size 38 (bv (D.lasts k)).toArray from Blk.new W 38 (bv (D.lasts k)).toArray)
  have H3 := Lib.hid (show Blk (W.alloc (.cells (bv (D.lasts k)).toArray 38)).drew w.heap.size 3 #[.int .i64 (k : Int)] from B3.out.alloc _)
  have H4 := Lib.hid (show Blk (W.alloc (.cells (bv (D.lasts k)).toArray 38)).drew (w.heap.size + 1) 38 (bv zs).toArray from B4.out.alloc _)
  have HD2 := Lib.hid (HD.out.alloc (.cells (bv (D.lasts k)).toArray 38)).drew
  have BL2 := Lib.hid (BL.out.alloc (by rw [SZ.out]; omega) (.cells (bv (D.lasts k)).toArray 38)).drew
  have SZ2 := Lib.hid (show (W.alloc (.cells (bv (D.lasts k)).toArray 38)).drew.heap.size = w.heap.size + 3 by simp [SZ.out])
  rw [SZ.out] at H5 ⊢
  generalize (W.alloc (.cells (bv (D.lasts k)).toArray 38)).drew = W2 at H5 H3 H4 HD2 BL2 SZ2 ⊢
  gi_wp2_with (gi_at_call 55; refine ((callsIn_wide (n := 3)).2 (waiting_any _ _)).mono ?_; rintro e w' ⟨rfl, rfl⟩)
  have B7 := Lib.hid (Blk.new W2 31 #[.pointer (some ⟨p, 0, none⟩)])
  have H5' := Lib.hid (H5.out.alloc (.cells #[.pointer (some ⟨p, 0, none⟩)] 31))
  have H3' := Lib.hid (H3.out.alloc (.cells #[.pointer (some ⟨p, 0, none⟩)] 31))
  have H4' := Lib.hid (H4.out.alloc (.cells #[.pointer (some ⟨p, 0, none⟩)] 31))
  have HD3 := Lib.hid (HD2.out.alloc (.cells #[.pointer (some ⟨p, 0, none⟩)] 31))
  have BL3 := Lib.hid (BL2.out.alloc (by rw [SZ2.out]; omega) (.cells #[.pointer (some ⟨p, 0, none⟩)] 31))
  have SZ3 := Lib.hid (show (W2.alloc (.cells #[.pointer (some ⟨p, 0, none⟩)] 31)).heap.size = w.heap.size + 4 by simp [SZ2.out])
  generalize W2.alloc (.cells #[.pointer (some ⟨p, 0, none⟩)] 31) = W3 at B7 H5' H3' H4' HD3 BL3 SZ3 ⊢
  clear H5 H3 H4 HD2 BL2
  refine range_waiting HD3.out hN rfl ((B7.out.cell 0).trans rfl) rfl (by omega)
    (fun xs W => Blk W (w.heap.size + 2) 38 (bv (readL (D.lasts k) k (wxs xs))).toArray ∧ Blk W w.heap.size 3 #[.int .i64 (k : Int)] ∧ Blk W (w.heap.size + 1) 38 (bv zs).toArray ∧ Below w.heap.size w W ∧ W3.heap.size ≤ W.heap.size)
    ((own_blk _ _ _ (fun xs => (bv (readL (D.lasts k) k (wxs xs))).toArray)).and ((own_blk _ _ _ (fun _ => _)).and ((own_blk _ _ _ (fun _ => _)).and ((ownFrom_below (Nat.le_refl _) BL3.out.size).and (own_size _ _)))))
    ⟨H5'.out, H3'.out, H4'.out, BL3.out, Nat.le_refl _⟩
    (fun x b => { tmps := #[.pointer (some ⟨p, 0, none⟩), .int .i64 (k : Int), undef, .pointer (some ⟨w.heap.size, 0, none⟩), .pointer (some ⟨w.heap.size + 1, 0, none⟩), .pointer (some ⟨w.heap.size + 2, 0, none⟩), undef, .pointer (some ⟨b, 0, none⟩), .pointer (some ⟨p, 0, none⟩), .pointer (some ⟨p, 0, none⟩), .pointer (some ⟨p, 1, none⟩), .map (some pl.m), .int .i64 (k : Int), sec (D.lasts k), .pointer (some ⟨p, 0, none⟩), .func (.func 63) #[] #[.pointer (some ⟨W2.heap.size, 0, none⟩)], .int .i64 (x.i : Int), wv x.x, undef, undef, undef, undef, undef, undef, undef], defers := [] })
    ?assign ?body (fun pre W h => h.2.2.2.2) ?done
  case assign =>
    intro l x W K hK
    have hxz : x.x.2.length = zs.length := by rw [x.len, zs_length]
    have hwl : (wc x.x).length = 513 := wc_length x.x x.len
    have HKK := Lib.hid hK
    clear hK
    gi_wp2
    exact HKK.out
  case body =>
    rintro l pre x b W _ ⟨i1, i2, i3, i4, i5⟩ hb hbw
    have hrl := readL_length k (wxs pre) (D.lasts k) LL.out (wxs_len pre)
    have RT := Lib.hid (wc_tail x.x hbw)
    have XL := Lib.hid x.len
    have hc0 : W.cell? ⟨b, 0, none⟩ = some (.int .i64 (x.x.1 : Int)) := (hbw.cell 0).trans rfl
    have hck : W.cell? ⟨w.heap.size, 0, none⟩ = some (.int .i64 (k : Int)) := (i2.cell 0).trans rfl
    have hst := run_store_all (P := Try.prog) (bv x.x.2) (bv (readL (D.lasts k) k (wxs pre))) (by rw [bv_length, bv_length, hrl, x.len]) (bv_one _) i1
    have hbl2 : (bv x.x.2).length = 512 := by rw [bv_length, x.len]
    have hKF : Hid (KeepsFrom W3.heap.size W (W.setRow (w.heap.size + 2) (bv x.x.2).toArray)) := KeepsFrom.of_grownBy (grown_setRow _ _ _) (fun j e => by injection e with e; have := SZ3.out; omega)
    have hKW : Hid (∀ k, pl.wv.ownBlock = some k → (W.setRow (w.heap.size + 2) (bv x.x.2).toArray).heap[k]? = W.heap[k]?) := fun q hq => setRow_other _ _ _ _ (fun e => by
      obtain ⟨cur, hb⟩ := HD3.out.row_block hq
      have h5 := H5'.out
      rw [e] at hb
      unfold Blk at hb h5
      rw [hb] at h5
      injection h5 with h5
      injection h5 with _ ht
      cases ht)
    have j1 : Hid (Blk (W.setRow (w.heap.size + 2) (bv x.x.2).toArray) (w.heap.size + 2) 38 (bv x.x.2).toArray) := i1.setRow _
    have j2 : Hid (Blk (W.setRow (w.heap.size + 2) (bv x.x.2).toArray) w.heap.size 3 #[.int .i64 (k : Int)]) := i2.setRow_far (by omega) _
    have j3 : Hid (Blk (W.setRow (w.heap.size + 2) (bv x.x.2).toArray) (w.heap.size + 1) 38 (bv zs).toArray) := i3.setRow_far (by omega) _
    have j4 : Hid (Below w.heap.size w (W.setRow (w.heap.size + 2) (bv x.x.2).toArray)) := below_setRow i4 (by omega) _
    have j5 : Hid (W3.heap.size ≤ (W.setRow (w.heap.size + 2) (bv x.x.2).toArray).heap.size) := by show _ ≤ _; simpa using i5
    have RS := Lib.hid (readL_snoc (D.lasts k) k (wxs pre) x.x)
    have WS := Lib.hid (wxs_snoc pre x)
    have II := Lib.hid (show _ ∧ _ ∧ _ ∧ _ ∧ _ from ⟨i1, i2, i3, i4, i5⟩)
    clear hbw i1 i2 i3 i4 i5 hrl
    by_cases hxk : x.x.1 = k
    · have hbe : ((x.x.1 : Int) == (k : Int)) = true := beq_iff_eq.2 (by omega)
      have HXK := Lib.hid hxk
      clear hxk
      gi_wp2_with (refine wpListIn_load47 rfl (.tmp 22) rfl b 1 rfl x.x.2 RT.out XL.out ?_)
      refine ⟨rfl, hKF.out, hKW.out, ?_, j2.out, j3.out, j4.out, j5.out⟩
      rw [WS.out, RS.out, if_pos HXK.out]
      exact j1.out
    · have hbe : ((x.x.1 : Int) == (k : Int)) = false := beq_eq_false_iff_ne.2 (by omega)
      have HXK := Lib.hid hxk
      clear hxk
      gi_wp2
      refine ⟨rfl, KeepsFrom.refl _ _, fun _ _ => rfl, ?_, II.out.2.1, II.out.2.2.1, II.out.2.2.2.1, II.out.2.2.2.2⟩
      rw [WS.out, RS.out, if_neg HXK.out]
      exact II.out.1
  case done =>
    rintro B xs W hB hxs _ ⟨i1, i2, i3, i4, i5⟩ hD
    rw [hxs] at i1
    have hrl := readL_length k D.waits (D.lasts k) LL.out (fun x hx => (HD3.out.wlens x hx).1)
    have RL := Lib.hid hrl
    have R1 := Lib.hid i1.rangeAt
    have hbl2 : (bv (readL (D.lasts k) k D.waits)).length = 512 := by rw [bv_length, hrl]
    have hst := run_store_all (P := Try.prog) (bv (readL (D.lasts k) k D.waits)) (bv zs) (by rw [bv_length, bv_length, hrl, zs_length]) (bv_one _) i3
    have J3 := Lib.hid (i3.setRow (bv (readL (D.lasts k) k D.waits)).toArray)
    have J4 := Lib.hid (below_setRow i4 (show w.heap.size ≤ w.heap.size + 1 by omega) (bv (readL (D.lasts k) k D.waits)).toArray)
    have hDB : (W.setRow (w.heap.size + 1) (bv (readL (D.lasts k) k D.waits)).toArray).heap[B]? = some (.deferred (some [])) := (setRow_other _ _ _ _ (by have := SZ3.out; omega)).trans hD
    have HDB := Lib.hid hDB
    have BB := Lib.hid (show w.heap.size + 4 ≤ B by have := SZ3.out; omega)
    clear i1 i2 i3 i4 i5 hD hDB hrl hxs hB
    gi_wp2_with (refine wpListIn_load47 rfl (.tmp 5) rfl (w.heap.size + 2) 0 rfl _ R1.out RL.out ?_)
    refine ⟨by simp, .inl ⟨_, _, rfl, run_takeDeferred HDB.out, ?_⟩⟩
    have hb1 := (World.putObj_heap_other (o := .deferred none) (show w.heap.size + 1 ≠ B by have := BB.out; omega)).trans J3.out
    refine ⟨_, results_cell_row (P := Try.prog) rfl _ _ (w.heap.size + 1) 38 _ (0, 0) _ rfl hb1 Try.underlying38 rfl (by rw [List.size_toArray, hbl2]; exact size47), rfl, J4.out.trans ?_⟩
    exact (belowK_b (w := w) (Nat.le_refl _) _ B _ _ (by have := BB.out; omega) HDB.out rfl rfl)
end Go.Proofs.Ytokbghpddgfnpaa

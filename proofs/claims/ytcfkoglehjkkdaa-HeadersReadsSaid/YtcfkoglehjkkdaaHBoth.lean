/- headers: Both. -/
import Derived.Test.YtcfkoglehjkkdaaHSecs
import Derived.Test.YtcfkoglehjkkdaaHFore
namespace Go.Proofs.Ytcfkoglehjkkdaa
open Go.RowKit
attribute [local go_sem] Oper.semAt_some
attribute [local go_sem] run_store_bv run_store_wc run_store_bv_drew run_store_wc_drew
abbrev hd0 : Hd := ⟨0, 0, 0⟩
set_option maxRecDepth 8000 in
theorem zero52 : (Try.prog.info? 49).map (fun i => (i.zero, i.size)) = some (some (.agg (cs2 hd0 hd0).toArray), 6) := by kernel_rfl
theorem z52 (w : World) : (zeroValue 49).run Try.prog w = .ok (.agg (cs2 hd0 hd0).toArray) w := (zero_of_info zero52).1 w
set_option maxRecDepth 8000 in
theorem zero53 : (Try.prog.info? 50).map (fun i => (i.zero, i.size)) = some (some (.agg #[.bool false, .bool false]), 2) := by kernel_rfl
theorem z53 (w : World) : (zeroValue 50).run Try.prog w = .ok (.agg #[.bool false, .bool false]) w := (zero_of_info zero53).1 w
set_option maxRecDepth 8000 in
theorem size53 (a b : Bool) : (Try.prog.info? 50).map (·.size) = some [Value.bool a, Value.bool b].length := by kernel_rfl
set_option maxRecDepth 8000 in
theorem agg59 (w : World) : (isAgg 56).run Try.prog w = .ok true w := by kernel_rfl
set_option maxRecDepth 8000 in
theorem cs2_one (h0 h1 : Hd) : (cs2 h0 h1).toArray.all (fun x => x.oneCell') = true := by simp [cs2, Value.oneCell']
set_option maxRecDepth 8000 in
theorem index112 (l : List UInt8) (w : World) (k : Nat) (hk : k < 2) : (Instr.index 108 (sec l) (.int .i64 (k : Int))).run Try.prog w = .ok (.agg ((bv l).toArray.extract (k * 512) (k * 512 + 512))) w := by
  have hu := run_underlying (P := Try.prog) Try.underlying108 w
  have hs := run_sizeOf (P := Try.prog) size47 w
  simp only [Instr.index, asIntOf, Sem.run_bind, Sem.run_pure, Result.andThen_ok, hu, part]
  rw [if_pos (by omega)]
  simp only [Sem.run_bind, hs, Result.andThen_ok, agg59 w, if_true, Sem.run_pure, Int.toNat_natCast]
set_option maxRecDepth 8000 in
theorem index112_0 (l0 l1 : List UInt8) (h0 : l0.length = 512) (w : World) : (Instr.index 108 (sec (l0 ++ l1)) (.int .i64 0)).run Try.prog w = .ok (sec l0) w := by
  refine (index112 (l0 ++ l1) w 0 (by omega)).trans ?_
  congr 2
  unfold bv
  simp [h0]
set_option maxRecDepth 8000 in
theorem index112_1 (l0 l1 : List UInt8) (h0 : l0.length = 512) (h1 : l1.length = 512) (w : World) : (Instr.index 108 (sec (l0 ++ l1)) (.int .i64 1)).run Try.prog w = .ok (sec l1) w := by
  refine (index112 (l0 ++ l1) w 1 (by omega)).trans ?_
  congr 2
  have e : ((bv (l0 ++ l1)).drop 512).take 512 = bv l1 := by
    unfold bv
    rw [List.map_append, List.drop_left' (by simp [h0])]
    exact List.take_of_length_le (by simp [h1])
  rw [← e]
  simp
set_option maxRecDepth 8000 in
theorem results_both {fn : Func} {p q r : Tmp} (h : fn.results = #[.cell p 49, .cell q 50, .tmp r]) (tmps : Array Value) (w : World) (g g' : Nat) (h0 h1 : Hd) (a b : Bool)
    (hp : tmps.getD p undef = .pointer (some ⟨g, 0, none⟩)) (hq : tmps.getD q undef = .pointer (some ⟨g', 0, none⟩)) (hg : Blk w g 49 (cs2 h0 h1).toArray) (hg' : Blk w g' 50 #[.bool a, .bool b]) : (results fn tmps).run Try.prog w = .ok (.tuple #[.agg (cs2 h0 h1).toArray, .agg #[.bool a, .bool b], tmps.getD r undef]) w := by
  have hp' : tmps[p]?.getD undef = .pointer (some ⟨g, 0, none⟩) := by simpa using hp
  have hq' : tmps[q]?.getD undef = .pointer (some ⟨g', 0, none⟩) := by simpa using hq
  have h1 := run_loadVar_row (P := Try.prog) w g 49 49 (cs2 h0 h1).toArray (0, 0) _ hg Try.underlying49 rfl (by kernel_rfl)
  have h2 := run_loadVar_row (P := Try.prog) w g' 50 50 #[.bool a, .bool b] (0, 0) _ hg' Try.underlying50 rfl (by kernel_rfl)
  simp [results, h, hp', hq', asAddr, h1, h2]
/-- while both are looked at -/
structure Bt (w0 : World) (base p : Nat) (pl : Pl) (D : Dk) (h0 h1 : Hd) (a b : Bool) (W : World) : Prop where
  h2 : Blk W w0.heap.size 49 (cs2 hd0 hd0).toArray
  h3 : Blk W (w0.heap.size + 1) 50 #[.bool false, .bool false]
  h5 : Blk W (w0.heap.size + 1 + 1) 49 (cs2 h0 h1).toArray
  h6 : Blk W (w0.heap.size + 1 + 1 + 1) 50 #[.bool a, .bool b]
  fr : Fr (pl.has p) w0 W
  da : DiskAt W base p pl D
  nh : ∀ k, w0.heap.size ≤ k → ¬ pl.has p k
section
variable {w0 W W' : World} {base p : Nat} {pl : Pl} {D : Dk} {h0 h1 : Hd} {a b : Bool}
theorem Bt.next (h : Bt w0 base p pl D h0 h1 a b W) (hb : Below W.heap.size W W') : Bt w0 base p pl D h0 h1 a b W' :=
  ⟨h.h2.below hb h.h2.lt, h.h3.below hb h.h3.lt, h.h5.below hb h.h5.lt, h.h6.below hb h.h6.lt, h.fr.below hb, h.da.below hb, h.nh⟩
theorem Bt.alloc (h : Bt w0 base p pl D h0 h1 a b W) (o : Obj) : Bt w0 base p pl D h0 h1 a b (W.alloc o) := h.next ((Below.refl _ W).alloc (Nat.le_refl _) o)
theorem Bt.drew (h : Bt w0 base p pl D h0 h1 a b W) : Bt w0 base p pl D h0 h1 a b W.drew := h.next (Below.drew (Below.refl _ W))
theorem Bt.put5 (h : Bt w0 base p pl D h0 h1 a b W) (h0' h1' : Hd) : Bt w0 base p pl D h0' h1' a b (W.setRow (w0.heap.size + 1 + 1) (cs2 h0' h1').toArray) :=
  ⟨h.h2.setRow_far (by omega) _, h.h3.setRow_far (by omega) _, setRow_heap W _ _ _ _ (0, 0) h.h5, h.h6.setRow_far (by omega) _, h.fr.then_ (setRow_fr8 _ _ _) (fun i hi e => by omega), h.da.fr (setRow_fr8 _ _ _) (fun k hk e => h.nh k (by omega) hk), h.nh⟩
theorem Bt.put6a (h : Bt w0 base p pl D h0 h1 a b W) : Bt w0 base p pl D h0 h1 true b (W.setCell ⟨w0.heap.size + 1 + 1 + 1, 0, none⟩ (.bool true)) :=
  ⟨h.h2.far (by simp only; omega) _, h.h3.far (by simp only; omega) _, h.h5.far (by simp) _, h.h6.set_ 0 _, h.fr.setCell (fun hi => by simp only at hi; omega) _, h.da.keep (fun k hk => Below.heap_setCell _ _ _ _ (fun e => h.nh k (by simp only at e; omega) hk)), h.nh⟩
theorem Bt.put6b (h : Bt w0 base p pl D h0 h1 a b W) : Bt w0 base p pl D h0 h1 a true (W.setCell ⟨w0.heap.size + 1 + 1 + 1, 1, none⟩ (.bool true)) :=
  ⟨h.h2.far (by simp only; omega) _, h.h3.far (by simp only; omega) _, h.h5.far (by simp) _, h.h6.set_ 1 _, h.fr.setCell (fun hi => by simp only at hi; omega) _, h.da.keep (fun k hk => Below.heap_setCell _ _ _ _ (fun e => h.nh k (by simp only at e; omega) hk)), h.nh⟩
end
set_option maxRecDepth 8000 in
theorem bt_new {w : World} {base p : Nat} {pl : Pl} {D : Dk} (hd : DiskAt w base p pl D) : Bt w base p pl D hd0 hd0 false false ((((w.alloc (.cells (cs2 hd0 hd0).toArray 49)).alloc (.cells #[.bool false, .bool false] 50)).alloc (.cells (cs2 hd0 hd0).toArray 49)).alloc (.cells #[.bool false, .bool false] 50)) where
  h2 := (((Blk.new w _ _).alloc _).alloc _).alloc _
  h3 := ((blk_new1 w _ _ _).alloc _).alloc _
  h5 := by have := (blk_new1 (w.alloc (.cells (cs2 hd0 hd0).toArray 49)) (.cells #[.bool false, .bool false] 50) 49 (cs2 hd0 hd0).toArray).alloc (.cells #[.bool false, .bool false] 50); simpa using this
  h6 := by have := blk_new1 ((w.alloc (.cells (cs2 hd0 hd0).toArray 49)).alloc (.cells #[.bool false, .bool false] 50)) (.cells (cs2 hd0 hd0).toArray 49) 50 #[.bool false, .bool false]; simpa using this
  fr := ((((Fr.refl _ w).alloc _).alloc _).alloc _).alloc _
  da := (((hd.alloc _).alloc _).alloc _).alloc _
  nh := fun k hk => hd.not_new hk
theorem Bt.moved {w0 W W' : World} {base p : Nat} {pl : Pl} {D D' : Dk} {h0 h1 : Hd} {a b : Bool} (h : Bt w0 base p pl D h0 h1 a b W) (hd : DiskAt W' base p pl D') (hf : Fr (pl.has p) W W') : Bt w0 base p pl D' h0 h1 a b W' :=
  ⟨hf.keepBlk h.h2 (h.nh _ (Nat.le_refl _)), hf.keepBlk h.h3 (h.nh _ (by omega)), hf.keepBlk h.h5 (h.nh _ (by omega)), hf.keepBlk h.h6 (h.nh _ (by omega)), h.fr.trans hf, hd, h.nh⟩
set_option maxRecDepth 100000 in
set_option maxHeartbeats 8000000 in
theorem both_two {w : World} {base p : Nat} {pl : Pl} {D : Dk} (hd : DiskAt w base p pl D) (hN : D.waits.length ≤ 1000000) (hs : D.steps < 999990) (hf0 : D.next = false) (hf1 : D.stepped.next = false) (h0 h1 : Hd)
    (o0 : 1 ≤ h0.o ∧ h0.o ≤ 64) (q0 : (20 + 3 * h0.o == (D.size : Int)) = true) (o1 : 1 ≤ h1.o ∧ h1.o ≤ 64) (q1 : (20 + 3 * h1.o == (D.size : Int)) = true)
    (ho0 : ∀ W : World, Calls Try.prog 50 #[sec (D.reads 0)] W fun r w' => r = .returned (.tuple #[h0.val, .bool true]) ∧ Below W.heap.size W w')
    (ho1 : ∀ W : World, Calls Try.prog 50 #[sec (D.reads 1)] W fun r w' => r = .returned (.tuple #[Hd.val h1, .bool true]) ∧ Below W.heap.size W w') :
    Calls Try.prog 20 #[.pointer (some ⟨p, 0, none⟩)] w fun r w' => r = .returned (.tuple #[.agg (cs2 h0 h1).toArray, .agg #[.bool true, .bool true], .int .i64 0]) ∧ DiskAt w' base p pl D.stepped.stepped ∧ Fr (pl.has p) w w' := by
  have hz := z52
  have hz3 := z53
  have hz2 := z112
  have hz4 := z47
  have hz5 := z23
  have Z2 := Lib.hid (show 2 ≤ D.size by have := beq_iff_eq.1 q0; omega)
  have O0 := Lib.hid o0
  have Q0 := Lib.hid q0
  have O1 := Lib.hid o1
  have Q1 := Lib.hid q1
  have HO0 := Lib.hid ho0
  have HO1 := Lib.hid ho1
  have L0 := Lib.hid (show (D.reads 0).length = 512 from readL_length _ _ _ (hd.lens 0) (fun x hx => (hd.wlens x hx).1))
  have L1 := Lib.hid (show (D.reads 1).length = 512 from readL_length _ _ _ (hd.lens 1) (fun x hx => (hd.wlens x hx).1))
  have HN := Lib.hid hN
  have HS := Lib.hid hs
  have HF0 := Lib.hid hf0
  have HF1 := Lib.hid hf1
  have B0 := Lib.hid (bt_new hd)
  have hi0 := index112_0 (D.reads 0) (D.reads 1) L0.out
  have hi1 := index112_1 (D.reads 0) (D.reads 1) L0.out L1.out
  have m0 : (D.reads 0).length = zs.length := by rw [L0.out, zs_length]
  have m1 : (D.reads 1).length = zs.length := by rw [L1.out, zs_length]
  have n0 : (bv (D.reads 0)).length = 512 := by rw [bv_length, L0.out]
  have n1 : (bv (D.reads 1)).length = 512 := by rw [bv_length, L1.out]
  have hl2 : (D.reads 0 ++ D.reads 1).length = zs2.length := by rw [List.length_append, L0.out, L1.out, zs2_length]
  have hb2 : (bv (D.reads 0 ++ D.reads 1)).length = 1024 := by rw [bv_length, hl2, zs2_length]
  clear hd hN hs hf0 hf1 o0 q0 o1 q1 ho0 ho1
  go_enter Try.func20, Try.ntmps20
  go_wp2_with fail
  generalize (((w.alloc (.cells (cs2 hd0 hd0).toArray 49)).alloc (.cells #[.bool false, .bool false] 50)).alloc (.cells (cs2 hd0 hd0).toArray 49)).alloc (.cells #[.bool false, .bool false] 50) = W at B0 ⊢
  refine (sectors_any B0.out.da HN.out Z2.out HS.out HF0.out HF1.out).mono ?_
  rintro r W1 ⟨rfl, hd1, hf1⟩
  have B1 := Lib.hid (B0.out.moved hd1 hf1)
  clear hd1 hf1 B0
  have GB := Lib.hid (Blk.new W1 108 (bv (D.reads 0 ++ D.reads 1)).toArray)
  have B2 := Lib.hid (B1.out.alloc (.cells (bv (D.reads 0 ++ D.reads 1)).toArray 108))
  go_wp2_with (refine wpList_load_mid rfl 108 (.tmp 7) rfl W1.heap.size 0 rfl (bv (D.reads 0 ++ D.reads 1)) _ GB.out.rangeAt Try.underlying108 rfl (by rw [hb2]; exact size112) ?_)
  generalize W1.alloc (.cells (bv (D.reads 0 ++ D.reads 1)).toArray 108) = U0 at GB B2 ⊢
  have A0 := Lib.hid B2.out
  clear GB B2 B1 hl2 hb2
  refine wp_loop_rounds 3 ?_
  rw [rounds_succ]
  have PB0 := Lib.hid (A0.out.alloc (.cells (bv (D.reads 0)).toArray 56))
  have PR0 := Lib.hid (Blk.new U0 56 (bv (D.reads 0)).toArray)
  go_wp2_with (first
    | (refine wpList_load47 rfl (.tmp 10) rfl U0.heap.size 0 rfl (D.reads 0) PR0.out.rangeAt L0.out ?_)
    | (go_at_call 50; refine (HO0.out _).mono ?_; rintro r Y0 ⟨rfl, hb⟩; have C0 := Lib.hid (PB0.out.next hb); have N0 := Lib.hid (blk_drew (Blk.new Y0 28 (Hd.cs h0).toArray)); have B0 := Lib.hid ((C0.out.alloc (.cells (Hd.cs h0).toArray 28)).drew); clear hb PB0 PR0))
  refine wp_region_only (S := fun w' => Blk w' Y0.heap.size 28 (Hd.cs h0).toArray) (by kernel_rfl) N0.out (fun hHeld => ?_)
  refine wpAnyH_take (i := 0) (v := ?v1) rfl (by kernel_rfl) (by kernel_rfl) (by kernel_rfl) (fun _ _ _ h => h) (Or.inl ⟨by rfl, ?hy1⟩) hHeld ?rest1
  case hy1 =>
    intro w' hSw
    try dsimp only at hSw
    go_simp
    first | done | with_reducible rfl
  try simp only [Act.put, List.getElem_toArray, List.getElem_cons_zero, List.setIfInBounds_toArray, List.set_cons_zero, List.set_cons_succ]
  refine wpAnyH_take (i := 1) (v := ?v2) rfl (by kernel_rfl) (by kernel_rfl) (by kernel_rfl) (fun _ _ _ h => h) (Or.inl ⟨by rfl, ?hy2⟩) hHeld ?rest2
  case hy2 =>
    intro w' hSw
    try dsimp only at hSw
    go_simp
    first | done | with_reducible rfl
  try simp only [Act.put, List.getElem_toArray, List.getElem_cons_succ, List.getElem_cons_zero, List.setIfInBounds_toArray, List.set_cons_zero, List.set_cons_succ]
  refine wpAnyH_take (i := 2) rfl (by kernel_rfl) (by kernel_rfl) (by kernel_rfl) (fun _ _ _ h => h) (yieldsIf_load_mid (by rfl) 28 (.tmp 11) (by rfl) Y0.heap.size 0 (by rfl) (Hd.cs h0) _ (fun w' hSw => Blk.rangeAt (l := Hd.cs h0) hSw) Try.underlying28 rfl (size23 _)) hHeld ?_
  try simp only [Act.put, List.getElem_toArray, List.getElem_cons_succ, List.getElem_cons_zero, List.setIfInBounds_toArray, List.set_cons_zero, List.set_cons_succ]
  refine wpAnyH_take (i := 3) (v := ?v3) rfl (by kernel_rfl) (by kernel_rfl) (by kernel_rfl) (fun _ _ _ h => h) (Or.inl ⟨by rfl, ?hy3⟩) hHeld ?rest3
  case hy3 =>
    intro w' hSw
    try dsimp only at hSw
    go_simp
    first | done | with_reducible rfl
  try simp only [Act.put, List.getElem_toArray, List.getElem_cons_succ, List.getElem_cons_zero, List.setIfInBounds_toArray, List.set_cons_zero, List.set_cons_succ]
  refine wpAnyH_ready (rs := [4]) (by kernel_rfl) (by simp) ?_
  refine AllReadyH.cons (by rfl) (fun K hK => ?_) AllReadyH.nil
  go_simp
  refine (size_at B0.out.da).mono ?_
  rintro r w' ⟨rfl, rfl⟩
  clear hHeld
  refine hK.out _ _ N0.out (fun hHeld => ?_)
  clear hK K
  try simp only [Act.put, List.getElem_toArray, List.getElem_cons_succ, List.getElem_cons_zero, List.setIfInBounds_toArray, List.set_cons_zero, List.set_cons_succ]
  refine wpAnyH_ready (rs := [5]) (by kernel_rfl) (by simp) ?_
  refine AllReadyH.cons (by rfl) (fun K hK => ?_) AllReadyH.nil
  go_simp
  refine (fits_any h0 O0.out _ _).mono ?_
  rw [show D.stepped.stepped.size = D.size from rfl, Q0.out]
  rintro r X0 ⟨rfl, hb⟩
  replace N0 := Lib.hid (N0.out.below hb N0.out.lt)
  replace B0 := Lib.hid (B0.out.next hb)
  clear hb hHeld
  refine hK.out _ _ N0.out (fun hHeld => ?_)
  clear hK K
  try dsimp only
  refine wpAnyH_take (i := 6) (v := ?v4) rfl (by kernel_rfl) (by kernel_rfl) (by kernel_rfl) (fun _ _ _ h => h) (Or.inl ⟨by rfl, ?hy4⟩) hHeld ?rest4
  case hy4 =>
    intro w' hSw
    try dsimp only at hSw
    go_simp
    first | done | with_reducible rfl
  try simp only [Act.put, List.getElem_toArray, List.getElem_cons_succ, List.getElem_cons_zero, List.setIfInBounds_toArray, List.set_cons_zero, List.set_cons_succ]
  refine wpAnyH_done (by kernel_rfl) ?_ _
  refine OnlyN.normal ?_
  clear hHeld
  obtain ⟨V0, hV⟩ : ∃ V, V = X0.setRow (w.heap.size + 1 + 1) ((cs2 hd0 hd0).take 0 ++ Hd.cs h0 ++ (cs2 hd0 hd0).drop (0 + (Hd.cs h0).length)).toArray := ⟨_, rfl⟩
  have P0 := Lib.hid (show Bt w base p pl D.stepped.stepped h0 hd0 false false V0 from by rw [hV]; exact B0.out.put5 h0 hd0)
  have c0 := (P0.out.h6.cell 0).trans (show _ = some (.bool false) from rfl)
  have f0 := P0.out.h6.frozen 0
  go_wp2_with (first
    | (refine wpList_load_mid rfl 28 (.tmp 11) rfl Y0.heap.size 0 rfl (Hd.cs h0) _ (Blk.rangeAt (l := Hd.cs h0) N0.out) Try.underlying28 rfl (size23 _) ?_)
    | (refine wpList_store_mid8 (off := 0) (l := cs2 hd0 hd0) (ys := Hd.cs h0) rfl 28 (.tmp 43) (.tmp 42) rfl B0.out.h5 rfl rfl (by simp [cs2]) (size23 _) (by simp [Value.oneCell']) ?_; rw [← hV]; clear hV))
  have A1 := Lib.hid P0.out.put6a
  generalize V0.setCell ⟨w.heap.size + 1 + 1 + 1, 0, none⟩ (.bool true) = U1 at A1 ⊢
  clear c0 f0 P0 B0 N0 C0 A0
  rw [rounds_succ]
  have PB1 := Lib.hid (A1.out.alloc (.cells (bv (D.reads 1)).toArray 56))
  have PR1 := Lib.hid (Blk.new U1 56 (bv (D.reads 1)).toArray)
  go_wp2_with (first
    | (refine wpList_load47 rfl (.tmp 10) rfl U1.heap.size 0 rfl (D.reads 1) PR1.out.rangeAt L1.out ?_)
    | (go_at_call 50; refine (HO1.out _).mono ?_; rintro r Y1 ⟨rfl, hb⟩; have C1 := Lib.hid (PB1.out.next hb); have N1 := Lib.hid (blk_drew (Blk.new Y1 28 (Hd.cs h1).toArray)); have B1 := Lib.hid ((C1.out.alloc (.cells (Hd.cs h1).toArray 28)).drew); clear hb PB1 PR1))
  refine wp_region_only (S := fun w' => Blk w' Y1.heap.size 28 (Hd.cs h1).toArray) (by kernel_rfl) N1.out (fun hHeld => ?_)
  refine wpAnyH_take (i := 0) (v := ?v5) rfl (by kernel_rfl) (by kernel_rfl) (by kernel_rfl) (fun _ _ _ h => h) (Or.inl ⟨by rfl, ?hy5⟩) hHeld ?rest5
  case hy5 =>
    intro w' hSw
    try dsimp only at hSw
    go_simp
    first | done | with_reducible rfl
  try simp only [Act.put, List.getElem_toArray, List.getElem_cons_zero, List.setIfInBounds_toArray, List.set_cons_zero, List.set_cons_succ]
  refine wpAnyH_take (i := 1) (v := ?v6) rfl (by kernel_rfl) (by kernel_rfl) (by kernel_rfl) (fun _ _ _ h => h) (Or.inl ⟨by rfl, ?hy6⟩) hHeld ?rest6
  case hy6 =>
    intro w' hSw
    try dsimp only at hSw
    go_simp
    first | done | with_reducible rfl
  try simp only [Act.put, List.getElem_toArray, List.getElem_cons_succ, List.getElem_cons_zero, List.setIfInBounds_toArray, List.set_cons_zero, List.set_cons_succ]
  refine wpAnyH_take (i := 2) rfl (by kernel_rfl) (by kernel_rfl) (by kernel_rfl) (fun _ _ _ h => h) (yieldsIf_load_mid (by rfl) 28 (.tmp 11) (by rfl) Y1.heap.size 0 (by rfl) (Hd.cs h1) _ (fun w' hSw => Blk.rangeAt (l := Hd.cs h1) hSw) Try.underlying28 rfl (size23 _)) hHeld ?_
  try simp only [Act.put, List.getElem_toArray, List.getElem_cons_succ, List.getElem_cons_zero, List.setIfInBounds_toArray, List.set_cons_zero, List.set_cons_succ]
  refine wpAnyH_take (i := 3) (v := ?v7) rfl (by kernel_rfl) (by kernel_rfl) (by kernel_rfl) (fun _ _ _ h => h) (Or.inl ⟨by rfl, ?hy7⟩) hHeld ?rest7
  case hy7 =>
    intro w' hSw
    try dsimp only at hSw
    go_simp
    first | done | with_reducible rfl
  try simp only [Act.put, List.getElem_toArray, List.getElem_cons_succ, List.getElem_cons_zero, List.setIfInBounds_toArray, List.set_cons_zero, List.set_cons_succ]
  refine wpAnyH_ready (rs := [4]) (by kernel_rfl) (by simp) ?_
  refine AllReadyH.cons (by rfl) (fun K hK => ?_) AllReadyH.nil
  go_simp
  refine (size_at B1.out.da).mono ?_
  rintro r w' ⟨rfl, rfl⟩
  clear hHeld
  refine hK.out _ _ N1.out (fun hHeld => ?_)
  clear hK K
  try simp only [Act.put, List.getElem_toArray, List.getElem_cons_succ, List.getElem_cons_zero, List.setIfInBounds_toArray, List.set_cons_zero, List.set_cons_succ]
  refine wpAnyH_ready (rs := [5]) (by kernel_rfl) (by simp) ?_
  refine AllReadyH.cons (by rfl) (fun K hK => ?_) AllReadyH.nil
  go_simp
  refine (fits_any h1 O1.out _ _).mono ?_
  rw [show D.stepped.stepped.size = D.size from rfl, Q1.out]
  rintro r X1 ⟨rfl, hb⟩
  replace N1 := Lib.hid (N1.out.below hb N1.out.lt)
  replace B1 := Lib.hid (B1.out.next hb)
  clear hb hHeld
  refine hK.out _ _ N1.out (fun hHeld => ?_)
  clear hK K
  try dsimp only
  refine wpAnyH_take (i := 6) (v := ?v8) rfl (by kernel_rfl) (by kernel_rfl) (by kernel_rfl) (fun _ _ _ h => h) (Or.inl ⟨by rfl, ?hy8⟩) hHeld ?rest8
  case hy8 =>
    intro w' hSw
    try dsimp only at hSw
    go_simp
    first | done | with_reducible rfl
  try simp only [Act.put, List.getElem_toArray, List.getElem_cons_succ, List.getElem_cons_zero, List.setIfInBounds_toArray, List.set_cons_zero, List.set_cons_succ]
  refine wpAnyH_done (by kernel_rfl) ?_ _
  refine OnlyN.normal ?_
  clear hHeld
  obtain ⟨V1, hV⟩ : ∃ V, V = X1.setRow (w.heap.size + 1 + 1) ((cs2 h0 hd0).take 3 ++ Hd.cs h1 ++ (cs2 h0 hd0).drop (3 + (Hd.cs h1).length)).toArray := ⟨_, rfl⟩
  have P1 := Lib.hid (show Bt w base p pl D.stepped.stepped h0 h1 true false V1 from by rw [hV]; exact B1.out.put5 h0 h1)
  have c1 := (P1.out.h6.cell 1).trans (show _ = some (.bool false) from rfl)
  have f1 := P1.out.h6.frozen 1
  go_wp2_with (first
    | (refine wpList_load_mid rfl 28 (.tmp 11) rfl Y1.heap.size 0 rfl (Hd.cs h1) _ (Blk.rangeAt (l := Hd.cs h1) N1.out) Try.underlying28 rfl (size23 _) ?_)
    | (refine wpList_store_mid8 (off := 3) (l := cs2 h0 hd0) (ys := Hd.cs h1) rfl 28 (.tmp 43) (.tmp 42) rfl B1.out.h5 rfl rfl (by simp [cs2]) (size23 _) (by simp [Value.oneCell']) ?_; rw [← hV]; clear hV))
  have A2 := Lib.hid P1.out.put6b
  generalize V1.setCell ⟨w.heap.size + 1 + 1 + 1, 1, none⟩ (.bool true) = U2 at A2 ⊢
  clear c1 f1 P1 B1 N1 C1 A1
  rw [rounds_succ]
  go_wp2_with fail
  have A3 := Lib.hid A2.out.drew
  refine wp_region_only (S := fun w' => Blk w' (w.heap.size + 1 + 1) 49 (cs2 h0 h1).toArray ∧ Blk w' (w.heap.size + 1 + 1 + 1) 50 #[.bool true, .bool true]) (by kernel_rfl) ⟨A3.out.h5, A3.out.h6⟩ (fun hHeld => ?_)
  refine wpAnyH_take (i := 0) rfl (by kernel_rfl) (by kernel_rfl) (by kernel_rfl) (fun _ _ _ h => h) (yieldsIf_load_mid (by rfl) 49 (.tmp 5) (by rfl) (w.heap.size + 1 + 1) 0 (by rfl) (cs2 h0 h1) _ (fun w' hSw => Blk.rangeAt (l := cs2 h0 h1) hSw.1) Try.underlying49 rfl (size52 _ _)) hHeld ?_
  try simp only [Act.put, List.getElem_toArray, List.getElem_cons_zero, List.setIfInBounds_toArray, List.set_cons_zero, List.set_cons_succ]
  refine wpAnyH_take (i := 1) rfl (by kernel_rfl) (by kernel_rfl) (by kernel_rfl) (fun _ _ _ h => h) (yieldsIf_load_mid (by rfl) 50 (.tmp 6) (by rfl) (w.heap.size + 1 + 1 + 1) 0 (by rfl) [.bool true, .bool true] _ (fun w' hSw => Blk.rangeAt (l := [.bool true, .bool true]) hSw.2) Try.underlying50 rfl (size53 _ _)) hHeld ?_
  try simp only [Act.put, List.getElem_toArray, List.getElem_cons_succ, List.getElem_cons_zero, List.setIfInBounds_toArray, List.set_cons_zero, List.set_cons_succ]
  refine wpAnyH_ready (rs := [2]) (by kernel_rfl) (by simp) ?_
  refine AllReadyH.cons (by rfl) (fun K hK => ?_) AllReadyH.nil
  refine step_store8 rfl 49 (.tmp 2) (.tmp 46) rfl (by rfl) (cs2 h0 h1).toArray (cs2 hd0 hd0).toArray 49 (by rfl) A3.out.h2 (by kernel_rfl) rfl (cs2_one _ _) ?_
  intro W6 j6 f6
  have J6 := Lib.hid j6
  have K6 := Lib.hid (f6.keepBlk A3.out.h3 (by omega))
  have K5 := Lib.hid (f6.keepBlk A3.out.h5 (by omega))
  have K4 := Lib.hid (f6.keepBlk A3.out.h6 (by omega))
  have D6 := Lib.hid (A3.out.da.fr f6 (fun k hk e => A3.out.nh k (by omega) hk))
  have F6 := Lib.hid (A3.out.fr.then_ f6 (fun i hi e => by omega))
  clear hHeld j6 f6
  refine hK.out _ _ ⟨K5.out, K4.out⟩ (fun hHeld => ?_)
  clear hK K
  try simp only [Act.put, List.getElem_toArray, List.getElem_cons_succ, List.getElem_cons_zero]
  refine wpAnyH_ready (rs := [3]) (by kernel_rfl) (by simp) ?_
  refine AllReadyH.cons (by rfl) (fun K hK => ?_) AllReadyH.nil
  refine step_store8 rfl 50 (.tmp 3) (.tmp 47) rfl (by rfl) #[.bool true, .bool true] #[.bool false, .bool false] 50 (by rfl) K6.out (by kernel_rfl) rfl (by simp [Value.oneCell']) ?_
  intro W7 j7 f7
  have J7 := Lib.hid j7
  have M7 := Lib.hid (f7.keepBlk J6.out (by omega))
  have M5 := Lib.hid (f7.keepBlk K5.out (by omega))
  have M4 := Lib.hid (f7.keepBlk K4.out (by omega))
  have D7 := Lib.hid (D6.out.fr f7 (fun k hk e => A3.out.nh k (by omega) hk))
  have F7 := Lib.hid (F6.out.then_ f7 (fun i hi e => by omega))
  clear hHeld j7 f7
  refine hK.out _ _ ⟨M5.out, M4.out⟩ (fun hHeld => ?_)
  clear hK K
  try simp only [Act.put, List.getElem_toArray, List.getElem_cons_succ, List.getElem_cons_zero]
  refine wpAnyH_take (i := 4) (v := ?v9) rfl (by kernel_rfl) (by kernel_rfl) (by kernel_rfl) (fun _ _ _ h => h) (Or.inl ⟨by rfl, ?hy9⟩) hHeld ?rest9
  case hy9 =>
    intro w' hSw
    try dsimp only at hSw
    go_simp
    first | done | with_reducible rfl
  try simp only [Act.put, List.getElem_toArray, List.getElem_cons_succ, List.getElem_cons_zero, List.setIfInBounds_toArray, List.set_cons_zero, List.set_cons_succ]
  refine wpAnyH_done (by kernel_rfl) ?_ _
  refine OnlyN.normal ?_
  clear hHeld
  go_wp2_with fail
  exact bodyPost_ret (results_both rfl _ _ w.heap.size (w.heap.size + 1) h0 h1 true true rfl rfl M7.out J7.out) rfl ⟨rfl, D7.out, F7.out⟩
set_option maxRecDepth 100000 in
set_option maxHeartbeats 8000000 in
theorem both_one {w : World} {base p : Nat} {pl : Pl} {D : Dk} (hd : DiskAt w base p pl D) (hN : D.waits.length ≤ 1000000) (hs : D.steps < 999990) (hf0 : D.next = false) (hf1 : D.stepped.next = false) (h0 : Hd)
    (o0 : 1 ≤ h0.o ∧ h0.o ≤ 64) (q0 : (20 + 3 * h0.o == (D.size : Int)) = true) 
    (ho0 : ∀ W : World, Calls Try.prog 50 #[sec (D.reads 0)] W fun r w' => r = .returned (.tuple #[h0.val, .bool true]) ∧ Below W.heap.size W w')
    (ho1 : ∀ W : World, Calls Try.prog 50 #[sec (D.reads 1)] W fun r w' => r = .returned (.tuple #[Hd.val hd0, .bool false]) ∧ Below W.heap.size W w') :
    Calls Try.prog 20 #[.pointer (some ⟨p, 0, none⟩)] w fun r w' => r = .returned (.tuple #[.agg (cs2 h0 hd0).toArray, .agg #[.bool true, .bool false], .int .i64 0]) ∧ DiskAt w' base p pl D.stepped.stepped ∧ Fr (pl.has p) w w' := by
  have hz := z52
  have hz3 := z53
  have hz2 := z112
  have hz4 := z47
  have hz5 := z23
  have Z2 := Lib.hid (show 2 ≤ D.size by have := beq_iff_eq.1 q0; omega)
  have O0 := Lib.hid o0
  have Q0 := Lib.hid q0
  skip
  have HO0 := Lib.hid ho0
  have HO1 := Lib.hid ho1
  have L0 := Lib.hid (show (D.reads 0).length = 512 from readL_length _ _ _ (hd.lens 0) (fun x hx => (hd.wlens x hx).1))
  have L1 := Lib.hid (show (D.reads 1).length = 512 from readL_length _ _ _ (hd.lens 1) (fun x hx => (hd.wlens x hx).1))
  have HN := Lib.hid hN
  have HS := Lib.hid hs
  have HF0 := Lib.hid hf0
  have HF1 := Lib.hid hf1
  have B0 := Lib.hid (bt_new hd)
  have hi0 := index112_0 (D.reads 0) (D.reads 1) L0.out
  have hi1 := index112_1 (D.reads 0) (D.reads 1) L0.out L1.out
  have m0 : (D.reads 0).length = zs.length := by rw [L0.out, zs_length]
  have m1 : (D.reads 1).length = zs.length := by rw [L1.out, zs_length]
  have n0 : (bv (D.reads 0)).length = 512 := by rw [bv_length, L0.out]
  have n1 : (bv (D.reads 1)).length = 512 := by rw [bv_length, L1.out]
  have hl2 : (D.reads 0 ++ D.reads 1).length = zs2.length := by rw [List.length_append, L0.out, L1.out, zs2_length]
  have hb2 : (bv (D.reads 0 ++ D.reads 1)).length = 1024 := by rw [bv_length, hl2, zs2_length]
  clear hd hN hs hf0 hf1 o0 q0 ho0 ho1
  go_enter Try.func20, Try.ntmps20
  go_wp2_with fail
  generalize (((w.alloc (.cells (cs2 hd0 hd0).toArray 49)).alloc (.cells #[.bool false, .bool false] 50)).alloc (.cells (cs2 hd0 hd0).toArray 49)).alloc (.cells #[.bool false, .bool false] 50) = W at B0 ⊢
  refine (sectors_any B0.out.da HN.out Z2.out HS.out HF0.out HF1.out).mono ?_
  rintro r W1 ⟨rfl, hd1, hf1⟩
  have B1 := Lib.hid (B0.out.moved hd1 hf1)
  clear hd1 hf1 B0
  have GB := Lib.hid (Blk.new W1 108 (bv (D.reads 0 ++ D.reads 1)).toArray)
  have B2 := Lib.hid (B1.out.alloc (.cells (bv (D.reads 0 ++ D.reads 1)).toArray 108))
  go_wp2_with (refine wpList_load_mid rfl 108 (.tmp 7) rfl W1.heap.size 0 rfl (bv (D.reads 0 ++ D.reads 1)) _ GB.out.rangeAt Try.underlying108 rfl (by rw [hb2]; exact size112) ?_)
  generalize W1.alloc (.cells (bv (D.reads 0 ++ D.reads 1)).toArray 108) = U0 at GB B2 ⊢
  have A0 := Lib.hid B2.out
  clear GB B2 B1 hl2 hb2
  refine wp_loop_rounds 3 ?_
  rw [rounds_succ]
  have PB0 := Lib.hid (A0.out.alloc (.cells (bv (D.reads 0)).toArray 56))
  have PR0 := Lib.hid (Blk.new U0 56 (bv (D.reads 0)).toArray)
  go_wp2_with (first
    | (refine wpList_load47 rfl (.tmp 10) rfl U0.heap.size 0 rfl (D.reads 0) PR0.out.rangeAt L0.out ?_)
    | (go_at_call 50; refine (HO0.out _).mono ?_; rintro r Y0 ⟨rfl, hb⟩; have C0 := Lib.hid (PB0.out.next hb); have N0 := Lib.hid (blk_drew (Blk.new Y0 28 (Hd.cs h0).toArray)); have B0 := Lib.hid ((C0.out.alloc (.cells (Hd.cs h0).toArray 28)).drew); clear hb PB0 PR0))
  refine wp_region_only (S := fun w' => Blk w' Y0.heap.size 28 (Hd.cs h0).toArray) (by kernel_rfl) N0.out (fun hHeld => ?_)
  refine wpAnyH_take (i := 0) (v := ?v10) rfl (by kernel_rfl) (by kernel_rfl) (by kernel_rfl) (fun _ _ _ h => h) (Or.inl ⟨by rfl, ?hy10⟩) hHeld ?rest10
  case hy10 =>
    intro w' hSw
    try dsimp only at hSw
    go_simp
    first | done | with_reducible rfl
  try simp only [Act.put, List.getElem_toArray, List.getElem_cons_zero, List.setIfInBounds_toArray, List.set_cons_zero, List.set_cons_succ]
  refine wpAnyH_take (i := 1) (v := ?v11) rfl (by kernel_rfl) (by kernel_rfl) (by kernel_rfl) (fun _ _ _ h => h) (Or.inl ⟨by rfl, ?hy11⟩) hHeld ?rest11
  case hy11 =>
    intro w' hSw
    try dsimp only at hSw
    go_simp
    first | done | with_reducible rfl
  try simp only [Act.put, List.getElem_toArray, List.getElem_cons_succ, List.getElem_cons_zero, List.setIfInBounds_toArray, List.set_cons_zero, List.set_cons_succ]
  refine wpAnyH_take (i := 2) rfl (by kernel_rfl) (by kernel_rfl) (by kernel_rfl) (fun _ _ _ h => h) (yieldsIf_load_mid (by rfl) 28 (.tmp 11) (by rfl) Y0.heap.size 0 (by rfl) (Hd.cs h0) _ (fun w' hSw => Blk.rangeAt (l := Hd.cs h0) hSw) Try.underlying28 rfl (size23 _)) hHeld ?_
  try simp only [Act.put, List.getElem_toArray, List.getElem_cons_succ, List.getElem_cons_zero, List.setIfInBounds_toArray, List.set_cons_zero, List.set_cons_succ]
  refine wpAnyH_take (i := 3) (v := ?v12) rfl (by kernel_rfl) (by kernel_rfl) (by kernel_rfl) (fun _ _ _ h => h) (Or.inl ⟨by rfl, ?hy12⟩) hHeld ?rest12
  case hy12 =>
    intro w' hSw
    try dsimp only at hSw
    go_simp
    first | done | with_reducible rfl
  try simp only [Act.put, List.getElem_toArray, List.getElem_cons_succ, List.getElem_cons_zero, List.setIfInBounds_toArray, List.set_cons_zero, List.set_cons_succ]
  refine wpAnyH_ready (rs := [4]) (by kernel_rfl) (by simp) ?_
  refine AllReadyH.cons (by rfl) (fun K hK => ?_) AllReadyH.nil
  go_simp
  refine (size_at B0.out.da).mono ?_
  rintro r w' ⟨rfl, rfl⟩
  clear hHeld
  refine hK.out _ _ N0.out (fun hHeld => ?_)
  clear hK K
  try simp only [Act.put, List.getElem_toArray, List.getElem_cons_succ, List.getElem_cons_zero, List.setIfInBounds_toArray, List.set_cons_zero, List.set_cons_succ]
  refine wpAnyH_ready (rs := [5]) (by kernel_rfl) (by simp) ?_
  refine AllReadyH.cons (by rfl) (fun K hK => ?_) AllReadyH.nil
  go_simp
  refine (fits_any h0 O0.out _ _).mono ?_
  rw [show D.stepped.stepped.size = D.size from rfl, Q0.out]
  rintro r X0 ⟨rfl, hb⟩
  replace N0 := Lib.hid (N0.out.below hb N0.out.lt)
  replace B0 := Lib.hid (B0.out.next hb)
  clear hb hHeld
  refine hK.out _ _ N0.out (fun hHeld => ?_)
  clear hK K
  try dsimp only
  refine wpAnyH_take (i := 6) (v := ?v13) rfl (by kernel_rfl) (by kernel_rfl) (by kernel_rfl) (fun _ _ _ h => h) (Or.inl ⟨by rfl, ?hy13⟩) hHeld ?rest13
  case hy13 =>
    intro w' hSw
    try dsimp only at hSw
    go_simp
    first | done | with_reducible rfl
  try simp only [Act.put, List.getElem_toArray, List.getElem_cons_succ, List.getElem_cons_zero, List.setIfInBounds_toArray, List.set_cons_zero, List.set_cons_succ]
  refine wpAnyH_done (by kernel_rfl) ?_ _
  refine OnlyN.normal ?_
  clear hHeld
  obtain ⟨V0, hV⟩ : ∃ V, V = X0.setRow (w.heap.size + 1 + 1) ((cs2 hd0 hd0).take 0 ++ Hd.cs h0 ++ (cs2 hd0 hd0).drop (0 + (Hd.cs h0).length)).toArray := ⟨_, rfl⟩
  have P0 := Lib.hid (show Bt w base p pl D.stepped.stepped h0 hd0 false false V0 from by rw [hV]; exact B0.out.put5 h0 hd0)
  have c0 := (P0.out.h6.cell 0).trans (show _ = some (.bool false) from rfl)
  have f0 := P0.out.h6.frozen 0
  go_wp2_with (first
    | (refine wpList_load_mid rfl 28 (.tmp 11) rfl Y0.heap.size 0 rfl (Hd.cs h0) _ (Blk.rangeAt (l := Hd.cs h0) N0.out) Try.underlying28 rfl (size23 _) ?_)
    | (refine wpList_store_mid8 (off := 0) (l := cs2 hd0 hd0) (ys := Hd.cs h0) rfl 28 (.tmp 43) (.tmp 42) rfl B0.out.h5 rfl rfl (by simp [cs2]) (size23 _) (by simp [Value.oneCell']) ?_; rw [← hV]; clear hV))
  have A1 := Lib.hid P0.out.put6a
  generalize V0.setCell ⟨w.heap.size + 1 + 1 + 1, 0, none⟩ (.bool true) = U1 at A1 ⊢
  clear c0 f0 P0 B0 N0 C0 A0
  rw [rounds_succ]
  have PB1 := Lib.hid (A1.out.alloc (.cells (bv (D.reads 1)).toArray 56))
  have PR1 := Lib.hid (Blk.new U1 56 (bv (D.reads 1)).toArray)
  go_wp2_with (first
    | (refine wpList_load47 rfl (.tmp 10) rfl U1.heap.size 0 rfl (D.reads 1) PR1.out.rangeAt L1.out ?_)
    | (go_at_call 50; refine (HO1.out _).mono ?_; rintro r Y1 ⟨rfl, hb⟩; have C1 := Lib.hid (PB1.out.next hb); have N1 := Lib.hid (blk_drew (Blk.new Y1 28 (Hd.cs hd0).toArray)); have B1 := Lib.hid ((C1.out.alloc (.cells (Hd.cs hd0).toArray 28)).drew); clear hb PB1 PR1))
  refine wp_region_only (S := fun _ => True) (by kernel_rfl) trivial (fun hHeld => ?_)
  refine wpAnyH_take (i := 0) (v := ?v14) rfl (by kernel_rfl) (by kernel_rfl) (by kernel_rfl) (fun _ _ _ h => h) (Or.inl ⟨by rfl, ?hy14⟩) hHeld ?rest14
  case hy14 =>
    intro w' hSw
    try dsimp only at hSw
    go_simp
    first | done | with_reducible rfl
  try simp only [Act.put, List.getElem_toArray, List.getElem_cons_zero, List.setIfInBounds_toArray, List.set_cons_zero, List.set_cons_succ]
  refine wpAnyH_take (i := 1) (v := ?v15) rfl (by kernel_rfl) (by kernel_rfl) (by kernel_rfl) (fun _ _ _ h => h) (Or.inl ⟨by rfl, ?hy15⟩) hHeld ?rest15
  case hy15 =>
    intro w' hSw
    try dsimp only at hSw
    go_simp
    first | done | with_reducible rfl
  try simp only [Act.put, List.getElem_toArray, List.getElem_cons_succ, List.getElem_cons_zero, List.setIfInBounds_toArray, List.set_cons_zero, List.set_cons_succ]
  refine wpAnyH_take (i := 2) (v := undef) rfl (by kernel_rfl) (by kernel_rfl) (by kernel_rfl) (fun _ _ _ h => h) (Or.inr ⟨by rfl, rfl⟩) hHeld ?_
  try simp only [Act.put, List.getElem_toArray, List.getElem_cons_succ, List.getElem_cons_zero, List.setIfInBounds_toArray, List.set_cons_zero, List.set_cons_succ]
  refine wpAnyH_take (i := 3) (v := undef) rfl (by kernel_rfl) (by kernel_rfl) (by kernel_rfl) (fun _ _ _ h => h) (Or.inr ⟨by rfl, rfl⟩) hHeld ?_
  try simp only [Act.put, List.getElem_toArray, List.getElem_cons_succ, List.getElem_cons_zero, List.setIfInBounds_toArray, List.set_cons_zero, List.set_cons_succ]
  refine wpAnyH_take (i := 4) (v := undef) rfl (by kernel_rfl) (by kernel_rfl) (by kernel_rfl) (fun _ _ _ h => h) (Or.inr ⟨by rfl, rfl⟩) hHeld ?_
  try simp only [Act.put, List.getElem_toArray, List.getElem_cons_succ, List.getElem_cons_zero, List.setIfInBounds_toArray, List.set_cons_zero, List.set_cons_succ]
  refine wpAnyH_take (i := 5) (v := undef) rfl (by kernel_rfl) (by kernel_rfl) (by kernel_rfl) (fun _ _ _ h => h) (Or.inr ⟨by rfl, rfl⟩) hHeld ?_
  try simp only [Act.put, List.getElem_toArray, List.getElem_cons_succ, List.getElem_cons_zero, List.setIfInBounds_toArray, List.set_cons_zero, List.set_cons_succ]
  refine wpAnyH_take (i := 6) (v := ?v16) rfl (by kernel_rfl) (by kernel_rfl) (by kernel_rfl) (fun _ _ _ h => h) (Or.inl ⟨by rfl, ?hy16⟩) hHeld ?rest16
  case hy16 =>
    intro w' hSw
    try dsimp only at hSw
    go_simp
    first | done | with_reducible rfl
  try simp only [Act.put, List.getElem_toArray, List.getElem_cons_succ, List.getElem_cons_zero, List.setIfInBounds_toArray, List.set_cons_zero, List.set_cons_succ]
  refine wpAnyH_done (by kernel_rfl) ?_ _
  refine OnlyN.normal ?_
  clear hHeld
  go_wp2_with fail
  have A2 := Lib.hid B1.out
  generalize (Y1.alloc (.cells (Hd.cs hd0).toArray 28)).drew = U2 at A2 ⊢
  clear B1 N1 C1 A1
  rw [rounds_succ]
  go_wp2_with fail
  have A3 := Lib.hid A2.out.drew
  refine wp_region_only (S := fun w' => Blk w' (w.heap.size + 1 + 1) 49 (cs2 h0 hd0).toArray ∧ Blk w' (w.heap.size + 1 + 1 + 1) 50 #[.bool true, .bool false]) (by kernel_rfl) ⟨A3.out.h5, A3.out.h6⟩ (fun hHeld => ?_)
  refine wpAnyH_take (i := 0) rfl (by kernel_rfl) (by kernel_rfl) (by kernel_rfl) (fun _ _ _ h => h) (yieldsIf_load_mid (by rfl) 49 (.tmp 5) (by rfl) (w.heap.size + 1 + 1) 0 (by rfl) (cs2 h0 hd0) _ (fun w' hSw => Blk.rangeAt (l := cs2 h0 hd0) hSw.1) Try.underlying49 rfl (size52 _ _)) hHeld ?_
  try simp only [Act.put, List.getElem_toArray, List.getElem_cons_zero, List.setIfInBounds_toArray, List.set_cons_zero, List.set_cons_succ]
  refine wpAnyH_take (i := 1) rfl (by kernel_rfl) (by kernel_rfl) (by kernel_rfl) (fun _ _ _ h => h) (yieldsIf_load_mid (by rfl) 50 (.tmp 6) (by rfl) (w.heap.size + 1 + 1 + 1) 0 (by rfl) [.bool true, .bool false] _ (fun w' hSw => Blk.rangeAt (l := [.bool true, .bool false]) hSw.2) Try.underlying50 rfl (size53 _ _)) hHeld ?_
  try simp only [Act.put, List.getElem_toArray, List.getElem_cons_succ, List.getElem_cons_zero, List.setIfInBounds_toArray, List.set_cons_zero, List.set_cons_succ]
  refine wpAnyH_ready (rs := [2]) (by kernel_rfl) (by simp) ?_
  refine AllReadyH.cons (by rfl) (fun K hK => ?_) AllReadyH.nil
  refine step_store8 rfl 49 (.tmp 2) (.tmp 46) rfl (by rfl) (cs2 h0 hd0).toArray (cs2 hd0 hd0).toArray 49 (by rfl) A3.out.h2 (by kernel_rfl) rfl (cs2_one _ _) ?_
  intro W6 j6 f6
  have J6 := Lib.hid j6
  have K6 := Lib.hid (f6.keepBlk A3.out.h3 (by omega))
  have K5 := Lib.hid (f6.keepBlk A3.out.h5 (by omega))
  have K4 := Lib.hid (f6.keepBlk A3.out.h6 (by omega))
  have D6 := Lib.hid (A3.out.da.fr f6 (fun k hk e => A3.out.nh k (by omega) hk))
  have F6 := Lib.hid (A3.out.fr.then_ f6 (fun i hi e => by omega))
  clear hHeld j6 f6
  refine hK.out _ _ ⟨K5.out, K4.out⟩ (fun hHeld => ?_)
  clear hK K
  try simp only [Act.put, List.getElem_toArray, List.getElem_cons_succ, List.getElem_cons_zero]
  refine wpAnyH_ready (rs := [3]) (by kernel_rfl) (by simp) ?_
  refine AllReadyH.cons (by rfl) (fun K hK => ?_) AllReadyH.nil
  refine step_store8 rfl 50 (.tmp 3) (.tmp 47) rfl (by rfl) #[.bool true, .bool false] #[.bool false, .bool false] 50 (by rfl) K6.out (by kernel_rfl) rfl (by simp [Value.oneCell']) ?_
  intro W7 j7 f7
  have J7 := Lib.hid j7
  have M7 := Lib.hid (f7.keepBlk J6.out (by omega))
  have M5 := Lib.hid (f7.keepBlk K5.out (by omega))
  have M4 := Lib.hid (f7.keepBlk K4.out (by omega))
  have D7 := Lib.hid (D6.out.fr f7 (fun k hk e => A3.out.nh k (by omega) hk))
  have F7 := Lib.hid (F6.out.then_ f7 (fun i hi e => by omega))
  clear hHeld j7 f7
  refine hK.out _ _ ⟨M5.out, M4.out⟩ (fun hHeld => ?_)
  clear hK K
  try simp only [Act.put, List.getElem_toArray, List.getElem_cons_succ, List.getElem_cons_zero]
  refine wpAnyH_take (i := 4) (v := ?v17) rfl (by kernel_rfl) (by kernel_rfl) (by kernel_rfl) (fun _ _ _ h => h) (Or.inl ⟨by rfl, ?hy17⟩) hHeld ?rest17
  case hy17 =>
    intro w' hSw
    try dsimp only at hSw
    go_simp
    first | done | with_reducible rfl
  try simp only [Act.put, List.getElem_toArray, List.getElem_cons_succ, List.getElem_cons_zero, List.setIfInBounds_toArray, List.set_cons_zero, List.set_cons_succ]
  refine wpAnyH_done (by kernel_rfl) ?_ _
  refine OnlyN.normal ?_
  clear hHeld
  go_wp2_with fail
  exact bodyPost_ret (results_both rfl _ _ w.heap.size (w.heap.size + 1) h0 hd0 true false rfl rfl M7.out J7.out) rfl ⟨rfl, D7.out, F7.out⟩
end Go.Proofs.Ytcfkoglehjkkdaa

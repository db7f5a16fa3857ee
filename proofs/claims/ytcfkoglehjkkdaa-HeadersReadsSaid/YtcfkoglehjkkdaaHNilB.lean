/- headers: Both, where the sectors are not read. -/
import Derived.Test.YtcfkoglehjkkdaaHBoth
import Derived.Test.YtcfkoglehjkkdaaHNil
namespace Go.Proofs.Ytcfkoglehjkkdaa
open Go.RowKit
attribute [local go_sem] Oper.semAt_some
attribute [local go_sem] run_store_bv run_store_wc run_store_bv_drew run_store_wc_drew
set_option maxRecDepth 100000 in
set_option maxHeartbeats 4000000 in
theorem both_err (w : World) (a : Value) (e : Int) (he : (e != 0) = true) (l : List UInt8) (hl : l.length = zs2.length) (sc : ∀ W : World, Calls Try.prog 49 #[a] W fun r w' => r = .returned (.tuple #[sec l, .int .i64 e]) ∧ Below W.heap.size W w') :
    Calls Try.prog 20 #[a] w fun r w' => r = .returned (.tuple #[.agg (cs2 hd0 hd0).toArray, .agg #[.bool false, .bool false], .int .i64 e]) ∧ Below w.heap.size w w' := by
  have hz := z52
  have hz3 := z53
  have hz2 := z112
  have hz5 := z23
  have hb2 : (bv l).length = 1024 := by rw [bv_length, hl, zs2_length]
  have SC := Lib.hid sc
  have X2 := Lib.hid ((((Blk.new w 49 (cs2 hd0 hd0).toArray).alloc (.cells #[.bool false, .bool false] 50)).alloc (.cells (cs2 hd0 hd0).toArray 49)).alloc (.cells #[.bool false, .bool false] 50))
  have X3 := Lib.hid (((blk_new1 w (.cells (cs2 hd0 hd0).toArray 49) 50 #[.bool false, .bool false]).alloc (.cells (cs2 hd0 hd0).toArray 49)).alloc (.cells #[.bool false, .bool false] 50))
  have X5 := Lib.hid (show Blk ((((w.alloc (.cells (cs2 hd0 hd0).toArray 49)).alloc (.cells #[.bool false, .bool false] 50)).alloc (.cells (cs2 hd0 hd0).toArray 49)).alloc (.cells #[.bool false, .bool false] 50)) (w.heap.size + 1 + 1) 49 (cs2 hd0 hd0).toArray from by have := (blk_new1 (w.alloc (.cells (cs2 hd0 hd0).toArray 49)) (.cells #[.bool false, .bool false] 50) 49 (cs2 hd0 hd0).toArray).alloc (.cells #[.bool false, .bool false] 50); simpa using this)
  have X6 := Lib.hid (show Blk ((((w.alloc (.cells (cs2 hd0 hd0).toArray 49)).alloc (.cells #[.bool false, .bool false] 50)).alloc (.cells (cs2 hd0 hd0).toArray 49)).alloc (.cells #[.bool false, .bool false] 50)) (w.heap.size + 1 + 1 + 1) 50 #[.bool false, .bool false] from by have := blk_new1 ((w.alloc (.cells (cs2 hd0 hd0).toArray 49)).alloc (.cells #[.bool false, .bool false] 50)) (.cells (cs2 hd0 hd0).toArray 49) 50 #[.bool false, .bool false]; simpa using this)
  have LL := Lib.hid (show Below w.heap.size w ((((w.alloc (.cells (cs2 hd0 hd0).toArray 49)).alloc (.cells #[.bool false, .bool false] 50)).alloc (.cells (cs2 hd0 hd0).toArray 49)).alloc (.cells #[.bool false, .bool false] 50)) from ((((Below.refl w.heap.size w).alloc (Nat.le_refl _) (.cells (cs2 hd0 hd0).toArray 49)).alloc (by simp) (.cells #[.bool false, .bool false] 50)).alloc (by simp; omega) (.cells (cs2 hd0 hd0).toArray 49)).alloc (by simp; omega) (.cells #[.bool false, .bool false] 50))
  clear sc
  go_enter Try.func20, Try.ntmps20
  go_wp2_with fail
  generalize (((w.alloc (.cells (cs2 hd0 hd0).toArray 49)).alloc (.cells #[.bool false, .bool false] 50)).alloc (.cells (cs2 hd0 hd0).toArray 49)).alloc (.cells #[.bool false, .bool false] 50) = W at X2 X3 X5 X6 LL ⊢
  refine (SC.out W).mono ?_
  rintro r W1 ⟨rfl, hb⟩
  replace X2 := Lib.hid ((X2.out.below hb X2.out.lt).alloc (.cells (bv l).toArray 108))
  replace X3 := Lib.hid ((X3.out.below hb X3.out.lt).alloc (.cells (bv l).toArray 108))
  replace X5 := Lib.hid ((X5.out.below hb X5.out.lt).alloc (.cells (bv l).toArray 108))
  replace X6 := Lib.hid ((X6.out.below hb X6.out.lt).alloc (.cells (bv l).toArray 108))
  replace LL := Lib.hid (show Below w.heap.size w (W1.alloc (.cells (bv l).toArray 108)) from by have h1 := LL.out.trans (hb.mono LL.out.size); exact h1.alloc h1.size _)
  clear hb
  go_wp2_with fail
  generalize W1.alloc (.cells (bv l).toArray 108) = U at X2 X3 X5 X6 LL ⊢
  replace X2 := Lib.hid (drew_blk X2.out)
  replace X3 := Lib.hid (drew_blk X3.out)
  replace X5 := Lib.hid (drew_blk X5.out)
  replace X6 := Lib.hid (drew_blk X6.out)
  replace LL := Lib.hid (Below.drew LL.out)
  refine wp_region_only (S := fun w' => Blk w' (w.heap.size + 1 + 1) 49 (cs2 hd0 hd0).toArray ∧ Blk w' (w.heap.size + 1 + 1 + 1) 50 #[.bool false, .bool false]) (by kernel_rfl) ⟨X5.out, X6.out⟩ (fun hHeld => ?_)
  refine wpAnyH_take (i := 0) rfl (by kernel_rfl) (by kernel_rfl) (by kernel_rfl) (fun _ _ _ h => h) (yieldsIf_load_mid (by rfl) 49 (.tmp 5) (by rfl) (w.heap.size + 1 + 1) 0 (by rfl) (cs2 hd0 hd0) _ (fun w' hSw => Blk.rangeAt (l := (cs2 hd0 hd0)) hSw.1) Try.underlying49 rfl (size52 _ _)) hHeld ?_
  try simp only [Act.put, List.getElem_toArray, List.getElem_cons_zero, List.setIfInBounds_toArray, List.set_cons_zero, List.set_cons_succ]
  refine wpAnyH_take (i := 1) rfl (by kernel_rfl) (by kernel_rfl) (by kernel_rfl) (fun _ _ _ h => h) (yieldsIf_load_mid (by rfl) 50 (.tmp 6) (by rfl) (w.heap.size + 1 + 1 + 1) 0 (by rfl) [.bool false, .bool false] _ (fun w' hSw => Blk.rangeAt (l := [.bool false, .bool false]) hSw.2) Try.underlying50 rfl (size53 _ _)) hHeld ?_
  try simp only [Act.put, List.getElem_toArray, List.getElem_cons_succ, List.getElem_cons_zero, List.setIfInBounds_toArray, List.set_cons_zero, List.set_cons_succ]
  refine wpAnyH_take (i := 2) (v := ?v1) rfl (by kernel_rfl) (by kernel_rfl) (by kernel_rfl) (fun _ _ _ h => h) (Or.inl ⟨by rfl, ?hy1⟩) hHeld ?rest1
  case hy1 =>
    intro w' hSw
    try dsimp only at hSw
    go_simp
    first | done | with_reducible rfl
  try simp only [Act.put, List.getElem_toArray, List.getElem_cons_succ, List.getElem_cons_zero, List.setIfInBounds_toArray, List.set_cons_zero, List.set_cons_succ]
  refine wpAnyH_ready (rs := [3]) (by kernel_rfl) (by simp) ?_
  refine AllReadyH.cons (by rfl) (fun K hK => ?_) AllReadyH.nil
  refine step_store8 rfl 49 (.tmp 2) (.tmp 20) rfl (by rfl) (cs2 hd0 hd0).toArray (cs2 hd0 hd0).toArray 49 (by rfl) X2.out (by kernel_rfl) rfl (cs2_one _ _) ?_
  intro W6 j6 f6
  have J6 := Lib.hid j6
  have K3 := Lib.hid (f6.keepBlk X3.out (by omega))
  have K5 := Lib.hid (f6.keepBlk X5.out (by omega))
  have K6 := Lib.hid (f6.keepBlk X6.out (by omega))
  have L6 := Lib.hid (LL.out.trans (f6.to_below (fun k e => by omega) LL.out.size))
  clear hHeld j6 f6
  refine hK.out _ _ ⟨K5.out, K6.out⟩ (fun hHeld => ?_)
  clear hK K
  try simp only [Act.put, List.getElem_toArray, List.getElem_cons_succ, List.getElem_cons_zero]
  refine wpAnyH_ready (rs := [4]) (by kernel_rfl) (by simp) ?_
  refine AllReadyH.cons (by rfl) (fun K hK => ?_) AllReadyH.nil
  refine step_store8 rfl 50 (.tmp 3) (.tmp 21) rfl (by rfl) #[.bool false, .bool false] #[.bool false, .bool false] 50 (by rfl) K3.out (by kernel_rfl) rfl (by simp [Value.oneCell']) ?_
  intro W7 j7 f7
  have J7 := Lib.hid j7
  have M2 := Lib.hid (f7.keepBlk J6.out (by omega))
  have M5 := Lib.hid (f7.keepBlk K5.out (by omega))
  have M6 := Lib.hid (f7.keepBlk K6.out (by omega))
  have L7 := Lib.hid (L6.out.trans (f7.to_below (fun k e => by omega) L6.out.size))
  clear hHeld j7 f7
  refine hK.out _ _ ⟨M5.out, M6.out⟩ (fun hHeld => ?_)
  clear hK K
  try simp only [Act.put, List.getElem_toArray, List.getElem_cons_succ, List.getElem_cons_zero]
  refine wpAnyH_take (i := 5) (v := ?v2) rfl (by kernel_rfl) (by kernel_rfl) (by kernel_rfl) (fun _ _ _ h => h) (Or.inl ⟨by rfl, ?hy2⟩) hHeld ?rest2
  case hy2 =>
    intro w' hSw
    try dsimp only at hSw
    go_simp
    first | done | with_reducible rfl
  try simp only [Act.put, List.getElem_toArray, List.getElem_cons_succ, List.getElem_cons_zero, List.setIfInBounds_toArray, List.set_cons_zero, List.set_cons_succ]
  refine wpAnyH_done (by kernel_rfl) ?_ _
  refine OnlyN.normal ?_
  clear hHeld
  go_wp2_with fail
  exact bodyPost_ret (results_both rfl _ _ w.heap.size (w.heap.size + 1) hd0 hd0 false false rfl rfl M2.out J7.out) rfl ⟨rfl, L7.out⟩
theorem both_nil (w : World) : Calls Try.prog 20 #[.pointer none] w fun r w' => r = .returned (.tuple #[.agg (cs2 hd0 hd0).toArray, .agg #[.bool false, .bool false], .int .i64 1]) ∧ Below w.heap.size w w' :=
  both_err w _ 1 rfl zs2 rfl sectors_nil
end Go.Proofs.Ytcfkoglehjkkdaa

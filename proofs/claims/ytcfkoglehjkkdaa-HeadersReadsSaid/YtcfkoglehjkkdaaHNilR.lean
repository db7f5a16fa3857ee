/- headers: Read, where Both says an error. -/
import Derived.Test.YtcfkoglehjkkdaaHRead
import Derived.Test.YtcfkoglehjkkdaaHNilB
namespace Go.Proofs.Ytcfkoglehjkkdaa
open Go.RowKit
attribute [local go_sem] Oper.semAt_some
set_option maxRecDepth 100000 in
set_option maxHeartbeats 4000000 in
theorem hread_err (w : World) (a : Value) (e : Int) (he : (e != 0) = true) (bc : ∀ W : World, Calls Try.prog 20 #[a] W fun r w' => r = .returned (.tuple #[.agg (cs2 hd0 hd0).toArray, .agg #[.bool false, .bool false], .int .i64 e]) ∧ Below W.heap.size W w') :
    Calls Try.prog 18 #[a] w fun r w' => r = .returned (.tuple #[hd0.val, .int .i64 0, .int .i64 e]) ∧ Below w.heap.size w w' := by
  have hz := z52
  have hz3 := z53
  have hz5 := z23
  have HBC := Lib.hid bc
  have R0 := Lib.hid (Blk.new w 28 hd0.cs.toArray)
  have L0 := Lib.hid ((Below.refl w.heap.size w).alloc (Nat.le_refl _) (.cells hd0.cs.toArray 28))
  clear bc
  go_enter Try.func18, Try.ntmps18
  go_wp2_with fail
  refine (HBC.out _).mono ?_
  rintro r W1 ⟨rfl, hb⟩
  have R1 := Lib.hid (R0.out.below hb R0.out.lt)
  have L1 := Lib.hid (L0.out.trans (hb.mono L0.out.size))
  have GT := Lib.hid (show w.heap.size < W1.heap.size from R1.out.lt)
  clear hb R0 L0
  obtain ⟨V0, hV0⟩ : ∃ V, V = (W1.alloc (.cells (cs2 hd0 hd0).toArray 49)).alloc (.cells #[.bool false, .bool false] 50) := ⟨_, rfl⟩
  have P1 := Lib.hid (show Blk V0 W1.heap.size 49 (cs2 hd0 hd0).toArray from by rw [hV0]; exact (Blk.new W1 _ _).alloc _)
  have P2 := Lib.hid (show Blk V0 (W1.heap.size + 1) 50 #[.bool false, .bool false] from by rw [hV0]; exact blk_new1 W1 _ _ _)
  have R2 := Lib.hid (show Blk V0 w.heap.size 28 hd0.cs.toArray from by rw [hV0]; exact (R1.out.alloc _).alloc _)
  have L2 := Lib.hid (show Below w.heap.size w V0 from by rw [hV0]; have h1 := L1.out.alloc L1.out.size (.cells (cs2 hd0 hd0).toArray 49); exact h1.alloc h1.size _)
  obtain ⟨V1, hV1⟩ : ∃ V, V = V0.setRow W1.heap.size (cs2 hd0 hd0).toArray := ⟨_, rfl⟩
  obtain ⟨V2, hV2⟩ : ∃ V, V = V1.setRow (W1.heap.size + 1) #[.bool false, .bool false] := ⟨_, rfl⟩
  have f1 : Fr (fun k => k = W1.heap.size) V0 V1 := by rw [hV1]; exact setRow_fr8 _ _ _
  have f2 : Fr (fun k => k = W1.heap.size + 1) V1 V2 := by rw [hV2]; exact setRow_fr8 _ _ _
  have Q2 := Lib.hid (f1.keepBlk P2.out (by omega))
  have R3 := Lib.hid (f2.keepBlk (f1.keepBlk R2.out (by have := GT.out; omega)) (by have := GT.out; omega))
  have L3 := Lib.hid (show Below w.heap.size w V2 from by have h1 := L2.out.trans (f1.to_below (fun k e => by have := GT.out; omega) L2.out.size); exact h1.trans (f2.to_below (fun k e => by have := GT.out; omega) h1.size))
  clear f1 f2 R1 L1 R2 L2
  go_wp2_with (first
    | (refine wpList_store_row rfl 49 (.tmp 5) (.tmp 13) rfl W1.heap.size (cs2 hd0 hd0).toArray rfl rfl 49 (cs2 hd0 hd0).toArray (by rw [← hV0]; exact P1.out) (by kernel_rfl) rfl (cs2_one _ _) ?_; rw [← hV0, ← hV1])
    | (refine wpList_store_row rfl 50 (.tmp 6) (.tmp 14) rfl (W1.heap.size + 1) #[.bool false, .bool false] rfl rfl 50 _ Q2.out (by kernel_rfl) rfl (by simp [Value.oneCell']) ?_; rw [← hV2]; clear hV0 hV1 hV2 P1 P2 Q2)
    | (refine wpList_store_row rfl 28 (.tmp 2) (.tmp 18) rfl w.heap.size hd0.cs.toArray rfl rfl 28 _ R3.out (by kernel_rfl) rfl (one23 _) ?_))
  exact bodyPost_ret (results_read8 rfl _ _ w.heap.size hd0 rfl (R3.out.setRow _)) rfl ⟨rfl, L3.out.trans ((setRow_fr8 _ _ _).to_below (fun k e => by omega) L3.out.size)⟩
theorem hread_nil (w : World) : Calls Try.prog 18 #[.pointer none] w fun r w' => r = .returned (.tuple #[hd0.val, .int .i64 0, .int .i64 1]) ∧ Below w.heap.size w w' :=
  hread_err w _ 1 rfl both_nil
end Go.Proofs.Ytcfkoglehjkkdaa

/- headers: sectors of no disk. -/
import Derived.Test.YtcfkoglehjkkdaaHSecs
namespace Go.Proofs.Ytcfkoglehjkkdaa
open Go.RowKit
attribute [local go_sem] Oper.semAt_some
set_option maxRecDepth 100000 in
set_option maxHeartbeats 2000000 in
theorem sectors_nil (w : World) : Calls Try.prog 49 #[.pointer none] w fun r w' => r = .returned (.tuple #[sec zs2, .int .i64 1]) ∧ Below w.heap.size w w' := by
  have hz := z112
  have B0 := Lib.hid (Blk.new w 108 (bv zs2).toArray)
  have L0 := Lib.hid ((Below.refl w.heap.size w).alloc (Nat.le_refl _) (.cells (bv zs2).toArray 108))
  have hb2 : (bv zs2).length = 1024 := by rw [bv_length, zs2_length]
  go_enter Try.func49, Try.ntmps49
  go_wp2_with (first
    | (go_at_call 35; refine (size_nil _).mono ?_; rintro r w' ⟨rfl, rfl⟩)
    | (refine wpList_load_mid rfl 108 (.tmp 2) rfl w.heap.size 0 rfl (bv zs2) _ B0.out.rangeAt Try.underlying108 rfl (by rw [hb2]; exact size112) ?_)
    | (refine wpList_store_row rfl 108 (.tmp 2) (.tmp 11) rfl w.heap.size (bv zs2).toArray rfl rfl 108 _ B0.out (by rw [List.size_toArray, hb2]; exact size112) rfl (bv_ones8 _) ?_))
  refine bodyPost_ret (results_cell2 rfl _ _ w.heap.size _ zs2_length rfl (B0.out.setRow _)) rfl ⟨rfl, L0.out.trans ((setRow_fr8 _ _ _).to_below (fun k e => by omega) L0.out.size)⟩
end Go.Proofs.Ytcfkoglehjkkdaa

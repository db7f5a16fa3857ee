/- law 14: known: a number is told. -/
import Derived.Test.YtogkdhpnbpgheaaGreatDoorQDo
namespace Go.Proofs.YtogkdhpnbpgheaaGreatDoor
open Go.RowKit
theorem new_one (w : World) (hT : Tab w) : Calls Tryz.prog 22 #[.int .i64 1] w fun e w' => e = .returned (.tuple #[pv (w.heap.size + 1), .int .i64 0]) ∧ (∃ A' cap' ps, StAt w' (w.heap.size + 1) (w.heap.size + 1) A' cap' ps [oz]) ∧ Below w.heap.size w w' := new_ok 1 w hT (by decide) (by decide)
set_option maxRecDepth 100000 in
set_option maxHeartbeats 1000000 in
theorem oknown (w : World) (hT : Tab w) : Calls Tryz.prog 12 #[] w fun e w' => e = .returned (.bool true) ∧ Below w.heap.size w w' := by
  have hz := zMg
  have HT := Lib.hid hT
  clear hT
  go_enter Tryz.func12, Tryz.ntmps12
  go_wp2_with (first
    | (go_at_call 22; refine (new_one _ HT.out).mono ?_; rintro e w1 ⟨rfl, ⟨A1, cap1, ps1, hs⟩, b1⟩; have HS1 := Lib.hid hs; have HT1 := Lib.hid (HT.out.below b1); have HB1 := Lib.hid b1; clear hs b1)
    | ((with_reducible show wpList _ _ _ ({ dst := some 15, op := .build _ _, type := _, pos := _, after := _, guard := _ } :: _) _ _); refine wpList_yields (S := fun _ => True) (show YieldsIf Tryz.prog _ _ _ (nk.val) _ from .inl ⟨by rfl, fun _ _ => by kernel_rfl⟩) trivial ?_)
    | ((with_reducible show wpList _ _ _ ({ dst := some 16, op := .build _ _, type := _, pos := _, after := _, guard := _ } :: _) _ _); refine wpList_yields (S := fun _ => True) (show YieldsIf Tryz.prog _ _ _ (.agg (mzc 1).toArray) _ from .inl ⟨by rfl, fun _ _ => by kernel_rfl⟩) trivial ?_)
    | (go_at_call 15; refine (do_one HS1.out (by decide) HT1.out).mono ?_; rintro e w2 ⟨rfl, b2⟩; have HS2 := Lib.hid (HS1.out.below b2); have HT2 := Lib.hid (HT1.out.below b2); have HB2 := Lib.hid (HB1.out.trans (b2.mono HB1.out.size)); clear b2 HS1 HT1 HB1)
    | ((with_reducible show wpList _ _ _ ({ dst := none, op := .store _ (.tmp 3) (.tmp 18), type := _, pos := _, after := _, guard := _ } :: _) _ _); refine wpList_store_new (l := mtc 5) (l0 := mzc 0) (ty := 36) rfl (.tmp 3) (.tmp 18) (by rfl) w2.heap.size (by rfl) (by rfl) (by rfl) sizeMg rfl (mtc_one 5) ?_; have HS3 := Lib.hid (HS2.out.alloc (.cells (mtc 5).toArray 36)); have HT3 := Lib.hid (HT2.out.alloc (.cells (mtc 5).toArray 36)); have HB3 := Lib.hid (HB2.out.alloc HB2.out.size (.cells (mtc 5).toArray 36)); have HM3 := Lib.hid (Blk.new w2 36 (mtc 5).toArray); obtain ⟨g3, hg3⟩ : ∃ g3, w2.heap.size = g3 := ⟨_, rfl⟩; rw [hg3] at HM3 ⊢; clear hg3; generalize w2.alloc (.cells (mtc 5).toArray 36) = w3 at HS3 HT3 HB3 HM3 ⊢)
    | ((with_reducible show wpList _ _ _ ({ dst := some 23, op := .build _ _, type := _, pos := _, after := _, guard := _ } :: _) _ _); refine wpList_yields (S := fun _ => True) (show YieldsIf Tryz.prog _ _ _ (nk.val) _ from .inl ⟨by rfl, fun _ _ => by kernel_rfl⟩) trivial ?_)
    | ((with_reducible show wpList _ _ _ ({ dst := some 24, op := .build _ _, type := _, pos := _, after := _, guard := _ } :: _) _ _); refine wpList_yields (S := fun _ => True) (show YieldsIf Tryz.prog _ _ _ (.agg (mzc 2).toArray) _ from .inl ⟨by rfl, fun _ _ => by kernel_rfl⟩) trivial ?_)
    | (go_at_call 15; refine (do_two HS3.out (by decide) HT3.out).mono ?_; rintro e w4 ⟨rfl, b4⟩; have HB4 := Lib.hid (HB3.out.trans (b4.mono HB3.out.size)); have HM4 := Lib.hid (HM3.out.keep b4); clear b4)
    | ((with_reducible show wpList _ _ _ ({ dst := none, op := .store _ (.tmp 6) (.tmp 26), type := _, pos := _, after := _, guard := _ } :: _) _ _); refine wpList_store_new (l := mzc 240) (l0 := mzc 0) (ty := 36) rfl (.tmp 6) (.tmp 26) (by rfl) w4.heap.size (by rfl) (by rfl) (by rfl) sizeMg rfl (mzc_one 240) ?_; have HB5 := Lib.hid (HB4.out.alloc HB4.out.size (.cells (mzc 240).toArray 36)); have HM5 := Lib.hid (HM4.out.alloc (.cells (mzc 240).toArray 36)); have HN5 := Lib.hid (Blk.new w4 36 (mzc 240).toArray); obtain ⟨g5, hg5⟩ : ∃ g5, w4.heap.size = g5 := ⟨_, rfl⟩; rw [hg5] at HN5 ⊢; clear hg5; generalize w4.alloc (.cells (mzc 240).toArray 36) = w5 at HB5 HM5 HN5 ⊢; have k0 : w5.cell? ⟨g3, 0, none⟩ = some (.int .i64 0) := HM5.out.cell 0; have k1 : w5.cell? ⟨g3, 19, none⟩ = some (.int .i64 5) := HM5.out.cell 19; have k2 : w5.cell? ⟨g5, 0, none⟩ = some (.int .i64 240) := HN5.out.cell 0))
  go_ret
  exact ⟨rfl, HB5.out⟩
end Go.Proofs.YtogkdhpnbpgheaaGreatDoor

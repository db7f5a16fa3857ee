/- orders: an error is told in place of the answer, and what is done gives up. -/
import Derived.Test.YtogkdhpnbpgheaaGreatDoorQFc
namespace Go.Proofs.YtogkdhpnbpgheaaGreatDoor
open Go.RowKit
/-- the cells of a message that tells a number alone -/
def mzc (n : Int) : List Value := [.int .i64 n, .string ⟨#[]⟩] ++ List.replicate 18 (.int .i64 0)
theorem mzc_len (n : Int) : (mzc n).length = 20 := rfl
set_option maxRecDepth 8000 in
theorem mzc_one (n : Int) : ∀ u ∈ mzc n, u.oneCell' = true := by
  intro u hu
  simp [mzc] at hu
  rcases hu with rfl | rfl | rfl <;> rfl
set_option maxRecDepth 8000 in
theorem sizeMg : (Tryz.prog.info? 36).map (·.size) = some 20 := by kernel_rfl
set_option maxRecDepth 100000 in
set_option maxHeartbeats 2000000 in
theorem rf_any {w : World} {g : Nat} {l : List Value} (h : Blk w g 36 l.toArray) (hl : l.length = 20) (n : Int) : Calls Tryz.prog 28 #[.int .i64 n, .pointer (some ⟨g, 0, none⟩)] w fun e w' => e = .panicked rfd ∧ Blk w' g 36 (mzc n).toArray ∧ Fr (fun k => k = g) w w' := by
  have HB := Lib.hid h
  have HL := Lib.hid hl
  clear h hl
  go_enter Tryz.func28, Tryz.ntmps28
  go_wp2_with (first
    | ((with_reducible show wpList _ _ _ ({ dst := some 4, op := .build _ _, type := _, pos := _, after := _, guard := _ } :: _) _ _); refine wpList_yields (S := fun _ => True) (show YieldsIf Tryz.prog _ _ _ (.agg (mzc n).toArray) _ from .inl ⟨by rfl, fun _ _ => by kernel_rfl⟩) trivial ?_)
    | ((with_reducible show wpList _ _ _ ({ dst := none, op := .store _ (.tmp 1) (.tmp 4), type := _, pos := _, after := _, guard := _ } :: _) _ _); refine wpList_store_in HB.out rfl (.tmp 1) (.tmp 4) (ty := 36) (l := mzc n) (l1 := mzc n) (off := 0) (by rfl) (by rfl) (by rfl) sizeMg (by rw [HL.out, mzc_len]; decide) (mzc_one n) (by rw [mzc_len, List.drop_eq_nil_of_le (by have := HL.out; omega)]; simp) ?_)
    | ((with_reducible show wpList _ _ _ ({ dst := some 5, op := .build _ _, type := _, pos := _, after := _, guard := _ } :: _) _ _); refine wpList_yields (S := fun _ => True) (show YieldsIf Tryz.prog _ _ _ (.agg #[]) _ from .inl ⟨by rfl, fun _ _ => by kernel_rfl⟩) trivial ?_))
  exact ⟨rfl, rfl, HB.out.setRow _, setRow_fr w g _⟩
end Go.Proofs.YtogkdhpnbpgheaaGreatDoor

/- orders: a number is told; a number's key tells itself. -/
import Derived.Test.YtogkdhpnbpgheaaGreatDoorR12
import Derived.Test.YtogkdhpnbpgheaaGreatDoorR09
namespace Go.Proofs.YtogkdhpnbpgheaaGreatDoor
open Go.RowKit
/-- an order's cells with a number told in its answer -/
def tnC (l : List Value) (n : Int) : List Value := l.take 42 ++ kl ⟨1, 0, 0, 0, 0, n⟩ ++ l.drop 48
set_option maxRecDepth 8000 in
theorem tnC_len {l : List Value} (h : l.length = 50) (n : Int) : (tnC l n).length = 50 := by simp [tnC, kl_len, h]
set_option maxRecDepth 100000 in
set_option maxHeartbeats 2000000 in
theorem tn_any {w : World} {g : Nat} {l : List Value} (h : Blk w g 79 l.toArray) (hl : l.length = 50) (n : Int) : Calls Tryz.prog 146 #[.pointer (some ⟨g, 0, none⟩), .int .i64 n] w fun e w' => e = .returned (.tuple #[]) ∧ Blk w' g 79 (tnC l n).toArray ∧ Fr (fun k => k = g) w w' := by
  have HB := Lib.hid h
  have HL := Lib.hid hl
  clear h hl
  go_enter Tryz.func146, Tryz.ntmps146
  go_wp2_with (first
    | ((with_reducible show wpList _ _ _ ({ dst := some 6, op := .build _ _, type := _, pos := _, after := _, guard := _ } :: _) _ _); refine wpList_yields (S := fun _ => True) (show YieldsIf Tryz.prog _ _ _ (.agg (kl ⟨1, 0, 0, 0, 0, n⟩).toArray) _ from .inl ⟨by rfl, fun _ _ => by kernel_rfl⟩) trivial ?_)
    | ((with_reducible show wpList _ _ _ ({ dst := none, op := .store _ (.tmp 10) (.tmp 6), type := _, pos := _, after := _, guard := _ } :: _) _ _); refine wpList_store_in HB.out rfl (.tmp 10) (.tmp 6) (ty := 33) (l := kl ⟨1, 0, 0, 0, 0, n⟩) (l1 := tnC l n) (off := 42) (by rfl) (by rfl) (by rfl) size30 (by rw [kl_len, HL.out]; decide) (kl_one _) (by rw [kl_len]; rfl) ?_))
  go_end0
  exact ⟨rfl, HB.out.setRow _, setRow_fr w g _⟩
set_option maxRecDepth 100000 in
set_option maxHeartbeats 2000000 in
theorem it_any {w : World} {g : Nat} {l : List Value} {n : Int} (h : Blk w g 79 l.toArray) (hl : l.length = 50) (hn : l[27]? = some (.int .i64 n)) : Calls Tryz.prog 85 #[.pointer (some ⟨g, 0, none⟩)] w fun e w' => e = .returned (.tuple #[]) ∧ Blk w' g 79 (tnC l n).toArray ∧ Fr (fun k => k = g) w w' := by
  have HB := Lib.hid h
  have HL := Lib.hid hl
  have c27 := (h.cell 27).trans (show l.toArray[27]? = some (.int .i64 n) by simpa using hn)
  clear h hl hn
  go_enter Tryz.func85, Tryz.ntmps85
  go_wp2_with (go_at_call 146; refine (tn_any HB.out HL.out n).mono ?_; rintro e w1 ⟨rfl, h1, f1⟩; have H1 := Lib.hid h1; have F1 := Lib.hid f1; clear h1 f1)
  go_end0
  exact ⟨rfl, H1.out, F1.out⟩
end Go.Proofs.YtogkdhpnbpgheaaGreatDoor

/- codec: passObject: by a reader, none. -/
import Derived.Test.YtfclkkbmgclfgaaDoorCX
namespace Go.Proofs.YtfclkkbmgclfgaaDoor
open Go.RowKit
set_option maxRecDepth 8000 in
set_option maxHeartbeats 1000000 in
theorem passObject_no1 (g s K : Nat) (l : List UInt8) (w : World) (hW : RdAt w g s l) (hK : Blk w K obt oz.cells.toArray) (hl : l.length = 508) (h1 : ¬ nou ((l.drop 1).take 3)) (hg : K ≠ g) (hs : K ≠ s) :
    Calls Tryd.prog 20 #[rdi g, .pointer (some ⟨K, 0, none⟩)] w fun e w' => e = .panicked (erc 151) ∧ Fr (fun j => j = g ∨ j = K) w w' := by
  have i0 : ∀ w, (Instr.index 89 (.agg ofs) (.int .i64 0)).run Tryd.prog w = .ok (.func (.func 53) #[] #[]) w := fun _ => by kernel_rfl
  have i1 : ∀ w, (Instr.index 89 (.agg ofs) (.int .i64 1)).run Tryd.prog w = .ok (.func (.func 55) #[] #[]) w := fun _ => by kernel_rfl
  have HW := Lib.hid hW
  have HK := Lib.hid hK
  have HL := Lib.hid hl
  have Y0 := Lib.hid (show 1 ≤ l.length by omega)
  have Y1 := Lib.hid (show 3 ≤ (l.drop 1).length by rw [List.length_drop]; omega)
  have Z1 := Lib.hid h1
  clear hW hK hl h1
  go_enter Tryd.func20, Tryd.ntmps20
  go_wp2_with (go_at_call 35; refine (objectFields_any _).mono ?_; rintro e w0 ⟨rfl, hb0⟩; have A0 := Lib.hid (HW.out.below hb0); have K0 := Lib.hid (HK.out.keep hb0); have F0 := Lib.hid (Fr.of_below (S := fun j => j = g ∨ j = K) hb0); clear hb0)
  refine wp_loop_rounds 8 ?_
  rw [rounds_succ]
  go_wp2_with (go_at_call 53; refine (of1_r g s K l _ _ A0.out K0.out rfl Y0.out hg hs).mono ?_; rintro e w1 ⟨rfl, h1, h2, h3⟩; have A1 := Lib.hid (show RdAt w1 g s (l.drop 1) by exact h1); have K1 := Lib.hid (show Blk w1 K obt (obc ((b0 l).toNat : Int) 0 0 zks zbs).toArray from h2); have F1 := Lib.hid (F0.out.trans h3); clear h1 h2 h3 A0 K0 F0)
  rw [rounds_succ]
  go_wp2_with (go_at_call 55; refine (of2_no g s K (l.drop 1) _ A1.out Y1.out Z1.out).mono ?_; rintro e w2 ⟨rfl, h1⟩; have F2 := Lib.hid (F1.out.trans (h1.mono (fun _ _ h => .inl h))))
  exact ⟨rfl, rfl, F2.out⟩
end Go.Proofs.YtfclkkbmgclfgaaDoor
namespace Go.Proofs.YtfclkkbmgclfgaaDoor
open Go.RowKit
set_option maxRecDepth 8000 in
set_option maxHeartbeats 1000000 in
theorem passObject_no2 (g s K : Nat) (l : List UInt8) (w : World) (hW : RdAt w g s l) (hK : Blk w K obt oz.cells.toArray) (hl : l.length = 508) (h1 : nou ((l.drop 1).take 3)) (h2 : ¬ nou ((l.drop 396).take 112)) (hg : K ≠ g) (hs : K ≠ s) :
    Calls Tryd.prog 20 #[rdi g, .pointer (some ⟨K, 0, none⟩)] w fun e w' => e = .panicked (erc 151) ∧ Fr (fun j => j = g ∨ j = K) w w' := by
  have i0 : ∀ w, (Instr.index 89 (.agg ofs) (.int .i64 0)).run Tryd.prog w = .ok (.func (.func 53) #[] #[]) w := fun _ => by kernel_rfl
  have i1 : ∀ w, (Instr.index 89 (.agg ofs) (.int .i64 1)).run Tryd.prog w = .ok (.func (.func 55) #[] #[]) w := fun _ => by kernel_rfl
  have i2 : ∀ w, (Instr.index 89 (.agg ofs) (.int .i64 2)).run Tryd.prog w = .ok (.func (.func 57) #[] #[]) w := fun _ => by kernel_rfl
  have i3 : ∀ w, (Instr.index 89 (.agg ofs) (.int .i64 3)).run Tryd.prog w = .ok (.func (.func 58) #[] #[]) w := fun _ => by kernel_rfl
  have i4 : ∀ w, (Instr.index 89 (.agg ofs) (.int .i64 4)).run Tryd.prog w = .ok (.func (.func 59) #[] #[]) w := fun _ => by kernel_rfl
  have i5 : ∀ w, (Instr.index 89 (.agg ofs) (.int .i64 5)).run Tryd.prog w = .ok (.func (.func 61) #[] #[]) w := fun _ => by kernel_rfl
  have i6 : ∀ w, (Instr.index 89 (.agg ofs) (.int .i64 6)).run Tryd.prog w = .ok (.func (.func 62) #[] #[]) w := fun _ => by kernel_rfl
  have HW := Lib.hid hW
  have HK := Lib.hid hK
  have HL := Lib.hid hl
  have Y0 := Lib.hid (show 1 ≤ l.length by omega)
  have Y1 := Lib.hid (show 3 ≤ (l.drop 1).length by rw [List.length_drop]; omega)
  have Y2 := Lib.hid (show 4 ≤ (l.drop 4).length by rw [List.length_drop]; omega)
  have Y3 := Lib.hid (show 4 ≤ (l.drop 8).length by rw [List.length_drop]; omega)
  have Y4 := Lib.hid (show 320 ≤ (l.drop 12).length by rw [List.length_drop]; omega)
  have Y5 := Lib.hid (show 64 ≤ (l.drop 332).length by rw [List.length_drop]; omega)
  have Y6 := Lib.hid (show 112 ≤ (l.drop 396).length by rw [List.length_drop]; omega)
  have Z1 := Lib.hid h1
  have Z6 := Lib.hid h2
  have Z5 := Lib.hid (show 99 + 64 ≤ (obc ((b0 l).toNat : Int) (numLE ((l.drop 4).take 4) : Int) (numLE ((l.drop 8).take 4) : Int) (kofs 16 (l.drop 12)) zbs).length by simp [obc, kcs_length, bv_length, kofs_length, zbs])
  clear hW hK hl h1 h2
  go_enter Tryd.func20, Tryd.ntmps20
  go_wp2_with (go_at_call 35; refine (objectFields_any _).mono ?_; rintro e w0 ⟨rfl, hb0⟩; have A0 := Lib.hid (HW.out.below hb0); have K0 := Lib.hid (HK.out.keep hb0); have F0 := Lib.hid (Fr.of_below (S := fun j => j = g ∨ j = K) hb0); clear hb0)
  refine wp_loop_rounds 8 ?_
  rw [rounds_succ]
  go_wp2_with (go_at_call 53; refine (of1_r g s K l _ _ A0.out K0.out rfl Y0.out hg hs).mono ?_; rintro e w1 ⟨rfl, h1, h2, h3⟩; have A1 := Lib.hid (show RdAt w1 g s (l.drop 1) by exact h1); have K1 := Lib.hid (show Blk w1 K obt (obc ((b0 l).toNat : Int) 0 0 zks zbs).toArray from h2); have F1 := Lib.hid (F0.out.trans h3); clear h1 h2 h3 A0 K0 F0)
  rw [rounds_succ]
  go_wp2_with (go_at_call 55; refine (of2_r g s K (l.drop 1) _ A1.out Y1.out Z1.out).mono ?_; rintro e w2 ⟨rfl, h1, h2⟩; have A2 := Lib.hid (show RdAt w2 g s (l.drop 4) by rw [List.drop_drop] at h1; exact h1); have K2 := Lib.hid (show Blk w2 K obt (obc ((b0 l).toNat : Int) 0 0 zks zbs).toArray from (h2.block K (Blk.lt K1.out) hg).trans K1.out); have F2 := Lib.hid (F1.out.trans (h2.mono (fun _ _ h => .inl h))); clear h1 h2 A1 K1 F1)
  rw [rounds_succ]
  go_wp2_with (go_at_call 57; refine (of3_r g s K (l.drop 4) _ _ A2.out K2.out rfl Y2.out hg hs).mono ?_; rintro e w3 ⟨rfl, h1, h2, h3⟩; have A3 := Lib.hid (show RdAt w3 g s (l.drop 8) by rw [List.drop_drop] at h1; exact h1); have K3 := Lib.hid (show Blk w3 K obt (obc ((b0 l).toNat : Int) (numLE ((l.drop 4).take 4) : Int) 0 zks zbs).toArray from h2); have F3 := Lib.hid (F2.out.trans h3); clear h1 h2 h3 A2 K2 F2)
  rw [rounds_succ]
  go_wp2_with (go_at_call 58; refine (of4_r g s K (l.drop 8) _ _ A3.out K3.out rfl Y3.out hg hs).mono ?_; rintro e w4 ⟨rfl, h1, h2, h3⟩; have A4 := Lib.hid (show RdAt w4 g s (l.drop 12) by rw [List.drop_drop] at h1; exact h1); have K4 := Lib.hid (show Blk w4 K obt (obc ((b0 l).toNat : Int) (numLE ((l.drop 4).take 4) : Int) (numLE ((l.drop 8).take 4) : Int) zks zbs).toArray from h2); have F4 := Lib.hid (F3.out.trans h3); clear h1 h2 h3 A3 K3 F3)
  rw [rounds_succ]
  go_wp2_with (go_at_call 59; refine (of5_r g s K (l.drop 12) [.int .i64 ((b0 l).toNat : Int), .int .i64 (numLE ((l.drop 4).take 4) : Int), .int .i64 (numLE ((l.drop 8).take 4) : Int)] (bv zbs) rfl _ A4.out K4.out Y4.out hg hs).mono ?_; rintro e w5 ⟨rfl, h1, h2, h3⟩; have A5 := Lib.hid (show RdAt w5 g s (l.drop 332) by rw [List.drop_drop] at h1; exact h1); have K5 := Lib.hid (show Blk w5 K obt (obc ((b0 l).toNat : Int) (numLE ((l.drop 4).take 4) : Int) (numLE ((l.drop 8).take 4) : Int) (kofs 16 (l.drop 12)) zbs).toArray from h2); have F5 := Lib.hid (F4.out.trans h3); clear h1 h2 h3 A4 K4 F4)
  rw [rounds_succ]
  go_wp2_with (go_at_call 61; refine (of6_r g s K (l.drop 332) (obc ((b0 l).toNat : Int) (numLE ((l.drop 4).take 4) : Int) (numLE ((l.drop 8).take 4) : Int) (kofs 16 (l.drop 12)) zbs) _ A5.out K5.out Y5.out Z5.out hg hs).mono ?_; rintro e w6 ⟨rfl, h1, h2, h3⟩; have A6 := Lib.hid (show RdAt w6 g s (l.drop 396) by rw [List.drop_drop] at h1; exact h1); have K6 := Lib.hid (show Blk w6 K obt (obc ((b0 l).toNat : Int) (numLE ((l.drop 4).take 4) : Int) (numLE ((l.drop 8).take 4) : Int) (kofs 16 (l.drop 12)) ((l.drop 332).take 64)).toArray by rw [spl_bytes _ _ _ _ (kofs_length _ _) _ _ rfl (by rw [List.length_take]; have := Y5.out; omega)] at h2; exact h2); have F6 := Lib.hid (F5.out.trans h3); clear h1 h2 h3 A5 K5 F5)
  rw [rounds_succ]
  go_wp2_with (go_at_call 62; refine (of7_no g s K (l.drop 396) _ A6.out Y6.out Z6.out).mono ?_; rintro e w7 ⟨rfl, h1⟩; have F7 := Lib.hid (F6.out.trans (h1.mono (fun _ _ h => .inl h))))
  exact ⟨rfl, rfl, F7.out⟩
end Go.Proofs.YtfclkkbmgclfgaaDoor

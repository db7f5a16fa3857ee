/- headers: sectors. -/
import Derived.Test.YtcfkoglehjkkdaaHEq
namespace Go.Proofs.Ytcfkoglehjkkdaa
open Go.RowKit
attribute [local go_sem] Oper.semAt_some
def zs2 : List UInt8 := List.replicate 1024 0
theorem zs2_length : zs2.length = 1024 := List.length_replicate ..
set_option maxRecDepth 8000 in
theorem size112 : (Try.prog.info? 108).map (·.size) = some 1024 := by kernel_rfl
set_option maxRecDepth 8000 in
theorem zero112 : (Try.prog.info? 108).map (fun i => (i.zero, i.size)) = some (some (sec zs2), 1024) := by kernel_rfl
theorem z112 (w : World) : (zeroValue 108).run Try.prog w = .ok (sec zs2) w := (zero_of_info zero112).1 w
set_option maxRecDepth 8000 in
theorem lay0 (l : List UInt8) (hl : l.length = 512) : (bv zs2).take 0 ++ bv l ++ (bv zs2).drop (0 + (bv l).length) = bv (l ++ zs2.drop 512) := by
  rw [bv_length, hl]
  simp [bv]
set_option maxRecDepth 8000 in
theorem lay1 (l0 l1 : List UInt8) (h0 : l0.length = 512) (h1 : l1.length = 512) : (bv (l0 ++ zs2.drop 512)).take 512 ++ bv l1 ++ (bv (l0 ++ zs2.drop 512)).drop (512 + (bv l1).length) = bv (l0 ++ l1) := by
  have e0 : (bv (l0 ++ zs2.drop 512)).take 512 = bv l0 := by unfold bv; rw [List.map_append]; exact List.take_left' (by simp [h0])
  have e1 : (bv (l0 ++ zs2.drop 512)).drop (512 + (bv l1).length) = [] := List.drop_eq_nil_of_le (by rw [bv_length, bv_length, List.length_append, List.length_drop, zs2_length, h0, h1]; omega)
  rw [e0, e1, List.append_nil]
  simp [bv]
set_option maxRecDepth 8000 in
theorem results_cell2 {fn : Func} {p q : Tmp} (h : fn.results = #[.cell p 108, .tmp q]) (tmps : Array Value) (w : World) (g : Nat) (l : List UInt8) (hl : l.length = 1024) (hp : tmps.getD p undef = .pointer (some ⟨g, 0, none⟩)) (hg : Blk w g 108 (bv l).toArray) : (results fn tmps).run Try.prog w = .ok (.tuple #[sec l, tmps.getD q undef]) w := by
  have hp' : tmps[p]?.getD undef = .pointer (some ⟨g, 0, none⟩) := by simpa using hp
  have hl := run_loadVar_row (P := Try.prog) w g 108 108 (bv l).toArray (0, 0) _ hg Try.underlying108 rfl (by rw [List.size_toArray, bv_length, hl]; exact size112)
  simp [results, h, hp', asAddr, hl]
set_option maxRecDepth 100000 in
set_option maxHeartbeats 4000000 in
theorem sectors_any {w : World} {base p : Nat} {pl : Pl} {D : Dk} (hd : DiskAt w base p pl D) (hN : D.waits.length ≤ 1000000) (hz2 : 2 ≤ D.size) (hs : D.steps < 999990) (hf0 : D.next = false) (hf1 : D.stepped.next = false) :
    Calls Try.prog 49 #[.pointer (some ⟨p, 0, none⟩)] w fun r w' => r = .returned (.tuple #[sec (D.reads 0 ++ D.reads 1), .int .i64 0]) ∧ DiskAt w' base p pl D.stepped.stepped ∧ Fr (pl.has p) w w' := by
  have hz := z112
  have D0 := Lib.hid (hd.alloc (.cells (bv zs2).toArray 108))
  have B0 := Lib.hid (Blk.new w 108 (bv zs2).toArray)
  have F0 := Lib.hid ((Fr.refl (pl.has p) w).alloc (.cells (bv zs2).toArray 108))
  have NH := Lib.hid (show ¬ pl.has p w.heap.size from hd.not_new (Nat.le_refl _))
  have L0 := Lib.hid (show (D.reads 0).length = 512 from readL_length _ _ _ (hd.lens 0) (fun x hx => (hd.wlens x hx).1))
  have L1 := Lib.hid (show (D.reads 1).length = 512 from readL_length _ _ _ (hd.lens 1) (fun x hx => (hd.wlens x hx).1))
  have HN := Lib.hid hN
  have HZ2 := Lib.hid hz2
  have HS := Lib.hid hs
  have HF0 := Lib.hid hf0
  have HF1 := Lib.hid hf1
  have s0 : ((D.size : Int) == 0) = false := beq_eq_false_iff_ne.2 (by omega)
  have s2 : decide ((D.size : Int) < 2) = false := decide_eq_false (by omega)
  have s2' : decide (D.size < 2) = false := decide_eq_false (by omega)
  clear hd hN hz2 hs hf0 hf1
  go_enter Try.func49, Try.ntmps49
  go_wp2_with (go_at_call 35; refine (size_at D0.out).mono ?_; rintro r w' ⟨rfl, rfl⟩)
  generalize w.alloc (.cells (bv zs2).toArray 108) = W at D0 B0 F0 ⊢
  refine wp_loop_rounds 3 ?_
  rw [rounds_succ]
  go_wp2_with fail
  refine (read_goes D0.out HN.out 0 (by have := HZ2.out; omega) (by have := HS.out; omega) HF0.out).mono ?_
  rintro r W1 ⟨rfl, hd1, hf1⟩
  have D1 := Lib.hid hd1
  have F1 := Lib.hid (F0.out.trans hf1)
  have B1 := Lib.hid (hf1.keepBlk B0.out NH.out)
  clear hd1 hf1 D0 F0 B0
  have q0 : (bv (D.reads 0)).length = 512 := by rw [bv_length, L0.out]
  have q1 : (bv (D.reads 1)).length = 512 := by rw [bv_length, L1.out]
  have C1 := Lib.hid (show Blk (W1.setRow w.heap.size ((bv zs2).take 0 ++ bv (D.reads 0) ++ (bv zs2).drop (0 + (bv (D.reads 0)).length)).toArray) w.heap.size 108 (bv (D.reads 0 ++ zs2.drop 512)).toArray from by rw [lay0 _ L0.out]; exact B1.out.setRow _)
  have E1 := Lib.hid (show DiskAt (W1.setRow w.heap.size ((bv zs2).take 0 ++ bv (D.reads 0) ++ (bv zs2).drop (0 + (bv (D.reads 0)).length)).toArray) base p pl D.stepped from D1.out.fr (setRow_fr8 _ _ _) (fun k hk e => NH.out (e ▸ hk)))
  have G1 := Lib.hid (show Fr (pl.has p) w (W1.setRow w.heap.size ((bv zs2).take 0 ++ bv (D.reads 0) ++ (bv zs2).drop (0 + (bv (D.reads 0)).length)).toArray) from F1.out.then_ (setRow_fr8 _ _ _) (fun i hi e => by omega))
  obtain ⟨V1, hV1⟩ : ∃ V1, V1 = W1.setRow w.heap.size ((bv zs2).take 0 ++ bv (D.reads 0) ++ (bv zs2).drop (0 + (bv (D.reads 0)).length)).toArray := ⟨_, rfl⟩
  rw [← hV1] at C1 E1 G1
  go_wp2_with (refine wpList_store_mid8 (off := 0) (l := bv zs2) (ys := bv (D.reads 0)) rfl 56 (.tmp 26) (.tmp 24) rfl B1.out rfl rfl (by rw [q0, bv_length, zs2_length]; omega) (by rw [q0]; exact size47) (bv_one _) ?_; rw [← hV1]; clear hV1)
  rw [rounds_succ]
  go_wp2_with fail
  refine (read_goes E1.out HN.out 1 (show 1 < D.size by have := HZ2.out; omega) (show D.steps + 1 < 1000000 by have := HS.out; omega) HF1.out).mono ?_
  rintro r W2 ⟨rfl, hd2, hf2⟩
  have D2 := Lib.hid hd2
  have F2 := Lib.hid (G1.out.trans hf2)
  have B2 := Lib.hid (hf2.keepBlk C1.out NH.out)
  clear hd2 hf2 E1 G1 C1
  have e1 : D.stepped.reads 1 = D.reads 1 := rfl
  rw [e1]
  have C2 := Lib.hid (show Blk (W2.setRow w.heap.size ((bv (D.reads 0 ++ zs2.drop 512)).take 512 ++ bv (D.reads 1) ++ (bv (D.reads 0 ++ zs2.drop 512)).drop (512 + (bv (D.reads 1)).length)).toArray) w.heap.size 108 (bv (D.reads 0 ++ D.reads 1)).toArray from by rw [lay1 _ _ L0.out L1.out]; exact B2.out.setRow _)
  have E2 := Lib.hid (show DiskAt (W2.setRow w.heap.size ((bv (D.reads 0 ++ zs2.drop 512)).take 512 ++ bv (D.reads 1) ++ (bv (D.reads 0 ++ zs2.drop 512)).drop (512 + (bv (D.reads 1)).length)).toArray) base p pl D.stepped.stepped from D2.out.fr (setRow_fr8 _ _ _) (fun k hk e => NH.out (e ▸ hk)))
  have G2 := Lib.hid (show Fr (pl.has p) w (W2.setRow w.heap.size ((bv (D.reads 0 ++ zs2.drop 512)).take 512 ++ bv (D.reads 1) ++ (bv (D.reads 0 ++ zs2.drop 512)).drop (512 + (bv (D.reads 1)).length)).toArray) from F2.out.then_ (setRow_fr8 _ _ _) (fun i hi e => by omega))
  obtain ⟨V2, hV2⟩ : ∃ V2, V2 = W2.setRow w.heap.size ((bv (D.reads 0 ++ zs2.drop 512)).take 512 ++ bv (D.reads 1) ++ (bv (D.reads 0 ++ zs2.drop 512)).drop (512 + (bv (D.reads 1)).length)).toArray := ⟨_, rfl⟩
  rw [← hV2] at C2 E2 G2
  go_wp2_with (refine wpList_store_mid8 (off := 512) (l := bv (D.reads 0 ++ zs2.drop 512)) (ys := bv (D.reads 1)) rfl 56 (.tmp 26) (.tmp 24) rfl B2.out rfl rfl (by rw [q1, bv_length, List.length_append, List.length_drop, zs2_length, L0.out]; omega) (by rw [q1]; exact size47) (bv_one _) ?_; rw [← hV2]; clear hV2)
  rw [rounds_succ]
  have hl2 : (D.reads 0 ++ D.reads 1).length = 1024 := by rw [List.length_append, L0.out, L1.out]
  have hb2 : (bv (D.reads 0 ++ D.reads 1)).length = 1024 := by rw [bv_length, hl2]
  go_wp2_with (first
    | (refine wpList_load_mid rfl 108 (.tmp 2) rfl w.heap.size 0 rfl (bv (D.reads 0 ++ D.reads 1)) _ C2.out.rangeAt Try.underlying108 rfl (by rw [hb2]; exact size112) ?_)
    | (refine wpList_store_row rfl 108 (.tmp 2) (.tmp 30) rfl w.heap.size (bv (D.reads 0 ++ D.reads 1)).toArray rfl rfl 108 _ C2.out (by rw [List.size_toArray, hb2]; exact size112) rfl (bv_ones8 _) ?_))
  refine bodyPost_ret (results_cell2 rfl _ _ w.heap.size _ hl2 rfl (C2.out.setRow _)) rfl ⟨rfl, E2.out.fr (setRow_fr8 _ _ _) (fun k hk e => NH.out (e ▸ hk)), G2.out.then_ (setRow_fr8 _ _ _) (fun i hi e => by omega)⟩
end Go.Proofs.Ytcfkoglehjkkdaa

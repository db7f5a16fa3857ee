/- law 8: a header, two headers, two booleans are the same as themselves. -/
import Derived.Test.YtcfkoglehjkkdaaHBg
import Derived.DeepKeys
import Derived.Test.YtcfkoglehjkkdaaHOfs
import Derived.Test.YtcfkoglehjkkdaaP20
import Derived.Test.YtcfkoglehjkkdaaHNilR
import Derived.Test.YtcfkoglehjkkdaaHFore
import Derived.Test.YtcfkoglehjkkdaaHBoth
import Derived.Test.YtcfkoglehjkkdaaHTwo
namespace Go.Proofs.Ytcfkoglehjkkdaa
open Go.RowKit
attribute [local go_sem] Oper.semAt_some
set_option maxRecDepth 8000 in
theorem eqIn23 (w : World) (d : Nat) (g : Hd) : (Op.equalIn (d + 2) 28 g.val g.val).run Try.prog w = .ok true w := by
  go_simp
set_option maxRecDepth 8000 in
theorem part23_0 (g0 g1 : Hd) (w : World) : (part 28 (cs2 g0 g1).toArray 0).run Try.prog w = .ok g0.val w := by kernel_rfl
set_option maxRecDepth 8000 in
theorem part23_1 (g0 g1 : Hd) (w : World) : (part 28 (cs2 g0 g1).toArray 3).run Try.prog w = .ok g1.val w := by kernel_rfl
set_option maxRecDepth 8000 in
theorem info23 : (Try.prog.info? 28).isSome = true := by kernel_rfl
set_option maxRecDepth 8000 in
theorem eqIn52 (w : World) (g0 g1 : Hd) : (Op.equalIn (9996 + 4) 49 (.agg (cs2 g0 g1).toArray) (.agg (cs2 g0 g1).toArray)).run Try.prog w = .ok true w := by
  obtain ⟨i, hi⟩ := Option.isSome_iff_exists.1 info23
  have hc : Try.prog.cellsOf 28 = 3 := by kernel_rfl
  rw [show 9996 + 4 = 9999 + 1 from rfl, run_equalIn_array w 9999 _ _ Try.underlying49 hi, hc]
  simp only [show List.range 2 = [0, 1] from rfl, Op.eqItems, Sem.run_bind, Nat.zero_mul, Nat.one_mul, part23_0, part23_1, Result.andThen_ok, eqIn23 w 9997, Bool.not_true, Bool.false_eq_true, if_false, Sem.run_pure]
set_option maxRecDepth 8000 in
theorem eqIn53 (w : World) (a b : Bool) : (Op.equalIn (9996 + 4) 50 (.agg #[.bool a, .bool b]) (.agg #[.bool a, .bool b])).run Try.prog w = .ok true w := by
  obtain ⟨r, h1, h2⟩ := run_equalIn_deep (P := Try.prog) 9996 4 50 (by kernel_rfl) w 100 100 (.agg #[.bool a, .bool b]) (.agg #[.bool a, .bool b]) _ _ (by kernel_rfl) (by kernel_rfl) (by rfl) (by rfl)
  rw [h1, h2.2 rfl]
section
variable {ops : Array Oper} {S : World → Prop} {o : Oper} {a : Act}
set_option maxRecDepth 8000 in
theorem y_eq52 (hw : Region.wanted o (yielded ops a.tmps) = true) (x y : Operand) (ho : o.op = .binOp .eql 49 x y 49) (g0 g1 : Hd) (hx : a.eval x = .agg (cs2 g0 g1).toArray) (hy : a.eval y = .agg (cs2 g0 g1).toArray) : YieldsIf Try.prog ops S o (.bool true) a :=
  .inl ⟨hw, fun w _ => by
    have h := eqIn52 w g0 g1
    have hb : (binOp .eql 49 (.agg (cs2 g0 g1).toArray) (.agg (cs2 g0 g1).toArray)).run Try.prog w = .ok (.bool true) w := by
      simp only [binOp]
      simp [show ∀ x y, Op.equal 49 x y = Op.equalIn (9996 + 4) 49 x y from fun _ _ => rfl, h]
    unfold execOp
    simp only [ho, hx, hy, Sem.run_bind, run_eqGuard_agg (P := Try.prog) w .eql 49 x y (cs2 g0 g1).toArray (cs2 g0 g1).toArray (by kernel_rfl), hb, Result.andThen_ok, Sem.run_pure]⟩
set_option maxRecDepth 8000 in
theorem y_eq53 (hw : Region.wanted o (yielded ops a.tmps) = true) (x y : Operand) (ho : o.op = .binOp .eql 50 x y 50) (p q : Bool) (hx : a.eval x = .agg #[.bool p, .bool q]) (hy : a.eval y = .agg #[.bool p, .bool q]) : YieldsIf Try.prog ops S o (.bool true) a :=
  .inl ⟨hw, fun w _ => by
    have h := eqIn53 w p q
    have hb : (binOp .eql 50 (.agg #[.bool p, .bool q]) (.agg #[.bool p, .bool q])).run Try.prog w = .ok (.bool true) w := by
      simp only [binOp]
      simp [show ∀ x y, Op.equal 50 x y = Op.equalIn (9996 + 4) 50 x y from fun _ _ => rfl, h]
    unfold execOp
    simp only [ho, hx, hy, Sem.run_bind, run_eqGuard_agg (P := Try.prog) w .eql 50 x y #[.bool p, .bool q] #[.bool p, .bool q] (by kernel_rfl), hb, Result.andThen_ok, Sem.run_pure]⟩
set_option maxRecDepth 8000 in
theorem y_ne23 (hw : Region.wanted o (yielded ops a.tmps) = true) (x y : Operand) (ho : o.op = .binOp .neq 28 x y 28) (g : Hd) (hx : a.eval x = g.val) (hy : a.eval y = g.val) : YieldsIf Try.prog ops S o (.bool false) a :=
  .inl ⟨hw, fun w _ => by
    have h := eqIn23 w 9998 g
    have hb : (binOp .neq 28 g.val g.val).run Try.prog w = .ok (.bool false) w := by
      simp only [binOp]
      simp [show ∀ x y, Op.equal 28 x y = Op.equalIn (9998 + 2) 28 x y from fun _ _ => rfl, h]
    unfold execOp
    simp only [ho, hx, hy, Sem.run_bind, run_eqGuard_agg (P := Try.prog) w .neq 28 x y _ _ (by kernel_rfl), hb, Result.andThen_ok, Sem.run_pure]⟩
end
end Go.Proofs.Ytcfkoglehjkkdaa
namespace Go.Proofs.Ytcfkoglehjkkdaa
open Go.RowKit
attribute [local go_sem] Oper.semAt_some
set_option maxRecDepth 100000 in
set_option maxHeartbeats 4000000 in
theorem sectors_small {w : World} {base p : Nat} {pl : Pl} {D : Dk} (hd : DiskAt w base p pl D) (hz1 : D.size = 1) :
    Calls Try.prog 49 #[.pointer (some ⟨p, 0, none⟩)] w fun r w' => r = .returned (.tuple #[sec zs2, .int .i64 180]) ∧ DiskAt w' base p pl D ∧ Fr (pl.has p) w w' := by
  have hz := z112
  have D0 := Lib.hid (hd.alloc (.cells (bv zs2).toArray 108))
  have B0 := Lib.hid (Blk.new w 108 (bv zs2).toArray)
  have F0 := Lib.hid ((Fr.refl (pl.has p) w).alloc (.cells (bv zs2).toArray 108))
  have NH := Lib.hid (show ¬ pl.has p w.heap.size from hd.not_new (Nat.le_refl _))
  have L0 := Lib.hid (show (D.reads 0).length = 512 from readL_length _ _ _ (hd.lens 0) (fun x hx => (hd.wlens x hx).1))
  have q9 : (bv zs).length = 512 := by rw [bv_length, zs_length]
  have s0 : ((D.size : Int) == 0) = false := beq_eq_false_iff_ne.2 (by omega)
  have s2 : decide ((D.size : Int) < 2) = true := decide_eq_true (by omega)
  have s2' : decide (D.size < 2) = true := decide_eq_true (by omega)
  clear hd hz1
  have hl2 := zs2_length
  have hb2 : (bv zs2).length = 1024 := by rw [bv_length, zs2_length]
  go_enter Try.func49, Try.ntmps49
  go_wp2_with (first
    | (go_at_call 35; refine (size_at D0.out).mono ?_; rintro r w' ⟨rfl, rfl⟩)
    | (refine wpList_load_mid rfl 108 (.tmp 2) rfl w.heap.size 0 rfl (bv zs2) _ B0.out.rangeAt Try.underlying108 rfl (by rw [hb2]; exact size112) ?_)
    | (refine wpList_store_row rfl 108 (.tmp 2) (.tmp 15) rfl w.heap.size (bv zs2).toArray rfl rfl 108 _ B0.out (by rw [List.size_toArray, hb2]; exact size112) rfl (bv_ones8 _) ?_))
  refine bodyPost_ret (results_cell2 rfl _ _ w.heap.size _ hl2 rfl (B0.out.setRow _)) rfl ⟨rfl, D0.out.fr (setRow_fr8 _ _ _) (fun k hk e => NH.out (e ▸ hk)), F0.out.then_ (setRow_fr8 _ _ _) (fun i hi e => by omega)⟩
set_option maxRecDepth 100000 in
set_option maxHeartbeats 4000000 in
theorem sectors_f0 {w : World} {base p : Nat} {pl : Pl} {D : Dk} (hd : DiskAt w base p pl D) (hN : D.waits.length ≤ 1000000) (hz2 : 2 ≤ D.size) (hs : D.steps < 999990) (hf0 : D.next = true) :
    Calls Try.prog 49 #[.pointer (some ⟨p, 0, none⟩)] w fun r w' => r = .returned (.tuple #[sec (zs ++ zs2.drop 512), .int .i64 120]) ∧ DiskAt w' base p pl D.stepped ∧ Fr (pl.has p) w w' := by
  have hz := z112
  have D0 := Lib.hid (hd.alloc (.cells (bv zs2).toArray 108))
  have B0 := Lib.hid (Blk.new w 108 (bv zs2).toArray)
  have F0 := Lib.hid ((Fr.refl (pl.has p) w).alloc (.cells (bv zs2).toArray 108))
  have NH := Lib.hid (show ¬ pl.has p w.heap.size from hd.not_new (Nat.le_refl _))
  have L0 := Lib.hid (show (D.reads 0).length = 512 from readL_length _ _ _ (hd.lens 0) (fun x hx => (hd.wlens x hx).1))
  have q9 : (bv zs).length = 512 := by rw [bv_length, zs_length]
  have HN := Lib.hid hN
  have HZ2 := Lib.hid hz2
  have HS := Lib.hid hs
  have HF0 := Lib.hid hf0
  have s0 : ((D.size : Int) == 0) = false := beq_eq_false_iff_ne.2 (by omega)
  have s2 : decide ((D.size : Int) < 2) = false := decide_eq_false (by omega)
  have s2' : decide (D.size < 2) = false := decide_eq_false (by omega)
  clear hd hN hz2 hs hf0
  go_enter Try.func49, Try.ntmps49
  go_wp2_with (go_at_call 35; refine (size_at D0.out).mono ?_; rintro r w' ⟨rfl, rfl⟩)
  generalize w.alloc (.cells (bv zs2).toArray 108) = W at D0 B0 F0 ⊢
  refine wp_loop_rounds 3 ?_
  rw [rounds_succ]
  go_wp2_with fail
  refine (read_fails D0.out 0 (by have := HZ2.out; omega) (by have := HS.out; omega) HF0.out).mono ?_
  rintro r W1 ⟨rfl, hd1, hf1⟩
  have D1 := Lib.hid hd1
  have F1 := Lib.hid (F0.out.trans hf1)
  have B1 := Lib.hid (hf1.keepBlk B0.out NH.out)
  clear hd1 hf1 D0 F0 B0
  have C1 := Lib.hid (show Blk (W1.setRow w.heap.size ((bv zs2).take 0 ++ bv zs ++ (bv zs2).drop (0 + (bv zs).length)).toArray) w.heap.size 108 (bv (zs ++ zs2.drop 512)).toArray from by rw [lay0 _ zs_length]; exact B1.out.setRow _)
  have E1 := Lib.hid (show DiskAt (W1.setRow w.heap.size ((bv zs2).take 0 ++ bv zs ++ (bv zs2).drop (0 + (bv zs).length)).toArray) base p pl D.stepped from D1.out.fr (setRow_fr8 _ _ _) (fun k hk e => NH.out (e ▸ hk)))
  have G1 := Lib.hid (show Fr (pl.has p) w (W1.setRow w.heap.size ((bv zs2).take 0 ++ bv zs ++ (bv zs2).drop (0 + (bv zs).length)).toArray) from F1.out.then_ (setRow_fr8 _ _ _) (fun i hi e => by omega))
  obtain ⟨V1, hV1⟩ : ∃ V1, V1 = W1.setRow w.heap.size ((bv zs2).take 0 ++ bv zs ++ (bv zs2).drop (0 + (bv zs).length)).toArray := ⟨_, rfl⟩
  rw [← hV1] at C1 E1 G1
  have hl2 : (zs ++ zs2.drop 512).length = 1024 := by rw [List.length_append, List.length_drop, zs_length, zs2_length]
  have hb2 : (bv (zs ++ zs2.drop 512)).length = 1024 := by rw [bv_length, hl2]
  go_wp2_with (first
    | (refine wpList_store_mid8 (off := 0) (l := bv zs2) (ys := bv zs) rfl 56 (.tmp 26) (.tmp 24) rfl B1.out rfl rfl (by rw [q9, bv_length, zs2_length]; omega) (by rw [q9]; exact size47) (bv_one _) ?_; rw [← hV1]; clear hV1)
    | (refine wpList_load_mid rfl 108 (.tmp 2) rfl w.heap.size 0 rfl (bv (zs ++ zs2.drop 512)) _ C1.out.rangeAt Try.underlying108 rfl (by rw [hb2]; exact size112) ?_)
    | (refine wpList_store_row rfl 108 (.tmp 2) (.tmp 30) rfl w.heap.size (bv (zs ++ zs2.drop 512)).toArray rfl rfl 108 _ C1.out (by rw [List.size_toArray, hb2]; exact size112) rfl (bv_ones8 _) ?_))
  refine bodyPost_ret (results_cell2 rfl _ _ w.heap.size _ hl2 rfl (C1.out.setRow _)) rfl ⟨rfl, E1.out.fr (setRow_fr8 _ _ _) (fun k hk e => NH.out (e ▸ hk)), G1.out.then_ (setRow_fr8 _ _ _) (fun i hi e => by omega)⟩
set_option maxRecDepth 100000 in
set_option maxHeartbeats 4000000 in
theorem sectors_f1 {w : World} {base p : Nat} {pl : Pl} {D : Dk} (hd : DiskAt w base p pl D) (hN : D.waits.length ≤ 1000000) (hz2 : 2 ≤ D.size) (hs : D.steps < 999990) (hf0 : D.next = false) (hf1 : D.stepped.next = true) :
    Calls Try.prog 49 #[.pointer (some ⟨p, 0, none⟩)] w fun r w' => r = .returned (.tuple #[sec (D.reads 0 ++ zs), .int .i64 120]) ∧ DiskAt w' base p pl D.stepped.stepped ∧ Fr (pl.has p) w w' := by
  have hz := z112
  have D0 := Lib.hid (hd.alloc (.cells (bv zs2).toArray 108))
  have B0 := Lib.hid (Blk.new w 108 (bv zs2).toArray)
  have F0 := Lib.hid ((Fr.refl (pl.has p) w).alloc (.cells (bv zs2).toArray 108))
  have NH := Lib.hid (show ¬ pl.has p w.heap.size from hd.not_new (Nat.le_refl _))
  have L0 := Lib.hid (show (D.reads 0).length = 512 from readL_length _ _ _ (hd.lens 0) (fun x hx => (hd.wlens x hx).1))
  have q9 : (bv zs).length = 512 := by rw [bv_length, zs_length]
  have HN := Lib.hid hN
  have HZ2 := Lib.hid hz2
  have HS := Lib.hid hs
  have HF0 := Lib.hid hf0
  have s0 : ((D.size : Int) == 0) = false := beq_eq_false_iff_ne.2 (by omega)
  have s2 : decide ((D.size : Int) < 2) = false := decide_eq_false (by omega)
  have s2' : decide (D.size < 2) = false := decide_eq_false (by omega)
  have HF1 := Lib.hid hf1
  have L1 := Lib.hid zs_length
  clear hd hN hz2 hs hf0 hf1
  go_enter Try.func49, Try.ntmps49
  go_wp2_with (go_at_call 35; refine (size_at D0.out).mono ?_; rintro r w' ⟨rfl, rfl⟩)
  generalize w.alloc (.cells (bv zs2).toArray 108) = W at D0 B0 F0 ⊢
  refine wp_loop_rounds 3 ?_
  rw [rounds_succ]
  go_wp2_with fail
  refine (read_goes D0.out HN.out 0 (by have := HZ2.out; omega) (by have := HS.out; omega) HF0.out).mono ?_
  rintro r W1 ⟨rfl, hd1, hf1⟩
  have D1 := Lib.hid hd1
  have F1 := Lib.hid (F0.out.trans hf1)
  have B1 := Lib.hid (hf1.keepBlk B0.out NH.out)
  clear hd1 hf1 D0 F0 B0
  have q0 : (bv (D.reads 0)).length = 512 := by rw [bv_length, L0.out]
  have C1 := Lib.hid (show Blk (W1.setRow w.heap.size ((bv zs2).take 0 ++ bv (D.reads 0) ++ (bv zs2).drop (0 + (bv (D.reads 0)).length)).toArray) w.heap.size 108 (bv (D.reads 0 ++ zs2.drop 512)).toArray from by rw [lay0 _ L0.out]; exact B1.out.setRow _)
  have E1 := Lib.hid (show DiskAt (W1.setRow w.heap.size ((bv zs2).take 0 ++ bv (D.reads 0) ++ (bv zs2).drop (0 + (bv (D.reads 0)).length)).toArray) base p pl D.stepped from D1.out.fr (setRow_fr8 _ _ _) (fun k hk e => NH.out (e ▸ hk)))
  have G1 := Lib.hid (show Fr (pl.has p) w (W1.setRow w.heap.size ((bv zs2).take 0 ++ bv (D.reads 0) ++ (bv zs2).drop (0 + (bv (D.reads 0)).length)).toArray) from F1.out.then_ (setRow_fr8 _ _ _) (fun i hi e => by omega))
  obtain ⟨V1, hV1⟩ : ∃ V1, V1 = W1.setRow w.heap.size ((bv zs2).take 0 ++ bv (D.reads 0) ++ (bv zs2).drop (0 + (bv (D.reads 0)).length)).toArray := ⟨_, rfl⟩
  rw [← hV1] at C1 E1 G1
  go_wp2_with (refine wpList_store_mid8 (off := 0) (l := bv zs2) (ys := bv (D.reads 0)) rfl 56 (.tmp 26) (.tmp 24) rfl B1.out rfl rfl (by rw [q0, bv_length, zs2_length]; omega) (by rw [q0]; exact size47) (bv_one _) ?_; rw [← hV1]; clear hV1)
  rw [rounds_succ]
  go_wp2_with fail
  refine (read_fails E1.out 1 (show 1 < D.size by have := HZ2.out; omega) (show D.steps + 1 < 1000000 by have := HS.out; omega) HF1.out).mono ?_
  rintro r W2 ⟨rfl, hd2, hf2⟩
  have D2 := Lib.hid hd2
  have F2 := Lib.hid (G1.out.trans hf2)
  have B2 := Lib.hid (hf2.keepBlk C1.out NH.out)
  clear hd2 hf2 E1 G1 C1
  have C2 := Lib.hid (show Blk (W2.setRow w.heap.size ((bv (D.reads 0 ++ zs2.drop 512)).take 512 ++ bv zs ++ (bv (D.reads 0 ++ zs2.drop 512)).drop (512 + (bv zs).length)).toArray) w.heap.size 108 (bv (D.reads 0 ++ zs)).toArray from by rw [lay1 _ _ L0.out zs_length]; exact B2.out.setRow _)
  have E2 := Lib.hid (show DiskAt (W2.setRow w.heap.size ((bv (D.reads 0 ++ zs2.drop 512)).take 512 ++ bv zs ++ (bv (D.reads 0 ++ zs2.drop 512)).drop (512 + (bv zs).length)).toArray) base p pl D.stepped.stepped from D2.out.fr (setRow_fr8 _ _ _) (fun k hk e => NH.out (e ▸ hk)))
  have G2 := Lib.hid (show Fr (pl.has p) w (W2.setRow w.heap.size ((bv (D.reads 0 ++ zs2.drop 512)).take 512 ++ bv zs ++ (bv (D.reads 0 ++ zs2.drop 512)).drop (512 + (bv zs).length)).toArray) from F2.out.then_ (setRow_fr8 _ _ _) (fun i hi e => by omega))
  obtain ⟨V2, hV2⟩ : ∃ V2, V2 = W2.setRow w.heap.size ((bv (D.reads 0 ++ zs2.drop 512)).take 512 ++ bv zs ++ (bv (D.reads 0 ++ zs2.drop 512)).drop (512 + (bv zs).length)).toArray := ⟨_, rfl⟩
  rw [← hV2] at C2 E2 G2
  have hl2 : (D.reads 0 ++ zs).length = 1024 := by rw [List.length_append, L0.out, zs_length]
  have hb2 : (bv (D.reads 0 ++ zs)).length = 1024 := by rw [bv_length, hl2]
  go_wp2_with (first
    | (refine wpList_store_mid8 (off := 512) (l := bv (D.reads 0 ++ zs2.drop 512)) (ys := bv zs) rfl 56 (.tmp 26) (.tmp 24) rfl B2.out rfl rfl (by rw [q9, bv_length, List.length_append, List.length_drop, zs2_length, L0.out]; omega) (by rw [q9]; exact size47) (bv_one _) ?_; rw [← hV2]; clear hV2)
    | (refine wpList_load_mid rfl 108 (.tmp 2) rfl w.heap.size 0 rfl (bv (D.reads 0 ++ zs)) _ C2.out.rangeAt Try.underlying108 rfl (by rw [hb2]; exact size112) ?_)
    | (refine wpList_store_row rfl 108 (.tmp 2) (.tmp 30) rfl w.heap.size (bv (D.reads 0 ++ zs)).toArray rfl rfl 108 _ C2.out (by rw [List.size_toArray, hb2]; exact size112) rfl (bv_ones8 _) ?_))
  refine bodyPost_ret (results_cell2 rfl _ _ w.heap.size _ hl2 rfl (C2.out.setRow _)) rfl ⟨rfl, E2.out.fr (setRow_fr8 _ _ _) (fun k hk e => NH.out (e ▸ hk)), G2.out.then_ (setRow_fr8 _ _ _) (fun i hi e => by omega)⟩
attribute [local go_sem] run_store_bv run_store_wc run_store_bv_drew run_store_wc_drew
set_option maxRecDepth 100000 in
set_option maxHeartbeats 4000000 in
theorem both_bad {w : World} {base p : Nat} {pl : Pl} {D D' : Dk} (hd : DiskAt w base p pl D) (e : Int) (he : (e != 0) = true) (l : List UInt8) (hl : l.length = 1024)
    (sc : ∀ W : World, DiskAt W base p pl D → Calls Try.prog 49 #[.pointer (some ⟨p, 0, none⟩)] W fun r w' => r = .returned (.tuple #[sec l, .int .i64 e]) ∧ DiskAt w' base p pl D' ∧ Fr (pl.has p) W w') :
    Calls Try.prog 20 #[.pointer (some ⟨p, 0, none⟩)] w fun r w' => r = .returned (.tuple #[.agg (cs2 hd0 hd0).toArray, .agg #[.bool false, .bool false], .int .i64 e]) ∧ DiskAt w' base p pl D' ∧ Fr (pl.has p) w w' := by
  have hz := z52
  have hz3 := z53
  have hz2 := z112
  have hz5 := z23
  have hb2 : (bv l).length = 1024 := by rw [bv_length, hl]
  have hl3 : l.length = zs2.length := by rw [hl, zs2_length]
  have SC := Lib.hid sc
  have B0 := Lib.hid (bt_new hd)
  clear sc hd hl
  go_enter Try.func20, Try.ntmps20
  go_wp2_with fail
  generalize (((w.alloc (.cells (cs2 hd0 hd0).toArray 49)).alloc (.cells #[.bool false, .bool false] 50)).alloc (.cells (cs2 hd0 hd0).toArray 49)).alloc (.cells #[.bool false, .bool false] 50) = W at B0 ⊢
  refine (SC.out _ B0.out.da).mono ?_
  rintro r W1 ⟨rfl, hd1, hf1⟩
  have B1 := Lib.hid ((B0.out.moved hd1 hf1).alloc (.cells (bv l).toArray 108))
  clear hd1 hf1 B0
  go_wp2_with fail
  generalize W1.alloc (.cells (bv l).toArray 108) = U at B1 ⊢
  have A3 := Lib.hid B1.out.drew
  refine wp_region_only (S := fun w' => Blk w' (w.heap.size + 1 + 1) 49 (cs2 hd0 hd0).toArray ∧ Blk w' (w.heap.size + 1 + 1 + 1) 50 #[.bool false, .bool false]) (by kernel_rfl) ⟨A3.out.h5, A3.out.h6⟩ (fun hHeld => ?_)
  refine wpAnyH_take (i := 0) rfl (by kernel_rfl) (by kernel_rfl) (by kernel_rfl) (fun _ _ _ h => h) (yieldsIf_load_mid (by rfl) 49 (.tmp 5) (by rfl) (w.heap.size + 1 + 1) 0 (by rfl) (cs2 hd0 hd0) _ (fun w' hSw => Blk.rangeAt (l := cs2 hd0 hd0) hSw.1) Try.underlying49 rfl (size52 _ _)) hHeld ?_
  try simp only [Act.put, List.getElem_toArray, List.getElem_cons_zero, List.setIfInBounds_toArray, List.set_cons_zero, List.set_cons_succ]
  refine wpAnyH_take (i := 1) rfl (by kernel_rfl) (by kernel_rfl) (by kernel_rfl) (fun _ _ _ h => h) (yieldsIf_load_mid (by rfl) 50 (.tmp 6) (by rfl) (w.heap.size + 1 + 1 + 1) 0 (by rfl) [.bool false, .bool false] _ (fun w' hSw => Blk.rangeAt (l := [.bool false, .bool false]) hSw.2) Try.underlying50 rfl (size53 _ _)) hHeld ?_
  try simp only [Act.put, List.getElem_toArray, List.getElem_cons_succ, List.getElem_cons_zero, List.setIfInBounds_toArray, List.set_cons_zero, List.set_cons_succ]
  refine wpAnyH_take (i := 2) (v := ?v1) rfl (by kernel_rfl) (by kernel_rfl) (by kernel_rfl) (fun _ _ _ h => h) (Or.inl ⟨by rfl, ?hy1⟩) hHeld ?rest1
  case hy1 =>
    intro w' hSw
    try dsimp only at hSw
    go_simp
    first | done | with_reducible rfl
  try simp only [Act.put, List.getElem_toArray, List.getElem_cons_succ, List.getElem_cons_zero, List.setIfInBounds_toArray, List.set_cons_zero, List.set_cons_succ]
  refine wpAnyH_ready (rs := [3]) (by kernel_rfl) (by simp) ?_
  refine AllReadyH.cons (by rfl) (fun K hK => ?_) AllReadyH.nil
  refine step_store8 rfl 49 (.tmp 2) (.tmp 20) rfl (by rfl) (cs2 hd0 hd0).toArray (cs2 hd0 hd0).toArray 49 (by rfl) A3.out.h2 (by kernel_rfl) rfl (cs2_one _ _) ?_
  intro W6 j6 f6
  have J6 := Lib.hid j6
  have K6 := Lib.hid (f6.keepBlk A3.out.h3 (by omega))
  have K5 := Lib.hid (f6.keepBlk A3.out.h5 (by omega))
  have K4 := Lib.hid (f6.keepBlk A3.out.h6 (by omega))
  have D6 := Lib.hid (A3.out.da.fr f6 (fun k hk e => A3.out.nh k (by omega) hk))
  have F6 := Lib.hid (A3.out.fr.then_ f6 (fun i hi e => by omega))
  clear hHeld j6 f6
  refine hK.out _ _ ⟨K5.out, K4.out⟩ (fun hHeld => ?_)
  clear hK K
  try simp only [Act.put, List.getElem_toArray, List.getElem_cons_succ, List.getElem_cons_zero]
  refine wpAnyH_ready (rs := [4]) (by kernel_rfl) (by simp) ?_
  refine AllReadyH.cons (by rfl) (fun K hK => ?_) AllReadyH.nil
  refine step_store8 rfl 50 (.tmp 3) (.tmp 21) rfl (by rfl) #[.bool false, .bool false] #[.bool false, .bool false] 50 (by rfl) K6.out (by kernel_rfl) rfl (by simp [Value.oneCell']) ?_
  intro W7 j7 f7
  have J7 := Lib.hid j7
  have M7 := Lib.hid (f7.keepBlk J6.out (by omega))
  have M5 := Lib.hid (f7.keepBlk K5.out (by omega))
  have M4 := Lib.hid (f7.keepBlk K4.out (by omega))
  have D7 := Lib.hid (D6.out.fr f7 (fun k hk e => A3.out.nh k (by omega) hk))
  have F7 := Lib.hid (F6.out.then_ f7 (fun i hi e => by omega))
  clear hHeld j7 f7
  refine hK.out _ _ ⟨M5.out, M4.out⟩ (fun hHeld => ?_)
  clear hK K
  try simp only [Act.put, List.getElem_toArray, List.getElem_cons_succ, List.getElem_cons_zero]
  refine wpAnyH_take (i := 5) (v := ?v2) rfl (by kernel_rfl) (by kernel_rfl) (by kernel_rfl) (fun _ _ _ h => h) (Or.inl ⟨by rfl, ?hy2⟩) hHeld ?rest2
  case hy2 =>
    intro w' hSw
    try dsimp only at hSw
    go_simp
    first | done | with_reducible rfl
  try simp only [Act.put, List.getElem_toArray, List.getElem_cons_succ, List.getElem_cons_zero, List.setIfInBounds_toArray, List.set_cons_zero, List.set_cons_succ]
  refine wpAnyH_done (by kernel_rfl) ?_ _
  refine OnlyN.normal ?_
  clear hHeld
  go_wp2_with fail
  exact bodyPost_ret (results_both rfl _ _ w.heap.size (w.heap.size + 1) hd0 hd0 false false rfl rfl M7.out J7.out) rfl ⟨rfl, D7.out, F7.out⟩
end Go.Proofs.Ytcfkoglehjkkdaa
namespace Go.Proofs.Ytcfkoglehjkkdaa
open Go.RowKit
attribute [local go_sem] Oper.semAt_some
section
variable {P : Program} {w : World} {b off : Nat} {t : TypeId} {l ys : List Value}
set_option maxRecDepth 8000 in
theorem run_storeVar_bool8 (ty : TypeId) (x : Bool) (hb : Blk w b t l.toArray) (hfit : off + 1 ≤ l.length) (hi : (P.info? ty).map (·.size) = some 1) :
    (storeVar ty ⟨b, off, none⟩ (.bool x)).run P w = .ok () (w.setRow b (l.take off ++ [(Value.bool x)] ++ l.drop (off + 1)).toArray) := by
  have := run_storeCells_at P b off t [(Value.bool x)] 0 l.toArray w hb (by simpa using hfit) (by simp [Value.oneCell'])
  cases hq : P.info? ty with
  | none => simp [hq] at hi
  | some i =>
    have hs : i.size = 1 := by simp [hq] at hi; omega
    simp only [Nat.add_zero] at this
    simp [storeVar, sizeOf, typeInfo, hq, Value.cells, hs, this]
set_option maxRecDepth 8000 in
theorem step_store_mid8 {ops : Array Oper} {o : Oper} {a : Act} {K : Act → World → Prop} {Q : Exit → Act → World → Prop} {E : Prop} (hgd : o.guard = none) (ty : TypeId) (x y : Operand) (ho : o.op = .store ty x y) (hb : Blk w b t l.toArray) (hx : a.eval x = .pointer (some ⟨b, off, none⟩)) (hy : a.eval y = .agg ys.toArray)
    (hfit : off + ys.length ≤ l.length) (hi : (P.info? ty).map (·.size) = some ys.length) (h1 : ∀ u ∈ ys, u.oneCell' = true) (h : ∀ w', Blk w' b t (l.take off ++ ys ++ l.drop (off + ys.length)).toArray → Fr (fun k => k = b) w w' → K (a.put o.dst undef) w') : if Region.wanted o (yielded ops a.tmps) = true then Oper.wp P o a w K Q else E := by
  rw [if_pos (by simp [Region.wanted, hgd])]
  unfold Oper.wp execOp
  simp only [ho, hx, hy, Instr.storeAt, Instr.sureAddr, Sem.run_bind, Sem.run_pure, Result.andThen_ok, run_storeVar_mid8 ty hb hfit hi h1]
  exact h _ (setRow_heap w b _ _ t (0, 0) hb) (setRow_fr8 w b _)
set_option maxRecDepth 8000 in
theorem step_store_bool8 {ops : Array Oper} {o : Oper} {a : Act} {K : Act → World → Prop} {Q : Exit → Act → World → Prop} {E : Prop} (hgd : o.guard = none) (ty : TypeId) (x y : Operand) (ho : o.op = .store ty x y) (hb : Blk w b t l.toArray) (hx : a.eval x = .pointer (some ⟨b, off, none⟩)) (v : Bool) (hy : a.eval y = .bool v)
    (hfit : off + 1 ≤ l.length) (hi : (P.info? ty).map (·.size) = some 1) (h : ∀ w', Blk w' b t (l.take off ++ [(Value.bool v)] ++ l.drop (off + 1)).toArray → Fr (fun k => k = b) w w' → K (a.put o.dst undef) w') : if Region.wanted o (yielded ops a.tmps) = true then Oper.wp P o a w K Q else E := by
  rw [if_pos (by simp [Region.wanted, hgd])]
  unfold Oper.wp execOp
  simp only [ho, hx, hy, Instr.storeAt, Instr.sureAddr, Sem.run_bind, Sem.run_pure, Result.andThen_ok, run_storeVar_bool8 ty v hb hfit hi]
  exact h _ (setRow_heap w b _ _ t (0, 0) hb) (setRow_fr8 w b _)
end
/-- while the document's Both looks at both -/
structure Rt (w0 : World) (r : Rp) (R : Rf) (s z : Nat) (h0 h1 : Hd) (a b : Bool) (W : World) : Prop where
  d1 : Blk W w0.heap.size 33 #[.slice r.A1 r.n1 r.c1, .slice r.A2 r.n2 r.c2, .int .i64 (s : Int), .slice r.A3 r.n3 r.c3]
  d2 : Blk W (w0.heap.size + 1) 33 #[.slice none 0 0, .slice none 0 0, .int .i64 0, .slice none 0 0]
  d3 : Blk W (w0.heap.size + 1 + 1) 49 (cs2 hd0 hd0).toArray
  d4 : Blk W (w0.heap.size + 1 + 1 + 1) 50 #[.bool false, .bool false]
  d6 : Blk W (w0.heap.size + 1 + 1 + 1 + 1) 49 (cs2 h0 h1).toArray
  d7 : Blk W (w0.heap.size + 1 + 1 + 1 + 1 + 1) 50 #[.bool a, .bool b]
  rf : RefAt W r R z
  be : Below w0.heap.size w0 W
  lt : ∀ k, r.at_ R k → k < w0.heap.size
section
variable {w0 W W' : World} {r : Rp} {R : Rf} {s s' z : Nat} {h0 h1 : Hd} {a b : Bool}
theorem Rt.next (h : Rt w0 r R s z h0 h1 a b W) (hb : Below W.heap.size W W') : Rt w0 r R s z h0 h1 a b W' :=
  ⟨h.d1.below hb h.d1.lt, h.d2.below hb h.d2.lt, h.d3.below hb h.d3.lt, h.d4.below hb h.d4.lt, h.d6.below hb h.d6.lt, h.d7.below hb h.d7.lt, h.rf.below hb, h.be.trans (hb.mono h.be.size), h.lt⟩
theorem Rt.alloc (h : Rt w0 r R s z h0 h1 a b W) (o : Obj) : Rt w0 r R s z h0 h1 a b (W.alloc o) := h.next ((Below.refl _ W).alloc (Nat.le_refl _) o)
theorem Rt.drew (h : Rt w0 r R s z h0 h1 a b W) : Rt w0 r R s z h0 h1 a b W.drew := h.next (Below.drew (Below.refl _ W))
theorem Rt.far {g : Nat} (h : Rt w0 r R s z h0 h1 a b W) (hf : Fr (fun k => k = g) W W') (hg : w0.heap.size + 1 + 1 + 1 + 1 + 1 < g) : Rt w0 r R s z h0 h1 a b W' :=
  ⟨hf.keepBlk h.d1 (by omega), hf.keepBlk h.d2 (by omega), hf.keepBlk h.d3 (by omega), hf.keepBlk h.d4 (by omega), hf.keepBlk h.d6 (by omega), hf.keepBlk h.d7 (by omega), h.rf.fr hf (fun k hk e => by have := h.lt k hk; omega), h.be.trans (hf.to_below (fun k e => by omega) h.be.size), h.lt⟩
theorem Rt.put1 (h : Rt w0 r R s z h0 h1 a b W) (hf : Fr (fun k => k = w0.heap.size) W W') (hn : Blk W' w0.heap.size 33 #[.slice r.A1 r.n1 r.c1, .slice r.A2 r.n2 r.c2, .int .i64 (s' : Int), .slice r.A3 r.n3 r.c3]) : Rt w0 r R s' z h0 h1 a b W' :=
  ⟨hn, hf.keepBlk h.d2 (by omega), hf.keepBlk h.d3 (by omega), hf.keepBlk h.d4 (by omega), hf.keepBlk h.d6 (by omega), hf.keepBlk h.d7 (by omega), h.rf.fr hf (fun k hk e => by have := h.lt k hk; omega), h.be.trans (hf.to_below (fun k e => by omega) h.be.size), h.lt⟩
theorem Rt.put6 {u0 u1 : Hd} (h : Rt w0 r R s z h0 h1 a b W) (hf : Fr (fun k => k = w0.heap.size + 1 + 1 + 1 + 1) W W') (hn : Blk W' (w0.heap.size + 1 + 1 + 1 + 1) 49 (cs2 u0 u1).toArray) : Rt w0 r R s z u0 u1 a b W' :=
  ⟨hf.keepBlk h.d1 (by omega), hf.keepBlk h.d2 (by omega), hf.keepBlk h.d3 (by omega), hf.keepBlk h.d4 (by omega), hn, hf.keepBlk h.d7 (by omega), h.rf.fr hf (fun k hk e => by have := h.lt k hk; omega), h.be.trans (hf.to_below (fun k e => by omega) h.be.size), h.lt⟩
theorem Rt.put7 {u0 u1 : Bool} (h : Rt w0 r R s z h0 h1 a b W) (hf : Fr (fun k => k = w0.heap.size + 1 + 1 + 1 + 1 + 1) W W') (hn : Blk W' (w0.heap.size + 1 + 1 + 1 + 1 + 1) 50 #[.bool u0, .bool u1]) : Rt w0 r R s z h0 h1 u0 u1 W' :=
  ⟨hf.keepBlk h.d1 (by omega), hf.keepBlk h.d2 (by omega), hf.keepBlk h.d3 (by omega), hf.keepBlk h.d4 (by omega), hf.keepBlk h.d6 (by omega), hn, h.rf.fr hf (fun k hk e => by have := h.lt k hk; omega), h.be.trans (hf.to_below (fun k e => by omega) h.be.size), h.lt⟩
end
theorem blk_at8 (n : Nat) (t : TypeId) (cs : Array Value) (W : World) (hW : W.heap.size = n) : Blk (W.alloc (.cells cs t)) n t cs := hW ▸ Blk.new W t cs
theorem rt_new {w : World} {r : Rp} {R : Rf} {z : Nat} (s : Nat) (h : RefAt w r R z) : Rt w r R s z hd0 hd0 false false ((((((w.alloc (.cells #[.slice r.A1 r.n1 r.c1, .slice r.A2 r.n2 r.c2, .int .i64 (s : Int), .slice r.A3 r.n3 r.c3] 33)).alloc (.cells #[.slice none 0 0, .slice none 0 0, .int .i64 0, .slice none 0 0] 33)).alloc (.cells (cs2 hd0 hd0).toArray 49)).alloc (.cells #[.bool false, .bool false] 50)).alloc (.cells (cs2 hd0 hd0).toArray 49)).alloc (.cells #[.bool false, .bool false] 50)) where
  d1 := (((((Blk.new w _ _).alloc _).alloc _).alloc _).alloc _).alloc _
  d2 := ((((blk_new1 w _ _ _).alloc _).alloc _).alloc _).alloc _
  d3 := (((blk_at8 _ _ _ _ (by simp)).alloc _).alloc _).alloc _
  d4 := ((blk_at8 _ _ _ _ (by simp)).alloc _).alloc _
  d6 := (blk_at8 _ _ _ _ (by simp)).alloc _
  d7 := blk_at8 _ _ _ _ (by simp)
  rf := (((((h.alloc _).alloc _).alloc _).alloc _).alloc _).alloc _
  be := ((((((Below.refl w.heap.size w).alloc (Nat.le_refl _) _).alloc (by simp) _).alloc (by simp; omega) _).alloc (by simp; omega) _).alloc (by simp; omega) _).alloc (by simp; omega) _
  lt := fun k hk => h.lt hk
set_option maxRecDepth 8000 in
theorem results_rboth {fn : Func} {p q t u : Tmp} (h : fn.results = #[.cell p 33, .cell q 49, .cell t 50, .tmp u]) (tmps : Array Value) (w : World) (g0 g1 g2 : Nat) (cs : Array Value) (hcs : cs.size = 4) (h0 h1 : Hd) (a b : Bool)
    (hp : tmps.getD p undef = .pointer (some ⟨g0, 0, none⟩)) (hq : tmps.getD q undef = .pointer (some ⟨g1, 0, none⟩)) (ht : tmps.getD t undef = .pointer (some ⟨g2, 0, none⟩)) (hg0 : Blk w g0 33 cs) (hg1 : Blk w g1 49 (cs2 h0 h1).toArray) (hg2 : Blk w g2 50 #[.bool a, .bool b]) : (results fn tmps).run Try.prog w = .ok (.tuple #[.agg cs, .agg (cs2 h0 h1).toArray, .agg #[.bool a, .bool b], tmps.getD u undef]) w := by
  have hp' : tmps[p]?.getD undef = .pointer (some ⟨g0, 0, none⟩) := by simpa using hp
  have hq' : tmps[q]?.getD undef = .pointer (some ⟨g1, 0, none⟩) := by simpa using hq
  have ht' : tmps[t]?.getD undef = .pointer (some ⟨g2, 0, none⟩) := by simpa using ht
  have e0 := run_loadVar_row (P := Try.prog) w g0 33 33 cs (0, 0) _ hg0 Try.underlying33 rfl (by rw [hcs]; exact size43)
  have e1 := run_loadVar_row (P := Try.prog) w g1 49 49 (cs2 h0 h1).toArray (0, 0) _ hg1 Try.underlying49 rfl (by kernel_rfl)
  have e2 := run_loadVar_row (P := Try.prog) w g2 50 50 #[.bool a, .bool b] (0, 0) _ hg2 Try.underlying50 rfl (by kernel_rfl)
  simp [results, h, hp', hq', ht', asAddr, e0, e1, e2]
end Go.Proofs.Ytcfkoglehjkkdaa
namespace Go.Proofs.Ytcfkoglehjkkdaa
open Go.RowKit
attribute [local go_sem] Oper.semAt_some
set_option maxRecDepth 100000 in
set_option maxHeartbeats 2000000 in
theorem rboth_ok {w : World} {r : Rp} {R : Rf} {z : Nat} (h : RefAt w r R z) (s : Nat) (hs : s ≤ 99990) (hz2 : 2 ≤ z) (hf0 : ¬ (s : Int) ∈ R.fl) (hf1 : ¬ ((s : Int) + 1) ∈ R.fl) :
    Calls Try.prog 19 #[r.val s] w fun e w' => e = .returned (.tuple #[r.val (s + 2), .agg (cs2 (gotH z (readL (chunk R.lb 0) 0 R.ws)) (gotH z (readL (chunk R.lb 1) 1 R.ws))).toArray, .agg #[.bool (gotB z (readL (chunk R.lb 0) 0 R.ws)), .bool (gotB z (readL (chunk R.lb 1) 1 R.ws))], .int .i64 0]) ∧ Below w.heap.size w w' := by
  have hz := z43
  have hz52 := z52
  have hz53 := z53
  have hz47 := z47
  obtain ⟨l0, hl0⟩ : ∃ l, (readL (chunk R.lb 0) 0 R.ws) = l := ⟨_, rfl⟩
  obtain ⟨l1, hl1⟩ : ∃ l, (readL (chunk R.lb 1) 1 R.ws) = l := ⟨_, rfl⟩
  have L0 := Lib.hid (show l0.length = 512 from by rw [← hl0]; exact readL_length _ R.ws _ (h.chunk_len _ (by omega)) (fun x hx => (h.wl x hx).1))
  have L1 := Lib.hid (show l1.length = 512 from by rw [← hl1]; exact readL_length _ R.ws _ (h.chunk_len _ (by omega)) (fun x hx => (h.wl x hx).1))
  obtain ⟨s1, hs1⟩ : ∃ s1, s + 1 = s1 := ⟨_, rfl⟩
  obtain ⟨s2, hs2⟩ : ∃ s2, s1 + 1 = s2 := ⟨_, rfl⟩
  have RD0 := Lib.hid (fun (W : World) (h : RefAt W r R z) => show Calls Try.prog 47 #[r.val s, .int .i64 0] W fun e w' => e = .returned (.tuple #[r.val s1, sec l0, .int .i64 0]) ∧ Below W.heap.size W w' from by
    have := rread_goes h s (by omega) 0 (by omega) hf0
    rw [hl0, hs1] at this
    exact this)
  have RD1 := Lib.hid (fun (W : World) (h : RefAt W r R z) => show Calls Try.prog 47 #[r.val s1, .int .i64 1] W fun e w' => e = .returned (.tuple #[r.val s2, sec l1, .int .i64 0]) ∧ Below W.heap.size W w' from by
    have := rread_goes h s1 (by omega) 1 (by omega) (by rw [← hs1]; simpa using hf1)
    rw [hl1, hs2] at this
    exact this)
  rw [hl0, hl1, show s + 2 = s2 by omega]
  obtain ⟨g0, hg0⟩ : ∃ g, gotH z l0 = g := ⟨_, rfl⟩
  obtain ⟨g1, hg1⟩ : ∃ g, gotH z l1 = g := ⟨_, rfl⟩
  obtain ⟨a, ha⟩ : ∃ g, gotB z l0 = g := ⟨_, rfl⟩
  obtain ⟨b, hb⟩ : ∃ g, gotB z l1 = g := ⟨_, rfl⟩
  rw [hg0, hg1, ha, hb]
  have OF0 := Lib.hid (fun W : World => show Calls Try.prog 48 #[sec l0, .int .i64 (z : Int)] W fun e w' => e = .returned (.tuple #[g0.val, .bool a]) ∧ Below W.heap.size W w' from by rw [← hg0, ← ha]; exact rof_any l0 L0.out z)
  have OF1 := Lib.hid (fun W : World => show Calls Try.prog 48 #[sec l1, .int .i64 (z : Int)] W fun e w' => e = .returned (.tuple #[g1.val, .bool b]) ∧ Below W.heap.size W w' from by rw [← hg1, ← hb]; exact rof_any l1 L1.out z)
  have n0 : (bv l0).length = 512 := by rw [bv_length, L0.out]
  have n1 : (bv l1).length = 512 := by rw [bv_length, L1.out]
  have z2 : decide ((z : Int) < 2) = false := decide_eq_false (by omega)
  have z2' : decide (z < 2) = false := decide_eq_false (by omega)
  have A0 := Lib.hid (rt_new s h)
  clear h hs hz2 hf0 hf1 hl0 hl1 hs1 hs2 hg0 hg1 ha hb
  go_enter Try.func19, Try.ntmps19
  go_wp2_with fail
  generalize (((((w.alloc (.cells #[.slice r.A1 r.n1 r.c1, .slice r.A2 r.n2 r.c2, .int .i64 (s : Int), .slice r.A3 r.n3 r.c3] 33)).alloc (.cells #[.slice none 0 0, .slice none 0 0, .int .i64 0, .slice none 0 0] 33)).alloc (.cells (cs2 hd0 hd0).toArray 49)).alloc (.cells #[.bool false, .bool false] 50)).alloc (.cells (cs2 hd0 hd0).toArray 49)).alloc (.cells #[.bool false, .bool false] 50) = W at A0 ⊢
  go_wp2_with (first
    | (refine wpList_load_mid rfl 33 (.tmp 1) rfl w.heap.size 0 rfl [.slice r.A1 r.n1 r.c1, .slice r.A2 r.n2 r.c2, .int .i64 (s : Int), .slice r.A3 r.n3 r.c3] _ (Blk.rangeAt A0.out.d1) Try.underlying33 rfl size43 ?_)
    | (go_at_call 32; refine (rsize_any A0.out.rf s).mono ?_; rintro e W1 ⟨rfl, hb⟩; have A1 := Lib.hid (A0.out.next hb); clear hb A0))
  go_loopw [8] (fun i wr => (i = .int .i64 0 ∧ Rt w r R s z hd0 hd0 false false wr) ∨ (i = .int .i64 1 ∧ Rt w r R s1 z g0 hd0 a false wr) ∨ (i = .int .i64 2 ∧ Rt w r R s2 z g0 g1 a b wr)) (fun i _ => 2 - (intOf i).toNat)
  case atStart => exact .inl ⟨rfl, A1.out⟩
  case round =>
    clear A1
    rcases hrel with ⟨rfl, hbt⟩ | ⟨rfl, hbt⟩ | ⟨rfl, hbt⟩
    · have A := Lib.hid hbt
      clear hbt
      go_wp2_with (first
        | (refine wpList_load_mid rfl 33 (.tmp 1) rfl w.heap.size 0 rfl [.slice r.A1 r.n1 r.c1, .slice r.A2 r.n2 r.c2, .int .i64 (s : Int), .slice r.A3 r.n3 r.c3] _ (Blk.rangeAt A.out.d1) Try.underlying33 rfl size43 ?_)
        | (go_at_call 47; refine (RD0.out _ A.out.rf).mono ?_; rintro e W1 ⟨rfl, hb⟩; have Aa := Lib.hid (A.out.next hb); have GG := Lib.hid (show w.heap.size + 1 + 1 + 1 + 1 + 1 < W1.heap.size from Aa.out.d7.lt); have G9 := Lib.hid ((Blk.new W1 33 #[.slice none 0 0, .slice none 0 0, .int .i64 0, .slice none 0 0]).alloc (.cells (bv zs).toArray 56)); have G10 := Lib.hid (blk_new1 W1 (.cells #[.slice none 0 0, .slice none 0 0, .int .i64 0, .slice none 0 0] 33) 56 (bv zs).toArray); have Ab := Lib.hid ((Aa.out.alloc (.cells #[.slice none 0 0, .slice none 0 0, .int .i64 0, .slice none 0 0] 33)).alloc (.cells (bv zs).toArray 56)); clear hb A Aa)
        | (refine wpList_store_g8 rfl 33 (.tmp 9) (.tmp 26) rfl (g := W1.heap.size) (by rfl) #[.slice r.A1 r.n1 r.c1, .slice r.A2 r.n2 r.c2, .int .i64 (s1 : Int), .slice r.A3 r.n3 r.c3] #[.slice none 0 0, .slice none 0 0, .int .i64 0, .slice none 0 0] 33 (by rfl) G9.out (size43c8 _ _ _ _) rfl (one43c8 _ _ _ _ _ _ _ _ _) ?_; intro W2 g2 f2; have H9 := Lib.hid g2; have H10 := Lib.hid (f2.keepBlk G10.out (by omega)); have Ac := Lib.hid (Ab.out.far f2 GG.out); clear g2 f2 G9 G10 Ab)
        | (refine wpList_store_g8 rfl 56 (.tmp 10) (.tmp 27) rfl (g := W1.heap.size + 1) (by rfl) (bv l0).toArray (bv zs).toArray 56 (by rfl) H10.out (by rw [List.size_toArray, n0]; exact size47) (by simp only [List.size_toArray, bv_length, L0.out, zs_length]) (bv_ones8 _) ?_; intro W3 g3 f3; have J10 := Lib.hid g3; have J9 := Lib.hid (f3.keepBlk H9.out (by omega)); have Ad := Lib.hid (Ac.out.far f3 (by have := GG.out; omega)); clear g3 f3 H9 H10 Ac)
        | (refine wpList_load_mid rfl 33 (.tmp 9) rfl W1.heap.size 0 rfl [.slice r.A1 r.n1 r.c1, .slice r.A2 r.n2 r.c2, .int .i64 (s1 : Int), .slice r.A3 r.n3 r.c3] _ (Blk.rangeAt J9.out) Try.underlying33 rfl size43 ?_)
        | (refine wpList_store_g8 rfl 33 (.tmp 1) (.tmp 29) rfl (g := w.heap.size) (by rfl) #[.slice r.A1 r.n1 r.c1, .slice r.A2 r.n2 r.c2, .int .i64 (s1 : Int), .slice r.A3 r.n3 r.c3] #[.slice r.A1 r.n1 r.c1, .slice r.A2 r.n2 r.c2, .int .i64 (s : Int), .slice r.A3 r.n3 r.c3] 33 (by rfl) Ad.out.d1 (size43c8 _ _ _ _) rfl (one43c8 _ _ _ _ _ _ _ _ _) ?_; intro W4 g4 f4; have M10 := Lib.hid (blk_drew (f4.keepBlk J10.out (by have := GG.out; omega))); have Ae := Lib.hid (Rt.drew (Ad.out.put1 f4 g4)); clear g4 f4 J9 J10 Ad))
      refine wp_region_only (S := fun w' => Blk w' (W1.heap.size + 1) 56 (bv l0).toArray ∧ Blk w' w.heap.size 33 #[.slice r.A1 r.n1 r.c1, .slice r.A2 r.n2 r.c2, .int .i64 (s1 : Int), .slice r.A3 r.n3 r.c3]) (by kernel_rfl) ⟨M10.out, Ae.out.d1⟩ (fun hHeld => ?_)
      refine wpAnyH_take (i := 0) (v := ?v1) rfl (by kernel_rfl) (by kernel_rfl) (by kernel_rfl) (fun _ _ _ h => h) (Or.inl ⟨by rfl, ?hy1⟩) hHeld ?rest1
      case hy1 =>
        intro w' hSw
        try dsimp only at hSw
        go_simp
        first | done | with_reducible rfl
      try simp only [Act.put, List.getElem_toArray, List.getElem_cons_zero, List.setIfInBounds_toArray, List.set_cons_zero, List.set_cons_succ]
      refine wpAnyH_take (i := 1) (v := ?v2) rfl (by kernel_rfl) (by kernel_rfl) (by kernel_rfl) (fun _ _ _ h => h) (Or.inl ⟨by rfl, ?hy2⟩) hHeld ?rest2
      case hy2 =>
        intro w' hSw
        try dsimp only at hSw
        go_simp
        first | done | with_reducible rfl
      try simp only [Act.put, List.getElem_toArray, List.getElem_cons_succ, List.getElem_cons_zero, List.setIfInBounds_toArray, List.set_cons_zero, List.set_cons_succ]
      refine wpAnyH_take (i := 2) rfl (by kernel_rfl) (by kernel_rfl) (by kernel_rfl) (fun _ _ _ h => h) (yieldsIf_load_mid (by rfl) 56 (.tmp 10) (by rfl) (W1.heap.size + 1) 0 (by rfl) (bv l0) _ (fun w' hSw => Blk.rangeAt (l := bv l0) hSw.1) Try.underlying56 rfl (by rw [n0]; exact size47)) hHeld ?_
      try simp only [Act.put, List.getElem_toArray, List.getElem_cons_succ, List.getElem_cons_zero, List.setIfInBounds_toArray, List.set_cons_zero, List.set_cons_succ]
      refine wpAnyH_take (i := 3) rfl (by kernel_rfl) (by kernel_rfl) (by kernel_rfl) (fun _ _ _ h => h) (yieldsIf_load_mid (by rfl) 33 (.tmp 1) (by rfl) w.heap.size 0 (by rfl) [.slice r.A1 r.n1 r.c1, .slice r.A2 r.n2 r.c2, .int .i64 (s1 : Int), .slice r.A3 r.n3 r.c3] _ (fun w' hSw => Blk.rangeAt hSw.2) Try.underlying33 rfl size43) hHeld ?_
      try simp only [Act.put, List.getElem_toArray, List.getElem_cons_succ, List.getElem_cons_zero, List.setIfInBounds_toArray, List.set_cons_zero, List.set_cons_succ]
      refine wpAnyH_ready (rs := [4]) (by kernel_rfl) (by simp) ?_
      refine AllReadyH.cons (by rfl) (fun K hK => ?_) AllReadyH.nil
      go_simp
      refine (rsize_any Ae.out.rf s1).mono ?_
      rintro e w4 ⟨rfl, hb⟩
      have M10 := Lib.hid (M10.out.below hb M10.out.lt)
      have Ae := Lib.hid (Ae.out.next hb)
      clear hb hHeld
      refine hK.out _ _ ⟨M10.out, Ae.out.d1⟩ (fun hHeld => ?_)
      clear hK K
      try simp only [Act.put, List.getElem_toArray, List.getElem_cons_succ, List.getElem_cons_zero, List.setIfInBounds_toArray, List.set_cons_zero, List.set_cons_succ]
      refine wpAnyH_ready (rs := [5]) (by kernel_rfl) (by simp) ?_
      refine AllReadyH.cons (by rfl) (fun K hK => ?_) AllReadyH.nil
      go_simp
      refine (OF0.out _).mono ?_
      rintro e w5 ⟨rfl, hb⟩
      have M10 := Lib.hid (M10.out.below hb M10.out.lt)
      have Ae := Lib.hid (Ae.out.next hb)
      clear hb hHeld
      refine hK.out _ _ ⟨M10.out, Ae.out.d1⟩ (fun hHeld => ?_)
      clear hK K
      try simp only [Act.put, List.getElem_toArray, List.getElem_cons_succ, List.getElem_cons_zero, List.setIfInBounds_toArray, List.set_cons_zero, List.set_cons_succ]
      refine wpAnyH_take (i := 6) (v := ?v3) rfl (by kernel_rfl) (by kernel_rfl) (by kernel_rfl) (fun _ _ _ h => h) (Or.inl ⟨by rfl, ?hy3⟩) hHeld ?rest3
      case hy3 =>
        intro w' hSw
        try dsimp only at hSw
        go_simp
        first | done | with_reducible rfl
      try simp only [Act.put, List.getElem_toArray, List.getElem_cons_succ, List.getElem_cons_zero, List.setIfInBounds_toArray, List.set_cons_zero, List.set_cons_succ]
      refine wpAnyH_take (i := 7) (v := ?v4) rfl (by kernel_rfl) (by kernel_rfl) (by kernel_rfl) (fun _ _ _ h => h) (Or.inl ⟨by rfl, ?hy4⟩) hHeld ?rest4
      case hy4 =>
        intro w' hSw
        try dsimp only at hSw
        go_simp
        first | done | with_reducible rfl
      try simp only [Act.put, List.getElem_toArray, List.getElem_cons_succ, List.getElem_cons_zero, List.setIfInBounds_toArray, List.set_cons_zero, List.set_cons_succ]
      refine wpAnyH_take (i := 8) (v := ?v5) rfl (by kernel_rfl) (by kernel_rfl) (by kernel_rfl) (fun _ _ _ h => h) (Or.inl ⟨by rfl, ?hy5⟩) hHeld ?rest5
      case hy5 =>
        intro w' hSw
        try dsimp only at hSw
        go_simp
        first | done | with_reducible rfl
      try simp only [Act.put, List.getElem_toArray, List.getElem_cons_succ, List.getElem_cons_zero, List.setIfInBounds_toArray, List.set_cons_zero, List.set_cons_succ]
      refine wpAnyH_take (i := 9) (v := ?v6) rfl (by kernel_rfl) (by kernel_rfl) (by kernel_rfl) (fun _ _ _ h => h) (Or.inl ⟨by rfl, ?hy6⟩) hHeld ?rest6
      case hy6 =>
        intro w' hSw
        try dsimp only at hSw
        go_simp
        first | done | with_reducible rfl
      try simp only [Act.put, List.getElem_toArray, List.getElem_cons_succ, List.getElem_cons_zero, List.setIfInBounds_toArray, List.set_cons_zero, List.set_cons_succ]
      refine wpAnyH_ready (rs := [10]) (by kernel_rfl) (by simp) ?_
      refine AllReadyH.cons (by rfl) (fun K hK => ?_) AllReadyH.nil
      refine step_store_mid8 (off := 0) (l := cs2 hd0 hd0) (ys := Hd.cs g0) rfl 28 (.tmp 45) (.tmp 43) rfl Ae.out.d6 (by rfl) (by rfl) (by simp [cs2]) (size23 _) (by simp [Value.oneCell']) ?_
      intro W6 j6 f6
      have M10 := Lib.hid (f6.keepBlk M10.out (by have := GG.out; omega))
      have Af := Lib.hid (Ae.out.put6 (u0 := g0) (u1 := hd0) f6 j6)
      clear j6 f6 hHeld
      refine hK.out _ _ ⟨M10.out, Af.out.d1⟩ (fun hHeld => ?_)
      clear hK K
      try simp only [Act.put, List.getElem_toArray, List.getElem_cons_succ, List.getElem_cons_zero]
      refine wpAnyH_take (i := 11) (v := ?v7) rfl (by kernel_rfl) (by kernel_rfl) (by kernel_rfl) (fun _ _ _ h => h) (Or.inl ⟨by rfl, ?hy7⟩) hHeld ?rest7
      case hy7 =>
        intro w' hSw
        try dsimp only at hSw
        go_simp
        first | done | with_reducible rfl
      try simp only [Act.put, List.getElem_toArray, List.getElem_cons_succ, List.getElem_cons_zero, List.setIfInBounds_toArray, List.set_cons_zero, List.set_cons_succ]
      refine wpAnyH_ready (rs := [12]) (by kernel_rfl) (by simp) ?_
      refine AllReadyH.cons (by rfl) (fun K hK => ?_) AllReadyH.nil
      refine step_store_bool8 (off := 0) (l := [.bool false, .bool false]) rfl 4 (.tmp 46) (.tmp 44) rfl Af.out.d7 (by rfl) a (by rfl) (by simp) (by kernel_rfl) ?_
      intro W7 j7 f7
      have M10 := Lib.hid (f7.keepBlk M10.out (by have := GG.out; omega))
      have Ag := Lib.hid (Af.out.put7 (u0 := a) (u1 := false) f7 j7)
      clear j7 f7 hHeld
      refine hK.out _ _ ⟨M10.out, Ag.out.d1⟩ (fun hHeld => ?_)
      clear hK K
      try simp only [Act.put, List.getElem_toArray, List.getElem_cons_succ, List.getElem_cons_zero]
      refine wpAnyH_done (by kernel_rfl) ?_ _
      refine OnlyN.normal ?_
      clear hHeld
      go_wp2_with fail
      go_roundw
      case rel => exact .inr (.inl ⟨rfl, Ag.out⟩)
      case measure => simp [intOf]
    · have A := Lib.hid hbt
      clear hbt
      go_wp2_with (first
        | (refine wpList_load_mid rfl 33 (.tmp 1) rfl w.heap.size 0 rfl [.slice r.A1 r.n1 r.c1, .slice r.A2 r.n2 r.c2, .int .i64 (s1 : Int), .slice r.A3 r.n3 r.c3] _ (Blk.rangeAt A.out.d1) Try.underlying33 rfl size43 ?_)
        | (go_at_call 47; refine (RD1.out _ A.out.rf).mono ?_; rintro e W1 ⟨rfl, hb⟩; have Aa := Lib.hid (A.out.next hb); have GG := Lib.hid (show w.heap.size + 1 + 1 + 1 + 1 + 1 < W1.heap.size from Aa.out.d7.lt); have G9 := Lib.hid ((Blk.new W1 33 #[.slice none 0 0, .slice none 0 0, .int .i64 0, .slice none 0 0]).alloc (.cells (bv zs).toArray 56)); have G10 := Lib.hid (blk_new1 W1 (.cells #[.slice none 0 0, .slice none 0 0, .int .i64 0, .slice none 0 0] 33) 56 (bv zs).toArray); have Ab := Lib.hid ((Aa.out.alloc (.cells #[.slice none 0 0, .slice none 0 0, .int .i64 0, .slice none 0 0] 33)).alloc (.cells (bv zs).toArray 56)); clear hb A Aa)
        | (refine wpList_store_g8 rfl 33 (.tmp 9) (.tmp 26) rfl (g := W1.heap.size) (by rfl) #[.slice r.A1 r.n1 r.c1, .slice r.A2 r.n2 r.c2, .int .i64 (s2 : Int), .slice r.A3 r.n3 r.c3] #[.slice none 0 0, .slice none 0 0, .int .i64 0, .slice none 0 0] 33 (by rfl) G9.out (size43c8 _ _ _ _) rfl (one43c8 _ _ _ _ _ _ _ _ _) ?_; intro W2 g2 f2; have H9 := Lib.hid g2; have H10 := Lib.hid (f2.keepBlk G10.out (by omega)); have Ac := Lib.hid (Ab.out.far f2 GG.out); clear g2 f2 G9 G10 Ab)
        | (refine wpList_store_g8 rfl 56 (.tmp 10) (.tmp 27) rfl (g := W1.heap.size + 1) (by rfl) (bv l1).toArray (bv zs).toArray 56 (by rfl) H10.out (by rw [List.size_toArray, n1]; exact size47) (by simp only [List.size_toArray, bv_length, L1.out, zs_length]) (bv_ones8 _) ?_; intro W3 g3 f3; have J10 := Lib.hid g3; have J9 := Lib.hid (f3.keepBlk H9.out (by omega)); have Ad := Lib.hid (Ac.out.far f3 (by have := GG.out; omega)); clear g3 f3 H9 H10 Ac)
        | (refine wpList_load_mid rfl 33 (.tmp 9) rfl W1.heap.size 0 rfl [.slice r.A1 r.n1 r.c1, .slice r.A2 r.n2 r.c2, .int .i64 (s2 : Int), .slice r.A3 r.n3 r.c3] _ (Blk.rangeAt J9.out) Try.underlying33 rfl size43 ?_)
        | (refine wpList_store_g8 rfl 33 (.tmp 1) (.tmp 29) rfl (g := w.heap.size) (by rfl) #[.slice r.A1 r.n1 r.c1, .slice r.A2 r.n2 r.c2, .int .i64 (s2 : Int), .slice r.A3 r.n3 r.c3] #[.slice r.A1 r.n1 r.c1, .slice r.A2 r.n2 r.c2, .int .i64 (s1 : Int), .slice r.A3 r.n3 r.c3] 33 (by rfl) Ad.out.d1 (size43c8 _ _ _ _) rfl (one43c8 _ _ _ _ _ _ _ _ _) ?_; intro W4 g4 f4; have M10 := Lib.hid (blk_drew (f4.keepBlk J10.out (by have := GG.out; omega))); have Ae := Lib.hid (Rt.drew (Ad.out.put1 f4 g4)); clear g4 f4 J9 J10 Ad))
      refine wp_region_only (S := fun w' => Blk w' (W1.heap.size + 1) 56 (bv l1).toArray ∧ Blk w' w.heap.size 33 #[.slice r.A1 r.n1 r.c1, .slice r.A2 r.n2 r.c2, .int .i64 (s2 : Int), .slice r.A3 r.n3 r.c3]) (by kernel_rfl) ⟨M10.out, Ae.out.d1⟩ (fun hHeld => ?_)
      refine wpAnyH_take (i := 0) (v := ?v8) rfl (by kernel_rfl) (by kernel_rfl) (by kernel_rfl) (fun _ _ _ h => h) (Or.inl ⟨by rfl, ?hy8⟩) hHeld ?rest8
      case hy8 =>
        intro w' hSw
        try dsimp only at hSw
        go_simp
        first | done | with_reducible rfl
      try simp only [Act.put, List.getElem_toArray, List.getElem_cons_zero, List.setIfInBounds_toArray, List.set_cons_zero, List.set_cons_succ]
      refine wpAnyH_take (i := 1) (v := ?v9) rfl (by kernel_rfl) (by kernel_rfl) (by kernel_rfl) (fun _ _ _ h => h) (Or.inl ⟨by rfl, ?hy9⟩) hHeld ?rest9
      case hy9 =>
        intro w' hSw
        try dsimp only at hSw
        go_simp
        first | done | with_reducible rfl
      try simp only [Act.put, List.getElem_toArray, List.getElem_cons_succ, List.getElem_cons_zero, List.setIfInBounds_toArray, List.set_cons_zero, List.set_cons_succ]
      refine wpAnyH_take (i := 2) rfl (by kernel_rfl) (by kernel_rfl) (by kernel_rfl) (fun _ _ _ h => h) (yieldsIf_load_mid (by rfl) 56 (.tmp 10) (by rfl) (W1.heap.size + 1) 0 (by rfl) (bv l1) _ (fun w' hSw => Blk.rangeAt (l := bv l1) hSw.1) Try.underlying56 rfl (by rw [n1]; exact size47)) hHeld ?_
      try simp only [Act.put, List.getElem_toArray, List.getElem_cons_succ, List.getElem_cons_zero, List.setIfInBounds_toArray, List.set_cons_zero, List.set_cons_succ]
      refine wpAnyH_take (i := 3) rfl (by kernel_rfl) (by kernel_rfl) (by kernel_rfl) (fun _ _ _ h => h) (yieldsIf_load_mid (by rfl) 33 (.tmp 1) (by rfl) w.heap.size 0 (by rfl) [.slice r.A1 r.n1 r.c1, .slice r.A2 r.n2 r.c2, .int .i64 (s2 : Int), .slice r.A3 r.n3 r.c3] _ (fun w' hSw => Blk.rangeAt hSw.2) Try.underlying33 rfl size43) hHeld ?_
      try simp only [Act.put, List.getElem_toArray, List.getElem_cons_succ, List.getElem_cons_zero, List.setIfInBounds_toArray, List.set_cons_zero, List.set_cons_succ]
      refine wpAnyH_ready (rs := [4]) (by kernel_rfl) (by simp) ?_
      refine AllReadyH.cons (by rfl) (fun K hK => ?_) AllReadyH.nil
      go_simp
      refine (rsize_any Ae.out.rf s2).mono ?_
      rintro e w4 ⟨rfl, hb⟩
      have M10 := Lib.hid (M10.out.below hb M10.out.lt)
      have Ae := Lib.hid (Ae.out.next hb)
      clear hb hHeld
      refine hK.out _ _ ⟨M10.out, Ae.out.d1⟩ (fun hHeld => ?_)
      clear hK K
      try simp only [Act.put, List.getElem_toArray, List.getElem_cons_succ, List.getElem_cons_zero, List.setIfInBounds_toArray, List.set_cons_zero, List.set_cons_succ]
      refine wpAnyH_ready (rs := [5]) (by kernel_rfl) (by simp) ?_
      refine AllReadyH.cons (by rfl) (fun K hK => ?_) AllReadyH.nil
      go_simp
      refine (OF1.out _).mono ?_
      rintro e w5 ⟨rfl, hb⟩
      have M10 := Lib.hid (M10.out.below hb M10.out.lt)
      have Ae := Lib.hid (Ae.out.next hb)
      clear hb hHeld
      refine hK.out _ _ ⟨M10.out, Ae.out.d1⟩ (fun hHeld => ?_)
      clear hK K
      try simp only [Act.put, List.getElem_toArray, List.getElem_cons_succ, List.getElem_cons_zero, List.setIfInBounds_toArray, List.set_cons_zero, List.set_cons_succ]
      refine wpAnyH_take (i := 6) (v := ?v10) rfl (by kernel_rfl) (by kernel_rfl) (by kernel_rfl) (fun _ _ _ h => h) (Or.inl ⟨by rfl, ?hy10⟩) hHeld ?rest10
      case hy10 =>
        intro w' hSw
        try dsimp only at hSw
        go_simp
        first | done | with_reducible rfl
      try simp only [Act.put, List.getElem_toArray, List.getElem_cons_succ, List.getElem_cons_zero, List.setIfInBounds_toArray, List.set_cons_zero, List.set_cons_succ]
      refine wpAnyH_take (i := 7) (v := ?v11) rfl (by kernel_rfl) (by kernel_rfl) (by kernel_rfl) (fun _ _ _ h => h) (Or.inl ⟨by rfl, ?hy11⟩) hHeld ?rest11
      case hy11 =>
        intro w' hSw
        try dsimp only at hSw
        go_simp
        first | done | with_reducible rfl
      try simp only [Act.put, List.getElem_toArray, List.getElem_cons_succ, List.getElem_cons_zero, List.setIfInBounds_toArray, List.set_cons_zero, List.set_cons_succ]
      refine wpAnyH_take (i := 8) (v := ?v12) rfl (by kernel_rfl) (by kernel_rfl) (by kernel_rfl) (fun _ _ _ h => h) (Or.inl ⟨by rfl, ?hy12⟩) hHeld ?rest12
      case hy12 =>
        intro w' hSw
        try dsimp only at hSw
        go_simp
        first | done | with_reducible rfl
      try simp only [Act.put, List.getElem_toArray, List.getElem_cons_succ, List.getElem_cons_zero, List.setIfInBounds_toArray, List.set_cons_zero, List.set_cons_succ]
      refine wpAnyH_take (i := 9) (v := ?v13) rfl (by kernel_rfl) (by kernel_rfl) (by kernel_rfl) (fun _ _ _ h => h) (Or.inl ⟨by rfl, ?hy13⟩) hHeld ?rest13
      case hy13 =>
        intro w' hSw
        try dsimp only at hSw
        go_simp
        first | done | with_reducible rfl
      try simp only [Act.put, List.getElem_toArray, List.getElem_cons_succ, List.getElem_cons_zero, List.setIfInBounds_toArray, List.set_cons_zero, List.set_cons_succ]
      refine wpAnyH_ready (rs := [10]) (by kernel_rfl) (by simp) ?_
      refine AllReadyH.cons (by rfl) (fun K hK => ?_) AllReadyH.nil
      refine step_store_mid8 (off := 3) (l := cs2 g0 hd0) (ys := Hd.cs g1) rfl 28 (.tmp 45) (.tmp 43) rfl Ae.out.d6 (by rfl) (by rfl) (by simp [cs2]) (size23 _) (by simp [Value.oneCell']) ?_
      intro W6 j6 f6
      have M10 := Lib.hid (f6.keepBlk M10.out (by have := GG.out; omega))
      have Af := Lib.hid (Ae.out.put6 (u0 := g0) (u1 := g1) f6 j6)
      clear j6 f6 hHeld
      refine hK.out _ _ ⟨M10.out, Af.out.d1⟩ (fun hHeld => ?_)
      clear hK K
      try simp only [Act.put, List.getElem_toArray, List.getElem_cons_succ, List.getElem_cons_zero]
      refine wpAnyH_take (i := 11) (v := ?v14) rfl (by kernel_rfl) (by kernel_rfl) (by kernel_rfl) (fun _ _ _ h => h) (Or.inl ⟨by rfl, ?hy14⟩) hHeld ?rest14
      case hy14 =>
        intro w' hSw
        try dsimp only at hSw
        go_simp
        first | done | with_reducible rfl
      try simp only [Act.put, List.getElem_toArray, List.getElem_cons_succ, List.getElem_cons_zero, List.setIfInBounds_toArray, List.set_cons_zero, List.set_cons_succ]
      refine wpAnyH_ready (rs := [12]) (by kernel_rfl) (by simp) ?_
      refine AllReadyH.cons (by rfl) (fun K hK => ?_) AllReadyH.nil
      refine step_store_bool8 (off := 1) (l := [.bool a, .bool false]) rfl 4 (.tmp 46) (.tmp 44) rfl Af.out.d7 (by rfl) b (by rfl) (by simp) (by kernel_rfl) ?_
      intro W7 j7 f7
      have M10 := Lib.hid (f7.keepBlk M10.out (by have := GG.out; omega))
      have Ag := Lib.hid (Af.out.put7 (u0 := a) (u1 := b) f7 j7)
      clear j7 f7 hHeld
      refine hK.out _ _ ⟨M10.out, Ag.out.d1⟩ (fun hHeld => ?_)
      clear hK K
      try simp only [Act.put, List.getElem_toArray, List.getElem_cons_succ, List.getElem_cons_zero]
      refine wpAnyH_done (by kernel_rfl) ?_ _
      refine OnlyN.normal ?_
      clear hHeld
      go_wp2_with fail
      go_roundw
      case rel => exact .inr (.inr ⟨rfl, Ag.out⟩)
      case measure => simp [intOf]
    · have D1 := Lib.hid (blk_drew hbt.d1)
      have D2 := Lib.hid (blk_drew hbt.d2)
      have D3 := Lib.hid (blk_drew hbt.d3)
      have D4 := Lib.hid (blk_drew hbt.d4)
      have D6 := Lib.hid (blk_drew hbt.d6)
      have D7 := Lib.hid (blk_drew hbt.d7)
      have BE := Lib.hid hbt.be.drew
      clear hbt
      go_wp2_with fail
      refine wp_region_only (S := fun w' => Blk w' w.heap.size 33 #[.slice r.A1 r.n1 r.c1, .slice r.A2 r.n2 r.c2, .int .i64 (s2 : Int), .slice r.A3 r.n3 r.c3] ∧ Blk w' (w.heap.size + 1 + 1 + 1 + 1) 49 (cs2 g0 g1).toArray ∧ Blk w' (w.heap.size + 1 + 1 + 1 + 1 + 1) 50 #[.bool a, .bool b]) (by kernel_rfl) ⟨D1.out, D6.out, D7.out⟩ (fun hHeld => ?_)
      refine wpAnyH_take (i := 0) rfl (by kernel_rfl) (by kernel_rfl) (by kernel_rfl) (fun _ _ _ h => h) (yieldsIf_load_mid (by rfl) 33 (.tmp 1) (by rfl) w.heap.size 0 (by rfl) [.slice r.A1 r.n1 r.c1, .slice r.A2 r.n2 r.c2, .int .i64 (s2 : Int), .slice r.A3 r.n3 r.c3] _ (fun w' hSw => Blk.rangeAt hSw.1) Try.underlying33 rfl size43) hHeld ?_
      try simp only [Act.put, List.getElem_toArray, List.getElem_cons_zero, List.setIfInBounds_toArray, List.set_cons_zero, List.set_cons_succ]
      refine wpAnyH_take (i := 1) rfl (by kernel_rfl) (by kernel_rfl) (by kernel_rfl) (fun _ _ _ h => h) (yieldsIf_load_mid (by rfl) 49 (.tmp 6) (by rfl) (w.heap.size + 1 + 1 + 1 + 1) 0 (by rfl) (cs2 g0 g1) _ (fun w' hSw => Blk.rangeAt (l := cs2 g0 g1) hSw.2.1) Try.underlying49 rfl (size52 _ _)) hHeld ?_
      try simp only [Act.put, List.getElem_toArray, List.getElem_cons_succ, List.getElem_cons_zero, List.setIfInBounds_toArray, List.set_cons_zero, List.set_cons_succ]
      refine wpAnyH_take (i := 2) rfl (by kernel_rfl) (by kernel_rfl) (by kernel_rfl) (fun _ _ _ h => h) (yieldsIf_load_mid (by rfl) 50 (.tmp 7) (by rfl) (w.heap.size + 1 + 1 + 1 + 1 + 1) 0 (by rfl) [.bool a, .bool b] _ (fun w' hSw => Blk.rangeAt (l := [.bool a, .bool b]) hSw.2.2) Try.underlying50 rfl (size53 _ _)) hHeld ?_
      try simp only [Act.put, List.getElem_toArray, List.getElem_cons_succ, List.getElem_cons_zero, List.setIfInBounds_toArray, List.set_cons_zero, List.set_cons_succ]
      refine wpAnyH_ready (rs := [3]) (by kernel_rfl) (by simp) ?_
      refine AllReadyH.cons (by rfl) (fun K hK => ?_) AllReadyH.nil
      refine step_store8 rfl 33 (.tmp 2) (.tmp 47) rfl (by rfl) #[.slice r.A1 r.n1 r.c1, .slice r.A2 r.n2 r.c2, .int .i64 (s2 : Int), .slice r.A3 r.n3 r.c3] #[.slice none 0 0, .slice none 0 0, .int .i64 0, .slice none 0 0] 33 (by rfl) D2.out (size43c8 _ _ _ _) rfl (one43c8 _ _ _ _ _ _ _ _ _) ?_
      intro Wa j f
      have R3 := Lib.hid j
      have D1 := Lib.hid (f.keepBlk D1.out (by omega))
      have D6 := Lib.hid (f.keepBlk D6.out (by omega))
      have D7 := Lib.hid (f.keepBlk D7.out (by omega))
      have D3 := Lib.hid (f.keepBlk D3.out (by omega))
      have D4 := Lib.hid (f.keepBlk D4.out (by omega))
      have BE := Lib.hid (BE.out.trans (f.to_below (fun k e => by omega) BE.out.size))
      clear hHeld j f
      refine hK.out _ _ ⟨D1.out, D6.out, D7.out⟩ (fun hHeld => ?_)
      clear hK K
      try simp only [Act.put, List.getElem_toArray, List.getElem_cons_succ, List.getElem_cons_zero]
      refine wpAnyH_ready (rs := [4]) (by kernel_rfl) (by simp) ?_
      refine AllReadyH.cons (by rfl) (fun K hK => ?_) AllReadyH.nil
      refine step_store8 rfl 49 (.tmp 3) (.tmp 48) rfl (by rfl) (cs2 g0 g1).toArray (cs2 hd0 hd0).toArray 49 (by rfl) D3.out (by kernel_rfl) rfl (cs2_one _ _) ?_
      intro Wb j f
      have R4 := Lib.hid j
      have D1 := Lib.hid (f.keepBlk D1.out (by omega))
      have D6 := Lib.hid (f.keepBlk D6.out (by omega))
      have D7 := Lib.hid (f.keepBlk D7.out (by omega))
      have D4 := Lib.hid (f.keepBlk D4.out (by omega))
      have R3 := Lib.hid (f.keepBlk R3.out (by omega))
      have BE := Lib.hid (BE.out.trans (f.to_below (fun k e => by omega) BE.out.size))
      clear hHeld j f
      refine hK.out _ _ ⟨D1.out, D6.out, D7.out⟩ (fun hHeld => ?_)
      clear hK K
      try simp only [Act.put, List.getElem_toArray, List.getElem_cons_succ, List.getElem_cons_zero]
      refine wpAnyH_ready (rs := [5]) (by kernel_rfl) (by simp) ?_
      refine AllReadyH.cons (by rfl) (fun K hK => ?_) AllReadyH.nil
      refine step_store8 rfl 50 (.tmp 4) (.tmp 49) rfl (by rfl) #[.bool a, .bool b] #[.bool false, .bool false] 50 (by rfl) D4.out (by kernel_rfl) rfl (by simp [Value.oneCell']) ?_
      intro Wc j f
      have R5 := Lib.hid j
      have D1 := Lib.hid (f.keepBlk D1.out (by omega))
      have D6 := Lib.hid (f.keepBlk D6.out (by omega))
      have D7 := Lib.hid (f.keepBlk D7.out (by omega))
      have R3 := Lib.hid (f.keepBlk R3.out (by omega))
      have R4 := Lib.hid (f.keepBlk R4.out (by omega))
      have BE := Lib.hid (BE.out.trans (f.to_below (fun k e => by omega) BE.out.size))
      clear hHeld j f
      refine hK.out _ _ ⟨D1.out, D6.out, D7.out⟩ (fun hHeld => ?_)
      clear hK K
      try simp only [Act.put, List.getElem_toArray, List.getElem_cons_succ, List.getElem_cons_zero]
      refine wpAnyH_take (i := 6) (v := ?v15) rfl (by kernel_rfl) (by kernel_rfl) (by kernel_rfl) (fun _ _ _ h => h) (Or.inl ⟨by rfl, ?hy15⟩) hHeld ?rest15
      case hy15 =>
        intro w' hSw
        try dsimp only at hSw
        go_simp
        first | done | with_reducible rfl
      try simp only [Act.put, List.getElem_toArray, List.getElem_cons_succ, List.getElem_cons_zero, List.setIfInBounds_toArray, List.set_cons_zero, List.set_cons_succ]
      refine wpAnyH_done (by kernel_rfl) ?_ _
      refine OnlyN.normal ?_
      clear hHeld
      go_wp2_with fail
      exact bodyPost_ret (results_rboth rfl _ _ (w.heap.size + 1) (w.heap.size + 1 + 1) (w.heap.size + 1 + 1 + 1) #[.slice r.A1 r.n1 r.c1, .slice r.A2 r.n2 r.c2, .int .i64 (s2 : Int), .slice r.A3 r.n3 r.c3] rfl g0 g1 a b rfl rfl rfl R3.out R4.out R5.out) rfl ⟨rfl, BE.out⟩
end Go.Proofs.Ytcfkoglehjkkdaa
namespace Go.Proofs.Ytcfkoglehjkkdaa
open Go.RowKit
attribute [local go_sem] Oper.semAt_some
set_option maxRecDepth 100000 in
set_option maxHeartbeats 8000000 in
theorem rboth_small {w : World} {r : Rp} {R : Rf} {z : Nat} (h : RefAt w r R z) (s : Nat) (hz1 : z < 2) :
    Calls Try.prog 19 #[r.val s] w fun e w' => e = .returned (.tuple #[r.val (s), .agg (cs2 hd0 hd0).toArray, .agg #[.bool false, .bool false], .int .i64 180]) ∧ Below w.heap.size w w' := by
  have hz := z43
  have hz52 := z52
  have hz53 := z53
  have hz47 := z47
  have z2 : decide ((z : Int) < 2) = true := decide_eq_true (by omega)
  have z2' : decide (z < 2) = true := decide_eq_true (by omega)
  have A0 := Lib.hid (rt_new s h)
  clear h hz1
  go_enter Try.func19, Try.ntmps19
  go_wp2_with fail
  generalize (((((w.alloc (.cells #[.slice r.A1 r.n1 r.c1, .slice r.A2 r.n2 r.c2, .int .i64 (s : Int), .slice r.A3 r.n3 r.c3] 33)).alloc (.cells #[.slice none 0 0, .slice none 0 0, .int .i64 0, .slice none 0 0] 33)).alloc (.cells (cs2 hd0 hd0).toArray 49)).alloc (.cells #[.bool false, .bool false] 50)).alloc (.cells (cs2 hd0 hd0).toArray 49)).alloc (.cells #[.bool false, .bool false] 50) = W at A0 ⊢
  go_wp2_with (first
    | (refine wpList_load_mid rfl 33 (.tmp 1) rfl w.heap.size 0 rfl [.slice r.A1 r.n1 r.c1, .slice r.A2 r.n2 r.c2, .int .i64 (s : Int), .slice r.A3 r.n3 r.c3] _ (Blk.rangeAt A0.out.d1) Try.underlying33 rfl size43 ?_)
    | (go_at_call 32; refine (rsize_any A0.out.rf s).mono ?_; rintro e W1 ⟨rfl, hb⟩; have A1 := Lib.hid (A0.out.next hb); clear hb A0))
  have D1 := Lib.hid (blk_drew A1.out.d1)
  have D2 := Lib.hid (blk_drew A1.out.d2)
  have D3 := Lib.hid (blk_drew A1.out.d3)
  have D4 := Lib.hid (blk_drew A1.out.d4)
  have D6 := Lib.hid (blk_drew A1.out.d6)
  have D7 := Lib.hid (blk_drew A1.out.d7)
  have BE := Lib.hid A1.out.be.drew
  refine wp_region_only (S := fun w' => Blk w' w.heap.size 33 #[.slice r.A1 r.n1 r.c1, .slice r.A2 r.n2 r.c2, .int .i64 (s : Int), .slice r.A3 r.n3 r.c3] ∧ Blk w' (w.heap.size + 1 + 1 + 1 + 1) 49 (cs2 hd0 hd0).toArray ∧ Blk w' (w.heap.size + 1 + 1 + 1 + 1 + 1) 50 #[.bool false, .bool false]) (by kernel_rfl) ⟨D1.out, D6.out, D7.out⟩ (fun hHeld => ?_)
  refine wpAnyH_take (i := 0) rfl (by kernel_rfl) (by kernel_rfl) (by kernel_rfl) (fun _ _ _ h => h) (yieldsIf_load_mid (by rfl) 33 (.tmp 1) (by rfl) w.heap.size 0 (by rfl) [.slice r.A1 r.n1 r.c1, .slice r.A2 r.n2 r.c2, .int .i64 (s : Int), .slice r.A3 r.n3 r.c3] _ (fun w' hSw => Blk.rangeAt hSw.1) Try.underlying33 rfl size43) hHeld ?_
  try simp only [Act.put, List.getElem_toArray, List.getElem_cons_zero, List.setIfInBounds_toArray, List.set_cons_zero, List.set_cons_succ]
  refine wpAnyH_take (i := 1) rfl (by kernel_rfl) (by kernel_rfl) (by kernel_rfl) (fun _ _ _ h => h) (yieldsIf_load_mid (by rfl) 49 (.tmp 6) (by rfl) (w.heap.size + 1 + 1 + 1 + 1) 0 (by rfl) (cs2 hd0 hd0) _ (fun w' hSw => Blk.rangeAt (l := cs2 hd0 hd0) hSw.2.1) Try.underlying49 rfl (size52 _ _)) hHeld ?_
  try simp only [Act.put, List.getElem_toArray, List.getElem_cons_succ, List.getElem_cons_zero, List.setIfInBounds_toArray, List.set_cons_zero, List.set_cons_succ]
  refine wpAnyH_take (i := 2) rfl (by kernel_rfl) (by kernel_rfl) (by kernel_rfl) (fun _ _ _ h => h) (yieldsIf_load_mid (by rfl) 50 (.tmp 7) (by rfl) (w.heap.size + 1 + 1 + 1 + 1 + 1) 0 (by rfl) [.bool false, .bool false] _ (fun w' hSw => Blk.rangeAt (l := [.bool false, .bool false]) hSw.2.2) Try.underlying50 rfl (size53 _ _)) hHeld ?_
  try simp only [Act.put, List.getElem_toArray, List.getElem_cons_succ, List.getElem_cons_zero, List.setIfInBounds_toArray, List.set_cons_zero, List.set_cons_succ]
  refine wpAnyH_ready (rs := [3]) (by kernel_rfl) (by simp) ?_
  refine AllReadyH.cons (by rfl) (fun K hK => ?_) AllReadyH.nil
  refine step_store8 rfl 33 (.tmp 2) (.tmp 15) rfl (by rfl) #[.slice r.A1 r.n1 r.c1, .slice r.A2 r.n2 r.c2, .int .i64 (s : Int), .slice r.A3 r.n3 r.c3] #[.slice none 0 0, .slice none 0 0, .int .i64 0, .slice none 0 0] 33 (by rfl) D2.out (size43c8 _ _ _ _) rfl (one43c8 _ _ _ _ _ _ _ _ _) ?_
  intro Wa j f
  have R3 := Lib.hid j
  have D1 := Lib.hid (f.keepBlk D1.out (by omega))
  have D6 := Lib.hid (f.keepBlk D6.out (by omega))
  have D7 := Lib.hid (f.keepBlk D7.out (by omega))
  have D3 := Lib.hid (f.keepBlk D3.out (by omega))
  have D4 := Lib.hid (f.keepBlk D4.out (by omega))
  have BE := Lib.hid (BE.out.trans (f.to_below (fun k e => by omega) BE.out.size))
  clear hHeld j f
  refine hK.out _ _ ⟨D1.out, D6.out, D7.out⟩ (fun hHeld => ?_)
  clear hK K
  try simp only [Act.put, List.getElem_toArray, List.getElem_cons_succ, List.getElem_cons_zero]
  refine wpAnyH_ready (rs := [4]) (by kernel_rfl) (by simp) ?_
  refine AllReadyH.cons (by rfl) (fun K hK => ?_) AllReadyH.nil
  refine step_store8 rfl 49 (.tmp 3) (.tmp 16) rfl (by rfl) (cs2 hd0 hd0).toArray (cs2 hd0 hd0).toArray 49 (by rfl) D3.out (by kernel_rfl) rfl (cs2_one _ _) ?_
  intro Wb j f
  have R4 := Lib.hid j
  have D1 := Lib.hid (f.keepBlk D1.out (by omega))
  have D6 := Lib.hid (f.keepBlk D6.out (by omega))
  have D7 := Lib.hid (f.keepBlk D7.out (by omega))
  have D4 := Lib.hid (f.keepBlk D4.out (by omega))
  have R3 := Lib.hid (f.keepBlk R3.out (by omega))
  have BE := Lib.hid (BE.out.trans (f.to_below (fun k e => by omega) BE.out.size))
  clear hHeld j f
  refine hK.out _ _ ⟨D1.out, D6.out, D7.out⟩ (fun hHeld => ?_)
  clear hK K
  try simp only [Act.put, List.getElem_toArray, List.getElem_cons_succ, List.getElem_cons_zero]
  refine wpAnyH_ready (rs := [5]) (by kernel_rfl) (by simp) ?_
  refine AllReadyH.cons (by rfl) (fun K hK => ?_) AllReadyH.nil
  refine step_store8 rfl 50 (.tmp 4) (.tmp 17) rfl (by rfl) #[.bool false, .bool false] #[.bool false, .bool false] 50 (by rfl) D4.out (by kernel_rfl) rfl (by simp [Value.oneCell']) ?_
  intro Wc j f
  have R5 := Lib.hid j
  have D1 := Lib.hid (f.keepBlk D1.out (by omega))
  have D6 := Lib.hid (f.keepBlk D6.out (by omega))
  have D7 := Lib.hid (f.keepBlk D7.out (by omega))
  have R3 := Lib.hid (f.keepBlk R3.out (by omega))
  have R4 := Lib.hid (f.keepBlk R4.out (by omega))
  have BE := Lib.hid (BE.out.trans (f.to_below (fun k e => by omega) BE.out.size))
  clear hHeld j f
  refine hK.out _ _ ⟨D1.out, D6.out, D7.out⟩ (fun hHeld => ?_)
  clear hK K
  try simp only [Act.put, List.getElem_toArray, List.getElem_cons_succ, List.getElem_cons_zero]
  refine wpAnyH_take (i := 6) (v := ?v1) rfl (by kernel_rfl) (by kernel_rfl) (by kernel_rfl) (fun _ _ _ h => h) (Or.inl ⟨by rfl, ?hy1⟩) hHeld ?rest1
  case hy1 =>
    intro w' hSw
    try dsimp only at hSw
    go_simp
    first | done | with_reducible rfl
  try simp only [Act.put, List.getElem_toArray, List.getElem_cons_succ, List.getElem_cons_zero, List.setIfInBounds_toArray, List.set_cons_zero, List.set_cons_succ]
  refine wpAnyH_done (by kernel_rfl) ?_ _
  refine OnlyN.normal ?_
  clear hHeld
  go_wp2_with fail
  exact bodyPost_ret (results_rboth rfl _ _ (w.heap.size + 1) (w.heap.size + 1 + 1) (w.heap.size + 1 + 1 + 1) #[.slice r.A1 r.n1 r.c1, .slice r.A2 r.n2 r.c2, .int .i64 (s : Int), .slice r.A3 r.n3 r.c3] rfl hd0 hd0 false false rfl rfl rfl R3.out R4.out R5.out) rfl ⟨rfl, BE.out⟩
set_option maxRecDepth 100000 in
set_option maxHeartbeats 8000000 in
theorem rboth_f0 {w : World} {r : Rp} {R : Rf} {z : Nat} (h : RefAt w r R z) (s : Nat) (hs : s ≤ 99990) (hz2 : 2 ≤ z) (hf0 : (s : Int) ∈ R.fl) :
    Calls Try.prog 19 #[r.val s] w fun e w' => e = .returned (.tuple #[r.val (s + 1), .agg (cs2 hd0 hd0).toArray, .agg #[.bool false, .bool false], .int .i64 120]) ∧ Below w.heap.size w w' := by
  have hz := z43
  have hz52 := z52
  have hz53 := z53
  have hz47 := z47
  obtain ⟨s1, hs1⟩ : ∃ s1, s + 1 = s1 := ⟨_, rfl⟩
  have RD0 := Lib.hid (fun (W : World) (h : RefAt W r R z) => show Calls Try.prog 47 #[r.val s, .int .i64 0] W fun e w' => e = .returned (.tuple #[r.val s1, sec zs, .int .i64 120]) ∧ Below W.heap.size W w' from by
    have := rread_fails h s (by omega) 0 (by omega) (by omega) hf0
    rw [hs1] at this
    exact this)
  rw [hs1]
  have z2 : decide ((z : Int) < 2) = false := decide_eq_false (by omega)
  have z2' : decide (z < 2) = false := decide_eq_false (by omega)
  have n9 : (bv zs).length = 512 := by rw [bv_length, zs_length]
  have A0 := Lib.hid (rt_new s h)
  clear h hs hz2 hf0 hs1
  go_enter Try.func19, Try.ntmps19
  go_wp2_with fail
  generalize (((((w.alloc (.cells #[.slice r.A1 r.n1 r.c1, .slice r.A2 r.n2 r.c2, .int .i64 (s : Int), .slice r.A3 r.n3 r.c3] 33)).alloc (.cells #[.slice none 0 0, .slice none 0 0, .int .i64 0, .slice none 0 0] 33)).alloc (.cells (cs2 hd0 hd0).toArray 49)).alloc (.cells #[.bool false, .bool false] 50)).alloc (.cells (cs2 hd0 hd0).toArray 49)).alloc (.cells #[.bool false, .bool false] 50) = W at A0 ⊢
  go_wp2_with (first
    | (refine wpList_load_mid rfl 33 (.tmp 1) rfl w.heap.size 0 rfl [.slice r.A1 r.n1 r.c1, .slice r.A2 r.n2 r.c2, .int .i64 (s : Int), .slice r.A3 r.n3 r.c3] _ (Blk.rangeAt A0.out.d1) Try.underlying33 rfl size43 ?_)
    | (go_at_call 32; refine (rsize_any A0.out.rf s).mono ?_; rintro e W1 ⟨rfl, hb⟩; have A1 := Lib.hid (A0.out.next hb); clear hb A0))
  go_loopw [8] (fun i wr => (i = .int .i64 0 ∧ Rt w r R s z hd0 hd0 false false wr)) (fun i _ => 2 - (intOf i).toNat)
  case atStart => exact ⟨rfl, A1.out⟩
  case round =>
    clear A1
    obtain ⟨rfl, hbt⟩ := hrel
    · have A := Lib.hid hbt
      clear hbt
      go_wp2_with (first
        | (refine wpList_load_mid rfl 33 (.tmp 1) rfl w.heap.size 0 rfl [.slice r.A1 r.n1 r.c1, .slice r.A2 r.n2 r.c2, .int .i64 (s : Int), .slice r.A3 r.n3 r.c3] _ (Blk.rangeAt A.out.d1) Try.underlying33 rfl size43 ?_)
        | (go_at_call 47; refine (RD0.out _ A.out.rf).mono ?_; rintro e W1 ⟨rfl, hb⟩; have Aa := Lib.hid (A.out.next hb); have GG := Lib.hid (show w.heap.size + 1 + 1 + 1 + 1 + 1 < W1.heap.size from Aa.out.d7.lt); have G9 := Lib.hid ((Blk.new W1 33 #[.slice none 0 0, .slice none 0 0, .int .i64 0, .slice none 0 0]).alloc (.cells (bv zs).toArray 56)); have G10 := Lib.hid (blk_new1 W1 (.cells #[.slice none 0 0, .slice none 0 0, .int .i64 0, .slice none 0 0] 33) 56 (bv zs).toArray); have Ab := Lib.hid ((Aa.out.alloc (.cells #[.slice none 0 0, .slice none 0 0, .int .i64 0, .slice none 0 0] 33)).alloc (.cells (bv zs).toArray 56)); clear hb A Aa)
        | (refine wpList_store_g8 rfl 33 (.tmp 9) (.tmp 26) rfl (g := W1.heap.size) (by rfl) #[.slice r.A1 r.n1 r.c1, .slice r.A2 r.n2 r.c2, .int .i64 (s1 : Int), .slice r.A3 r.n3 r.c3] #[.slice none 0 0, .slice none 0 0, .int .i64 0, .slice none 0 0] 33 (by rfl) G9.out (size43c8 _ _ _ _) rfl (one43c8 _ _ _ _ _ _ _ _ _) ?_; intro W2 g2 f2; have H9 := Lib.hid g2; have H10 := Lib.hid (f2.keepBlk G10.out (by omega)); have Ac := Lib.hid (Ab.out.far f2 GG.out); clear g2 f2 G9 G10 Ab)
        | (refine wpList_store_g8 rfl 56 (.tmp 10) (.tmp 27) rfl (g := W1.heap.size + 1) (by rfl) (bv zs).toArray (bv zs).toArray 56 (by rfl) H10.out (by rw [List.size_toArray, n9]; exact size47) rfl (bv_ones8 _) ?_; intro W3 g3 f3; have J9 := Lib.hid (f3.keepBlk H9.out (by omega)); have Ad := Lib.hid (Ac.out.far f3 (by have := GG.out; omega)); clear g3 f3 H9 H10 Ac)
        | (refine wpList_load_mid rfl 33 (.tmp 9) rfl W1.heap.size 0 rfl [.slice r.A1 r.n1 r.c1, .slice r.A2 r.n2 r.c2, .int .i64 (s1 : Int), .slice r.A3 r.n3 r.c3] _ (Blk.rangeAt J9.out) Try.underlying33 rfl size43 ?_)
        | (refine wpList_store_g8 rfl 33 (.tmp 1) (.tmp 29) rfl (g := w.heap.size) (by rfl) #[.slice r.A1 r.n1 r.c1, .slice r.A2 r.n2 r.c2, .int .i64 (s1 : Int), .slice r.A3 r.n3 r.c3] #[.slice r.A1 r.n1 r.c1, .slice r.A2 r.n2 r.c2, .int .i64 (s : Int), .slice r.A3 r.n3 r.c3] 33 (by rfl) Ad.out.d1 (size43c8 _ _ _ _) rfl (one43c8 _ _ _ _ _ _ _ _ _) ?_; intro W4 g4 f4; have Ae := Lib.hid (Ad.out.put1 f4 g4); clear g4 f4 J9 Ad)
        | (refine wpList_load_mid rfl 33 (.tmp 1) rfl w.heap.size 0 rfl [.slice r.A1 r.n1 r.c1, .slice r.A2 r.n2 r.c2, .int .i64 (s1 : Int), .slice r.A3 r.n3 r.c3] _ (Blk.rangeAt Ae.out.d1) Try.underlying33 rfl size43 ?_)
        | (refine wpList_store_g8 rfl 33 (.tmp 2) (.tmp 32) rfl (g := w.heap.size + 1) (by rfl) #[.slice r.A1 r.n1 r.c1, .slice r.A2 r.n2 r.c2, .int .i64 (s1 : Int), .slice r.A3 r.n3 r.c3] #[.slice none 0 0, .slice none 0 0, .int .i64 0, .slice none 0 0] 33 (by rfl) Ae.out.d2 (size43c8 _ _ _ _) rfl (one43c8 _ _ _ _ _ _ _ _ _) ?_; intro W5 g5 f5; have R3 := Lib.hid g5; have D3 := Lib.hid (f5.keepBlk Ae.out.d3 (by omega)); have D4 := Lib.hid (f5.keepBlk Ae.out.d4 (by omega)); have BE := Lib.hid (Ae.out.be.trans (f5.to_below (fun k e => by omega) Ae.out.be.size)); clear g5 f5 Ae)
        | (refine wpList_store_g8 rfl 49 (.tmp 3) (.tmp 33) rfl (g := w.heap.size + 1 + 1) (by rfl) (cs2 hd0 hd0).toArray (cs2 hd0 hd0).toArray 49 (by rfl) D3.out (by kernel_rfl) rfl (cs2_one _ _) ?_; intro W6 g6 f6; have R4 := Lib.hid g6; have R3b := Lib.hid (f6.keepBlk R3.out (by omega)); have D4b := Lib.hid (f6.keepBlk D4.out (by omega)); have BEb := Lib.hid (BE.out.trans (f6.to_below (fun k e => by omega) BE.out.size)); clear g6 f6 D3 D4 R3 BE)
        | (refine wpList_store_g8 rfl 50 (.tmp 4) (.tmp 34) rfl (g := w.heap.size + 1 + 1 + 1) (by rfl) #[.bool false, .bool false] #[.bool false, .bool false] 50 (by rfl) D4b.out (by kernel_rfl) rfl (by simp [Value.oneCell']) ?_; intro W7 g7 f7; have R5 := Lib.hid g7; have R3c := Lib.hid (f7.keepBlk R3b.out (by omega)); have R4c := Lib.hid (f7.keepBlk R4.out (by omega)); have BEc := Lib.hid (BEb.out.trans (f7.to_below (fun k e => by omega) BEb.out.size)); clear g7 f7 D4b R3b R4 BEb))
      exact bodyPost_ret (results_rboth rfl _ _ (w.heap.size + 1) (w.heap.size + 1 + 1) (w.heap.size + 1 + 1 + 1) #[.slice r.A1 r.n1 r.c1, .slice r.A2 r.n2 r.c2, .int .i64 (s1 : Int), .slice r.A3 r.n3 r.c3] rfl hd0 hd0 false false rfl rfl rfl R3c.out R4c.out R5.out) rfl ⟨rfl, BEc.out⟩
set_option maxRecDepth 100000 in
set_option maxHeartbeats 8000000 in
theorem rboth_f1 {w : World} {r : Rp} {R : Rf} {z : Nat} (h : RefAt w r R z) (s : Nat) (hs : s ≤ 99990) (hz2 : 2 ≤ z) (hf0 : ¬ (s : Int) ∈ R.fl) (hf1 : ((s : Int) + 1) ∈ R.fl) :
    Calls Try.prog 19 #[r.val s] w fun e w' => e = .returned (.tuple #[r.val (s + 2), .agg (cs2 hd0 hd0).toArray, .agg #[.bool false, .bool false], .int .i64 120]) ∧ Below w.heap.size w w' := by
  have hz := z43
  have hz52 := z52
  have hz53 := z53
  have hz47 := z47
  obtain ⟨l0, hl0⟩ : ∃ l, (readL (chunk R.lb 0) 0 R.ws) = l := ⟨_, rfl⟩
  have L0 := Lib.hid (show l0.length = 512 from by rw [← hl0]; exact readL_length _ R.ws _ (h.chunk_len _ (by omega)) (fun x hx => (h.wl x hx).1))
  obtain ⟨s1, hs1⟩ : ∃ s1, s + 1 = s1 := ⟨_, rfl⟩
  obtain ⟨s2, hs2⟩ : ∃ s2, s1 + 1 = s2 := ⟨_, rfl⟩
  have RD0 := Lib.hid (fun (W : World) (h : RefAt W r R z) => show Calls Try.prog 47 #[r.val s, .int .i64 0] W fun e w' => e = .returned (.tuple #[r.val s1, sec l0, .int .i64 0]) ∧ Below W.heap.size W w' from by
    have := rread_goes h s (by omega) 0 (by omega) hf0
    rw [hl0, hs1] at this
    exact this)
  have RD1 := Lib.hid (fun (W : World) (h : RefAt W r R z) => show Calls Try.prog 47 #[r.val s1, .int .i64 1] W fun e w' => e = .returned (.tuple #[r.val s2, sec zs, .int .i64 120]) ∧ Below W.heap.size W w' from by
    have := rread_fails h s1 (by omega) 1 (by omega) (by omega) (by rw [← hs1]; simpa using hf1)
    rw [hs2] at this
    exact this)
  rw [show s + 2 = s2 by omega]
  obtain ⟨g0, hg0⟩ : ∃ g, gotH z l0 = g := ⟨_, rfl⟩
  obtain ⟨a, ha⟩ : ∃ g, gotB z l0 = g := ⟨_, rfl⟩
  have OF0 := Lib.hid (fun W : World => show Calls Try.prog 48 #[sec l0, .int .i64 (z : Int)] W fun e w' => e = .returned (.tuple #[g0.val, .bool a]) ∧ Below W.heap.size W w' from by rw [← hg0, ← ha]; exact rof_any l0 L0.out z)
  have n0 : (bv l0).length = 512 := by rw [bv_length, L0.out]
  have z2 : decide ((z : Int) < 2) = false := decide_eq_false (by omega)
  have z2' : decide (z < 2) = false := decide_eq_false (by omega)
  have n9 : (bv zs).length = 512 := by rw [bv_length, zs_length]
  have A0 := Lib.hid (rt_new s h)
  clear h hs hz2 hf0 hf1 hl0 hs1 hs2 hg0 ha
  go_enter Try.func19, Try.ntmps19
  go_wp2_with fail
  generalize (((((w.alloc (.cells #[.slice r.A1 r.n1 r.c1, .slice r.A2 r.n2 r.c2, .int .i64 (s : Int), .slice r.A3 r.n3 r.c3] 33)).alloc (.cells #[.slice none 0 0, .slice none 0 0, .int .i64 0, .slice none 0 0] 33)).alloc (.cells (cs2 hd0 hd0).toArray 49)).alloc (.cells #[.bool false, .bool false] 50)).alloc (.cells (cs2 hd0 hd0).toArray 49)).alloc (.cells #[.bool false, .bool false] 50) = W at A0 ⊢
  go_wp2_with (first
    | (refine wpList_load_mid rfl 33 (.tmp 1) rfl w.heap.size 0 rfl [.slice r.A1 r.n1 r.c1, .slice r.A2 r.n2 r.c2, .int .i64 (s : Int), .slice r.A3 r.n3 r.c3] _ (Blk.rangeAt A0.out.d1) Try.underlying33 rfl size43 ?_)
    | (go_at_call 32; refine (rsize_any A0.out.rf s).mono ?_; rintro e W1 ⟨rfl, hb⟩; have A1 := Lib.hid (A0.out.next hb); clear hb A0))
  go_loopw [8] (fun i wr => (i = .int .i64 0 ∧ Rt w r R s z hd0 hd0 false false wr) ∨ (i = .int .i64 1 ∧ Rt w r R s1 z g0 hd0 a false wr)) (fun i _ => 2 - (intOf i).toNat)
  case atStart => exact .inl ⟨rfl, A1.out⟩
  case round =>
    clear A1
    rcases hrel with ⟨rfl, hbt⟩ | ⟨rfl, hbt⟩
    · have A := Lib.hid hbt
      clear hbt
      go_wp2_with (first
        | (refine wpList_load_mid rfl 33 (.tmp 1) rfl w.heap.size 0 rfl [.slice r.A1 r.n1 r.c1, .slice r.A2 r.n2 r.c2, .int .i64 (s : Int), .slice r.A3 r.n3 r.c3] _ (Blk.rangeAt A.out.d1) Try.underlying33 rfl size43 ?_)
        | (go_at_call 47; refine (RD0.out _ A.out.rf).mono ?_; rintro e W1 ⟨rfl, hb⟩; have Aa := Lib.hid (A.out.next hb); have GG := Lib.hid (show w.heap.size + 1 + 1 + 1 + 1 + 1 < W1.heap.size from Aa.out.d7.lt); have G9 := Lib.hid ((Blk.new W1 33 #[.slice none 0 0, .slice none 0 0, .int .i64 0, .slice none 0 0]).alloc (.cells (bv zs).toArray 56)); have G10 := Lib.hid (blk_new1 W1 (.cells #[.slice none 0 0, .slice none 0 0, .int .i64 0, .slice none 0 0] 33) 56 (bv zs).toArray); have Ab := Lib.hid ((Aa.out.alloc (.cells #[.slice none 0 0, .slice none 0 0, .int .i64 0, .slice none 0 0] 33)).alloc (.cells (bv zs).toArray 56)); clear hb A Aa)
        | (refine wpList_store_g8 rfl 33 (.tmp 9) (.tmp 26) rfl (g := W1.heap.size) (by rfl) #[.slice r.A1 r.n1 r.c1, .slice r.A2 r.n2 r.c2, .int .i64 (s1 : Int), .slice r.A3 r.n3 r.c3] #[.slice none 0 0, .slice none 0 0, .int .i64 0, .slice none 0 0] 33 (by rfl) G9.out (size43c8 _ _ _ _) rfl (one43c8 _ _ _ _ _ _ _ _ _) ?_; intro W2 g2 f2; have H9 := Lib.hid g2; have H10 := Lib.hid (f2.keepBlk G10.out (by omega)); have Ac := Lib.hid (Ab.out.far f2 GG.out); clear g2 f2 G9 G10 Ab)
        | (refine wpList_store_g8 rfl 56 (.tmp 10) (.tmp 27) rfl (g := W1.heap.size + 1) (by rfl) (bv l0).toArray (bv zs).toArray 56 (by rfl) H10.out (by rw [List.size_toArray, n0]; exact size47) (by simp only [List.size_toArray, bv_length, L0.out, zs_length]) (bv_ones8 _) ?_; intro W3 g3 f3; have J10 := Lib.hid g3; have J9 := Lib.hid (f3.keepBlk H9.out (by omega)); have Ad := Lib.hid (Ac.out.far f3 (by have := GG.out; omega)); clear g3 f3 H9 H10 Ac)
        | (refine wpList_load_mid rfl 33 (.tmp 9) rfl W1.heap.size 0 rfl [.slice r.A1 r.n1 r.c1, .slice r.A2 r.n2 r.c2, .int .i64 (s1 : Int), .slice r.A3 r.n3 r.c3] _ (Blk.rangeAt J9.out) Try.underlying33 rfl size43 ?_)
        | (refine wpList_store_g8 rfl 33 (.tmp 1) (.tmp 29) rfl (g := w.heap.size) (by rfl) #[.slice r.A1 r.n1 r.c1, .slice r.A2 r.n2 r.c2, .int .i64 (s1 : Int), .slice r.A3 r.n3 r.c3] #[.slice r.A1 r.n1 r.c1, .slice r.A2 r.n2 r.c2, .int .i64 (s : Int), .slice r.A3 r.n3 r.c3] 33 (by rfl) Ad.out.d1 (size43c8 _ _ _ _) rfl (one43c8 _ _ _ _ _ _ _ _ _) ?_; intro W4 g4 f4; have M10 := Lib.hid (blk_drew (f4.keepBlk J10.out (by have := GG.out; omega))); have Ae := Lib.hid (Rt.drew (Ad.out.put1 f4 g4)); clear g4 f4 J9 J10 Ad))
      refine wp_region_only (S := fun w' => Blk w' (W1.heap.size + 1) 56 (bv l0).toArray ∧ Blk w' w.heap.size 33 #[.slice r.A1 r.n1 r.c1, .slice r.A2 r.n2 r.c2, .int .i64 (s1 : Int), .slice r.A3 r.n3 r.c3]) (by kernel_rfl) ⟨M10.out, Ae.out.d1⟩ (fun hHeld => ?_)
      refine wpAnyH_take (i := 0) (v := ?v1) rfl (by kernel_rfl) (by kernel_rfl) (by kernel_rfl) (fun _ _ _ h => h) (Or.inl ⟨by rfl, ?hy1⟩) hHeld ?rest1
      case hy1 =>
        intro w' hSw
        try dsimp only at hSw
        go_simp
        first | done | with_reducible rfl
      try simp only [Act.put, List.getElem_toArray, List.getElem_cons_zero, List.setIfInBounds_toArray, List.set_cons_zero, List.set_cons_succ]
      refine wpAnyH_take (i := 1) (v := ?v2) rfl (by kernel_rfl) (by kernel_rfl) (by kernel_rfl) (fun _ _ _ h => h) (Or.inl ⟨by rfl, ?hy2⟩) hHeld ?rest2
      case hy2 =>
        intro w' hSw
        try dsimp only at hSw
        go_simp
        first | done | with_reducible rfl
      try simp only [Act.put, List.getElem_toArray, List.getElem_cons_succ, List.getElem_cons_zero, List.setIfInBounds_toArray, List.set_cons_zero, List.set_cons_succ]
      refine wpAnyH_take (i := 2) rfl (by kernel_rfl) (by kernel_rfl) (by kernel_rfl) (fun _ _ _ h => h) (yieldsIf_load_mid (by rfl) 56 (.tmp 10) (by rfl) (W1.heap.size + 1) 0 (by rfl) (bv l0) _ (fun w' hSw => Blk.rangeAt (l := bv l0) hSw.1) Try.underlying56 rfl (by rw [n0]; exact size47)) hHeld ?_
      try simp only [Act.put, List.getElem_toArray, List.getElem_cons_succ, List.getElem_cons_zero, List.setIfInBounds_toArray, List.set_cons_zero, List.set_cons_succ]
      refine wpAnyH_take (i := 3) rfl (by kernel_rfl) (by kernel_rfl) (by kernel_rfl) (fun _ _ _ h => h) (yieldsIf_load_mid (by rfl) 33 (.tmp 1) (by rfl) w.heap.size 0 (by rfl) [.slice r.A1 r.n1 r.c1, .slice r.A2 r.n2 r.c2, .int .i64 (s1 : Int), .slice r.A3 r.n3 r.c3] _ (fun w' hSw => Blk.rangeAt hSw.2) Try.underlying33 rfl size43) hHeld ?_
      try simp only [Act.put, List.getElem_toArray, List.getElem_cons_succ, List.getElem_cons_zero, List.setIfInBounds_toArray, List.set_cons_zero, List.set_cons_succ]
      refine wpAnyH_ready (rs := [4]) (by kernel_rfl) (by simp) ?_
      refine AllReadyH.cons (by rfl) (fun K hK => ?_) AllReadyH.nil
      go_simp
      refine (rsize_any Ae.out.rf s1).mono ?_
      rintro e w4 ⟨rfl, hb⟩
      have M10 := Lib.hid (M10.out.below hb M10.out.lt)
      have Ae := Lib.hid (Ae.out.next hb)
      clear hb hHeld
      refine hK.out _ _ ⟨M10.out, Ae.out.d1⟩ (fun hHeld => ?_)
      clear hK K
      try simp only [Act.put, List.getElem_toArray, List.getElem_cons_succ, List.getElem_cons_zero, List.setIfInBounds_toArray, List.set_cons_zero, List.set_cons_succ]
      refine wpAnyH_ready (rs := [5]) (by kernel_rfl) (by simp) ?_
      refine AllReadyH.cons (by rfl) (fun K hK => ?_) AllReadyH.nil
      go_simp
      refine (OF0.out _).mono ?_
      rintro e w5 ⟨rfl, hb⟩
      have M10 := Lib.hid (M10.out.below hb M10.out.lt)
      have Ae := Lib.hid (Ae.out.next hb)
      clear hb hHeld
      refine hK.out _ _ ⟨M10.out, Ae.out.d1⟩ (fun hHeld => ?_)
      clear hK K
      try simp only [Act.put, List.getElem_toArray, List.getElem_cons_succ, List.getElem_cons_zero, List.setIfInBounds_toArray, List.set_cons_zero, List.set_cons_succ]
      refine wpAnyH_take (i := 6) (v := ?v3) rfl (by kernel_rfl) (by kernel_rfl) (by kernel_rfl) (fun _ _ _ h => h) (Or.inl ⟨by rfl, ?hy3⟩) hHeld ?rest3
      case hy3 =>
        intro w' hSw
        try dsimp only at hSw
        go_simp
        first | done | with_reducible rfl
      try simp only [Act.put, List.getElem_toArray, List.getElem_cons_succ, List.getElem_cons_zero, List.setIfInBounds_toArray, List.set_cons_zero, List.set_cons_succ]
      refine wpAnyH_take (i := 7) (v := ?v4) rfl (by kernel_rfl) (by kernel_rfl) (by kernel_rfl) (fun _ _ _ h => h) (Or.inl ⟨by rfl, ?hy4⟩) hHeld ?rest4
      case hy4 =>
        intro w' hSw
        try dsimp only at hSw
        go_simp
        first | done | with_reducible rfl
      try simp only [Act.put, List.getElem_toArray, List.getElem_cons_succ, List.getElem_cons_zero, List.setIfInBounds_toArray, List.set_cons_zero, List.set_cons_succ]
      refine wpAnyH_take (i := 8) (v := ?v5) rfl (by kernel_rfl) (by kernel_rfl) (by kernel_rfl) (fun _ _ _ h => h) (Or.inl ⟨by rfl, ?hy5⟩) hHeld ?rest5
      case hy5 =>
        intro w' hSw
        try dsimp only at hSw
        go_simp
        first | done | with_reducible rfl
      try simp only [Act.put, List.getElem_toArray, List.getElem_cons_succ, List.getElem_cons_zero, List.setIfInBounds_toArray, List.set_cons_zero, List.set_cons_succ]
      refine wpAnyH_take (i := 9) (v := ?v6) rfl (by kernel_rfl) (by kernel_rfl) (by kernel_rfl) (fun _ _ _ h => h) (Or.inl ⟨by rfl, ?hy6⟩) hHeld ?rest6
      case hy6 =>
        intro w' hSw
        try dsimp only at hSw
        go_simp
        first | done | with_reducible rfl
      try simp only [Act.put, List.getElem_toArray, List.getElem_cons_succ, List.getElem_cons_zero, List.setIfInBounds_toArray, List.set_cons_zero, List.set_cons_succ]
      refine wpAnyH_ready (rs := [10]) (by kernel_rfl) (by simp) ?_
      refine AllReadyH.cons (by rfl) (fun K hK => ?_) AllReadyH.nil
      refine step_store_mid8 (off := 0) (l := cs2 hd0 hd0) (ys := Hd.cs g0) rfl 28 (.tmp 45) (.tmp 43) rfl Ae.out.d6 (by rfl) (by rfl) (by simp [cs2]) (size23 _) (by simp [Value.oneCell']) ?_
      intro W6 j6 f6
      have M10 := Lib.hid (f6.keepBlk M10.out (by have := GG.out; omega))
      have Af := Lib.hid (Ae.out.put6 (u0 := g0) (u1 := hd0) f6 j6)
      clear j6 f6 hHeld
      refine hK.out _ _ ⟨M10.out, Af.out.d1⟩ (fun hHeld => ?_)
      clear hK K
      try simp only [Act.put, List.getElem_toArray, List.getElem_cons_succ, List.getElem_cons_zero]
      refine wpAnyH_take (i := 11) (v := ?v7) rfl (by kernel_rfl) (by kernel_rfl) (by kernel_rfl) (fun _ _ _ h => h) (Or.inl ⟨by rfl, ?hy7⟩) hHeld ?rest7
      case hy7 =>
        intro w' hSw
        try dsimp only at hSw
        go_simp
        first | done | with_reducible rfl
      try simp only [Act.put, List.getElem_toArray, List.getElem_cons_succ, List.getElem_cons_zero, List.setIfInBounds_toArray, List.set_cons_zero, List.set_cons_succ]
      refine wpAnyH_ready (rs := [12]) (by kernel_rfl) (by simp) ?_
      refine AllReadyH.cons (by rfl) (fun K hK => ?_) AllReadyH.nil
      refine step_store_bool8 (off := 0) (l := [.bool false, .bool false]) rfl 4 (.tmp 46) (.tmp 44) rfl Af.out.d7 (by rfl) a (by rfl) (by simp) (by kernel_rfl) ?_
      intro W7 j7 f7
      have M10 := Lib.hid (f7.keepBlk M10.out (by have := GG.out; omega))
      have Ag := Lib.hid (Af.out.put7 (u0 := a) (u1 := false) f7 j7)
      clear j7 f7 hHeld
      refine hK.out _ _ ⟨M10.out, Ag.out.d1⟩ (fun hHeld => ?_)
      clear hK K
      try simp only [Act.put, List.getElem_toArray, List.getElem_cons_succ, List.getElem_cons_zero]
      refine wpAnyH_done (by kernel_rfl) ?_ _
      refine OnlyN.normal ?_
      clear hHeld
      go_wp2_with fail
      go_roundw
      case rel => exact .inr ⟨rfl, Ag.out⟩
      case measure => simp [intOf]
    · have A := Lib.hid hbt
      clear hbt
      go_wp2_with (first
        | (refine wpList_load_mid rfl 33 (.tmp 1) rfl w.heap.size 0 rfl [.slice r.A1 r.n1 r.c1, .slice r.A2 r.n2 r.c2, .int .i64 (s1 : Int), .slice r.A3 r.n3 r.c3] _ (Blk.rangeAt A.out.d1) Try.underlying33 rfl size43 ?_)
        | (go_at_call 47; refine (RD1.out _ A.out.rf).mono ?_; rintro e W1 ⟨rfl, hb⟩; have Aa := Lib.hid (A.out.next hb); have GG := Lib.hid (show w.heap.size + 1 + 1 + 1 + 1 + 1 < W1.heap.size from Aa.out.d7.lt); have G9 := Lib.hid ((Blk.new W1 33 #[.slice none 0 0, .slice none 0 0, .int .i64 0, .slice none 0 0]).alloc (.cells (bv zs).toArray 56)); have G10 := Lib.hid (blk_new1 W1 (.cells #[.slice none 0 0, .slice none 0 0, .int .i64 0, .slice none 0 0] 33) 56 (bv zs).toArray); have Ab := Lib.hid ((Aa.out.alloc (.cells #[.slice none 0 0, .slice none 0 0, .int .i64 0, .slice none 0 0] 33)).alloc (.cells (bv zs).toArray 56)); clear hb A Aa)
        | (refine wpList_store_g8 rfl 33 (.tmp 9) (.tmp 26) rfl (g := W1.heap.size) (by rfl) #[.slice r.A1 r.n1 r.c1, .slice r.A2 r.n2 r.c2, .int .i64 (s2 : Int), .slice r.A3 r.n3 r.c3] #[.slice none 0 0, .slice none 0 0, .int .i64 0, .slice none 0 0] 33 (by rfl) G9.out (size43c8 _ _ _ _) rfl (one43c8 _ _ _ _ _ _ _ _ _) ?_; intro W2 g2 f2; have H9 := Lib.hid g2; have H10 := Lib.hid (f2.keepBlk G10.out (by omega)); have Ac := Lib.hid (Ab.out.far f2 GG.out); clear g2 f2 G9 G10 Ab)
        | (refine wpList_store_g8 rfl 56 (.tmp 10) (.tmp 27) rfl (g := W1.heap.size + 1) (by rfl) (bv zs).toArray (bv zs).toArray 56 (by rfl) H10.out (by rw [List.size_toArray, n9]; exact size47) rfl (bv_ones8 _) ?_; intro W3 g3 f3; have J9 := Lib.hid (f3.keepBlk H9.out (by omega)); have Ad := Lib.hid (Ac.out.far f3 (by have := GG.out; omega)); clear g3 f3 H9 H10 Ac)
        | (refine wpList_load_mid rfl 33 (.tmp 9) rfl W1.heap.size 0 rfl [.slice r.A1 r.n1 r.c1, .slice r.A2 r.n2 r.c2, .int .i64 (s2 : Int), .slice r.A3 r.n3 r.c3] _ (Blk.rangeAt J9.out) Try.underlying33 rfl size43 ?_)
        | (refine wpList_store_g8 rfl 33 (.tmp 1) (.tmp 29) rfl (g := w.heap.size) (by rfl) #[.slice r.A1 r.n1 r.c1, .slice r.A2 r.n2 r.c2, .int .i64 (s2 : Int), .slice r.A3 r.n3 r.c3] #[.slice r.A1 r.n1 r.c1, .slice r.A2 r.n2 r.c2, .int .i64 (s1 : Int), .slice r.A3 r.n3 r.c3] 33 (by rfl) Ad.out.d1 (size43c8 _ _ _ _) rfl (one43c8 _ _ _ _ _ _ _ _ _) ?_; intro W4 g4 f4; have Ae := Lib.hid (Ad.out.put1 f4 g4); clear g4 f4 J9 Ad)
        | (refine wpList_load_mid rfl 33 (.tmp 1) rfl w.heap.size 0 rfl [.slice r.A1 r.n1 r.c1, .slice r.A2 r.n2 r.c2, .int .i64 (s2 : Int), .slice r.A3 r.n3 r.c3] _ (Blk.rangeAt Ae.out.d1) Try.underlying33 rfl size43 ?_)
        | (refine wpList_store_g8 rfl 33 (.tmp 2) (.tmp 32) rfl (g := w.heap.size + 1) (by rfl) #[.slice r.A1 r.n1 r.c1, .slice r.A2 r.n2 r.c2, .int .i64 (s2 : Int), .slice r.A3 r.n3 r.c3] #[.slice none 0 0, .slice none 0 0, .int .i64 0, .slice none 0 0] 33 (by rfl) Ae.out.d2 (size43c8 _ _ _ _) rfl (one43c8 _ _ _ _ _ _ _ _ _) ?_; intro W5 g5 f5; have R3 := Lib.hid g5; have D3 := Lib.hid (f5.keepBlk Ae.out.d3 (by omega)); have D4 := Lib.hid (f5.keepBlk Ae.out.d4 (by omega)); have BE := Lib.hid (Ae.out.be.trans (f5.to_below (fun k e => by omega) Ae.out.be.size)); clear g5 f5 Ae)
        | (refine wpList_store_g8 rfl 49 (.tmp 3) (.tmp 33) rfl (g := w.heap.size + 1 + 1) (by rfl) (cs2 hd0 hd0).toArray (cs2 hd0 hd0).toArray 49 (by rfl) D3.out (by kernel_rfl) rfl (cs2_one _ _) ?_; intro W6 g6 f6; have R4 := Lib.hid g6; have R3b := Lib.hid (f6.keepBlk R3.out (by omega)); have D4b := Lib.hid (f6.keepBlk D4.out (by omega)); have BEb := Lib.hid (BE.out.trans (f6.to_below (fun k e => by omega) BE.out.size)); clear g6 f6 D3 D4 R3 BE)
        | (refine wpList_store_g8 rfl 50 (.tmp 4) (.tmp 34) rfl (g := w.heap.size + 1 + 1 + 1) (by rfl) #[.bool false, .bool false] #[.bool false, .bool false] 50 (by rfl) D4b.out (by kernel_rfl) rfl (by simp [Value.oneCell']) ?_; intro W7 g7 f7; have R5 := Lib.hid g7; have R3c := Lib.hid (f7.keepBlk R3b.out (by omega)); have R4c := Lib.hid (f7.keepBlk R4.out (by omega)); have BEc := Lib.hid (BEb.out.trans (f7.to_below (fun k e => by omega) BEb.out.size)); clear g7 f7 D4b R3b R4 BEb))
      exact bodyPost_ret (results_rboth rfl _ _ (w.heap.size + 1) (w.heap.size + 1 + 1) (w.heap.size + 1 + 1 + 1) #[.slice r.A1 r.n1 r.c1, .slice r.A2 r.n2 r.c2, .int .i64 (s2 : Int), .slice r.A3 r.n3 r.c3] rfl hd0 hd0 false false rfl rfl rfl R3c.out R4c.out R5.out) rfl ⟨rfl, BEc.out⟩
end Go.Proofs.Ytcfkoglehjkkdaa
namespace Go.Proofs.Ytcfkoglehjkkdaa
open Go.RowKit
abbrev bK (R : Rf) (k : Nat) : List UInt8 := readL (chunk R.lb k) k R.ws
def bcNo (R : Rf) (s z : Nat) : Int := if z < 2 then 180 else if (s : Int) ∈ R.fl then 120 else if ((s : Int) + 1) ∈ R.fl then 120 else 0
def bcSt (R : Rf) (s z : Nat) : Nat := if z < 2 then s else if (s : Int) ∈ R.fl then s + 1 else s + 2
def bcDk (D : Dk) (R : Rf) (s z : Nat) : Dk := if z < 2 then D else if (s : Int) ∈ R.fl then D.stepped else D.stepped.stepped
def bcH (R : Rf) (s z k : Nat) : Hd := if bcNo R s z = 0 then gotH z (bK R k) else hd0
def bcB (R : Rf) (s z k : Nat) : Bool := if bcNo R s z = 0 then gotB z (bK R k) else false
section
variable {w : World} {R : Rf} {s z : Nat}
set_option maxRecDepth 8000 in
theorem rboth_any {r : Rp} (h : RefAt w r R z) (hs : s ≤ 99990) :
    Calls Try.prog 19 #[r.val s] w fun e w' => e = .returned (.tuple #[r.val (bcSt R s z), .agg (cs2 (bcH R s z 0) (bcH R s z 1)).toArray, .agg #[.bool (bcB R s z 0), .bool (bcB R s z 1)], .int .i64 (bcNo R s z)]) ∧ Below w.heap.size w w' := by
  unfold bcH bcB bcNo bcSt
  by_cases h1 : z < 2
  · simp only [if_pos h1]
    exact rboth_small h s h1
  · simp only [if_neg h1]
    by_cases h2 : (s : Int) ∈ R.fl
    · simp only [if_pos h2]
      exact rboth_f0 h s hs (by omega) h2
    · simp only [if_neg h2]
      by_cases h3 : ((s : Int) + 1) ∈ R.fl
      · simp only [if_pos h3]
        exact rboth_f1 h s hs (by omega) h2 h3
      · simp only [if_neg h3]
        exact rboth_ok h s hs (by omega) h2 h3
set_option maxRecDepth 8000 in
theorem both_dk {B p : Nat} {pl : Pl} {D : Dk} (hd : DiskAt w B p pl D) (ha : Alike D R s z) (hN : R.ws.length ≤ 1000000) (hs : s ≤ 99990) (hz : 1 ≤ z) :
    Calls Try.prog 20 #[.pointer (some ⟨p, 0, none⟩)] w fun e w' => e = .returned (.tuple #[.agg (cs2 (bcH R s z 0) (bcH R s z 1)).toArray, .agg #[.bool (bcB R s z 0), .bool (bcB R s z 1)], .int .i64 (bcNo R s z)]) ∧ DiskAt w' B p pl (bcDk D R s z) ∧ Fr (pl.has p) w w' ∧ Alike (bcDk D R s z) R (bcSt R s z) z := by
  have hnx := ha.next (by omega)
  have hnx1 := ha.stepped.next (by omega)
  have hwl : D.waits.length = R.ws.length := by rw [ha.waits]
  have hsz := ha.size
  have hst := ha.steps
  have hc : ((s + 1 : Nat) : Int) = (s : Int) + 1 := by omega
  rw [hc] at hnx1
  have L0 : (D.reads 0).length = 512 := readL_length _ _ _ (hd.lens 0) (fun x hx => (hd.wlens x hx).1)
  unfold bcH bcB bcNo bcSt bcDk
  by_cases h1 : z < 2
  · simp only [if_pos h1]
    refine (both_bad hd 180 rfl zs2 zs2_length (fun W hW => sectors_small hW (by omega))).mono ?_
    rintro e w' ⟨rfl, hd', hf'⟩
    exact ⟨rfl, hd', hf', ha⟩
  · simp only [if_neg h1]
    by_cases h2 : (s : Int) ∈ R.fl
    · simp only [if_pos h2]
      refine (both_bad hd 120 rfl _ (by rw [List.length_append, List.length_drop, zs_length, zs2_length]) (fun W hW => sectors_f0 hW (by omega) (by omega) (by omega) (by rw [hnx]; exact decide_eq_true h2))).mono ?_
      rintro e w' ⟨rfl, hd', hf'⟩
      exact ⟨rfl, hd', hf', ha.stepped⟩
    · simp only [if_neg h2]
      by_cases h3 : ((s : Int) + 1) ∈ R.fl
      · simp only [if_pos h3]
        refine (both_bad hd 120 rfl _ (by rw [List.length_append, L0, zs_length]) (fun W hW => sectors_f1 hW (by omega) (by omega) (by omega) (by rw [hnx]; exact decide_eq_false h2) (by rw [hnx1]; exact decide_eq_true h3))).mono ?_
        rintro e w' ⟨rfl, hd', hf'⟩
        exact ⟨rfl, hd', hf', ha.stepped.stepped⟩
      · simp only [if_neg h3]
        have e0 : D.reads 0 = bK R 0 := by
          unfold Dk.reads
          rw [ha.waits, ha.lasts 0 (by omega)]
        have e1 : D.reads 1 = bK R 1 := by
          unfold Dk.reads
          rw [ha.waits, ha.lasts 1 (by omega)]
        refine (both_ok hd (by omega) (by omega) (by omega) (by rw [hnx]; exact decide_eq_false h2) (by rw [hnx1]; exact decide_eq_false h3)).mono ?_
        rw [e0, e1, hsz]
        rintro e w' ⟨rfl, hd', hf'⟩
        exact ⟨rfl, hd', hf', ha.stepped.stepped⟩
set_option maxRecDepth 8000 in
theorem both_any {B p : Nat} {pl : Pl} {D : Dk} (hd : DiskAt w B p pl D) (ha : Alike D R s z) (hN : R.ws.length ≤ 1000000) (hs : s ≤ 99990) (hz : 1 ≤ z) :
    Calls Try.prog 20 #[.pointer (some ⟨p, 0, none⟩)] w fun e w' => e = .returned (.tuple #[.agg (cs2 (bcH R s z 0) (bcH R s z 1)).toArray, .agg #[.bool (bcB R s z 0), .bool (bcB R s z 1)], .int .i64 (bcNo R s z)]) ∧ ∃ D', DiskAt w' B p pl D' ∧ Fr (pl.has p) w w' ∧ Alike D' R (bcSt R s z) z := by
  refine (both_dk hd ha hN hs hz).mono ?_
  rintro e w' ⟨e1, h1, h2, h3⟩
  exact ⟨e1, _, h1, h2, h3⟩
end
end Go.Proofs.Ytcfkoglehjkkdaa
namespace Go.Proofs.Ytcfkoglehjkkdaa
open Go.RowKit Go.ChangeShapes Go.WideShapes Go.ChangeAt
attribute [local go_sem] Oper.semAt_some
set_option maxRecDepth 8000 in
theorem open_bytes8 {H : Type} {enc : TypeId × Value → H} {W : World} {base : Nat} {held : Bool} {d : DataW H} {p : List MemPlace} {r : Reach} {b0 : Nat} {v : Value} (hv : Value.okWide Try.prog W r b0 22 v) (h : DataW.Trod enc Try.prog W base (fun _ => true) held 22 v d p) :
    ∃ (A : Option Addr) (n c : Nat) (l : List UInt8), v = .slice A n c ∧ l.length = n ∧ Rd W A l := by
  obtain ⟨a0, len0, cap0, rfl⟩ := okWide_slice Try.underlying22 hv
  obtain ⟨fuel, hf⟩ := h
  obtain ⟨A, n, c, l, e, h1, h2⟩ := bytes_lie8 hf
  refine ⟨A, n, c, l, ?_, h1, h2⟩
  simpa [Value.cells] using e
theorem region_any8 {α : Type} {P : Program} {id : Nat} {ops : Array Oper} {Q : Exit → Act → World → Prop} {a : Act} {w : World} (F : Act → α → Act) (Fx : α → World → Prop) (H : (Code.region id ops true).wp P (fun e a' w' => ∃ g, e = .normal ∧ a' = F a g ∧ Fx g w') a w) (K : ∀ g W, Fx g W → Q .normal (F a g) W) : (Code.region id ops true).wp P Q a w :=
  Code.wp_mono (fun e a' w' ⟨g, e1, e2, e3⟩ => by subst e1 e2; exact K g w' e3) H
set_option maxRecDepth 8000 in
theorem step_alloc33 {ops : Array Oper} {o : Oper} {a : Act} {w : World} {K : Act → World → Prop} {Q : Exit → Act → World → Prop} {E : Prop} (hgd : o.guard = none) (ho : o.op = .alloc 33)
    (h : ∀ g w', g = w.heap.size → w' = w.alloc (.cells #[.slice none 0 0, .slice none 0 0, .int .i64 0, .slice none 0 0] 33) → K (a.put o.dst (.pointer (some ⟨g, 0, none⟩))) w') :
    if Region.wanted o (yielded ops a.tmps) = true then Oper.wp Try.prog o a w K Q else E := by
  have hw : Region.wanted o (yielded ops a.tmps) = true := by simp [Region.wanted, hgd]
  rw [if_pos hw]
  unfold Oper.wp
  simp [execOp, ho, Result.andThen]
  exact h _ _ rfl rfl
end Go.Proofs.Ytcfkoglehjkkdaa
namespace Go.Proofs.Ytcfkoglehjkkdaa
open Go.RowKit
attribute [local go_sem] Oper.semAt_some
set_option maxRecDepth 100000 in
set_option maxHeartbeats 4000000 in
theorem fore_second (h0 h1 : Hd) (w : World) : Calls Try.prog 45 #[.agg (cs2 h0 h1).toArray, .agg #[.bool false, .bool true], .func (.func 46) #[] #[]] w fun r w' => r = .returned (.tuple #[.int .i64 1, .bool true]) ∧ Below w.heap.size w w' := by
  have hi0 := index52_0 h0 h1
  have hi1 := index52_1 h0 h1
  have K0 := Lib.hid ((Blk.new w 49 (cs2 h0 h1).toArray).alloc (.cells #[.bool false, .bool true] 50))
  have T0 := Lib.hid (blk_new1 w (.cells (cs2 h0 h1).toArray 49) 50 #[.bool false, .bool true])
  have L0 := Lib.hid (((Below.refl w.heap.size w).alloc (Nat.le_refl _) (.cells (cs2 h0 h1).toArray 49)).alloc (by simp) (.cells #[.bool false, .bool true] 50))
  go_enter Try.func45, Try.ntmps45
  go_wp2_with (refine wpList_load_mid rfl 49 (.tmp 3) rfl w.heap.size 0 rfl (cs2 h0 h1) _ (Blk.rangeAt (l := cs2 h0 h1) K0.out) Try.underlying49 rfl (size52 _ _) ?_)
  generalize (w.alloc (.cells (cs2 h0 h1).toArray 49)).alloc (.cells #[.bool false, .bool true] 50) = W at K0 T0 L0 ⊢
  refine wp_loop_rounds 3 ?_
  rw [rounds_succ]
  replace K0 := Lib.hid (K0.out.alloc (.cells h0.cs.toArray 28))
  replace T0 := Lib.hid (T0.out.alloc (.cells h0.cs.toArray 28))
  replace L0 := Lib.hid (L0.out.alloc L0.out.size (.cells h0.cs.toArray 28))
  go_wp2_with fail
  generalize W.alloc (.cells h0.cs.toArray 28) = W1 at K0 T0 L0 ⊢
  refine wp_region_only (S := fun w' => w'.cell? ⟨w.heap.size + 1, 0, none⟩ = some (.bool false)) (by kernel_rfl) ((T0.out.cell 0).trans rfl) (fun hHeld => ?_)
  refine wpAnyH_take (i := 0) (v := ?v1) rfl (by kernel_rfl) (by kernel_rfl) (by kernel_rfl) (fun _ _ _ h => h) (Or.inl ⟨by rfl, ?hy1⟩) hHeld ?rest1
  case hy1 =>
    intro w' hSw
    try dsimp only at hSw
    go_simp
    first | done | with_reducible rfl
  try simp only [Act.put, List.getElem_toArray, List.getElem_cons_zero, List.setIfInBounds_toArray, List.set_cons_zero, List.set_cons_succ]
  refine wpAnyH_take (i := 1) (v := ?v2) rfl (by kernel_rfl) (by kernel_rfl) (by kernel_rfl) (fun _ _ _ h => h) (Or.inl ⟨by rfl, ?hy2⟩) hHeld ?rest2
  case hy2 =>
    intro w' hSw
    try dsimp only at hSw
    go_simp
    first | done | with_reducible rfl
  try simp only [Act.put, List.getElem_toArray, List.getElem_cons_succ, List.getElem_cons_zero, List.setIfInBounds_toArray, List.set_cons_zero, List.set_cons_succ]
  refine wpAnyH_take (i := 2) (v := ?v3) rfl (by kernel_rfl) (by kernel_rfl) (by kernel_rfl) (fun _ _ _ h => h) (Or.inl ⟨by rfl, ?hy3⟩) hHeld ?rest3
  case hy3 =>
    intro w' hSw
    try dsimp only at hSw
    go_simp
    first | done | with_reducible rfl
  try simp only [Act.put, List.getElem_toArray, List.getElem_cons_succ, List.getElem_cons_zero, List.setIfInBounds_toArray, List.set_cons_zero, List.set_cons_succ]
  refine wpAnyH_take (i := 3) (v := ?v4) rfl (by kernel_rfl) (by kernel_rfl) (by kernel_rfl) (fun _ _ _ h => h) (Or.inl ⟨by rfl, ?hy4⟩) hHeld ?rest4
  case hy4 =>
    intro w' hSw
    try dsimp only at hSw
    go_simp
    first | done | with_reducible rfl
  try simp only [Act.put, List.getElem_toArray, List.getElem_cons_succ, List.getElem_cons_zero, List.setIfInBounds_toArray, List.set_cons_zero, List.set_cons_succ]
  refine wpAnyH_take (i := 4) (v := undef) rfl (by kernel_rfl) (by kernel_rfl) (by kernel_rfl) (fun _ _ _ h => h) (Or.inr ⟨by rfl, rfl⟩) hHeld ?_
  try simp only [Act.put, List.getElem_toArray, List.getElem_cons_succ, List.getElem_cons_zero, List.setIfInBounds_toArray, List.set_cons_zero, List.set_cons_succ]
  refine wpAnyH_take (i := 5) (v := undef) rfl (by kernel_rfl) (by kernel_rfl) (by kernel_rfl) (fun _ _ _ h => h) (Or.inr ⟨by rfl, rfl⟩) hHeld ?_
  try simp only [Act.put, List.getElem_toArray, List.getElem_cons_succ, List.getElem_cons_zero, List.setIfInBounds_toArray, List.set_cons_zero, List.set_cons_succ]
  refine wpAnyH_take (i := 6) (v := undef) rfl (by kernel_rfl) (by kernel_rfl) (by kernel_rfl) (fun _ _ _ h => h) (Or.inr ⟨by rfl, rfl⟩) hHeld ?_
  try simp only [Act.put, List.getElem_toArray, List.getElem_cons_succ, List.getElem_cons_zero, List.setIfInBounds_toArray, List.set_cons_zero, List.set_cons_succ]
  refine wpAnyH_take (i := 7) (v := undef) rfl (by kernel_rfl) (by kernel_rfl) (by kernel_rfl) (fun _ _ _ h => h) (Or.inr ⟨by rfl, rfl⟩) hHeld ?_
  try simp only [Act.put, List.getElem_toArray, List.getElem_cons_succ, List.getElem_cons_zero, List.setIfInBounds_toArray, List.set_cons_zero, List.set_cons_succ]
  refine wpAnyH_take (i := 8) (v := undef) rfl (by kernel_rfl) (by kernel_rfl) (by kernel_rfl) (fun _ _ _ h => h) (Or.inr ⟨by rfl, rfl⟩) hHeld ?_
  try simp only [Act.put, List.getElem_toArray, List.getElem_cons_succ, List.getElem_cons_zero, List.setIfInBounds_toArray, List.set_cons_zero, List.set_cons_succ]
  refine wpAnyH_take (i := 9) (v := undef) rfl (by kernel_rfl) (by kernel_rfl) (by kernel_rfl) (fun _ _ _ h => h) (Or.inr ⟨by rfl, rfl⟩) hHeld ?_
  try simp only [Act.put, List.getElem_toArray, List.getElem_cons_succ, List.getElem_cons_zero, List.setIfInBounds_toArray, List.set_cons_zero, List.set_cons_succ]
  refine wpAnyH_take (i := 10) (v := undef) rfl (by kernel_rfl) (by kernel_rfl) (by kernel_rfl) (fun _ _ _ h => h) (Or.inr ⟨by rfl, rfl⟩) hHeld ?_
  try simp only [Act.put, List.getElem_toArray, List.getElem_cons_succ, List.getElem_cons_zero, List.setIfInBounds_toArray, List.set_cons_zero, List.set_cons_succ]
  refine wpAnyH_take (i := 11) (v := undef) rfl (by kernel_rfl) (by kernel_rfl) (by kernel_rfl) (fun _ _ _ h => h) (Or.inr ⟨by rfl, rfl⟩) hHeld ?_
  try simp only [Act.put, List.getElem_toArray, List.getElem_cons_succ, List.getElem_cons_zero, List.setIfInBounds_toArray, List.set_cons_zero, List.set_cons_succ]
  refine wpAnyH_take (i := 12) (v := undef) rfl (by kernel_rfl) (by kernel_rfl) (by kernel_rfl) (fun _ _ _ h => h) (Or.inr ⟨by rfl, rfl⟩) hHeld ?_
  try simp only [Act.put, List.getElem_toArray, List.getElem_cons_succ, List.getElem_cons_zero, List.setIfInBounds_toArray, List.set_cons_zero, List.set_cons_succ]
  refine wpAnyH_take (i := 13) (v := undef) rfl (by kernel_rfl) (by kernel_rfl) (by kernel_rfl) (fun _ _ _ h => h) (Or.inr ⟨by rfl, rfl⟩) hHeld ?_
  try simp only [Act.put, List.getElem_toArray, List.getElem_cons_succ, List.getElem_cons_zero, List.setIfInBounds_toArray, List.set_cons_zero, List.set_cons_succ]
  refine wpAnyH_take (i := 14) (v := undef) rfl (by kernel_rfl) (by kernel_rfl) (by kernel_rfl) (fun _ _ _ h => h) (Or.inr ⟨by rfl, rfl⟩) hHeld ?_
  try simp only [Act.put, List.getElem_toArray, List.getElem_cons_succ, List.getElem_cons_zero, List.setIfInBounds_toArray, List.set_cons_zero, List.set_cons_succ]
  refine wpAnyH_take (i := 15) (v := undef) rfl (by kernel_rfl) (by kernel_rfl) (by kernel_rfl) (fun _ _ _ h => h) (Or.inr ⟨by rfl, rfl⟩) hHeld ?_
  try simp only [Act.put, List.getElem_toArray, List.getElem_cons_succ, List.getElem_cons_zero, List.setIfInBounds_toArray, List.set_cons_zero, List.set_cons_succ]
  refine wpAnyH_take (i := 16) (v := undef) rfl (by kernel_rfl) (by kernel_rfl) (by kernel_rfl) (fun _ _ _ h => h) (Or.inr ⟨by rfl, rfl⟩) hHeld ?_
  try simp only [Act.put, List.getElem_toArray, List.getElem_cons_succ, List.getElem_cons_zero, List.setIfInBounds_toArray, List.set_cons_zero, List.set_cons_succ]
  refine wpAnyH_take (i := 17) (v := ?v5) rfl (by kernel_rfl) (by kernel_rfl) (by kernel_rfl) (fun _ _ _ h => h) (Or.inl ⟨by rfl, ?hy5⟩) hHeld ?rest5
  case hy5 =>
    intro w' hSw
    try dsimp only at hSw
    go_simp
    first | done | with_reducible rfl
  try simp only [Act.put, List.getElem_toArray, List.getElem_cons_succ, List.getElem_cons_zero, List.setIfInBounds_toArray, List.set_cons_zero, List.set_cons_succ]
  refine wpAnyH_done (by kernel_rfl) ?_ _
  refine OnlyN.normal ?_
  clear hHeld
  go_wp2_with fail
  rw [rounds_succ]
  have T1 := Lib.hid (blk_drew (blk_drew (T0.out.alloc (.cells h1.cs.toArray 28))))
  have L1 := Lib.hid ((L0.out.alloc L0.out.size (.cells h1.cs.toArray 28)).drew.drew)
  go_wp2_with fail
  refine wp_region_only (S := fun w' => w'.cell? ⟨w.heap.size + 1, 1, none⟩ = some (.bool true)) (by kernel_rfl) ((T1.out.cell 1).trans rfl) (fun hHeld => ?_)
  refine wpAnyH_take (i := 0) (v := ?v6) rfl (by kernel_rfl) (by kernel_rfl) (by kernel_rfl) (fun _ _ _ h => h) (Or.inl ⟨by rfl, ?hy6⟩) hHeld ?rest6
  case hy6 =>
    intro w' hSw
    try dsimp only at hSw
    go_simp
    first | done | with_reducible rfl
  try simp only [Act.put, List.getElem_toArray, List.getElem_cons_zero, List.setIfInBounds_toArray, List.set_cons_zero, List.set_cons_succ]
  refine wpAnyH_take (i := 1) (v := ?v7) rfl (by kernel_rfl) (by kernel_rfl) (by kernel_rfl) (fun _ _ _ h => h) (Or.inl ⟨by rfl, ?hy7⟩) hHeld ?rest7
  case hy7 =>
    intro w' hSw
    try dsimp only at hSw
    go_simp
    first | done | with_reducible rfl
  try simp only [Act.put, List.getElem_toArray, List.getElem_cons_succ, List.getElem_cons_zero, List.setIfInBounds_toArray, List.set_cons_zero, List.set_cons_succ]
  refine wpAnyH_take (i := 2) (v := ?v8) rfl (by kernel_rfl) (by kernel_rfl) (by kernel_rfl) (fun _ _ _ h => h) (Or.inl ⟨by rfl, ?hy8⟩) hHeld ?rest8
  case hy8 =>
    intro w' hSw
    try dsimp only at hSw
    go_simp
    first | done | with_reducible rfl
  try simp only [Act.put, List.getElem_toArray, List.getElem_cons_succ, List.getElem_cons_zero, List.setIfInBounds_toArray, List.set_cons_zero, List.set_cons_succ]
  refine wpAnyH_take (i := 3) (v := ?v9) rfl (by kernel_rfl) (by kernel_rfl) (by kernel_rfl) (fun _ _ _ h => h) (Or.inl ⟨by rfl, ?hy9⟩) hHeld ?rest9
  case hy9 =>
    intro w' hSw
    try dsimp only at hSw
    go_simp
    first | done | with_reducible rfl
  try simp only [Act.put, List.getElem_toArray, List.getElem_cons_succ, List.getElem_cons_zero, List.setIfInBounds_toArray, List.set_cons_zero, List.set_cons_succ]
  refine wpAnyH_take (i := 4) (v := ?v10) rfl (by kernel_rfl) (by kernel_rfl) (by kernel_rfl) (fun _ _ _ h => h) (Or.inl ⟨by rfl, ?hy10⟩) hHeld ?rest10
  case hy10 =>
    intro w' hSw
    try dsimp only at hSw
    go_simp
    first | done | with_reducible rfl
  try simp only [Act.put, List.getElem_toArray, List.getElem_cons_succ, List.getElem_cons_zero, List.setIfInBounds_toArray, List.set_cons_zero, List.set_cons_succ]
  refine wpAnyH_take (i := 5) (v := ?v11) rfl (by kernel_rfl) (by kernel_rfl) (by kernel_rfl) (fun _ _ _ h => h) (Or.inl ⟨by rfl, ?hy11⟩) hHeld ?rest11
  case hy11 =>
    intro w' hSw
    try dsimp only at hSw
    go_simp
    first | done | with_reducible rfl
  try simp only [Act.put, List.getElem_toArray, List.getElem_cons_succ, List.getElem_cons_zero, List.setIfInBounds_toArray, List.set_cons_zero, List.set_cons_succ]
  refine wpAnyH_take (i := 6) (v := ?v12) rfl (by kernel_rfl) (by kernel_rfl) (by kernel_rfl) (fun _ _ _ h => h) (Or.inl ⟨by rfl, ?hy12⟩) hHeld ?rest12
  case hy12 =>
    intro w' hSw
    try dsimp only at hSw
    go_simp
    first | done | with_reducible rfl
  try simp only [Act.put, List.getElem_toArray, List.getElem_cons_succ, List.getElem_cons_zero, List.setIfInBounds_toArray, List.set_cons_zero, List.set_cons_succ]
  refine wpAnyH_take (i := 7) (v := undef) rfl (by kernel_rfl) (by kernel_rfl) (by kernel_rfl) (fun _ _ _ h => h) (Or.inr ⟨by rfl, rfl⟩) hHeld ?_
  try simp only [Act.put, List.getElem_toArray, List.getElem_cons_succ, List.getElem_cons_zero, List.setIfInBounds_toArray, List.set_cons_zero, List.set_cons_succ]
  refine wpAnyH_take (i := 8) (v := undef) rfl (by kernel_rfl) (by kernel_rfl) (by kernel_rfl) (fun _ _ _ h => h) (Or.inr ⟨by rfl, rfl⟩) hHeld ?_
  try simp only [Act.put, List.getElem_toArray, List.getElem_cons_succ, List.getElem_cons_zero, List.setIfInBounds_toArray, List.set_cons_zero, List.set_cons_succ]
  refine wpAnyH_take (i := 9) (v := undef) rfl (by kernel_rfl) (by kernel_rfl) (by kernel_rfl) (fun _ _ _ h => h) (Or.inr ⟨by rfl, rfl⟩) hHeld ?_
  try simp only [Act.put, List.getElem_toArray, List.getElem_cons_succ, List.getElem_cons_zero, List.setIfInBounds_toArray, List.set_cons_zero, List.set_cons_succ]
  refine wpAnyH_take (i := 10) (v := undef) rfl (by kernel_rfl) (by kernel_rfl) (by kernel_rfl) (fun _ _ _ h => h) (Or.inr ⟨by rfl, rfl⟩) hHeld ?_
  try simp only [Act.put, List.getElem_toArray, List.getElem_cons_succ, List.getElem_cons_zero, List.setIfInBounds_toArray, List.set_cons_zero, List.set_cons_succ]
  refine wpAnyH_take (i := 11) (v := undef) rfl (by kernel_rfl) (by kernel_rfl) (by kernel_rfl) (fun _ _ _ h => h) (Or.inr ⟨by rfl, rfl⟩) hHeld ?_
  try simp only [Act.put, List.getElem_toArray, List.getElem_cons_succ, List.getElem_cons_zero, List.setIfInBounds_toArray, List.set_cons_zero, List.set_cons_succ]
  refine wpAnyH_take (i := 12) (v := undef) rfl (by kernel_rfl) (by kernel_rfl) (by kernel_rfl) (fun _ _ _ h => h) (Or.inr ⟨by rfl, rfl⟩) hHeld ?_
  try simp only [Act.put, List.getElem_toArray, List.getElem_cons_succ, List.getElem_cons_zero, List.setIfInBounds_toArray, List.set_cons_zero, List.set_cons_succ]
  refine wpAnyH_take (i := 13) (v := undef) rfl (by kernel_rfl) (by kernel_rfl) (by kernel_rfl) (fun _ _ _ h => h) (Or.inr ⟨by rfl, rfl⟩) hHeld ?_
  try simp only [Act.put, List.getElem_toArray, List.getElem_cons_succ, List.getElem_cons_zero, List.setIfInBounds_toArray, List.set_cons_zero, List.set_cons_succ]
  refine wpAnyH_take (i := 14) (v := undef) rfl (by kernel_rfl) (by kernel_rfl) (by kernel_rfl) (fun _ _ _ h => h) (Or.inr ⟨by rfl, rfl⟩) hHeld ?_
  try simp only [Act.put, List.getElem_toArray, List.getElem_cons_succ, List.getElem_cons_zero, List.setIfInBounds_toArray, List.set_cons_zero, List.set_cons_succ]
  refine wpAnyH_take (i := 15) (v := undef) rfl (by kernel_rfl) (by kernel_rfl) (by kernel_rfl) (fun _ _ _ h => h) (Or.inr ⟨by rfl, rfl⟩) hHeld ?_
  try simp only [Act.put, List.getElem_toArray, List.getElem_cons_succ, List.getElem_cons_zero, List.setIfInBounds_toArray, List.set_cons_zero, List.set_cons_succ]
  refine wpAnyH_take (i := 16) (v := ?v13) rfl (by kernel_rfl) (by kernel_rfl) (by kernel_rfl) (fun _ _ _ h => h) (Or.inl ⟨by rfl, ?hy13⟩) hHeld ?rest13
  case hy13 =>
    intro w' hSw
    try dsimp only at hSw
    go_simp
    first | done | with_reducible rfl
  try simp only [Act.put, List.getElem_toArray, List.getElem_cons_succ, List.getElem_cons_zero, List.setIfInBounds_toArray, List.set_cons_zero, List.set_cons_succ]
  refine wpAnyH_take (i := 17) (v := ?v14) rfl (by kernel_rfl) (by kernel_rfl) (by kernel_rfl) (fun _ _ _ h => h) (Or.inl ⟨by rfl, ?hy14⟩) hHeld ?rest14
  case hy14 =>
    intro w' hSw
    try dsimp only at hSw
    go_simp
    first | done | with_reducible rfl
  try simp only [Act.put, List.getElem_toArray, List.getElem_cons_succ, List.getElem_cons_zero, List.setIfInBounds_toArray, List.set_cons_zero, List.set_cons_succ]
  refine wpAnyH_done (by kernel_rfl) ?_ _
  refine OnlyN.normal ?_
  clear hHeld
  go_wp2_with fail
  rw [rounds_succ]
  go_wp2_with fail
  go_ret2
  exact ⟨rfl, L1.out⟩
set_option maxRecDepth 100000 in
set_option maxHeartbeats 4000000 in
theorem fore_none (h0 h1 : Hd) (w : World) : Calls Try.prog 45 #[.agg (cs2 h0 h1).toArray, .agg #[.bool false, .bool false], .func (.func 46) #[] #[]] w fun r w' => r = .returned (.tuple #[.int .i64 0, .bool false]) ∧ Below w.heap.size w w' := by
  have hi0 := index52_0 h0 h1
  have hi1 := index52_1 h0 h1
  have K0 := Lib.hid ((Blk.new w 49 (cs2 h0 h1).toArray).alloc (.cells #[.bool false, .bool false] 50))
  have T0 := Lib.hid (blk_new1 w (.cells (cs2 h0 h1).toArray 49) 50 #[.bool false, .bool false])
  have L0 := Lib.hid (((Below.refl w.heap.size w).alloc (Nat.le_refl _) (.cells (cs2 h0 h1).toArray 49)).alloc (by simp) (.cells #[.bool false, .bool false] 50))
  go_enter Try.func45, Try.ntmps45
  go_wp2_with (refine wpList_load_mid rfl 49 (.tmp 3) rfl w.heap.size 0 rfl (cs2 h0 h1) _ (Blk.rangeAt (l := cs2 h0 h1) K0.out) Try.underlying49 rfl (size52 _ _) ?_)
  generalize (w.alloc (.cells (cs2 h0 h1).toArray 49)).alloc (.cells #[.bool false, .bool false] 50) = W at K0 T0 L0 ⊢
  refine wp_loop_rounds 3 ?_
  rw [rounds_succ]
  replace K0 := Lib.hid (K0.out.alloc (.cells h0.cs.toArray 28))
  replace T0 := Lib.hid (T0.out.alloc (.cells h0.cs.toArray 28))
  replace L0 := Lib.hid (L0.out.alloc L0.out.size (.cells h0.cs.toArray 28))
  go_wp2_with fail
  generalize W.alloc (.cells h0.cs.toArray 28) = W1 at K0 T0 L0 ⊢
  refine wp_region_only (S := fun w' => w'.cell? ⟨w.heap.size + 1, 0, none⟩ = some (.bool false)) (by kernel_rfl) ((T0.out.cell 0).trans rfl) (fun hHeld => ?_)
  refine wpAnyH_take (i := 0) (v := ?v15) rfl (by kernel_rfl) (by kernel_rfl) (by kernel_rfl) (fun _ _ _ h => h) (Or.inl ⟨by rfl, ?hy15⟩) hHeld ?rest15
  case hy15 =>
    intro w' hSw
    try dsimp only at hSw
    go_simp
    first | done | with_reducible rfl
  try simp only [Act.put, List.getElem_toArray, List.getElem_cons_zero, List.setIfInBounds_toArray, List.set_cons_zero, List.set_cons_succ]
  refine wpAnyH_take (i := 1) (v := ?v16) rfl (by kernel_rfl) (by kernel_rfl) (by kernel_rfl) (fun _ _ _ h => h) (Or.inl ⟨by rfl, ?hy16⟩) hHeld ?rest16
  case hy16 =>
    intro w' hSw
    try dsimp only at hSw
    go_simp
    first | done | with_reducible rfl
  try simp only [Act.put, List.getElem_toArray, List.getElem_cons_succ, List.getElem_cons_zero, List.setIfInBounds_toArray, List.set_cons_zero, List.set_cons_succ]
  refine wpAnyH_take (i := 2) (v := ?v17) rfl (by kernel_rfl) (by kernel_rfl) (by kernel_rfl) (fun _ _ _ h => h) (Or.inl ⟨by rfl, ?hy17⟩) hHeld ?rest17
  case hy17 =>
    intro w' hSw
    try dsimp only at hSw
    go_simp
    first | done | with_reducible rfl
  try simp only [Act.put, List.getElem_toArray, List.getElem_cons_succ, List.getElem_cons_zero, List.setIfInBounds_toArray, List.set_cons_zero, List.set_cons_succ]
  refine wpAnyH_take (i := 3) (v := ?v18) rfl (by kernel_rfl) (by kernel_rfl) (by kernel_rfl) (fun _ _ _ h => h) (Or.inl ⟨by rfl, ?hy18⟩) hHeld ?rest18
  case hy18 =>
    intro w' hSw
    try dsimp only at hSw
    go_simp
    first | done | with_reducible rfl
  try simp only [Act.put, List.getElem_toArray, List.getElem_cons_succ, List.getElem_cons_zero, List.setIfInBounds_toArray, List.set_cons_zero, List.set_cons_succ]
  refine wpAnyH_take (i := 4) (v := undef) rfl (by kernel_rfl) (by kernel_rfl) (by kernel_rfl) (fun _ _ _ h => h) (Or.inr ⟨by rfl, rfl⟩) hHeld ?_
  try simp only [Act.put, List.getElem_toArray, List.getElem_cons_succ, List.getElem_cons_zero, List.setIfInBounds_toArray, List.set_cons_zero, List.set_cons_succ]
  refine wpAnyH_take (i := 5) (v := undef) rfl (by kernel_rfl) (by kernel_rfl) (by kernel_rfl) (fun _ _ _ h => h) (Or.inr ⟨by rfl, rfl⟩) hHeld ?_
  try simp only [Act.put, List.getElem_toArray, List.getElem_cons_succ, List.getElem_cons_zero, List.setIfInBounds_toArray, List.set_cons_zero, List.set_cons_succ]
  refine wpAnyH_take (i := 6) (v := undef) rfl (by kernel_rfl) (by kernel_rfl) (by kernel_rfl) (fun _ _ _ h => h) (Or.inr ⟨by rfl, rfl⟩) hHeld ?_
  try simp only [Act.put, List.getElem_toArray, List.getElem_cons_succ, List.getElem_cons_zero, List.setIfInBounds_toArray, List.set_cons_zero, List.set_cons_succ]
  refine wpAnyH_take (i := 7) (v := undef) rfl (by kernel_rfl) (by kernel_rfl) (by kernel_rfl) (fun _ _ _ h => h) (Or.inr ⟨by rfl, rfl⟩) hHeld ?_
  try simp only [Act.put, List.getElem_toArray, List.getElem_cons_succ, List.getElem_cons_zero, List.setIfInBounds_toArray, List.set_cons_zero, List.set_cons_succ]
  refine wpAnyH_take (i := 8) (v := undef) rfl (by kernel_rfl) (by kernel_rfl) (by kernel_rfl) (fun _ _ _ h => h) (Or.inr ⟨by rfl, rfl⟩) hHeld ?_
  try simp only [Act.put, List.getElem_toArray, List.getElem_cons_succ, List.getElem_cons_zero, List.setIfInBounds_toArray, List.set_cons_zero, List.set_cons_succ]
  refine wpAnyH_take (i := 9) (v := undef) rfl (by kernel_rfl) (by kernel_rfl) (by kernel_rfl) (fun _ _ _ h => h) (Or.inr ⟨by rfl, rfl⟩) hHeld ?_
  try simp only [Act.put, List.getElem_toArray, List.getElem_cons_succ, List.getElem_cons_zero, List.setIfInBounds_toArray, List.set_cons_zero, List.set_cons_succ]
  refine wpAnyH_take (i := 10) (v := undef) rfl (by kernel_rfl) (by kernel_rfl) (by kernel_rfl) (fun _ _ _ h => h) (Or.inr ⟨by rfl, rfl⟩) hHeld ?_
  try simp only [Act.put, List.getElem_toArray, List.getElem_cons_succ, List.getElem_cons_zero, List.setIfInBounds_toArray, List.set_cons_zero, List.set_cons_succ]
  refine wpAnyH_take (i := 11) (v := undef) rfl (by kernel_rfl) (by kernel_rfl) (by kernel_rfl) (fun _ _ _ h => h) (Or.inr ⟨by rfl, rfl⟩) hHeld ?_
  try simp only [Act.put, List.getElem_toArray, List.getElem_cons_succ, List.getElem_cons_zero, List.setIfInBounds_toArray, List.set_cons_zero, List.set_cons_succ]
  refine wpAnyH_take (i := 12) (v := undef) rfl (by kernel_rfl) (by kernel_rfl) (by kernel_rfl) (fun _ _ _ h => h) (Or.inr ⟨by rfl, rfl⟩) hHeld ?_
  try simp only [Act.put, List.getElem_toArray, List.getElem_cons_succ, List.getElem_cons_zero, List.setIfInBounds_toArray, List.set_cons_zero, List.set_cons_succ]
  refine wpAnyH_take (i := 13) (v := undef) rfl (by kernel_rfl) (by kernel_rfl) (by kernel_rfl) (fun _ _ _ h => h) (Or.inr ⟨by rfl, rfl⟩) hHeld ?_
  try simp only [Act.put, List.getElem_toArray, List.getElem_cons_succ, List.getElem_cons_zero, List.setIfInBounds_toArray, List.set_cons_zero, List.set_cons_succ]
  refine wpAnyH_take (i := 14) (v := undef) rfl (by kernel_rfl) (by kernel_rfl) (by kernel_rfl) (fun _ _ _ h => h) (Or.inr ⟨by rfl, rfl⟩) hHeld ?_
  try simp only [Act.put, List.getElem_toArray, List.getElem_cons_succ, List.getElem_cons_zero, List.setIfInBounds_toArray, List.set_cons_zero, List.set_cons_succ]
  refine wpAnyH_take (i := 15) (v := undef) rfl (by kernel_rfl) (by kernel_rfl) (by kernel_rfl) (fun _ _ _ h => h) (Or.inr ⟨by rfl, rfl⟩) hHeld ?_
  try simp only [Act.put, List.getElem_toArray, List.getElem_cons_succ, List.getElem_cons_zero, List.setIfInBounds_toArray, List.set_cons_zero, List.set_cons_succ]
  refine wpAnyH_take (i := 16) (v := undef) rfl (by kernel_rfl) (by kernel_rfl) (by kernel_rfl) (fun _ _ _ h => h) (Or.inr ⟨by rfl, rfl⟩) hHeld ?_
  try simp only [Act.put, List.getElem_toArray, List.getElem_cons_succ, List.getElem_cons_zero, List.setIfInBounds_toArray, List.set_cons_zero, List.set_cons_succ]
  refine wpAnyH_take (i := 17) (v := ?v19) rfl (by kernel_rfl) (by kernel_rfl) (by kernel_rfl) (fun _ _ _ h => h) (Or.inl ⟨by rfl, ?hy19⟩) hHeld ?rest19
  case hy19 =>
    intro w' hSw
    try dsimp only at hSw
    go_simp
    first | done | with_reducible rfl
  try simp only [Act.put, List.getElem_toArray, List.getElem_cons_succ, List.getElem_cons_zero, List.setIfInBounds_toArray, List.set_cons_zero, List.set_cons_succ]
  refine wpAnyH_done (by kernel_rfl) ?_ _
  refine OnlyN.normal ?_
  clear hHeld
  go_wp2_with fail
  rw [rounds_succ]
  have T1 := Lib.hid (blk_drew (blk_drew (T0.out.alloc (.cells h1.cs.toArray 28))))
  have L1 := Lib.hid ((L0.out.alloc L0.out.size (.cells h1.cs.toArray 28)).drew.drew)
  go_wp2_with fail
  refine wp_region_only (S := fun w' => w'.cell? ⟨w.heap.size + 1, 1, none⟩ = some (.bool false)) (by kernel_rfl) ((T1.out.cell 1).trans rfl) (fun hHeld => ?_)
  refine wpAnyH_take (i := 0) (v := ?v20) rfl (by kernel_rfl) (by kernel_rfl) (by kernel_rfl) (fun _ _ _ h => h) (Or.inl ⟨by rfl, ?hy20⟩) hHeld ?rest20
  case hy20 =>
    intro w' hSw
    try dsimp only at hSw
    go_simp
    first | done | with_reducible rfl
  try simp only [Act.put, List.getElem_toArray, List.getElem_cons_zero, List.setIfInBounds_toArray, List.set_cons_zero, List.set_cons_succ]
  refine wpAnyH_take (i := 1) (v := ?v21) rfl (by kernel_rfl) (by kernel_rfl) (by kernel_rfl) (fun _ _ _ h => h) (Or.inl ⟨by rfl, ?hy21⟩) hHeld ?rest21
  case hy21 =>
    intro w' hSw
    try dsimp only at hSw
    go_simp
    first | done | with_reducible rfl
  try simp only [Act.put, List.getElem_toArray, List.getElem_cons_succ, List.getElem_cons_zero, List.setIfInBounds_toArray, List.set_cons_zero, List.set_cons_succ]
  refine wpAnyH_take (i := 2) (v := ?v22) rfl (by kernel_rfl) (by kernel_rfl) (by kernel_rfl) (fun _ _ _ h => h) (Or.inl ⟨by rfl, ?hy22⟩) hHeld ?rest22
  case hy22 =>
    intro w' hSw
    try dsimp only at hSw
    go_simp
    first | done | with_reducible rfl
  try simp only [Act.put, List.getElem_toArray, List.getElem_cons_succ, List.getElem_cons_zero, List.setIfInBounds_toArray, List.set_cons_zero, List.set_cons_succ]
  refine wpAnyH_take (i := 3) (v := ?v23) rfl (by kernel_rfl) (by kernel_rfl) (by kernel_rfl) (fun _ _ _ h => h) (Or.inl ⟨by rfl, ?hy23⟩) hHeld ?rest23
  case hy23 =>
    intro w' hSw
    try dsimp only at hSw
    go_simp
    first | done | with_reducible rfl
  try simp only [Act.put, List.getElem_toArray, List.getElem_cons_succ, List.getElem_cons_zero, List.setIfInBounds_toArray, List.set_cons_zero, List.set_cons_succ]
  refine wpAnyH_take (i := 4) (v := undef) rfl (by kernel_rfl) (by kernel_rfl) (by kernel_rfl) (fun _ _ _ h => h) (Or.inr ⟨by rfl, rfl⟩) hHeld ?_
  try simp only [Act.put, List.getElem_toArray, List.getElem_cons_succ, List.getElem_cons_zero, List.setIfInBounds_toArray, List.set_cons_zero, List.set_cons_succ]
  refine wpAnyH_take (i := 5) (v := undef) rfl (by kernel_rfl) (by kernel_rfl) (by kernel_rfl) (fun _ _ _ h => h) (Or.inr ⟨by rfl, rfl⟩) hHeld ?_
  try simp only [Act.put, List.getElem_toArray, List.getElem_cons_succ, List.getElem_cons_zero, List.setIfInBounds_toArray, List.set_cons_zero, List.set_cons_succ]
  refine wpAnyH_take (i := 6) (v := undef) rfl (by kernel_rfl) (by kernel_rfl) (by kernel_rfl) (fun _ _ _ h => h) (Or.inr ⟨by rfl, rfl⟩) hHeld ?_
  try simp only [Act.put, List.getElem_toArray, List.getElem_cons_succ, List.getElem_cons_zero, List.setIfInBounds_toArray, List.set_cons_zero, List.set_cons_succ]
  refine wpAnyH_take (i := 7) (v := undef) rfl (by kernel_rfl) (by kernel_rfl) (by kernel_rfl) (fun _ _ _ h => h) (Or.inr ⟨by rfl, rfl⟩) hHeld ?_
  try simp only [Act.put, List.getElem_toArray, List.getElem_cons_succ, List.getElem_cons_zero, List.setIfInBounds_toArray, List.set_cons_zero, List.set_cons_succ]
  refine wpAnyH_take (i := 8) (v := undef) rfl (by kernel_rfl) (by kernel_rfl) (by kernel_rfl) (fun _ _ _ h => h) (Or.inr ⟨by rfl, rfl⟩) hHeld ?_
  try simp only [Act.put, List.getElem_toArray, List.getElem_cons_succ, List.getElem_cons_zero, List.setIfInBounds_toArray, List.set_cons_zero, List.set_cons_succ]
  refine wpAnyH_take (i := 9) (v := undef) rfl (by kernel_rfl) (by kernel_rfl) (by kernel_rfl) (fun _ _ _ h => h) (Or.inr ⟨by rfl, rfl⟩) hHeld ?_
  try simp only [Act.put, List.getElem_toArray, List.getElem_cons_succ, List.getElem_cons_zero, List.setIfInBounds_toArray, List.set_cons_zero, List.set_cons_succ]
  refine wpAnyH_take (i := 10) (v := undef) rfl (by kernel_rfl) (by kernel_rfl) (by kernel_rfl) (fun _ _ _ h => h) (Or.inr ⟨by rfl, rfl⟩) hHeld ?_
  try simp only [Act.put, List.getElem_toArray, List.getElem_cons_succ, List.getElem_cons_zero, List.setIfInBounds_toArray, List.set_cons_zero, List.set_cons_succ]
  refine wpAnyH_take (i := 11) (v := undef) rfl (by kernel_rfl) (by kernel_rfl) (by kernel_rfl) (fun _ _ _ h => h) (Or.inr ⟨by rfl, rfl⟩) hHeld ?_
  try simp only [Act.put, List.getElem_toArray, List.getElem_cons_succ, List.getElem_cons_zero, List.setIfInBounds_toArray, List.set_cons_zero, List.set_cons_succ]
  refine wpAnyH_take (i := 12) (v := undef) rfl (by kernel_rfl) (by kernel_rfl) (by kernel_rfl) (fun _ _ _ h => h) (Or.inr ⟨by rfl, rfl⟩) hHeld ?_
  try simp only [Act.put, List.getElem_toArray, List.getElem_cons_succ, List.getElem_cons_zero, List.setIfInBounds_toArray, List.set_cons_zero, List.set_cons_succ]
  refine wpAnyH_take (i := 13) (v := undef) rfl (by kernel_rfl) (by kernel_rfl) (by kernel_rfl) (fun _ _ _ h => h) (Or.inr ⟨by rfl, rfl⟩) hHeld ?_
  try simp only [Act.put, List.getElem_toArray, List.getElem_cons_succ, List.getElem_cons_zero, List.setIfInBounds_toArray, List.set_cons_zero, List.set_cons_succ]
  refine wpAnyH_take (i := 14) (v := undef) rfl (by kernel_rfl) (by kernel_rfl) (by kernel_rfl) (fun _ _ _ h => h) (Or.inr ⟨by rfl, rfl⟩) hHeld ?_
  try simp only [Act.put, List.getElem_toArray, List.getElem_cons_succ, List.getElem_cons_zero, List.setIfInBounds_toArray, List.set_cons_zero, List.set_cons_succ]
  refine wpAnyH_take (i := 15) (v := undef) rfl (by kernel_rfl) (by kernel_rfl) (by kernel_rfl) (fun _ _ _ h => h) (Or.inr ⟨by rfl, rfl⟩) hHeld ?_
  try simp only [Act.put, List.getElem_toArray, List.getElem_cons_succ, List.getElem_cons_zero, List.setIfInBounds_toArray, List.set_cons_zero, List.set_cons_succ]
  refine wpAnyH_take (i := 16) (v := undef) rfl (by kernel_rfl) (by kernel_rfl) (by kernel_rfl) (fun _ _ _ h => h) (Or.inr ⟨by rfl, rfl⟩) hHeld ?_
  try simp only [Act.put, List.getElem_toArray, List.getElem_cons_succ, List.getElem_cons_zero, List.setIfInBounds_toArray, List.set_cons_zero, List.set_cons_succ]
  refine wpAnyH_take (i := 17) (v := ?v24) rfl (by kernel_rfl) (by kernel_rfl) (by kernel_rfl) (fun _ _ _ h => h) (Or.inl ⟨by rfl, ?hy24⟩) hHeld ?rest24
  case hy24 =>
    intro w' hSw
    try dsimp only at hSw
    go_simp
    first | done | with_reducible rfl
  try simp only [Act.put, List.getElem_toArray, List.getElem_cons_succ, List.getElem_cons_zero, List.setIfInBounds_toArray, List.set_cons_zero, List.set_cons_succ]
  refine wpAnyH_done (by kernel_rfl) ?_ _
  refine OnlyN.normal ?_
  clear hHeld
  go_wp2_with fail
  rw [rounds_succ]
  go_wp2_with fail
  go_ret2
  exact ⟨rfl, L1.out⟩
end Go.Proofs.Ytcfkoglehjkkdaa
namespace Go.Proofs.Ytcfkoglehjkkdaa
open Go.RowKit
attribute [local go_sem] Oper.semAt_some
set_option maxRecDepth 100000 in
set_option maxHeartbeats 4000000 in
theorem hread_gen {w : World} {base p : Nat} {pl : Pl} {D2 : Dk} (hbase : ∀ k, w.heap.size ≤ k → ¬ pl.has p k) (h0 h1 : Hd) (a b : Bool)
    (bc : ∀ W, Below w.heap.size w W → Calls Try.prog 20 #[.pointer (some ⟨p, 0, none⟩)] W fun r w' => r = .returned (.tuple #[.agg (cs2 h0 h1).toArray, .agg #[.bool a, .bool b], .int .i64 0]) ∧ DiskAt w' base p pl D2 ∧ Fr (pl.has p) W w')
    (k : Nat) (hk : k < 2) (u : Hd) (hu : ∀ W : World, W.rangeAt 0 0 [] → ∀ g, W.rangeAt g 0 (cs2 h0 h1) → W.rangeAt g (k * 3) u.cs)
    (fc : ∀ W : World, Calls Try.prog 45 #[.agg (cs2 h0 h1).toArray, .agg #[.bool a, .bool b], .func (.func 46) #[] #[]] W fun r w' => r = .returned (.tuple #[.int .i64 (k : Int), .bool true]) ∧ Below W.heap.size W w') :
    Calls Try.prog 18 #[.pointer (some ⟨p, 0, none⟩)] w fun r w' => r = .returned (.tuple #[u.val, .int .i64 (k : Int), .int .i64 0]) ∧ DiskAt w' base p pl D2 ∧ Fr (pl.has p) w w' := by
  have hz := z52
  have hz3 := z53
  have hz5 := z23
  have HNH := Lib.hid hbase
  have HBC := Lib.hid bc
  have HFC := Lib.hid fc
  have HU := Lib.hid hu
  have R0 := Lib.hid (Blk.new w 28 hd0.cs.toArray)
  have L0 := Lib.hid ((Below.refl w.heap.size w).alloc (Nat.le_refl _) (.cells hd0.cs.toArray 28))
  have i1 : (0 : Int) ≤ (k : Int) := by omega
  have i2 : (k : Int) < 2 := by omega
  clear hbase bc fc hu
  go_enter Try.func18, Try.ntmps18
  go_wp2_with fail
  refine (HBC.out _ L0.out).mono ?_
  rintro r W1 ⟨rfl, hd, hf⟩
  have D1 := Lib.hid hd
  have F1 := Lib.hid ((Fr.of_below (S := pl.has p) L0.out).trans hf)
  have R1 := Lib.hid (hf.keepBlk R0.out (HNH.out _ (Nat.le_refl _)))
  have GT := Lib.hid (show w.heap.size < W1.heap.size from R1.out.lt)
  clear hd hf R0 L0
  obtain ⟨V0, hV0⟩ : ∃ V, V = (W1.alloc (.cells (cs2 hd0 hd0).toArray 49)).alloc (.cells #[.bool false, .bool false] 50) := ⟨_, rfl⟩
  have P1 := Lib.hid (show Blk V0 W1.heap.size 49 (cs2 hd0 hd0).toArray from by rw [hV0]; exact (Blk.new W1 _ _).alloc _)
  have P2 := Lib.hid (show Blk V0 (W1.heap.size + 1) 50 #[.bool false, .bool false] from by rw [hV0]; exact blk_new1 W1 _ _ _)
  have D2' := Lib.hid (show DiskAt V0 base p pl D2 from by rw [hV0]; exact (D1.out.alloc _).alloc _)
  have F2 := Lib.hid (show Fr (pl.has p) w V0 from by rw [hV0]; exact (F1.out.alloc _).alloc _)
  have R2 := Lib.hid (show Blk V0 w.heap.size 28 hd0.cs.toArray from by rw [hV0]; exact (R1.out.alloc _).alloc _)
  obtain ⟨V1, hV1⟩ : ∃ V, V = V0.setRow W1.heap.size (cs2 h0 h1).toArray := ⟨_, rfl⟩
  obtain ⟨V2, hV2⟩ : ∃ V, V = V1.setRow (W1.heap.size + 1) #[.bool a, .bool b] := ⟨_, rfl⟩
  have f1 : Fr (fun k => k = W1.heap.size) V0 V1 := by rw [hV1]; exact setRow_fr8 _ _ _
  have f2 : Fr (fun k => k = W1.heap.size + 1) V1 V2 := by rw [hV2]; exact setRow_fr8 _ _ _
  have Q1 := Lib.hid (show Blk V1 W1.heap.size 49 (cs2 h0 h1).toArray from by rw [hV1]; exact setRow_heap V0 _ _ _ _ (0, 0) P1.out)
  have Q2 := Lib.hid (f1.keepBlk P2.out (by omega))
  have S1 := Lib.hid (f2.keepBlk Q1.out (by omega))
  have S2 := Lib.hid (show Blk V2 (W1.heap.size + 1) 50 #[.bool a, .bool b] from by rw [hV2]; exact setRow_heap V1 _ _ _ _ (0, 0) Q2.out)
  have D3 := Lib.hid ((D2'.out.fr f1 (fun k hk e => HNH.out k (by have := GT.out; omega) hk)).fr f2 (fun k hk e => HNH.out k (by have := GT.out; omega) hk))
  have F3 := Lib.hid ((F2.out.then_ f1 (fun i hi e => by have := GT.out; omega)).then_ f2 (fun i hi e => by have := GT.out; omega))
  have R3 := Lib.hid (f2.keepBlk (f1.keepBlk R2.out (by have := GT.out; omega)) (by have := GT.out; omega))
  clear f1 f2 D1 F1 R1 D2' F2 R2
  go_wp2_with (first
    | (refine wpList_store_row rfl 49 (.tmp 5) (.tmp 13) rfl W1.heap.size (cs2 h0 h1).toArray rfl rfl 49 (cs2 hd0 hd0).toArray (by rw [← hV0]; exact P1.out) (by kernel_rfl) rfl (cs2_one _ _) ?_; rw [← hV0, ← hV1])
    | (refine wpList_store_row rfl 50 (.tmp 6) (.tmp 14) rfl (W1.heap.size + 1) #[.bool a, .bool b] rfl rfl 50 _ Q2.out (by kernel_rfl) rfl (by simp [Value.oneCell']) ?_; rw [← hV2]; clear hV0 hV1 hV2 P1 P2 Q1 Q2)
    | (refine wpList_load_mid rfl 49 (.tmp 5) rfl W1.heap.size 0 rfl (cs2 h0 h1) _ (Blk.rangeAt (l := cs2 h0 h1) S1.out) Try.underlying49 rfl (size52 _ _) ?_)
    | (refine wpList_load_mid rfl 50 (.tmp 6) rfl (W1.heap.size + 1) 0 rfl [.bool a, .bool b] _ (Blk.rangeAt (l := [.bool a, .bool b]) S2.out) Try.underlying50 rfl (size53 _ _) ?_))
  refine (HFC.out _).mono ?_
  rintro r W4 ⟨rfl, hb⟩
  have T1 := Lib.hid (S1.out.below hb S1.out.lt)
  have D4 := Lib.hid (D3.out.below hb)
  have F4 := Lib.hid (F3.out.below hb)
  have R4 := Lib.hid (R3.out.below hb R3.out.lt)
  clear hb S1 S2 D3 F3 R3
  go_wp2_with (first
    | (refine wpList_load_mid rfl 28 (.tmp 30) rfl W1.heap.size (k * 3) rfl u.cs _ (HU.out W4 (fun j v hv => by simp at hv) _ (Blk.rangeAt (l := cs2 h0 h1) T1.out)) Try.underlying28 rfl (size23 _) ?_)
    | (refine wpList_store_row rfl 28 (.tmp 2) (.tmp 31) rfl w.heap.size u.cs.toArray rfl rfl 28 _ R4.out (by kernel_rfl) rfl (one23 _) ?_))
  exact bodyPost_ret (results_read8 rfl _ _ w.heap.size u rfl (R4.out.setRow _)) rfl ⟨rfl, D4.out.fr (setRow_fr8 _ _ _) (fun k hk e => HNH.out k (by omega) hk), F4.out.then_ (setRow_fr8 _ _ _) (fun i hi e => by omega)⟩
set_option maxRecDepth 100000 in
set_option maxHeartbeats 4000000 in
theorem hread_bad {w : World} {base p : Nat} {pl : Pl} {D2 : Dk} (hbase : ∀ k, w.heap.size ≤ k → ¬ pl.has p k) (h0 h1 : Hd) (e : Int) (he : (e != 0) = true)
    (bc : ∀ W, Below w.heap.size w W → Calls Try.prog 20 #[.pointer (some ⟨p, 0, none⟩)] W fun r w' => r = .returned (.tuple #[.agg (cs2 h0 h1).toArray, .agg #[.bool false, .bool false], .int .i64 e]) ∧ DiskAt w' base p pl D2 ∧ Fr (pl.has p) W w') :
    Calls Try.prog 18 #[.pointer (some ⟨p, 0, none⟩)] w fun r w' => r = .returned (.tuple #[hd0.val, .int .i64 0, .int .i64 e]) ∧ DiskAt w' base p pl D2 ∧ Fr (pl.has p) w w' := by
  have hz := z52
  have hz3 := z53
  have hz5 := z23
  have HNH := Lib.hid hbase
  have HBC := Lib.hid bc
  have R0 := Lib.hid (Blk.new w 28 hd0.cs.toArray)
  have L0 := Lib.hid ((Below.refl w.heap.size w).alloc (Nat.le_refl _) (.cells hd0.cs.toArray 28))
  clear hbase bc
  go_enter Try.func18, Try.ntmps18
  go_wp2_with fail
  refine (HBC.out _ L0.out).mono ?_
  rintro r W1 ⟨rfl, hd, hf⟩
  have D1 := Lib.hid hd
  have F1 := Lib.hid ((Fr.of_below (S := pl.has p) L0.out).trans hf)
  have R1 := Lib.hid (hf.keepBlk R0.out (HNH.out _ (Nat.le_refl _)))
  have GT := Lib.hid (show w.heap.size < W1.heap.size from R1.out.lt)
  clear hd hf R0 L0
  obtain ⟨V0, hV0⟩ : ∃ V, V = (W1.alloc (.cells (cs2 hd0 hd0).toArray 49)).alloc (.cells #[.bool false, .bool false] 50) := ⟨_, rfl⟩
  have P1 := Lib.hid (show Blk V0 W1.heap.size 49 (cs2 hd0 hd0).toArray from by rw [hV0]; exact (Blk.new W1 _ _).alloc _)
  have P2 := Lib.hid (show Blk V0 (W1.heap.size + 1) 50 #[.bool false, .bool false] from by rw [hV0]; exact blk_new1 W1 _ _ _)
  have D2' := Lib.hid (show DiskAt V0 base p pl D2 from by rw [hV0]; exact (D1.out.alloc _).alloc _)
  have F2 := Lib.hid (show Fr (pl.has p) w V0 from by rw [hV0]; exact (F1.out.alloc _).alloc _)
  have R2 := Lib.hid (show Blk V0 w.heap.size 28 hd0.cs.toArray from by rw [hV0]; exact (R1.out.alloc _).alloc _)
  obtain ⟨V1, hV1⟩ : ∃ V, V = V0.setRow W1.heap.size (cs2 h0 h1).toArray := ⟨_, rfl⟩
  obtain ⟨V2, hV2⟩ : ∃ V, V = V1.setRow (W1.heap.size + 1) #[.bool false, .bool false] := ⟨_, rfl⟩
  have f1 : Fr (fun k => k = W1.heap.size) V0 V1 := by rw [hV1]; exact setRow_fr8 _ _ _
  have f2 : Fr (fun k => k = W1.heap.size + 1) V1 V2 := by rw [hV2]; exact setRow_fr8 _ _ _
  have Q1 := Lib.hid (show Blk V1 W1.heap.size 49 (cs2 h0 h1).toArray from by rw [hV1]; exact setRow_heap V0 _ _ _ _ (0, 0) P1.out)
  have Q2 := Lib.hid (f1.keepBlk P2.out (by omega))
  have S1 := Lib.hid (f2.keepBlk Q1.out (by omega))
  have S2 := Lib.hid (show Blk V2 (W1.heap.size + 1) 50 #[.bool false, .bool false] from by rw [hV2]; exact setRow_heap V1 _ _ _ _ (0, 0) Q2.out)
  have D3 := Lib.hid ((D2'.out.fr f1 (fun k hk e => HNH.out k (by have := GT.out; omega) hk)).fr f2 (fun k hk e => HNH.out k (by have := GT.out; omega) hk))
  have F3 := Lib.hid ((F2.out.then_ f1 (fun i hi e => by have := GT.out; omega)).then_ f2 (fun i hi e => by have := GT.out; omega))
  have R3 := Lib.hid (f2.keepBlk (f1.keepBlk R2.out (by have := GT.out; omega)) (by have := GT.out; omega))
  clear f1 f2 D1 F1 R1 D2' F2 R2
  go_wp2_with (first
    | (refine wpList_store_row rfl 49 (.tmp 5) (.tmp 13) rfl W1.heap.size (cs2 h0 h1).toArray rfl rfl 49 (cs2 hd0 hd0).toArray (by rw [← hV0]; exact P1.out) (by kernel_rfl) rfl (cs2_one _ _) ?_; rw [← hV0, ← hV1])
    | (refine wpList_store_row rfl 50 (.tmp 6) (.tmp 14) rfl (W1.heap.size + 1) #[.bool false, .bool false] rfl rfl 50 _ Q2.out (by kernel_rfl) rfl (by simp [Value.oneCell']) ?_; rw [← hV2]; clear hV0 hV1 hV2 P1 P2 Q1 Q2)
    | (refine wpList_store_row rfl 28 (.tmp 2) (.tmp 18) rfl w.heap.size hd0.cs.toArray rfl rfl 28 _ R3.out (by kernel_rfl) rfl (one23 _) ?_))
  exact bodyPost_ret (results_read8 rfl _ _ w.heap.size hd0 rfl (R3.out.setRow _)) rfl ⟨rfl, D3.out.fr (setRow_fr8 _ _ _) (fun k hk e => HNH.out k (by omega) hk), F3.out.then_ (setRow_fr8 _ _ _) (fun i hi e => by omega)⟩
set_option maxRecDepth 100000 in
set_option maxHeartbeats 4000000 in
theorem hread_none {w : World} {base p : Nat} {pl : Pl} {D2 : Dk} (hbase : ∀ k, w.heap.size ≤ k → ¬ pl.has p k) (h0 h1 : Hd)
    (bc : ∀ W, Below w.heap.size w W → Calls Try.prog 20 #[.pointer (some ⟨p, 0, none⟩)] W fun r w' => r = .returned (.tuple #[.agg (cs2 h0 h1).toArray, .agg #[.bool false, .bool false], .int .i64 0]) ∧ DiskAt w' base p pl D2 ∧ Fr (pl.has p) W w') :
    Calls Try.prog 18 #[.pointer (some ⟨p, 0, none⟩)] w fun r w' => r = .returned (.tuple #[hd0.val, .int .i64 0, .int .i64 180]) ∧ DiskAt w' base p pl D2 ∧ Fr (pl.has p) w w' := by
  have hz := z52
  have hz3 := z53
  have hz5 := z23
  have HNH := Lib.hid hbase
  have HBC := Lib.hid bc
  have R0 := Lib.hid (Blk.new w 28 hd0.cs.toArray)
  have L0 := Lib.hid ((Below.refl w.heap.size w).alloc (Nat.le_refl _) (.cells hd0.cs.toArray 28))
  clear hbase bc
  go_enter Try.func18, Try.ntmps18
  go_wp2_with fail
  refine (HBC.out _ L0.out).mono ?_
  rintro r W1 ⟨rfl, hd, hf⟩
  have D1 := Lib.hid hd
  have F1 := Lib.hid ((Fr.of_below (S := pl.has p) L0.out).trans hf)
  have R1 := Lib.hid (hf.keepBlk R0.out (HNH.out _ (Nat.le_refl _)))
  have GT := Lib.hid (show w.heap.size < W1.heap.size from R1.out.lt)
  clear hd hf R0 L0
  obtain ⟨V0, hV0⟩ : ∃ V, V = (W1.alloc (.cells (cs2 hd0 hd0).toArray 49)).alloc (.cells #[.bool false, .bool false] 50) := ⟨_, rfl⟩
  have P1 := Lib.hid (show Blk V0 W1.heap.size 49 (cs2 hd0 hd0).toArray from by rw [hV0]; exact (Blk.new W1 _ _).alloc _)
  have P2 := Lib.hid (show Blk V0 (W1.heap.size + 1) 50 #[.bool false, .bool false] from by rw [hV0]; exact blk_new1 W1 _ _ _)
  have D2' := Lib.hid (show DiskAt V0 base p pl D2 from by rw [hV0]; exact (D1.out.alloc _).alloc _)
  have F2 := Lib.hid (show Fr (pl.has p) w V0 from by rw [hV0]; exact (F1.out.alloc _).alloc _)
  have R2 := Lib.hid (show Blk V0 w.heap.size 28 hd0.cs.toArray from by rw [hV0]; exact (R1.out.alloc _).alloc _)
  obtain ⟨V1, hV1⟩ : ∃ V, V = V0.setRow W1.heap.size (cs2 h0 h1).toArray := ⟨_, rfl⟩
  obtain ⟨V2, hV2⟩ : ∃ V, V = V1.setRow (W1.heap.size + 1) #[.bool false, .bool false] := ⟨_, rfl⟩
  have f1 : Fr (fun k => k = W1.heap.size) V0 V1 := by rw [hV1]; exact setRow_fr8 _ _ _
  have f2 : Fr (fun k => k = W1.heap.size + 1) V1 V2 := by rw [hV2]; exact setRow_fr8 _ _ _
  have Q1 := Lib.hid (show Blk V1 W1.heap.size 49 (cs2 h0 h1).toArray from by rw [hV1]; exact setRow_heap V0 _ _ _ _ (0, 0) P1.out)
  have Q2 := Lib.hid (f1.keepBlk P2.out (by omega))
  have S1 := Lib.hid (f2.keepBlk Q1.out (by omega))
  have S2 := Lib.hid (show Blk V2 (W1.heap.size + 1) 50 #[.bool false, .bool false] from by rw [hV2]; exact setRow_heap V1 _ _ _ _ (0, 0) Q2.out)
  have D3 := Lib.hid ((D2'.out.fr f1 (fun k hk e => HNH.out k (by have := GT.out; omega) hk)).fr f2 (fun k hk e => HNH.out k (by have := GT.out; omega) hk))
  have F3 := Lib.hid ((F2.out.then_ f1 (fun i hi e => by have := GT.out; omega)).then_ f2 (fun i hi e => by have := GT.out; omega))
  have R3 := Lib.hid (f2.keepBlk (f1.keepBlk R2.out (by have := GT.out; omega)) (by have := GT.out; omega))
  clear f1 f2 D1 F1 R1 D2' F2 R2
  go_wp2_with (first
    | (refine wpList_store_row rfl 49 (.tmp 5) (.tmp 13) rfl W1.heap.size (cs2 h0 h1).toArray rfl rfl 49 (cs2 hd0 hd0).toArray (by rw [← hV0]; exact P1.out) (by kernel_rfl) rfl (cs2_one _ _) ?_; rw [← hV0, ← hV1])
    | (refine wpList_store_row rfl 50 (.tmp 6) (.tmp 14) rfl (W1.heap.size + 1) #[.bool false, .bool false] rfl rfl 50 _ Q2.out (by kernel_rfl) rfl (by simp [Value.oneCell']) ?_; rw [← hV2]; clear hV0 hV1 hV2 P1 P2 Q1 Q2)
    | (refine wpList_load_mid rfl 49 (.tmp 5) rfl W1.heap.size 0 rfl (cs2 h0 h1) _ (Blk.rangeAt (l := cs2 h0 h1) S1.out) Try.underlying49 rfl (size52 _ _) ?_)
    | (refine wpList_load_mid rfl 50 (.tmp 6) rfl (W1.heap.size + 1) 0 rfl [.bool false, .bool false] _ (Blk.rangeAt (l := [.bool false, .bool false]) S2.out) Try.underlying50 rfl (size53 _ _) ?_))
  refine (fore_none h0 h1 _).mono ?_
  rintro r W4 ⟨rfl, hb⟩
  have D4 := Lib.hid (D3.out.below hb)
  have F4 := Lib.hid (F3.out.below hb)
  have R4 := Lib.hid (R3.out.below hb R3.out.lt)
  clear hb S1 S2 D3 F3 R3
  go_wp2_with (first
    | (refine wpList_store_row rfl 28 (.tmp 2) (.tmp 28) rfl w.heap.size hd0.cs.toArray rfl rfl 28 _ R4.out (by kernel_rfl) rfl (one23 _) ?_))
  exact bodyPost_ret (results_read8 rfl _ _ w.heap.size hd0 rfl (R4.out.setRow _)) rfl ⟨rfl, D4.out.fr (setRow_fr8 _ _ _) (fun k hk e => HNH.out k (by omega) hk), F4.out.then_ (setRow_fr8 _ _ _) (fun i hi e => by omega)⟩
/-- what Read tells -/
def rhNo (R : Rf) (s z : Nat) : Int := if bcNo R s z = 0 then (if bcB R s z 0 = false ∧ bcB R s z 1 = false then 180 else 0) else bcNo R s z
def rhAt (R : Rf) (s z : Nat) : Nat := if bcNo R s z = 0 ∧ bcB R s z 1 = true ∧ (bcB R s z 0 = false ∨ (bcH R s z 0).e < (bcH R s z 1).e) then 1 else 0
def rhH (R : Rf) (s z : Nat) : Hd := if rhNo R s z = 0 then bcH R s z (rhAt R s z) else hd0
set_option maxRecDepth 8000 in
theorem hread_all {w : World} {R : Rf} {s z B p : Nat} {pl : Pl} {D : Dk} (hd : DiskAt w B p pl D) (ha : Alike D R s z) (hN : R.ws.length ≤ 1000000) (hs : s ≤ 99990) (hz : 1 ≤ z) :
    Calls Try.prog 18 #[.pointer (some ⟨p, 0, none⟩)] w fun e w' => e = .returned (.tuple #[(rhH R s z).val, .int .i64 (rhAt R s z : Int), .int .i64 (rhNo R s z)]) ∧ ∃ D', DiskAt w' B p pl D' ∧ Fr (pl.has p) w w' ∧ Alike D' R (bcSt R s z) z := by
  obtain ⟨h0, e0⟩ : ∃ t, bcH R s z 0 = t := ⟨_, rfl⟩
  obtain ⟨h1, e1⟩ : ∃ t, bcH R s z 1 = t := ⟨_, rfl⟩
  obtain ⟨a, ea⟩ : ∃ t, bcB R s z 0 = t := ⟨_, rfl⟩
  obtain ⟨b, eb⟩ : ∃ t, bcB R s z 1 = t := ⟨_, rfl⟩
  obtain ⟨no, en⟩ : ∃ t, bcNo R s z = t := ⟨_, rfl⟩
  have hnn : no ≠ 0 → a = false ∧ b = false := fun h => by
    rw [← ea, ← eb]
    unfold bcB
    rw [en, if_neg h, if_neg h]
    exact ⟨rfl, rfl⟩
  have hnn2 : no ≠ 0 → h0 = hd0 ∧ h1 = hd0 := fun h => by
    rw [← e0, ← e1]
    unfold bcH
    rw [en, if_neg h, if_neg h]
    exact ⟨rfl, rfl⟩
  have BC : ∀ W, Below w.heap.size w W → Calls Try.prog 20 #[.pointer (some ⟨p, 0, none⟩)] W fun r w' => r = .returned (.tuple #[.agg (cs2 h0 h1).toArray, .agg #[.bool a, .bool b], .int .i64 no]) ∧ DiskAt w' B p pl (bcDk D R s z) ∧ Fr (pl.has p) W w' := fun W hW => by
    refine (both_dk (hd.below hW) ha hN hs hz).mono ?_
    rw [e0, e1, ea, eb, en]
    rintro e w' ⟨h1, h2, h3, _⟩
    exact ⟨h1, h2, h3⟩
  have AL : Alike (bcDk D R s z) R (bcSt R s z) z := by
    have hst := ha
    unfold bcDk bcSt
    by_cases h1 : z < 2
    · rw [if_pos h1, if_pos h1]
      exact ha
    · rw [if_neg h1, if_neg h1]
      by_cases h2 : (s : Int) ∈ R.fl
      · rw [if_pos h2, if_pos h2]
        exact ha.stepped
      · rw [if_neg h2, if_neg h2]
        exact ha.stepped.stepped
  have hbase : ∀ k, w.heap.size ≤ k → ¬ pl.has p k := fun k hk => hd.not_new hk
  have FIN : ∀ (u : Hd) (k : Nat) (m : Int), rhH R s z = u → rhAt R s z = k → rhNo R s z = m → (Calls Try.prog 18 #[.pointer (some ⟨p, 0, none⟩)] w fun r w' => r = .returned (.tuple #[u.val, .int .i64 (k : Int), .int .i64 m]) ∧ DiskAt w' B p pl (bcDk D R s z) ∧ Fr (pl.has p) w w') → Calls Try.prog 18 #[.pointer (some ⟨p, 0, none⟩)] w fun e w' => e = .returned (.tuple #[(rhH R s z).val, .int .i64 (rhAt R s z : Int), .int .i64 (rhNo R s z)]) ∧ ∃ D', DiskAt w' B p pl D' ∧ Fr (pl.has p) w w' ∧ Alike D' R (bcSt R s z) z := fun u k m q1 q2 q3 hc => by
    rw [q1, q2, q3]
    refine hc.mono ?_
    rintro e w' ⟨h1, h2, h3⟩
    exact ⟨h1, _, h2, h3, AL⟩
  have hNo : rhNo R s z = if no = 0 then (if a = false ∧ b = false then 180 else 0) else no := by unfold rhNo; rw [en, ea, eb]
  have hAt : rhAt R s z = if no = 0 ∧ b = true ∧ (a = false ∨ h0.e < h1.e) then 1 else 0 := by unfold rhAt; rw [en, ea, eb, e0, e1]
  by_cases hno : no = 0
  · subst hno
    rw [if_pos rfl] at hNo
    cases a with
    | false =>
      cases b with
      | false =>
        rw [if_pos ⟨rfl, rfl⟩] at hNo
        rw [if_neg (fun h => by cases h.2.1)] at hAt
        exact FIN hd0 0 180 (by unfold rhH; rw [hNo, if_neg (by decide)]) hAt hNo (hread_none hbase h0 h1 BC)
      | true =>
        rw [if_neg (fun h => by cases h.2)] at hNo
        rw [if_pos ⟨rfl, rfl, .inl rfl⟩] at hAt
        exact FIN h1 1 0 (by unfold rhH; rw [hNo, if_pos rfl, hAt, e1]) hAt hNo (hread_gen hbase h0 h1 false true BC 1 (by decide) h1 (fun W _ g h => cs2_at1 h0 h1 h) (fun W => fore_second h0 h1 W))
    | true =>
      rw [if_neg (fun h => by cases h.1)] at hNo
      cases b with
      | false =>
        rw [if_neg (fun h => by cases h.2.1)] at hAt
        exact FIN h0 0 0 (by unfold rhH; rw [hNo, if_pos rfl, hAt, e0]) hAt hNo (hread_gen hbase h0 h1 true false BC 0 (by decide) h0 (fun W _ g h => cs2_at0 h0 h1 h) (fun W => fore_one h0 h1 W))
      | true =>
        by_cases hlt : h0.e < h1.e
        · rw [if_pos ⟨rfl, rfl, .inr hlt⟩] at hAt
          exact FIN h1 1 0 (by unfold rhH; rw [hNo, if_pos rfl, hAt, e1]) hAt hNo (hread_gen hbase h0 h1 true true BC 1 (by decide) h1 (fun W _ g h => cs2_at1 h0 h1 h) (fun W => fore_later h0 h1 W (decide_eq_true hlt)))
        · rw [if_neg (fun h => h.2.2.elim (fun x => by cases x) hlt)] at hAt
          exact FIN h0 0 0 (by unfold rhH; rw [hNo, if_pos rfl, hAt, e0]) hAt hNo (hread_gen hbase h0 h1 true true BC 0 (by decide) h0 (fun W _ g h => cs2_at0 h0 h1 h) (fun W => fore_first h0 h1 W (decide_eq_false hlt)))
  · rw [if_neg hno] at hNo
    rw [if_neg (fun h => hno h.1)] at hAt
    obtain ⟨rfl, rfl⟩ := hnn hno
    exact FIN hd0 0 no (by unfold rhH; rw [hNo, if_neg hno]) hAt hNo (hread_bad hbase h0 h1 no (by simpa using hno) BC)
end Go.Proofs.Ytcfkoglehjkkdaa
namespace Go.Proofs.Ytcfkoglehjkkdaa
open Go.RowKit
attribute [local go_sem] Oper.semAt_some
set_option maxRecDepth 8000 in
theorem results_rread {fn : Func} {p q t u : Tmp} (h : fn.results = #[.cell p 33, .cell q 28, .tmp t, .tmp u]) (tmps : Array Value) (w : World) (g0 g1 : Nat) (cs : Array Value) (hcs : cs.size = 4) (x : Hd)
    (hp : tmps.getD p undef = .pointer (some ⟨g0, 0, none⟩)) (hq : tmps.getD q undef = .pointer (some ⟨g1, 0, none⟩)) (hg0 : Blk w g0 33 cs) (hg1 : Blk w g1 28 x.cs.toArray) : (results fn tmps).run Try.prog w = .ok (.tuple #[.agg cs, x.val, tmps.getD t undef, tmps.getD u undef]) w := by
  have hp' : tmps[p]?.getD undef = .pointer (some ⟨g0, 0, none⟩) := by simpa using hp
  have hq' : tmps[q]?.getD undef = .pointer (some ⟨g1, 0, none⟩) := by simpa using hq
  have e0 := run_loadVar_row (P := Try.prog) w g0 33 33 cs (0, 0) _ hg0 Try.underlying33 rfl (by rw [hcs]; exact size43)
  have e1 := run_loadVar_row (P := Try.prog) w g1 28 28 x.cs.toArray (0, 0) _ hg1 Try.underlying28 rfl (by kernel_rfl)
  simp [results, h, hp', hq', asAddr, e0, e1]
set_option maxRecDepth 100000 in
set_option maxHeartbeats 600000 in
theorem rrd_err {w : World} {r : Rp} {R : Rf} {s z t : Nat} {x0 x1 : Hd} {no : Int} (hno : (no != 0) = true) (h : RefAt w r R z)
    (rb : ∀ W : World, RefAt W r R z → Calls Try.prog 19 #[r.val s] W fun e w' => e = .returned (.tuple #[r.val t, .agg (cs2 x0 x1).toArray, .agg #[.bool false, .bool false], .int .i64 no]) ∧ Below W.heap.size W w') :
    Calls Try.prog 17 #[r.val s] w fun e w' => e = .returned (.tuple #[r.val t, hd0.val, .int .i64 0, .int .i64 no]) ∧ Below w.heap.size w w' := by
  have hz := z43
  have hz2 := z23
  have hz52 := z52
  have hz53 := z53
  have RB := Lib.hid rb
  obtain ⟨W, hW⟩ : ∃ W, W = ((w.alloc (.cells #[.slice r.A1 r.n1 r.c1, .slice r.A2 r.n2 r.c2, .int .i64 (s : Int), .slice r.A3 r.n3 r.c3] 33)).alloc (.cells #[.slice none 0 0, .slice none 0 0, .int .i64 0, .slice none 0 0] 33)).alloc (.cells hd0.cs.toArray 28) := ⟨_, rfl⟩
  have A1 := Lib.hid (show Blk W w.heap.size 33 #[.slice r.A1 r.n1 r.c1, .slice r.A2 r.n2 r.c2, .int .i64 (s : Int), .slice r.A3 r.n3 r.c3] from by rw [hW]; exact ((Blk.new w _ _).alloc _).alloc _)
  have A2 := Lib.hid (show Blk W (w.heap.size + 1) 33 #[.slice none 0 0, .slice none 0 0, .int .i64 0, .slice none 0 0] from by rw [hW]; exact (blk_new1 w _ _ _).alloc _)
  have A3 := Lib.hid (show Blk W (w.heap.size + 1 + 1) 28 hd0.cs.toArray from by rw [hW]; exact blk_at8 _ _ _ _ (by simp))
  have AR := Lib.hid (show RefAt W r R z from by rw [hW]; exact ((h.alloc _).alloc _).alloc _)
  have AL := Lib.hid (show Below w.heap.size w W from by rw [hW]; exact (((Below.refl w.heap.size w).alloc (Nat.le_refl _) _).alloc (by simp) _).alloc (by simp; omega) _)
  clear h rb
  go_enter Try.func17, Try.ntmps17
  go_wp2_with fail
  rw [← hW]
  clear hW
  go_wp2_with (first
    | (refine wpList_load_mid rfl 33 (.tmp 1) rfl w.heap.size 0 rfl [.slice r.A1 r.n1 r.c1, .slice r.A2 r.n2 r.c2, .int .i64 (s : Int), .slice r.A3 r.n3 r.c3] _ (Blk.rangeAt A1.out) Try.underlying33 rfl size43 ?_)
    | (go_at_call 19; refine (RB.out _ AR.out).mono ?_; rintro e V1 ⟨rfl, hb⟩; have B2 := Lib.hid ((((A2.out.below hb A2.out.lt).alloc (.cells #[.slice none 0 0, .slice none 0 0, .int .i64 0, .slice none 0 0] 33)).alloc (.cells (cs2 hd0 hd0).toArray 49)).alloc (.cells #[.bool false, .bool false] 50)); have B3 := Lib.hid ((((A3.out.below hb A3.out.lt).alloc (.cells #[.slice none 0 0, .slice none 0 0, .int .i64 0, .slice none 0 0] 33)).alloc (.cells (cs2 hd0 hd0).toArray 49)).alloc (.cells #[.bool false, .bool false] 50)); have GT := Lib.hid (show w.heap.size + 1 + 1 < V1.heap.size from (A3.out.below hb A3.out.lt).lt); have L1 := Lib.hid (AL.out.trans (hb.mono AL.out.size)); have LA := Lib.hid (((L1.out.alloc L1.out.size (.cells #[.slice none 0 0, .slice none 0 0, .int .i64 0, .slice none 0 0] 33)).alloc (by simp; have := L1.out.size; omega) (.cells (cs2 hd0 hd0).toArray 49)).alloc (by simp; have := L1.out.size; omega) (.cells #[.bool false, .bool false] 50)); have J6 := Lib.hid (((Blk.new V1 33 #[.slice none 0 0, .slice none 0 0, .int .i64 0, .slice none 0 0]).alloc (.cells (cs2 hd0 hd0).toArray 49)).alloc (.cells #[.bool false, .bool false] 50)); have J7 := Lib.hid ((blk_new1 V1 (.cells #[.slice none 0 0, .slice none 0 0, .int .i64 0, .slice none 0 0] 33) 49 (cs2 hd0 hd0).toArray).alloc (.cells #[.bool false, .bool false] 50)); have J8 := Lib.hid (show Blk (((V1.alloc (.cells #[.slice none 0 0, .slice none 0 0, .int .i64 0, .slice none 0 0] 33)).alloc (.cells (cs2 hd0 hd0).toArray 49)).alloc (.cells #[.bool false, .bool false] 50)) (V1.heap.size + 1 + 1) 50 #[.bool false, .bool false] from blk_at8 _ _ _ _ (by simp)); clear hb A1 A2 A3 AR AL)
    | (refine wpList_store_g8 rfl 33 (.tmp 6) (.tmp 13) rfl (g := V1.heap.size) (by rfl) #[.slice r.A1 r.n1 r.c1, .slice r.A2 r.n2 r.c2, .int .i64 (t : Int), .slice r.A3 r.n3 r.c3] #[.slice none 0 0, .slice none 0 0, .int .i64 0, .slice none 0 0] 33 (by rfl) J6.out (size43c8 _ _ _ _) rfl (one43c8 _ _ _ _ _ _ _ _ _) ?_; intro V2 j f; have M6 := Lib.hid j; have M7 := Lib.hid (f.keepBlk J7.out (by omega)); have M8 := Lib.hid (f.keepBlk J8.out (by omega)); have C2 := Lib.hid (f.keepBlk B2.out (by have := GT.out; omega)); have C3 := Lib.hid (f.keepBlk B3.out (by have := GT.out; omega)); have LB := Lib.hid (LA.out.trans (f.to_below (fun k e => by have := L1.out.size; omega) LA.out.size)); clear j f J6 J7 J8 B2 B3 LA)
    | (refine wpList_store_g8 rfl 49 (.tmp 7) (.tmp 14) rfl (g := V1.heap.size + 1) (by rfl) (cs2 x0 x1).toArray (cs2 hd0 hd0).toArray 49 (by rfl) M7.out (by kernel_rfl) rfl (cs2_one _ _) ?_; intro V3 j f; have N7 := Lib.hid j; have N6 := Lib.hid (f.keepBlk M6.out (by omega)); have N8 := Lib.hid (f.keepBlk M8.out (by omega)); have E2 := Lib.hid (f.keepBlk C2.out (by have := GT.out; omega)); have E3 := Lib.hid (f.keepBlk C3.out (by have := GT.out; omega)); have LC := Lib.hid (LB.out.trans (f.to_below (fun k e => by have := L1.out.size; omega) LB.out.size)); clear j f M6 M7 M8 C2 C3 LB)
    | (refine wpList_store_g8 rfl 50 (.tmp 8) (.tmp 15) rfl (g := V1.heap.size + 1 + 1) (by rfl) #[.bool false, .bool false] #[.bool false, .bool false] 50 (by rfl) N8.out (by kernel_rfl) rfl (by simp [Value.oneCell']) ?_; intro V4 j f; have K8 := Lib.hid j; have K6 := Lib.hid (f.keepBlk N6.out (by omega)); have K7 := Lib.hid (f.keepBlk N7.out (by omega)); have G2 := Lib.hid (f.keepBlk E2.out (by have := GT.out; omega)); have G3 := Lib.hid (f.keepBlk E3.out (by have := GT.out; omega)); have LD := Lib.hid (LC.out.trans (f.to_below (fun k e => by have := L1.out.size; omega) LC.out.size)); have q0 := (K8.out.cell 0).trans (show _ = some (.bool false) from rfl); have q1 := (K8.out.cell 1).trans (show _ = some (.bool false) from rfl); have r0 := (K7.out.cell 0).trans (show _ = some (.int .i64 x0.e) from rfl); have r3 := (K7.out.cell 3).trans (show _ = some (.int .i64 x1.e) from rfl); clear j f N6 N7 N8 E2 E3 LC)
    | (refine wpList_load_mid rfl 33 (.tmp 6) rfl V1.heap.size 0 rfl [.slice r.A1 r.n1 r.c1, .slice r.A2 r.n2 r.c2, .int .i64 (t : Int), .slice r.A3 r.n3 r.c3] _ (Blk.rangeAt K6.out) Try.underlying33 rfl size43 ?_)
    | (refine wpList_store_g8 rfl 33 (.tmp 2) (.tmp 19) rfl (g := w.heap.size + 1) (by rfl) #[.slice r.A1 r.n1 r.c1, .slice r.A2 r.n2 r.c2, .int .i64 (t : Int), .slice r.A3 r.n3 r.c3] #[.slice none 0 0, .slice none 0 0, .int .i64 0, .slice none 0 0] 33 (by rfl) G2.out (size43c8 _ _ _ _) rfl (one43c8 _ _ _ _ _ _ _ _ _) ?_; intro V5 j f; have R2 := Lib.hid j; have H3 := Lib.hid (f.keepBlk G3.out (by omega)); have LE := Lib.hid (LD.out.trans (f.to_below (fun k e => by omega) LD.out.size)); clear j f)
    | (refine wpList_store_g8 rfl 28 (.tmp 3) (.tmp 20) rfl (g := w.heap.size + 1 + 1) (by rfl) hd0.cs.toArray hd0.cs.toArray 28 (by rfl) H3.out (by kernel_rfl) rfl (one23 _) ?_; intro V6 j f; have R3 := Lib.hid j; have R2b := Lib.hid (f.keepBlk R2.out (by omega)); have LF := Lib.hid (LE.out.trans (f.to_below (fun k e => by omega) LE.out.size)); clear j f))
  exact bodyPost_ret (results_rread rfl _ _ (w.heap.size + 1) (w.heap.size + 1 + 1) #[.slice r.A1 r.n1 r.c1, .slice r.A2 r.n2 r.c2, .int .i64 (t : Int), .slice r.A3 r.n3 r.c3] rfl hd0 rfl rfl R2b.out R3.out) rfl ⟨rfl, LF.out⟩
set_option maxRecDepth 100000 in
set_option maxHeartbeats 600000 in
theorem rrd_none {w : World} {r : Rp} {R : Rf} {s z t : Nat} {x0 x1 : Hd}  (h : RefAt w r R z)
    (rb : ∀ W : World, RefAt W r R z → Calls Try.prog 19 #[r.val s] W fun e w' => e = .returned (.tuple #[r.val t, .agg (cs2 x0 x1).toArray, .agg #[.bool false, .bool false], .int .i64 0]) ∧ Below W.heap.size W w') :
    Calls Try.prog 17 #[r.val s] w fun e w' => e = .returned (.tuple #[r.val t, hd0.val, .int .i64 0, .int .i64 180]) ∧ Below w.heap.size w w' := by
  have hz := z43
  have hz2 := z23
  have hz52 := z52
  have hz53 := z53
  have RB := Lib.hid rb
  obtain ⟨W, hW⟩ : ∃ W, W = ((w.alloc (.cells #[.slice r.A1 r.n1 r.c1, .slice r.A2 r.n2 r.c2, .int .i64 (s : Int), .slice r.A3 r.n3 r.c3] 33)).alloc (.cells #[.slice none 0 0, .slice none 0 0, .int .i64 0, .slice none 0 0] 33)).alloc (.cells hd0.cs.toArray 28) := ⟨_, rfl⟩
  have A1 := Lib.hid (show Blk W w.heap.size 33 #[.slice r.A1 r.n1 r.c1, .slice r.A2 r.n2 r.c2, .int .i64 (s : Int), .slice r.A3 r.n3 r.c3] from by rw [hW]; exact ((Blk.new w _ _).alloc _).alloc _)
  have A2 := Lib.hid (show Blk W (w.heap.size + 1) 33 #[.slice none 0 0, .slice none 0 0, .int .i64 0, .slice none 0 0] from by rw [hW]; exact (blk_new1 w _ _ _).alloc _)
  have A3 := Lib.hid (show Blk W (w.heap.size + 1 + 1) 28 hd0.cs.toArray from by rw [hW]; exact blk_at8 _ _ _ _ (by simp))
  have AR := Lib.hid (show RefAt W r R z from by rw [hW]; exact ((h.alloc _).alloc _).alloc _)
  have AL := Lib.hid (show Below w.heap.size w W from by rw [hW]; exact (((Below.refl w.heap.size w).alloc (Nat.le_refl _) _).alloc (by simp) _).alloc (by simp; omega) _)
  clear h rb
  go_enter Try.func17, Try.ntmps17
  go_wp2_with fail
  rw [← hW]
  clear hW
  go_wp2_with (first
    | (refine wpList_load_mid rfl 33 (.tmp 1) rfl w.heap.size 0 rfl [.slice r.A1 r.n1 r.c1, .slice r.A2 r.n2 r.c2, .int .i64 (s : Int), .slice r.A3 r.n3 r.c3] _ (Blk.rangeAt A1.out) Try.underlying33 rfl size43 ?_)
    | (go_at_call 19; refine (RB.out _ AR.out).mono ?_; rintro e V1 ⟨rfl, hb⟩; have B2 := Lib.hid ((((A2.out.below hb A2.out.lt).alloc (.cells #[.slice none 0 0, .slice none 0 0, .int .i64 0, .slice none 0 0] 33)).alloc (.cells (cs2 hd0 hd0).toArray 49)).alloc (.cells #[.bool false, .bool false] 50)); have B3 := Lib.hid ((((A3.out.below hb A3.out.lt).alloc (.cells #[.slice none 0 0, .slice none 0 0, .int .i64 0, .slice none 0 0] 33)).alloc (.cells (cs2 hd0 hd0).toArray 49)).alloc (.cells #[.bool false, .bool false] 50)); have GT := Lib.hid (show w.heap.size + 1 + 1 < V1.heap.size from (A3.out.below hb A3.out.lt).lt); have L1 := Lib.hid (AL.out.trans (hb.mono AL.out.size)); have LA := Lib.hid (((L1.out.alloc L1.out.size (.cells #[.slice none 0 0, .slice none 0 0, .int .i64 0, .slice none 0 0] 33)).alloc (by simp; have := L1.out.size; omega) (.cells (cs2 hd0 hd0).toArray 49)).alloc (by simp; have := L1.out.size; omega) (.cells #[.bool false, .bool false] 50)); have J6 := Lib.hid (((Blk.new V1 33 #[.slice none 0 0, .slice none 0 0, .int .i64 0, .slice none 0 0]).alloc (.cells (cs2 hd0 hd0).toArray 49)).alloc (.cells #[.bool false, .bool false] 50)); have J7 := Lib.hid ((blk_new1 V1 (.cells #[.slice none 0 0, .slice none 0 0, .int .i64 0, .slice none 0 0] 33) 49 (cs2 hd0 hd0).toArray).alloc (.cells #[.bool false, .bool false] 50)); have J8 := Lib.hid (show Blk (((V1.alloc (.cells #[.slice none 0 0, .slice none 0 0, .int .i64 0, .slice none 0 0] 33)).alloc (.cells (cs2 hd0 hd0).toArray 49)).alloc (.cells #[.bool false, .bool false] 50)) (V1.heap.size + 1 + 1) 50 #[.bool false, .bool false] from blk_at8 _ _ _ _ (by simp)); clear hb A1 A2 A3 AR AL)
    | (refine wpList_store_g8 rfl 33 (.tmp 6) (.tmp 13) rfl (g := V1.heap.size) (by rfl) #[.slice r.A1 r.n1 r.c1, .slice r.A2 r.n2 r.c2, .int .i64 (t : Int), .slice r.A3 r.n3 r.c3] #[.slice none 0 0, .slice none 0 0, .int .i64 0, .slice none 0 0] 33 (by rfl) J6.out (size43c8 _ _ _ _) rfl (one43c8 _ _ _ _ _ _ _ _ _) ?_; intro V2 j f; have M6 := Lib.hid j; have M7 := Lib.hid (f.keepBlk J7.out (by omega)); have M8 := Lib.hid (f.keepBlk J8.out (by omega)); have C2 := Lib.hid (f.keepBlk B2.out (by have := GT.out; omega)); have C3 := Lib.hid (f.keepBlk B3.out (by have := GT.out; omega)); have LB := Lib.hid (LA.out.trans (f.to_below (fun k e => by have := L1.out.size; omega) LA.out.size)); clear j f J6 J7 J8 B2 B3 LA)
    | (refine wpList_store_g8 rfl 49 (.tmp 7) (.tmp 14) rfl (g := V1.heap.size + 1) (by rfl) (cs2 x0 x1).toArray (cs2 hd0 hd0).toArray 49 (by rfl) M7.out (by kernel_rfl) rfl (cs2_one _ _) ?_; intro V3 j f; have N7 := Lib.hid j; have N6 := Lib.hid (f.keepBlk M6.out (by omega)); have N8 := Lib.hid (f.keepBlk M8.out (by omega)); have E2 := Lib.hid (f.keepBlk C2.out (by have := GT.out; omega)); have E3 := Lib.hid (f.keepBlk C3.out (by have := GT.out; omega)); have LC := Lib.hid (LB.out.trans (f.to_below (fun k e => by have := L1.out.size; omega) LB.out.size)); clear j f M6 M7 M8 C2 C3 LB)
    | (refine wpList_store_g8 rfl 50 (.tmp 8) (.tmp 15) rfl (g := V1.heap.size + 1 + 1) (by rfl) #[.bool false, .bool false] #[.bool false, .bool false] 50 (by rfl) N8.out (by kernel_rfl) rfl (by simp [Value.oneCell']) ?_; intro V4 j f; have K8 := Lib.hid j; have K6 := Lib.hid (f.keepBlk N6.out (by omega)); have K7 := Lib.hid (f.keepBlk N7.out (by omega)); have G2 := Lib.hid (f.keepBlk E2.out (by have := GT.out; omega)); have G3 := Lib.hid (f.keepBlk E3.out (by have := GT.out; omega)); have LD := Lib.hid (LC.out.trans (f.to_below (fun k e => by have := L1.out.size; omega) LC.out.size)); have q0 := (K8.out.cell 0).trans (show _ = some (.bool false) from rfl); have q1 := (K8.out.cell 1).trans (show _ = some (.bool false) from rfl); have r0 := (K7.out.cell 0).trans (show _ = some (.int .i64 x0.e) from rfl); have r3 := (K7.out.cell 3).trans (show _ = some (.int .i64 x1.e) from rfl); clear j f N6 N7 N8 E2 E3 LC)
    | (refine wpList_load_mid rfl 33 (.tmp 6) rfl V1.heap.size 0 rfl [.slice r.A1 r.n1 r.c1, .slice r.A2 r.n2 r.c2, .int .i64 (t : Int), .slice r.A3 r.n3 r.c3] _ (Blk.rangeAt K6.out) Try.underlying33 rfl size43 ?_)
    | (refine wpList_store_g8 rfl 33 (.tmp 2) (.tmp 30) rfl (g := w.heap.size + 1) (by rfl) #[.slice r.A1 r.n1 r.c1, .slice r.A2 r.n2 r.c2, .int .i64 (t : Int), .slice r.A3 r.n3 r.c3] #[.slice none 0 0, .slice none 0 0, .int .i64 0, .slice none 0 0] 33 (by rfl) G2.out (size43c8 _ _ _ _) rfl (one43c8 _ _ _ _ _ _ _ _ _) ?_; intro V5 j f; have R2 := Lib.hid j; have H3 := Lib.hid (f.keepBlk G3.out (by omega)); have LE := Lib.hid (LD.out.trans (f.to_below (fun k e => by omega) LD.out.size)); clear j f)
    | (refine wpList_store_g8 rfl 28 (.tmp 3) (.tmp 31) rfl (g := w.heap.size + 1 + 1) (by rfl) hd0.cs.toArray hd0.cs.toArray 28 (by rfl) H3.out (by kernel_rfl) rfl (one23 _) ?_; intro V6 j f; have R3 := Lib.hid j; have R2b := Lib.hid (f.keepBlk R2.out (by omega)); have LF := Lib.hid (LE.out.trans (f.to_below (fun k e => by omega) LE.out.size)); clear j f))
  exact bodyPost_ret (results_rread rfl _ _ (w.heap.size + 1) (w.heap.size + 1 + 1) #[.slice r.A1 r.n1 r.c1, .slice r.A2 r.n2 r.c2, .int .i64 (t : Int), .slice r.A3 r.n3 r.c3] rfl hd0 rfl rfl R2b.out R3.out) rfl ⟨rfl, LF.out⟩
set_option maxRecDepth 100000 in
set_option maxHeartbeats 600000 in
theorem rrd_one {w : World} {r : Rp} {R : Rf} {s z t : Nat} {x0 x1 : Hd}  (h : RefAt w r R z)
    (rb : ∀ W : World, RefAt W r R z → Calls Try.prog 19 #[r.val s] W fun e w' => e = .returned (.tuple #[r.val t, .agg (cs2 x0 x1).toArray, .agg #[.bool true, .bool false], .int .i64 0]) ∧ Below W.heap.size W w') :
    Calls Try.prog 17 #[r.val s] w fun e w' => e = .returned (.tuple #[r.val t, x0.val, .int .i64 0, .int .i64 0]) ∧ Below w.heap.size w w' := by
  have hz := z43
  have hz2 := z23
  have hz52 := z52
  have hz53 := z53
  have RB := Lib.hid rb
  obtain ⟨W, hW⟩ : ∃ W, W = ((w.alloc (.cells #[.slice r.A1 r.n1 r.c1, .slice r.A2 r.n2 r.c2, .int .i64 (s : Int), .slice r.A3 r.n3 r.c3] 33)).alloc (.cells #[.slice none 0 0, .slice none 0 0, .int .i64 0, .slice none 0 0] 33)).alloc (.cells hd0.cs.toArray 28) := ⟨_, rfl⟩
  have A1 := Lib.hid (show Blk W w.heap.size 33 #[.slice r.A1 r.n1 r.c1, .slice r.A2 r.n2 r.c2, .int .i64 (s : Int), .slice r.A3 r.n3 r.c3] from by rw [hW]; exact ((Blk.new w _ _).alloc _).alloc _)
  have A2 := Lib.hid (show Blk W (w.heap.size + 1) 33 #[.slice none 0 0, .slice none 0 0, .int .i64 0, .slice none 0 0] from by rw [hW]; exact (blk_new1 w _ _ _).alloc _)
  have A3 := Lib.hid (show Blk W (w.heap.size + 1 + 1) 28 hd0.cs.toArray from by rw [hW]; exact blk_at8 _ _ _ _ (by simp))
  have AR := Lib.hid (show RefAt W r R z from by rw [hW]; exact ((h.alloc _).alloc _).alloc _)
  have AL := Lib.hid (show Below w.heap.size w W from by rw [hW]; exact (((Below.refl w.heap.size w).alloc (Nat.le_refl _) _).alloc (by simp) _).alloc (by simp; omega) _)
  clear h rb
  go_enter Try.func17, Try.ntmps17
  go_wp2_with fail
  rw [← hW]
  clear hW
  go_wp2_with (first
    | ((with_reducible show wpList _ _ _ ({ dst := some 22, op := _, type := _, pos := _, after := _, guard := _ } :: _) _ _); (with_reducible refine wpList_y8 (S := fun w' => w' = V4) (v := ?v22) ?hy22 rfl ?_); (case hy22 => (refine Or.inl ⟨by rfl, ?_⟩; rintro w' rfl; go_simp; first | done | with_reducible rfl)); try simp only [Act.put, List.setIfInBounds_toArray, List.set_cons_zero, List.set_cons_succ]; (with_reducible refine wpList_y8 (S := fun w' => w' = V4) (v := ?v23) ?hy23 rfl ?_); (case hy23 => (refine Or.inl ⟨by rfl, ?_⟩; rintro w' rfl; go_simp; first | done | with_reducible rfl)); try simp only [Act.put, List.setIfInBounds_toArray, List.set_cons_zero, List.set_cons_succ]; (with_reducible refine wpList_y8 (S := fun w' => w' = V4) (v := ?v24) ?hy24 rfl ?_); (case hy24 => (refine Or.inl ⟨by rfl, ?_⟩; rintro w' rfl; go_simp; first | done | with_reducible rfl)); try simp only [Act.put, List.setIfInBounds_toArray, List.set_cons_zero, List.set_cons_succ]; (with_reducible refine wpList_y8 (S := fun w' => w' = V4) (v := ?v25) ?hy25 rfl ?_); (case hy25 => (refine Or.inl ⟨by rfl, ?_⟩; rintro w' rfl; go_simp; first | done | with_reducible rfl)); try simp only [Act.put, List.setIfInBounds_toArray, List.set_cons_zero, List.set_cons_succ]; (with_reducible refine wpList_skip ?sk26 ?_); (case sk26 => rfl); try simp only [Act.put, List.setIfInBounds_toArray, List.set_cons_zero, List.set_cons_succ]; (with_reducible refine wpList_skip ?sk27 ?_); (case sk27 => rfl); try simp only [Act.put, List.setIfInBounds_toArray, List.set_cons_zero, List.set_cons_succ]; (with_reducible refine wpList_skip ?sk28 ?_); (case sk28 => rfl); try simp only [Act.put, List.setIfInBounds_toArray, List.set_cons_zero, List.set_cons_succ]; (with_reducible refine wpList_y8 (S := fun w' => w' = V4) (v := ?v29) ?hy29 rfl ?_); (case hy29 => (refine Or.inl ⟨by rfl, ?_⟩; rintro w' rfl; go_simp; first | done | with_reducible rfl)); try simp only [Act.put, List.setIfInBounds_toArray, List.set_cons_zero, List.set_cons_succ])
    | ((with_reducible show wpList _ _ _ ({ dst := some 32, op := _, type := _, pos := _, after := _, guard := _ } :: _) _ _); (with_reducible refine wpList_y8 (S := fun w' => w' = V4) (v := ?v32) ?hy32 rfl ?_); (case hy32 => (refine Or.inl ⟨by rfl, ?_⟩; rintro w' rfl; go_simp; first | done | with_reducible rfl)); try simp only [Act.put, List.setIfInBounds_toArray, List.set_cons_zero, List.set_cons_succ]; (with_reducible refine wpList_y8 (S := fun w' => w' = V4) (v := ?v33) ?hy33 rfl ?_); (case hy33 => (refine Or.inl ⟨by rfl, ?_⟩; rintro w' rfl; go_simp; first | done | with_reducible rfl)); try simp only [Act.put, List.setIfInBounds_toArray, List.set_cons_zero, List.set_cons_succ]; (with_reducible refine wpList_y8 (S := fun w' => w' = V4) (v := ?v34) ?hy34 rfl ?_); (case hy34 => (refine Or.inl ⟨by rfl, ?_⟩; rintro w' rfl; go_simp; first | done | with_reducible rfl)); try simp only [Act.put, List.setIfInBounds_toArray, List.set_cons_zero, List.set_cons_succ]; (with_reducible refine wpList_y8 (S := fun w' => w' = V4) (v := ?v35) ?hy35 rfl ?_); (case hy35 => (refine Or.inl ⟨by rfl, ?_⟩; rintro w' rfl; go_simp; first | done | with_reducible rfl)); try simp only [Act.put, List.setIfInBounds_toArray, List.set_cons_zero, List.set_cons_succ]; (with_reducible refine wpList_y8 (S := fun w' => w' = V4) (v := ?v36) ?hy36 rfl ?_); (case hy36 => (refine Or.inl ⟨by rfl, ?_⟩; rintro w' rfl; go_simp; first | done | with_reducible rfl)); try simp only [Act.put, List.setIfInBounds_toArray, List.set_cons_zero, List.set_cons_succ]; (with_reducible refine wpList_y8 (S := fun w' => w' = V4) (v := ?v37) ?hy37 rfl ?_); (case hy37 => (refine Or.inl ⟨by rfl, ?_⟩; rintro w' rfl; go_simp; first | done | with_reducible rfl)); try simp only [Act.put, List.setIfInBounds_toArray, List.set_cons_zero, List.set_cons_succ]; (with_reducible refine wpList_y8 (S := fun w' => w' = V4) (v := ?v38) ?hy38 rfl ?_); (case hy38 => (refine Or.inl ⟨by rfl, ?_⟩; rintro w' rfl; go_simp; first | done | with_reducible rfl)); try simp only [Act.put, List.setIfInBounds_toArray, List.set_cons_zero, List.set_cons_succ]; (with_reducible refine wpList_skip ?sk39 ?_); (case sk39 => rfl); try simp only [Act.put, List.setIfInBounds_toArray, List.set_cons_zero, List.set_cons_succ]; (with_reducible refine wpList_skip ?sk40 ?_); (case sk40 => rfl); try simp only [Act.put, List.setIfInBounds_toArray, List.set_cons_zero, List.set_cons_succ]; (with_reducible refine wpList_skip ?sk41 ?_); (case sk41 => rfl); try simp only [Act.put, List.setIfInBounds_toArray, List.set_cons_zero, List.set_cons_succ]; (with_reducible refine wpList_skip ?sk42 ?_); (case sk42 => rfl); try simp only [Act.put, List.setIfInBounds_toArray, List.set_cons_zero, List.set_cons_succ]; (with_reducible refine wpList_skip ?sk43 ?_); (case sk43 => rfl); try simp only [Act.put, List.setIfInBounds_toArray, List.set_cons_zero, List.set_cons_succ]; (with_reducible refine wpList_skip ?sk44 ?_); (case sk44 => rfl); try simp only [Act.put, List.setIfInBounds_toArray, List.set_cons_zero, List.set_cons_succ]; (with_reducible refine wpList_skip ?sk45 ?_); (case sk45 => rfl); try simp only [Act.put, List.setIfInBounds_toArray, List.set_cons_zero, List.set_cons_succ]; (with_reducible refine wpList_y8 (S := fun w' => w' = V4) (v := ?v46) ?hy46 rfl ?_); (case hy46 => (refine Or.inl ⟨by rfl, ?_⟩; rintro w' rfl; go_simp; first | done | with_reducible rfl)); try simp only [Act.put, List.setIfInBounds_toArray, List.set_cons_zero, List.set_cons_succ]; (with_reducible refine wpList_y8 (S := fun w' => w' = V4) (v := ?v47) ?hy47 rfl ?_); (case hy47 => (refine Or.inl ⟨by rfl, ?_⟩; rintro w' rfl; go_simp; first | done | with_reducible rfl)); try simp only [Act.put, List.setIfInBounds_toArray, List.set_cons_zero, List.set_cons_succ])
    | (refine wpList_load_mid rfl 33 (.tmp 1) rfl w.heap.size 0 rfl [.slice r.A1 r.n1 r.c1, .slice r.A2 r.n2 r.c2, .int .i64 (s : Int), .slice r.A3 r.n3 r.c3] _ (Blk.rangeAt A1.out) Try.underlying33 rfl size43 ?_)
    | (go_at_call 19; refine (RB.out _ AR.out).mono ?_; rintro e V1 ⟨rfl, hb⟩; have B2 := Lib.hid ((((A2.out.below hb A2.out.lt).alloc (.cells #[.slice none 0 0, .slice none 0 0, .int .i64 0, .slice none 0 0] 33)).alloc (.cells (cs2 hd0 hd0).toArray 49)).alloc (.cells #[.bool false, .bool false] 50)); have B3 := Lib.hid ((((A3.out.below hb A3.out.lt).alloc (.cells #[.slice none 0 0, .slice none 0 0, .int .i64 0, .slice none 0 0] 33)).alloc (.cells (cs2 hd0 hd0).toArray 49)).alloc (.cells #[.bool false, .bool false] 50)); have GT := Lib.hid (show w.heap.size + 1 + 1 < V1.heap.size from (A3.out.below hb A3.out.lt).lt); have L1 := Lib.hid (AL.out.trans (hb.mono AL.out.size)); have LA := Lib.hid (((L1.out.alloc L1.out.size (.cells #[.slice none 0 0, .slice none 0 0, .int .i64 0, .slice none 0 0] 33)).alloc (by simp; have := L1.out.size; omega) (.cells (cs2 hd0 hd0).toArray 49)).alloc (by simp; have := L1.out.size; omega) (.cells #[.bool false, .bool false] 50)); have J6 := Lib.hid (((Blk.new V1 33 #[.slice none 0 0, .slice none 0 0, .int .i64 0, .slice none 0 0]).alloc (.cells (cs2 hd0 hd0).toArray 49)).alloc (.cells #[.bool false, .bool false] 50)); have J7 := Lib.hid ((blk_new1 V1 (.cells #[.slice none 0 0, .slice none 0 0, .int .i64 0, .slice none 0 0] 33) 49 (cs2 hd0 hd0).toArray).alloc (.cells #[.bool false, .bool false] 50)); have J8 := Lib.hid (show Blk (((V1.alloc (.cells #[.slice none 0 0, .slice none 0 0, .int .i64 0, .slice none 0 0] 33)).alloc (.cells (cs2 hd0 hd0).toArray 49)).alloc (.cells #[.bool false, .bool false] 50)) (V1.heap.size + 1 + 1) 50 #[.bool false, .bool false] from blk_at8 _ _ _ _ (by simp)); clear hb A1 A2 A3 AR AL)
    | (refine wpList_store_g8 rfl 33 (.tmp 6) (.tmp 13) rfl (g := V1.heap.size) (by rfl) #[.slice r.A1 r.n1 r.c1, .slice r.A2 r.n2 r.c2, .int .i64 (t : Int), .slice r.A3 r.n3 r.c3] #[.slice none 0 0, .slice none 0 0, .int .i64 0, .slice none 0 0] 33 (by rfl) J6.out (size43c8 _ _ _ _) rfl (one43c8 _ _ _ _ _ _ _ _ _) ?_; intro V2 j f; have M6 := Lib.hid j; have M7 := Lib.hid (f.keepBlk J7.out (by omega)); have M8 := Lib.hid (f.keepBlk J8.out (by omega)); have C2 := Lib.hid (f.keepBlk B2.out (by have := GT.out; omega)); have C3 := Lib.hid (f.keepBlk B3.out (by have := GT.out; omega)); have LB := Lib.hid (LA.out.trans (f.to_below (fun k e => by have := L1.out.size; omega) LA.out.size)); clear j f J6 J7 J8 B2 B3 LA)
    | (refine wpList_store_g8 rfl 49 (.tmp 7) (.tmp 14) rfl (g := V1.heap.size + 1) (by rfl) (cs2 x0 x1).toArray (cs2 hd0 hd0).toArray 49 (by rfl) M7.out (by kernel_rfl) rfl (cs2_one _ _) ?_; intro V3 j f; have N7 := Lib.hid j; have N6 := Lib.hid (f.keepBlk M6.out (by omega)); have N8 := Lib.hid (f.keepBlk M8.out (by omega)); have E2 := Lib.hid (f.keepBlk C2.out (by have := GT.out; omega)); have E3 := Lib.hid (f.keepBlk C3.out (by have := GT.out; omega)); have LC := Lib.hid (LB.out.trans (f.to_below (fun k e => by have := L1.out.size; omega) LB.out.size)); clear j f M6 M7 M8 C2 C3 LB)
    | (refine wpList_store_g8 rfl 50 (.tmp 8) (.tmp 15) rfl (g := V1.heap.size + 1 + 1) (by rfl) #[.bool true, .bool false] #[.bool false, .bool false] 50 (by rfl) N8.out (by kernel_rfl) rfl (by simp [Value.oneCell']) ?_; intro V4 j f; have K8 := Lib.hid j; have K6 := Lib.hid (f.keepBlk N6.out (by omega)); have K7 := Lib.hid (f.keepBlk N7.out (by omega)); have G2 := Lib.hid (f.keepBlk E2.out (by have := GT.out; omega)); have G3 := Lib.hid (f.keepBlk E3.out (by have := GT.out; omega)); have LD := Lib.hid (LC.out.trans (f.to_below (fun k e => by have := L1.out.size; omega) LC.out.size)); have q0 := (K8.out.cell 0).trans (show _ = some (.bool true) from rfl); have q1 := (K8.out.cell 1).trans (show _ = some (.bool false) from rfl); clear j f N6 N7 N8 E2 E3 LC))
  clear q0 q1
  replace K6 := Lib.hid (blk_drew K6.out)
  replace K7 := Lib.hid (blk_drew K7.out)
  replace G2 := Lib.hid (blk_drew G2.out)
  replace G3 := Lib.hid (blk_drew G3.out)
  replace LD := Lib.hid LD.out.drew
  refine wp_region_only (S := fun w' => Blk w' V1.heap.size 33 #[.slice r.A1 r.n1 r.c1, .slice r.A2 r.n2 r.c2, .int .i64 (t : Int), .slice r.A3 r.n3 r.c3] ∧ Blk w' (V1.heap.size + 1) 49 (cs2 x0 x1).toArray) (by kernel_rfl) ⟨K6.out, K7.out⟩ (fun hHeld => ?_)
  refine wpAnyH_take (i := 0) rfl (by kernel_rfl) (by kernel_rfl) (by kernel_rfl) (fun _ _ _ h => h) (yieldsIf_load_mid (by rfl) 33 (.tmp 6) (by rfl) V1.heap.size 0 (by rfl) [.slice r.A1 r.n1 r.c1, .slice r.A2 r.n2 r.c2, .int .i64 (t : Int), .slice r.A3 r.n3 r.c3] _ (fun w' hSw => Blk.rangeAt hSw.1) Try.underlying33 rfl size43) hHeld ?_
  try simp only [Act.put, List.getElem_toArray, List.getElem_cons_zero, List.setIfInBounds_toArray, List.set_cons_zero, List.set_cons_succ]
  refine wpAnyH_take (i := 1) (v := ?v1) rfl (by kernel_rfl) (by kernel_rfl) (by kernel_rfl) (fun _ _ _ h => h) (Or.inl ⟨by rfl, ?hy1⟩) hHeld ?rest1
  case hy1 =>
    intro w' hSw
    try dsimp only at hSw
    go_simp
    first | done | with_reducible rfl
  try simp only [Act.put, List.getElem_toArray, List.getElem_cons_succ, List.getElem_cons_zero, List.setIfInBounds_toArray, List.set_cons_zero, List.set_cons_succ]
  refine wpAnyH_take (i := 2) rfl (by kernel_rfl) (by kernel_rfl) (by kernel_rfl) (fun _ _ _ h => h) (yieldsIf_load_mid (by rfl) 28 (.tmp 49) (by rfl) (V1.heap.size + 1) 0 (by rfl) x0.cs _ (fun w' hSw => cs2_fst (Blk.rangeAt (l := cs2 x0 x1) hSw.2)) Try.underlying28 rfl (size23 _)) hHeld ?_
  try simp only [Act.put, List.getElem_toArray, List.getElem_cons_succ, List.getElem_cons_zero, List.setIfInBounds_toArray, List.set_cons_zero, List.set_cons_succ]
  refine wpAnyH_ready (rs := [3]) (by kernel_rfl) (by simp) ?_
  refine AllReadyH.cons (by rfl) (fun K hK => ?_) AllReadyH.nil
  refine step_store8 rfl 33 (.tmp 2) (.tmp 48) rfl (by rfl) #[.slice r.A1 r.n1 r.c1, .slice r.A2 r.n2 r.c2, .int .i64 (t : Int), .slice r.A3 r.n3 r.c3] #[.slice none 0 0, .slice none 0 0, .int .i64 0, .slice none 0 0] 33 (by rfl) G2.out (size43c8 _ _ _ _) rfl (one43c8 _ _ _ _ _ _ _ _ _) ?_
  intro V5 j f
  have R2 := Lib.hid j
  have H3 := Lib.hid (f.keepBlk G3.out (by omega))
  have K6 := Lib.hid (f.keepBlk K6.out (by have := GT.out; omega))
  have K7 := Lib.hid (f.keepBlk K7.out (by have := GT.out; omega))
  have LE := Lib.hid (LD.out.trans (f.to_below (fun k e => by omega) LD.out.size))
  clear hHeld j f
  refine hK.out _ _ ⟨K6.out, K7.out⟩ (fun hHeld => ?_)
  clear hK K
  try simp only [Act.put, List.getElem_toArray, List.getElem_cons_succ, List.getElem_cons_zero]
  refine wpAnyH_ready (rs := [4]) (by kernel_rfl) (by simp) ?_
  refine AllReadyH.cons (by rfl) (fun K hK => ?_) AllReadyH.nil
  refine step_store8 rfl 28 (.tmp 3) (.tmp 50) rfl (by rfl) x0.cs.toArray hd0.cs.toArray 28 (by rfl) H3.out (by kernel_rfl) rfl (one23 _) ?_
  intro V6 j f
  have R3 := Lib.hid j
  have R2b := Lib.hid (f.keepBlk R2.out (by omega))
  have K6 := Lib.hid (f.keepBlk K6.out (by have := GT.out; omega))
  have K7 := Lib.hid (f.keepBlk K7.out (by have := GT.out; omega))
  have LF := Lib.hid (LE.out.trans (f.to_below (fun k e => by omega) LE.out.size))
  clear hHeld j f
  refine hK.out _ _ ⟨K6.out, K7.out⟩ (fun hHeld => ?_)
  clear hK K
  try simp only [Act.put, List.getElem_toArray, List.getElem_cons_succ, List.getElem_cons_zero]
  refine wpAnyH_take (i := 5) (v := ?v2) rfl (by kernel_rfl) (by kernel_rfl) (by kernel_rfl) (fun _ _ _ h => h) (Or.inl ⟨by rfl, ?hy2⟩) hHeld ?rest2
  case hy2 =>
    intro w' hSw
    try dsimp only at hSw
    go_simp
    first | done | with_reducible rfl
  try simp only [Act.put, List.getElem_toArray, List.getElem_cons_succ, List.getElem_cons_zero, List.setIfInBounds_toArray, List.set_cons_zero, List.set_cons_succ]
  refine wpAnyH_take (i := 6) (v := ?v3) rfl (by kernel_rfl) (by kernel_rfl) (by kernel_rfl) (fun _ _ _ h => h) (Or.inl ⟨by rfl, ?hy3⟩) hHeld ?rest3
  case hy3 =>
    intro w' hSw
    try dsimp only at hSw
    go_simp
    first | done | with_reducible rfl
  try simp only [Act.put, List.getElem_toArray, List.getElem_cons_succ, List.getElem_cons_zero, List.setIfInBounds_toArray, List.set_cons_zero, List.set_cons_succ]
  refine wpAnyH_done (by kernel_rfl) ?_ _
  refine OnlyN.normal ?_
  clear hHeld
  go_wp2_with fail
  exact bodyPost_ret (results_rread rfl _ _ (w.heap.size + 1) (w.heap.size + 1 + 1) #[.slice r.A1 r.n1 r.c1, .slice r.A2 r.n2 r.c2, .int .i64 (t : Int), .slice r.A3 r.n3 r.c3] rfl x0 rfl rfl R2b.out R3.out) rfl ⟨rfl, LF.out⟩
set_option maxRecDepth 100000 in
set_option maxHeartbeats 600000 in
theorem rrd_first {w : World} {r : Rp} {R : Rf} {s z t : Nat} {x0 x1 : Hd} (hlt : ¬ x0.e < x1.e) (h : RefAt w r R z)
    (rb : ∀ W : World, RefAt W r R z → Calls Try.prog 19 #[r.val s] W fun e w' => e = .returned (.tuple #[r.val t, .agg (cs2 x0 x1).toArray, .agg #[.bool true, .bool true], .int .i64 0]) ∧ Below W.heap.size W w') :
    Calls Try.prog 17 #[r.val s] w fun e w' => e = .returned (.tuple #[r.val t, x0.val, .int .i64 0, .int .i64 0]) ∧ Below w.heap.size w w' := by
  have hz := z43
  have hz2 := z23
  have hz52 := z52
  have hz53 := z53
  have d0 : decide (x1.e ≤ x0.e) = true := decide_eq_true (by omega)
  clear hlt
  have RB := Lib.hid rb
  obtain ⟨W, hW⟩ : ∃ W, W = ((w.alloc (.cells #[.slice r.A1 r.n1 r.c1, .slice r.A2 r.n2 r.c2, .int .i64 (s : Int), .slice r.A3 r.n3 r.c3] 33)).alloc (.cells #[.slice none 0 0, .slice none 0 0, .int .i64 0, .slice none 0 0] 33)).alloc (.cells hd0.cs.toArray 28) := ⟨_, rfl⟩
  have A1 := Lib.hid (show Blk W w.heap.size 33 #[.slice r.A1 r.n1 r.c1, .slice r.A2 r.n2 r.c2, .int .i64 (s : Int), .slice r.A3 r.n3 r.c3] from by rw [hW]; exact ((Blk.new w _ _).alloc _).alloc _)
  have A2 := Lib.hid (show Blk W (w.heap.size + 1) 33 #[.slice none 0 0, .slice none 0 0, .int .i64 0, .slice none 0 0] from by rw [hW]; exact (blk_new1 w _ _ _).alloc _)
  have A3 := Lib.hid (show Blk W (w.heap.size + 1 + 1) 28 hd0.cs.toArray from by rw [hW]; exact blk_at8 _ _ _ _ (by simp))
  have AR := Lib.hid (show RefAt W r R z from by rw [hW]; exact ((h.alloc _).alloc _).alloc _)
  have AL := Lib.hid (show Below w.heap.size w W from by rw [hW]; exact (((Below.refl w.heap.size w).alloc (Nat.le_refl _) _).alloc (by simp) _).alloc (by simp; omega) _)
  clear h rb
  go_enter Try.func17, Try.ntmps17
  go_wp2_with fail
  rw [← hW]
  clear hW
  go_wp2_with (first
    | (refine wpList_load_mid rfl 33 (.tmp 1) rfl w.heap.size 0 rfl [.slice r.A1 r.n1 r.c1, .slice r.A2 r.n2 r.c2, .int .i64 (s : Int), .slice r.A3 r.n3 r.c3] _ (Blk.rangeAt A1.out) Try.underlying33 rfl size43 ?_)
    | (go_at_call 19; refine (RB.out _ AR.out).mono ?_; rintro e V1 ⟨rfl, hb⟩; have B2 := Lib.hid ((((A2.out.below hb A2.out.lt).alloc (.cells #[.slice none 0 0, .slice none 0 0, .int .i64 0, .slice none 0 0] 33)).alloc (.cells (cs2 hd0 hd0).toArray 49)).alloc (.cells #[.bool false, .bool false] 50)); have B3 := Lib.hid ((((A3.out.below hb A3.out.lt).alloc (.cells #[.slice none 0 0, .slice none 0 0, .int .i64 0, .slice none 0 0] 33)).alloc (.cells (cs2 hd0 hd0).toArray 49)).alloc (.cells #[.bool false, .bool false] 50)); have GT := Lib.hid (show w.heap.size + 1 + 1 < V1.heap.size from (A3.out.below hb A3.out.lt).lt); have L1 := Lib.hid (AL.out.trans (hb.mono AL.out.size)); have LA := Lib.hid (((L1.out.alloc L1.out.size (.cells #[.slice none 0 0, .slice none 0 0, .int .i64 0, .slice none 0 0] 33)).alloc (by simp; have := L1.out.size; omega) (.cells (cs2 hd0 hd0).toArray 49)).alloc (by simp; have := L1.out.size; omega) (.cells #[.bool false, .bool false] 50)); have J6 := Lib.hid (((Blk.new V1 33 #[.slice none 0 0, .slice none 0 0, .int .i64 0, .slice none 0 0]).alloc (.cells (cs2 hd0 hd0).toArray 49)).alloc (.cells #[.bool false, .bool false] 50)); have J7 := Lib.hid ((blk_new1 V1 (.cells #[.slice none 0 0, .slice none 0 0, .int .i64 0, .slice none 0 0] 33) 49 (cs2 hd0 hd0).toArray).alloc (.cells #[.bool false, .bool false] 50)); have J8 := Lib.hid (show Blk (((V1.alloc (.cells #[.slice none 0 0, .slice none 0 0, .int .i64 0, .slice none 0 0] 33)).alloc (.cells (cs2 hd0 hd0).toArray 49)).alloc (.cells #[.bool false, .bool false] 50)) (V1.heap.size + 1 + 1) 50 #[.bool false, .bool false] from blk_at8 _ _ _ _ (by simp)); clear hb A1 A2 A3 AR AL)
    | (refine wpList_store_g8 rfl 33 (.tmp 6) (.tmp 13) rfl (g := V1.heap.size) (by rfl) #[.slice r.A1 r.n1 r.c1, .slice r.A2 r.n2 r.c2, .int .i64 (t : Int), .slice r.A3 r.n3 r.c3] #[.slice none 0 0, .slice none 0 0, .int .i64 0, .slice none 0 0] 33 (by rfl) J6.out (size43c8 _ _ _ _) rfl (one43c8 _ _ _ _ _ _ _ _ _) ?_; intro V2 j f; have M6 := Lib.hid j; have M7 := Lib.hid (f.keepBlk J7.out (by omega)); have M8 := Lib.hid (f.keepBlk J8.out (by omega)); have C2 := Lib.hid (f.keepBlk B2.out (by have := GT.out; omega)); have C3 := Lib.hid (f.keepBlk B3.out (by have := GT.out; omega)); have LB := Lib.hid (LA.out.trans (f.to_below (fun k e => by have := L1.out.size; omega) LA.out.size)); clear j f J6 J7 J8 B2 B3 LA)
    | (refine wpList_store_g8 rfl 49 (.tmp 7) (.tmp 14) rfl (g := V1.heap.size + 1) (by rfl) (cs2 x0 x1).toArray (cs2 hd0 hd0).toArray 49 (by rfl) M7.out (by kernel_rfl) rfl (cs2_one _ _) ?_; intro V3 j f; have N7 := Lib.hid j; have N6 := Lib.hid (f.keepBlk M6.out (by omega)); have N8 := Lib.hid (f.keepBlk M8.out (by omega)); have E2 := Lib.hid (f.keepBlk C2.out (by have := GT.out; omega)); have E3 := Lib.hid (f.keepBlk C3.out (by have := GT.out; omega)); have LC := Lib.hid (LB.out.trans (f.to_below (fun k e => by have := L1.out.size; omega) LB.out.size)); clear j f M6 M7 M8 C2 C3 LB)
    | (refine wpList_store_g8 rfl 50 (.tmp 8) (.tmp 15) rfl (g := V1.heap.size + 1 + 1) (by rfl) #[.bool true, .bool true] #[.bool false, .bool false] 50 (by rfl) N8.out (by kernel_rfl) rfl (by simp [Value.oneCell']) ?_; intro V4 j f; have K8 := Lib.hid j; have K6 := Lib.hid (f.keepBlk N6.out (by omega)); have K7 := Lib.hid (f.keepBlk N7.out (by omega)); have G2 := Lib.hid (f.keepBlk E2.out (by have := GT.out; omega)); have G3 := Lib.hid (f.keepBlk E3.out (by have := GT.out; omega)); have LD := Lib.hid (LC.out.trans (f.to_below (fun k e => by have := L1.out.size; omega) LC.out.size)); have q0 := (K8.out.cell 0).trans (show _ = some (.bool true) from rfl); have q1 := (K8.out.cell 1).trans (show _ = some (.bool true) from rfl); have r0 := (K7.out.cell 0).trans (show _ = some (.int .i64 x0.e) from rfl); have r3 := (K7.out.cell 3).trans (show _ = some (.int .i64 x1.e) from rfl); clear j f N6 N7 N8 E2 E3 LC))
  clear q0 q1 r0 r3
  replace K6 := Lib.hid (blk_drew K6.out)
  replace K7 := Lib.hid (blk_drew K7.out)
  replace G2 := Lib.hid (blk_drew G2.out)
  replace G3 := Lib.hid (blk_drew G3.out)
  replace LD := Lib.hid LD.out.drew
  refine wp_region_only (S := fun w' => Blk w' V1.heap.size 33 #[.slice r.A1 r.n1 r.c1, .slice r.A2 r.n2 r.c2, .int .i64 (t : Int), .slice r.A3 r.n3 r.c3] ∧ Blk w' (V1.heap.size + 1) 49 (cs2 x0 x1).toArray) (by kernel_rfl) ⟨K6.out, K7.out⟩ (fun hHeld => ?_)
  refine wpAnyH_take (i := 0) rfl (by kernel_rfl) (by kernel_rfl) (by kernel_rfl) (fun _ _ _ h => h) (yieldsIf_load_mid (by rfl) 33 (.tmp 6) (by rfl) V1.heap.size 0 (by rfl) [.slice r.A1 r.n1 r.c1, .slice r.A2 r.n2 r.c2, .int .i64 (t : Int), .slice r.A3 r.n3 r.c3] _ (fun w' hSw => Blk.rangeAt hSw.1) Try.underlying33 rfl size43) hHeld ?_
  try simp only [Act.put, List.getElem_toArray, List.getElem_cons_zero, List.setIfInBounds_toArray, List.set_cons_zero, List.set_cons_succ]
  refine wpAnyH_take (i := 1) (v := ?v4) rfl (by kernel_rfl) (by kernel_rfl) (by kernel_rfl) (fun _ _ _ h => h) (Or.inl ⟨by rfl, ?hy4⟩) hHeld ?rest4
  case hy4 =>
    intro w' hSw
    try dsimp only at hSw
    go_simp
    first | done | with_reducible rfl
  try simp only [Act.put, List.getElem_toArray, List.getElem_cons_succ, List.getElem_cons_zero, List.setIfInBounds_toArray, List.set_cons_zero, List.set_cons_succ]
  refine wpAnyH_take (i := 2) rfl (by kernel_rfl) (by kernel_rfl) (by kernel_rfl) (fun _ _ _ h => h) (yieldsIf_load_mid (by rfl) 28 (.tmp 49) (by rfl) (V1.heap.size + 1) 0 (by rfl) x0.cs _ (fun w' hSw => cs2_fst (Blk.rangeAt (l := cs2 x0 x1) hSw.2)) Try.underlying28 rfl (size23 _)) hHeld ?_
  try simp only [Act.put, List.getElem_toArray, List.getElem_cons_succ, List.getElem_cons_zero, List.setIfInBounds_toArray, List.set_cons_zero, List.set_cons_succ]
  refine wpAnyH_ready (rs := [3]) (by kernel_rfl) (by simp) ?_
  refine AllReadyH.cons (by rfl) (fun K hK => ?_) AllReadyH.nil
  refine step_store8 rfl 33 (.tmp 2) (.tmp 48) rfl (by rfl) #[.slice r.A1 r.n1 r.c1, .slice r.A2 r.n2 r.c2, .int .i64 (t : Int), .slice r.A3 r.n3 r.c3] #[.slice none 0 0, .slice none 0 0, .int .i64 0, .slice none 0 0] 33 (by rfl) G2.out (size43c8 _ _ _ _) rfl (one43c8 _ _ _ _ _ _ _ _ _) ?_
  intro V5 j f
  have R2 := Lib.hid j
  have H3 := Lib.hid (f.keepBlk G3.out (by omega))
  have K6 := Lib.hid (f.keepBlk K6.out (by have := GT.out; omega))
  have K7 := Lib.hid (f.keepBlk K7.out (by have := GT.out; omega))
  have LE := Lib.hid (LD.out.trans (f.to_below (fun k e => by omega) LD.out.size))
  clear hHeld j f
  refine hK.out _ _ ⟨K6.out, K7.out⟩ (fun hHeld => ?_)
  clear hK K
  try simp only [Act.put, List.getElem_toArray, List.getElem_cons_succ, List.getElem_cons_zero]
  refine wpAnyH_ready (rs := [4]) (by kernel_rfl) (by simp) ?_
  refine AllReadyH.cons (by rfl) (fun K hK => ?_) AllReadyH.nil
  refine step_store8 rfl 28 (.tmp 3) (.tmp 50) rfl (by rfl) x0.cs.toArray hd0.cs.toArray 28 (by rfl) H3.out (by kernel_rfl) rfl (one23 _) ?_
  intro V6 j f
  have R3 := Lib.hid j
  have R2b := Lib.hid (f.keepBlk R2.out (by omega))
  have K6 := Lib.hid (f.keepBlk K6.out (by have := GT.out; omega))
  have K7 := Lib.hid (f.keepBlk K7.out (by have := GT.out; omega))
  have LF := Lib.hid (LE.out.trans (f.to_below (fun k e => by omega) LE.out.size))
  clear hHeld j f
  refine hK.out _ _ ⟨K6.out, K7.out⟩ (fun hHeld => ?_)
  clear hK K
  try simp only [Act.put, List.getElem_toArray, List.getElem_cons_succ, List.getElem_cons_zero]
  refine wpAnyH_take (i := 5) (v := ?v5) rfl (by kernel_rfl) (by kernel_rfl) (by kernel_rfl) (fun _ _ _ h => h) (Or.inl ⟨by rfl, ?hy5⟩) hHeld ?rest5
  case hy5 =>
    intro w' hSw
    try dsimp only at hSw
    go_simp
    first | done | with_reducible rfl
  try simp only [Act.put, List.getElem_toArray, List.getElem_cons_succ, List.getElem_cons_zero, List.setIfInBounds_toArray, List.set_cons_zero, List.set_cons_succ]
  refine wpAnyH_take (i := 6) (v := ?v6) rfl (by kernel_rfl) (by kernel_rfl) (by kernel_rfl) (fun _ _ _ h => h) (Or.inl ⟨by rfl, ?hy6⟩) hHeld ?rest6
  case hy6 =>
    intro w' hSw
    try dsimp only at hSw
    go_simp
    first | done | with_reducible rfl
  try simp only [Act.put, List.getElem_toArray, List.getElem_cons_succ, List.getElem_cons_zero, List.setIfInBounds_toArray, List.set_cons_zero, List.set_cons_succ]
  refine wpAnyH_done (by kernel_rfl) ?_ _
  refine OnlyN.normal ?_
  clear hHeld
  go_wp2_with fail
  exact bodyPost_ret (results_rread rfl _ _ (w.heap.size + 1) (w.heap.size + 1 + 1) #[.slice r.A1 r.n1 r.c1, .slice r.A2 r.n2 r.c2, .int .i64 (t : Int), .slice r.A3 r.n3 r.c3] rfl x0 rfl rfl R2b.out R3.out) rfl ⟨rfl, LF.out⟩
set_option maxRecDepth 100000 in
set_option maxHeartbeats 600000 in
theorem rrd_second {w : World} {r : Rp} {R : Rf} {s z t : Nat} {x0 x1 : Hd}  (h : RefAt w r R z)
    (rb : ∀ W : World, RefAt W r R z → Calls Try.prog 19 #[r.val s] W fun e w' => e = .returned (.tuple #[r.val t, .agg (cs2 x0 x1).toArray, .agg #[.bool false, .bool true], .int .i64 0]) ∧ Below W.heap.size W w') :
    Calls Try.prog 17 #[r.val s] w fun e w' => e = .returned (.tuple #[r.val t, x1.val, .int .i64 1, .int .i64 0]) ∧ Below w.heap.size w w' := by
  have hz := z43
  have hz2 := z23
  have hz52 := z52
  have hz53 := z53
  have RB := Lib.hid rb
  obtain ⟨W, hW⟩ : ∃ W, W = ((w.alloc (.cells #[.slice r.A1 r.n1 r.c1, .slice r.A2 r.n2 r.c2, .int .i64 (s : Int), .slice r.A3 r.n3 r.c3] 33)).alloc (.cells #[.slice none 0 0, .slice none 0 0, .int .i64 0, .slice none 0 0] 33)).alloc (.cells hd0.cs.toArray 28) := ⟨_, rfl⟩
  have A1 := Lib.hid (show Blk W w.heap.size 33 #[.slice r.A1 r.n1 r.c1, .slice r.A2 r.n2 r.c2, .int .i64 (s : Int), .slice r.A3 r.n3 r.c3] from by rw [hW]; exact ((Blk.new w _ _).alloc _).alloc _)
  have A2 := Lib.hid (show Blk W (w.heap.size + 1) 33 #[.slice none 0 0, .slice none 0 0, .int .i64 0, .slice none 0 0] from by rw [hW]; exact (blk_new1 w _ _ _).alloc _)
  have A3 := Lib.hid (show Blk W (w.heap.size + 1 + 1) 28 hd0.cs.toArray from by rw [hW]; exact blk_at8 _ _ _ _ (by simp))
  have AR := Lib.hid (show RefAt W r R z from by rw [hW]; exact ((h.alloc _).alloc _).alloc _)
  have AL := Lib.hid (show Below w.heap.size w W from by rw [hW]; exact (((Below.refl w.heap.size w).alloc (Nat.le_refl _) _).alloc (by simp) _).alloc (by simp; omega) _)
  clear h rb
  go_enter Try.func17, Try.ntmps17
  go_wp2_with fail
  rw [← hW]
  clear hW
  go_wp2_with (first
    | ((with_reducible show wpList _ _ _ ({ dst := some 22, op := _, type := _, pos := _, after := _, guard := _ } :: _) _ _); (with_reducible refine wpList_y8 (S := fun w' => w' = V4) (v := ?v22) ?hy22 rfl ?_); (case hy22 => (refine Or.inl ⟨by rfl, ?_⟩; rintro w' rfl; go_simp; first | done | with_reducible rfl)); try simp only [Act.put, List.setIfInBounds_toArray, List.set_cons_zero, List.set_cons_succ]; (with_reducible refine wpList_y8 (S := fun w' => w' = V4) (v := ?v23) ?hy23 rfl ?_); (case hy23 => (refine Or.inl ⟨by rfl, ?_⟩; rintro w' rfl; go_simp; first | done | with_reducible rfl)); try simp only [Act.put, List.setIfInBounds_toArray, List.set_cons_zero, List.set_cons_succ]; (with_reducible refine wpList_y8 (S := fun w' => w' = V4) (v := ?v24) ?hy24 rfl ?_); (case hy24 => (refine Or.inl ⟨by rfl, ?_⟩; rintro w' rfl; go_simp; first | done | with_reducible rfl)); try simp only [Act.put, List.setIfInBounds_toArray, List.set_cons_zero, List.set_cons_succ]; (with_reducible refine wpList_y8 (S := fun w' => w' = V4) (v := ?v25) ?hy25 rfl ?_); (case hy25 => (refine Or.inl ⟨by rfl, ?_⟩; rintro w' rfl; go_simp; first | done | with_reducible rfl)); try simp only [Act.put, List.setIfInBounds_toArray, List.set_cons_zero, List.set_cons_succ]; (with_reducible refine wpList_y8 (S := fun w' => w' = V4) (v := ?v26) ?hy26 rfl ?_); (case hy26 => (refine Or.inl ⟨by rfl, ?_⟩; rintro w' rfl; go_simp; first | done | with_reducible rfl)); try simp only [Act.put, List.setIfInBounds_toArray, List.set_cons_zero, List.set_cons_succ]; (with_reducible refine wpList_y8 (S := fun w' => w' = V4) (v := ?v27) ?hy27 rfl ?_); (case hy27 => (refine Or.inl ⟨by rfl, ?_⟩; rintro w' rfl; go_simp; first | done | with_reducible rfl)); try simp only [Act.put, List.setIfInBounds_toArray, List.set_cons_zero, List.set_cons_succ]; (with_reducible refine wpList_y8 (S := fun w' => w' = V4) (v := ?v28) ?hy28 rfl ?_); (case hy28 => (refine Or.inl ⟨by rfl, ?_⟩; rintro w' rfl; go_simp; first | done | with_reducible rfl)); try simp only [Act.put, List.setIfInBounds_toArray, List.set_cons_zero, List.set_cons_succ]; (with_reducible refine wpList_y8 (S := fun w' => w' = V4) (v := ?v29) ?hy29 rfl ?_); (case hy29 => (refine Or.inl ⟨by rfl, ?_⟩; rintro w' rfl; go_simp; first | done | with_reducible rfl)); try simp only [Act.put, List.setIfInBounds_toArray, List.set_cons_zero, List.set_cons_succ])
    | ((with_reducible show wpList _ _ _ ({ dst := some 32, op := _, type := _, pos := _, after := _, guard := _ } :: _) _ _); (with_reducible refine wpList_y8 (S := fun w' => w' = V4) (v := ?v32) ?hy32 rfl ?_); (case hy32 => (refine Or.inl ⟨by rfl, ?_⟩; rintro w' rfl; go_simp; first | done | with_reducible rfl)); try simp only [Act.put, List.setIfInBounds_toArray, List.set_cons_zero, List.set_cons_succ]; (with_reducible refine wpList_y8 (S := fun w' => w' = V4) (v := ?v33) ?hy33 rfl ?_); (case hy33 => (refine Or.inl ⟨by rfl, ?_⟩; rintro w' rfl; go_simp; first | done | with_reducible rfl)); try simp only [Act.put, List.setIfInBounds_toArray, List.set_cons_zero, List.set_cons_succ]; (with_reducible refine wpList_y8 (S := fun w' => w' = V4) (v := ?v34) ?hy34 rfl ?_); (case hy34 => (refine Or.inl ⟨by rfl, ?_⟩; rintro w' rfl; go_simp; first | done | with_reducible rfl)); try simp only [Act.put, List.setIfInBounds_toArray, List.set_cons_zero, List.set_cons_succ]; (with_reducible refine wpList_skip ?sk35 ?_); (case sk35 => rfl); try simp only [Act.put, List.setIfInBounds_toArray, List.set_cons_zero, List.set_cons_succ]; (with_reducible refine wpList_skip ?sk36 ?_); (case sk36 => rfl); try simp only [Act.put, List.setIfInBounds_toArray, List.set_cons_zero, List.set_cons_succ]; (with_reducible refine wpList_skip ?sk37 ?_); (case sk37 => rfl); try simp only [Act.put, List.setIfInBounds_toArray, List.set_cons_zero, List.set_cons_succ]; (with_reducible refine wpList_skip ?sk38 ?_); (case sk38 => rfl); try simp only [Act.put, List.setIfInBounds_toArray, List.set_cons_zero, List.set_cons_succ]; (with_reducible refine wpList_skip ?sk39 ?_); (case sk39 => rfl); try simp only [Act.put, List.setIfInBounds_toArray, List.set_cons_zero, List.set_cons_succ]; (with_reducible refine wpList_skip ?sk40 ?_); (case sk40 => rfl); try simp only [Act.put, List.setIfInBounds_toArray, List.set_cons_zero, List.set_cons_succ]; (with_reducible refine wpList_skip ?sk41 ?_); (case sk41 => rfl); try simp only [Act.put, List.setIfInBounds_toArray, List.set_cons_zero, List.set_cons_succ]; (with_reducible refine wpList_skip ?sk42 ?_); (case sk42 => rfl); try simp only [Act.put, List.setIfInBounds_toArray, List.set_cons_zero, List.set_cons_succ]; (with_reducible refine wpList_skip ?sk43 ?_); (case sk43 => rfl); try simp only [Act.put, List.setIfInBounds_toArray, List.set_cons_zero, List.set_cons_succ]; (with_reducible refine wpList_skip ?sk44 ?_); (case sk44 => rfl); try simp only [Act.put, List.setIfInBounds_toArray, List.set_cons_zero, List.set_cons_succ]; (with_reducible refine wpList_skip ?sk45 ?_); (case sk45 => rfl); try simp only [Act.put, List.setIfInBounds_toArray, List.set_cons_zero, List.set_cons_succ]; (with_reducible refine wpList_skip ?sk46 ?_); (case sk46 => rfl); try simp only [Act.put, List.setIfInBounds_toArray, List.set_cons_zero, List.set_cons_succ]; (with_reducible refine wpList_y8 (S := fun w' => w' = V4) (v := ?v47) ?hy47 rfl ?_); (case hy47 => (refine Or.inl ⟨by rfl, ?_⟩; rintro w' rfl; go_simp; first | done | with_reducible rfl)); try simp only [Act.put, List.setIfInBounds_toArray, List.set_cons_zero, List.set_cons_succ])
    | (refine wpList_load_mid rfl 33 (.tmp 1) rfl w.heap.size 0 rfl [.slice r.A1 r.n1 r.c1, .slice r.A2 r.n2 r.c2, .int .i64 (s : Int), .slice r.A3 r.n3 r.c3] _ (Blk.rangeAt A1.out) Try.underlying33 rfl size43 ?_)
    | (go_at_call 19; refine (RB.out _ AR.out).mono ?_; rintro e V1 ⟨rfl, hb⟩; have B2 := Lib.hid ((((A2.out.below hb A2.out.lt).alloc (.cells #[.slice none 0 0, .slice none 0 0, .int .i64 0, .slice none 0 0] 33)).alloc (.cells (cs2 hd0 hd0).toArray 49)).alloc (.cells #[.bool false, .bool false] 50)); have B3 := Lib.hid ((((A3.out.below hb A3.out.lt).alloc (.cells #[.slice none 0 0, .slice none 0 0, .int .i64 0, .slice none 0 0] 33)).alloc (.cells (cs2 hd0 hd0).toArray 49)).alloc (.cells #[.bool false, .bool false] 50)); have GT := Lib.hid (show w.heap.size + 1 + 1 < V1.heap.size from (A3.out.below hb A3.out.lt).lt); have L1 := Lib.hid (AL.out.trans (hb.mono AL.out.size)); have LA := Lib.hid (((L1.out.alloc L1.out.size (.cells #[.slice none 0 0, .slice none 0 0, .int .i64 0, .slice none 0 0] 33)).alloc (by simp; have := L1.out.size; omega) (.cells (cs2 hd0 hd0).toArray 49)).alloc (by simp; have := L1.out.size; omega) (.cells #[.bool false, .bool false] 50)); have J6 := Lib.hid (((Blk.new V1 33 #[.slice none 0 0, .slice none 0 0, .int .i64 0, .slice none 0 0]).alloc (.cells (cs2 hd0 hd0).toArray 49)).alloc (.cells #[.bool false, .bool false] 50)); have J7 := Lib.hid ((blk_new1 V1 (.cells #[.slice none 0 0, .slice none 0 0, .int .i64 0, .slice none 0 0] 33) 49 (cs2 hd0 hd0).toArray).alloc (.cells #[.bool false, .bool false] 50)); have J8 := Lib.hid (show Blk (((V1.alloc (.cells #[.slice none 0 0, .slice none 0 0, .int .i64 0, .slice none 0 0] 33)).alloc (.cells (cs2 hd0 hd0).toArray 49)).alloc (.cells #[.bool false, .bool false] 50)) (V1.heap.size + 1 + 1) 50 #[.bool false, .bool false] from blk_at8 _ _ _ _ (by simp)); clear hb A1 A2 A3 AR AL)
    | (refine wpList_store_g8 rfl 33 (.tmp 6) (.tmp 13) rfl (g := V1.heap.size) (by rfl) #[.slice r.A1 r.n1 r.c1, .slice r.A2 r.n2 r.c2, .int .i64 (t : Int), .slice r.A3 r.n3 r.c3] #[.slice none 0 0, .slice none 0 0, .int .i64 0, .slice none 0 0] 33 (by rfl) J6.out (size43c8 _ _ _ _) rfl (one43c8 _ _ _ _ _ _ _ _ _) ?_; intro V2 j f; have M6 := Lib.hid j; have M7 := Lib.hid (f.keepBlk J7.out (by omega)); have M8 := Lib.hid (f.keepBlk J8.out (by omega)); have C2 := Lib.hid (f.keepBlk B2.out (by have := GT.out; omega)); have C3 := Lib.hid (f.keepBlk B3.out (by have := GT.out; omega)); have LB := Lib.hid (LA.out.trans (f.to_below (fun k e => by have := L1.out.size; omega) LA.out.size)); clear j f J6 J7 J8 B2 B3 LA)
    | (refine wpList_store_g8 rfl 49 (.tmp 7) (.tmp 14) rfl (g := V1.heap.size + 1) (by rfl) (cs2 x0 x1).toArray (cs2 hd0 hd0).toArray 49 (by rfl) M7.out (by kernel_rfl) rfl (cs2_one _ _) ?_; intro V3 j f; have N7 := Lib.hid j; have N6 := Lib.hid (f.keepBlk M6.out (by omega)); have N8 := Lib.hid (f.keepBlk M8.out (by omega)); have E2 := Lib.hid (f.keepBlk C2.out (by have := GT.out; omega)); have E3 := Lib.hid (f.keepBlk C3.out (by have := GT.out; omega)); have LC := Lib.hid (LB.out.trans (f.to_below (fun k e => by have := L1.out.size; omega) LB.out.size)); clear j f M6 M7 M8 C2 C3 LB)
    | (refine wpList_store_g8 rfl 50 (.tmp 8) (.tmp 15) rfl (g := V1.heap.size + 1 + 1) (by rfl) #[.bool false, .bool true] #[.bool false, .bool false] 50 (by rfl) N8.out (by kernel_rfl) rfl (by simp [Value.oneCell']) ?_; intro V4 j f; have K8 := Lib.hid j; have K6 := Lib.hid (f.keepBlk N6.out (by omega)); have K7 := Lib.hid (f.keepBlk N7.out (by omega)); have G2 := Lib.hid (f.keepBlk E2.out (by have := GT.out; omega)); have G3 := Lib.hid (f.keepBlk E3.out (by have := GT.out; omega)); have LD := Lib.hid (LC.out.trans (f.to_below (fun k e => by have := L1.out.size; omega) LC.out.size)); have q0 := (K8.out.cell 0).trans (show _ = some (.bool false) from rfl); have q1 := (K8.out.cell 1).trans (show _ = some (.bool true) from rfl); clear j f N6 N7 N8 E2 E3 LC))
  clear q0 q1
  replace K6 := Lib.hid (blk_drew K6.out)
  replace K7 := Lib.hid (blk_drew K7.out)
  replace G2 := Lib.hid (blk_drew G2.out)
  replace G3 := Lib.hid (blk_drew G3.out)
  replace LD := Lib.hid LD.out.drew
  refine wp_region_only (S := fun w' => Blk w' V1.heap.size 33 #[.slice r.A1 r.n1 r.c1, .slice r.A2 r.n2 r.c2, .int .i64 (t : Int), .slice r.A3 r.n3 r.c3] ∧ Blk w' (V1.heap.size + 1) 49 (cs2 x0 x1).toArray) (by kernel_rfl) ⟨K6.out, K7.out⟩ (fun hHeld => ?_)
  refine wpAnyH_take (i := 0) rfl (by kernel_rfl) (by kernel_rfl) (by kernel_rfl) (fun _ _ _ h => h) (yieldsIf_load_mid (by rfl) 33 (.tmp 6) (by rfl) V1.heap.size 0 (by rfl) [.slice r.A1 r.n1 r.c1, .slice r.A2 r.n2 r.c2, .int .i64 (t : Int), .slice r.A3 r.n3 r.c3] _ (fun w' hSw => Blk.rangeAt hSw.1) Try.underlying33 rfl size43) hHeld ?_
  try simp only [Act.put, List.getElem_toArray, List.getElem_cons_zero, List.setIfInBounds_toArray, List.set_cons_zero, List.set_cons_succ]
  refine wpAnyH_take (i := 1) (v := ?v7) rfl (by kernel_rfl) (by kernel_rfl) (by kernel_rfl) (fun _ _ _ h => h) (Or.inl ⟨by rfl, ?hy7⟩) hHeld ?rest7
  case hy7 =>
    intro w' hSw
    try dsimp only at hSw
    go_simp
    first | done | with_reducible rfl
  try simp only [Act.put, List.getElem_toArray, List.getElem_cons_succ, List.getElem_cons_zero, List.setIfInBounds_toArray, List.set_cons_zero, List.set_cons_succ]
  refine wpAnyH_take (i := 2) rfl (by kernel_rfl) (by kernel_rfl) (by kernel_rfl) (fun _ _ _ h => h) (yieldsIf_load_mid (by rfl) 28 (.tmp 52) (by rfl) (V1.heap.size + 1) (1 * 3) (by rfl) x1.cs _ (fun w' hSw => cs2_at1 x0 x1 (Blk.rangeAt (l := cs2 x0 x1) hSw.2)) Try.underlying28 rfl (size23 _)) hHeld ?_
  try simp only [Act.put, List.getElem_toArray, List.getElem_cons_succ, List.getElem_cons_zero, List.setIfInBounds_toArray, List.set_cons_zero, List.set_cons_succ]
  refine wpAnyH_ready (rs := [3]) (by kernel_rfl) (by simp) ?_
  refine AllReadyH.cons (by rfl) (fun K hK => ?_) AllReadyH.nil
  refine step_store8 rfl 33 (.tmp 2) (.tmp 51) rfl (by rfl) #[.slice r.A1 r.n1 r.c1, .slice r.A2 r.n2 r.c2, .int .i64 (t : Int), .slice r.A3 r.n3 r.c3] #[.slice none 0 0, .slice none 0 0, .int .i64 0, .slice none 0 0] 33 (by rfl) G2.out (size43c8 _ _ _ _) rfl (one43c8 _ _ _ _ _ _ _ _ _) ?_
  intro V5 j f
  have R2 := Lib.hid j
  have H3 := Lib.hid (f.keepBlk G3.out (by omega))
  have K6 := Lib.hid (f.keepBlk K6.out (by have := GT.out; omega))
  have K7 := Lib.hid (f.keepBlk K7.out (by have := GT.out; omega))
  have LE := Lib.hid (LD.out.trans (f.to_below (fun k e => by omega) LD.out.size))
  clear hHeld j f
  refine hK.out _ _ ⟨K6.out, K7.out⟩ (fun hHeld => ?_)
  clear hK K
  try simp only [Act.put, List.getElem_toArray, List.getElem_cons_succ, List.getElem_cons_zero]
  refine wpAnyH_ready (rs := [4]) (by kernel_rfl) (by simp) ?_
  refine AllReadyH.cons (by rfl) (fun K hK => ?_) AllReadyH.nil
  refine step_store8 rfl 28 (.tmp 3) (.tmp 53) rfl (by rfl) x1.cs.toArray hd0.cs.toArray 28 (by rfl) H3.out (by kernel_rfl) rfl (one23 _) ?_
  intro V6 j f
  have R3 := Lib.hid j
  have R2b := Lib.hid (f.keepBlk R2.out (by omega))
  have K6 := Lib.hid (f.keepBlk K6.out (by have := GT.out; omega))
  have K7 := Lib.hid (f.keepBlk K7.out (by have := GT.out; omega))
  have LF := Lib.hid (LE.out.trans (f.to_below (fun k e => by omega) LE.out.size))
  clear hHeld j f
  refine hK.out _ _ ⟨K6.out, K7.out⟩ (fun hHeld => ?_)
  clear hK K
  try simp only [Act.put, List.getElem_toArray, List.getElem_cons_succ, List.getElem_cons_zero]
  refine wpAnyH_take (i := 5) (v := ?v8) rfl (by kernel_rfl) (by kernel_rfl) (by kernel_rfl) (fun _ _ _ h => h) (Or.inl ⟨by rfl, ?hy8⟩) hHeld ?rest8
  case hy8 =>
    intro w' hSw
    try dsimp only at hSw
    go_simp
    first | done | with_reducible rfl
  try simp only [Act.put, List.getElem_toArray, List.getElem_cons_succ, List.getElem_cons_zero, List.setIfInBounds_toArray, List.set_cons_zero, List.set_cons_succ]
  refine wpAnyH_take (i := 6) (v := ?v9) rfl (by kernel_rfl) (by kernel_rfl) (by kernel_rfl) (fun _ _ _ h => h) (Or.inl ⟨by rfl, ?hy9⟩) hHeld ?rest9
  case hy9 =>
    intro w' hSw
    try dsimp only at hSw
    go_simp
    first | done | with_reducible rfl
  try simp only [Act.put, List.getElem_toArray, List.getElem_cons_succ, List.getElem_cons_zero, List.setIfInBounds_toArray, List.set_cons_zero, List.set_cons_succ]
  refine wpAnyH_done (by kernel_rfl) ?_ _
  refine OnlyN.normal ?_
  clear hHeld
  go_wp2_with fail
  exact bodyPost_ret (results_rread rfl _ _ (w.heap.size + 1) (w.heap.size + 1 + 1) #[.slice r.A1 r.n1 r.c1, .slice r.A2 r.n2 r.c2, .int .i64 (t : Int), .slice r.A3 r.n3 r.c3] rfl x1 rfl rfl R2b.out R3.out) rfl ⟨rfl, LF.out⟩
set_option maxRecDepth 100000 in
set_option maxHeartbeats 600000 in
theorem rrd_later {w : World} {r : Rp} {R : Rf} {s z t : Nat} {x0 x1 : Hd} (hlt : x0.e < x1.e) (h : RefAt w r R z)
    (rb : ∀ W : World, RefAt W r R z → Calls Try.prog 19 #[r.val s] W fun e w' => e = .returned (.tuple #[r.val t, .agg (cs2 x0 x1).toArray, .agg #[.bool true, .bool true], .int .i64 0]) ∧ Below W.heap.size W w') :
    Calls Try.prog 17 #[r.val s] w fun e w' => e = .returned (.tuple #[r.val t, x1.val, .int .i64 1, .int .i64 0]) ∧ Below w.heap.size w w' := by
  have hz := z43
  have hz2 := z23
  have hz52 := z52
  have hz53 := z53
  have d0 : decide (x1.e ≤ x0.e) = false := decide_eq_false (by omega)
  clear hlt
  have RB := Lib.hid rb
  obtain ⟨W, hW⟩ : ∃ W, W = ((w.alloc (.cells #[.slice r.A1 r.n1 r.c1, .slice r.A2 r.n2 r.c2, .int .i64 (s : Int), .slice r.A3 r.n3 r.c3] 33)).alloc (.cells #[.slice none 0 0, .slice none 0 0, .int .i64 0, .slice none 0 0] 33)).alloc (.cells hd0.cs.toArray 28) := ⟨_, rfl⟩
  have A1 := Lib.hid (show Blk W w.heap.size 33 #[.slice r.A1 r.n1 r.c1, .slice r.A2 r.n2 r.c2, .int .i64 (s : Int), .slice r.A3 r.n3 r.c3] from by rw [hW]; exact ((Blk.new w _ _).alloc _).alloc _)
  have A2 := Lib.hid (show Blk W (w.heap.size + 1) 33 #[.slice none 0 0, .slice none 0 0, .int .i64 0, .slice none 0 0] from by rw [hW]; exact (blk_new1 w _ _ _).alloc _)
  have A3 := Lib.hid (show Blk W (w.heap.size + 1 + 1) 28 hd0.cs.toArray from by rw [hW]; exact blk_at8 _ _ _ _ (by simp))
  have AR := Lib.hid (show RefAt W r R z from by rw [hW]; exact ((h.alloc _).alloc _).alloc _)
  have AL := Lib.hid (show Below w.heap.size w W from by rw [hW]; exact (((Below.refl w.heap.size w).alloc (Nat.le_refl _) _).alloc (by simp) _).alloc (by simp; omega) _)
  clear h rb
  go_enter Try.func17, Try.ntmps17
  go_wp2_with fail
  rw [← hW]
  clear hW
  go_wp2_with (first
    | (refine wpList_load_mid rfl 33 (.tmp 1) rfl w.heap.size 0 rfl [.slice r.A1 r.n1 r.c1, .slice r.A2 r.n2 r.c2, .int .i64 (s : Int), .slice r.A3 r.n3 r.c3] _ (Blk.rangeAt A1.out) Try.underlying33 rfl size43 ?_)
    | (go_at_call 19; refine (RB.out _ AR.out).mono ?_; rintro e V1 ⟨rfl, hb⟩; have B2 := Lib.hid ((((A2.out.below hb A2.out.lt).alloc (.cells #[.slice none 0 0, .slice none 0 0, .int .i64 0, .slice none 0 0] 33)).alloc (.cells (cs2 hd0 hd0).toArray 49)).alloc (.cells #[.bool false, .bool false] 50)); have B3 := Lib.hid ((((A3.out.below hb A3.out.lt).alloc (.cells #[.slice none 0 0, .slice none 0 0, .int .i64 0, .slice none 0 0] 33)).alloc (.cells (cs2 hd0 hd0).toArray 49)).alloc (.cells #[.bool false, .bool false] 50)); have GT := Lib.hid (show w.heap.size + 1 + 1 < V1.heap.size from (A3.out.below hb A3.out.lt).lt); have L1 := Lib.hid (AL.out.trans (hb.mono AL.out.size)); have LA := Lib.hid (((L1.out.alloc L1.out.size (.cells #[.slice none 0 0, .slice none 0 0, .int .i64 0, .slice none 0 0] 33)).alloc (by simp; have := L1.out.size; omega) (.cells (cs2 hd0 hd0).toArray 49)).alloc (by simp; have := L1.out.size; omega) (.cells #[.bool false, .bool false] 50)); have J6 := Lib.hid (((Blk.new V1 33 #[.slice none 0 0, .slice none 0 0, .int .i64 0, .slice none 0 0]).alloc (.cells (cs2 hd0 hd0).toArray 49)).alloc (.cells #[.bool false, .bool false] 50)); have J7 := Lib.hid ((blk_new1 V1 (.cells #[.slice none 0 0, .slice none 0 0, .int .i64 0, .slice none 0 0] 33) 49 (cs2 hd0 hd0).toArray).alloc (.cells #[.bool false, .bool false] 50)); have J8 := Lib.hid (show Blk (((V1.alloc (.cells #[.slice none 0 0, .slice none 0 0, .int .i64 0, .slice none 0 0] 33)).alloc (.cells (cs2 hd0 hd0).toArray 49)).alloc (.cells #[.bool false, .bool false] 50)) (V1.heap.size + 1 + 1) 50 #[.bool false, .bool false] from blk_at8 _ _ _ _ (by simp)); clear hb A1 A2 A3 AR AL)
    | (refine wpList_store_g8 rfl 33 (.tmp 6) (.tmp 13) rfl (g := V1.heap.size) (by rfl) #[.slice r.A1 r.n1 r.c1, .slice r.A2 r.n2 r.c2, .int .i64 (t : Int), .slice r.A3 r.n3 r.c3] #[.slice none 0 0, .slice none 0 0, .int .i64 0, .slice none 0 0] 33 (by rfl) J6.out (size43c8 _ _ _ _) rfl (one43c8 _ _ _ _ _ _ _ _ _) ?_; intro V2 j f; have M6 := Lib.hid j; have M7 := Lib.hid (f.keepBlk J7.out (by omega)); have M8 := Lib.hid (f.keepBlk J8.out (by omega)); have C2 := Lib.hid (f.keepBlk B2.out (by have := GT.out; omega)); have C3 := Lib.hid (f.keepBlk B3.out (by have := GT.out; omega)); have LB := Lib.hid (LA.out.trans (f.to_below (fun k e => by have := L1.out.size; omega) LA.out.size)); clear j f J6 J7 J8 B2 B3 LA)
    | (refine wpList_store_g8 rfl 49 (.tmp 7) (.tmp 14) rfl (g := V1.heap.size + 1) (by rfl) (cs2 x0 x1).toArray (cs2 hd0 hd0).toArray 49 (by rfl) M7.out (by kernel_rfl) rfl (cs2_one _ _) ?_; intro V3 j f; have N7 := Lib.hid j; have N6 := Lib.hid (f.keepBlk M6.out (by omega)); have N8 := Lib.hid (f.keepBlk M8.out (by omega)); have E2 := Lib.hid (f.keepBlk C2.out (by have := GT.out; omega)); have E3 := Lib.hid (f.keepBlk C3.out (by have := GT.out; omega)); have LC := Lib.hid (LB.out.trans (f.to_below (fun k e => by have := L1.out.size; omega) LB.out.size)); clear j f M6 M7 M8 C2 C3 LB)
    | (refine wpList_store_g8 rfl 50 (.tmp 8) (.tmp 15) rfl (g := V1.heap.size + 1 + 1) (by rfl) #[.bool true, .bool true] #[.bool false, .bool false] 50 (by rfl) N8.out (by kernel_rfl) rfl (by simp [Value.oneCell']) ?_; intro V4 j f; have K8 := Lib.hid j; have K6 := Lib.hid (f.keepBlk N6.out (by omega)); have K7 := Lib.hid (f.keepBlk N7.out (by omega)); have G2 := Lib.hid (f.keepBlk E2.out (by have := GT.out; omega)); have G3 := Lib.hid (f.keepBlk E3.out (by have := GT.out; omega)); have LD := Lib.hid (LC.out.trans (f.to_below (fun k e => by have := L1.out.size; omega) LC.out.size)); have q0 := (K8.out.cell 0).trans (show _ = some (.bool true) from rfl); have q1 := (K8.out.cell 1).trans (show _ = some (.bool true) from rfl); have r0 := (K7.out.cell 0).trans (show _ = some (.int .i64 x0.e) from rfl); have r3 := (K7.out.cell 3).trans (show _ = some (.int .i64 x1.e) from rfl); clear j f N6 N7 N8 E2 E3 LC))
  clear q0 q1 r0 r3
  replace K6 := Lib.hid (blk_drew K6.out)
  replace K7 := Lib.hid (blk_drew K7.out)
  replace G2 := Lib.hid (blk_drew G2.out)
  replace G3 := Lib.hid (blk_drew G3.out)
  replace LD := Lib.hid LD.out.drew
  refine wp_region_only (S := fun w' => Blk w' V1.heap.size 33 #[.slice r.A1 r.n1 r.c1, .slice r.A2 r.n2 r.c2, .int .i64 (t : Int), .slice r.A3 r.n3 r.c3] ∧ Blk w' (V1.heap.size + 1) 49 (cs2 x0 x1).toArray) (by kernel_rfl) ⟨K6.out, K7.out⟩ (fun hHeld => ?_)
  refine wpAnyH_take (i := 0) rfl (by kernel_rfl) (by kernel_rfl) (by kernel_rfl) (fun _ _ _ h => h) (yieldsIf_load_mid (by rfl) 33 (.tmp 6) (by rfl) V1.heap.size 0 (by rfl) [.slice r.A1 r.n1 r.c1, .slice r.A2 r.n2 r.c2, .int .i64 (t : Int), .slice r.A3 r.n3 r.c3] _ (fun w' hSw => Blk.rangeAt hSw.1) Try.underlying33 rfl size43) hHeld ?_
  try simp only [Act.put, List.getElem_toArray, List.getElem_cons_zero, List.setIfInBounds_toArray, List.set_cons_zero, List.set_cons_succ]
  refine wpAnyH_take (i := 1) (v := ?v10) rfl (by kernel_rfl) (by kernel_rfl) (by kernel_rfl) (fun _ _ _ h => h) (Or.inl ⟨by rfl, ?hy10⟩) hHeld ?rest10
  case hy10 =>
    intro w' hSw
    try dsimp only at hSw
    go_simp
    first | done | with_reducible rfl
  try simp only [Act.put, List.getElem_toArray, List.getElem_cons_succ, List.getElem_cons_zero, List.setIfInBounds_toArray, List.set_cons_zero, List.set_cons_succ]
  refine wpAnyH_take (i := 2) rfl (by kernel_rfl) (by kernel_rfl) (by kernel_rfl) (fun _ _ _ h => h) (yieldsIf_load_mid (by rfl) 28 (.tmp 52) (by rfl) (V1.heap.size + 1) (1 * 3) (by rfl) x1.cs _ (fun w' hSw => cs2_at1 x0 x1 (Blk.rangeAt (l := cs2 x0 x1) hSw.2)) Try.underlying28 rfl (size23 _)) hHeld ?_
  try simp only [Act.put, List.getElem_toArray, List.getElem_cons_succ, List.getElem_cons_zero, List.setIfInBounds_toArray, List.set_cons_zero, List.set_cons_succ]
  refine wpAnyH_ready (rs := [3]) (by kernel_rfl) (by simp) ?_
  refine AllReadyH.cons (by rfl) (fun K hK => ?_) AllReadyH.nil
  refine step_store8 rfl 33 (.tmp 2) (.tmp 51) rfl (by rfl) #[.slice r.A1 r.n1 r.c1, .slice r.A2 r.n2 r.c2, .int .i64 (t : Int), .slice r.A3 r.n3 r.c3] #[.slice none 0 0, .slice none 0 0, .int .i64 0, .slice none 0 0] 33 (by rfl) G2.out (size43c8 _ _ _ _) rfl (one43c8 _ _ _ _ _ _ _ _ _) ?_
  intro V5 j f
  have R2 := Lib.hid j
  have H3 := Lib.hid (f.keepBlk G3.out (by omega))
  have K6 := Lib.hid (f.keepBlk K6.out (by have := GT.out; omega))
  have K7 := Lib.hid (f.keepBlk K7.out (by have := GT.out; omega))
  have LE := Lib.hid (LD.out.trans (f.to_below (fun k e => by omega) LD.out.size))
  clear hHeld j f
  refine hK.out _ _ ⟨K6.out, K7.out⟩ (fun hHeld => ?_)
  clear hK K
  try simp only [Act.put, List.getElem_toArray, List.getElem_cons_succ, List.getElem_cons_zero]
  refine wpAnyH_ready (rs := [4]) (by kernel_rfl) (by simp) ?_
  refine AllReadyH.cons (by rfl) (fun K hK => ?_) AllReadyH.nil
  refine step_store8 rfl 28 (.tmp 3) (.tmp 53) rfl (by rfl) x1.cs.toArray hd0.cs.toArray 28 (by rfl) H3.out (by kernel_rfl) rfl (one23 _) ?_
  intro V6 j f
  have R3 := Lib.hid j
  have R2b := Lib.hid (f.keepBlk R2.out (by omega))
  have K6 := Lib.hid (f.keepBlk K6.out (by have := GT.out; omega))
  have K7 := Lib.hid (f.keepBlk K7.out (by have := GT.out; omega))
  have LF := Lib.hid (LE.out.trans (f.to_below (fun k e => by omega) LE.out.size))
  clear hHeld j f
  refine hK.out _ _ ⟨K6.out, K7.out⟩ (fun hHeld => ?_)
  clear hK K
  try simp only [Act.put, List.getElem_toArray, List.getElem_cons_succ, List.getElem_cons_zero]
  refine wpAnyH_take (i := 5) (v := ?v11) rfl (by kernel_rfl) (by kernel_rfl) (by kernel_rfl) (fun _ _ _ h => h) (Or.inl ⟨by rfl, ?hy11⟩) hHeld ?rest11
  case hy11 =>
    intro w' hSw
    try dsimp only at hSw
    go_simp
    first | done | with_reducible rfl
  try simp only [Act.put, List.getElem_toArray, List.getElem_cons_succ, List.getElem_cons_zero, List.setIfInBounds_toArray, List.set_cons_zero, List.set_cons_succ]
  refine wpAnyH_take (i := 6) (v := ?v12) rfl (by kernel_rfl) (by kernel_rfl) (by kernel_rfl) (fun _ _ _ h => h) (Or.inl ⟨by rfl, ?hy12⟩) hHeld ?rest12
  case hy12 =>
    intro w' hSw
    try dsimp only at hSw
    go_simp
    first | done | with_reducible rfl
  try simp only [Act.put, List.getElem_toArray, List.getElem_cons_succ, List.getElem_cons_zero, List.setIfInBounds_toArray, List.set_cons_zero, List.set_cons_succ]
  refine wpAnyH_done (by kernel_rfl) ?_ _
  refine OnlyN.normal ?_
  clear hHeld
  go_wp2_with fail
  exact bodyPost_ret (results_rread rfl _ _ (w.heap.size + 1) (w.heap.size + 1 + 1) #[.slice r.A1 r.n1 r.c1, .slice r.A2 r.n2 r.c2, .int .i64 (t : Int), .slice r.A3 r.n3 r.c3] rfl x1 rfl rfl R2b.out R3.out) rfl ⟨rfl, LF.out⟩
set_option maxRecDepth 8000 in
theorem rread8_all {w : World} {r : Rp} {R : Rf} {s z : Nat} (h : RefAt w r R z) (hs : s ≤ 99990) :
    Calls Try.prog 17 #[r.val s] w fun e w' => e = .returned (.tuple #[r.val (bcSt R s z), (rhH R s z).val, .int .i64 (rhAt R s z : Int), .int .i64 (rhNo R s z)]) ∧ Below w.heap.size w w' := by
  obtain ⟨h0, e0⟩ : ∃ t, bcH R s z 0 = t := ⟨_, rfl⟩
  obtain ⟨h1, e1⟩ : ∃ t, bcH R s z 1 = t := ⟨_, rfl⟩
  obtain ⟨a, ea⟩ : ∃ t, bcB R s z 0 = t := ⟨_, rfl⟩
  obtain ⟨b, eb⟩ : ∃ t, bcB R s z 1 = t := ⟨_, rfl⟩
  obtain ⟨no, en⟩ : ∃ t, bcNo R s z = t := ⟨_, rfl⟩
  have hnn : no ≠ 0 → a = false ∧ b = false := fun h => by
    rw [← ea, ← eb]
    unfold bcB
    rw [en, if_neg h, if_neg h]
    exact ⟨rfl, rfl⟩
  have RB : ∀ W : World, RefAt W r R z → Calls Try.prog 19 #[r.val s] W fun e w' => e = .returned (.tuple #[r.val (bcSt R s z), .agg (cs2 h0 h1).toArray, .agg #[.bool a, .bool b], .int .i64 no]) ∧ Below W.heap.size W w' := fun W hW => by
    have := rboth_any hW hs
    rw [e0, e1, ea, eb, en] at this
    exact this
  have FIN : ∀ (u : Hd) (k : Nat) (m : Int), rhH R s z = u → rhAt R s z = k → rhNo R s z = m → (Calls Try.prog 17 #[r.val s] w fun e w' => e = .returned (.tuple #[r.val (bcSt R s z), u.val, .int .i64 (k : Int), .int .i64 m]) ∧ Below w.heap.size w w') → Calls Try.prog 17 #[r.val s] w fun e w' => e = .returned (.tuple #[r.val (bcSt R s z), (rhH R s z).val, .int .i64 (rhAt R s z : Int), .int .i64 (rhNo R s z)]) ∧ Below w.heap.size w w' := fun u k m q1 q2 q3 hc => by
    rw [q1, q2, q3]
    exact hc
  have hNo : rhNo R s z = if no = 0 then (if a = false ∧ b = false then 180 else 0) else no := by unfold rhNo; rw [en, ea, eb]
  have hAt : rhAt R s z = if no = 0 ∧ b = true ∧ (a = false ∨ h0.e < h1.e) then 1 else 0 := by unfold rhAt; rw [en, ea, eb, e0, e1]
  by_cases hno : no = 0
  · subst hno
    rw [if_pos rfl] at hNo
    cases a with
    | false =>
      cases b with
      | false =>
        rw [if_pos ⟨rfl, rfl⟩] at hNo
        rw [if_neg (fun h => by cases h.2.1)] at hAt
        exact FIN hd0 0 180 (by unfold rhH; rw [hNo, if_neg (by decide)]) hAt hNo (rrd_none h RB)
      | true =>
        rw [if_neg (fun h => by cases h.2)] at hNo
        rw [if_pos ⟨rfl, rfl, .inl rfl⟩] at hAt
        exact FIN h1 1 0 (by unfold rhH; rw [hNo, if_pos rfl, hAt, e1]) hAt hNo (rrd_second h RB)
    | true =>
      rw [if_neg (fun h => by cases h.1)] at hNo
      cases b with
      | false =>
        rw [if_neg (fun h => by cases h.2.1)] at hAt
        exact FIN h0 0 0 (by unfold rhH; rw [hNo, if_pos rfl, hAt, e0]) hAt hNo (rrd_one h RB)
      | true =>
        by_cases hlt : h0.e < h1.e
        · rw [if_pos ⟨rfl, rfl, .inr hlt⟩] at hAt
          exact FIN h1 1 0 (by unfold rhH; rw [hNo, if_pos rfl, hAt, e1]) hAt hNo (rrd_later hlt h RB)
        · rw [if_neg (fun h => h.2.2.elim (fun x => by cases x) hlt)] at hAt
          exact FIN h0 0 0 (by unfold rhH; rw [hNo, if_pos rfl, hAt, e0]) hAt hNo (rrd_first hlt h RB)
  · rw [if_neg hno] at hNo
    rw [if_neg (fun h => hno h.1)] at hAt
    obtain ⟨rfl, rfl⟩ := hnn hno
    exact FIN hd0 0 no (by unfold rhH; rw [hNo, if_neg hno]) hAt hNo (rrd_err (by simpa using hno) h RB)
end Go.Proofs.Ytcfkoglehjkkdaa

/- headers: said and headerOf, of any bytes. -/
import Derived.Test.YtcfkoglehjkkdaaHGot
import Derived.WalkMore
import Derived.ScopeJumps
namespace Go.Proofs.Ytcfkoglehjkkdaa
open Go.RowKit
attribute [local go_sem] Oper.semAt_some
theorem yields_neq145b {ops : Array Oper} {S : World → Prop} {o : Oper} {a : Act} (hw : Region.wanted o (yielded ops a.tmps) = true) (x y : Operand) (ho : o.op = .binOp .neq 138 x y 138) (l l' : List UInt8) (b : Bool) (hq : (!(l == l')) = b) (hx : a.eval x = sec l) (hy : a.eval y = sec l') (h : l.length = 8) (h' : l'.length = 8) : YieldsIf Try.prog ops S o (.bool b) a := hq ▸ yields_neq145 hw x y ho l l' hx hy h h'
set_option maxRecDepth 100000 in
set_option maxHeartbeats 4000000 in
theorem said_fine {w : World} (g c : Nat) (l : List UInt8) (hl : l.length = 512) (hc : 508 ≤ c) (hr : Rd w (some ⟨g, 0, none⟩) (l.take 508)) (he : eB l ≤ 9223372036854775807) :
    Calls Try.prog 68 #[.slice (some ⟨g, 0, none⟩) 508 c] w fun r w' => r = .returned (.tuple #[Hd.val ⟨eB l, aB l, oB l⟩, .int .i64 (Hd.no ⟨eB l, aB l, oB l⟩)]) ∧ Below w.heap.size w w' := by
  have hz := z23
  have C4 := Lib.hid (show ((l.take 508).drop 4).take 8 = S.bytesLE 8 (eB l) from (cutB_take l 4 8 (by omega)).trans (le_cut hl 4 8 (by omega)).symm)
  have C12 := Lib.hid (show ((l.take 508).drop 12).take 2 = S.bytesLE 2 (aB l) from (cutB_take l 12 2 (by omega)).trans (le_cut hl 12 2 (by omega)).symm)
  have C14 := Lib.hid (show ((l.take 508).drop 14).take 2 = S.bytesLE 2 (oB l) from (cutB_take l 14 2 (by omega)).trans (le_cut hl 14 2 (by omega)).symm)
  have ha := aB_lt l hl
  have ho := oB_lt l hl
  obtain ⟨e, hee⟩ : ∃ e, eB l = e := ⟨_, rfl⟩
  obtain ⟨a, haa⟩ : ∃ a, aB l = a := ⟨_, rfl⟩
  obtain ⟨o, hoo⟩ : ∃ o, oB l = o := ⟨_, rfl⟩
  rw [hee] at C4 he ⊢
  rw [haa] at C12 ha ⊢
  rw [hoo] at C14 ho ⊢
  obtain ⟨no, hno⟩ : ∃ no, Hd.no ⟨(e : Int), (a : Int), (o : Int)⟩ = no := ⟨_, rfl⟩
  rw [hno]
  have HK := Lib.hid hno
  have HE := Lib.hid (show (e : Int) ≤ 9223372036854775807 by omega)
  have HA := Lib.hid (show (a : Int) ≤ 65535 by omega)
  have HO := Lib.hid (show (o : Int) ≤ 65535 by omega)
  clear hee haa hoo hno ha ho
  have R0 := Lib.hid (hr.alloc (.cells (Hd.cs ⟨0, 0, 0⟩).toArray 28))
  have B0 := Lib.hid (Blk.new w 28 (Hd.cs ⟨0, 0, 0⟩).toArray)
  have L0 := Lib.hid ((Below.refl w.heap.size w).alloc (Nat.le_refl _) (.cells (Hd.cs ⟨0, 0, 0⟩).toArray 28))
  have c4 : 4 ≤ c := by omega
  have c12 : 12 ≤ c := by omega
  have c14 : 14 ≤ c := by omega
  have c16 : 16 ≤ c := by omega
  have e1 : (c = 4) = False := eq_false (by omega)
  clear hr he hl
  go_enter Try.func68, Try.ntmps68
  go_wp2_with fail
  refine (get_num e 8 9223372036854775807 rfl HE.out (some ⟨g, 4, none⟩) (c - 4) _ (by have := (R0.out.drop 4).take 8; rw [C4.out, Nat.zero_add] at this; exact this)).mono ?_
  rintro r W1 ⟨rfl, hb⟩
  have R1 := Lib.hid (R0.out.below hb)
  have B1 := Lib.hid (B0.out.below hb B0.out.lt)
  have L1 := Lib.hid (L0.out.trans (hb.mono L0.out.size))
  clear hb R0 B0 L0
  go_wp2_with fail
  refine (get_num a 2 65535 rfl HA.out (some ⟨g, 12, none⟩) (c - 12) _ (by have := (R1.out.drop 12).take 2; rw [C12.out, Nat.zero_add] at this; exact this)).mono ?_
  rintro r W2 ⟨rfl, hb⟩
  have R2 := Lib.hid (R1.out.below hb)
  have B2 := Lib.hid (B1.out.below hb B1.out.lt)
  have L2 := Lib.hid (L1.out.trans (hb.mono L1.out.size))
  clear hb R1 B1 L1
  go_wp2_with fail
  refine (get_num o 2 65535 rfl HO.out (some ⟨g, 14, none⟩) (c - 14) _ (by have := (R2.out.drop 14).take 2; rw [C14.out, Nat.zero_add] at this; exact this)).mono ?_
  rintro r W3 ⟨rfl, hb⟩
  have B3 := Lib.hid (B2.out.below hb B2.out.lt)
  have L3 := Lib.hid (L2.out.trans (hb.mono L2.out.size))
  clear hb R2 B2 L2
  have N4 := Lib.hid (blk_drew (Blk.new W3 28 (Hd.cs ⟨e, a, o⟩).toArray))
  have B4 := Lib.hid (blk_drew (B3.out.alloc (.cells (Hd.cs ⟨e, a, o⟩).toArray 28)))
  have L4 := Lib.hid ((L3.out.alloc L3.out.size (.cells (Hd.cs ⟨e, a, o⟩).toArray 28)).drew)
  have SZ := Lib.hid (show w.heap.size < W3.heap.size from B3.out.lt)
  clear B3 L3
  go_wp2_with fail
  refine wp_region_only (S := fun w' => Blk w' W3.heap.size 28 (Hd.cs ⟨e, a, o⟩).toArray) (by kernel_rfl) N4.out (fun hHeld => ?_)
  refine wpAnyH_take (i := 0) rfl (by kernel_rfl) (by kernel_rfl) (by kernel_rfl) (fun _ _ _ h => h) (yieldsIf_load_mid (by rfl) 28 (.tmp 10) (by rfl) W3.heap.size 0 (by rfl) (Hd.cs ⟨e, a, o⟩) _ (fun w' hSw => Blk.rangeAt (l := (Hd.cs ⟨e, a, o⟩)) hSw) Try.underlying28 rfl (size23 _)) hHeld ?_
  try simp only [Act.put, List.getElem_toArray, List.getElem_cons_zero, List.setIfInBounds_toArray, List.set_cons_zero, List.set_cons_succ]
  refine wpAnyH_take (i := 1) rfl (by kernel_rfl) (by kernel_rfl) (by kernel_rfl) (fun _ _ _ h => h) (yieldsIf_load_mid (by rfl) 28 (.tmp 10) (by rfl) W3.heap.size 0 (by rfl) (Hd.cs ⟨e, a, o⟩) _ (fun w' hSw => Blk.rangeAt (l := (Hd.cs ⟨e, a, o⟩)) hSw) Try.underlying28 rfl (size23 _)) hHeld ?_
  try simp only [Act.put, List.getElem_toArray, List.getElem_cons_succ, List.getElem_cons_zero, List.setIfInBounds_toArray, List.set_cons_zero, List.set_cons_succ]
  refine wpAnyH_ready (rs := [2]) (by kernel_rfl) (by simp) ?_
  refine AllReadyH.cons (by rfl) (fun K hK => ?_) AllReadyH.nil
  go_simp
  refine (check_any ⟨e, a, o⟩ _).mono ?_
  rw [HK.out]
  rintro r W5 ⟨rfl, hb⟩
  have N5 := Lib.hid (N4.out.below hb N4.out.lt)
  have B5 := Lib.hid (B4.out.below hb B4.out.lt)
  have L5 := Lib.hid (L4.out.trans (hb.mono L4.out.size))
  clear hb hHeld
  refine hK.out _ _ N5.out (fun hHeld => ?_)
  clear hK K
  try simp only [Act.put, List.getElem_toArray, List.getElem_cons_succ, List.getElem_cons_zero, List.setIfInBounds_toArray, List.set_cons_zero, List.set_cons_succ]
  refine wpAnyH_ready (rs := [3]) (by kernel_rfl) (by simp) ?_
  refine AllReadyH.cons (by rfl) (fun K hK => ?_) AllReadyH.nil
  refine step_store8 rfl 28 (.tmp 2) (.tmp 37) rfl (by rfl) (Hd.cs ⟨e, a, o⟩).toArray (Hd.cs ⟨0, 0, 0⟩).toArray 28 (by rfl) B5.out (by kernel_rfl) rfl (one23 _) ?_
  intro W6 j6 f6
  have B6 := Lib.hid j6
  have N6 := Lib.hid (f6.keepBlk N5.out (by have := SZ.out; omega))
  have L6 := Lib.hid (L5.out.trans (f6.to_below (fun k e => by omega) L5.out.size))
  clear hHeld j6 f6 N5 B5 L5
  refine hK.out _ _ N6.out (fun hHeld => ?_)
  clear hK K
  try simp only [Act.put, List.getElem_toArray, List.getElem_cons_succ, List.getElem_cons_zero]
  refine wpAnyH_take (i := 4) (v := ?v1) rfl (by kernel_rfl) (by kernel_rfl) (by kernel_rfl) (fun _ _ _ h => h) (Or.inl ⟨by rfl, ?hy1⟩) hHeld ?rest1
  case hy1 =>
    intro w' hSw
    try dsimp only at hSw
    go_simp
    first | done | with_reducible rfl
  try simp only [Act.put, List.getElem_toArray, List.getElem_cons_succ, List.getElem_cons_zero, List.setIfInBounds_toArray, List.set_cons_zero, List.set_cons_succ]
  refine wpAnyH_done (by kernel_rfl) ?_ _
  refine OnlyN.normal ?_
  clear hHeld
  go_wp2_with fail
  exact bodyPost_ret (results_hd rfl _ _ w.heap.size ⟨e, a, o⟩ rfl B6.out) rfl ⟨rfl, L6.out⟩
set_option maxRecDepth 100000 in
set_option maxHeartbeats 4000000 in
theorem said_big {w : World} (g c : Nat) (l : List UInt8) (hl : l.length = 512) (hc : 508 ≤ c) (hr : Rd w (some ⟨g, 0, none⟩) (l.take 508)) (he : ¬ eB l ≤ 9223372036854775807) :
    Calls Try.prog 68 #[.slice (some ⟨g, 0, none⟩) 508 c] w fun r w' => r = .returned (.tuple #[Hd.val ⟨0, 0, 0⟩, .int .i64 2]) ∧ Below w.heap.size w w' := by
  have hz := z23
  have R0 := Lib.hid (hr.alloc (.cells (Hd.cs ⟨0, 0, 0⟩).toArray 28))
  have B0 := Lib.hid (Blk.new w 28 (Hd.cs ⟨0, 0, 0⟩).toArray)
  have L0 := Lib.hid ((Below.refl w.heap.size w).alloc (Nat.le_refl _) (.cells (Hd.cs ⟨0, 0, 0⟩).toArray 28))
  have C4 := Lib.hid (show ((l.take 508).drop 4).take 8 = cutB l 4 8 from cutB_take l 4 8 (by omega))
  have L8 := Lib.hid (cutB_length hl 4 8 (by omega))
  have HE := Lib.hid (show ¬ (S.numLE (cutB l 4 8) : Int) ≤ 9223372036854775807 by unfold eB at he; omega)
  have c4 : 4 ≤ c := by omega
  have c12 : 12 ≤ c := by omega
  have e1 : (c = 4) = False := eq_false (by omega)
  clear hr he hl
  go_enter Try.func68, Try.ntmps68
  go_wp2_with fail
  refine (S.get_some (some ⟨g, 4, none⟩) 8 (c - 4) (cutB l 4 8) 9223372036854775807 _ L8.out (by have := (R0.out.drop 4).take 8; rw [C4.out, Nat.zero_add] at this; exact this) rfl).mono ?_
  rw [if_neg (by have := HE.out; omega)]
  rintro r W1 ⟨rfl, hb⟩
  have B1 := Lib.hid (B0.out.below hb B0.out.lt)
  have L1 := Lib.hid (L0.out.trans (hb.mono L0.out.size))
  clear hb R0 B0 L0
  go_wp2_with (first
    | (refine wpList_store_row rfl 28 (.tmp 2) (.tmp 19) rfl w.heap.size (Hd.cs ⟨0, 0, 0⟩).toArray rfl rfl 28 _ B1.out (by kernel_rfl) rfl (one23 _) ?_))
  exact bodyPost_ret (results_hd rfl _ _ w.heap.size ⟨0, 0, 0⟩ rfl (B1.out.setRow _)) rfl ⟨rfl, L1.out.trans ((setRow_fr8 _ _ _).to_below (fun k e => by omega) L1.out.size)⟩
set_option maxRecDepth 100000 in
set_option maxHeartbeats 4000000 in
theorem headerOf_mark {w : World} (l : List UInt8) (hl : l.length = 512) (hq : ((S.numLE (l.drop 508) : Int) != (S.crcN (l.take 508) : Int)) = false) (q1 : ¬ cutB l 0 4 = [67, 72, 72, 68]) :
    Calls Try.prog 50 #[sec l] w fun r w' => r = .returned (.tuple #[Hd.val ⟨0, 0, 0⟩, .bool false]) ∧ Below w.heap.size w w' := by
  have hz := z23
  have HLN := Lib.hid hl
  have hbl : (bv l).length = 512 := by rw [bv_length, hl]
  have B0 := Lib.hid ((Blk.new w 56 (bv l).toArray).alloc (.cells (Hd.cs ⟨0, 0, 0⟩).toArray 28))
  have B1 := Lib.hid (blk_new1 w (.cells (bv l).toArray 56) 28 (Hd.cs ⟨0, 0, 0⟩).toArray)
  have L0 := Lib.hid (((Below.refl w.heap.size w).alloc (Nat.le_refl _) (.cells (bv l).toArray 56)).alloc (by simp) (.cells (Hd.cs ⟨0, 0, 0⟩).toArray 28))
  obtain ⟨zz, hzz⟩ : ∃ zz : List UInt8, zz = List.replicate 484 0 := ⟨_, rfl⟩
  have HZ := Lib.hid (show zz.length = 484 by rw [hzz, List.length_replicate])
  have HZZ := Lib.hid hzz
  have C0 := Lib.hid (show (l.take 508).take 4 = cutB l 0 4 from (show _ = ((l.take 508).drop 0).take 4 from rfl).trans (cutB_take l 0 4 (by omega)))
  have C16 := Lib.hid (show ((l.take 508).drop 16).take 484 = cutB l 16 484 from cutB_take l 16 484 (by omega))
  have C4 := Lib.hid (show ((l.take 508).drop 4).take 8 = cutB l 4 8 from cutB_take l 4 8 (by omega))
  have C500 := Lib.hid (show ((l.take 508).drop 500).take 8 = cutB l 500 8 from cutB_take l 500 8 (by omega))
  have N16 := Lib.hid (cutB_length hl 16 484 (by omega))
  have N4 := Lib.hid (cutB_length hl 4 8 (by omega))
  have N500 := Lib.hid (cutB_length hl 500 8 (by omega))
  have HQ := Lib.hid hq
  have hn1 : ((st (cutB l 0 4)).toList == [67, 72, 72, 68]) = false := by rw [st_toList]; exact beq_eq_false_iff_ne.2 q1
  clear q1
  clear hl hq hzz
  go_enter Try.func50, Try.ntmps50
  go_wp2_with fail
  refine wp_scope_jumps 0 (fun a' w' => (∃ t4 t5 t6 t7 t8 t9 t10 t11 t12 t13 t14 t15 t16 t17 t18 t19 t20 t21 t22 t23 t24 t25 t26 t27 t28 t29 t30 t31 t32 t33 t34 t35 t36 t37 t38 t39 t40 t41 t42 t43 : Value, a' = { tmps := #[sec l, .pointer (some ⟨w.heap.size, 0, none⟩), .pointer (some ⟨w.heap.size + 1, 0, none⟩), .bool false, t4, t5, t6, t7, t8, t9, t10, t11, t12, t13, t14, t15, t16, t17, t18, t19, t20, t21, t22, t23, t24, t25, t26, t27, t28, t29, t30, t31, t32, t33, t34, t35, t36, t37, t38, t39, t40, t41, t42, t43], defers := [] }) ∧ (∃ u : Hd, Blk w' (w.heap.size + 1) 28 u.cs.toArray) ∧ Below w.heap.size w w') (fun _ _ => 0) rfl ?first ?pass
  case first =>
    go_wp2_with fail
    refine (S.sealed_yes (some ⟨w.heap.size, 0, none⟩) 508 512 l _ HLN.out (by omega) (rd_bv B0.out) (by omega) HQ.out).mono ?_
    rintro r W1 ⟨v, rfl, hown, hb⟩
    obtain ⟨A', c, rfl⟩ := own_shape hown
    obtain ⟨g, rfl, hg, hgl⟩ := own_addr' hown (by omega)
    have hc := own_cap hown
    have RG := Lib.hid (own_range hown)
    have RR := Lib.hid (Rd.of_own hown)
    have B2 := Lib.hid (B1.out.below hb B1.out.lt)
    have L1 := Lib.hid (L0.out.trans (hb.mono L0.out.size))
    have hcv : (convert 22 9 (.slice (some ⟨g, 0, none⟩) 4 c)).run Try.prog W1 = .ok (.string (st (cutB l 0 4))) W1 := by
      have h4 := RR.out.take 4
      rw [C0.out] at h4
      exact run_str W1 Try.underlying22 Try.underlying5 Try.underlying9 (cutB_length HLN.out 0 4 (by omega)) h4
    have hr1 := fun W : World => arr_run Try.underlying137 W (some ⟨g, 16, none⟩) 484 (c - 16) (Nat.le_refl _)
    have hr2 := fun W : World => arr_run Try.underlying138 W (some ⟨g, 4, none⟩) 8 (c - 4) (Nat.le_refl _)
    have hr3 := fun W : World => arr_run Try.underlying138 W (some ⟨g, 500, none⟩) 8 (c - 500) (Nat.le_refl _)
    have c4 : 4 ≤ c := by omega
    have c12 : 12 ≤ c := by omega
    have c500 : 500 ≤ c := by omega
    have k12 : (12 : Int) ≤ (c : Int) := by omega
    have k508 : (508 : Int) ≤ (c : Int) := by omega
    have k500 : (500 : Int) ≤ (c : Int) := by omega
    have e4 : ¬ c = 4 := by omega
    have e16 : ¬ c = 16 := by omega
    have e500 : ¬ c = 500 := by omega
    clear hown hb hg hgl B0 B1 L0 hbl
    go_wp2_with fail
    go_step3
    exact ⟨rfl, ⟨_, _, _, _, _, _, _, _, _, _, _, _, _, _, _, _, _, _, _, _, _, _, _, _, _, _, _, _, _, _, _, _, _, _, _, _, _, _, _, _, rfl⟩, ⟨_, B2.out⟩, L1.out⟩
  case pass =>
    rintro a' W9 ⟨⟨t4, t5, t6, t7, t8, t9, t10, t11, t12, t13, t14, t15, t16, t17, t18, t19, t20, t21, t22, t23, t24, t25, t26, t27, t28, t29, t30, t31, t32, t33, t34, t35, t36, t37, t38, t39, t40, t41, t42, t43, rfl⟩, ⟨u, b2⟩, l2⟩
    have B9 := Lib.hid b2
    have L9 := Lib.hid l2
    clear b2 l2
    go_wp2_with (first
      | (refine wpList_store_row rfl 28 (.tmp 2) (.tmp 43) rfl (w.heap.size + 1) (Hd.cs ⟨0, 0, 0⟩).toArray rfl rfl 28 _ B9.out (by kernel_rfl) rfl (one23 _) ?_))
    simp only [Exit.jump]
    exact bodyPost_ret (results_hd rfl _ _ (w.heap.size + 1) ⟨0, 0, 0⟩ rfl (B9.out.setRow _)) rfl ⟨rfl, below_setRow L9.out (by omega) _⟩
set_option maxRecDepth 100000 in
set_option maxHeartbeats 4000000 in
theorem headerOf_noughts {w : World} (l : List UInt8) (hl : l.length = 512) (hq : ((S.numLE (l.drop 508) : Int) != (S.crcN (l.take 508) : Int)) = false) (q1 : cutB l 0 4 = [67, 72, 72, 68]) (q2 : ¬ cutB l 16 484 = List.replicate 484 0) :
    Calls Try.prog 50 #[sec l] w fun r w' => r = .returned (.tuple #[Hd.val ⟨0, 0, 0⟩, .bool false]) ∧ Below w.heap.size w w' := by
  have hz := z23
  have HLN := Lib.hid hl
  have hbl : (bv l).length = 512 := by rw [bv_length, hl]
  have B0 := Lib.hid ((Blk.new w 56 (bv l).toArray).alloc (.cells (Hd.cs ⟨0, 0, 0⟩).toArray 28))
  have B1 := Lib.hid (blk_new1 w (.cells (bv l).toArray 56) 28 (Hd.cs ⟨0, 0, 0⟩).toArray)
  have L0 := Lib.hid (((Below.refl w.heap.size w).alloc (Nat.le_refl _) (.cells (bv l).toArray 56)).alloc (by simp) (.cells (Hd.cs ⟨0, 0, 0⟩).toArray 28))
  obtain ⟨zz, hzz⟩ : ∃ zz : List UInt8, zz = List.replicate 484 0 := ⟨_, rfl⟩
  have HZ := Lib.hid (show zz.length = 484 by rw [hzz, List.length_replicate])
  have HZZ := Lib.hid hzz
  have C0 := Lib.hid (show (l.take 508).take 4 = cutB l 0 4 from (show _ = ((l.take 508).drop 0).take 4 from rfl).trans (cutB_take l 0 4 (by omega)))
  have C16 := Lib.hid (show ((l.take 508).drop 16).take 484 = cutB l 16 484 from cutB_take l 16 484 (by omega))
  have C4 := Lib.hid (show ((l.take 508).drop 4).take 8 = cutB l 4 8 from cutB_take l 4 8 (by omega))
  have C500 := Lib.hid (show ((l.take 508).drop 500).take 8 = cutB l 500 8 from cutB_take l 500 8 (by omega))
  have N16 := Lib.hid (cutB_length hl 16 484 (by omega))
  have N4 := Lib.hid (cutB_length hl 4 8 (by omega))
  have N500 := Lib.hid (cutB_length hl 500 8 (by omega))
  have HQ := Lib.hid hq
  have Q1 := Lib.hid q1
  clear q1
  have Q2 := Lib.hid (show (!(cutB l 16 484 == zz)) = true by rw [hzz]; simpa using q2)
  clear q2
  clear hl hq hzz
  go_enter Try.func50, Try.ntmps50
  go_wp2_with fail
  refine wp_scope_jumps 0 (fun a' w' => (∃ t4 t5 t6 t7 t8 t9 t10 t11 t12 t13 t14 t15 t16 t17 t18 t19 t20 t21 t22 t23 t24 t25 t26 t27 t28 t29 t30 t31 t32 t33 t34 t35 t36 t37 t38 t39 t40 t41 t42 t43 : Value, a' = { tmps := #[sec l, .pointer (some ⟨w.heap.size, 0, none⟩), .pointer (some ⟨w.heap.size + 1, 0, none⟩), .bool false, t4, t5, t6, t7, t8, t9, t10, t11, t12, t13, t14, t15, t16, t17, t18, t19, t20, t21, t22, t23, t24, t25, t26, t27, t28, t29, t30, t31, t32, t33, t34, t35, t36, t37, t38, t39, t40, t41, t42, t43], defers := [] }) ∧ (∃ u : Hd, Blk w' (w.heap.size + 1) 28 u.cs.toArray) ∧ Below w.heap.size w w') (fun _ _ => 0) rfl ?first ?pass
  case first =>
    go_wp2_with fail
    refine (S.sealed_yes (some ⟨w.heap.size, 0, none⟩) 508 512 l _ HLN.out (by omega) (rd_bv B0.out) (by omega) HQ.out).mono ?_
    rintro r W1 ⟨v, rfl, hown, hb⟩
    obtain ⟨A', c, rfl⟩ := own_shape hown
    obtain ⟨g, rfl, hg, hgl⟩ := own_addr' hown (by omega)
    have hc := own_cap hown
    have RG := Lib.hid (own_range hown)
    have RR := Lib.hid (Rd.of_own hown)
    have B2 := Lib.hid (B1.out.below hb B1.out.lt)
    have L1 := Lib.hid (L0.out.trans (hb.mono L0.out.size))
    have hcv : (convert 22 9 (.slice (some ⟨g, 0, none⟩) 4 c)).run Try.prog W1 = .ok (.string (st (cutB l 0 4))) W1 := by
      have h4 := RR.out.take 4
      rw [C0.out] at h4
      exact run_str W1 Try.underlying22 Try.underlying5 Try.underlying9 (cutB_length HLN.out 0 4 (by omega)) h4
    rw [Q1.out] at hcv
    replace hcv : (convert 22 9 (.slice (some ⟨g, 0, none⟩) 4 c)).run Try.prog W1 = .ok (.string ⟨#[67, 72, 72, 68]⟩) W1 := hcv
    have hr1 := fun W : World => arr_run Try.underlying137 W (some ⟨g, 16, none⟩) 484 (c - 16) (Nat.le_refl _)
    have hr2 := fun W : World => arr_run Try.underlying138 W (some ⟨g, 4, none⟩) 8 (c - 4) (Nat.le_refl _)
    have hr3 := fun W : World => arr_run Try.underlying138 W (some ⟨g, 500, none⟩) 8 (c - 500) (Nat.le_refl _)
    have c4 : 4 ≤ c := by omega
    have c12 : 12 ≤ c := by omega
    have c500 : 500 ≤ c := by omega
    have k12 : (12 : Int) ≤ (c : Int) := by omega
    have k508 : (508 : Int) ≤ (c : Int) := by omega
    have k500 : (500 : Int) ≤ (c : Int) := by omega
    have e4 : ¬ c = 4 := by omega
    have e16 : ¬ c = 16 := by omega
    have e500 : ¬ c = 500 := by omega
    clear hown hb hg hgl B0 B1 L0 hbl
    go_wp2_with (first
      | (refine wpList_load_mid rfl 137 (.tmp 22) rfl g 16 rfl (bv (cutB l 16 484)) _ (hd_range8 RG.out C16.out) Try.underlying137 rfl (by rw [bv_length, N16.out]; exact size144) ?_)
      | (refine wpList_y8 (S := fun _ => True) (yields_build144 zz HZZ.out (by rfl) rfl) trivial ?_)
      | (refine wpList_y8 (S := fun _ => True) (yields_neq144 (by rfl) (.tmp 23) (.tmp 24) rfl (cutB l 16 484) zz (by rfl) (by rfl) N16.out HZ.out) trivial ?_; rw [Q2.out]))
    go_step3
    exact ⟨rfl, ⟨_, _, _, _, _, _, _, _, _, _, _, _, _, _, _, _, _, _, _, _, _, _, _, _, _, _, _, _, _, _, _, _, _, _, _, _, _, _, _, _, rfl⟩, ⟨_, B2.out⟩, L1.out⟩
  case pass =>
    rintro a' W9 ⟨⟨t4, t5, t6, t7, t8, t9, t10, t11, t12, t13, t14, t15, t16, t17, t18, t19, t20, t21, t22, t23, t24, t25, t26, t27, t28, t29, t30, t31, t32, t33, t34, t35, t36, t37, t38, t39, t40, t41, t42, t43, rfl⟩, ⟨u, b2⟩, l2⟩
    have B9 := Lib.hid b2
    have L9 := Lib.hid l2
    clear b2 l2
    go_wp2_with (first
      | (refine wpList_store_row rfl 28 (.tmp 2) (.tmp 43) rfl (w.heap.size + 1) (Hd.cs ⟨0, 0, 0⟩).toArray rfl rfl 28 _ B9.out (by kernel_rfl) rfl (one23 _) ?_))
    simp only [Exit.jump]
    exact bodyPost_ret (results_hd rfl _ _ (w.heap.size + 1) ⟨0, 0, 0⟩ rfl (B9.out.setRow _)) rfl ⟨rfl, below_setRow L9.out (by omega) _⟩
set_option maxRecDepth 100000 in
set_option maxHeartbeats 4000000 in
theorem headerOf_ed {w : World} (l : List UInt8) (hl : l.length = 512) (hq : ((S.numLE (l.drop 508) : Int) != (S.crcN (l.take 508) : Int)) = false) (q1 : cutB l 0 4 = [67, 72, 72, 68]) (q2 : cutB l 16 484 = List.replicate 484 0) (q3 : ¬ cutB l 4 8 = cutB l 500 8) :
    Calls Try.prog 50 #[sec l] w fun r w' => r = .returned (.tuple #[Hd.val ⟨0, 0, 0⟩, .bool false]) ∧ Below w.heap.size w w' := by
  have hz := z23
  have HLN := Lib.hid hl
  have hbl : (bv l).length = 512 := by rw [bv_length, hl]
  have B0 := Lib.hid ((Blk.new w 56 (bv l).toArray).alloc (.cells (Hd.cs ⟨0, 0, 0⟩).toArray 28))
  have B1 := Lib.hid (blk_new1 w (.cells (bv l).toArray 56) 28 (Hd.cs ⟨0, 0, 0⟩).toArray)
  have L0 := Lib.hid (((Below.refl w.heap.size w).alloc (Nat.le_refl _) (.cells (bv l).toArray 56)).alloc (by simp) (.cells (Hd.cs ⟨0, 0, 0⟩).toArray 28))
  obtain ⟨zz, hzz⟩ : ∃ zz : List UInt8, zz = List.replicate 484 0 := ⟨_, rfl⟩
  have HZ := Lib.hid (show zz.length = 484 by rw [hzz, List.length_replicate])
  have HZZ := Lib.hid hzz
  have C0 := Lib.hid (show (l.take 508).take 4 = cutB l 0 4 from (show _ = ((l.take 508).drop 0).take 4 from rfl).trans (cutB_take l 0 4 (by omega)))
  have C16 := Lib.hid (show ((l.take 508).drop 16).take 484 = cutB l 16 484 from cutB_take l 16 484 (by omega))
  have C4 := Lib.hid (show ((l.take 508).drop 4).take 8 = cutB l 4 8 from cutB_take l 4 8 (by omega))
  have C500 := Lib.hid (show ((l.take 508).drop 500).take 8 = cutB l 500 8 from cutB_take l 500 8 (by omega))
  have N16 := Lib.hid (cutB_length hl 16 484 (by omega))
  have N4 := Lib.hid (cutB_length hl 4 8 (by omega))
  have N500 := Lib.hid (cutB_length hl 500 8 (by omega))
  have HQ := Lib.hid hq
  have Q1 := Lib.hid q1
  clear q1
  have Q2 := Lib.hid (show (!(cutB l 16 484 == zz)) = false by rw [hzz, q2]; simp)
  clear q2
  have Q3 := Lib.hid (show (!(cutB l 4 8 == cutB l 500 8)) = true by simpa using q3)
  clear q3
  clear hl hq hzz
  go_enter Try.func50, Try.ntmps50
  go_wp2_with fail
  refine wp_scope_jumps 0 (fun a' w' => (∃ t4 t5 t6 t7 t8 t9 t10 t11 t12 t13 t14 t15 t16 t17 t18 t19 t20 t21 t22 t23 t24 t25 t26 t27 t28 t29 t30 t31 t32 t33 t34 t35 t36 t37 t38 t39 t40 t41 t42 t43 : Value, a' = { tmps := #[sec l, .pointer (some ⟨w.heap.size, 0, none⟩), .pointer (some ⟨w.heap.size + 1, 0, none⟩), .bool false, t4, t5, t6, t7, t8, t9, t10, t11, t12, t13, t14, t15, t16, t17, t18, t19, t20, t21, t22, t23, t24, t25, t26, t27, t28, t29, t30, t31, t32, t33, t34, t35, t36, t37, t38, t39, t40, t41, t42, t43], defers := [] }) ∧ (∃ u : Hd, Blk w' (w.heap.size + 1) 28 u.cs.toArray) ∧ Below w.heap.size w w') (fun _ _ => 0) rfl ?first ?pass
  case first =>
    go_wp2_with fail
    refine (S.sealed_yes (some ⟨w.heap.size, 0, none⟩) 508 512 l _ HLN.out (by omega) (rd_bv B0.out) (by omega) HQ.out).mono ?_
    rintro r W1 ⟨v, rfl, hown, hb⟩
    obtain ⟨A', c, rfl⟩ := own_shape hown
    obtain ⟨g, rfl, hg, hgl⟩ := own_addr' hown (by omega)
    have hc := own_cap hown
    have RG := Lib.hid (own_range hown)
    have RR := Lib.hid (Rd.of_own hown)
    have B2 := Lib.hid (B1.out.below hb B1.out.lt)
    have L1 := Lib.hid (L0.out.trans (hb.mono L0.out.size))
    have hcv : (convert 22 9 (.slice (some ⟨g, 0, none⟩) 4 c)).run Try.prog W1 = .ok (.string (st (cutB l 0 4))) W1 := by
      have h4 := RR.out.take 4
      rw [C0.out] at h4
      exact run_str W1 Try.underlying22 Try.underlying5 Try.underlying9 (cutB_length HLN.out 0 4 (by omega)) h4
    rw [Q1.out] at hcv
    replace hcv : (convert 22 9 (.slice (some ⟨g, 0, none⟩) 4 c)).run Try.prog W1 = .ok (.string ⟨#[67, 72, 72, 68]⟩) W1 := hcv
    have hr1 := fun W : World => arr_run Try.underlying137 W (some ⟨g, 16, none⟩) 484 (c - 16) (Nat.le_refl _)
    have hr2 := fun W : World => arr_run Try.underlying138 W (some ⟨g, 4, none⟩) 8 (c - 4) (Nat.le_refl _)
    have hr3 := fun W : World => arr_run Try.underlying138 W (some ⟨g, 500, none⟩) 8 (c - 500) (Nat.le_refl _)
    have c4 : 4 ≤ c := by omega
    have c12 : 12 ≤ c := by omega
    have c500 : 500 ≤ c := by omega
    have k12 : (12 : Int) ≤ (c : Int) := by omega
    have k508 : (508 : Int) ≤ (c : Int) := by omega
    have k500 : (500 : Int) ≤ (c : Int) := by omega
    have e4 : ¬ c = 4 := by omega
    have e16 : ¬ c = 16 := by omega
    have e500 : ¬ c = 500 := by omega
    clear hown hb hg hgl B0 B1 L0 hbl
    go_wp2_with (first
      | (refine wpList_load_mid rfl 137 (.tmp 22) rfl g 16 rfl (bv (cutB l 16 484)) _ (hd_range8 RG.out C16.out) Try.underlying137 rfl (by rw [bv_length, N16.out]; exact size144) ?_)
      | (refine wpList_y8 (S := fun _ => True) (yields_build144 zz HZZ.out (by rfl) rfl) trivial ?_)
      | (refine wpList_y8 (S := fun _ => True) (yields_neq144 (by rfl) (.tmp 23) (.tmp 24) rfl (cutB l 16 484) zz (by rfl) (by rfl) N16.out HZ.out) trivial ?_; rw [Q2.out]))
    refine wp_region_only (S := fun w' => w'.rangeAt g 0 (bv (l.take 508))) (by kernel_rfl) RG.out (fun hHeld => ?_)
    refine wpAnyH_take (i := 0) (v := ?v1) rfl (by kernel_rfl) (by kernel_rfl) (by kernel_rfl) (fun _ _ _ h => h) (Or.inl ⟨by rfl, ?hy1⟩) hHeld ?rest1
    case hy1 =>
      intro w' hSw
      try dsimp only at hSw
      go_simp
      first | done | with_reducible rfl
    try simp only [Act.put, List.getElem_toArray, List.getElem_cons_zero, List.setIfInBounds_toArray, List.set_cons_zero, List.set_cons_succ]
    refine wpAnyH_take (i := 1) (v := ?v2) rfl (by kernel_rfl) (by kernel_rfl) (by kernel_rfl) (fun _ _ _ h => h) (Or.inl ⟨by rfl, ?hy2⟩) hHeld ?rest2
    case hy2 =>
      intro w' hSw
      try dsimp only at hSw
      go_simp
      first | done | with_reducible rfl
    try simp only [Act.put, List.getElem_toArray, List.getElem_cons_succ, List.getElem_cons_zero, List.setIfInBounds_toArray, List.set_cons_zero, List.set_cons_succ]
    refine wpAnyH_take (i := 2) (v := ?v3) rfl (by kernel_rfl) (by kernel_rfl) (by kernel_rfl) (fun _ _ _ h => h) (Or.inl ⟨by rfl, ?hy3⟩) hHeld ?rest3
    case hy3 =>
      intro w' hSw
      try dsimp only at hSw
      go_simp
      first | done | with_reducible rfl
    try simp only [Act.put, List.getElem_toArray, List.getElem_cons_succ, List.getElem_cons_zero, List.setIfInBounds_toArray, List.set_cons_zero, List.set_cons_succ]
    refine wpAnyH_take (i := 3) rfl (by kernel_rfl) (by kernel_rfl) (by kernel_rfl) (fun _ _ _ h => h) (yieldsIf_load_mid (by rfl) 138 (.tmp 28) (by rfl) g 4 (by rfl) (bv (cutB l 4 8)) _ (fun w' hSw => hd_range8 hSw C4.out) Try.underlying138 rfl (by rw [bv_length, N4.out]; exact size145)) hHeld ?_
    try simp only [Act.put, List.getElem_toArray, List.getElem_cons_succ, List.getElem_cons_zero, List.setIfInBounds_toArray, List.set_cons_zero, List.set_cons_succ]
    refine wpAnyH_take (i := 4) (v := ?v4) rfl (by kernel_rfl) (by kernel_rfl) (by kernel_rfl) (fun _ _ _ h => h) (Or.inl ⟨by rfl, ?hy4⟩) hHeld ?rest4
    case hy4 =>
      intro w' hSw
      try dsimp only at hSw
      go_simp
      first | done | with_reducible rfl
    try simp only [Act.put, List.getElem_toArray, List.getElem_cons_succ, List.getElem_cons_zero, List.setIfInBounds_toArray, List.set_cons_zero, List.set_cons_succ]
    refine wpAnyH_take (i := 5) (v := ?v5) rfl (by kernel_rfl) (by kernel_rfl) (by kernel_rfl) (fun _ _ _ h => h) (Or.inl ⟨by rfl, ?hy5⟩) hHeld ?rest5
    case hy5 =>
      intro w' hSw
      try dsimp only at hSw
      go_simp
      first | done | with_reducible rfl
    try simp only [Act.put, List.getElem_toArray, List.getElem_cons_succ, List.getElem_cons_zero, List.setIfInBounds_toArray, List.set_cons_zero, List.set_cons_succ]
    refine wpAnyH_take (i := 6) (v := ?v6) rfl (by kernel_rfl) (by kernel_rfl) (by kernel_rfl) (fun _ _ _ h => h) (Or.inl ⟨by rfl, ?hy6⟩) hHeld ?rest6
    case hy6 =>
      intro w' hSw
      try dsimp only at hSw
      go_simp
      first | done | with_reducible rfl
    try simp only [Act.put, List.getElem_toArray, List.getElem_cons_succ, List.getElem_cons_zero, List.setIfInBounds_toArray, List.set_cons_zero, List.set_cons_succ]
    refine wpAnyH_take (i := 7) rfl (by kernel_rfl) (by kernel_rfl) (by kernel_rfl) (fun _ _ _ h => h) (yieldsIf_load_mid (by rfl) 138 (.tmp 32) (by rfl) g 500 (by rfl) (bv (cutB l 500 8)) _ (fun w' hSw => hd_range8 hSw C500.out) Try.underlying138 rfl (by rw [bv_length, N500.out]; exact size145)) hHeld ?_
    try simp only [Act.put, List.getElem_toArray, List.getElem_cons_succ, List.getElem_cons_zero, List.setIfInBounds_toArray, List.set_cons_zero, List.set_cons_succ]
    refine wpAnyH_take (i := 8) rfl (by kernel_rfl) (by kernel_rfl) (by kernel_rfl) (fun _ _ _ h => h) (yields_neq145b (by rfl) (.tmp 29) (.tmp 33) (by rfl) (cutB l 4 8) (cutB l 500 8) _ Q3.out (by rfl) (by rfl) N4.out N500.out) hHeld ?_
    try simp only [Act.put, List.getElem_toArray, List.getElem_cons_succ, List.getElem_cons_zero, List.setIfInBounds_toArray, List.set_cons_zero, List.set_cons_succ]
    refine wpAnyH_done (by kernel_rfl) ?_ _
    refine OnlyN.normal ?_
    try clear hHeld
    replace RR := Lib.hid (show Rd W1.drew (some ⟨g, 0, none⟩) (l.take 508) from RR.out)
    replace B2 := Lib.hid (blk_drew B2.out)
    replace L1 := Lib.hid L1.out.drew
    go_wp2_with fail
    go_step3
    exact ⟨rfl, ⟨_, _, _, _, _, _, _, _, _, _, _, _, _, _, _, _, _, _, _, _, _, _, _, _, _, _, _, _, _, _, _, _, _, _, _, _, _, _, _, _, rfl⟩, ⟨_, B2.out⟩, L1.out⟩
  case pass =>
    rintro a' W9 ⟨⟨t4, t5, t6, t7, t8, t9, t10, t11, t12, t13, t14, t15, t16, t17, t18, t19, t20, t21, t22, t23, t24, t25, t26, t27, t28, t29, t30, t31, t32, t33, t34, t35, t36, t37, t38, t39, t40, t41, t42, t43, rfl⟩, ⟨u, b2⟩, l2⟩
    have B9 := Lib.hid b2
    have L9 := Lib.hid l2
    clear b2 l2
    go_wp2_with (first
      | (refine wpList_store_row rfl 28 (.tmp 2) (.tmp 43) rfl (w.heap.size + 1) (Hd.cs ⟨0, 0, 0⟩).toArray rfl rfl 28 _ B9.out (by kernel_rfl) rfl (one23 _) ?_))
    simp only [Exit.jump]
    exact bodyPost_ret (results_hd rfl _ _ (w.heap.size + 1) ⟨0, 0, 0⟩ rfl (B9.out.setRow _)) rfl ⟨rfl, below_setRow L9.out (by omega) _⟩
set_option maxRecDepth 100000 in
set_option maxHeartbeats 4000000 in
theorem headerOf_big {w : World} (l : List UInt8) (hl : l.length = 512) (hq : ((S.numLE (l.drop 508) : Int) != (S.crcN (l.take 508) : Int)) = false) (q1 : cutB l 0 4 = [67, 72, 72, 68]) (q2 : cutB l 16 484 = List.replicate 484 0) (q3 : cutB l 4 8 = cutB l 500 8) (he : ¬ eB l ≤ 9223372036854775807) :
    Calls Try.prog 50 #[sec l] w fun r w' => r = .returned (.tuple #[Hd.val ⟨0, 0, 0⟩, .bool false]) ∧ Below w.heap.size w w' := by
  have hz := z23
  have HLN := Lib.hid hl
  have hbl : (bv l).length = 512 := by rw [bv_length, hl]
  have B0 := Lib.hid ((Blk.new w 56 (bv l).toArray).alloc (.cells (Hd.cs ⟨0, 0, 0⟩).toArray 28))
  have B1 := Lib.hid (blk_new1 w (.cells (bv l).toArray 56) 28 (Hd.cs ⟨0, 0, 0⟩).toArray)
  have L0 := Lib.hid (((Below.refl w.heap.size w).alloc (Nat.le_refl _) (.cells (bv l).toArray 56)).alloc (by simp) (.cells (Hd.cs ⟨0, 0, 0⟩).toArray 28))
  obtain ⟨zz, hzz⟩ : ∃ zz : List UInt8, zz = List.replicate 484 0 := ⟨_, rfl⟩
  have HZ := Lib.hid (show zz.length = 484 by rw [hzz, List.length_replicate])
  have HZZ := Lib.hid hzz
  have C0 := Lib.hid (show (l.take 508).take 4 = cutB l 0 4 from (show _ = ((l.take 508).drop 0).take 4 from rfl).trans (cutB_take l 0 4 (by omega)))
  have C16 := Lib.hid (show ((l.take 508).drop 16).take 484 = cutB l 16 484 from cutB_take l 16 484 (by omega))
  have C4 := Lib.hid (show ((l.take 508).drop 4).take 8 = cutB l 4 8 from cutB_take l 4 8 (by omega))
  have C500 := Lib.hid (show ((l.take 508).drop 500).take 8 = cutB l 500 8 from cutB_take l 500 8 (by omega))
  have N16 := Lib.hid (cutB_length hl 16 484 (by omega))
  have N4 := Lib.hid (cutB_length hl 4 8 (by omega))
  have N500 := Lib.hid (cutB_length hl 500 8 (by omega))
  have HQ := Lib.hid hq
  have Q1 := Lib.hid q1
  clear q1
  have Q2 := Lib.hid (show (!(cutB l 16 484 == zz)) = false by rw [hzz, q2]; simp)
  clear q2
  have Q3 := Lib.hid (show (!(cutB l 4 8 == cutB l 500 8)) = false by rw [q3]; simp)
  clear q3
  have HE := Lib.hid he
  clear he
  clear hl hq hzz
  go_enter Try.func50, Try.ntmps50
  go_wp2_with fail
  refine wp_scope_jumps 0 (fun a' w' => (∃ t4 t5 t6 t7 t8 t9 t10 t11 t12 t13 t14 t15 t16 t17 t18 t19 t20 t21 t22 t23 t24 t25 t26 t27 t28 t29 t30 t31 t32 t33 t34 t35 t36 t37 t38 t39 t40 t41 t42 t43 : Value, a' = { tmps := #[sec l, .pointer (some ⟨w.heap.size, 0, none⟩), .pointer (some ⟨w.heap.size + 1, 0, none⟩), .bool false, t4, t5, t6, t7, t8, t9, t10, t11, t12, t13, t14, t15, t16, t17, t18, t19, t20, t21, t22, t23, t24, t25, t26, t27, t28, t29, t30, t31, t32, t33, t34, t35, t36, t37, t38, t39, t40, t41, t42, t43], defers := [] }) ∧ (∃ u : Hd, Blk w' (w.heap.size + 1) 28 u.cs.toArray) ∧ Below w.heap.size w w') (fun _ _ => 0) rfl ?first ?pass
  case first =>
    go_wp2_with fail
    refine (S.sealed_yes (some ⟨w.heap.size, 0, none⟩) 508 512 l _ HLN.out (by omega) (rd_bv B0.out) (by omega) HQ.out).mono ?_
    rintro r W1 ⟨v, rfl, hown, hb⟩
    obtain ⟨A', c, rfl⟩ := own_shape hown
    obtain ⟨g, rfl, hg, hgl⟩ := own_addr' hown (by omega)
    have hc := own_cap hown
    have RG := Lib.hid (own_range hown)
    have RR := Lib.hid (Rd.of_own hown)
    have B2 := Lib.hid (B1.out.below hb B1.out.lt)
    have L1 := Lib.hid (L0.out.trans (hb.mono L0.out.size))
    have hcv : (convert 22 9 (.slice (some ⟨g, 0, none⟩) 4 c)).run Try.prog W1 = .ok (.string (st (cutB l 0 4))) W1 := by
      have h4 := RR.out.take 4
      rw [C0.out] at h4
      exact run_str W1 Try.underlying22 Try.underlying5 Try.underlying9 (cutB_length HLN.out 0 4 (by omega)) h4
    rw [Q1.out] at hcv
    replace hcv : (convert 22 9 (.slice (some ⟨g, 0, none⟩) 4 c)).run Try.prog W1 = .ok (.string ⟨#[67, 72, 72, 68]⟩) W1 := hcv
    have hr1 := fun W : World => arr_run Try.underlying137 W (some ⟨g, 16, none⟩) 484 (c - 16) (Nat.le_refl _)
    have hr2 := fun W : World => arr_run Try.underlying138 W (some ⟨g, 4, none⟩) 8 (c - 4) (Nat.le_refl _)
    have hr3 := fun W : World => arr_run Try.underlying138 W (some ⟨g, 500, none⟩) 8 (c - 500) (Nat.le_refl _)
    have c4 : 4 ≤ c := by omega
    have c12 : 12 ≤ c := by omega
    have c500 : 500 ≤ c := by omega
    have k12 : (12 : Int) ≤ (c : Int) := by omega
    have k508 : (508 : Int) ≤ (c : Int) := by omega
    have k500 : (500 : Int) ≤ (c : Int) := by omega
    have e4 : ¬ c = 4 := by omega
    have e16 : ¬ c = 16 := by omega
    have e500 : ¬ c = 500 := by omega
    clear hown hb hg hgl B0 B1 L0 hbl
    go_wp2_with (first
      | (refine wpList_load_mid rfl 137 (.tmp 22) rfl g 16 rfl (bv (cutB l 16 484)) _ (hd_range8 RG.out C16.out) Try.underlying137 rfl (by rw [bv_length, N16.out]; exact size144) ?_)
      | (refine wpList_y8 (S := fun _ => True) (yields_build144 zz HZZ.out (by rfl) rfl) trivial ?_)
      | (refine wpList_y8 (S := fun _ => True) (yields_neq144 (by rfl) (.tmp 23) (.tmp 24) rfl (cutB l 16 484) zz (by rfl) (by rfl) N16.out HZ.out) trivial ?_; rw [Q2.out]))
    refine wp_region_only (S := fun w' => w'.rangeAt g 0 (bv (l.take 508))) (by kernel_rfl) RG.out (fun hHeld => ?_)
    refine wpAnyH_take (i := 0) (v := ?v7) rfl (by kernel_rfl) (by kernel_rfl) (by kernel_rfl) (fun _ _ _ h => h) (Or.inl ⟨by rfl, ?hy7⟩) hHeld ?rest7
    case hy7 =>
      intro w' hSw
      try dsimp only at hSw
      go_simp
      first | done | with_reducible rfl
    try simp only [Act.put, List.getElem_toArray, List.getElem_cons_zero, List.setIfInBounds_toArray, List.set_cons_zero, List.set_cons_succ]
    refine wpAnyH_take (i := 1) (v := ?v8) rfl (by kernel_rfl) (by kernel_rfl) (by kernel_rfl) (fun _ _ _ h => h) (Or.inl ⟨by rfl, ?hy8⟩) hHeld ?rest8
    case hy8 =>
      intro w' hSw
      try dsimp only at hSw
      go_simp
      first | done | with_reducible rfl
    try simp only [Act.put, List.getElem_toArray, List.getElem_cons_succ, List.getElem_cons_zero, List.setIfInBounds_toArray, List.set_cons_zero, List.set_cons_succ]
    refine wpAnyH_take (i := 2) (v := ?v9) rfl (by kernel_rfl) (by kernel_rfl) (by kernel_rfl) (fun _ _ _ h => h) (Or.inl ⟨by rfl, ?hy9⟩) hHeld ?rest9
    case hy9 =>
      intro w' hSw
      try dsimp only at hSw
      go_simp
      first | done | with_reducible rfl
    try simp only [Act.put, List.getElem_toArray, List.getElem_cons_succ, List.getElem_cons_zero, List.setIfInBounds_toArray, List.set_cons_zero, List.set_cons_succ]
    refine wpAnyH_take (i := 3) rfl (by kernel_rfl) (by kernel_rfl) (by kernel_rfl) (fun _ _ _ h => h) (yieldsIf_load_mid (by rfl) 138 (.tmp 28) (by rfl) g 4 (by rfl) (bv (cutB l 4 8)) _ (fun w' hSw => hd_range8 hSw C4.out) Try.underlying138 rfl (by rw [bv_length, N4.out]; exact size145)) hHeld ?_
    try simp only [Act.put, List.getElem_toArray, List.getElem_cons_succ, List.getElem_cons_zero, List.setIfInBounds_toArray, List.set_cons_zero, List.set_cons_succ]
    refine wpAnyH_take (i := 4) (v := ?v10) rfl (by kernel_rfl) (by kernel_rfl) (by kernel_rfl) (fun _ _ _ h => h) (Or.inl ⟨by rfl, ?hy10⟩) hHeld ?rest10
    case hy10 =>
      intro w' hSw
      try dsimp only at hSw
      go_simp
      first | done | with_reducible rfl
    try simp only [Act.put, List.getElem_toArray, List.getElem_cons_succ, List.getElem_cons_zero, List.setIfInBounds_toArray, List.set_cons_zero, List.set_cons_succ]
    refine wpAnyH_take (i := 5) (v := ?v11) rfl (by kernel_rfl) (by kernel_rfl) (by kernel_rfl) (fun _ _ _ h => h) (Or.inl ⟨by rfl, ?hy11⟩) hHeld ?rest11
    case hy11 =>
      intro w' hSw
      try dsimp only at hSw
      go_simp
      first | done | with_reducible rfl
    try simp only [Act.put, List.getElem_toArray, List.getElem_cons_succ, List.getElem_cons_zero, List.setIfInBounds_toArray, List.set_cons_zero, List.set_cons_succ]
    refine wpAnyH_take (i := 6) (v := ?v12) rfl (by kernel_rfl) (by kernel_rfl) (by kernel_rfl) (fun _ _ _ h => h) (Or.inl ⟨by rfl, ?hy12⟩) hHeld ?rest12
    case hy12 =>
      intro w' hSw
      try dsimp only at hSw
      go_simp
      first | done | with_reducible rfl
    try simp only [Act.put, List.getElem_toArray, List.getElem_cons_succ, List.getElem_cons_zero, List.setIfInBounds_toArray, List.set_cons_zero, List.set_cons_succ]
    refine wpAnyH_take (i := 7) rfl (by kernel_rfl) (by kernel_rfl) (by kernel_rfl) (fun _ _ _ h => h) (yieldsIf_load_mid (by rfl) 138 (.tmp 32) (by rfl) g 500 (by rfl) (bv (cutB l 500 8)) _ (fun w' hSw => hd_range8 hSw C500.out) Try.underlying138 rfl (by rw [bv_length, N500.out]; exact size145)) hHeld ?_
    try simp only [Act.put, List.getElem_toArray, List.getElem_cons_succ, List.getElem_cons_zero, List.setIfInBounds_toArray, List.set_cons_zero, List.set_cons_succ]
    refine wpAnyH_take (i := 8) rfl (by kernel_rfl) (by kernel_rfl) (by kernel_rfl) (fun _ _ _ h => h) (yields_neq145b (by rfl) (.tmp 29) (.tmp 33) (by rfl) (cutB l 4 8) (cutB l 500 8) _ Q3.out (by rfl) (by rfl) N4.out N500.out) hHeld ?_
    try simp only [Act.put, List.getElem_toArray, List.getElem_cons_succ, List.getElem_cons_zero, List.setIfInBounds_toArray, List.set_cons_zero, List.set_cons_succ]
    refine wpAnyH_done (by kernel_rfl) ?_ _
    refine OnlyN.normal ?_
    try clear hHeld
    replace RR := Lib.hid (show Rd W1.drew (some ⟨g, 0, none⟩) (l.take 508) from RR.out)
    replace B2 := Lib.hid (blk_drew B2.out)
    replace L1 := Lib.hid L1.out.drew
    go_wp2_with (first
      | (go_at_call 68; refine (said_big g c l HLN.out hc RR.out HE.out).mono ?_; rintro r W2 ⟨rfl, hb⟩; have B3 := Lib.hid (B2.out.below hb B2.out.lt); have L2 := Lib.hid (L1.out.trans (hb.mono L1.out.size)); clear hb)
      | (refine wpList_store_row rfl 28 (.tmp 2) (.tmp 38) rfl (w.heap.size + 1) (Hd.cs ⟨0, 0, 0⟩).toArray rfl rfl 28 _ B3.out (by kernel_rfl) rfl (one23 _) ?_; have B4 := Lib.hid (B3.out.setRow (Hd.cs ⟨0, 0, 0⟩).toArray); have L3 := Lib.hid (show Below w.heap.size w (W2.setRow (w.heap.size + 1) (Hd.cs ⟨0, 0, 0⟩).toArray) from below_setRow L2.out (by omega) (Hd.cs ⟨0, 0, 0⟩).toArray)))
    go_step3
    exact ⟨rfl, ⟨_, _, _, _, _, _, _, _, _, _, _, _, _, _, _, _, _, _, _, _, _, _, _, _, _, _, _, _, _, _, _, _, _, _, _, _, _, _, _, _, rfl⟩, ⟨_, B4.out⟩, L3.out⟩
  case pass =>
    rintro a' W9 ⟨⟨t4, t5, t6, t7, t8, t9, t10, t11, t12, t13, t14, t15, t16, t17, t18, t19, t20, t21, t22, t23, t24, t25, t26, t27, t28, t29, t30, t31, t32, t33, t34, t35, t36, t37, t38, t39, t40, t41, t42, t43, rfl⟩, ⟨u, b2⟩, l2⟩
    have B9 := Lib.hid b2
    have L9 := Lib.hid l2
    clear b2 l2
    go_wp2_with (first
      | (refine wpList_store_row rfl 28 (.tmp 2) (.tmp 43) rfl (w.heap.size + 1) (Hd.cs ⟨0, 0, 0⟩).toArray rfl rfl 28 _ B9.out (by kernel_rfl) rfl (one23 _) ?_))
    simp only [Exit.jump]
    exact bodyPost_ret (results_hd rfl _ _ (w.heap.size + 1) ⟨0, 0, 0⟩ rfl (B9.out.setRow _)) rfl ⟨rfl, below_setRow L9.out (by omega) _⟩
set_option maxRecDepth 100000 in
set_option maxHeartbeats 4000000 in
theorem headerOf_bad {w : World} (l : List UInt8) (hl : l.length = 512) (hq : ((S.numLE (l.drop 508) : Int) != (S.crcN (l.take 508) : Int)) = false) (q1 : cutB l 0 4 = [67, 72, 72, 68]) (q2 : cutB l 16 484 = List.replicate 484 0) (q3 : cutB l 4 8 = cutB l 500 8) (he : eB l ≤ 9223372036854775807) (hk : ¬ okB l) :
    Calls Try.prog 50 #[sec l] w fun r w' => r = .returned (.tuple #[Hd.val ⟨0, 0, 0⟩, .bool false]) ∧ Below w.heap.size w w' := by
  have hz := z23
  have HLN := Lib.hid hl
  have hbl : (bv l).length = 512 := by rw [bv_length, hl]
  have B0 := Lib.hid ((Blk.new w 56 (bv l).toArray).alloc (.cells (Hd.cs ⟨0, 0, 0⟩).toArray 28))
  have B1 := Lib.hid (blk_new1 w (.cells (bv l).toArray 56) 28 (Hd.cs ⟨0, 0, 0⟩).toArray)
  have L0 := Lib.hid (((Below.refl w.heap.size w).alloc (Nat.le_refl _) (.cells (bv l).toArray 56)).alloc (by simp) (.cells (Hd.cs ⟨0, 0, 0⟩).toArray 28))
  obtain ⟨zz, hzz⟩ : ∃ zz : List UInt8, zz = List.replicate 484 0 := ⟨_, rfl⟩
  have HZ := Lib.hid (show zz.length = 484 by rw [hzz, List.length_replicate])
  have HZZ := Lib.hid hzz
  have C0 := Lib.hid (show (l.take 508).take 4 = cutB l 0 4 from (show _ = ((l.take 508).drop 0).take 4 from rfl).trans (cutB_take l 0 4 (by omega)))
  have C16 := Lib.hid (show ((l.take 508).drop 16).take 484 = cutB l 16 484 from cutB_take l 16 484 (by omega))
  have C4 := Lib.hid (show ((l.take 508).drop 4).take 8 = cutB l 4 8 from cutB_take l 4 8 (by omega))
  have C500 := Lib.hid (show ((l.take 508).drop 500).take 8 = cutB l 500 8 from cutB_take l 500 8 (by omega))
  have N16 := Lib.hid (cutB_length hl 16 484 (by omega))
  have N4 := Lib.hid (cutB_length hl 4 8 (by omega))
  have N500 := Lib.hid (cutB_length hl 500 8 (by omega))
  have HQ := Lib.hid hq
  have Q1 := Lib.hid q1
  clear q1
  have Q2 := Lib.hid (show (!(cutB l 16 484 == zz)) = false by rw [hzz, q2]; simp)
  clear q2
  have Q3 := Lib.hid (show (!(cutB l 4 8 == cutB l 500 8)) = false by rw [q3]; simp)
  clear q3
  have HK := Lib.hid (okB_not he hk)
  clear hk
  have HE := Lib.hid he
  clear he
  clear hl hq hzz
  go_enter Try.func50, Try.ntmps50
  go_wp2_with fail
  refine wp_scope_jumps 0 (fun a' w' => (∃ t4 t5 t6 t7 t8 t9 t10 t11 t12 t13 t14 t15 t16 t17 t18 t19 t20 t21 t22 t23 t24 t25 t26 t27 t28 t29 t30 t31 t32 t33 t34 t35 t36 t37 t38 t39 t40 t41 t42 t43 : Value, a' = { tmps := #[sec l, .pointer (some ⟨w.heap.size, 0, none⟩), .pointer (some ⟨w.heap.size + 1, 0, none⟩), .bool false, t4, t5, t6, t7, t8, t9, t10, t11, t12, t13, t14, t15, t16, t17, t18, t19, t20, t21, t22, t23, t24, t25, t26, t27, t28, t29, t30, t31, t32, t33, t34, t35, t36, t37, t38, t39, t40, t41, t42, t43], defers := [] }) ∧ (∃ u : Hd, Blk w' (w.heap.size + 1) 28 u.cs.toArray) ∧ Below w.heap.size w w') (fun _ _ => 0) rfl ?first ?pass
  case first =>
    go_wp2_with fail
    refine (S.sealed_yes (some ⟨w.heap.size, 0, none⟩) 508 512 l _ HLN.out (by omega) (rd_bv B0.out) (by omega) HQ.out).mono ?_
    rintro r W1 ⟨v, rfl, hown, hb⟩
    obtain ⟨A', c, rfl⟩ := own_shape hown
    obtain ⟨g, rfl, hg, hgl⟩ := own_addr' hown (by omega)
    have hc := own_cap hown
    have RG := Lib.hid (own_range hown)
    have RR := Lib.hid (Rd.of_own hown)
    have B2 := Lib.hid (B1.out.below hb B1.out.lt)
    have L1 := Lib.hid (L0.out.trans (hb.mono L0.out.size))
    have hcv : (convert 22 9 (.slice (some ⟨g, 0, none⟩) 4 c)).run Try.prog W1 = .ok (.string (st (cutB l 0 4))) W1 := by
      have h4 := RR.out.take 4
      rw [C0.out] at h4
      exact run_str W1 Try.underlying22 Try.underlying5 Try.underlying9 (cutB_length HLN.out 0 4 (by omega)) h4
    rw [Q1.out] at hcv
    replace hcv : (convert 22 9 (.slice (some ⟨g, 0, none⟩) 4 c)).run Try.prog W1 = .ok (.string ⟨#[67, 72, 72, 68]⟩) W1 := hcv
    have hr1 := fun W : World => arr_run Try.underlying137 W (some ⟨g, 16, none⟩) 484 (c - 16) (Nat.le_refl _)
    have hr2 := fun W : World => arr_run Try.underlying138 W (some ⟨g, 4, none⟩) 8 (c - 4) (Nat.le_refl _)
    have hr3 := fun W : World => arr_run Try.underlying138 W (some ⟨g, 500, none⟩) 8 (c - 500) (Nat.le_refl _)
    have c4 : 4 ≤ c := by omega
    have c12 : 12 ≤ c := by omega
    have c500 : 500 ≤ c := by omega
    have k12 : (12 : Int) ≤ (c : Int) := by omega
    have k508 : (508 : Int) ≤ (c : Int) := by omega
    have k500 : (500 : Int) ≤ (c : Int) := by omega
    have e4 : ¬ c = 4 := by omega
    have e16 : ¬ c = 16 := by omega
    have e500 : ¬ c = 500 := by omega
    clear hown hb hg hgl B0 B1 L0 hbl
    go_wp2_with (first
      | (refine wpList_load_mid rfl 137 (.tmp 22) rfl g 16 rfl (bv (cutB l 16 484)) _ (hd_range8 RG.out C16.out) Try.underlying137 rfl (by rw [bv_length, N16.out]; exact size144) ?_)
      | (refine wpList_y8 (S := fun _ => True) (yields_build144 zz HZZ.out (by rfl) rfl) trivial ?_)
      | (refine wpList_y8 (S := fun _ => True) (yields_neq144 (by rfl) (.tmp 23) (.tmp 24) rfl (cutB l 16 484) zz (by rfl) (by rfl) N16.out HZ.out) trivial ?_; rw [Q2.out]))
    refine wp_region_only (S := fun w' => w'.rangeAt g 0 (bv (l.take 508))) (by kernel_rfl) RG.out (fun hHeld => ?_)
    refine wpAnyH_take (i := 0) (v := ?v13) rfl (by kernel_rfl) (by kernel_rfl) (by kernel_rfl) (fun _ _ _ h => h) (Or.inl ⟨by rfl, ?hy13⟩) hHeld ?rest13
    case hy13 =>
      intro w' hSw
      try dsimp only at hSw
      go_simp
      first | done | with_reducible rfl
    try simp only [Act.put, List.getElem_toArray, List.getElem_cons_zero, List.setIfInBounds_toArray, List.set_cons_zero, List.set_cons_succ]
    refine wpAnyH_take (i := 1) (v := ?v14) rfl (by kernel_rfl) (by kernel_rfl) (by kernel_rfl) (fun _ _ _ h => h) (Or.inl ⟨by rfl, ?hy14⟩) hHeld ?rest14
    case hy14 =>
      intro w' hSw
      try dsimp only at hSw
      go_simp
      first | done | with_reducible rfl
    try simp only [Act.put, List.getElem_toArray, List.getElem_cons_succ, List.getElem_cons_zero, List.setIfInBounds_toArray, List.set_cons_zero, List.set_cons_succ]
    refine wpAnyH_take (i := 2) (v := ?v15) rfl (by kernel_rfl) (by kernel_rfl) (by kernel_rfl) (fun _ _ _ h => h) (Or.inl ⟨by rfl, ?hy15⟩) hHeld ?rest15
    case hy15 =>
      intro w' hSw
      try dsimp only at hSw
      go_simp
      first | done | with_reducible rfl
    try simp only [Act.put, List.getElem_toArray, List.getElem_cons_succ, List.getElem_cons_zero, List.setIfInBounds_toArray, List.set_cons_zero, List.set_cons_succ]
    refine wpAnyH_take (i := 3) rfl (by kernel_rfl) (by kernel_rfl) (by kernel_rfl) (fun _ _ _ h => h) (yieldsIf_load_mid (by rfl) 138 (.tmp 28) (by rfl) g 4 (by rfl) (bv (cutB l 4 8)) _ (fun w' hSw => hd_range8 hSw C4.out) Try.underlying138 rfl (by rw [bv_length, N4.out]; exact size145)) hHeld ?_
    try simp only [Act.put, List.getElem_toArray, List.getElem_cons_succ, List.getElem_cons_zero, List.setIfInBounds_toArray, List.set_cons_zero, List.set_cons_succ]
    refine wpAnyH_take (i := 4) (v := ?v16) rfl (by kernel_rfl) (by kernel_rfl) (by kernel_rfl) (fun _ _ _ h => h) (Or.inl ⟨by rfl, ?hy16⟩) hHeld ?rest16
    case hy16 =>
      intro w' hSw
      try dsimp only at hSw
      go_simp
      first | done | with_reducible rfl
    try simp only [Act.put, List.getElem_toArray, List.getElem_cons_succ, List.getElem_cons_zero, List.setIfInBounds_toArray, List.set_cons_zero, List.set_cons_succ]
    refine wpAnyH_take (i := 5) (v := ?v17) rfl (by kernel_rfl) (by kernel_rfl) (by kernel_rfl) (fun _ _ _ h => h) (Or.inl ⟨by rfl, ?hy17⟩) hHeld ?rest17
    case hy17 =>
      intro w' hSw
      try dsimp only at hSw
      go_simp
      first | done | with_reducible rfl
    try simp only [Act.put, List.getElem_toArray, List.getElem_cons_succ, List.getElem_cons_zero, List.setIfInBounds_toArray, List.set_cons_zero, List.set_cons_succ]
    refine wpAnyH_take (i := 6) (v := ?v18) rfl (by kernel_rfl) (by kernel_rfl) (by kernel_rfl) (fun _ _ _ h => h) (Or.inl ⟨by rfl, ?hy18⟩) hHeld ?rest18
    case hy18 =>
      intro w' hSw
      try dsimp only at hSw
      go_simp
      first | done | with_reducible rfl
    try simp only [Act.put, List.getElem_toArray, List.getElem_cons_succ, List.getElem_cons_zero, List.setIfInBounds_toArray, List.set_cons_zero, List.set_cons_succ]
    refine wpAnyH_take (i := 7) rfl (by kernel_rfl) (by kernel_rfl) (by kernel_rfl) (fun _ _ _ h => h) (yieldsIf_load_mid (by rfl) 138 (.tmp 32) (by rfl) g 500 (by rfl) (bv (cutB l 500 8)) _ (fun w' hSw => hd_range8 hSw C500.out) Try.underlying138 rfl (by rw [bv_length, N500.out]; exact size145)) hHeld ?_
    try simp only [Act.put, List.getElem_toArray, List.getElem_cons_succ, List.getElem_cons_zero, List.setIfInBounds_toArray, List.set_cons_zero, List.set_cons_succ]
    refine wpAnyH_take (i := 8) rfl (by kernel_rfl) (by kernel_rfl) (by kernel_rfl) (fun _ _ _ h => h) (yields_neq145b (by rfl) (.tmp 29) (.tmp 33) (by rfl) (cutB l 4 8) (cutB l 500 8) _ Q3.out (by rfl) (by rfl) N4.out N500.out) hHeld ?_
    try simp only [Act.put, List.getElem_toArray, List.getElem_cons_succ, List.getElem_cons_zero, List.setIfInBounds_toArray, List.set_cons_zero, List.set_cons_succ]
    refine wpAnyH_done (by kernel_rfl) ?_ _
    refine OnlyN.normal ?_
    try clear hHeld
    replace RR := Lib.hid (show Rd W1.drew (some ⟨g, 0, none⟩) (l.take 508) from RR.out)
    replace B2 := Lib.hid (blk_drew B2.out)
    replace L1 := Lib.hid L1.out.drew
    go_wp2_with (first
      | (go_at_call 68; refine (said_fine g c l HLN.out hc RR.out HE.out).mono ?_; rw [HK.out]; rintro r W2 ⟨rfl, hb⟩; have B3 := Lib.hid (B2.out.below hb B2.out.lt); have L2 := Lib.hid (L1.out.trans (hb.mono L1.out.size)); clear hb)
      | (refine wpList_store_row rfl 28 (.tmp 2) (.tmp 38) rfl (w.heap.size + 1) (Hd.cs ⟨eB l, aB l, oB l⟩).toArray rfl rfl 28 _ B3.out (by kernel_rfl) rfl (one23 _) ?_; have B4 := Lib.hid (B3.out.setRow (Hd.cs ⟨eB l, aB l, oB l⟩).toArray); have L3 := Lib.hid (show Below w.heap.size w (W2.setRow (w.heap.size + 1) (Hd.cs ⟨eB l, aB l, oB l⟩).toArray) from below_setRow L2.out (by omega) (Hd.cs ⟨eB l, aB l, oB l⟩).toArray)))
    go_step3
    exact ⟨rfl, ⟨_, _, _, _, _, _, _, _, _, _, _, _, _, _, _, _, _, _, _, _, _, _, _, _, _, _, _, _, _, _, _, _, _, _, _, _, _, _, _, _, rfl⟩, ⟨_, B4.out⟩, L3.out⟩
  case pass =>
    rintro a' W9 ⟨⟨t4, t5, t6, t7, t8, t9, t10, t11, t12, t13, t14, t15, t16, t17, t18, t19, t20, t21, t22, t23, t24, t25, t26, t27, t28, t29, t30, t31, t32, t33, t34, t35, t36, t37, t38, t39, t40, t41, t42, t43, rfl⟩, ⟨u, b2⟩, l2⟩
    have B9 := Lib.hid b2
    have L9 := Lib.hid l2
    clear b2 l2
    go_wp2_with (first
      | (refine wpList_store_row rfl 28 (.tmp 2) (.tmp 43) rfl (w.heap.size + 1) (Hd.cs ⟨0, 0, 0⟩).toArray rfl rfl 28 _ B9.out (by kernel_rfl) rfl (one23 _) ?_))
    simp only [Exit.jump]
    exact bodyPost_ret (results_hd rfl _ _ (w.heap.size + 1) ⟨0, 0, 0⟩ rfl (B9.out.setRow _)) rfl ⟨rfl, below_setRow L9.out (by omega) _⟩
set_option maxRecDepth 8000 in
theorem headerOf_any {w : World} (l : List UInt8) (hl : l.length = 512) :
    Calls Try.prog 50 #[sec l] w fun r w' => r = .returned (.tuple #[Hd.val (if okB l ∧ l = hdS (eB l) (aB l) (oB l) then ⟨eB l, aB l, oB l⟩ else ⟨0, 0, 0⟩), .bool (decide (okB l ∧ l = hdS (eB l) (aB l) (oB l)))]) ∧ Below w.heap.size w w' := by
  by_cases h : okB l ∧ l = hdS (eB l) (aB l) (oB l)
  · rw [if_pos h, decide_eq_true h]
    obtain ⟨h1, h2⟩ := h
    have h3 : Calls Try.prog 50 #[sec (hdS (eB l) (aB l) (oB l))] w _ := headerOf_yes (eB l) (aB l) (oB l) (by omega) (by omega) (by omega) (okB_no h1)
    rw [← h2] at h3
    exact h3
  · rw [if_neg h, decide_eq_false h]
    rw [form_iff hl] at h
    by_cases hq : S.numLE (l.drop 508) = S.crcN (l.take 508)
    · have hq' : ((S.numLE (l.drop 508) : Int) != (S.crcN (l.take 508) : Int)) = false := by rw [hq]; simp
      by_cases q1 : cutB l 0 4 = [67, 72, 72, 68]
      · by_cases q2 : cutB l 16 484 = List.replicate 484 0
        · by_cases q3 : cutB l 4 8 = cutB l 500 8
          · by_cases he : eB l ≤ 9223372036854775807
            · exact headerOf_bad l hl hq' q1 q2 q3 he (fun hk => h ⟨hk, hq, q1, q2, q3⟩)
            · exact headerOf_big l hl hq' q1 q2 q3 he
          · exact headerOf_ed l hl hq' q1 q2 q3
        · exact headerOf_noughts l hl hq' q1 q2
      · exact headerOf_mark l hl hq' q1
    · exact headerOf_no l hl (by simpa using fun h => hq (by exact_mod_cast h))
end Go.Proofs.Ytcfkoglehjkkdaa

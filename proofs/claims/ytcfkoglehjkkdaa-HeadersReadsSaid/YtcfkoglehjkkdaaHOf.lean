/- headers: headerOf, of a header's sector, and of what is not sealed. -/
import Derived.Test.YtcfkoglehjkkdaaHSaid
import Derived.WalkMore
import Derived.ScopeJumps
namespace Go.Proofs.Ytcfkoglehjkkdaa
open Go.RowKit
attribute [local go_sem] Oper.semAt_some
theorem hd_range8 {w : World} {g k n : Nat} {l m : List UInt8} (h : w.rangeAt g 0 (bv l)) (hm : (l.drop k).take n = m) : w.rangeAt g k (bv m) := fun j v hv => by
  subst hm
  have h2 := h (k + j) v
  rw [Nat.zero_add] at h2
  apply h2
  rw [bv_get] at hv ⊢
  rw [List.getElem?_take] at hv
  split at hv
  · rw [List.getElem?_drop] at hv
    exact hv
  · cases hv
set_option maxRecDepth 8000 in
theorem yields_same144 {ops : Array Oper} {S : World → Prop} {o : Oper} {a : Act} (hw : Region.wanted o (yielded ops a.tmps) = true) (x y : Operand) (ho : o.op = .binOp .neq 137 x y 137) (l : List UInt8) (hx : a.eval x = sec l) (hy : a.eval y = sec l) (h : l.length = 484) : YieldsIf Try.prog ops S o (.bool false) a := by
  have := yields_neq144 (S := S) hw x y ho l l hx hy h h
  rw [beq_self_eq_true] at this
  exact this
set_option maxRecDepth 8000 in
theorem yields_same145 {ops : Array Oper} {S : World → Prop} {o : Oper} {a : Act} (hw : Region.wanted o (yielded ops a.tmps) = true) (x y : Operand) (ho : o.op = .binOp .neq 138 x y 138) (l : List UInt8) (hx : a.eval x = sec l) (hy : a.eval y = sec l) (h : l.length = 8) : YieldsIf Try.prog ops S o (.bool false) a := by
  have := yields_neq145 (S := S) hw x y ho l l hx hy h h
  rw [beq_self_eq_true] at this
  exact this
set_option maxRecDepth 100000 in
set_option maxHeartbeats 4000000 in
theorem headerOf_no {w : World} (l : List UInt8) (hl : l.length = 512) (hq : ((S.numLE (l.drop 508) : Int) != (S.crcN (l.take 508) : Int)) = true) :
    Calls Try.prog 50 #[sec l] w fun r w' => r = .returned (.tuple #[Hd.val ⟨0, 0, 0⟩, .bool false]) ∧ Below w.heap.size w w' := by
  have hz := z23
  have HL := Lib.hid hl
  have HQ := Lib.hid hq
  have hbl : (bv l).length = 512 := by rw [bv_length, hl]
  have B0 := Lib.hid ((Blk.new w 56 (bv l).toArray).alloc (.cells (Hd.cs ⟨0, 0, 0⟩).toArray 28))
  have B1 := Lib.hid (blk_new1 w (.cells (bv l).toArray 56) 28 (Hd.cs ⟨0, 0, 0⟩).toArray)
  have L0 := Lib.hid (((Below.refl w.heap.size w).alloc (Nat.le_refl _) (.cells (bv l).toArray 56)).alloc (by simp) (.cells (Hd.cs ⟨0, 0, 0⟩).toArray 28))
  clear hl hq
  go_enter Try.func50, Try.ntmps50
  go_wp2_with fail
  refine wp_scope_jumps 0 (fun a' w' => a' = { tmps := #[sec l, .pointer (some ⟨w.heap.size, 0, none⟩), .pointer (some ⟨w.heap.size + 1, 0, none⟩), .bool false, .int .i64 0, .slice none 0 0, .bool false, .tuple #[.slice none 0 0, .bool false], .slice (some ⟨w.heap.size, 0, none⟩) 512 512, .tuple #[.slice none 0 0, .bool false], .slice none 0 0, .bool false, .bool false, .bool true, .bool true, undef, undef, undef, undef, .bool true, undef, undef, undef, undef, undef, undef, undef, undef, undef, undef, undef, undef, undef, undef, undef, undef, undef, undef, undef, undef, undef, undef, undef, undef], defers := [] } ∧ Blk w' (w.heap.size + 1) 28 (Hd.cs ⟨0, 0, 0⟩).toArray ∧ Below w.heap.size w w') (fun _ _ => 0) rfl ?first ?pass
  case first =>
    go_wp2_with fail
    refine (S.sealed_not (some ⟨w.heap.size, 0, none⟩) 508 512 l _ HL.out (by omega) (rd_bv B0.out) (by omega) HQ.out).mono ?_
    rintro r W1 ⟨rfl, hb⟩
    have B2 := Lib.hid (B1.out.below hb B1.out.lt)
    have L1 := Lib.hid (L0.out.trans (hb.mono L0.out.size))
    clear hb
    go_wp2_with fail
    go_step3
    exact ⟨rfl, rfl, B2.out, L1.out⟩
  case pass =>
    rintro a' W2 ⟨rfl, b2, l2⟩
    have B2 := Lib.hid b2
    have L2 := Lib.hid l2
    clear b2 l2
    go_wp2_with (first
      | (refine wpList_store_row rfl 28 (.tmp 2) (.tmp 43) rfl (w.heap.size + 1) (Hd.cs ⟨0, 0, 0⟩).toArray rfl rfl 28 _ B2.out (by kernel_rfl) rfl (one23 _) ?_))
    simp only [Exit.jump]
    exact bodyPost_ret (results_hd rfl _ _ (w.heap.size + 1) ⟨0, 0, 0⟩ rfl (B2.out.setRow _)) rfl ⟨rfl, below_setRow L2.out (by omega) _⟩
set_option maxRecDepth 100000 in
set_option maxHeartbeats 4000000 in
theorem headerOf_yes {w : World} (e a o : Nat) (he : (e : Int) ≤ 9223372036854775807) (ha : (a : Int) ≤ 65535) (ho : (o : Int) ≤ 65535) (hok : Hd.no ⟨e, a, o⟩ = 0) :
    Calls Try.prog 50 #[sec (hdS e a o)] w fun r w' => r = .returned (.tuple #[Hd.val ⟨e, a, o⟩, .bool true]) ∧ Below w.heap.size w w' := by
  have hz := z23
  have HE := Lib.hid he
  have HA := Lib.hid ha
  have HO := Lib.hid ho
  have HK := Lib.hid hok
  obtain ⟨l, hl⟩ : ∃ l, l = hdS e a o := ⟨_, rfl⟩
  have HL := Lib.hid hl
  have HLN := Lib.hid (show l.length = 512 by rw [hl]; exact hdS_length _ _ _)
  have hbl : (bv l).length = 512 := by rw [bv_length, HLN.out]
  rw [← hl]
  have B0 := Lib.hid ((Blk.new w 56 (bv l).toArray).alloc (.cells (Hd.cs ⟨0, 0, 0⟩).toArray 28))
  have B1 := Lib.hid (blk_new1 w (.cells (bv l).toArray 56) 28 (Hd.cs ⟨0, 0, 0⟩).toArray)
  have L0 := Lib.hid (((Below.refl w.heap.size w).alloc (Nat.le_refl _) (.cells (bv l).toArray 56)).alloc (by simp) (.cells (Hd.cs ⟨0, 0, 0⟩).toArray 28))
  obtain ⟨zz, hzz⟩ : ∃ zz : List UInt8, zz = List.replicate 484 0 := ⟨_, rfl⟩
  have HZ := Lib.hid (show zz.length = 484 by rw [hzz, List.length_replicate])
  have HZZ := Lib.hid hzz
  have HC16 := Lib.hid (show ((hdL e a o).drop 16).take 484 = zz by rw [hzz]; exact hd_cut16 e a o)
  clear he ha ho hok hl hzz
  go_enter Try.func50, Try.ntmps50
  go_wp2_with fail
  go_step3
  go_wp2_with fail
  refine (S.sealed_yes (some ⟨w.heap.size, 0, none⟩) 508 512 l _ HLN.out (by omega) (rd_bv B0.out) (by omega) (by rw [HL.out]; exact hdS_ok e a o)).mono ?_
  rintro r W1 ⟨v, rfl, hown, hb⟩
  rw [HL.out, hdS_take] at hown
  obtain ⟨A', c, rfl⟩ := own_shape hown
  obtain ⟨g, rfl, hg, hgl⟩ := own_addr' hown (by omega)
  have hc := own_cap hown
  have RG := Lib.hid (own_range hown)
  have RR := Lib.hid (Rd.of_own hown)
  have B2 := Lib.hid (B1.out.below hb B1.out.lt)
  have L1 := Lib.hid (L0.out.trans (hb.mono L0.out.size))
  have hcv : (convert 22 9 (.slice (some ⟨g, 0, none⟩) 4 c)).run Try.prog W1 = .ok (.string ⟨#[67, 72, 72, 68]⟩) W1 := by
    have h4 := RR.out.take 4
    rw [hd_cut0] at h4
    exact run_str W1 Try.underlying22 Try.underlying5 Try.underlying9 rfl h4
  have hr1 := fun W : World => arr_run Try.underlying137 W (some ⟨g, 16, none⟩) 484 (c - 16) (Nat.le_refl _)
  have hr2 := fun W : World => arr_run Try.underlying138 W (some ⟨g, 4, none⟩) 8 (c - 4) (Nat.le_refl _)
  have hr3 := fun W : World => arr_run Try.underlying138 W (some ⟨g, 500, none⟩) 8 (c - 500) (Nat.le_refl _)
  have c4 : 4 ≤ c := by omega
  have c12 : 12 ≤ c := by omega
  have c500 : 500 ≤ c := by omega
  have k12 : (12 : Int) ≤ (c : Int) := by omega
  have k508 : (508 : Int) ≤ (c : Int) := by omega
  have k500 : (500 : Int) ≤ (c : Int) := by omega
  have e4 : ¬ c = 4 := by omega
  have e16 : ¬ c = 16 := by omega
  have e500 : ¬ c = 500 := by omega
  clear hown hb hg hgl B0 B1 L0 hbl
  go_wp2_with (first
    | (refine wpList_load_mid rfl 137 (.tmp 22) rfl g 16 rfl (bv zz) _ (hd_range8 RG.out HC16.out) Try.underlying137 rfl (by rw [bv_length, HZ.out]; exact size144) ?_)
    | (refine wpList_y8 (S := fun _ => True) (yields_build144 zz HZZ.out (by rfl) rfl) trivial ?_)
    | (refine wpList_y8 (S := fun _ => True) (yields_same144 (by rfl) (.tmp 23) (.tmp 24) rfl zz (by rfl) (by rfl) HZ.out) trivial ?_))
  refine wp_region_only (S := fun w' => w'.rangeAt g 0 (bv (hdL e a o))) (by kernel_rfl) RG.out (fun hHeld => ?_)
  refine wpAnyH_take (i := 0) (v := ?v1) rfl (by kernel_rfl) (by kernel_rfl) (by kernel_rfl) (fun _ _ _ h => h) (Or.inl ⟨by rfl, ?hy1⟩) hHeld ?rest1
  case hy1 =>
    intro w' hSw
    try dsimp only at hSw
    go_simp
    first | done | with_reducible rfl
  try simp only [Act.put, List.getElem_toArray, List.getElem_cons_zero, List.setIfInBounds_toArray, List.set_cons_zero, List.set_cons_succ]
  refine wpAnyH_take (i := 1) (v := ?v2) rfl (by kernel_rfl) (by kernel_rfl) (by kernel_rfl) (fun _ _ _ h => h) (Or.inl ⟨by rfl, ?hy2⟩) hHeld ?rest2
  case hy2 =>
    intro w' hSw
    try dsimp only at hSw
    go_simp
    first | done | with_reducible rfl
  try simp only [Act.put, List.getElem_toArray, List.getElem_cons_succ, List.getElem_cons_zero, List.setIfInBounds_toArray, List.set_cons_zero, List.set_cons_succ]
  refine wpAnyH_take (i := 2) (v := ?v3) rfl (by kernel_rfl) (by kernel_rfl) (by kernel_rfl) (fun _ _ _ h => h) (Or.inl ⟨by rfl, ?hy3⟩) hHeld ?rest3
  case hy3 =>
    intro w' hSw
    try dsimp only at hSw
    go_simp
    first | done | with_reducible rfl
  try simp only [Act.put, List.getElem_toArray, List.getElem_cons_succ, List.getElem_cons_zero, List.setIfInBounds_toArray, List.set_cons_zero, List.set_cons_succ]
  refine wpAnyH_take (i := 3) rfl (by kernel_rfl) (by kernel_rfl) (by kernel_rfl) (fun _ _ _ h => h) (yieldsIf_load_mid (by rfl) 138 (.tmp 28) (by rfl) g 4 (by rfl) (bv (S.bytesLE 8 e)) _ (fun w' hSw => hd_range8 hSw (hd_cut4 e a o)) Try.underlying138 rfl (by rw [bv_length, S.bytesLE_length]; exact size145)) hHeld ?_
  try simp only [Act.put, List.getElem_toArray, List.getElem_cons_succ, List.getElem_cons_zero, List.setIfInBounds_toArray, List.set_cons_zero, List.set_cons_succ]
  refine wpAnyH_take (i := 4) (v := ?v4) rfl (by kernel_rfl) (by kernel_rfl) (by kernel_rfl) (fun _ _ _ h => h) (Or.inl ⟨by rfl, ?hy4⟩) hHeld ?rest4
  case hy4 =>
    intro w' hSw
    try dsimp only at hSw
    go_simp
    first | done | with_reducible rfl
  try simp only [Act.put, List.getElem_toArray, List.getElem_cons_succ, List.getElem_cons_zero, List.setIfInBounds_toArray, List.set_cons_zero, List.set_cons_succ]
  refine wpAnyH_take (i := 5) (v := ?v5) rfl (by kernel_rfl) (by kernel_rfl) (by kernel_rfl) (fun _ _ _ h => h) (Or.inl ⟨by rfl, ?hy5⟩) hHeld ?rest5
  case hy5 =>
    intro w' hSw
    try dsimp only at hSw
    go_simp
    first | done | with_reducible rfl
  try simp only [Act.put, List.getElem_toArray, List.getElem_cons_succ, List.getElem_cons_zero, List.setIfInBounds_toArray, List.set_cons_zero, List.set_cons_succ]
  refine wpAnyH_take (i := 6) (v := ?v6) rfl (by kernel_rfl) (by kernel_rfl) (by kernel_rfl) (fun _ _ _ h => h) (Or.inl ⟨by rfl, ?hy6⟩) hHeld ?rest6
  case hy6 =>
    intro w' hSw
    try dsimp only at hSw
    go_simp
    first | done | with_reducible rfl
  try simp only [Act.put, List.getElem_toArray, List.getElem_cons_succ, List.getElem_cons_zero, List.setIfInBounds_toArray, List.set_cons_zero, List.set_cons_succ]
  refine wpAnyH_take (i := 7) rfl (by kernel_rfl) (by kernel_rfl) (by kernel_rfl) (fun _ _ _ h => h) (yieldsIf_load_mid (by rfl) 138 (.tmp 32) (by rfl) g 500 (by rfl) (bv (S.bytesLE 8 e)) _ (fun w' hSw => hd_range8 hSw (hd_cut500 e a o)) Try.underlying138 rfl (by rw [bv_length, S.bytesLE_length]; exact size145)) hHeld ?_
  try simp only [Act.put, List.getElem_toArray, List.getElem_cons_succ, List.getElem_cons_zero, List.setIfInBounds_toArray, List.set_cons_zero, List.set_cons_succ]
  refine wpAnyH_take (i := 8) rfl (by kernel_rfl) (by kernel_rfl) (by kernel_rfl) (fun _ _ _ h => h) (yields_same145 (by rfl) (.tmp 29) (.tmp 33) (by rfl) (S.bytesLE 8 e) (by rfl) (by rfl) (S.bytesLE_length _ _)) hHeld ?_
  try simp only [Act.put, List.getElem_toArray, List.getElem_cons_succ, List.getElem_cons_zero, List.setIfInBounds_toArray, List.set_cons_zero, List.set_cons_succ]
  refine wpAnyH_done (by kernel_rfl) ?_ _
  refine OnlyN.normal ?_
  clear hHeld
  replace RR := Lib.hid (show Rd W1.drew (some ⟨g, 0, none⟩) (hdL e a o) from RR.out)
  replace B2 := Lib.hid (blk_drew B2.out)
  replace L1 := Lib.hid L1.out.drew
  go_wp2_with (first
    | (go_at_call 68; refine (said_yes g c e a o hc RR.out HE.out HA.out HO.out HK.out).mono ?_; rintro r W2 ⟨rfl, hb⟩; have B3 := Lib.hid (B2.out.below hb B2.out.lt); have L2 := Lib.hid (L1.out.trans (hb.mono L1.out.size)); clear hb)
    | (refine wpList_store_row rfl 28 (.tmp 2) (.tmp 38) rfl (w.heap.size + 1) (Hd.cs ⟨e, a, o⟩).toArray rfl rfl 28 _ B3.out (by kernel_rfl) rfl (one23 _) ?_; have B4 := Lib.hid (B3.out.setRow (Hd.cs ⟨e, a, o⟩).toArray); have L3 := Lib.hid (show Below w.heap.size w (W2.setRow (w.heap.size + 1) (Hd.cs ⟨e, a, o⟩).toArray) from below_setRow L2.out (by omega) (Hd.cs ⟨e, a, o⟩).toArray))
    | (refine wpList_load_mid rfl 28 (.tmp 2) rfl (w.heap.size + 1) 0 rfl (Hd.cs ⟨e, a, o⟩) _ (Blk.rangeAt (l := (Hd.cs ⟨e, a, o⟩)) B4.out) Try.underlying28 rfl (size23 _) ?_)
    | (refine wpList_store_row rfl 28 (.tmp 2) (.tmp 42) rfl (w.heap.size + 1) (Hd.cs ⟨e, a, o⟩).toArray rfl rfl 28 _ B4.out (by kernel_rfl) rfl (one23 _) ?_))
  rw [Exit.noGoto_ret]
  exact bodyPost_ret (results_hd rfl _ _ (w.heap.size + 1) ⟨e, a, o⟩ rfl (B4.out.setRow _)) rfl ⟨rfl, below_setRow L3.out (by omega) _⟩
end Go.Proofs.Ytcfkoglehjkkdaa

/- law 2: works. -/
import Derived.Test.YtgjamgojjajcnaaQ09
namespace Go.Proofs.Ytgjamgojjajcnaa
open Go.RowKit
attribute [local go_sem] Oper.semAt_some
attribute [local go_sem] run_store_bv run_store_wc run_store_bv_drew run_store_wc_drew
def x1 : Nat × List UInt8 := (1, fullL 120)
def d1 : Dk := (newDk 4).stepped.queued x1
def cr0 : Cr := { keep := [], torn := 0, bytes := 2 }
theorem reads_d1 : d1.reads 1 = fullL 120 := rfl
set_option maxRecDepth 8000 in
theorem lasts_c (n : Nat) : (d1.stepped.crashed cr0).reads n = if n = 1 then layL zs (fullL 120) 2 else zs := by
  show upL (fun _ => zs) 1 (layL zs (fullL 120) 2) n = _
  rfl
theorem yields_eql47 {ops : Array Oper} {S : World → Prop} {o : Oper} {a : Act} (hw : Region.wanted o (yielded ops a.tmps) = true) (x y : Operand) (ho : o.op = .binOp .eql 38 x y 38) (l l' : List UInt8) (hx : a.eval x = sec l) (hy : a.eval y = sec l') (h : l.length = 512) (h' : l'.length = 512) : YieldsIf Try.prog ops S o (.bool (l == l')) a :=
  .inl ⟨hw, fun w _ => by
    unfold execOp
    simp only [ho, hx, hy, Sem.run_bind, run_eqGuard_agg (P := Try.prog) w .eql 38 x y (bv l).toArray (bv l').toArray (by kernel_rfl), run_eql47 w l l' h h', Result.andThen_ok, Sem.run_pure]⟩
set_option maxRecDepth 100000 in
set_option maxHeartbeats 4000000 in
theorem works_any (w : World) : Calls Try.prog 9 #[] w fun e w' => e = .returned (.bool true) ∧ Below w.heap.size w w' := by
  have hz := z47
  have N0 := Lib.hid (new_at w 4 (by decide) (by decide))
  have L0 := Lib.hid (((Below.refl w.heap.size w).alloc (Nat.le_refl _) (.map #[] 0)).alloc (by simp) (.cells (dcells (newPl w.heap.size) (newDk 4)) 85))
  go_enter Try.func9, Try.ntmps9
  go_wp2_with (go_at_call 30; refine (new_yes _ 4 (by decide) (by decide)).mono ?_; rintro e w' ⟨rfl, rfl⟩)
  generalize (w.alloc (.map #[] 0)).alloc (.cells (dcells (newPl w.heap.size) (newDk 4)) 85) = W0 at N0 L0 ⊢
  generalize newPl w.heap.size = pl0 at N0
  go_wp2_with (go_at_call 22; refine (show Calls Try.prog _ #[.int .u8 120] W0 _ from full_at W0 120).mono ?_; rintro e w1 ⟨rfl, b1⟩; have N1 := Lib.hid (N0.out.below b1); have L1 := Lib.hid (L0.out.trans (b1.mono L0.out.size)); clear b1 N0 L0)
  go_wp2_with (go_at_call 21; refine (write_goes N1.out L1.out.size (by decide) 1 (fullL 120) (fullL_length _) (by decide) (by decide) rfl).mono ?_; rintro e w2 ⟨rfl, v2, n2, f2, _⟩; have N2 := Lib.hid (show DiskAt w2 w.heap.size (w.heap.size + 1) { pl0 with wv := v2 } d1 from n2); have L2 := Lib.hid (L1.out.trans (f2.to_below (fun k hk => (N1.out.lt k hk).2) L1.out.size)); clear n2 f2 N1 L1)
  generalize ({ pl0 with wv := v2 } : Pl) = pl1 at N2
  go_wp2_with (go_at_call 12; refine (read_goes N2.out (by decide) 1 (by decide) (by decide) rfl).mono ?_; rw [reads_d1]; rintro e w3 ⟨rfl, n3, f3⟩; have N3 := Lib.hid n3; have L3 := Lib.hid (L2.out.trans (f3.to_below (fun k hk => (N2.out.lt k hk).2) L2.out.size)); clear n3 f3 N2 L2; have hsl : (fullL 120).length = zs.length := (fullL_length 120).trans zs_length.symm)
  have K4 := Lib.hid (Blk.new w3 38 (bv (fullL 120)).toArray)
  have N4 := Lib.hid (N3.out.alloc (.cells (bv (fullL 120)).toArray 38))
  have L4 := Lib.hid (L3.out.alloc L3.out.size (.cells (bv (fullL 120)).toArray 38))
  have S4 := Lib.hid (show w3.heap.size < (w3.alloc (.cells (bv (fullL 120)).toArray 38)).heap.size by simp)
  generalize w3.alloc (.cells (bv (fullL 120)).toArray 38) = w4 at K4 N4 L4 S4 ⊢
  have HA := Lib.hid (show ∀ k, pl1.has (w.heap.size + 1) k → k < w3.heap.size from fun k hk => (N3.out.lt k hk).1)
  clear hsl N3
  go_wp2_with (go_at_call 23; refine (show Calls Try.prog _ #[_, .agg #[.slice none 0 0, .int .i64 0, .int .i64 2]] w4 _ from crash_ok N4.out (by decide) cr0 none 0 (fun j hj => absurd hj (by simp [cr0])) (by decide) (by decide)).mono ?_; rintro e w5 ⟨pc, mc, rfl, c5, b5⟩; have C5 := Lib.hid c5; have K5 := Lib.hid (K4.out.below b5 K4.out.lt); have N5 := Lib.hid (N4.out.below b5); have L5 := Lib.hid (L4.out.trans (b5.mono L4.out.size)); clear c5 b5)
  generalize leftPl mc = plc at C5
  go_wp2_with (go_at_call 12; refine (read_goes C5.out (by decide) 1 (by decide) (by decide) rfl).mono ?_; rintro e w6 ⟨rfl, n6, f6⟩; have K6 := Lib.hid (f6.keepBlk K5.out (fun hk => by have := (C5.out.lt _ hk).2; have := K4.out.lt; omega)); have N6 := Lib.hid (N5.out.fr f6 (fun k h1 h2 => by have := (C5.out.lt _ h2).2; have := (N4.out.lt _ h1).1; omega)); have L6 := Lib.hid (L5.out.trans (f6.to_below (fun k hk => Nat.le_trans L4.out.size (C5.out.lt _ hk).2) L5.out.size)); have HB := Lib.hid (show ∀ k, pl1.has (w.heap.size + 1) k → k < w6.heap.size from fun k hk => (N6.out.lt k hk).1); clear n6 f6 C5 L5 K5 N5 K4 L4 N4 S4; obtain ⟨l8, h8⟩ : ∃ l, l = (d1.stepped.crashed cr0).reads 1 := ⟨_, rfl⟩; rw [← h8]; have H8 := Lib.hid (h8.trans (lasts_c 1)); clear h8; have hsl : l8.length = zs.length := (by rw [H8.out]; exact layL_length zs (fullL 120) 2 zs_length (fullL_length _) (by decide)); have hsl2 : (bv l8).length = 512 := (by rw [bv_length, hsl, zs_length]))
  have K8 := Lib.hid (Blk.new w6 38 (bv l8).toArray)
  have K7 := Lib.hid (K6.out.alloc (.cells (bv l8).toArray 38))
  have N7 := Lib.hid (N6.out.alloc (.cells (bv l8).toArray 38))
  have L7 := Lib.hid (L6.out.alloc L6.out.size (.cells (bv l8).toArray 38))
  have SX : (w6.alloc (.cells (bv l8).toArray 38)).heap.size = w6.heap.size + 1 := by simp
  generalize w6.alloc (.cells (bv l8).toArray 38) = w7 at K8 K7 N7 L7 SX ⊢
  have hl1 : (bv l8)[1]? = some (.int .u8 120) := by rw [H8.out]; kernel_rfl
  have hl2 : (bv l8)[2]? = some (.int .u8 0) := by rw [H8.out]; kernel_rfl
  have S7 := Lib.hid (show w7.heap.size = w6.heap.size + 1 from SX)
  have X1 := Lib.hid (show w7.cell? ⟨w6.heap.size, 1, none⟩ = some (.int .u8 120) from (K8.out.cell 1).trans (by simpa using hl1))
  have X2 := Lib.hid (show w7.cell? ⟨w6.heap.size, 2, none⟩ = some (.int .u8 0) from (K8.out.cell 2).trans (by simpa using hl2))
  have HL1 := Lib.hid (show (bv l8).toArray[1]? = some (.int .u8 120) from by simpa using hl1)
  have HL2 := Lib.hid (show (bv l8).toArray[2]? = some (.int .u8 0) from by simpa using hl2)
  clear hl1 hl2 hsl hsl2 K6 N6 L6 H8 SX
  go_wp2_with fail
  have Q8 := Lib.hid (Blk.new w7 3 #[.int .i64 1])
  have M8 := Lib.hid (N7.out.alloc (.cells #[.int .i64 1] 3))
  have K7b := Lib.hid (K7.out.alloc (.cells #[.int .i64 1] 3))
  have K8b := Lib.hid (K8.out.alloc (.cells #[.int .i64 1] 3))
  have L8 := Lib.hid (L7.out.alloc L7.out.size (.cells #[.int .i64 1] 3))
  rw [← S7.out]
  generalize w7.alloc (.cells #[.int .i64 1] 3) = w8 at Q8 M8 K7b K8b L8 ⊢
  go_wp2_with (go_at_call 20; refine (fail_any M8.out L8.out.size _ 1 [1] (by decide) (fun j hj => ⟨w7.heap.size, 0, rfl, by have hj0 : j = 0 := (by simpa using hj); subst hj0; exact (Q8.out.cell 0)⟩)).mono ?_; rintro e w9 (⟨_, rfl, ⟨f9, n9, hf9⟩, g9⟩ | ⟨⟨x, hx, hx0⟩, _⟩); rotate_left; (exact absurd hx0 (by have hx1 : x = 1 := (by simpa using hx); omega)); have N9 := Lib.hid n9; have L9 := Lib.hid (L8.out.trans (g9.to_below (fun k hk => (M8.out.lt k hk).2) L8.out.size)); have K79 := Lib.hid (g9.keepBlk K7b.out (fun hk => by have := HA.out _ hk; omega)); have K89 := Lib.hid (g9.keepBlk K8b.out (fun hk => by have := HB.out _ hk; omega)); clear n9 g9)
  have HF := Lib.hid (show ∀ k, ({ pl1 with f := some f9 } : Pl).has (w.heap.size + 1) k → k ≠ w3.heap.size ∧ k ≠ w6.heap.size from by
    rintro k (h | h | h | h)
    · have h1 := HA.out k (.inl h); have h2 := HB.out k (.inl h); exact ⟨by omega, by omega⟩
    · have h1 := HA.out k (.inr (.inl h)); have h2 := HB.out k (.inr (.inl h)); exact ⟨by omega, by omega⟩
    · have h1 := HA.out k (.inr (.inr (.inl h))); have h2 := HB.out k (.inr (.inr (.inl h))); exact ⟨by omega, by omega⟩
    · have h3 : f9 = k := by injection h
      have h1 := K7b.out.lt; have h2 := K8b.out.lt; exact ⟨by omega, by omega⟩)
  generalize ({ pl1 with f := some f9 } : Pl) = pl2 at N9 HF
  clear HA HB N7 L7 K7 K8 Q8 M8 K7b K8b L8
  have F9 := Lib.hid (show (d1.stepped.failing [1]).next = false from rfl)
  go_wp2_with (go_at_call 12; refine (read_goes N9.out (by decide) 0 (by decide) (by decide) rfl).mono ?_; rintro e w10 ⟨rfl, n10, f10⟩; have NA := Lib.hid n10; have LA := Lib.hid (L9.out.trans (f10.to_below (fun k hk => (N9.out.lt k hk).2) L9.out.size)); have K7A := Lib.hid (f10.keepBlk K79.out (fun hk => (HF.out _ hk).1 rfl)); have K8A := Lib.hid (f10.keepBlk K89.out (fun hk => (HF.out _ hk).2 rfl)); clear n10 f10 N9 L9 K79 K89; obtain ⟨l0, h0⟩ : ∃ l, l = (d1.stepped.failing [1]).reads 0 := ⟨_, rfl⟩; rw [← h0]; have hsl : l0.length = zs.length := (by rw [h0]; rfl); have hsl2 : (bv l0).length = 512 := (by rw [bv_length, hsl, zs_length]); clear h0)
  have NB := Lib.hid (NA.out.alloc (.cells (bv l0).toArray 38))
  have LB := Lib.hid (LA.out.alloc LA.out.size (.cells (bv l0).toArray 38))
  have K7B := Lib.hid (K7A.out.alloc (.cells (bv l0).toArray 38))
  have K8B := Lib.hid (K8A.out.alloc (.cells (bv l0).toArray 38))
  generalize w10.alloc (.cells (bv l0).toArray 38) = w11 at NB LB K7B K8B ⊢
  clear NA LA K7A K8A hsl hsl2
  go_wp2_with (go_at_call 24; refine (flush_fails NB.out (by decide) (by decide)).mono ?_; rintro e w12 ⟨rfl, n12, f12⟩; have NC := Lib.hid n12; have LC := Lib.hid (LB.out.trans (f12.to_below (fun k hk => (NB.out.lt k hk).2) LB.out.size)); have K7C := Lib.hid (f12.keepBlk K7B.out (fun hk => (HF.out _ hk).1 rfl)); have K8C := Lib.hid (f12.keepBlk K8B.out (fun hk => (HF.out _ hk).2 rfl)); clear n12 f12 NB LB K7B K8B)
  refine wp_region_only (S := fun w' => w'.rangeAt w3.heap.size 0 (bv (fullL 120)) ∧ w'.cell? ⟨w6.heap.size, 1, none⟩ = some (.int .u8 120) ∧ w'.cell? ⟨w6.heap.size, 2, none⟩ = some (.int .u8 0)) (by kernel_rfl) ⟨(drew_blk K7C.out).rangeAt, (Blk.cell (drew_blk K8C.out) 1).trans HL1.out, (Blk.cell (drew_blk K8C.out) 2).trans HL2.out⟩ (fun hHeld => ?_)
  refine wpAnyH_take (i := 0) (v := ?v1) rfl (by kernel_rfl) (by kernel_rfl) (by kernel_rfl) (fun _ _ _ h => h) (Or.inl ⟨by rfl, ?hy1⟩) hHeld ?rest1
  case hy1 =>
    intro w' hSw
    try dsimp only at hSw
    go_simp
    first | done | with_reducible rfl
  try simp only [Act.put, List.getElem_toArray, List.getElem_cons_zero, List.setIfInBounds_toArray, List.set_cons_zero, List.set_cons_succ]
  refine wpAnyH_take (i := 2) (v := ?v2) rfl (by kernel_rfl) (by kernel_rfl) (by kernel_rfl) (fun _ _ _ h => h) (Or.inl ⟨by rfl, ?hy2⟩) hHeld ?rest2
  case hy2 =>
    intro w' hSw
    try dsimp only at hSw
    go_simp
    first | done | with_reducible rfl
  try simp only [Act.put, List.getElem_toArray, List.getElem_cons_succ, List.getElem_cons_zero, List.setIfInBounds_toArray, List.set_cons_zero, List.set_cons_succ]
  refine wpAnyH_take (i := 5) (v := ?v3) rfl (by kernel_rfl) (by kernel_rfl) (by kernel_rfl) (fun _ _ _ h => h) (Or.inl ⟨by rfl, ?hy3⟩) hHeld ?rest3
  case hy3 =>
    intro w' hSw
    try dsimp only at hSw
    go_simp
    first | done | with_reducible rfl
  try simp only [Act.put, List.getElem_toArray, List.getElem_cons_succ, List.getElem_cons_zero, List.setIfInBounds_toArray, List.set_cons_zero, List.set_cons_succ]
  refine wpAnyH_take (i := 8) (v := ?v4) rfl (by kernel_rfl) (by kernel_rfl) (by kernel_rfl) (fun _ _ _ h => h) (Or.inl ⟨by rfl, ?hy4⟩) hHeld ?rest4
  case hy4 =>
    intro w' hSw
    try dsimp only at hSw
    go_simp
    first | done | with_reducible rfl
  try simp only [Act.put, List.getElem_toArray, List.getElem_cons_succ, List.getElem_cons_zero, List.setIfInBounds_toArray, List.set_cons_zero, List.set_cons_succ]
  refine wpAnyH_take (i := 11) (v := ?v5) rfl (by kernel_rfl) (by kernel_rfl) (by kernel_rfl) (fun _ _ _ h => h) (Or.inl ⟨by rfl, ?hy5⟩) hHeld ?rest5
  case hy5 =>
    intro w' hSw
    try dsimp only at hSw
    go_simp
    first | done | with_reducible rfl
  try simp only [Act.put, List.getElem_toArray, List.getElem_cons_succ, List.getElem_cons_zero, List.setIfInBounds_toArray, List.set_cons_zero, List.set_cons_succ]
  refine wpAnyH_take (i := 14) (v := ?v6) rfl (by kernel_rfl) (by kernel_rfl) (by kernel_rfl) (fun _ _ _ h => h) (Or.inl ⟨by rfl, ?hy6⟩) hHeld ?rest6
  case hy6 =>
    intro w' hSw
    try dsimp only at hSw
    go_simp
    first | done | with_reducible rfl
  try simp only [Act.put, List.getElem_toArray, List.getElem_cons_succ, List.getElem_cons_zero, List.setIfInBounds_toArray, List.set_cons_zero, List.set_cons_succ]
  refine wpAnyH_take (i := 17) (v := ?v7) rfl (by kernel_rfl) (by kernel_rfl) (by kernel_rfl) (fun _ _ _ h => h) (Or.inl ⟨by rfl, ?hy7⟩) hHeld ?rest7
  case hy7 =>
    intro w' hSw
    try dsimp only at hSw
    go_simp
    first | done | with_reducible rfl
  try simp only [Act.put, List.getElem_toArray, List.getElem_cons_succ, List.getElem_cons_zero, List.setIfInBounds_toArray, List.set_cons_zero, List.set_cons_succ]
  refine wpAnyH_ready (rs := [1]) (by kernel_rfl) (by simp) ?_
  refine AllReadyH.cons (by rfl) (fun K hK => ?_) AllReadyH.nil
  go_simp
  refine (num_any _ _).mono ?_
  rintro e w' ⟨rfl, rfl⟩
  go_wp2_with fail
  refine hK.out _ _ hHeld (fun hHeld => ?_)
  clear hK K
  try simp only [Act.put, List.getElem_toArray, List.getElem_cons_succ, List.getElem_cons_zero, List.setIfInBounds_toArray, List.set_cons_zero, List.set_cons_succ]
  refine wpAnyH_ready (rs := [3]) (by kernel_rfl) (by simp) ?_
  refine AllReadyH.cons (by rfl) (fun K hK => ?_) AllReadyH.nil
  go_simp
  refine (num_any _ _).mono ?_
  rintro e w' ⟨rfl, rfl⟩
  go_wp2_with fail
  refine hK.out _ _ hHeld (fun hHeld => ?_)
  clear hK K
  try simp only [Act.put, List.getElem_toArray, List.getElem_cons_succ, List.getElem_cons_zero, List.setIfInBounds_toArray, List.set_cons_zero, List.set_cons_succ]
  refine wpAnyH_take (i := 4) (v := ?v8) rfl (by kernel_rfl) (by kernel_rfl) (by kernel_rfl) (fun _ _ _ h => h) (Or.inl ⟨by rfl, ?hy8⟩) hHeld ?rest8
  case hy8 =>
    intro w' hSw
    try dsimp only at hSw
    go_simp
    first | done | with_reducible rfl
  try simp only [Act.put, List.getElem_toArray, List.getElem_cons_succ, List.getElem_cons_zero, List.setIfInBounds_toArray, List.set_cons_zero, List.set_cons_succ]
  refine wpAnyH_ready (rs := [6]) (by kernel_rfl) (by simp) ?_
  refine AllReadyH.cons (by rfl) (fun K hK => ?_) AllReadyH.nil
  go_simp
  refine (num_any _ _).mono ?_
  rintro e w' ⟨rfl, rfl⟩
  go_wp2_with fail
  refine hK.out _ _ hHeld (fun hHeld => ?_)
  clear hK K
  try simp only [Act.put, List.getElem_toArray, List.getElem_cons_succ, List.getElem_cons_zero, List.setIfInBounds_toArray, List.set_cons_zero, List.set_cons_succ]
  refine wpAnyH_take (i := 7) (v := ?v9) rfl (by kernel_rfl) (by kernel_rfl) (by kernel_rfl) (fun _ _ _ h => h) (Or.inl ⟨by rfl, ?hy9⟩) hHeld ?rest9
  case hy9 =>
    intro w' hSw
    try dsimp only at hSw
    go_simp
    first | done | with_reducible rfl
  try simp only [Act.put, List.getElem_toArray, List.getElem_cons_succ, List.getElem_cons_zero, List.setIfInBounds_toArray, List.set_cons_zero, List.set_cons_succ]
  refine wpAnyH_ready (rs := [9]) (by kernel_rfl) (by simp) ?_
  refine AllReadyH.cons (by rfl) (fun K hK => ?_) AllReadyH.nil
  go_simp
  refine (num_any _ _).mono ?_
  rintro e w' ⟨rfl, rfl⟩
  go_wp2_with fail
  refine hK.out _ _ hHeld (fun hHeld => ?_)
  clear hK K
  try simp only [Act.put, List.getElem_toArray, List.getElem_cons_succ, List.getElem_cons_zero, List.setIfInBounds_toArray, List.set_cons_zero, List.set_cons_succ]
  refine wpAnyH_take (i := 10) (v := ?v10) rfl (by kernel_rfl) (by kernel_rfl) (by kernel_rfl) (fun _ _ _ h => h) (Or.inl ⟨by rfl, ?hy10⟩) hHeld ?rest10
  case hy10 =>
    intro w' hSw
    try dsimp only at hSw
    go_simp
    first | done | with_reducible rfl
  try simp only [Act.put, List.getElem_toArray, List.getElem_cons_succ, List.getElem_cons_zero, List.setIfInBounds_toArray, List.set_cons_zero, List.set_cons_succ]
  refine wpAnyH_ready (rs := [12]) (by kernel_rfl) (by simp) ?_
  refine AllReadyH.cons (by rfl) (fun K hK => ?_) AllReadyH.nil
  go_simp
  refine (num_any _ _).mono ?_
  rintro e w' ⟨rfl, rfl⟩
  go_wp2_with fail
  refine hK.out _ _ hHeld (fun hHeld => ?_)
  clear hK K
  try simp only [Act.put, List.getElem_toArray, List.getElem_cons_succ, List.getElem_cons_zero, List.setIfInBounds_toArray, List.set_cons_zero, List.set_cons_succ]
  refine wpAnyH_take (i := 13) (v := ?v11) rfl (by kernel_rfl) (by kernel_rfl) (by kernel_rfl) (fun _ _ _ h => h) (Or.inl ⟨by rfl, ?hy11⟩) hHeld ?rest11
  case hy11 =>
    intro w' hSw
    try dsimp only at hSw
    go_simp
    first | done | with_reducible rfl
  try simp only [Act.put, List.getElem_toArray, List.getElem_cons_succ, List.getElem_cons_zero, List.setIfInBounds_toArray, List.set_cons_zero, List.set_cons_succ]
  refine wpAnyH_ready (rs := [15]) (by kernel_rfl) (by simp) ?_
  refine AllReadyH.cons (by rfl) (fun K hK => ?_) AllReadyH.nil
  go_simp
  refine (num_any _ _).mono ?_
  rintro e w' ⟨rfl, rfl⟩
  go_wp2_with fail
  refine hK.out _ _ hHeld (fun hHeld => ?_)
  clear hK K
  try simp only [Act.put, List.getElem_toArray, List.getElem_cons_succ, List.getElem_cons_zero, List.setIfInBounds_toArray, List.set_cons_zero, List.set_cons_succ]
  refine wpAnyH_take (i := 16) (v := ?v12) rfl (by kernel_rfl) (by kernel_rfl) (by kernel_rfl) (fun _ _ _ h => h) (Or.inl ⟨by rfl, ?hy12⟩) hHeld ?rest12
  case hy12 =>
    intro w' hSw
    try dsimp only at hSw
    go_simp
    first | done | with_reducible rfl
  try simp only [Act.put, List.getElem_toArray, List.getElem_cons_succ, List.getElem_cons_zero, List.setIfInBounds_toArray, List.set_cons_zero, List.set_cons_succ]
  refine wpAnyH_ready (rs := [18]) (by kernel_rfl) (by simp) ?_
  refine AllReadyH.cons (by rfl) (fun K hK => ?_) AllReadyH.nil
  go_simp
  refine (num_any _ _).mono ?_
  rintro e w' ⟨rfl, rfl⟩
  go_wp2_with fail
  refine hK.out _ _ hHeld (fun hHeld => ?_)
  clear hK K
  try simp only [Act.put, List.getElem_toArray, List.getElem_cons_succ, List.getElem_cons_zero, List.setIfInBounds_toArray, List.set_cons_zero, List.set_cons_succ]
  refine wpAnyH_take (i := 19) (v := ?v13) rfl (by kernel_rfl) (by kernel_rfl) (by kernel_rfl) (fun _ _ _ h => h) (Or.inl ⟨by rfl, ?hy13⟩) hHeld ?rest13
  case hy13 =>
    intro w' hSw
    try dsimp only at hSw
    go_simp
    first | done | with_reducible rfl
  try simp only [Act.put, List.getElem_toArray, List.getElem_cons_succ, List.getElem_cons_zero, List.setIfInBounds_toArray, List.set_cons_zero, List.set_cons_succ]
  refine wpAnyH_take (i := 20) (v := ?v14) rfl (by kernel_rfl) (by kernel_rfl) (by kernel_rfl) (fun _ _ _ h => h) (Or.inl ⟨by rfl, ?hy14⟩) hHeld ?rest14
  case hy14 =>
    intro w' hSw
    try dsimp only at hSw
    go_simp
    first | done | with_reducible rfl
  try simp only [Act.put, List.getElem_toArray, List.getElem_cons_succ, List.getElem_cons_zero, List.setIfInBounds_toArray, List.set_cons_zero, List.set_cons_succ]
  refine wpAnyH_take (i := 21) (v := ?v15) rfl (by kernel_rfl) (by kernel_rfl) (by kernel_rfl) (fun _ _ _ h => h) (Or.inl ⟨by rfl, ?hy15⟩) hHeld ?rest15
  case hy15 =>
    intro w' hSw
    try dsimp only at hSw
    go_simp
    first | done | with_reducible rfl
  try simp only [Act.put, List.getElem_toArray, List.getElem_cons_succ, List.getElem_cons_zero, List.setIfInBounds_toArray, List.set_cons_zero, List.set_cons_succ]
  refine wpAnyH_take (i := 22) rfl (by kernel_rfl) (by kernel_rfl) (by kernel_rfl) (fun _ _ _ h => h) (yieldsIf_load_mid (by rfl) 38 _ (by rfl) w3.heap.size 0 (by rfl) (bv (fullL 120)) _ (fun w' hSw => hSw.1) Try.underlying38 rfl (by rw [bv_length, fullL_length 120]; exact size47)) hHeld ?_
  try simp only [Act.put, List.getElem_toArray, List.getElem_cons_succ, List.getElem_cons_zero, List.setIfInBounds_toArray, List.set_cons_zero, List.set_cons_succ]
  refine wpAnyH_ready (rs := [23]) (by kernel_rfl) (by simp) ?_
  refine AllReadyH.cons (by rfl) (fun K hK => ?_) AllReadyH.nil
  go_simp
  refine (show Calls Try.prog _ #[.int .u8 120] _ _ from full_at w12.drew 120).mono ?_
  rintro e w13 ⟨rfl, b13⟩
  have ND := Lib.hid (NC.out.drew.below b13)
  have LD := Lib.hid (LC.out.drew.trans (b13.mono LC.out.drew.size))
  have K7D := Lib.hid ((drew_blk K7C.out).below b13 K7C.out.lt)
  have K8D := Lib.hid ((drew_blk K8C.out).below b13 K8C.out.lt)
  clear b13 NC LC K7C K8C
  go_wp2_with fail
  refine hK.out _ _ ⟨(K7D.out).rangeAt, (Blk.cell K8D.out 1).trans HL1.out, (Blk.cell K8D.out 2).trans HL2.out⟩ (fun hHeld => ?_)
  clear hK K
  try simp only [Act.put, List.getElem_toArray, List.getElem_cons_succ, List.getElem_cons_zero, List.setIfInBounds_toArray, List.set_cons_zero, List.set_cons_succ]
  refine wpAnyH_take (i := 24) rfl (by kernel_rfl) (by kernel_rfl) (by kernel_rfl) (fun _ _ _ h => h) ((yields_eql47 (by rfl) (.tmp 69) (.tmp 70) rfl (fullL 120) (fullL 120) (by rfl) (by rfl) (fullL_length _) (fullL_length _))) hHeld ?_
  try simp only [Act.put, List.getElem_toArray, List.getElem_cons_succ, List.getElem_cons_zero, List.setIfInBounds_toArray, List.set_cons_zero, List.set_cons_succ]
  refine wpAnyH_take (i := 25) (v := ?v16) rfl (by kernel_rfl) (by kernel_rfl) (by kernel_rfl) (fun _ _ _ h => h) (Or.inl ⟨by rfl, ?hy16⟩) hHeld ?rest16
  case hy16 =>
    intro w' hSw
    try dsimp only at hSw
    go_simp
    first | done | with_reducible rfl
  try simp only [Act.put, List.getElem_toArray, List.getElem_cons_succ, List.getElem_cons_zero, List.setIfInBounds_toArray, List.set_cons_zero, List.set_cons_succ]
  refine wpAnyH_take (i := 26) (v := ?v17) rfl (by kernel_rfl) (by kernel_rfl) (by kernel_rfl) (fun _ _ _ h => h) (Or.inl ⟨by rfl, ?hy17⟩) hHeld ?rest17
  case hy17 =>
    intro w' hSw
    try dsimp only at hSw
    go_simp
    first | done | with_reducible rfl
  try simp only [Act.put, List.getElem_toArray, List.getElem_cons_succ, List.getElem_cons_zero, List.setIfInBounds_toArray, List.set_cons_zero, List.set_cons_succ]
  refine wpAnyH_take (i := 27) (v := ?v18) rfl (by kernel_rfl) (by kernel_rfl) (by kernel_rfl) (fun _ _ _ h => h) (Or.inl ⟨by rfl, ?hy18⟩) hHeld ?rest18
  case hy18 =>
    intro w' hSw
    try dsimp only at hSw
    go_simp
    first | done | with_reducible rfl
  try simp only [Act.put, List.getElem_toArray, List.getElem_cons_succ, List.getElem_cons_zero, List.setIfInBounds_toArray, List.set_cons_zero, List.set_cons_succ]
  refine wpAnyH_take (i := 28) (v := ?v19) rfl (by kernel_rfl) (by kernel_rfl) (by kernel_rfl) (fun _ _ _ h => h) (Or.inl ⟨by rfl, ?hy19⟩) hHeld ?rest19
  case hy19 =>
    intro w' hSw
    try dsimp only at hSw
    go_simp
    first | done | with_reducible rfl
  try simp only [Act.put, List.getElem_toArray, List.getElem_cons_succ, List.getElem_cons_zero, List.setIfInBounds_toArray, List.set_cons_zero, List.set_cons_succ]
  refine wpAnyH_take (i := 29) (v := ?v20) rfl (by kernel_rfl) (by kernel_rfl) (by kernel_rfl) (fun _ _ _ h => h) (Or.inl ⟨by rfl, ?hy20⟩) hHeld ?rest20
  case hy20 =>
    intro w' hSw
    try dsimp only at hSw
    go_simp
    first | done | with_reducible rfl
  try simp only [Act.put, List.getElem_toArray, List.getElem_cons_succ, List.getElem_cons_zero, List.setIfInBounds_toArray, List.set_cons_zero, List.set_cons_succ]
  refine wpAnyH_take (i := 30) (v := ?v21) rfl (by kernel_rfl) (by kernel_rfl) (by kernel_rfl) (fun _ _ _ h => h) (Or.inl ⟨by rfl, ?hy21⟩) hHeld ?rest21
  case hy21 =>
    intro w' hSw
    try dsimp only at hSw
    go_simp
    first | done | with_reducible rfl
  try simp only [Act.put, List.getElem_toArray, List.getElem_cons_succ, List.getElem_cons_zero, List.setIfInBounds_toArray, List.set_cons_zero, List.set_cons_succ]
  refine wpAnyH_take (i := 31) (v := ?v22) rfl (by kernel_rfl) (by kernel_rfl) (by kernel_rfl) (fun _ _ _ h => h) (Or.inl ⟨by rfl, ?hy22⟩) hHeld ?rest22
  case hy22 =>
    intro w' hSw
    try dsimp only at hSw
    go_simp
    first | done | with_reducible rfl
  try simp only [Act.put, List.getElem_toArray, List.getElem_cons_succ, List.getElem_cons_zero, List.setIfInBounds_toArray, List.set_cons_zero, List.set_cons_succ]
  refine wpAnyH_take (i := 32) (v := ?v23) rfl (by kernel_rfl) (by kernel_rfl) (by kernel_rfl) (fun _ _ _ h => h) (Or.inl ⟨by rfl, ?hy23⟩) hHeld ?rest23
  case hy23 =>
    intro w' hSw
    try dsimp only at hSw
    go_simp
    first | done | with_reducible rfl
  try simp only [Act.put, List.getElem_toArray, List.getElem_cons_succ, List.getElem_cons_zero, List.setIfInBounds_toArray, List.set_cons_zero, List.set_cons_succ]
  refine wpAnyH_take (i := 33) (v := ?v24) rfl (by kernel_rfl) (by kernel_rfl) (by kernel_rfl) (fun _ _ _ h => h) (Or.inl ⟨by rfl, ?hy24⟩) hHeld ?rest24
  case hy24 =>
    intro w' hSw
    try dsimp only at hSw
    go_simp
    first | done | with_reducible rfl
  try simp only [Act.put, List.getElem_toArray, List.getElem_cons_succ, List.getElem_cons_zero, List.setIfInBounds_toArray, List.set_cons_zero, List.set_cons_succ]
  refine wpAnyH_take (i := 34) (v := ?v25) rfl (by kernel_rfl) (by kernel_rfl) (by kernel_rfl) (fun _ _ _ h => h) (Or.inl ⟨by rfl, ?hy25⟩) hHeld ?rest25
  case hy25 =>
    intro w' hSw
    try dsimp only at hSw
    go_simp
    first | done | with_reducible rfl
  try simp only [Act.put, List.getElem_toArray, List.getElem_cons_succ, List.getElem_cons_zero, List.setIfInBounds_toArray, List.set_cons_zero, List.set_cons_succ]
  refine wpAnyH_take (i := 35) (v := ?v26) rfl (by kernel_rfl) (by kernel_rfl) (by kernel_rfl) (fun _ _ _ h => h) (Or.inl ⟨by rfl, ?hy26⟩) hHeld ?rest26
  case hy26 =>
    intro w' hSw
    try dsimp only at hSw
    go_simp
    first | done | with_reducible rfl
  try simp only [Act.put, List.getElem_toArray, List.getElem_cons_succ, List.getElem_cons_zero, List.setIfInBounds_toArray, List.set_cons_zero, List.set_cons_succ]
  refine wpAnyH_take (i := 36) (v := ?v27) rfl (by kernel_rfl) (by kernel_rfl) (by kernel_rfl) (fun _ _ _ h => h) (Or.inl ⟨by rfl, ?hy27⟩) hHeld ?rest27
  case hy27 =>
    intro w' hSw
    try dsimp only at hSw
    go_simp
    first | done | with_reducible rfl
  try simp only [Act.put, List.getElem_toArray, List.getElem_cons_succ, List.getElem_cons_zero, List.setIfInBounds_toArray, List.set_cons_zero, List.set_cons_succ]
  refine wpAnyH_take (i := 37) (v := ?v28) rfl (by kernel_rfl) (by kernel_rfl) (by kernel_rfl) (fun _ _ _ h => h) (Or.inl ⟨by rfl, ?hy28⟩) hHeld ?rest28
  case hy28 =>
    intro w' hSw
    try dsimp only at hSw
    go_simp
    first | done | with_reducible rfl
  try simp only [Act.put, List.getElem_toArray, List.getElem_cons_succ, List.getElem_cons_zero, List.setIfInBounds_toArray, List.set_cons_zero, List.set_cons_succ]
  refine wpAnyH_ready (rs := [38]) (by kernel_rfl) (by simp) ?_
  refine AllReadyH.cons (by rfl) (fun K hK => ?_) AllReadyH.nil
  go_simp
  refine (num_any _ _).mono ?_
  rintro e w' ⟨rfl, rfl⟩
  go_wp2_with fail
  refine hK.out _ _ hHeld (fun hHeld => ?_)
  clear hK K
  try simp only [Act.put, List.getElem_toArray, List.getElem_cons_succ, List.getElem_cons_zero, List.setIfInBounds_toArray, List.set_cons_zero, List.set_cons_succ]
  refine wpAnyH_take (i := 39) (v := ?v29) rfl (by kernel_rfl) (by kernel_rfl) (by kernel_rfl) (fun _ _ _ h => h) (Or.inl ⟨by rfl, ?hy29⟩) hHeld ?rest29
  case hy29 =>
    intro w' hSw
    try dsimp only at hSw
    go_simp
    first | done | with_reducible rfl
  try simp only [Act.put, List.getElem_toArray, List.getElem_cons_succ, List.getElem_cons_zero, List.setIfInBounds_toArray, List.set_cons_zero, List.set_cons_succ]
  refine wpAnyH_take (i := 40) (v := ?v30) rfl (by kernel_rfl) (by kernel_rfl) (by kernel_rfl) (fun _ _ _ h => h) (Or.inl ⟨by rfl, ?hy30⟩) hHeld ?rest30
  case hy30 =>
    intro w' hSw
    try dsimp only at hSw
    go_simp
    first | done | with_reducible rfl
  try simp only [Act.put, List.getElem_toArray, List.getElem_cons_succ, List.getElem_cons_zero, List.setIfInBounds_toArray, List.set_cons_zero, List.set_cons_succ]
  refine wpAnyH_take (i := 41) (v := ?v31) rfl (by kernel_rfl) (by kernel_rfl) (by kernel_rfl) (fun _ _ _ h => h) (Or.inl ⟨by rfl, ?hy31⟩) hHeld ?rest31
  case hy31 =>
    intro w' hSw
    try dsimp only at hSw
    go_simp
    first | done | with_reducible rfl
  try simp only [Act.put, List.getElem_toArray, List.getElem_cons_succ, List.getElem_cons_zero, List.setIfInBounds_toArray, List.set_cons_zero, List.set_cons_succ]
  refine wpAnyH_take (i := 42) (v := ?v32) rfl (by kernel_rfl) (by kernel_rfl) (by kernel_rfl) (fun _ _ _ h => h) (Or.inl ⟨by rfl, ?hy32⟩) hHeld ?rest32
  case hy32 =>
    intro w' hSw
    try dsimp only at hSw
    go_simp
    first | done | with_reducible rfl
  try simp only [Act.put, List.getElem_toArray, List.getElem_cons_succ, List.getElem_cons_zero, List.setIfInBounds_toArray, List.set_cons_zero, List.set_cons_succ]
  refine wpAnyH_ready (rs := [43]) (by kernel_rfl) (by simp) ?_
  refine AllReadyH.cons (by rfl) (fun K hK => ?_) AllReadyH.nil
  go_simp
  refine (waits_at ND.out (by decide)).mono ?_
  rintro e w14 ⟨v14, rfl, own14, b14⟩
  obtain ⟨A14, cap14, rfl⟩ := own_shape own14
  have NE := Lib.hid (ND.out.below b14)
  have LE := Lib.hid (LD.out.trans (b14.mono LD.out.size))
  have K7E := Lib.hid (K7D.out.below b14 K7D.out.lt)
  have K8E := Lib.hid (K8D.out.below b14 K8D.out.lt)
  clear own14 b14 ND LD K7D K8D
  go_wp2_with fail
  refine hK.out _ _ ⟨(K7E.out).rangeAt, (Blk.cell K8E.out 1).trans HL1.out, (Blk.cell K8E.out 2).trans HL2.out⟩ (fun hHeld => ?_)
  clear hK K
  try simp only [Act.put, List.getElem_toArray, List.getElem_cons_succ, List.getElem_cons_zero, List.setIfInBounds_toArray, List.set_cons_zero, List.set_cons_succ]
  refine wpAnyH_take (i := 44) (v := ?v33) rfl (by kernel_rfl) (by kernel_rfl) (by kernel_rfl) (fun _ _ _ h => h) (Or.inl ⟨by rfl, ?hy33⟩) hHeld ?rest33
  case hy33 =>
    intro w' hSw
    try dsimp only at hSw
    go_simp
    first | done | with_reducible rfl
  try simp only [Act.put, List.getElem_toArray, List.getElem_cons_succ, List.getElem_cons_zero, List.setIfInBounds_toArray, List.set_cons_zero, List.set_cons_succ]
  refine wpAnyH_take (i := 45) (v := ?v34) rfl (by kernel_rfl) (by kernel_rfl) (by kernel_rfl) (fun _ _ _ h => h) (Or.inl ⟨by rfl, ?hy34⟩) hHeld ?rest34
  case hy34 =>
    intro w' hSw
    try dsimp only at hSw
    go_simp
    first | done | with_reducible rfl
  try simp only [Act.put, List.getElem_toArray, List.getElem_cons_succ, List.getElem_cons_zero, List.setIfInBounds_toArray, List.set_cons_zero, List.set_cons_succ]
  refine wpAnyH_take (i := 46) (v := ?v35) rfl (by kernel_rfl) (by kernel_rfl) (by kernel_rfl) (fun _ _ _ h => h) (Or.inl ⟨by rfl, ?hy35⟩) hHeld ?rest35
  case hy35 =>
    intro w' hSw
    try dsimp only at hSw
    go_simp
    first | done | with_reducible rfl
  try simp only [Act.put, List.getElem_toArray, List.getElem_cons_succ, List.getElem_cons_zero, List.setIfInBounds_toArray, List.set_cons_zero, List.set_cons_succ]
  refine wpAnyH_take (i := 47) (v := ?v36) rfl (by kernel_rfl) (by kernel_rfl) (by kernel_rfl) (fun _ _ _ h => h) (Or.inl ⟨by rfl, ?hy36⟩) hHeld ?rest36
  case hy36 =>
    intro w' hSw
    try dsimp only at hSw
    go_simp
    first | done | with_reducible rfl
  try simp only [Act.put, List.getElem_toArray, List.getElem_cons_succ, List.getElem_cons_zero, List.setIfInBounds_toArray, List.set_cons_zero, List.set_cons_succ]
  refine wpAnyH_take (i := 48) (v := ?v37) rfl (by kernel_rfl) (by kernel_rfl) (by kernel_rfl) (fun _ _ _ h => h) (Or.inl ⟨by rfl, ?hy37⟩) hHeld ?rest37
  case hy37 =>
    intro w' hSw
    try dsimp only at hSw
    go_simp
    first | done | with_reducible rfl
  try simp only [Act.put, List.getElem_toArray, List.getElem_cons_succ, List.getElem_cons_zero, List.setIfInBounds_toArray, List.set_cons_zero, List.set_cons_succ]
  refine wpAnyH_ready (rs := [49]) (by kernel_rfl) (by simp) ?_
  refine AllReadyH.cons (by rfl) (fun K hK => ?_) AllReadyH.nil
  go_simp
  refine (show Calls Try.prog _ _ w14 fun e w' => e = .returned (.int .i64 4) ∧ w14 = w' from steps_at NE.out).mono ?_
  rintro e w' ⟨rfl, rfl⟩
  go_wp2_with fail
  refine hK.out _ _ hHeld (fun hHeld => ?_)
  clear hK K
  try simp only [Act.put, List.getElem_toArray, List.getElem_cons_succ, List.getElem_cons_zero, List.setIfInBounds_toArray, List.set_cons_zero, List.set_cons_succ]
  refine wpAnyH_take (i := 50) (v := ?v38) rfl (by kernel_rfl) (by kernel_rfl) (by kernel_rfl) (fun _ _ _ h => h) (Or.inl ⟨by rfl, ?hy38⟩) hHeld ?rest38
  case hy38 =>
    intro w' hSw
    try dsimp only at hSw
    go_simp
    first | done | with_reducible rfl
  try simp only [Act.put, List.getElem_toArray, List.getElem_cons_succ, List.getElem_cons_zero, List.setIfInBounds_toArray, List.set_cons_zero, List.set_cons_succ]
  refine wpAnyH_take (i := 51) (v := ?v39) rfl (by kernel_rfl) (by kernel_rfl) (by kernel_rfl) (fun _ _ _ h => h) (Or.inl ⟨by rfl, ?hy39⟩) hHeld ?rest39
  case hy39 =>
    intro w' hSw
    try dsimp only at hSw
    go_simp
    first | done | with_reducible rfl
  try simp only [Act.put, List.getElem_toArray, List.getElem_cons_succ, List.getElem_cons_zero, List.setIfInBounds_toArray, List.set_cons_zero, List.set_cons_succ]
  refine wpAnyH_take (i := 52) (v := ?v40) rfl (by kernel_rfl) (by kernel_rfl) (by kernel_rfl) (fun _ _ _ h => h) (Or.inl ⟨by rfl, ?hy40⟩) hHeld ?rest40
  case hy40 =>
    intro w' hSw
    try dsimp only at hSw
    go_simp
    first | done | with_reducible rfl
  try simp only [Act.put, List.getElem_toArray, List.getElem_cons_succ, List.getElem_cons_zero, List.setIfInBounds_toArray, List.set_cons_zero]
  refine wpAnyH_done (by kernel_rfl) ?_ _
  refine OnlyN.normal ?_
  go_wp2
  go_ret
  exact ⟨rfl, LE.out⟩
end Go.Proofs.Ytgjamgojjajcnaa

/- disk: the walk of Spoil. -/
import Derived.Test.YtjfcmoappbfnjaaP09
import Derived.Test.YtjfcmoappbfnjaaP08
import Derived.Test.YtjfcmoappbfnjaaP03
import Derived.Laws.BytesArg
import Derived.Deep.RegionWith
namespace Go.Proofs.Ytjfcmoappbfnjaa
open List renaming getElem_toArray → zq1, getElem_cons_succ → zq2, getElem_cons_zero → zq3, setIfInBounds_toArray → zq4, set_cons_zero → zq5, set_cons_succ → zq6
open Go.RowKit Go.Shelf
attribute [local go_sem] Oper.semAt_some
attribute [local go_sem] run_store_bv run_store_wc run_store_bv_drew run_store_wc_drew
theorem blk_drew {w : World} {g : Nat} {t : TypeId} {cs : Array Value} (h : Blk w g t cs) : Blk w.drew g t cs := h
set_option maxRecDepth 8000 in
theorem turn_arr {l : List UInt8} {k : Nat} {y b : UInt8} (h : l[k]? = some y) : (bv l).toArray.setIfInBounds k (.int .u8 ((y.toNat ^^^ b.toNat : Nat) : Int)) = (bv (turnL l k b)).toArray := by
  rw [← UInt8.toNat_xor]
  have hk := (List.getElem?_eq_some_iff.1 h).1
  rw [turnL_set _ _ _ hk, (List.getElem?_eq_some_iff.1 h).2, List.setIfInBounds_toArray]
  unfold bv
  rw [List.map_set]
set_option maxRecDepth 8000 in
theorem blks4' (w : World) (v0 v1 v2 v3 : Value) (t0 t1 t2 t3 : TypeId) :
    Blk ((((w.alloc (.cells #[v0] t0)).alloc (.cells #[v1] t1)).alloc (.cells #[v2] t2)).alloc (.cells #[v3] t3)) w.heap.size t0 #[v0] ∧
    Blk ((((w.alloc (.cells #[v0] t0)).alloc (.cells #[v1] t1)).alloc (.cells #[v2] t2)).alloc (.cells #[v3] t3)) (w.heap.size + 1) t1 #[v1] ∧
    Blk ((((w.alloc (.cells #[v0] t0)).alloc (.cells #[v1] t1)).alloc (.cells #[v2] t2)).alloc (.cells #[v3] t3)) (w.heap.size + 2) t2 #[v2] ∧
    Blk ((((w.alloc (.cells #[v0] t0)).alloc (.cells #[v1] t1)).alloc (.cells #[v2] t2)).alloc (.cells #[v3] t3)) (w.heap.size + 3) t3 #[v3] ∧
    Below w.heap.size w ((((w.alloc (.cells #[v0] t0)).alloc (.cells #[v1] t1)).alloc (.cells #[v2] t2)).alloc (.cells #[v3] t3)) ∧
    ((((w.alloc (.cells #[v0] t0)).alloc (.cells #[v1] t1)).alloc (.cells #[v2] t2)).alloc (.cells #[v3] t3)).heap.size = w.heap.size + 4 := by
  refine ⟨(((Blk.new w t0 #[v0]).alloc _).alloc _).alloc _, ?_, ?_, ?_, ?_, by simp⟩
  · have := ((Blk.new (w.alloc (.cells #[v0] t0)) t1 #[v1]).alloc (.cells #[v2] t2)).alloc (.cells #[v3] t3)
    simpa using this
  · have := (Blk.new ((w.alloc (.cells #[v0] t0)).alloc (.cells #[v1] t1)) t2 #[v2]).alloc (.cells #[v3] t3)
    simpa using this
  · have := Blk.new (((w.alloc (.cells #[v0] t0)).alloc (.cells #[v1] t1)).alloc (.cells #[v2] t2)) t3 #[v3]
    simpa using this
  · exact ((((Below.refl w.heap.size w).alloc (Nat.le_refl _) _).alloc (by simp) _).alloc (by simp; omega) _).alloc (by simp; omega) _
set_option maxRecDepth 100000 in
set_option maxHeartbeats 2000000 in
theorem spoil_goes {w : World} {base p : Nat} {pl : Pl} {D : Dk} (h : DiskAt w base p pl D) (hN : D.waits.length ≤ 1000000) (n k : Nat) (b : UInt8) (hn : n < D.size) (hk : k < 512) :
    Calls Try.prog 26 #[.pointer (some ⟨p, 0, none⟩), .int .i64 (n : Int), .int .i64 (k : Int), .int .u8 (b.toNat : Int)] w fun e w' => e = .returned (.int .i64 0) ∧ DiskAt w' base p pl (D.spoilt n k b) ∧ Fr (pl.has p) w w' := by
  have hz := z47
  have hz8 := z84
  have hFw : ∀ f, Fence.wide.fn f := fun _ => trivial
  have q := blks4' w (.pointer (some ⟨p, 0, none⟩)) (.int .i64 (n : Int)) (.int .i64 (k : Int)) (.int .u8 (b.toNat : Int)) 30 3 3 5
  have H := Lib.hid h
  have HNN := Lib.hid hN
  have HN := Lib.hid hn
  have HK := Lib.hid hk
  have k0 : decide ((k : Int) < 0) = false := decide_eq_false (by omega)
  have k5 : decide (512 ≤ (k : Int)) = false := decide_eq_false (by omega)
  clear h hN hn hk
  refine (callsIn_wide (n := 4)).1 (callsIn_of_wp_marks Try.func26 rfl trivial ?_ rfl)
  simp only [Try.ntmps26, List.size_toArray, List.length_cons, List.length_nil, Nat.reduceAdd, Nat.reduceSub, Array.replicate_succ, Array.replicate_zero, List.push_toArray, List.append_toArray, List.nil_append, List.cons_append]
  gi_wp2_with fail
  obtain ⟨q0, q1, q2, q3, qb, qs⟩ := q
  generalize (((w.alloc (.cells #[.pointer (some ⟨p, 0, none⟩)] 30)).alloc (.cells #[.int .i64 (n : Int)] 3)).alloc (.cells #[.int .i64 (k : Int)] 3)).alloc (.cells #[.int .u8 (b.toNat : Int)] 5) = W at q0 q1 q2 q3 qb qs ⊢
  have HW := Lib.hid (H.out.below qb)
  refine ((callsIn_wide (n := 3)).2 (asked_ok HW.out n HN.out)).mono ?_
  rintro e w' ⟨rfl, rfl⟩
  have Q0 := Lib.hid q0
  have Q1 := Lib.hid q1
  have Q2 := Lib.hid q2
  have Q3 := Lib.hid q3
  have QB := Lib.hid qb
  have QS := Lib.hid qs
  have c2 := (q2.cell 0).trans (show _ = some (.int .i64 (k : Int)) from rfl)
  clear q0 q1 q2 q3 qb qs
  gi_wp2_with fail
  -- region 6
  have LL := Lib.hid (HW.out.lens n)
  have hlz : (D.lasts n).length = zs.length := by rw [LL.out, zs_length]
  have hbl : (bv (D.lasts n)).length = 512 := by rw [bv_length, LL.out]
  refine wpIn_region_out (S := fun w' => w'.cell? ⟨w.heap.size, 0, none⟩ = some (.pointer (some ⟨p, 0, none⟩)) ∧ w'.cell? ⟨p, 1, none⟩ = some (.map (some pl.m)) ∧ w'.cell? ⟨w.heap.size + 1, 0, none⟩ = some (.int .i64 (n : Int)) ∧ (Instr.lookup 85 (.map (some pl.m)) (.int .i64 (n : Int)) false).run Try.prog w' = .ok (sec (D.lasts n)) w') (by kernel_rfl) ⟨(Q0.out.cell 0).trans rfl, HW.out.c1, (Q1.out.cell 0).trans rfl, HW.out.drew.map.look n⟩ (fun hHeld => ?_)
  refine wpAnyH_take (i := 0) (v := ?v1) rfl (by kernel_rfl) (by kernel_rfl) (by kernel_rfl) (fun _ _ _ h => h) (Or.inl ⟨by rfl, ?hy1⟩) hHeld ?rest1
  case hy1 =>
    intro w' hSw
    try dsimp only at hSw
    go_simp
    first | done | with_reducible rfl
  try simp only [Act.put, zq1, zq3, zq4, zq5, zq6]
  refine wpAnyH_take (i := 1) (v := ?v2) rfl (by kernel_rfl) (by kernel_rfl) (by kernel_rfl) (fun _ _ _ h => h) (Or.inl ⟨by rfl, ?hy2⟩) hHeld ?rest2
  case hy2 =>
    intro w' hSw
    try dsimp only at hSw
    go_simp
    first | done | with_reducible rfl
  try simp only [Act.put, zq1, zq2, zq3, zq4, zq5, zq6]
  refine wpAnyH_take (i := 2) (v := ?v3) rfl (by kernel_rfl) (by kernel_rfl) (by kernel_rfl) (fun _ _ _ h => h) (Or.inl ⟨by rfl, ?hy3⟩) hHeld ?rest3
  case hy3 =>
    intro w' hSw
    try dsimp only at hSw
    go_simp
    first | done | with_reducible rfl
  try simp only [Act.put, zq1, zq2, zq3, zq4, zq5, zq6]
  refine wpAnyH_take (i := 3) (v := ?v4) rfl (by kernel_rfl) (by kernel_rfl) (by kernel_rfl) (fun _ _ _ h => h) (Or.inl ⟨by rfl, ?hy4⟩) hHeld ?rest4
  case hy4 =>
    intro w' hSw
    try dsimp only at hSw
    go_simp
    first | done | with_reducible rfl
  try simp only [Act.put, zq1, zq2, zq3, zq4, zq5, zq6]
  refine wpAnyH_take (i := 4) (v := ?v5) rfl (by kernel_rfl) (by kernel_rfl) (by kernel_rfl) (fun _ _ _ h => h) (Or.inl ⟨by rfl, ?hy5⟩) hHeld ?rest5
  case hy5 =>
    intro w' hSw
    try dsimp only at hSw
    go_simp
    first | done | with_reducible rfl
  try simp only [Act.put, zq1, zq2, zq3, zq4, zq5, zq6]
  refine wpAnyH_take (i := 5) (v := ?v6) rfl (by kernel_rfl) (by kernel_rfl) (by kernel_rfl) (fun _ _ _ h => h) (Or.inl ⟨by rfl, ?hy6⟩) hHeld ?rest6
  case hy6 =>
    intro w' hSw
    try dsimp only at hSw
    go_simp
    first | done | with_reducible rfl
  try simp only [Act.put, zq1, zq2, zq3, zq4, zq5, zq6]
  refine wpAnyH_ready (rs := [6]) (by kernel_rfl) (by simp) ?_
  refine AllReadyH.cons (by rfl) (fun K hK => ?_) AllReadyH.nil
  go_simp
  refine hK.out _ _ ⟨(Blk.cell (Blk.alloc (blk_drew Q0.out) _) 0).trans rfl, (HW.out.drew.alloc _).c1, (Blk.cell (Blk.alloc (blk_drew Q1.out) _) 0).trans rfl, (HW.out.drew.alloc _).map.look n⟩ (fun hHeld => ?_)
  clear hK K
  try simp only [Act.put, zq1, zq2, zq3, zq4, zq5, zq6]
  refine wpAnyH_ready (rs := [7]) (by kernel_rfl) (by simp) ?_
  refine AllReadyH.cons (by rfl) (fun K hK => ?_) AllReadyH.nil
  go_simp
  refine hK.out _ _ ⟨(Blk.cell (Blk.alloc (blk_drew Q0.out) _) 0).trans rfl, (HW.out.drew.alloc _).c1, (Blk.cell (Blk.alloc (blk_drew Q1.out) _) 0).trans rfl, (HW.out.drew.alloc _).map.look n⟩ (fun hHeld => ?_)
  clear hK K
  try simp only [Act.put, zq1, zq2, zq3, zq4, zq5, zq6]
  refine wpAnyH_done (by kernel_rfl) ?_ _
  refine OnlyN.normal ?_
  have HW1 := Lib.hid (HW.out.alloc (.cells (bv (D.lasts n)).toArray 56)).drew
  have A0 := Lib.hid (blk_drew (Q0.out.alloc (.cells (bv (D.lasts n)).toArray 56)))
  have A1 := Lib.hid (blk_drew (Q1.out.alloc (.cells (bv (D.lasts n)).toArray 56)))
  have A2 := Lib.hid (blk_drew (Q2.out.alloc (.cells (bv (D.lasts n)).toArray 56)))
  have A3 := Lib.hid (blk_drew (Q3.out.alloc (.cells (bv (D.lasts n)).toArray 56)))
  have A4 := Lib.hid (show Blk (W.alloc (.cells (bv (D.lasts n)).toArray 56)).drew W.heap.size 56 (bv (D.lasts n)).toArray from Blk.new W 56 (bv (D.lasts n)).toArray)
  have AB := Lib.hid (show Below w.heap.size w (W.alloc (.cells (bv (D.lasts n)).toArray 56)).drew from (QB.out.alloc (by rw [QS.out]; omega) (.cells (bv (D.lasts n)).toArray 56)).drew)
  have AS := Lib.hid (show (W.alloc (.cells (bv (D.lasts n)).toArray 56)).drew.heap.size = w.heap.size + 5 by simp [QS.out])
  rw [QS.out] at A4 ⊢
  generalize (W.alloc (.cells (bv (D.lasts n)).toArray 56)).drew = W1 at HW1 A0 A1 A2 A3 A4 AB AS ⊢
  clear HW Q0 Q1 Q2 Q3 QB QS hlz
  obtain ⟨y, hy⟩ : ∃ y, (D.lasts n)[k]? = some y := ⟨_, List.getElem?_eq_getElem (by rw [LL.out]; exact HK.out)⟩
  have HY := Lib.hid hy
  have hx := xor_u8 y b
  have i1 : (0 : Int) ≤ (k : Int) := by omega
  have i2 : (k : Int) < 512 := by have := HK.out; omega
  clear hy hbl c2 k0 k5
  gi_wp2_with fail
  refine wpIn_region_U_out (S := fun w' => w'.cell? ⟨w.heap.size + 1 + 1, 0, none⟩ = some (.int .i64 (k : Int)) ∧ w'.cell? ⟨w.heap.size + 1 + 1 + 1, 0, none⟩ = some (.int .u8 (b.toNat : Int)) ∧ w'.cell? ⟨w.heap.size + 4, k, none⟩ = some (.int .u8 (y.toNat : Int)) ∧ w'.frozen? ⟨w.heap.size + 4, k, none⟩ = false) 6 (by kernel_rfl) ⟨(A2.out.cell 0).trans rfl, (A3.out.cell 0).trans rfl, (A4.out.cell k).trans (by rw [List.getElem?_toArray, bv_get, HY.out]; rfl), A4.out.frozen k⟩ (fun hHeld => ?_)
  refine wpAnyU_take (i := 0) (v := ?v7) rfl (by kernel_rfl) (by kernel_rfl) (by kernel_rfl) (by kernel_rfl) (fun _ _ _ h => h) (Or.inl ⟨by rfl, ?hy7⟩) hHeld ?rest7
  case hy7 =>
    intro w' hSw
    try dsimp only at hSw
    go_simp
    first | done | with_reducible rfl
  try simp only [Act.put, zq1, zq3, zq4, zq5, zq6]
  refine wpAnyU_take (i := 1) (v := ?v8) rfl (by kernel_rfl) (by kernel_rfl) (by kernel_rfl) (by kernel_rfl) (fun _ _ _ h => h) (Or.inl ⟨by rfl, ?hy8⟩) hHeld ?rest8
  case hy8 =>
    intro w' hSw
    try dsimp only at hSw
    go_simp
    first | done | with_reducible rfl
  try simp only [Act.put, zq1, zq2, zq3, zq4, zq5, zq6]
  refine wpAnyU_take (i := 2) (v := ?v9) rfl (by kernel_rfl) (by kernel_rfl) (by kernel_rfl) (by kernel_rfl) (fun _ _ _ h => h) (Or.inl ⟨by rfl, ?hy9⟩) hHeld ?rest9
  case hy9 =>
    intro w' hSw
    try dsimp only at hSw
    go_simp
    first | done | with_reducible rfl
  try simp only [Act.put, zq1, zq2, zq3, zq4, zq5, zq6]
  refine wpAnyU_take (i := 3) (v := ?v10) rfl (by kernel_rfl) (by kernel_rfl) (by kernel_rfl) (by kernel_rfl) (fun _ _ _ h => h) (Or.inl ⟨by rfl, ?hy10⟩) hHeld ?rest10
  case hy10 =>
    intro w' hSw
    try dsimp only at hSw
    go_simp
    first | done | with_reducible rfl
  try simp only [Act.put, zq1, zq2, zq3, zq4, zq5, zq6]
  refine wpAnyU_take (i := 4) (v := ?v11) rfl (by kernel_rfl) (by kernel_rfl) (by kernel_rfl) (by kernel_rfl) (fun _ _ _ h => h) (Or.inl ⟨by rfl, ?hy11⟩) hHeld ?rest11
  case hy11 =>
    intro w' hSw
    try dsimp only at hSw
    go_simp
    first | done | with_reducible rfl
  try simp only [Act.put, zq1, zq2, zq3, zq4, zq5, zq6]
  refine wpAnyU_take (i := 5) (v := ?v12) rfl (by kernel_rfl) (by kernel_rfl) (by kernel_rfl) (by kernel_rfl) (fun _ _ _ h => h) (Or.inl ⟨by rfl, ?hy12⟩) hHeld ?rest12
  case hy12 =>
    intro w' hSw
    try dsimp only at hSw
    go_simp
    first | done | with_reducible rfl
  try simp only [Act.put, zq1, zq2, zq3, zq4, zq5, zq6]
  refine wpAnyU_one (i := 6) (by kernel_rfl) (by rfl) (fun K hK => ?_)
  have fz := hHeld.2.2.2
  have cz := hHeld.2.2.1
  go_simp
  have B0 := Lib.hid (show Blk (W1.setCell ⟨w.heap.size + 4, k, none⟩ (.int .u8 ((y.toNat ^^^ b.toNat : Nat) : Int))).drew w.heap.size 30 #[.pointer (some ⟨p, 0, none⟩)] from Blk.far (w := W1) (A0.out) (p := ⟨w.heap.size + 4, k, none⟩) (by simp) (.int .u8 ((y.toNat ^^^ b.toNat : Nat) : Int)))
  have B1 := Lib.hid (show Blk (W1.setCell ⟨w.heap.size + 4, k, none⟩ (.int .u8 ((y.toNat ^^^ b.toNat : Nat) : Int))).drew (w.heap.size + 1) 3 #[.int .i64 (n : Int)] from Blk.far (w := W1) (A1.out) (p := ⟨w.heap.size + 4, k, none⟩) (by simp) (.int .u8 ((y.toNat ^^^ b.toNat : Nat) : Int)))
  have B2 := Lib.hid (show Blk (W1.setCell ⟨w.heap.size + 4, k, none⟩ (.int .u8 ((y.toNat ^^^ b.toNat : Nat) : Int))).drew (w.heap.size + 2) 3 #[.int .i64 (k : Int)] from Blk.far (w := W1) (A2.out) (p := ⟨w.heap.size + 4, k, none⟩) (by simp) (.int .u8 ((y.toNat ^^^ b.toNat : Nat) : Int)))
  have B3 := Lib.hid (show Blk (W1.setCell ⟨w.heap.size + 4, k, none⟩ (.int .u8 ((y.toNat ^^^ b.toNat : Nat) : Int))).drew (w.heap.size + 3) 5 #[.int .u8 (b.toNat : Int)] from Blk.far (w := W1) (A3.out) (p := ⟨w.heap.size + 4, k, none⟩) (by simp) (.int .u8 ((y.toNat ^^^ b.toNat : Nat) : Int)))
  have B4 := Lib.hid (show Blk (W1.setCell ⟨w.heap.size + 4, k, none⟩ (.int .u8 ((y.toNat ^^^ b.toNat : Nat) : Int))).drew (w.heap.size + 4) 56 (bv (turnL (D.lasts n) k b)).toArray from turn_arr HY.out ▸ Blk.set_ (w := W1) A4.out k (.int .u8 ((y.toNat ^^^ b.toNat : Nat) : Int)))
  have BB := Lib.hid (show Below w.heap.size w (W1.setCell ⟨w.heap.size + 4, k, none⟩ (.int .u8 ((y.toNat ^^^ b.toNat : Nat) : Int))).drew from (AB.out.setCell (by simp) _).drew)
  have BS := Lib.hid (show (W1.setCell ⟨w.heap.size + 4, k, none⟩ (.int .u8 ((y.toNat ^^^ b.toNat : Nat) : Int))).drew.heap.size = w.heap.size + 5 by simpa using AS.out)
  have HW2 := Lib.hid (show DiskAt (W1.setCell ⟨w.heap.size + 4, k, none⟩ (.int .u8 ((y.toNat ^^^ b.toNat : Nat) : Int))).drew base p pl D from HW1.out.keep (fun j hj => Below.heap_setCell _ _ _ _ (by have := (H.out.lt j hj).1; simp only; omega)))
  refine hK.out _ _ (.inl rfl) (fun hHeld => ?_)
  clear hK K
  try simp only [Act.put, zq1, zq2, zq3, zq4, zq5, zq6]
  refine wpAnyU_done (by kernel_rfl) ?_ _
  refine OnlyN.normal ?_
  clear A0 A1 A2 A3 A4 AB AS HW1 hHeld hx i1 i2
  generalize (W1.setCell ⟨w.heap.size + 4, k, none⟩ (.int .u8 ((y.toNat ^^^ b.toNat : Nat) : Int))).drew = W2 at B0 B1 B2 B3 B4 BB BS HW2 ⊢
  have HTL := Lib.hid (show (turnL (D.lasts n) k b).length = 512 by rw [turnL_length, LL.out])
  clear fz cz
  gi_wp2_with fail
  refine wpIn_region_out (S := fun w' => w'.cell? ⟨w.heap.size, 0, none⟩ = some (.pointer (some ⟨p, 0, none⟩)) ∧ w'.cell? ⟨p, 1, none⟩ = some (.map (some pl.m)) ∧ w'.cell? ⟨w.heap.size + 1, 0, none⟩ = some (.int .i64 (n : Int)) ∧ w'.rangeAt (w.heap.size + 4) 0 (bv (turnL (D.lasts n) k b))) (by kernel_rfl) ⟨(B0.out.cell 0).trans rfl, HW2.out.c1, (B1.out.cell 0).trans rfl, B4.out.rangeAt⟩ (fun hHeld => ?_)
  refine wpAnyH_take (i := 0) (v := ?v13) rfl (by kernel_rfl) (by kernel_rfl) (by kernel_rfl) (fun _ _ _ h => h) (Or.inl ⟨by rfl, ?hy13⟩) hHeld ?rest13
  case hy13 =>
    intro w' hSw
    try dsimp only at hSw
    go_simp
    first | done | with_reducible rfl
  try simp only [Act.put, zq1, zq3, zq4, zq5, zq6]
  refine wpAnyH_take (i := 1) (v := ?v14) rfl (by kernel_rfl) (by kernel_rfl) (by kernel_rfl) (fun _ _ _ h => h) (Or.inl ⟨by rfl, ?hy14⟩) hHeld ?rest14
  case hy14 =>
    intro w' hSw
    try dsimp only at hSw
    go_simp
    first | done | with_reducible rfl
  try simp only [Act.put, zq1, zq2, zq3, zq4, zq5, zq6]
  refine wpAnyH_take (i := 2) (v := ?v15) rfl (by kernel_rfl) (by kernel_rfl) (by kernel_rfl) (fun _ _ _ h => h) (Or.inl ⟨by rfl, ?hy15⟩) hHeld ?rest15
  case hy15 =>
    intro w' hSw
    try dsimp only at hSw
    go_simp
    first | done | with_reducible rfl
  try simp only [Act.put, zq1, zq2, zq3, zq4, zq5, zq6]
  refine wpAnyH_take (i := 3) (v := ?v16) rfl (by kernel_rfl) (by kernel_rfl) (by kernel_rfl) (fun _ _ _ h => h) (Or.inl ⟨by rfl, ?hy16⟩) hHeld ?rest16
  case hy16 =>
    intro w' hSw
    try dsimp only at hSw
    go_simp
    first | done | with_reducible rfl
  try simp only [Act.put, zq1, zq2, zq3, zq4, zq5, zq6]
  refine wpAnyH_take (i := 4) (v := ?v17) rfl (by kernel_rfl) (by kernel_rfl) (by kernel_rfl) (fun _ _ _ h => h) (Or.inl ⟨by rfl, ?hy17⟩) hHeld ?rest17
  case hy17 =>
    intro w' hSw
    try dsimp only at hSw
    go_simp
    first | done | with_reducible rfl
  try simp only [Act.put, zq1, zq2, zq3, zq4, zq5, zq6]
  refine wpAnyH_take (i := 5) rfl (by kernel_rfl) (by kernel_rfl) (by kernel_rfl) (fun _ _ _ h => h) (yieldsIf_load_mid (by rfl) 56 _ (by rfl) (w.heap.size + 4) 0 (by rfl) (bv (turnL (D.lasts n) k b)) _ (fun w' hSw => hSw.2.2.2) Try.underlying56 rfl (by rw [bv_length, HTL.out]; exact size47)) hHeld ?_
  try simp only [Act.put, zq1, zq2, zq3, zq4, zq5, zq6]
  refine wpAnyH_ready (rs := [6]) (by kernel_rfl) (by simp) ?_
  refine AllReadyH.cons (by rfl) (fun K hK => ?_) AllReadyH.nil
  obtain ⟨W3, hup, sm3, hg3, -⟩ := HW2.out.drew.map.update n (turnL (D.lasts n) k b)
  have FR3 := Lib.hid (show Fr (· = pl.m) W2 W3 from (fun (x : Fr (· = pl.m) W2.drew W3) => ⟨x.os, x.tape, x.output, x.size, x.block⟩) (Fr.of_grown hg3 (fun i e => by injection e with e; exact e.symm)))
  have HW3 := Lib.hid (HW2.out.turned (L := upL D.lasts n (turnL (D.lasts n) k b)) FR3.out sm3 (fun j => by unfold upL; split; exact HTL.out; exact HW2.out.lens j))
  have NM := Lib.hid (show ∀ j, w.heap.size ≤ j → j ≠ pl.m from fun j hj e => by have := H.out.map.lt; omega)
  have C0 := Lib.hid (FR3.out.keepBlk B0.out (NM.out _ (Nat.le_refl _)))
  have C1 := Lib.hid (FR3.out.keepBlk B1.out (NM.out _ (by omega)))
  have C2 := Lib.hid (FR3.out.keepBlk B2.out (NM.out _ (by omega)))
  have C3 := Lib.hid (FR3.out.keepBlk B3.out (NM.out _ (by omega)))
  have C4 := Lib.hid (FR3.out.keepBlk B4.out (NM.out _ (by omega)))
  clear sm3 hg3
  go_simp
  clear hup
  refine hK.out _ _ ⟨(C0.out.cell 0).trans rfl, HW3.out.c1, (C1.out.cell 0).trans rfl, C4.out.rangeAt⟩ (fun hHeld => ?_)
  clear hK K
  try simp only [Act.put, zq1, zq2, zq3, zq4, zq5, zq6]
  refine wpAnyH_done (by kernel_rfl) ?_ _
  refine OnlyN.normal ?_
  have FR4 := Lib.hid (show Fr (pl.has p) w W3 from (Fr.of_below BB.out).then_ FR3.out (fun i _ e => .inr (.inl e)))
  clear B0 B1 B2 B3 B4 BB HW2 hHeld C4
  have S4 := Lib.hid (show w.heap.size + 5 ≤ W3.heap.size by have := FR3.out.size; have := BS.out; omega)
  clear FR3 BS
  have c0 := (C0.out.cell 0).trans (show _ = some (.pointer (some ⟨p, 0, none⟩)) from rfl)
  gi_wp2_with fail
  clear c0
  refine ((callsIn_wide (n := 3)).2 (waiting_any _ _)).mono ?_
  rintro e w' ⟨rfl, rfl⟩
  have B7 := Lib.hid (Blk.new W3 30 #[.pointer (some ⟨p, 0, none⟩)])
  have HD := Lib.hid (HW3.out.alloc (.cells #[.pointer (some ⟨p, 0, none⟩)] 30))
  have D0 := Lib.hid (C0.out.alloc (.cells #[.pointer (some ⟨p, 0, none⟩)] 30))
  have D1 := Lib.hid (C1.out.alloc (.cells #[.pointer (some ⟨p, 0, none⟩)] 30))
  have D2 := Lib.hid (C2.out.alloc (.cells #[.pointer (some ⟨p, 0, none⟩)] 30))
  have D3 := Lib.hid (C3.out.alloc (.cells #[.pointer (some ⟨p, 0, none⟩)] 30))
  have FR := Lib.hid (FR4.out.alloc (.cells #[.pointer (some ⟨p, 0, none⟩)] 30))
  have S5 := Lib.hid (show w.heap.size + 5 ≤ (W3.alloc (.cells #[.pointer (some ⟨p, 0, none⟩)] 30)).heap.size by have := S4.out; simp; omega)
  generalize W3.alloc (.cells #[.pointer (some ⟨p, 0, none⟩)] 30) = W0 at B7 HD D0 D1 D2 D3 FR S5 ⊢
  clear HW3 C0 C1 C2 C3 FR4 S4
  gi_wp2_with fail
  obtain ⟨E, hE⟩ : ∃ E : Dk, E = { D with lasts := upL D.lasts n (turnL (D.lasts n) k b) } := ⟨_, rfl⟩
  have EW := Lib.hid (show E.waits = D.waits by rw [hE])
  have EE := Lib.hid (show { E with waits := D.waits.map (turnW n k b) } = D.spoilt n k b by rw [hE]; rfl)
  rw [← hE] at HD
  clear hE
  obtain ⟨A, cap, hwv⟩ := own_shape HD.out.row
  have HAS := Lib.hid (show ∀ j, pl.has p j → j < W0.heap.size from fun j hj => (HD.out.lt j hj).1)
  have NN := Lib.hid (show ∀ j, w.heap.size ≤ j → ¬ pl.has p j from fun j hj => H.out.not_new hj)
  refine range_waiting_w HD.out (by rw [EW.out]; exact HNN.out) hwv rfl ((B7.out.cell 0).trans rfl) rfl (by omega)
    (fun xs W => DiskAt W base p pl { E with waits := turnAll n k b E.waits (xs.map (·.i)) } ∧ Fr (pl.has p) W0 W)
    ((own_disk HAS.out).and (own_fr (Nat.le_refl _)))
    ⟨HD.out, Fr.refl _ _⟩
    (fun x b' => { tmps := #[.pointer (some ⟨p, 0, none⟩), .int .i64 (n : Int), .int .i64 (k : Int), .int .u8 (b.toNat : Int), .pointer (some ⟨w.heap.size, 0, none⟩), .pointer (some ⟨w.heap.size + 1, 0, none⟩), .pointer (some ⟨w.heap.size + 1 + 1, 0, none⟩), .pointer (some ⟨w.heap.size + 1 + 1 + 1, 0, none⟩), .int .i64 0, .int .i64 0, .pointer (some ⟨w.heap.size + 4, 0, none⟩), .int .i64 (x.i : Int), .pointer (some ⟨b', 0, none⟩), .pointer (some ⟨p, 0, none⟩), .int .i64 (n : Int), .int .i64 0, .int .i64 0, .bool false, undef, .int .i64 (k : Int), .bool false, .bool false, .int .i64 (k : Int), .bool false, .bool false, .pointer (some ⟨p, 0, none⟩), .pointer (some ⟨p, 0, none⟩), .pointer (some ⟨p, 1, none⟩), .map (some pl.m), .int .i64 (n : Int), sec (D.lasts n), .int .i64 (k : Int), .pointer (some ⟨w.heap.size + 4, k, none⟩), .int .u8 (y.toNat : Int), .int .u8 (b.toNat : Int), .int .u8 ((y.toNat ^^^ b.toNat : Nat) : Int), .pointer (some ⟨w.heap.size + 4, k, none⟩), .pointer (some ⟨p, 0, none⟩), .pointer (some ⟨p, 0, none⟩), .pointer (some ⟨p, 1, none⟩), .map (some pl.m), .int .i64 (n : Int), .agg (bv (turnL (D.lasts n) k b)).toArray, .pointer (some ⟨p, 0, none⟩), .func (.func 63) #[] #[.pointer (some ⟨W3.heap.size, 0, none⟩)], .int .i64 (x.i : Int), wv x.x, undef, undef, undef, undef, undef, undef, undef, undef, undef, undef, undef, undef, undef, undef, undef, undef, undef, undef, undef], defers := [] })
    ?assign ?body (fun pre W h => h.2.size) ?done
  case assign =>
    intro l x W K hK
    have hxz : x.x.2.length = zs.length := by rw [x.len, zs_length]
    have hwl : (wc x.x).length = 513 := wc_length x.x x.len
    have HKK := Lib.hid hK
    clear hK
    gi_wp2
    exact HKK.out
  case body =>
    rintro l pre x b' W _ ⟨i1, i2⟩ hb hbw
    have FW := Lib.hid i2
    have DW' := Lib.hid i1
    have E0 := Lib.hid (i2.keepBlk D0.out (NN.out _ (Nat.le_refl _)))
    have E1 := Lib.hid (i2.keepBlk D1.out (NN.out _ (by omega)))
    have E2 := Lib.hid (i2.keepBlk D2.out (NN.out _ (by omega)))
    have E3 := Lib.hid (i2.keepBlk D3.out (NN.out _ (by omega)))
    have hc0 : W.cell? ⟨b', 0, none⟩ = some (.int .i64 (x.x.1 : Int)) := (hbw.cell 0).trans rfl
    have hcn := (E1.out.cell 0).trans (show _ = some (.int .i64 (n : Int)) from rfl)
    have MS := Lib.hid (show turnAll n k b E.waits ((pre ++ [x]).map (·.i)) = turnAt n k b (turnAll n k b E.waits (pre.map (·.i))) x.i by rw [List.map_append]; exact turnAll_snoc _ _)
    obtain ⟨z, hz1, hz2⟩ := x.fits
    obtain ⟨x', hx1, hx2⟩ := turnAll_get (n := n) (k := k) (b := b) (pre.map (·.i)) E.waits hz1
    have HX1 := Lib.hid hx1
    have HX2 := Lib.hid (hx2.trans hz2.symm)
    have XL := Lib.hid (show x.i < E.waits.length from x.lt)
    clear i1 i2 hb hbw hz1 hz2 hx1 hx2
    by_cases hxk : x.x.1 = n
    · have hbe : ((x.x.1 : Int) == (n : Int)) = true := beq_iff_eq.2 (by omega)
      obtain ⟨y', hy'⟩ : ∃ y', x'.2[k]? = some y' := ⟨_, List.getElem?_eq_getElem (by rw [(DW'.out.wlens x' (List.mem_of_getElem? HX1.out)).1]; exact HK.out)⟩
      obtain ⟨g, rfl, hg, cg, fg, dg⟩ := DW'.out.turn (n := n) (k := k) (b := b) (by rw [turnAll_length]; exact hwv) HK.out HX1.out (HX2.out.trans hxk) hy'
      have HG := Lib.hid hg
      have CG := Lib.hid cg
      have FG := Lib.hid fg
      have DG := Lib.hid dg
      have C2' := Lib.hid (show W.cell? ⟨p, 2, none⟩ = some (.slice (some ⟨g, 0, none⟩) E.waits.length cap) from DW'.out.c2.trans (congrArg some hwv))
      have j1 : (0 : Int) ≤ (x.i : Int) := by omega
      have j2 : (x.i : Int) < (E.waits.length : Int) := by have := XL.out; omega
      have i1 : (0 : Int) ≤ (k : Int) := by omega
      have i2 : (k : Int) < 512 := by have := HK.out; omega
      have hx := xor_u8 y' b
      clear hg cg fg dg hy' hxk
      gi_wp2_with fail
      refine wpIn_region_U_round (S := fun w' => w'.cell? ⟨w.heap.size, 0, none⟩ = some (.pointer (some ⟨p, 0, none⟩)) ∧ w'.cell? ⟨p, 2, none⟩ = some (.slice (some ⟨g, 0, none⟩) E.waits.length cap) ∧ w'.cell? ⟨w.heap.size + 1 + 1, 0, none⟩ = some (.int .i64 (k : Int)) ∧ w'.cell? ⟨w.heap.size + 1 + 1 + 1, 0, none⟩ = some (.int .u8 (b.toNat : Int)) ∧ w'.cell? ⟨g, x.i * 513 + 1 + k, none⟩ = some (.int .u8 (y'.toNat : Int)) ∧ w'.frozen? ⟨g, x.i * 513 + 1 + k, none⟩ = false) 15 (by kernel_rfl) (noDefer (by kernel_rfl)) ⟨(E0.out.cell 0).trans rfl, C2'.out, (E2.out.cell 0).trans rfl, (E3.out.cell 0).trans rfl, CG.out, FG.out⟩ (fun hHeld => ?_)
      refine wpAnyU_take (i := 0) (v := ?v18) rfl (by kernel_rfl) (by kernel_rfl) (by kernel_rfl) (by kernel_rfl) (fun _ _ _ h => h) (Or.inl ⟨by rfl, ?hy18⟩) hHeld ?rest18
      case hy18 =>
        intro w' hSw
        try dsimp only at hSw
        go_simp
        first | done | with_reducible rfl
      try simp only [Act.put, zq1, zq3, zq4, zq5, zq6]
      refine wpAnyU_take (i := 1) (v := ?v19) rfl (by kernel_rfl) (by kernel_rfl) (by kernel_rfl) (by kernel_rfl) (fun _ _ _ h => h) (Or.inl ⟨by rfl, ?hy19⟩) hHeld ?rest19
      case hy19 =>
        intro w' hSw
        try dsimp only at hSw
        go_simp
        first | done | with_reducible rfl
      try simp only [Act.put, zq1, zq2, zq3, zq4, zq5, zq6]
      refine wpAnyU_take (i := 2) (v := ?v20) rfl (by kernel_rfl) (by kernel_rfl) (by kernel_rfl) (by kernel_rfl) (fun _ _ _ h => h) (Or.inl ⟨by rfl, ?hy20⟩) hHeld ?rest20
      case hy20 =>
        intro w' hSw
        try dsimp only at hSw
        go_simp
        first | done | with_reducible rfl
      try simp only [Act.put, zq1, zq2, zq3, zq4, zq5, zq6]
      refine wpAnyU_take (i := 3) (v := ?v21) rfl (by kernel_rfl) (by kernel_rfl) (by kernel_rfl) (by kernel_rfl) (fun _ _ _ h => h) (Or.inl ⟨by rfl, ?hy21⟩) hHeld ?rest21
      case hy21 =>
        intro w' hSw
        try dsimp only at hSw
        go_simp
        first | done | with_reducible rfl
      try simp only [Act.put, zq1, zq2, zq3, zq4, zq5, zq6]
      refine wpAnyU_take (i := 4) (v := ?v22) rfl (by kernel_rfl) (by kernel_rfl) (by kernel_rfl) (by kernel_rfl) (fun _ _ _ h => h) (Or.inl ⟨by rfl, ?hy22⟩) hHeld ?rest22
      case hy22 =>
        intro w' hSw
        try dsimp only at hSw
        go_simp
        first | done | with_reducible rfl
      try simp only [Act.put, zq1, zq2, zq3, zq4, zq5, zq6]
      refine wpAnyU_take (i := 5) (v := ?v23) rfl (by kernel_rfl) (by kernel_rfl) (by kernel_rfl) (by kernel_rfl) (fun _ _ _ h => h) (Or.inl ⟨by rfl, ?hy23⟩) hHeld ?rest23
      case hy23 =>
        intro w' hSw
        try dsimp only at hSw
        go_simp
        first | done | with_reducible rfl
      try simp only [Act.put, zq1, zq2, zq3, zq4, zq5, zq6]
      refine wpAnyU_take (i := 6) (v := ?v24) rfl (by kernel_rfl) (by kernel_rfl) (by kernel_rfl) (by kernel_rfl) (fun _ _ _ h => h) (Or.inl ⟨by rfl, ?hy24⟩) hHeld ?rest24
      case hy24 =>
        intro w' hSw
        try dsimp only at hSw
        go_simp
        first | done | with_reducible rfl
      try simp only [Act.put, zq1, zq2, zq3, zq4, zq5, zq6]
      refine wpAnyU_take (i := 7) (v := ?v25) rfl (by kernel_rfl) (by kernel_rfl) (by kernel_rfl) (by kernel_rfl) (fun _ _ _ h => h) (Or.inl ⟨by rfl, ?hy25⟩) hHeld ?rest25
      case hy25 =>
        intro w' hSw
        try dsimp only at hSw
        go_simp
        first | done | with_reducible rfl
      try simp only [Act.put, zq1, zq2, zq3, zq4, zq5, zq6]
      refine wpAnyU_take (i := 8) (v := ?v26) rfl (by kernel_rfl) (by kernel_rfl) (by kernel_rfl) (by kernel_rfl) (fun _ _ _ h => h) (Or.inl ⟨by rfl, ?hy26⟩) hHeld ?rest26
      case hy26 =>
        intro w' hSw
        try dsimp only at hSw
        go_simp
        first | done | with_reducible rfl
      try simp only [Act.put, zq1, zq2, zq3, zq4, zq5, zq6]
      refine wpAnyU_take (i := 9) (v := ?v27) rfl (by kernel_rfl) (by kernel_rfl) (by kernel_rfl) (by kernel_rfl) (fun _ _ _ h => h) (Or.inl ⟨by rfl, ?hy27⟩) hHeld ?rest27
      case hy27 =>
        intro w' hSw
        try dsimp only at hSw
        go_simp
        first | done | with_reducible rfl
      try simp only [Act.put, zq1, zq2, zq3, zq4, zq5, zq6]
      refine wpAnyU_take (i := 10) (v := ?v28) rfl (by kernel_rfl) (by kernel_rfl) (by kernel_rfl) (by kernel_rfl) (fun _ _ _ h => h) (Or.inl ⟨by rfl, ?hy28⟩) hHeld ?rest28
      case hy28 =>
        intro w' hSw
        try dsimp only at hSw
        go_simp
        first | done | with_reducible rfl
      try simp only [Act.put, zq1, zq2, zq3, zq4, zq5, zq6]
      refine wpAnyU_take (i := 11) (v := ?v29) rfl (by kernel_rfl) (by kernel_rfl) (by kernel_rfl) (by kernel_rfl) (fun _ _ _ h => h) (Or.inl ⟨by rfl, ?hy29⟩) hHeld ?rest29
      case hy29 =>
        intro w' hSw
        try dsimp only at hSw
        go_simp
        first | done | with_reducible rfl
      try simp only [Act.put, zq1, zq2, zq3, zq4, zq5, zq6]
      refine wpAnyU_takeP [13, 14] (i := 12) (v := ?v30) rfl (by kernel_rfl) (by kernel_rfl) (by kernel_rfl) (by kernel_rfl) (fun _ _ _ h => h) (Or.inl ⟨by rfl, ?hy30⟩) hHeld ?rest30
      case hy30 =>
        intro w' hSw
        try dsimp only at hSw
        go_simp
        first | done | with_reducible rfl
      try simp only [Act.put, zq1, zq2, zq3, zq4, zq5, zq6]
      refine wpAnyU_takeP [14] (i := 13) (v := ?v31) rfl (by kernel_rfl) (by kernel_rfl) (by kernel_rfl) (by kernel_rfl) (fun _ _ _ h => h) (Or.inl ⟨by rfl, ?hy31⟩) hHeld ?rest31
      case hy31 =>
        intro w' hSw
        try dsimp only at hSw
        go_simp
        first | done | with_reducible rfl
      try simp only [Act.put, zq1, zq2, zq3, zq4, zq5, zq6]
      refine wpAnyU_take (i := 14) (v := ?v32) rfl (by kernel_rfl) (by kernel_rfl) (by kernel_rfl) (by kernel_rfl) (fun _ _ _ h => h) (Or.inl ⟨by rfl, ?hy32⟩) hHeld ?rest32
      case hy32 =>
        intro w' hSw
        try dsimp only at hSw
        go_simp
        first | done | with_reducible rfl
      try simp only [Act.put, zq1, zq2, zq3, zq4, zq5, zq6]
      refine wpAnyU_one (i := 15) (by kernel_rfl) (by rfl) (fun K hK => ?_)
      have fz := hHeld.2.2.2.2.2
      have cz := hHeld.2.2.2.2.1
      go_simp
      have FT := Lib.hid (show Fr (pl.has p) W (W.setCell ⟨g, x.i * 513 + 1 + k, none⟩ (.int .u8 ((y'.toNat ^^^ b.toNat : Nat) : Int))).drew from (((Fr.refl (pl.has p) W).setCell (fun _ => HG.out) _).drew))
      have DT' := Lib.hid (show DiskAt (W.setCell ⟨g, x.i * 513 + 1 + k, none⟩ (.int .u8 ((y'.toNat ^^^ b.toNat : Nat) : Int))).drew base p pl { E with waits := turnAt n k b (turnAll n k b E.waits (pre.map (·.i))) x.i } from by rw [← UInt8.toNat_xor]; exact DG.out.drew)
      generalize (W.setCell ⟨g, x.i * 513 + 1 + k, none⟩ (.int .u8 ((y'.toNat ^^^ b.toNat : Nat) : Int))).drew = W' at FT DT' ⊢
      refine hK.out _ _ (.inl rfl) (fun hHeld => ?_)
      clear hK K
      try simp only [Act.put, zq1, zq2, zq3, zq4, zq5, zq6]
      refine wpAnyU_done (by kernel_rfl) ?_ _
      refine OnlyN.normal ?_
      clear hHeld
      refine ⟨rfl, keepsFrom_has FT.out HAS.out, KE.of_turned (base := base) (p := p) (n := n) (k := k) (b := b) hwv (is := (pre ++ [x]).map (·.i)) ?_, ?_, FW.out.trans FT.out⟩
      · rw [MS.out]
        exact DT'.out
      · rw [MS.out]
        exact DT'.out

    · have hbe : ((x.x.1 : Int) == (n : Int)) = false := beq_eq_false_iff_ne.2 (by omega)
      have ME := Lib.hid (show turnAt n k b (turnAll n k b E.waits (pre.map (·.i))) x.i = turnAll n k b E.waits (pre.map (·.i)) from turnAt_no _ (fun y hy e => by rw [HX1.out] at hy; injection hy with hy; subst hy; exact hxk (HX2.out.symm.trans e)))
      clear hxk
      gi_wp2
      refine ⟨KeepsFrom.refl _ _, fun i _ he => he, ?_, FW.out⟩
      rw [turnAll_snoc, ME.out]
      exact DW'.out
  case done =>
    rintro B xs W hB hxs ⟨i1, i2⟩ hD
    rw [hxs, turnAll_all, EW.out] at i1
    have I1 := Lib.hid (EE.out ▸ i1)
    have I2 := Lib.hid i2
    have HDB := Lib.hid hD
    have BB := Lib.hid hB
    clear i1 i2 hD hB hxs
    gi_wp2
    refine ⟨by simp, .inl ⟨_, _, rfl, run_takeDeferred HDB.out, ?_⟩⟩
    refine ⟨_, results_tmp rfl _ _ _, rfl, I1.out.putObj (NN.out _ (Nat.le_trans (by have := S5.out; omega) BB.out)) _, ?_⟩
    exact (FR.out.trans I2.out).putObj (Nat.le_trans (by have := S5.out; omega) BB.out) _
end Go.Proofs.Ytjfcmoappbfnjaa
namespace Go.Proofs.Ytjfcmoappbfnjaa
open List renaming getElem_toArray → zq1, getElem_cons_succ → zq2, getElem_cons_zero → zq3, setIfInBounds_toArray → zq4, set_cons_zero → zq5, set_cons_succ → zq6
open Go.RowKit Go.Shelf
end Go.Proofs.Ytjfcmoappbfnjaa
namespace Go.Proofs.Ytjfcmoappbfnjaa
open List renaming getElem_toArray → zq1, getElem_cons_succ → zq2, getElem_cons_zero → zq3, setIfInBounds_toArray → zq4, set_cons_zero → zq5, set_cons_succ → zq6
open Go.RowKit
/-- the string of bytes -/
def st (l : List UInt8) : ByteArray := ⟨l.toArray⟩
set_option maxRecDepth 8000 in
theorem st_toList (a : List UInt8) : (st a).toList = a := by
  unfold st
  simp
set_option maxRecDepth 8000 in
theorem run_str {P : Program} (w : World) {src dst e : TypeId} (hs : P.underlying src = some (.slice e)) (he : P.underlying e = some (.int .u8)) (hd : P.underlying dst = some .string)
    {A : Option Addr} {n c : Nat} {l : List UInt8} (hn : l.length = n) (hr : Rd w A l) : (convert src dst (.slice A n c)).run P w = .ok (.string (st l)) w := by
  cases A with
  | none =>
    have hl : l = [] := by
      cases l with
      | nil => rfl
      | cons x l =>
        obtain ⟨b, off, h, _⟩ := hr 0 (by simp)
        cases h
    subst hl
    exact run_convert_bytes_nil w src e hs he n c dst hd
  | some ad =>
    cases l with
    | nil =>
      simp only [List.length_nil] at hn
      subst hn
      rw [run_convert_bytes_string w src dst e _ 0 c hs he hd, run_bytesToString w ad 0 c [] (by simp [loadCells, loadCellsFrom])]
      rfl
    | cons x l =>
      obtain ⟨b, off, h, _⟩ := hr 0 (by simp)
      injection h with h
      subst h
      have := run_convert_bytes_arg w src e hs he b off n c ((x :: l).map fun y => (y.toNat : Int)) (by rw [List.length_map]; exact hn) (fun i hi => by
        obtain ⟨b', off', h', hc⟩ := hr i (by omega)
        injection h' with h'
        injection h' with h1 h2
        subst h1; subst h2
        rw [hc, List.getD_eq_getElem?_getD, List.getElem?_map, List.getElem?_eq_getElem (by omega)]
        rfl) dst hd
      rw [this]
      congr 2
      unfold strOfNums st
      rw [List.map_map]
      congr 2
      have : ∀ y : UInt8, ((fun n : Int => UInt8.ofNat n.toNat) ∘ fun y : UInt8 => (y.toNat : Int)) y = y := by intro y; simp
      rw [funext this]
      simp
end Go.Proofs.Ytjfcmoappbfnjaa
namespace Go.Proofs.Ytjfcmoappbfnjaa
open List renaming getElem_toArray → zq1, getElem_cons_succ → zq2, getElem_cons_zero → zq3, setIfInBounds_toArray → zq4, set_cons_zero → zq5, set_cons_succ → zq6
open Go.RowKit
set_option maxRecDepth 8000 in
theorem take_snoc {α : Type} (l : List α) (k : Nat) (h : k < l.length) : l.take (k + 1) = l.take k ++ [l[k]] := by
  rw [List.take_succ_eq_append_getElem h]
set_option maxRecDepth 8000 in
theorem own_below {w w' : World} {base n : Nat} {e : TypeId} {v : Value} {xs : List Value} (h : w.ownsRow base e 1 v n xs) (hb : Below w.heap.size w w') : w'.ownsRow base e 1 v n xs := by
  refine h.kept (row := none) ⟨hb.os, hb.tape, hb.output, hb.size, fun k hk _ => hb.block k hk⟩ ?_
  cases hv : v.ownBlock with
  | none => exact .inl rfl
  | some k => exact .inr (by simp)
set_option maxRecDepth 8000 in
theorem own_cap {w : World} {base n cap : Nat} {e : TypeId} {C : Option Addr} {xs : List Value} (h : w.ownsRow base e 1 (.slice C n cap) n xs) : n ≤ cap := by
  rcases h.2 with ⟨h', h0⟩ | ⟨g, cap', cur, h', _, _, h1, _⟩
  · omega
  · injection h' with _ _ h'
    omega
end Go.Proofs.Ytjfcmoappbfnjaa

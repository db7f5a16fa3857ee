/- the document's answer for layer 2: laid. -/
import Derived.Test.YtgjamgojjajcnaaQ12
import Derived.Test.YtgjamgojjajcnaaQ11
import Derived.Test.YtgjamgojjajcnaaQ08
import Derived.Test.YtgjamgojjajcnaaQ15
import Derived.Test.YtgjamgojjajcnaaQ09
import Derived.Test.YtgjamgojjajcnaaQ05
namespace Go.Proofs.Ytgjamgojjajcnaa
open Go.RowKit
attribute [local go_sem] Oper.semAt_some
/-- lasting bytes with the first k bytes of a sector's others -/
def laidF (l : List UInt8) (x : Nat × List UInt8) (k : Nat) : List UInt8 := splice l (512 * x.1) (x.2.take k)
set_option maxRecDepth 8000 in
theorem laidF_length (l : List UInt8) (x : Nat × List UInt8) (k : Nat) (h : 512 * x.1 + k ≤ l.length) (hx : x.2.length = 512) (hk : k ≤ 512) : (laidF l x k).length = l.length := by
  unfold laidF splice
  simp [List.length_take, hx]
  omega
set_option maxRecDepth 8000 in
theorem laidF_zero (l : List UInt8) (x : Nat × List UInt8) : laidF l x 0 = l := by
  simp [laidF, splice]
set_option maxRecDepth 8000 in
theorem laidF_set (l : List UInt8) (x : Nat × List UInt8) (k : Nat) (h : 512 * x.1 + (k + 1) ≤ l.length) (hk : k < x.2.length) :
    (bv (laidF l x k)).set (512 * x.1 + k) (.int .u8 ((x.2[k]).toNat : Int)) = bv (laidF l x (k + 1)) := by
  have e : (laidF l x k).set (512 * x.1 + k) x.2[k] = laidF l x (k + 1) := by
    have hx : (x.2.take (k + 1)) = x.2.take k ++ [x.2[k]] := by rw [List.take_add_one, List.getElem?_eq_getElem hk]; rfl
    have ht : (x.2.take k).length = k := by rw [List.length_take]; omega
    unfold laidF splice
    rw [hx, List.length_append, ht, List.set_append_right _ _ (by simp; omega)]
    have hd : (l.drop (512 * x.1 + k)) = l[512 * x.1 + k]'(by omega) :: l.drop (512 * x.1 + (k + 1)) := List.drop_eq_getElem_cons (by omega)
    have hl0 : (l.take (512 * x.1)).length = 512 * x.1 := by rw [List.length_take]; omega
    rw [hl0, Nat.add_sub_cancel_left, List.set_append_right _ _ (by omega), ht, Nat.sub_self, hd, List.set_cons_zero]
    simp only [List.append_assoc, List.cons_append, List.nil_append, List.length_cons, List.length_nil, Nat.zero_add]
  rw [← e]
  simp [bv, List.map_set]
set_option maxRecDepth 100000 in
set_option maxHeartbeats 1600000 in
theorem laid_any (w : World) (A : Option Addr) (c : Nat) (l : List UInt8) (x : Nat × List UInt8) (k : Nat) (hr : Rd w A l) (h0 : 0 < l.length) (hl : l.length ≤ 3000000) (hx : x.2.length = 512) (hk : k ≤ 512) (hf : k = 0 ∨ 512 * x.1 + 512 ≤ l.length) :
    Calls Try.prog 59 #[.slice A l.length c, wv x, .int .i64 (k : Int)] w fun e w' => ∃ v, e = .returned v ∧ w'.ownsRow w.heap.size 5 1 v l.length (bv (laidF l x k)) ∧ Below w.heap.size w w' := by
  have HR := Lib.hid hr
  have HX := Lib.hid hx
  have HF := Lib.hid hf
  clear hr hx hf
  go_enter Try.func59, Try.ntmps59
  have P4 := Lib.hid (Blk.new w 94 (wc x).toArray)
  have LW := Lib.hid ((Below.refl w.heap.size w).alloc (Nat.le_refl _) (.cells (wc x).toArray 94))
  have SW := Lib.hid (show (w.alloc (.cells (wc x).toArray 94)).heap.size = w.heap.size + 1 by simp)
  obtain ⟨W0, hW0⟩ : ∃ W0, W0 = w.alloc (.cells (wc x).toArray 94) := ⟨_, rfl⟩
  have HW0 := Lib.hid hW0
  rw [← hW0] at P4 LW SW
  have HRl := Lib.hid ((HR.out.below LW.out).below (below_lit0 W0))
  have s0 := SW.out
  clear hW0
  go_wp2_with (at_builtin; rw [← HW0.out]; refine wpList_append_bytes _ rfl (.tmp 9) (.tmp 10) _ rfl Try.underlying22 infoU8 (by rw [← s0]; rfl) (lit0 W0) rfl HRl.out rfl (by omega) (by simp) ?_; intro v1 w1 hown1 hg1 hat1; simp only [Nat.zero_add, List.nil_append] at hown1; have HB1 := Lib.hid (below_append (below_lit0 W0) (lit0 W0) hg1 (Nat.le_refl _) (by simp)); obtain ⟨g, cap, rfl, hcap⟩ := own_some hown1 h0; have HO1 := Lib.hid hown1; clear hown1 hg1 hat1)
  have hgb := (HO1.out.lt g rfl).1
  have P41 := Lib.hid (P4.out.below HB1.out P4.out.lt)
  have B1 := Lib.hid (LW.out.trans (HB1.out.mono LW.out.size))
  have HGB := Lib.hid (show g ≠ w.heap.size ∧ w.heap.size ≤ g by have := SW.out; omega)
  clear HRl HR HW0 hgb s0
  go_loopw [8] (fun i wr => ∃ j : Nat, j ≤ k ∧ i = .int .i64 j ∧ wr.ownsRow W0.heap.size 5 1 (.slice (some ⟨g, 0, none⟩) l.length cap) l.length (bv (laidF l x j)) ∧ w1.grownBy wr (some g)) (fun i _ => k - (intOf i).toNat)
  case atStart => exact ⟨0, Nat.zero_le _, rfl, by rw [laidF_zero]; exact HO1.out, World.grownBy.refl _ _⟩
  case round =>
    obtain ⟨j, hj, rfl, hown, hgr⟩ := hrel
    by_cases hlt : j < k
    · have HFF := Lib.hid (show 512 * x.1 + 512 ≤ l.length by have := HF.out; omega)
      obtain ⟨M, hM⟩ : ∃ M, M = 512 * x.1 := ⟨_, rfl⟩
      obtain ⟨Q, hQ⟩ : ∃ Q, Q = M + j := ⟨_, rfl⟩
      have hjx : j < x.2.length := by rw [HX.out]; omega
      have hQl : Q < l.length := by have := HFF.out; omega
      have hc := hown.cellAt Q (by omega)
      have hf := hown.frozenAt Q
      have hbl : (bv (laidF l x j)).length = l.length := by rw [bv_length, laidF_length l x j (by have := HFF.out; omega) HX.out (by omega)]
      rw [List.getElem?_eq_getElem (by rw [hbl]; exact hQl)] at hc
      generalize (bv (laidF l x j))[Q]'(by rw [hbl]; exact hQl) = u0 at hc
      have HS := Lib.hid (hown.stored Q (.int .u8 ((x.2[j]).toNat : Int)))
      have HG := Lib.hid hgr
      have HSET := Lib.hid (laidF_set l x j (by have := HFF.out; omega) hjx)
      have P4r := Lib.hid (show Blk wr w.heap.size 94 (wc x).toArray from (hgr.block w.heap.size P41.out.lt (fun e => by injection e with e; exact HGB.out.1 e.symm)).trans P41.out)
      have e0 : (wc x).toArray[0]? = some (.int .i64 (x.1 : Int)) := rfl
      have e1 : (wc x).toArray[1 + j]? = some (.int .u8 ((x.2[j]).toNat : Int)) := by
        rw [List.getElem?_toArray, Nat.add_comm 1 j, wc, List.getElem?_cons_succ, bv_get, List.getElem?_eq_getElem hjx]
        rfl
      have E0 := Lib.hid e0
      have E1 := Lib.hid e1
      have wrM : IntKind.i64.wrap (512 * (x.1 : Int)) = (M : Int) := by rw [show 512 * (x.1 : Int) = (M : Int) by omega]; exact IntWalk.i64_in _ (by have := HFF.out; omega)
      have wrQ : IntKind.i64.wrap ((M : Int) + (j : Int)) = (Q : Int) := by rw [show (M : Int) + (j : Int) = (Q : Int) by omega]; exact IntWalk.i64_in _ (by omega)
      have b1 : (j : Int) < 512 := by omega
      have b0 : (0 : Int) ≤ (j : Int) := by omega
      have b2 : (Q : Int) < (l.length : Int) := by omega
      have b3 : (0 : Int) ≤ (Q : Int) := by omega
      have QE := Lib.hid (show 512 * x.1 + j = Q by omega)
      generalize x.2[j] = y at HS HSET e1 E1
      clear hM hQ hown hgr hbl e0 e1 hjx
      go_wp2_with fail
      refine wp_region_U (S := fun w' => w'.cell? ⟨w.heap.size, 0, none⟩ = some (.int .i64 (x.1 : Int)) ∧ w'.cell? ⟨w.heap.size, 1 + j, none⟩ = some (.int .u8 (y.toNat : Int))) 11 (by kernel_rfl) ⟨(Blk.cell P4r.out 0).trans E0.out, (Blk.cell P4r.out (1 + j)).trans E1.out⟩ (fun hHeld => ?_)
      refine wpAnyU_take (i := 0) (v := ?v1) rfl (by kernel_rfl) (by kernel_rfl) (by kernel_rfl) (by kernel_rfl) (fun _ _ _ h => h) (Or.inl ⟨by rfl, ?hy1⟩) hHeld ?rest1
      case hy1 =>
        intro w' hSw
        try dsimp only at hSw
        go_simp
        first | done | with_reducible rfl
      try simp only [Act.put, List.getElem_toArray, List.getElem_cons_zero, List.setIfInBounds_toArray, List.set_cons_zero, List.set_cons_succ]
      refine wpAnyU_take (i := 1) (v := ?v2) rfl (by kernel_rfl) (by kernel_rfl) (by kernel_rfl) (by kernel_rfl) (fun _ _ _ h => h) (Or.inl ⟨by rfl, ?hy2⟩) hHeld ?rest2
      case hy2 =>
        intro w' hSw
        try dsimp only at hSw
        go_simp
        first | done | with_reducible rfl
      try simp only [Act.put, List.getElem_toArray, List.getElem_cons_succ, List.getElem_cons_zero, List.setIfInBounds_toArray, List.set_cons_zero, List.set_cons_succ]
      refine wpAnyU_take (i := 2) (v := ?v3) rfl (by kernel_rfl) (by kernel_rfl) (by kernel_rfl) (by kernel_rfl) (fun _ _ _ h => h) (Or.inl ⟨by rfl, ?hy3⟩) hHeld ?rest3
      case hy3 =>
        intro w' hSw
        try dsimp only at hSw
        go_simp
        first | done | with_reducible rfl
      try simp only [Act.put, List.getElem_toArray, List.getElem_cons_succ, List.getElem_cons_zero, List.setIfInBounds_toArray, List.set_cons_zero, List.set_cons_succ]
      refine wpAnyU_take (i := 3) (v := ?v4) rfl (by kernel_rfl) (by kernel_rfl) (by kernel_rfl) (by kernel_rfl) (fun _ _ _ h => h) (Or.inl ⟨by rfl, ?hy4⟩) hHeld ?rest4
      case hy4 =>
        intro w' hSw
        try dsimp only at hSw
        go_simp
        first | done | with_reducible rfl
      try simp only [Act.put, List.getElem_toArray, List.getElem_cons_succ, List.getElem_cons_zero, List.setIfInBounds_toArray, List.set_cons_zero, List.set_cons_succ]
      refine wpAnyU_take (i := 4) (v := ?v5) rfl (by kernel_rfl) (by kernel_rfl) (by kernel_rfl) (by kernel_rfl) (fun _ _ _ h => h) (Or.inl ⟨by rfl, ?hy5⟩) hHeld ?rest5
      case hy5 =>
        intro w' hSw
        try dsimp only at hSw
        go_simp
        first | done | with_reducible rfl
      try simp only [Act.put, List.getElem_toArray, List.getElem_cons_succ, List.getElem_cons_zero, List.setIfInBounds_toArray, List.set_cons_zero, List.set_cons_succ]
      refine wpAnyU_take (i := 5) (v := ?v6) rfl (by kernel_rfl) (by kernel_rfl) (by kernel_rfl) (by kernel_rfl) (fun _ _ _ h => h) (Or.inl ⟨by rfl, ?hy6⟩) hHeld ?rest6
      case hy6 =>
        intro w' hSw
        try dsimp only at hSw
        go_simp
        first | done | with_reducible rfl
      try simp only [Act.put, List.getElem_toArray, List.getElem_cons_succ, List.getElem_cons_zero, List.setIfInBounds_toArray, List.set_cons_zero, List.set_cons_succ]
      refine wpAnyU_take (i := 6) (v := ?v7) rfl (by kernel_rfl) (by kernel_rfl) (by kernel_rfl) (by kernel_rfl) (fun _ _ _ h => h) (Or.inl ⟨by rfl, ?hy7⟩) hHeld ?rest7
      case hy7 =>
        intro w' hSw
        try dsimp only at hSw
        go_simp
        first | done | with_reducible rfl
      try simp only [Act.put, List.getElem_toArray, List.getElem_cons_succ, List.getElem_cons_zero, List.setIfInBounds_toArray, List.set_cons_zero, List.set_cons_succ]
      refine wpAnyU_take (i := 7) (v := ?v8) rfl (by kernel_rfl) (by kernel_rfl) (by kernel_rfl) (by kernel_rfl) (fun _ _ _ h => h) (Or.inl ⟨by rfl, ?hy8⟩) hHeld ?rest8
      case hy8 =>
        intro w' hSw
        try dsimp only at hSw
        go_simp
        first | done | with_reducible rfl
      try simp only [Act.put, List.getElem_toArray, List.getElem_cons_succ, List.getElem_cons_zero, List.setIfInBounds_toArray, List.set_cons_zero, List.set_cons_succ]
      refine wpAnyU_take (i := 8) (v := ?v9) rfl (by kernel_rfl) (by kernel_rfl) (by kernel_rfl) (by kernel_rfl) (fun _ _ _ h => h) (Or.inl ⟨by rfl, ?hy9⟩) hHeld ?rest9
      case hy9 =>
        intro w' hSw
        try dsimp only at hSw
        go_simp
        first | done | with_reducible rfl
      try simp only [Act.put, List.getElem_toArray, List.getElem_cons_succ, List.getElem_cons_zero, List.setIfInBounds_toArray, List.set_cons_zero, List.set_cons_succ]
      refine wpAnyU_take (i := 9) (v := ?v10) rfl (by kernel_rfl) (by kernel_rfl) (by kernel_rfl) (by kernel_rfl) (fun _ _ _ h => h) (Or.inl ⟨by rfl, ?hy10⟩) hHeld ?rest10
      case hy10 =>
        intro w' hSw
        try dsimp only at hSw
        go_simp
        first | done | with_reducible rfl
      try simp only [Act.put, List.getElem_toArray, List.getElem_cons_succ, List.getElem_cons_zero, List.setIfInBounds_toArray, List.set_cons_zero, List.set_cons_succ]
      refine wpAnyU_take (i := 10) (v := ?v11) rfl (by kernel_rfl) (by kernel_rfl) (by kernel_rfl) (by kernel_rfl) (fun _ _ _ h => h) (Or.inl ⟨by rfl, ?hy11⟩) hHeld ?rest11
      case hy11 =>
        intro w' hSw
        try dsimp only at hSw
        go_simp
        first | done | with_reducible rfl
      try simp only [Act.put, List.getElem_toArray, List.getElem_cons_succ, List.getElem_cons_zero, List.setIfInBounds_toArray, List.set_cons_zero, List.set_cons_succ]
      refine wpAnyU_one (i := 11) (by kernel_rfl) (by rfl) (fun K hK => ?_)
      go_simp
      refine hK.out _ _ (.inl rfl) (fun hHeld => ?_)
      clear hK K
      try simp only [Act.put, List.getElem_toArray, List.getElem_cons_succ, List.getElem_cons_zero, List.setIfInBounds_toArray, List.set_cons_zero, List.set_cons_succ]
      refine wpAnyU_done (by kernel_rfl) ?_ _
      refine OnlyN.normal ?_
      go_wp2
      go_roundw
      case rel =>
        have h1 := HS.out.1
        rw [← QE.out, HSET.out] at h1
        rw [← QE.out]
        exact ⟨j + 1, by omega, by go_num, h1, grow_trans HG.out (by rw [QE.out]; exact ⟨HS.out.2.os, HS.out.2.tape, HS.out.2.output, HS.out.2.size, HS.out.2.block⟩)⟩
      case measure => simp [intOf]; omega
    · have hjk : j = k := by omega
      subst hjk
      have HO := Lib.hid hown
      have HBr := Lib.hid (below_grow B1.out hgr HGB.out.2 B1.out.size)
      clear hown hgr
      go_wp2
      go_ret
      exact ⟨_, rfl, own_base HO.out (by have := SW.out; omega), HBr.out⟩
end Go.Proofs.Ytgjamgojjajcnaa
namespace Go.Proofs.Ytgjamgojjajcnaa
open Go.RowKit
attribute [local go_sem] Oper.semAt_some
attribute [local go_sem] run_store_bv run_store_wc
/-- the document's disk: what lasts, what waits, which steps fail -/
structure Rf where
  lb : List UInt8
  ws : List (Nat × List UInt8)
  fl : List Int
/-- writes that wait lie there -/
def RdW (w : World) (A : Option Addr) (ws : List (Nat × List UInt8)) : Prop := ∀ i x, ws[i]? = some x → ∃ b off, A = some ⟨b, off, none⟩ ∧ w.rangeAt b (off + i * 513) (wc x)
theorem RdW.below {w w' : World} {A : Option Addr} {ws : List (Nat × List UInt8)} (h : RdW w A ws) (hb : Below w.heap.size w w') : RdW w' A ws := fun i x hx => by
  obtain ⟨b, off, e, hc⟩ := h i x hx
  exact ⟨b, off, e, fun j v hv => (hb.cell (p := ⟨b, off + i * 513 + j, none⟩) (cell_lt (hc j v hv))).trans (hc j v hv)⟩
/-- it lies there, of z sectors -/
structure RefAt (w : World) (r : Rp) (R : Rf) (z : Nat) : Prop where
  n1 : r.n1 = z * 512
  l1 : R.lb.length = z * 512
  r1 : Rd w r.A1 R.lb
  n2 : r.n2 = R.ws.length
  r2 : RdW w r.A2 R.ws
  n3 : R.fl.length = r.n3
  r3 : RdI w r.A3 R.fl
  wl : ∀ x ∈ R.ws, x.2.length = 512 ∧ x.1 < z
  z1 : 1 ≤ z
  z2 : z ≤ 4096
  m2 : R.ws.length ≤ 100000
  m3 : r.n3 ≤ 1000
section
variable {w w' : World} {r : Rp} {R : Rf} {z : Nat}
theorem RefAt.below (h : RefAt w r R z) (hb : Below w.heap.size w w') : RefAt w' r R z := { h with r1 := h.r1.below hb, r2 := h.r2.below hb, r3 := h.r3.below hb }
theorem RefAt.alloc (h : RefAt w r R z) (o : Obj) : RefAt (w.alloc o) r R z := h.below ((Below.refl _ w).alloc (Nat.le_refl _) o)
theorem RefAt.drew (h : RefAt w r R z) : RefAt w.drew r R z := h.below (Below.drew (Below.refl _ w))
set_option maxRecDepth 100000 in
set_option maxHeartbeats 800000 in
theorem rsize_any (h : RefAt w r R z) (s : Nat) : Calls Try.prog 41 #[r.val s] w fun e w' => e = .returned (.int .i64 (z : Int)) ∧ Below w.heap.size w w' := by
  obtain ⟨A1, n1, c1, A2, n2, c2, A3, n3, c3⟩ := r
  have h1 := h.n1
  have h2 := h.z2
  simp only at h1
  subst h1
  have hd : (((z * 512 : Nat)) : Int).tdiv 512 = (z : Int) := by rw [Int.tdiv_eq_ediv_of_nonneg (by omega)]; omega
  have hd' : ((z : Int) * 512).tdiv 512 = (z : Int) := by rw [Int.tdiv_eq_ediv_of_nonneg (by omega)]; omega
  have hw : IntKind.i64.wrap (z : Int) = (z : Int) := IntWalk.i64_in _ (by omega)
  clear h
  go_enter Try.func41, Try.ntmps41
  go_wp2
  go_ret
  exact ⟨rfl, (Below.refl _ w).alloc (Nat.le_refl _) _⟩
/-- the first k bytes of a sector -/
def chK (lb : List UInt8) (n k : Nat) : List UInt8 := (chunk lb n).take k ++ List.replicate (512 - k) 0
set_option maxRecDepth 8000 in
theorem chK_length {lb : List UInt8} {n k : Nat} (hl : (chunk lb n).length = 512) (hk : k ≤ 512) : (chK lb n k).length = 512 := by simp [chK, hl]; omega
set_option maxRecDepth 8000 in
theorem chK_zero (lb : List UInt8) (n : Nat) : chK lb n 0 = zs := by simp [chK, zs]
set_option maxRecDepth 8000 in
theorem chK_all {lb : List UInt8} {n : Nat} (hl : (chunk lb n).length = 512) : chK lb n 512 = chunk lb n := by
  unfold chK
  rw [List.take_of_length_le (by omega)]
  simp
set_option maxRecDepth 8000 in
theorem chK_set {lb : List UInt8} {n k : Nat} (hl : (chunk lb n).length = 512) (hk : k < 512) (x : UInt8) (hx : (chunk lb n)[k]? = some x) : (chK lb n k).set k x = chK lb n (k + 1) := by
  unfold chK
  have ht : ((chunk lb n).take k).length = k := by rw [List.length_take]; omega
  rw [List.set_append_right _ _ (by omega), ht, Nat.sub_self, show 512 - k = (512 - (k + 1)) + 1 by omega, List.replicate_succ, List.set_cons_zero, List.take_add_one, hx]
  simp
set_option maxRecDepth 100000 in
set_option maxHeartbeats 1600000 in
theorem rsector_any (h : RefAt w r R z) (s n : Nat) (hn : n < z) : Calls Try.prog 60 #[r.val s, .int .i64 (n : Int)] w fun e w' => e = .returned (sec (chunk R.lb n)) ∧ Below w.heap.size w w' := by
  obtain ⟨A1, n1, c1, A2, n2, c2, A3, n3, c3⟩ := r
  have h1 := h.n1
  have h2 := h.z2
  simp only at h1
  subst h1
  have hz := z47
  have HR := Lib.hid h.r1
  have HL := Lib.hid h.l1
  have HC := Lib.hid (chunk_length R.lb z n h.l1 hn)
  clear h
  obtain ⟨DC, hDC⟩ : ∃ DC, DC = (Rp.cells ⟨A1, z * 512, c1, A2, n2, c2, A3, n3, c3⟩ s) := ⟨_, rfl⟩
  obtain ⟨W, hW⟩ : ∃ W, W = ((w.alloc (.cells DC 34)).alloc (.cells (bv zs).toArray 38)).alloc (.cells (bv zs).toArray 38) := ⟨_, rfl⟩
  have P0 := Lib.hid (show Blk W w.heap.size 34 DC by rw [hW]; exact ((Blk.new w 34 DC).alloc _).alloc _)
  have P1 := Lib.hid (show Blk W (w.heap.size + 1) 38 (bv zs).toArray by rw [hW]; have := (Blk.new (w.alloc (.cells DC 34)) 38 (bv zs).toArray).alloc (.cells (bv zs).toArray 38); simpa using this)
  have P2 := Lib.hid (show Blk W (w.heap.size + 1 + 1) 38 (bv (chK R.lb n 0)).toArray by rw [hW, chK_zero]; have := Blk.new ((w.alloc (.cells DC 34)).alloc (.cells (bv zs).toArray 38)) 38 (bv zs).toArray; simpa using this)
  have BL := Lib.hid (show Below w.heap.size w W by rw [hW]; exact (((Below.refl w.heap.size w).alloc (Nat.le_refl _) _).alloc (by simp) _).alloc (by simp; omega) _)
  go_enter Try.func60, Try.ntmps60
  go_wp2
  rw [← hDC, ← hW]
  have k0 : DC[0]? = some (.slice A1 (z * 512) c1) := by rw [hDC]; rfl
  clear hz hW hDC
  go_loopw [6] (fun i wr => ∃ k : Nat, k ≤ 512 ∧ i = .int .i64 (k : Int) ∧ Blk wr (w.heap.size + 1 + 1) 38 (bv (chK R.lb n k)).toArray ∧ Blk wr (w.heap.size + 1) 38 (bv zs).toArray ∧ Blk wr w.heap.size 34 DC ∧ Below w.heap.size w wr) (fun i _ => 512 - (intOf i).toNat)
  case atStart => exact ⟨0, Nat.zero_le _, rfl, P2.out, P1.out, P0.out, BL.out⟩
  case round =>
    obtain ⟨k, hk, rfl, hb2, hb1, hb0, hb⟩ := hrel
    clear P0 P1 P2 BL
    have Q2 := Lib.hid hb2
    have Q1 := Lib.hid hb1
    have Q0 := Lib.hid hb0
    have QB := Lib.hid hb
    clear hb2 hb1 hb
    by_cases hlt : k < 512
    · have b0 := (hb0.cell 0).trans k0
      have hq : n * 512 + k < R.lb.length := by have := HL.out; omega
      obtain ⟨g, o, rfl, hc⟩ := (HR.out.below QB.out) (n * 512 + k) hq
      obtain ⟨x, hx⟩ : ∃ x, R.lb[n * 512 + k] = x := ⟨_, rfl⟩
      rw [hx] at hc
      have HX := Lib.hid (show (chunk R.lb n)[k]? = some x by rw [chunk, List.getElem?_take, if_pos hlt, List.getElem?_drop, ← hx]; exact List.getElem?_eq_getElem _)
      obtain ⟨Q, hQ⟩ : ∃ Q, Q = n * 512 + k := ⟨_, rfl⟩
      obtain ⟨M, hM⟩ : ∃ M, M = 512 * n := ⟨_, rfl⟩
      have w1 : IntKind.i64.wrap (512 * (n : Int)) = (M : Int) := by rw [show 512 * (n : Int) = (M : Int) by omega]; exact IntWalk.i64_in _ (by omega)
      have w2 : IntKind.i64.wrap ((M : Int) + (k : Int)) = (Q : Int) := by rw [show (M : Int) + (k : Int) = (Q : Int) by omega]; exact IntWalk.i64_in _ (by omega)
      have i1 : (0 : Int) ≤ (Q : Int) := by omega
      have i2 : (Q : Int) < ((z * 512 : Nat) : Int) := by have := HL.out; omega
      have i2' : (Q : Int) < (z : Int) * 512 := by have := HL.out; omega
      rw [← hQ] at hc
      have hf := Q2.out.frozen k
      obtain ⟨u0, hu0⟩ : ∃ u0, wr.cell? ⟨w.heap.size + 1 + 1, k, none⟩ = some u0 := ⟨_, by rw [Q2.out.cell, List.getElem?_toArray, bv_get, List.getElem?_eq_getElem (by rw [chK_length HC.out hk]; exact hlt)]; rfl⟩
      have i3 : (0 : Int) ≤ (k : Int) := by omega
      clear hQ hM hx hq hb0
      go_wp2
      go_roundw
      case rel =>
        have h1 := Q2.out.set_ k (.int .u8 (x.toNat : Int))
        rw [List.setIfInBounds_toArray, bv_set, chK_set HC.out hlt x HX.out] at h1
        exact ⟨k + 1, by omega, by go_num, h1, Q1.out.far (by simp) _, Q0.out.far (by simp; omega) _, QB.out.setCell (by simp; omega) _⟩
      case measure => simp [intOf]; omega
    · obtain rfl : k = 512 := by omega
      rw [chK_all HC.out] at Q2
      have hst := run_store_all (P := Try.prog) (bv (chunk R.lb n)) (bv zs) (by rw [bv_length, bv_length, HC.out, zs_length]) (bv_one _) Q1.out
      have J0 := Lib.hid (Q1.out.setRow (bv (chunk R.lb n)).toArray)
      have J := Lib.hid (below_setRow QB.out (show w.heap.size ≤ w.heap.size + 1 by omega) (bv (chunk R.lb n)).toArray)
      have hbl : (bv (chunk R.lb n)).length = 512 := by rw [bv_length, HC.out]
      clear hb0
      go_wp2_with (refine wpList_load47 rfl (.tmp 5) rfl (w.heap.size + 1 + 1) 0 rfl (chunk R.lb n) Q2.out.rangeAt HC.out ?_)
      exact bodyPost_ret (results_cell_row rfl _ _ (w.heap.size + 1) 38 _ (0, 0) _ rfl J0.out Try.underlying38 rfl (by rw [List.size_toArray, bv_length, HC.out]; exact size47)) rfl ⟨rfl, J.out⟩
end
end Go.Proofs.Ytgjamgojjajcnaa
namespace Go.Proofs.Ytgjamgojjajcnaa
open Go.RowKit
attribute [local go_sem] Oper.semAt_some
attribute [local go_sem] run_store_bv run_store_wc
section
variable {w w' : World} {r : Rp} {R : Rf} {z : Nat}
set_option maxRecDepth 8000 in
theorem RdW.parts {w : World} {A : Option Addr} {ws : List (Nat × List UInt8)} (h : RdW w A ws) {i : Nat} {x : Nat × List UInt8} (hx : ws[i]? = some x) : ∃ b off, A = some ⟨b, off, none⟩ ∧ w.cell? ⟨b, off + i * 513, none⟩ = some (.int .i64 (x.1 : Int)) ∧ w.rangeAt b (off + i * 513 + 1) (bv x.2) := by
  obtain ⟨b, off, e, hc⟩ := h i x hx
  refine ⟨b, off, e, by have := hc 0 _ rfl; simpa using this, fun j v hv => ?_⟩
  have := hc (j + 1) v (by rw [wc, List.getElem?_cons_succ]; exact hv)
  rw [show off + i * 513 + 1 + j = off + i * 513 + (j + 1) by omega]
  exact this
set_option maxRecDepth 100000 in
set_option maxHeartbeats 1600000 in
theorem rreads_any (h : RefAt w r R z) (s n : Nat) (hn : n < z) : Calls Try.prog 43 #[r.val s, .int .i64 (n : Int)] w fun e w' => e = .returned (sec (readL (chunk R.lb n) n R.ws)) ∧ Below w.heap.size w w' := by
  have hz := z47
  have H := Lib.hid h
  have HC := Lib.hid (chunk_length R.lb z n h.l1 hn)
  have HN := Lib.hid hn
  have hm := h.m2
  have HN2 := Lib.hid h.n2
  obtain ⟨DC, hDC⟩ : ∃ DC, DC = r.cells s := ⟨_, rfl⟩
  have k1 : DC[1]? = some (.slice r.A2 r.n2 r.c2) := by rw [hDC]; rfl
  have P0 := Lib.hid ((Blk.new w 34 DC).alloc (.cells (bv zs).toArray 38))
  have P1 := Lib.hid (show Blk ((w.alloc (.cells DC 34)).alloc (.cells (bv zs).toArray 38)) (w.heap.size + 1) 38 (bv zs).toArray by have := Blk.new (w.alloc (.cells DC 34)) 38 (bv zs).toArray; simpa using this)
  have BL := Lib.hid (((Below.refl w.heap.size w).alloc (Nat.le_refl _) (.cells DC 34)).alloc (by simp) (.cells (bv zs).toArray 38))
  have H1 := Lib.hid ((h.alloc (.cells DC 34)).alloc (.cells (bv zs).toArray 38))
  have kc0 : DC[0]? = some (.slice r.A1 r.n1 r.c1) := by rw [hDC]; rfl
  have kc2 : DC[2]? = some (.int .i64 (s : Int)) := by rw [hDC]; rfl
  have kc3 : DC[3]? = some (.slice r.A3 r.n3 r.c3) := by rw [hDC]; rfl
  have HLO := Lib.hid (show ∀ b off, r.A2 = some ⟨b, off, none⟩ → 0 < R.ws.length → b < w.heap.size from fun b off e hp => by
    obtain ⟨b', off', e', hc'⟩ := h.r2 0 _ (List.getElem?_eq_getElem hp)
    rw [e] at e'
    cases e'
    have := cell_lt (hc' 0 _ rfl)
    exact this)
  clear h hn
  go_enter Try.func43, Try.ntmps43
  obtain ⟨W, hW⟩ : ∃ W, W = (w.alloc (.cells DC 34)).alloc (.cells (bv zs).toArray 38) := ⟨_, rfl⟩
  go_wp2_with fail
  rw [← hDC, ← hW]
  rw [← hW] at P0 P1 BL H1
  have q0 := (P0.out.cell 0).trans kc0
  have q1 := (P0.out.cell 1).trans k1
  have q2 := (P0.out.cell 2).trans kc2
  have q3 := (P0.out.cell 3).trans kc3
  clear hW hDC
  refine (rsector_any H1.out s n HN.out).mono ?_
  rintro e w1 ⟨rfl, hb⟩
  have Q0 := Lib.hid ((P0.out.below hb P0.out.lt).alloc (.cells (bv (chunk R.lb n)).toArray 38))
  have Q1 := Lib.hid ((P1.out.below hb P1.out.lt).alloc (.cells (bv (chunk R.lb n)).toArray 38))
  have Q5 := Lib.hid (Blk.new w1 38 (bv (chunk R.lb n)).toArray)
  have QB := Lib.hid ((BL.out.trans (hb.mono BL.out.size)).alloc (Nat.le_trans BL.out.size hb.size) (.cells (bv (chunk R.lb n)).toArray 38))
  have H5 := Lib.hid ((H1.out.below hb).alloc (.cells (bv (chunk R.lb n)).toArray 38))
  have NE := Lib.hid (show w.heap.size + 1 < w1.heap.size by have := P1.out.lt; have := hb.size; omega)
  have hl1 : (bv (chunk R.lb n)).length = 512 := by rw [bv_length, HC.out]
  have hl2 : (chunk R.lb n).length = zs.length := by rw [HC.out, zs_length]
  clear q0 q1 q2 q3 hb
  go_wp2_with fail
  generalize w1.alloc (.cells (bv (chunk R.lb n)).toArray 38) = W5 at Q0 Q1 Q5 QB H5 ⊢
  go_loopw [6] (fun i wr => ∃ k : Nat, k ≤ R.ws.length ∧ i = .int .i64 (k : Int) ∧ Blk wr w1.heap.size 38 (bv (readL (chunk R.lb n) n (R.ws.take k))).toArray ∧ Blk wr (w.heap.size + 1) 38 (bv zs).toArray ∧ Blk wr w.heap.size 34 DC ∧ Below w.heap.size w wr ∧ RdW wr r.A2 R.ws ∧ (∀ b off, r.A2 = some ⟨b, off, none⟩ → 0 < R.ws.length → b < w.heap.size)) (fun i _ => R.ws.length - (intOf i).toNat)
  case atStart => exact ⟨0, Nat.zero_le _, rfl, Q5.out, Q1.out, Q0.out, QB.out, H5.out.r2, HLO.out⟩
  case round =>
    obtain ⟨k, hk, rfl, h5, h1, h0, hb, hw, _⟩ := hrel
    clear Q0 Q1 Q5 QB H5 H1 P0 P1 BL hz
    have Q5 := Lib.hid h5
    have Q1 := Lib.hid h1
    have Q0 := Lib.hid h0
    have QB := Lib.hid hb
    have QW := Lib.hid hw
    have b1 := (h0.cell 1).trans k1
    have HLR := Lib.hid (readL_length n (R.ws.take k) (chunk R.lb n) HC.out (fun y hy => (H.out.wl y (List.mem_of_mem_take hy)).1))
    clear h5 h1 h0 hb hw
    by_cases hlt : k < R.ws.length
    · obtain ⟨x, hx⟩ : ∃ x, R.ws[k]? = some x := ⟨_, List.getElem?_eq_getElem hlt⟩
      obtain ⟨b, off, hA, hc, hrg⟩ := QW.out.parts hx
      rw [hA] at b1
      have HX := Lib.hid (show R.ws.take (k + 1) = R.ws.take k ++ [x] by rw [List.take_add_one, hx]; rfl)
      have HXL := Lib.hid (H.out.wl x (List.mem_of_getElem? hx)).1
      have HRG := Lib.hid hrg
      have HA := Lib.hid hA
      have i1 : (0 : Int) ≤ (k : Int) := by omega
      have i2 : (k : Int) < (r.n2 : Int) := by have := HN2.out; omega
      clear hx hrg hA
      by_cases he : x.1 = n
      · have hq : ((x.1 : Int) == (n : Int)) = true := beq_iff_eq.2 (by omega)
        have HE := Lib.hid he
        have hst := run_store_all (P := Try.prog) (bv x.2) (bv (readL (chunk R.lb n) n (R.ws.take k))) (by rw [bv_length, bv_length, HXL.out, HLR.out]) (bv_one _) Q5.out
        have J5 := Lib.hid (Q5.out.setRow (bv x.2).toArray)
        have J := Lib.hid (below_setRow QB.out (show w.heap.size ≤ w1.heap.size by have := NE.out; omega) (bv x.2).toArray)
        have J0 := Lib.hid (Q0.out.setRow_far (b := w1.heap.size) (by have := NE.out; omega) (bv x.2).toArray)
        have J1 := Lib.hid (Q1.out.setRow_far (b := w1.heap.size) (by have := NE.out; omega) (bv x.2).toArray)
        have JW := Lib.hid (show RdW (wr.setRow w1.heap.size (bv x.2).toArray) r.A2 R.ws from fun i y hy => by
          obtain ⟨b', off', e', hc'⟩ := QW.out i y hy
          refine ⟨b', off', e', fun j v hv => ?_⟩
          have hlo := HLO.out b' off' e' (by have := (List.getElem?_eq_some_iff.1 hy).1; omega)
          rw [World.cell?_of_block (a := ⟨b', off' + i * 513 + j, none⟩) (setRow_other wr w1.heap.size b' _ (by have := NE.out; omega))]
          exact hc' j v hv)
        have hbl : (bv x.2).length = 512 := by rw [bv_length, HXL.out]
        clear he
        go_wp2_with (refine wpList_load47 rfl (.tmp 29) rfl b (off + k * 513 + 1) rfl x.2 HRG.out HXL.out ?_)
        go_roundw
        case rel => exact ⟨k + 1, by omega, by go_num, by rw [HX.out, readL_snoc, if_pos HE.out]; exact J5.out, J1.out, J0.out, J.out, JW.out, HLO.out⟩
        case measure => simp [intOf]; omega
      · have hq : ((x.1 : Int) == (n : Int)) = false := beq_eq_false_iff_ne.2 (by omega)
        have HE := Lib.hid he
        clear he
        go_wp2
        go_roundw
        case rel => exact ⟨k + 1, by omega, by go_num, by rw [HX.out, readL_snoc, if_neg HE.out]; exact Q5.out, Q1.out, Q0.out, QB.out, QW.out, HLO.out⟩
        case measure => simp [intOf]; omega
    · obtain rfl : k = R.ws.length := by omega
      have i2 : ¬ ((R.ws.length : Nat) : Int) < (r.n2 : Int) := by have := HN2.out; omega
      rw [List.take_length] at Q5 HLR
      obtain ⟨L, hL⟩ : ∃ L, L = readL (chunk R.lb n) n R.ws := ⟨_, rfl⟩
      rw [← hL] at Q5 HLR
      have HLE := Lib.hid hL
      have hst := run_store_all (P := Try.prog) (bv L) (bv zs) (by rw [bv_length, bv_length, HLR.out, zs_length]) (bv_one _) Q1.out
      have J0 := Lib.hid (Q1.out.setRow (bv L).toArray)
      have J := Lib.hid (below_setRow QB.out (show w.heap.size ≤ w.heap.size + 1 by omega) (bv L).toArray)
      have hbl : (bv L).length = 512 := by rw [bv_length, HLR.out]
      clear hL
      go_wp2_with (refine wpList_load47 rfl (.tmp 5) rfl w1.heap.size 0 rfl L Q5.out.rangeAt HLR.out ?_)
      exact bodyPost_ret (results_cell_row rfl _ _ (w.heap.size + 1) 38 _ (0, 0) _ rfl J0.out Try.underlying38 rfl (by rw [List.size_toArray, bv_length, HLR.out]; exact size47)) rfl ⟨by rw [← HLE.out], J.out⟩
end
end Go.Proofs.Ytgjamgojjajcnaa

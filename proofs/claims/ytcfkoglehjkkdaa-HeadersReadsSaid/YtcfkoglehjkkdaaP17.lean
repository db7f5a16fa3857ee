/- the document's answer for layer 2: its disk, as it is told by plain data; Size, sector. -/
import Derived.Test.YtcfkoglehjkkdaaP16
import Derived.Test.YtcfkoglehjkkdaaP14
import Derived.Test.YtcfkoglehjkkdaaP08
import Derived.Test.YtcfkoglehjkkdaaP10
namespace Go.Proofs.Ytcfkoglehjkkdaa
open Go.RowKit
attribute [local go_sem] Oper.semAt_some
attribute [local go_sem] run_store_bv run_store_wc
/-- the document's disk: what lasts, what waits, which steps fail -/
structure Rf where
  lb : List UInt8
  ws : List (Nat × List UInt8)
  fl : List Int
/-- writes that wait lie there -/
def RdW (w : World) (A : Option Addr) (ws : List (Nat × List UInt8)) : Prop := ∀ i x, ws[i]? = some x → ∃ b off, A = some ⟨b, off, none⟩ ∧ w.rangeAt b (off + i * 513) (wc x)
theorem RdW.below {w w' : World} {A : Option Addr} {ws : List (Nat × List UInt8)} (h : RdW w A ws) (hb : Below w.heap.size w w') : RdW w' A ws := fun i x hx => by
  obtain ⟨b, off, e, hc⟩ := h i x hx
  exact ⟨b, off, e, fun j v hv => (hb.cell (p := ⟨b, off + i * 513 + j, none⟩) (cell_lt (hc j v hv))).trans (hc j v hv)⟩
/-- it lies there, of z sectors -/
structure RefAt (w : World) (r : Rp) (R : Rf) (z : Nat) : Prop where
  n1 : r.n1 = z * 512
  l1 : R.lb.length = z * 512
  r1 : Rd w r.A1 R.lb
  n2 : r.n2 = R.ws.length
  r2 : RdW w r.A2 R.ws
  n3 : R.fl.length = r.n3
  r3 : RdI w r.A3 R.fl
  wl : ∀ x ∈ R.ws, x.2.length = 512 ∧ x.1 < z
  z1 : 1 ≤ z
  z2 : z ≤ 4096
  m2 : R.ws.length ≤ 100000
  m3 : r.n3 ≤ 1000
section
variable {w w' : World} {r : Rp} {R : Rf} {z : Nat}
theorem RefAt.below (h : RefAt w r R z) (hb : Below w.heap.size w w') : RefAt w' r R z := { h with r1 := h.r1.below hb, r2 := h.r2.below hb, r3 := h.r3.below hb }
theorem RefAt.alloc (h : RefAt w r R z) (o : Obj) : RefAt (w.alloc o) r R z := h.below ((Below.refl _ w).alloc (Nat.le_refl _) o)
theorem RefAt.drew (h : RefAt w r R z) : RefAt w.drew r R z := h.below (Below.drew (Below.refl _ w))
set_option maxRecDepth 100000 in
set_option maxHeartbeats 800000 in
theorem rsize_any (h : RefAt w r R z) (s : Nat) : Calls Try.prog 32 #[r.val s] w fun e w' => e = .returned (.int .i64 (z : Int)) ∧ Below w.heap.size w w' := by
  obtain ⟨A1, n1, c1, A2, n2, c2, A3, n3, c3⟩ := r
  have h1 := h.n1
  have h2 := h.z2
  simp only at h1
  subst h1
  have hd : (((z * 512 : Nat)) : Int).tdiv 512 = (z : Int) := by rw [Int.tdiv_eq_ediv_of_nonneg (by omega)]; omega
  have hd' : ((z : Int) * 512).tdiv 512 = (z : Int) := by rw [Int.tdiv_eq_ediv_of_nonneg (by omega)]; omega
  have hw : IntKind.i64.wrap (z : Int) = (z : Int) := IntWalk.i64_in _ (by omega)
  clear h
  go_enter Try.func32, Try.ntmps32
  go_wp2
  go_ret
  exact ⟨rfl, (Below.refl _ w).alloc (Nat.le_refl _) _⟩
/-- the first k bytes of a sector -/
def chK (lb : List UInt8) (n k : Nat) : List UInt8 := (chunk lb n).take k ++ List.replicate (512 - k) 0
set_option maxRecDepth 8000 in
theorem chK_length {lb : List UInt8} {n k : Nat} (hl : (chunk lb n).length = 512) (hk : k ≤ 512) : (chK lb n k).length = 512 := by simp [chK, hl]; omega
set_option maxRecDepth 8000 in
theorem chK_zero (lb : List UInt8) (n : Nat) : chK lb n 0 = zs := by simp [chK, zs]
set_option maxRecDepth 8000 in
theorem chK_all {lb : List UInt8} {n : Nat} (hl : (chunk lb n).length = 512) : chK lb n 512 = chunk lb n := by
  unfold chK
  rw [List.take_of_length_le (by omega)]
  simp
set_option maxRecDepth 8000 in
theorem chK_set {lb : List UInt8} {n k : Nat} (hl : (chunk lb n).length = 512) (hk : k < 512) (x : UInt8) (hx : (chunk lb n)[k]? = some x) : (chK lb n k).set k x = chK lb n (k + 1) := by
  unfold chK
  have ht : ((chunk lb n).take k).length = k := by rw [List.length_take]; omega
  rw [List.set_append_right _ _ (by omega), ht, Nat.sub_self, show 512 - k = (512 - (k + 1)) + 1 by omega, List.replicate_succ, List.set_cons_zero, List.take_add_one, hx]
  simp
set_option maxRecDepth 100000 in
set_option maxHeartbeats 1600000 in
theorem rsector_any (h : RefAt w r R z) (s n : Nat) (hn : n < z) : Calls Try.prog 82 #[r.val s, .int .i64 (n : Int)] w fun e w' => e = .returned (sec (chunk R.lb n)) ∧ Below w.heap.size w w' := by
  obtain ⟨A1, n1, c1, A2, n2, c2, A3, n3, c3⟩ := r
  have h1 := h.n1
  have h2 := h.z2
  simp only at h1
  subst h1
  have hz := z47
  have HR := Lib.hid h.r1
  have HL := Lib.hid h.l1
  have HC := Lib.hid (chunk_length R.lb z n h.l1 hn)
  clear h
  obtain ⟨DC, hDC⟩ : ∃ DC, DC = (Rp.cells ⟨A1, z * 512, c1, A2, n2, c2, A3, n3, c3⟩ s) := ⟨_, rfl⟩
  obtain ⟨W, hW⟩ : ∃ W, W = ((w.alloc (.cells DC 33)).alloc (.cells (bv zs).toArray 56)).alloc (.cells (bv zs).toArray 56) := ⟨_, rfl⟩
  have P0 := Lib.hid (show Blk W w.heap.size 33 DC by rw [hW]; exact ((Blk.new w 33 DC).alloc _).alloc _)
  have P1 := Lib.hid (show Blk W (w.heap.size + 1) 56 (bv zs).toArray by rw [hW]; have := (Blk.new (w.alloc (.cells DC 33)) 56 (bv zs).toArray).alloc (.cells (bv zs).toArray 56); simpa using this)
  have P2 := Lib.hid (show Blk W (w.heap.size + 1 + 1) 56 (bv (chK R.lb n 0)).toArray by rw [hW, chK_zero]; have := Blk.new ((w.alloc (.cells DC 33)).alloc (.cells (bv zs).toArray 56)) 56 (bv zs).toArray; simpa using this)
  have BL := Lib.hid (show Below w.heap.size w W by rw [hW]; exact (((Below.refl w.heap.size w).alloc (Nat.le_refl _) _).alloc (by simp) _).alloc (by simp; omega) _)
  go_enter Try.func82, Try.ntmps82
  go_wp2
  rw [← hDC, ← hW]
  have k0 : DC[0]? = some (.slice A1 (z * 512) c1) := by rw [hDC]; rfl
  clear hz hW hDC
  go_loopw [6] (fun i wr => ∃ k : Nat, k ≤ 512 ∧ i = .int .i64 (k : Int) ∧ Blk wr (w.heap.size + 1 + 1) 56 (bv (chK R.lb n k)).toArray ∧ Blk wr (w.heap.size + 1) 56 (bv zs).toArray ∧ Blk wr w.heap.size 33 DC ∧ Below w.heap.size w wr) (fun i _ => 512 - (intOf i).toNat)
  case atStart => exact ⟨0, Nat.zero_le _, rfl, P2.out, P1.out, P0.out, BL.out⟩
  case round =>
    obtain ⟨k, hk, rfl, hb2, hb1, hb0, hb⟩ := hrel
    clear P0 P1 P2 BL
    have Q2 := Lib.hid hb2
    have Q1 := Lib.hid hb1
    have Q0 := Lib.hid hb0
    have QB := Lib.hid hb
    clear hb2 hb1 hb
    by_cases hlt : k < 512
    · have b0 := (hb0.cell 0).trans k0
      have hq : n * 512 + k < R.lb.length := by have := HL.out; omega
      obtain ⟨g, o, rfl, hc⟩ := (HR.out.below QB.out) (n * 512 + k) hq
      obtain ⟨x, hx⟩ : ∃ x, R.lb[n * 512 + k] = x := ⟨_, rfl⟩
      rw [hx] at hc
      have HX := Lib.hid (show (chunk R.lb n)[k]? = some x by rw [chunk, List.getElem?_take, if_pos hlt, List.getElem?_drop, ← hx]; exact List.getElem?_eq_getElem _)
      obtain ⟨Q, hQ⟩ : ∃ Q, Q = n * 512 + k := ⟨_, rfl⟩
      obtain ⟨M, hM⟩ : ∃ M, M = 512 * n := ⟨_, rfl⟩
      have w1 : IntKind.i64.wrap (512 * (n : Int)) = (M : Int) := by rw [show 512 * (n : Int) = (M : Int) by omega]; exact IntWalk.i64_in _ (by omega)
      have w2 : IntKind.i64.wrap ((M : Int) + (k : Int)) = (Q : Int) := by rw [show (M : Int) + (k : Int) = (Q : Int) by omega]; exact IntWalk.i64_in _ (by omega)
      have i1 : (0 : Int) ≤ (Q : Int) := by omega
      have i2 : (Q : Int) < ((z * 512 : Nat) : Int) := by have := HL.out; omega
      have i2' : (Q : Int) < (z : Int) * 512 := by have := HL.out; omega
      rw [← hQ] at hc
      have hf := Q2.out.frozen k
      obtain ⟨u0, hu0⟩ : ∃ u0, wr.cell? ⟨w.heap.size + 1 + 1, k, none⟩ = some u0 := ⟨_, by rw [Q2.out.cell, List.getElem?_toArray, bv_get, List.getElem?_eq_getElem (by rw [chK_length HC.out hk]; exact hlt)]; rfl⟩
      have i3 : (0 : Int) ≤ (k : Int) := by omega
      clear hQ hM hx hq hb0
      go_wp2
      go_roundw
      case rel =>
        have h1 := Q2.out.set_ k (.int .u8 (x.toNat : Int))
        rw [List.setIfInBounds_toArray, bv_set, chK_set HC.out hlt x HX.out] at h1
        exact ⟨k + 1, by omega, by go_num, h1, Q1.out.far (by simp) _, Q0.out.far (by simp; omega) _, QB.out.setCell (by simp; omega) _⟩
      case measure => simp [intOf]; omega
    · obtain rfl : k = 512 := by omega
      rw [chK_all HC.out] at Q2
      have hst := run_store_all (P := Try.prog) (bv (chunk R.lb n)) (bv zs) (by rw [bv_length, bv_length, HC.out, zs_length]) (bv_one _) Q1.out
      have J0 := Lib.hid (Q1.out.setRow (bv (chunk R.lb n)).toArray)
      have J := Lib.hid (below_setRow QB.out (show w.heap.size ≤ w.heap.size + 1 by omega) (bv (chunk R.lb n)).toArray)
      have hbl : (bv (chunk R.lb n)).length = 512 := by rw [bv_length, HC.out]
      clear hb0
      go_wp2_with (refine wpList_load47 rfl (.tmp 5) rfl (w.heap.size + 1 + 1) 0 rfl (chunk R.lb n) Q2.out.rangeAt HC.out ?_)
      exact bodyPost_ret (results_cell_row rfl _ _ (w.heap.size + 1) 56 _ (0, 0) _ rfl J0.out Try.underlying56 rfl (by rw [List.size_toArray, bv_length, HC.out]; exact size47)) rfl ⟨rfl, J.out⟩
end
end Go.Proofs.Ytcfkoglehjkkdaa
namespace Go.Proofs.Ytcfkoglehjkkdaa
open Go.RowKit
attribute [local go_sem] Oper.semAt_some
attribute [local go_sem] run_store_bv run_store_wc
section
variable {w w' : World} {r : Rp} {R : Rf} {z : Nat}
set_option maxRecDepth 8000 in
theorem RdW.parts {w : World} {A : Option Addr} {ws : List (Nat × List UInt8)} (h : RdW w A ws) {i : Nat} {x : Nat × List UInt8} (hx : ws[i]? = some x) : ∃ b off, A = some ⟨b, off, none⟩ ∧ w.cell? ⟨b, off + i * 513, none⟩ = some (.int .i64 (x.1 : Int)) ∧ w.rangeAt b (off + i * 513 + 1) (bv x.2) := by
  obtain ⟨b, off, e, hc⟩ := h i x hx
  refine ⟨b, off, e, by have := hc 0 _ rfl; simpa using this, fun j v hv => ?_⟩
  have := hc (j + 1) v (by rw [wc, List.getElem?_cons_succ]; exact hv)
  rw [show off + i * 513 + 1 + j = off + i * 513 + (j + 1) by omega]
  exact this
set_option maxRecDepth 100000 in
set_option maxHeartbeats 1600000 in
theorem rreads_any (h : RefAt w r R z) (s n : Nat) (hn : n < z) : Calls Try.prog 64 #[r.val s, .int .i64 (n : Int)] w fun e w' => e = .returned (sec (readL (chunk R.lb n) n R.ws)) ∧ Below w.heap.size w w' := by
  have hz := z47
  have H := Lib.hid h
  have HC := Lib.hid (chunk_length R.lb z n h.l1 hn)
  have HN := Lib.hid hn
  have hm := h.m2
  have HN2 := Lib.hid h.n2
  obtain ⟨DC, hDC⟩ : ∃ DC, DC = r.cells s := ⟨_, rfl⟩
  have k1 : DC[1]? = some (.slice r.A2 r.n2 r.c2) := by rw [hDC]; rfl
  have P0 := Lib.hid ((Blk.new w 33 DC).alloc (.cells (bv zs).toArray 56))
  have P1 := Lib.hid (show Blk ((w.alloc (.cells DC 33)).alloc (.cells (bv zs).toArray 56)) (w.heap.size + 1) 56 (bv zs).toArray by have := Blk.new (w.alloc (.cells DC 33)) 56 (bv zs).toArray; simpa using this)
  have BL := Lib.hid (((Below.refl w.heap.size w).alloc (Nat.le_refl _) (.cells DC 33)).alloc (by simp) (.cells (bv zs).toArray 56))
  have H1 := Lib.hid ((h.alloc (.cells DC 33)).alloc (.cells (bv zs).toArray 56))
  have kc0 : DC[0]? = some (.slice r.A1 r.n1 r.c1) := by rw [hDC]; rfl
  have kc2 : DC[2]? = some (.int .i64 (s : Int)) := by rw [hDC]; rfl
  have kc3 : DC[3]? = some (.slice r.A3 r.n3 r.c3) := by rw [hDC]; rfl
  have HLO := Lib.hid (show ∀ b off, r.A2 = some ⟨b, off, none⟩ → 0 < R.ws.length → b < w.heap.size from fun b off e hp => by
    obtain ⟨b', off', e', hc'⟩ := h.r2 0 _ (List.getElem?_eq_getElem hp)
    rw [e] at e'
    cases e'
    have := cell_lt (hc' 0 _ rfl)
    exact this)
  clear h hn
  go_enter Try.func64, Try.ntmps64
  obtain ⟨W, hW⟩ : ∃ W, W = (w.alloc (.cells DC 33)).alloc (.cells (bv zs).toArray 56) := ⟨_, rfl⟩
  go_wp2_with fail
  rw [← hDC, ← hW]
  rw [← hW] at P0 P1 BL H1
  have q0 := (P0.out.cell 0).trans kc0
  have q1 := (P0.out.cell 1).trans k1
  have q2 := (P0.out.cell 2).trans kc2
  have q3 := (P0.out.cell 3).trans kc3
  clear hW hDC
  refine (rsector_any H1.out s n HN.out).mono ?_
  rintro e w1 ⟨rfl, hb⟩
  have Q0 := Lib.hid ((P0.out.below hb P0.out.lt).alloc (.cells (bv (chunk R.lb n)).toArray 56))
  have Q1 := Lib.hid ((P1.out.below hb P1.out.lt).alloc (.cells (bv (chunk R.lb n)).toArray 56))
  have Q5 := Lib.hid (Blk.new w1 56 (bv (chunk R.lb n)).toArray)
  have QB := Lib.hid ((BL.out.trans (hb.mono BL.out.size)).alloc (Nat.le_trans BL.out.size hb.size) (.cells (bv (chunk R.lb n)).toArray 56))
  have H5 := Lib.hid ((H1.out.below hb).alloc (.cells (bv (chunk R.lb n)).toArray 56))
  have NE := Lib.hid (show w.heap.size + 1 < w1.heap.size by have := P1.out.lt; have := hb.size; omega)
  have hl1 : (bv (chunk R.lb n)).length = 512 := by rw [bv_length, HC.out]
  have hl2 : (chunk R.lb n).length = zs.length := by rw [HC.out, zs_length]
  clear q0 q1 q2 q3 hb
  go_wp2_with fail
  generalize w1.alloc (.cells (bv (chunk R.lb n)).toArray 56) = W5 at Q0 Q1 Q5 QB H5 ⊢
  go_loopw [6] (fun i wr => ∃ k : Nat, k ≤ R.ws.length ∧ i = .int .i64 (k : Int) ∧ Blk wr w1.heap.size 56 (bv (readL (chunk R.lb n) n (R.ws.take k))).toArray ∧ Blk wr (w.heap.size + 1) 56 (bv zs).toArray ∧ Blk wr w.heap.size 33 DC ∧ Below w.heap.size w wr ∧ RdW wr r.A2 R.ws ∧ (∀ b off, r.A2 = some ⟨b, off, none⟩ → 0 < R.ws.length → b < w.heap.size)) (fun i _ => R.ws.length - (intOf i).toNat)
  case atStart => exact ⟨0, Nat.zero_le _, rfl, Q5.out, Q1.out, Q0.out, QB.out, H5.out.r2, HLO.out⟩
  case round =>
    obtain ⟨k, hk, rfl, h5, h1, h0, hb, hw, _⟩ := hrel
    clear Q0 Q1 Q5 QB H5 H1 P0 P1 BL hz
    have Q5 := Lib.hid h5
    have Q1 := Lib.hid h1
    have Q0 := Lib.hid h0
    have QB := Lib.hid hb
    have QW := Lib.hid hw
    have b1 := (h0.cell 1).trans k1
    have HLR := Lib.hid (readL_length n (R.ws.take k) (chunk R.lb n) HC.out (fun y hy => (H.out.wl y (List.mem_of_mem_take hy)).1))
    clear h5 h1 h0 hb hw
    by_cases hlt : k < R.ws.length
    · obtain ⟨x, hx⟩ : ∃ x, R.ws[k]? = some x := ⟨_, List.getElem?_eq_getElem hlt⟩
      obtain ⟨b, off, hA, hc, hrg⟩ := QW.out.parts hx
      rw [hA] at b1
      have HX := Lib.hid (show R.ws.take (k + 1) = R.ws.take k ++ [x] by rw [List.take_add_one, hx]; rfl)
      have HXL := Lib.hid (H.out.wl x (List.mem_of_getElem? hx)).1
      have HRG := Lib.hid hrg
      have HA := Lib.hid hA
      have i1 : (0 : Int) ≤ (k : Int) := by omega
      have i2 : (k : Int) < (r.n2 : Int) := by have := HN2.out; omega
      clear hx hrg hA
      by_cases he : x.1 = n
      · have hq : ((x.1 : Int) == (n : Int)) = true := beq_iff_eq.2 (by omega)
        have HE := Lib.hid he
        have hst := run_store_all (P := Try.prog) (bv x.2) (bv (readL (chunk R.lb n) n (R.ws.take k))) (by rw [bv_length, bv_length, HXL.out, HLR.out]) (bv_one _) Q5.out
        have J5 := Lib.hid (Q5.out.setRow (bv x.2).toArray)
        have J := Lib.hid (below_setRow QB.out (show w.heap.size ≤ w1.heap.size by have := NE.out; omega) (bv x.2).toArray)
        have J0 := Lib.hid (Q0.out.setRow_far (b := w1.heap.size) (by have := NE.out; omega) (bv x.2).toArray)
        have J1 := Lib.hid (Q1.out.setRow_far (b := w1.heap.size) (by have := NE.out; omega) (bv x.2).toArray)
        have JW := Lib.hid (show RdW (wr.setRow w1.heap.size (bv x.2).toArray) r.A2 R.ws from fun i y hy => by
          obtain ⟨b', off', e', hc'⟩ := QW.out i y hy
          refine ⟨b', off', e', fun j v hv => ?_⟩
          have hlo := HLO.out b' off' e' (by have := (List.getElem?_eq_some_iff.1 hy).1; omega)
          rw [World.cell?_of_block (a := ⟨b', off' + i * 513 + j, none⟩) (setRow_other wr w1.heap.size b' _ (by have := NE.out; omega))]
          exact hc' j v hv)
        have hbl : (bv x.2).length = 512 := by rw [bv_length, HXL.out]
        clear he
        go_wp2_with (refine wpList_load47 rfl (.tmp 29) rfl b (off + k * 513 + 1) rfl x.2 HRG.out HXL.out ?_)
        go_roundw
        case rel => exact ⟨k + 1, by omega, by go_num, by rw [HX.out, readL_snoc, if_pos HE.out]; exact J5.out, J1.out, J0.out, J.out, JW.out, HLO.out⟩
        case measure => simp [intOf]; omega
      · have hq : ((x.1 : Int) == (n : Int)) = false := beq_eq_false_iff_ne.2 (by omega)
        have HE := Lib.hid he
        clear he
        go_wp2
        go_roundw
        case rel => exact ⟨k + 1, by omega, by go_num, by rw [HX.out, readL_snoc, if_neg HE.out]; exact Q5.out, Q1.out, Q0.out, QB.out, QW.out, HLO.out⟩
        case measure => simp [intOf]; omega
    · obtain rfl : k = R.ws.length := by omega
      have i2 : ¬ ((R.ws.length : Nat) : Int) < (r.n2 : Int) := by have := HN2.out; omega
      rw [List.take_length] at Q5 HLR
      obtain ⟨L, hL⟩ : ∃ L, L = readL (chunk R.lb n) n R.ws := ⟨_, rfl⟩
      rw [← hL] at Q5 HLR
      have HLE := Lib.hid hL
      have hst := run_store_all (P := Try.prog) (bv L) (bv zs) (by rw [bv_length, bv_length, HLR.out, zs_length]) (bv_one _) Q1.out
      have J0 := Lib.hid (Q1.out.setRow (bv L).toArray)
      have J := Lib.hid (below_setRow QB.out (show w.heap.size ≤ w.heap.size + 1 by omega) (bv L).toArray)
      have hbl : (bv L).length = 512 := by rw [bv_length, HLR.out]
      clear hL
      go_wp2_with (refine wpList_load47 rfl (.tmp 5) rfl w1.heap.size 0 rfl L Q5.out.rangeAt HLR.out ?_)
      exact bodyPost_ret (results_cell_row rfl _ _ (w.heap.size + 1) 56 _ (0, 0) _ rfl J0.out Try.underlying56 rfl (by rw [List.size_toArray, bv_length, HLR.out]; exact size47)) rfl ⟨by rw [← HLE.out], J.out⟩
end
end Go.Proofs.Ytcfkoglehjkkdaa
namespace Go.Proofs.Ytcfkoglehjkkdaa
open Go.RowKit
attribute [local go_sem] Oper.semAt_some
set_option maxRecDepth 8000 in
theorem size94 : (Try.prog.info? 100).map (·.size) = some 513 := by kernel_rfl
theorem wpList_load94 {w : World} {ops : Array Oper} {rest : List Oper} {o : Oper} {a : Act} {Q : Exit → Act → World → Prop} (hgd : o.guard = none) (x : Operand) (ho : o.op = .load 100 x) (b off : Nat) (hx : a.eval x = .pointer (some ⟨b, off, none⟩)) (l : Nat × List UInt8) (h : w.rangeAt b off (wc l)) (hl : l.2.length = 512)
    (hK : wpList Try.prog ops Q rest (a.put o.dst (wv l)) w) : wpList Try.prog ops Q (o :: rest) a w :=
  wpList_load_mid hgd 100 x ho b off hx (wc l) _ h Try.underlying100 rfl (by rw [wc_length _ hl]; exact size94) hK
/-- what is read, laid one behind the other -/
def layR (lb : List UInt8) (ws : List (Nat × List UInt8)) : List UInt8 := ws.foldl (fun l x => laidF l x 512) lb
set_option maxRecDepth 8000 in
theorem layR_snoc (lb : List UInt8) (ws : List (Nat × List UInt8)) (x : Nat × List UInt8) : layR lb (ws ++ [x]) = laidF (layR lb ws) x 512 := by simp [layR]
theorem layR_length {z : Nat} : ∀ (ws : List (Nat × List UInt8)) (lb : List UInt8), lb.length = z * 512 → (∀ x ∈ ws, x.2.length = 512 ∧ x.1 < z) → (layR lb ws).length = z * 512
  | [], _, hl, _ => hl
  | x :: ws, lb, hl, hw => layR_length ws (laidF lb x 512) (by
      have h := hw x (by simp)
      rw [laidF_length lb x 512 (by have := h.2; omega) h.1 (by omega), hl]) (fun y hy => hw y (by simp [hy]))
section
variable {w w' : World} {r : Rp} {R : Rf} {z : Nat}
set_option maxRecDepth 100000 in
set_option maxHeartbeats 3200000 in
theorem rbytes_any (h : RefAt w r R z) (s : Nat) : Calls Try.prog 14 #[r.val s] w fun e w' => ∃ v, e = .returned v ∧ w'.ownsRow w.heap.size 5 1 v (z * 512) (bv (layR R.lb R.ws)) ∧ Below w.heap.size w w' := by
  have H := Lib.hid h
  have HN2 := Lib.hid h.n2
  have hm := h.m2
  obtain ⟨DC, hDC⟩ : ∃ DC, DC = r.cells s := ⟨_, rfl⟩
  have k0 : DC[0]? = some (.slice r.A1 (z * 512) r.c1) := by rw [hDC, ← h.n1]; rfl
  have k1 : DC[1]? = some (.slice r.A2 r.n2 r.c2) := by rw [hDC]; rfl
  have P0 := Lib.hid (Blk.new w 33 DC)
  have BL := Lib.hid ((Below.refl w.heap.size w).alloc (Nat.le_refl _) (.cells DC 33))
  have H1 := Lib.hid (h.alloc (.cells DC 33))
  obtain ⟨N, hN⟩ : ∃ N, N = z * 512 := ⟨_, rfl⟩
  have HNE := Lib.hid hN
  rw [← hN] at k0 ⊢
  have NB := Lib.hid (show 0 < N ∧ N ≤ 3000000 by have := h.z1; have := h.z2; omega)
  have b0 := (P0.out.cell 0).trans k0
  clear h hN
  rw [show r.val s = .agg DC by rw [hDC]]
  clear hDC
  go_enter Try.func14, Try.ntmps14
  go_wp2
  generalize w.alloc (.cells DC 33) = W at P0 BL H1 b0 ⊢
  clear b0
  go_loopw [3, 4] (fun v i wr => ∃ (k : Nat) (A : Option Addr) (c : Nat), k ≤ R.ws.length ∧ i = .int .i64 (k : Int) ∧ v = .slice A N c ∧ Rd wr A (layR R.lb (R.ws.take k)) ∧ Blk wr w.heap.size 33 DC ∧ Below w.heap.size w wr) (fun _ i _ => R.ws.length - (intOf i).toNat)
  case atStart => exact ⟨0, r.A1, r.c1, Nat.zero_le _, rfl, rfl, H1.out.r1, P0.out, BL.out⟩
  case round =>
    obtain ⟨k, A, c, hk, rfl, rfl, ho, h0, hb⟩ := hrel
    clear P0 BL H1
    have QO := Lib.hid ho
    have Q0 := Lib.hid h0
    have QB := Lib.hid hb
    have b1 := (h0.cell 1).trans k1
    have HLL := Lib.hid (show (layR R.lb (R.ws.take k)).length = N by rw [HNE.out]; exact layR_length _ _ H.out.l1 (fun y hy => H.out.wl y (List.mem_of_mem_take hy)))
    clear ho h0 hb
    by_cases hlt : k < R.ws.length
    · obtain ⟨x, hx⟩ : ∃ x, R.ws[k]? = some x := ⟨_, List.getElem?_eq_getElem hlt⟩
      obtain ⟨b, off, hA, hc⟩ := (H.out.r2.below QB.out) k x hx
      rw [hA] at b1
      have HX := Lib.hid (show R.ws.take (k + 1) = R.ws.take k ++ [x] by rw [List.take_add_one, hx]; rfl)
      have HW := Lib.hid (H.out.wl x (List.mem_of_getElem? hx))
      have HC := Lib.hid hc
      have i1 : (0 : Int) ≤ (k : Int) := by omega
      have i2 : (k : Int) < (r.n2 : Int) := by have := HN2.out; omega
      have kb : k ≤ 100000 := by omega
      have LA := Lib.hid (fun (W : World) (hr : Rd W A (layR R.lb (R.ws.take k))) => show Calls Try.prog 44 #[.slice A N c, wv x, .int .i64 512] W fun e w' => ∃ v, e = .returned v ∧ w'.ownsRow W.heap.size 5 1 v N (bv (laidF (layR R.lb (R.ws.take k)) x 512)) ∧ Below W.heap.size W w' from by
        have := laid_any W A c (layR R.lb (R.ws.take k)) x 512 hr (by rw [HLL.out]; exact NB.out.1) (by rw [HLL.out]; exact NB.out.2) HW.out.1 (by omega) (.inr (by rw [HLL.out, HNE.out]; have := HW.out.2; omega))
        rw [HLL.out] at this
        exact this)
      clear hx hc
      go_wp2_with (first
        | (refine wpList_load94 rfl (.tmp 18) rfl b (off + k * 513) rfl x HC.out HW.out.1 ?_)
        | (go_at_call 44; refine (LA.out _ QO.out).mono ?_; rintro e w5 ⟨v, rfl, hown, hb5⟩; obtain ⟨A', c', rfl⟩ := own_shape hown; have J := Lib.hid (Rd.of_own hown); have JB := Lib.hid hb5; clear hown hb5))
      go_roundw
      case rel => exact ⟨k + 1, A', c', by omega, by go_num, rfl, by rw [HX.out, layR_snoc]; exact J.out, Q0.out.below JB.out Q0.out.lt, QB.out.trans (JB.out.mono QB.out.size)⟩
      case measure => simp [intOf]; omega
    · obtain rfl : k = R.ws.length := by omega
      have i2 : ¬ ((R.ws.length : Nat) : Int) < (r.n2 : Int) := by have := HN2.out; omega
      rw [List.take_length] at QO HLL
      have QO2 := Lib.hid (QO.out.alloc (.cells #[] 5))
      go_wp2_with (at_builtin; refine wpList_append_bytes _ rfl (.tmp 21) (.tmp 22) _ rfl Try.underlying22 infoU8 rfl (lit0 wr) rfl QO2.out HLL.out (by have := NB.out; omega) (by simp) ?_; intro v1 w1 hown1 hg1 hat1; simp only [Nat.zero_add, List.nil_append] at hown1; have HO1 := Lib.hid hown1; have HB1 := Lib.hid (below_append (below_lit0 wr) (lit0 wr) hg1 (Nat.le_refl _) (by simp)); clear hown1 hg1 hat1)
      go_ret
      exact ⟨_, rfl, own_base HO1.out QB.out.size, QB.out.trans (HB1.out.mono QB.out.size)⟩
end
end Go.Proofs.Ytcfkoglehjkkdaa
namespace Go.Proofs.Ytcfkoglehjkkdaa
open Go.RowKit
set_option maxRecDepth 8000 in
theorem zero94 : (Try.prog.info? 100).map (fun i => (i.zero, i.size)) = some (some (wv (0, zs)), 513) := by kernel_rfl
theorem z94 (w : World) : (zeroValue 100).run Try.prog w = .ok (wv (0, zs)) w := (zero_of_info zero94).1 w
set_option maxRecDepth 8000 in
theorem info94 : (Try.prog.info? 100).map (fun i => (i.zero, i.size, i.bytes)) = some (some (wv (0, zs)), 513, 520) := by kernel_rfl
theorem fields94 : Try.prog.fieldsOf 100 = #[(Try.prog.fieldsOf 100)[0]!, (Try.prog.fieldsOf 100)[1]!] ∧ ((Try.prog.fieldsOf 100)[0]!).offset = 0 ∧ ((Try.prog.fieldsOf 100)[0]!).type = 3 ∧ ((Try.prog.fieldsOf 100)[1]!).offset = 1 ∧ ((Try.prog.fieldsOf 100)[1]!).type = 56 := ⟨by kernel_rfl, by kernel_rfl, by kernel_rfl, by kernel_rfl, by kernel_rfl⟩
set_option maxRecDepth 8000 in
theorem und94 : Try.prog.underlying 100 = some (.struct (Try.prog.fieldsOf 100)) := by kernel_rfl
set_option maxRecDepth 8000 in
theorem run_build94 (w : World) (n : Nat) (l : List UInt8) (hl : l.length = 512) : (Instr.build 100 #[(0, .int .i64 (n : Int)), (1, sec l)]).run Try.prog w = .ok (wv (n, l)) w := by
  obtain ⟨hf, o0, t0, o1, t1⟩ := fields94
  have hm : ((Try.prog.fieldsOf 100).mapM fun f => (do pure (f.offset, ← sizeOf f.type) : Sem (Nat × Nat))).run Try.prog w = .ok #[(0, 1), (1, 512)] w := by
    rw [hf]
    simp [Array.mapM_eq_mapM_toList, o0, t0, o1, t1, run_sizeOf size3, run_sizeOf size47, Result.andThen]
  have hz : ((zeroValue 100).run Try.prog w) = .ok (wv (0, zs)) w := z94 w
  have c1 : Instr.fill ((#[(0, 1), (1, 512)] : Array (Nat × Nat))[·]?) (wc (0, zs)).toArray [(0, .int .i64 (n : Int)), (1, sec l)] = some (wc (n, l)).toArray := by
    have hzl := wc_length (0, zs) zs_length
    rw [fill_one _ _ 0 _ _ 0 rfl (by simp [Value.cells]; omega), fill_one _ _ 1 (sec l) _ 1 (by simp [Value.cells, bv_length, hl]) (by simp [Value.cells, bv_length, hl]; omega)]
    have e : ∀ v : Value, (v :: bv zs).take 1 ++ bv l ++ (v :: bv zs).drop (1 + 512) = v :: bv l := fun v => by
      rw [List.drop_eq_nil_of_le (by rw [List.length_cons, bv_length, zs_length]; omega), List.append_nil]
      rfl
    have e2 : (sec l).cells.size = 512 := by show (bv l).toArray.size = 512; rw [List.size_toArray, bv_length, hl]
    simp only [Instr.fill, e2]
    exact congrArg (fun x : List Value => some x.toArray) (e (.int .i64 (n : Int)))
  simp only [Instr.build, Sem.run_bind, hz, Result.andThen_ok, run_underlying und94, hm]
  rw [show (wv (0, zs)).cells = (wc (0, zs)).toArray from rfl, c1]
  rfl
set_option maxRecDepth 8000 in
theorem run_buildSlice94 (w : World) (x : Nat × List UInt8) (hx : x.2.length = 512) :
    (Instr.buildSlice 31 1 #[(0, wv x)]).run Try.prog w = .ok (.slice (some ⟨w.heap.size, 0, none⟩) 1 1) (w.alloc (.cells (wc x).toArray 100)) := by
  have hz : ((zeroValue 100).run Try.prog w) = .ok (wv (0, zs)) w := z94 w
  have hs := run_sizeOf (P := Try.prog) size94 w
  have c1 : ∀ cs : Array Value, cs.size = 513 → Instr.fill (fun i => some (i * 513, 513)) cs [(0, wv x)] = some (wc x).toArray := by
    intro cs hcs
    have e2 : (wv x).cells.size = 513 := by show (wc x).toArray.size = 513; rw [List.size_toArray, wc_length x hx]
    rw [fill_one _ _ 0 (wv x) _ 0 (by rw [e2]) (by rw [e2, hcs]; omega)]
    simp only [Instr.fill, e2]
    have e : cs.toList.take 0 ++ wc x ++ cs.toList.drop (0 + 513) = wc x := by
      rw [List.drop_eq_nil_of_le (by rw [Array.length_toList, hcs]; omega), List.append_nil]
      rfl
    exact congrArg (fun x : List Value => some x.toArray) e
  have h2 := c1 ((Array.range (1 * 513)).map ((wv (0, zs)).cells[· % (wv (0, zs)).cells.size]!)) (by simp)
  simp only [Instr.buildSlice, Sem.run_bind, run_underlying Try.underlying31, Result.andThen_ok, hs]
  rw [if_neg (by decide), if_neg (by decide)]
  simp only [Sem.run_bind, hz, Result.andThen_ok, Sem.run_pure, h2]
  simp [newRow, Result.andThen]
theorem yieldsIf_build94 {ops : Array Oper} {S : World → Prop} {o : Oper} {a : Act} (hw : Region.wanted o (yielded ops a.tmps) = true) (x y : Operand) (ho : o.op = .build 100 #[(0, x), (1, y)]) (n : Nat) (l : List UInt8) (hx : a.eval x = .int .i64 (n : Int)) (hy : a.eval y = sec l) (hl : l.length = 512) :
    YieldsIf Try.prog ops S o (wv (n, l)) a := .inl ⟨hw, fun w _ => by
  simp [execOp, ho, hx, hy, run_build94 w n l hl, Result.andThen]⟩
set_option maxRecDepth 8000 in
theorem step_buildSlice94 {ops : Array Oper} {o : Oper} {a : Act} {w : World} {K : Act → World → Prop} {Q : Exit → Act → World → Prop} {E : Prop} (hgd : o.guard = none) (x : Operand) (ho : o.op = .buildSlice 31 1 #[(0, x)]) (e : Nat × List UInt8) (hx : a.eval x = wv e) (he : e.2.length = 512)
    (h : K (a.put o.dst (.slice (some ⟨w.heap.size, 0, none⟩) 1 1)) (w.alloc (.cells (wc e).toArray 100))) :
    if Region.wanted o (yielded ops a.tmps) = true then Oper.wp Try.prog o a w K Q else E := by
  have hw : Region.wanted o (yielded ops a.tmps) = true := by simp [Region.wanted, hgd]
  rw [if_pos hw]
  unfold Oper.wp
  simp [execOp, ho, hx, run_buildSlice94 w e he, Result.andThen]
  exact h
set_option maxRecDepth 8000 in
theorem rangeAt_append {w : World} {b off : Nat} {l k : List Value} (h : w.rangeAt b off l) (h2 : w.rangeAt b (off + l.length) k) : w.rangeAt b off (l ++ k) := by
  intro j v hv
  rcases Nat.lt_or_ge j l.length with hj | hj
  · rw [List.getElem?_append_left hj] at hv
    exact h j v hv
  · rw [List.getElem?_append_right hj] at hv
    have := h2 (j - l.length) v hv
    rwa [show off + l.length + (j - l.length) = off + j by omega] at this
theorem rangeAt_flat {w : World} {b : Nat} : ∀ (ws : List (Nat × List UInt8)) (off : Nat), (∀ x ∈ ws, x.2.length = 512) → (∀ i x, ws[i]? = some x → w.rangeAt b (off + i * 513) (wc x)) → w.rangeAt b off (ws.flatMap wc)
  | [], _, _, _ => by intro j v hv; simp at hv
  | x :: ws, off, hl, h => by
    rw [List.flatMap_cons]
    have hx := wc_length x (hl x (List.mem_cons_self ..))
    refine rangeAt_append (by simpa using h 0 x rfl) ?_
    rw [hx]
    refine rangeAt_flat ws (off + 513) (fun y hy => hl y (List.mem_cons_of_mem _ hy)) fun i y hy => ?_
    have := h (i + 1) y (by simpa using hy)
    rwa [show off + (i + 1) * 513 = off + 513 + i * 513 by omega] at this
set_option maxRecDepth 8000 in
theorem add_flat94 (b off j : Nat) : ((⟨b, off, none⟩ : Addr).add j) = ⟨b, off + j, none⟩ := by
  unfold Addr.add
  split
  · subst_vars; rfl
  · rfl
set_option maxRecDepth 8000 in
theorem flat_len94 (ws : List (Nat × List UInt8)) (hw : ∀ x ∈ ws, x.2.length = 512) : (ws.flatMap wc).length = ws.length * 513 := by
  induction ws with
  | nil => rfl
  | cons x ws ih =>
    rw [List.flatMap_cons, List.length_append, wc_length x (hw x (List.mem_cons_self ..)), ih fun y hy => hw y (List.mem_cons_of_mem _ hy), List.length_cons]
    omega
set_option maxRecDepth 8000 in
theorem flat_one94 (ws : List (Nat × List UInt8)) : ∀ u ∈ ws.flatMap wc, u.oneCell' = true := by
  intro u hu
  obtain ⟨x, _, hx⟩ := List.mem_flatMap.1 hu
  exact wc_one x u hx
set_option maxRecDepth 8000 in
theorem addr_inj {b o b' o' : Nat} (h : (some ⟨b, o, none⟩ : Option Addr) = some ⟨b', o', none⟩) : b = b' ∧ o = o' := by
  have h := Option.some.inj h
  injection h with h1 h2
  exact ⟨h1, h2⟩
set_option maxRecDepth 8000 in
set_option maxHeartbeats 1600000 in
/-- append of writes that lie there, of none too -/
theorem run_append94s (w : World) (ty : TypeId) {base n : Nat} {v : Value} {xs : List Value} (hown : w.ownsRow base 100 513 v n xs) {A : Option Addr} {m c : Nat} {ws : List (Nat × List UInt8)} (hr : RdW w A ws) (hm : ws.length = m) (hws : ∀ x ∈ ws, x.2.length = 512)
    (hbig : n + m ≤ 1000000) (hbase : base ≤ w.heap.size) :
    ∃ v' w', (Builtin.append_ #[31, 31] ty #[v, .slice A m c]).run Try.prog w = .ok v' w' ∧ w'.ownsRow base 100 513 v' (n + m) (xs ++ ws.flatMap wc) ∧ w.grownBy w' v.ownBlock ∧
      (v'.ownBlock = v.ownBlock ∨ v'.ownBlock = some w.heap.size) := by
  obtain ⟨i, hi, hz, hs, hb⟩ := info_parts info94
  cases A with
  | none =>
    have hk : ws = [] := by
      cases ws with
      | nil => rfl
      | cons x k =>
        obtain ⟨b, off, h, _⟩ := hr 0 x rfl
        cases h
    subst hk
    simp only [List.length_nil] at hm
    subst hm
    refine ⟨v, w, ?_, by simpa using hown, World.grownBy.refl w _, .inl rfl⟩
    rcases hown.2 with ⟨rfl, rfl⟩ | ⟨g, cap, cur, rfl, _, _, hnc, _⟩
    · simp [Builtin.append_, run_underlying Try.underlying31, sizeOf, typeInfo, hi, Builtin.lenOf, Builtin.firstCells]
    · simp [Builtin.append_, run_underlying Try.underlying31, sizeOf, typeInfo, hi, Builtin.lenOf, Builtin.firstCells, hnc, storeCells]
  | some ad =>
    have hnews : ∀ j u, (ws.flatMap wc)[j]? = some u → w.cell? (ad.add j) = some u := by
      cases ws with
      | nil => intro j u hu; simp at hu
      | cons x k =>
        obtain ⟨b, off, h, _⟩ := hr 0 x rfl
        injection h with h
        subst h
        intro j u hu
        rw [add_flat94]
        refine rangeAt_flat (x :: k) off hws (fun i y hy => ?_) j u hu
        obtain ⟨b', off', h', hc⟩ := hr i y hy
        obtain ⟨h1, h2⟩ := addr_inj h'
        rw [h1, h2]
        exact hc
    obtain ⟨v', w', hrun, h2, h3, _, h5⟩ := run_append_own_at (P := Try.prog) w base 31 ty 100 i (wv (0, zs)) 513 520 Try.underlying31 hi hz hs hb (by show (wc (0, zs)).toArray.size = 513; rw [List.size_toArray, wc_length _ zs_length]) (by omega) v n xs hown ad m c (ws.flatMap wc) (by rw [flat_len94 ws hws, hm]) hnews (flat_one94 ws) (by simp only [maxLen]; omega) (by omega) hbase
    exact ⟨v', w', hrun, h2, h3, h5⟩
set_option maxRecDepth 8000 in
theorem step_append94s {ops : Array Oper} {o : Oper} {a : Act} {w : World} {K : Act → World → Prop} {Q : Exit → Act → World → Prop} {E : Prop} (hgd : o.guard = none) (s x : Operand)
    (ho : o.op = .call { callee := .builtin .append, args := #[s, x], argTypes := #[31, 31] }) {base n : Nat} {v : Value} {xs : List Value} (hs : a.eval s = v) (hown : w.ownsRow base 100 513 v n xs)
    {A : Option Addr} {m c : Nat} {ws : List (Nat × List UInt8)} (hx : a.eval x = .slice A m c) (hr : RdW w A ws) (hm : ws.length = m) (hws : ∀ x ∈ ws, x.2.length = 512) (hbig : n + m ≤ 1000000) (hbase : base ≤ w.heap.size)
    (h : ∀ v' w', w'.ownsRow base 100 513 v' (n + m) (xs ++ ws.flatMap wc) → w.grownBy w' v.ownBlock → (v'.ownBlock = v.ownBlock ∨ v'.ownBlock = some w.heap.size) → K (a.put o.dst v') w') :
    if Region.wanted o (yielded ops a.tmps) = true then Oper.wp Try.prog o a w K Q else E := by
  have hw : Region.wanted o (yielded ops a.tmps) = true := by simp [Region.wanted, hgd]
  rw [if_pos hw]
  obtain ⟨v', w', hrun, h2, h3, h4⟩ := run_append94s w o.type hown hr hm (c := c) hws hbig hbase
  unfold Oper.wp execOp
  simp only [ho, resolve, invoke, builtin, Sem.run_bind, Sem.run_pure, Result.andThen_ok, List.map_toArray, List.map_cons, List.map_nil, hs, hx, hrun]
  exact h v' w' h2 h3 h4
set_option maxRecDepth 8000 in
/-- what was appended lies there -/
theorem rdW_own {w : World} {base n c : Nat} {A : Option Addr} {ws : List (Nat × List UInt8)} (hws : ∀ x ∈ ws, x.2.length = 512) (h : w.ownsRow base 100 513 (.slice A n c) n (ws.flatMap wc)) : RdW w A ws := by
  intro i x hx
  have hi : i < ws.length := by
    rcases Nat.lt_or_ge i ws.length with h | h
    · exact h
    · rw [List.getElem?_eq_none h] at hx; cases hx
  rcases h.2 with ⟨e, e2⟩ | ⟨g, cap, cur, e, _⟩
  · injection e with e1 e2 e3
    have := h.1
    rw [flat_len94 ws hws] at this
    omega
  · injection e with e1 e2 e3
    subst e1
    refine ⟨g, 0, rfl, ?_⟩
    intro j v hv
    have hsp : ws.flatMap wc = (ws.take i).flatMap wc ++ (wc x ++ (ws.drop (i + 1)).flatMap wc) := by
      have e4 : ws = ws.take i ++ (x :: ws.drop (i + 1)) := by
        have e5 : ws[i] = x := by rw [List.getElem?_eq_getElem hi] at hx; exact Option.some.inj hx
        rw [← e5, ← List.drop_eq_getElem_cons hi, List.take_append_drop]
      conv => lhs; rw [e4]
      rw [List.flatMap_append, List.flatMap_cons]
    have hl1 : ((ws.take i).flatMap wc).length = i * 513 := by
      rw [flat_len94 _ fun y hy => hws y (List.mem_of_mem_take hy), List.length_take, Nat.min_eq_left (Nat.le_of_lt hi)]
    have hj : j < (wc x).length := by
      rcases Nat.lt_or_ge j (wc x).length with h | h
      · exact h
      · rw [List.getElem?_eq_none h] at hv; cases hv
    have := h.cells (g := g) rfl (i * 513 + j) v (by rw [hsp, List.getElem?_append_right (by omega), hl1, Nat.add_sub_cancel_left, List.getElem?_append_left hj]; exact hv)
    rw [add_flat94] at this
    rwa [show 0 + i * 513 + j = 0 + (i * 513 + j) by omega]
end Go.Proofs.Ytcfkoglehjkkdaa

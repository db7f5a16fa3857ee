/- the document's answer for layer 2: Write, where it is refused or fails. -/
import Derived.Test.YtcfkoglehjkkdaaP17
import Derived.Test.YtcfkoglehjkkdaaP15
import Derived.Test.YtcfkoglehjkkdaaP08
import Derived.Test.YtcfkoglehjkkdaaP12
import Derived.Test.YtcfkoglehjkkdaaP16
import Derived.Test.YtcfkoglehjkkdaaP13
import Derived.Deep.Slices
import Derived.SizedLaws
namespace Go.Proofs.Ytcfkoglehjkkdaa
open Go.RowKit
attribute [local go_sem] Oper.semAt_some
section
variable {w w' : World} {r : Rp} {R : Rf} {z : Nat}
set_option maxRecDepth 100000 in
set_option maxHeartbeats 1600000 in
theorem rwrite_neg (r : Rp) (s : Nat) (n : Int) (hn : n < 0) (l : List UInt8) (w : World) : Calls Try.prog 33 #[r.val s, .int .i64 n, sec l] w fun e w' => e = .returned (.tuple #[r.val s, .int .i64 4]) ∧ Below w.heap.size w w' := by
  have hz := z43
  have d0 : decide (n < 0) = true := decide_eq_true hn
  have K1 := Lib.hid (show Blk (((w.alloc (.cells (r.cells s) 33)).alloc (.cells (bv l).toArray 56)).alloc (.cells #[.slice r.A1 r.n1 r.c1, .slice r.A2 r.n2 r.c2, .int .i64 (s : Int), .slice r.A3 r.n3 r.c3] 33)) (w.heap.size + 1 + 1) 33 #[.slice r.A1 r.n1 r.c1, .slice r.A2 r.n2 r.c2, .int .i64 (s : Int), .slice r.A3 r.n3 r.c3] by have := Blk.new ((w.alloc (.cells (r.cells s) 33)).alloc (.cells (bv l).toArray 56)) 33 #[.slice r.A1 r.n1 r.c1, .slice r.A2 r.n2 r.c2, .int .i64 (s : Int), .slice r.A3 r.n3 r.c3]; simpa using this)
  have KB := Lib.hid (show Below w.heap.size w (((w.alloc (.cells (r.cells s) 33)).alloc (.cells (bv l).toArray 56)).alloc (.cells #[.slice r.A1 r.n1 r.c1, .slice r.A2 r.n2 r.c2, .int .i64 (s : Int), .slice r.A3 r.n3 r.c3] 33)) from (((Below.refl w.heap.size w).alloc (Nat.le_refl _) _).alloc (by simp) _).alloc (by simp; omega) _)
  clear hn
  go_enter Try.func33, Try.ntmps33
  go_wp2
  exact bodyPost_ret (results_ref rfl _ _ (w.heap.size + 1 + 1) #[.slice r.A1 r.n1 r.c1, .slice r.A2 r.n2 r.c2, .int .i64 (s : Int), .slice r.A3 r.n3 r.c3] rfl rfl K1.out) rfl ⟨rfl, KB.out⟩
set_option maxRecDepth 100000 in
set_option maxHeartbeats 1600000 in
theorem rwrite_range (h : RefAt w r R z) (s : Nat) (hs : s ≤ 100000) (n : Int) (hn : ¬ n < 0) (hn2 : (z : Int) ≤ n) (l : List UInt8) : Calls Try.prog 33 #[r.val s, .int .i64 n, sec l] w fun e w' => e = .returned (.tuple #[r.val s, .int .i64 4]) ∧ Below w.heap.size w w' := by
  have d1 : decide ((z : Int) ≤ n) = true := decide_eq_true hn2
  clear hn2
  have hz := z43
  have H := Lib.hid h
  have HS := Lib.hid hs
  have d0 : decide (n < 0) = false := decide_eq_false hn
  obtain ⟨DC, hDC⟩ : ∃ DC, DC = r.cells s := ⟨_, rfl⟩
  have kc0 : DC[0]? = some (.slice r.A1 r.n1 r.c1) := by rw [hDC]; rfl
  have kc1 : DC[1]? = some (.slice r.A2 r.n2 r.c2) := by rw [hDC]; rfl
  have kc2 : DC[2]? = some (.int .i64 (s : Int)) := by rw [hDC]; rfl
  have kc3 : DC[3]? = some (.slice r.A3 r.n3 r.c3) := by rw [hDC]; rfl
  obtain ⟨W, hW⟩ : ∃ W, W = ((w.alloc (.cells DC 33)).alloc (.cells (bv l).toArray 56)).alloc (.cells #[.slice none 0 0, .slice none 0 0, .int .i64 0, .slice none 0 0] 33) := ⟨_, rfl⟩
  have P0 := Lib.hid (show Blk W w.heap.size 33 DC by rw [hW]; exact ((Blk.new w 33 DC).alloc _).alloc _)
  have P2 := Lib.hid (show Blk W (w.heap.size + 1 + 1) 33 #[.slice none 0 0, .slice none 0 0, .int .i64 0, .slice none 0 0] by rw [hW]; have := Blk.new ((w.alloc (.cells DC 33)).alloc (.cells (bv l).toArray 56)) 33 #[.slice none 0 0, .slice none 0 0, .int .i64 0, .slice none 0 0]; simpa using this)
  have BL := Lib.hid (show Below w.heap.size w W by rw [hW]; exact (((Below.refl w.heap.size w).alloc (Nat.le_refl _) _).alloc (by simp) _).alloc (by simp; omega) _)
  have H1 := Lib.hid (show RefAt W r R z by rw [hW]; exact ((h.alloc _).alloc _).alloc _)
  clear h hs hn
  go_enter Try.func33, Try.ntmps33
  go_wp2_with fail
  rw [← hDC, ← hW]
  clear hDC hW
  refine (rsize_any H1.out s).mono ?_
  rintro e w2 ⟨rfl, hb⟩
  have R0 := Lib.hid (P0.out.below hb P0.out.lt)
  have R2 := Lib.hid (P2.out.below hb P2.out.lt)
  have RB := Lib.hid (BL.out.trans (hb.mono BL.out.size))
  have RH := Lib.hid (H1.out.below hb)
  have RN := Lib.hid (show w.heap.size + 1 + 1 < w2.heap.size from R2.out.lt)
  clear hb P0 P2 BL H1
  have a0 := (R0.out.cell 0).trans kc0
  have a1 := (R0.out.cell 1).trans kc1
  have a2 := (R0.out.cell 2).trans kc2
  have a3 := (R0.out.cell 3).trans kc3
  have b0 := (R2.out.cell 0).trans (show _ = some (.slice none 0 0) from rfl)
  have b1 := (R2.out.cell 1).trans (show _ = some (.slice none 0 0) from rfl)
  have b2 := (R2.out.cell 2).trans (show _ = some (.int .i64 0) from rfl)
  have b3 := (R2.out.cell 3).trans (show _ = some (.slice none 0 0) from rfl)
  have bf0 := R2.out.frozen 0
  have bf1 := R2.out.frozen 1
  have bf2 := R2.out.frozen 2
  have bf3 := R2.out.frozen 3
  have J1 := Lib.hid (four_set R2.out (.slice r.A1 r.n1 r.c1) (.slice r.A2 r.n2 r.c2) (.int .i64 (s : Int)) (.slice r.A3 r.n3 r.c3))
  have JB := Lib.hid (four_below RB.out (b := w.heap.size + 1 + 1) (by omega) (.slice r.A1 r.n1 r.c1) (.slice r.A2 r.n2 r.c2) (.int .i64 (s : Int)) (.slice r.A3 r.n3 r.c3))
  go_wp2
  exact bodyPost_ret (results_ref rfl _ _ (w.heap.size + 1 + 1) #[.slice r.A1 r.n1 r.c1, .slice r.A2 r.n2 r.c2, .int .i64 (s : Int), .slice r.A3 r.n3 r.c3] rfl rfl J1.out) rfl ⟨rfl, JB.out⟩
set_option maxRecDepth 100000 in
set_option maxHeartbeats 1600000 in
theorem rwrite_fails (h : RefAt w r R z) (s : Nat) (hs : s ≤ 100000) (n : Int) (hn : ¬ n < 0) (hnz : n < z) (hf : (s : Int) ∈ R.fl) (l : List UInt8) : Calls Try.prog 33 #[r.val s, .int .i64 n, sec l] w fun e w' => e = .returned (.tuple #[r.val (s + 1), .int .i64 120]) ∧ Below w.heap.size w w' := by
  have HST := Lib.hid (show (!(decide ((s : Int) ∈ R.fl))) = false by simp [hf])
  clear hf
  have d1 : decide ((z : Int) ≤ n) = false := decide_eq_false (by omega)
  clear hnz
  have hz := z43
  have H := Lib.hid h
  have HS := Lib.hid hs
  have d0 : decide (n < 0) = false := decide_eq_false hn
  obtain ⟨DC, hDC⟩ : ∃ DC, DC = r.cells s := ⟨_, rfl⟩
  have kc0 : DC[0]? = some (.slice r.A1 r.n1 r.c1) := by rw [hDC]; rfl
  have kc1 : DC[1]? = some (.slice r.A2 r.n2 r.c2) := by rw [hDC]; rfl
  have kc2 : DC[2]? = some (.int .i64 (s : Int)) := by rw [hDC]; rfl
  have kc3 : DC[3]? = some (.slice r.A3 r.n3 r.c3) := by rw [hDC]; rfl
  obtain ⟨W, hW⟩ : ∃ W, W = ((w.alloc (.cells DC 33)).alloc (.cells (bv l).toArray 56)).alloc (.cells #[.slice none 0 0, .slice none 0 0, .int .i64 0, .slice none 0 0] 33) := ⟨_, rfl⟩
  have P0 := Lib.hid (show Blk W w.heap.size 33 DC by rw [hW]; exact ((Blk.new w 33 DC).alloc _).alloc _)
  have P2 := Lib.hid (show Blk W (w.heap.size + 1 + 1) 33 #[.slice none 0 0, .slice none 0 0, .int .i64 0, .slice none 0 0] by rw [hW]; have := Blk.new ((w.alloc (.cells DC 33)).alloc (.cells (bv l).toArray 56)) 33 #[.slice none 0 0, .slice none 0 0, .int .i64 0, .slice none 0 0]; simpa using this)
  have BL := Lib.hid (show Below w.heap.size w W by rw [hW]; exact (((Below.refl w.heap.size w).alloc (Nat.le_refl _) _).alloc (by simp) _).alloc (by simp; omega) _)
  have H1 := Lib.hid (show RefAt W r R z by rw [hW]; exact ((h.alloc _).alloc _).alloc _)
  clear h hs hn
  go_enter Try.func33, Try.ntmps33
  go_wp2_with fail
  rw [← hDC, ← hW]
  clear hDC hW
  refine (rsize_any H1.out s).mono ?_
  rintro e w2 ⟨rfl, hb⟩
  have R0 := Lib.hid (P0.out.below hb P0.out.lt)
  have R2 := Lib.hid (P2.out.below hb P2.out.lt)
  have RB := Lib.hid (BL.out.trans (hb.mono BL.out.size))
  have RH := Lib.hid (H1.out.below hb)
  have RN := Lib.hid (show w.heap.size + 1 + 1 < w2.heap.size from R2.out.lt)
  clear hb P0 P2 BL H1
  have a0 := (R0.out.cell 0).trans kc0
  have a1 := (R0.out.cell 1).trans kc1
  have a2 := (R0.out.cell 2).trans kc2
  have a3 := (R0.out.cell 3).trans kc3
  go_wp2_with fail
  refine (show Calls Try.prog _ #[r.val s] w2 (fun e w' => e = .returned (.tuple #[r.val (s + 1), .bool false]) ∧ Below w2.heap.size w2 w') from HST.out ▸ rstep_any w2 r s R.fl RH.out.n3 (by have := RH.out.m3; omega) (by have := HS.out; omega) RH.out.r3).mono ?_
  rintro e w3 ⟨rfl, hb⟩
  have S2 := Lib.hid ((R2.out.below hb R2.out.lt).alloc (.cells #[.slice r.A1 r.n1 r.c1, .slice r.A2 r.n2 r.c2, .int .i64 ((s : Int) + 1), .slice r.A3 r.n3 r.c3] 33))
  have SB := Lib.hid ((RB.out.trans (hb.mono RB.out.size)).alloc (Nat.le_trans RB.out.size hb.size) (.cells #[.slice r.A1 r.n1 r.c1, .slice r.A2 r.n2 r.c2, .int .i64 ((s : Int) + 1), .slice r.A3 r.n3 r.c3] 33))
  have SN := Lib.hid (show w.heap.size + 1 + 1 < w3.heap.size by have := RN.out; have := hb.size; omega)
  clear hb R0 R2 RB RH a0 a1 a2 a3
  have b0 := (S2.out.cell 0).trans (show _ = some (.slice none 0 0) from rfl)
  have b1 := (S2.out.cell 1).trans (show _ = some (.slice none 0 0) from rfl)
  have b2 := (S2.out.cell 2).trans (show _ = some (.int .i64 0) from rfl)
  have b3 := (S2.out.cell 3).trans (show _ = some (.slice none 0 0) from rfl)
  have bf0 := S2.out.frozen 0
  have bf1 := S2.out.frozen 1
  have bf2 := S2.out.frozen 2
  have bf3 := S2.out.frozen 3
  have J1 := Lib.hid (four_set S2.out (.slice r.A1 r.n1 r.c1) (.slice r.A2 r.n2 r.c2) (.int .i64 ((s : Int) + 1)) (.slice r.A3 r.n3 r.c3))
  have JB := Lib.hid (four_below SB.out (b := w.heap.size + 1 + 1) (by omega) (.slice r.A1 r.n1 r.c1) (.slice r.A2 r.n2 r.c2) (.int .i64 ((s : Int) + 1)) (.slice r.A3 r.n3 r.c3))
  go_wp2
  exact bodyPost_ret (results_ref rfl _ _ (w.heap.size + 1 + 1) #[.slice r.A1 r.n1 r.c1, .slice r.A2 r.n2 r.c2, .int .i64 ((s : Int) + 1), .slice r.A3 r.n3 r.c3] rfl rfl J1.out) rfl ⟨rfl, JB.out⟩
end
end Go.Proofs.Ytcfkoglehjkkdaa
namespace Go.Proofs.Ytcfkoglehjkkdaa
open Go.RowKit
set_option maxRecDepth 8000 in
theorem run_buildSlice94_0 (w : World) : (Instr.buildSlice 31 0 #[]).run Try.prog w = .ok (.slice (some ⟨w.heap.size, 0, none⟩) 0 0) (w.alloc (.cells #[] 100)) := by
  have hs := run_sizeOf (P := Try.prog) size94 w
  simp only [Instr.buildSlice, Sem.run_bind, run_underlying Try.underlying31, Result.andThen_ok, hs]
  rw [if_neg (by decide)]
  simp [newRow, Result.andThen, Instr.fill, Array.range]
theorem step_one94 {ops : Array Oper} {o : Oper} {a : Act} {w : World} {K : Act → World → Prop} {Q : Exit → Act → World → Prop} {E : Prop} (hgd : o.guard = none) (x : Operand) (ho : o.op = .buildSlice 31 1 #[(0, x)]) (e : Nat × List UInt8) (hx : a.eval x = wv e) (he : e.2.length = 512)
    (h : ∀ g7 w', Blk w' g7 100 (wc e).toArray → g7 = w.heap.size → w' = w.alloc (.cells (wc e).toArray 100) → K (a.put o.dst (.slice (some ⟨g7, 0, none⟩) 1 1)) w') :
    if Region.wanted o (yielded ops a.tmps) = true then Oper.wp Try.prog o a w K Q else E := step_buildSlice94 hgd x ho e hx he (h _ _ (Blk.new w _ _) rfl rfl)
set_option maxRecDepth 8000 in
theorem step_make94 {ops : Array Oper} {o : Oper} {a : Act} {w : World} {K : Act → World → Prop} {Q : Exit → Act → World → Prop} {E : Prop} (hgd : o.guard = none) (ho : o.op = .buildSlice 31 0 #[])
    (h : ∀ g0 w', w'.ownsRow w.heap.size 100 513 (.slice (some ⟨g0, 0, none⟩) 0 0) 0 [] → g0 = w.heap.size → w' = w.alloc (.cells #[] 100) → K (a.put o.dst (.slice (some ⟨g0, 0, none⟩) 0 0)) w') :
    if Region.wanted o (yielded ops a.tmps) = true then Oper.wp Try.prog o a w K Q else E := by
  have hw : Region.wanted o (yielded ops a.tmps) = true := by simp [Region.wanted, hgd]
  rw [if_pos hw]
  unfold Oper.wp
  simp [execOp, ho, run_buildSlice94_0 w, Result.andThen]
  exact h _ _ (World.ownsRow_made w #[] 0 (Nat.le_refl _) (by simp [maxLen]) rfl) rfl rfl
/-- while the row is made: the blocks of the call, g its new disk's -/
structure Wg (w0 : World) (r : Rp) (s : Nat) (l : List UInt8) (g : Nat) (W : World) : Prop where
  h0 : Blk W w0.heap.size 33 #[.slice r.A1 r.n1 r.c1, .slice r.A2 r.n2 r.c2, .int .i64 (s : Int), .slice r.A3 r.n3 r.c3]
  h1 : Blk W (w0.heap.size + 1) 56 (bv l).toArray
  h6 : Blk W (w0.heap.size + 1 + 1) 33 #[.slice none 0 0, .slice none 0 0, .int .i64 0, .slice none 0 0]
  h8 : Blk W g 33 #[.slice r.A1 r.n1 r.c1, .slice r.A2 r.n2 r.c2, .int .i64 ((s : Int) + 1), .slice r.A3 r.n3 r.c3]
  be : Below w0.heap.size w0 W
  gt : w0.heap.size + 1 + 1 < g
  sz : g < W.heap.size
section
variable {w0 W W' : World} {r : Rp} {s : Nat} {l : List UInt8} {g : Nat}
set_option maxRecDepth 8000 in
theorem Wg.next (h : Wg w0 r s l g W) (hb : Below (g + 1) W W') : Wg w0 r s l g W' := by
  have h3 := h.gt
  exact ⟨h.h0.below hb (by omega), h.h1.below hb (by omega), h.h6.below hb (by omega), h.h8.below hb (by omega), h.be.trans (hb.mono (by omega)), h.gt, Nat.lt_of_lt_of_le h.sz hb.size⟩
theorem Wg.alloc (h : Wg w0 r s l g W) (o : Obj) : Wg w0 r s l g (W.alloc o) := h.next ((Below.refl _ W).alloc h.sz o)
theorem Wg.grown (h : Wg w0 r s l g W) {e : TypeId} {n : Nat} {v : Value} {xs : List Value} (ho : W.ownsRow (g + 1) e 513 v n xs) (hg : W.grownBy W' v.ownBlock) : Wg w0 r s l g W' :=
  h.next ((Below.refl _ W).grown hg h.sz fun k hk => (ho.lt k hk).1)
theorem Wg.fs (h : Wg w0 r s l g W) : W.cell? ⟨w0.heap.size, 1, none⟩ = some (.slice r.A2 r.n2 r.c2) ∧ W.rangeAt (w0.heap.size + 1) 0 (bv l) := ⟨(h.h0.cell 1).trans rfl, h.h1.rangeAt⟩
set_option maxRecDepth 8000 in
theorem Wg.fs_set (h : Wg w0 r s l g W) (v : Value) : (W.setCell ⟨g, 1, none⟩ v).cell? ⟨w0.heap.size, 1, none⟩ = some (.slice r.A2 r.n2 r.c2) ∧ (W.setCell ⟨g, 1, none⟩ v).rangeAt (w0.heap.size + 1) 0 (bv l) := by
  have h3 := h.gt
  exact ⟨((h.h0.far (p := ⟨g, 1, none⟩) (by simp only; omega) v).cell 1).trans rfl, (h.h1.far (p := ⟨g, 1, none⟩) (by simp only; omega) v).rangeAt⟩
theorem RdW.far {w : World} {A : Option Addr} {ws : List (Nat × List UInt8)} (h : RdW w A ws) {p : Addr} (hp : ∀ b off, A = some ⟨b, off, none⟩ → b ≠ p.block) (v : Value) : RdW (w.setCell p v) A ws := fun i x hx => by
  obtain ⟨b, off, e, hc⟩ := h i x hx
  refine ⟨b, off, e, fun j u hu => ?_⟩
  have := hc j u hu
  have hb : (w.setCell p v).heap[b]? = w.heap[b]? := Below.heap_setCell w p v b (hp b off e)
  unfold World.cell? at this ⊢
  simp only [hb]
  exact this
theorem RdW.one {w : World} {b : Nat} {t : TypeId} {x : Nat × List UInt8} (h : Blk w b t (wc x).toArray) : RdW w (some ⟨b, 0, none⟩) [x] := fun i y hy => by
  match i with
  | 0 =>
    injection hy with hy
    subst hy
    exact ⟨b, 0, rfl, by simpa using h.rangeAt⟩
  | i + 1 => simp at hy
set_option maxRecDepth 8000 in
/-- what the walk comes to -/
theorem wrote_end {R : Rf} {z : Nat} (h : RefAt w0 r R z) (hN : R.ws.length < 100000) {n : Nat} (hn : n < z) (hl : l.length = 512) (hb : Below w0.heap.size w0 W) {A : Option Addr} {c : Nat} (hr : RdW W A (R.ws ++ [(n, l)])) :
    RefAt W ⟨r.A1, r.n1, r.c1, A, r.n2 + 1, c, r.A3, r.n3, r.c3⟩ ⟨R.lb, R.ws ++ [(n, l)], R.fl⟩ z :=
  { n1 := h.n1, l1 := h.l1, r1 := h.r1.below hb, n2 := by simp [h.n2], r2 := hr, n3 := h.n3, r3 := h.r3.below hb, z1 := h.z1, z2 := h.z2, m3 := h.m3
    m2 := by simp; omega
    wl := fun x hx => by
      rcases List.mem_append.1 hx with hx | hx
      · exact h.wl x hx
      · rw [List.mem_singleton] at hx; subst hx; exact ⟨hl, hn⟩ }
end
end Go.Proofs.Ytcfkoglehjkkdaa
namespace Go.Proofs.Ytcfkoglehjkkdaa
open Go.RowKit
attribute [local go_sem] Oper.semAt_some
set_option maxRecDepth 100000 in
set_option maxHeartbeats 8000000 in
theorem rwrite_goes {w : World} {r : Rp} {R : Rf} {z : Nat} (h : RefAt w r R z) (hN : R.ws.length < 100000) (s : Nat) (hs : s ≤ 100000) (n : Nat) (hnz : n < z) (hf : ¬ (s : Int) ∈ R.fl) (l : List UInt8) (hl : l.length = 512) :
    Calls Try.prog 33 #[r.val s, .int .i64 (n : Int), sec l] w fun e w' => ∃ A c, e = .returned (.tuple #[Rp.val ⟨r.A1, r.n1, r.c1, A, r.n2 + 1, c, r.A3, r.n3, r.c3⟩ (s + 1), .int .i64 0]) ∧ Below w.heap.size w w' ∧
      RefAt w' ⟨r.A1, r.n1, r.c1, A, r.n2 + 1, c, r.A3, r.n3, r.c3⟩ ⟨R.lb, R.ws ++ [(n, l)], R.fl⟩ z ∧ ∀ b off, A = some ⟨b, off, none⟩ → w.heap.size ≤ b := by
  have HST := Lib.hid (show (!(decide ((s : Int) ∈ R.fl))) = true by simp [hf])
  have hn : ¬ (n : Int) < 0 := by omega
  have d1 : decide ((z : Int) ≤ (n : Int)) = false := decide_eq_false (by omega)
  have d2 : decide (z ≤ n) = false := decide_eq_false (by omega)
  have HN := Lib.hid hN
  have HL := Lib.hid hl
  have HNZ := Lib.hid hnz
  have HWL := Lib.hid (show ∀ x ∈ R.ws, x.2.length = 512 from fun x hx => (h.wl x hx).1)
  clear hf hnz hl hN
  have hz := z43
  have H := Lib.hid h
  have HS := Lib.hid hs
  have d0 : decide ((n : Int) < 0) = false := decide_eq_false hn
  obtain ⟨DC, hDC⟩ : ∃ DC, DC = r.cells s := ⟨_, rfl⟩
  have HDC := Lib.hid hDC
  have kc0 : DC[0]? = some (.slice r.A1 r.n1 r.c1) := by rw [hDC]; rfl
  have kc1 : DC[1]? = some (.slice r.A2 r.n2 r.c2) := by rw [hDC]; rfl
  have kc2 : DC[2]? = some (.int .i64 (s : Int)) := by rw [hDC]; rfl
  have kc3 : DC[3]? = some (.slice r.A3 r.n3 r.c3) := by rw [hDC]; rfl
  obtain ⟨W, hW⟩ : ∃ W, W = ((w.alloc (.cells DC 33)).alloc (.cells (bv l).toArray 56)).alloc (.cells #[.slice none 0 0, .slice none 0 0, .int .i64 0, .slice none 0 0] 33) := ⟨_, rfl⟩
  have P0 := Lib.hid (show Blk W w.heap.size 33 DC by rw [hW]; exact ((Blk.new w 33 DC).alloc _).alloc _)
  have P1 := Lib.hid (show Blk W (w.heap.size + 1) 56 (bv l).toArray by rw [hW]; have := (Blk.new (w.alloc (.cells DC 33)) 56 (bv l).toArray).alloc (.cells #[.slice none 0 0, .slice none 0 0, .int .i64 0, .slice none 0 0] 33); simpa using this)
  have P2 := Lib.hid (show Blk W (w.heap.size + 1 + 1) 33 #[.slice none 0 0, .slice none 0 0, .int .i64 0, .slice none 0 0] by rw [hW]; have := Blk.new ((w.alloc (.cells DC 33)).alloc (.cells (bv l).toArray 56)) 33 #[.slice none 0 0, .slice none 0 0, .int .i64 0, .slice none 0 0]; simpa using this)
  have BL := Lib.hid (show Below w.heap.size w W by rw [hW]; exact (((Below.refl w.heap.size w).alloc (Nat.le_refl _) _).alloc (by simp) _).alloc (by simp; omega) _)
  have H1 := Lib.hid (show RefAt W r R z by rw [hW]; exact ((h.alloc _).alloc _).alloc _)
  clear h hs hn
  go_enter Try.func33, Try.ntmps33
  go_wp2_with fail
  rw [← hDC, ← hW]
  clear hDC hW
  refine (rsize_any H1.out s).mono ?_
  rintro e w2 ⟨rfl, hb⟩
  have R0 := Lib.hid (P0.out.below hb P0.out.lt)
  have R1 := Lib.hid (P1.out.below hb P1.out.lt)
  have R2 := Lib.hid (P2.out.below hb P2.out.lt)
  have RB := Lib.hid (BL.out.trans (hb.mono BL.out.size))
  have RH := Lib.hid (H1.out.below hb)
  have RN := Lib.hid (show w.heap.size + 1 + 1 < w2.heap.size from R2.out.lt)
  clear hb P0 P1 P2 BL H1
  have a0 := (R0.out.cell 0).trans kc0
  have a1 := (R0.out.cell 1).trans kc1
  have a2 := (R0.out.cell 2).trans kc2
  have a3 := (R0.out.cell 3).trans kc3
  go_wp2_with fail
  refine (show Calls Try.prog _ #[r.val s] w2 (fun e w' => e = .returned (.tuple #[r.val (s + 1), .bool true]) ∧ Below w2.heap.size w2 w') from HST.out ▸ rstep_any w2 r s R.fl RH.out.n3 (by have := RH.out.m3; omega) (by have := HS.out; omega) RH.out.r3).mono ?_
  rintro e w3 ⟨rfl, hb⟩
  have X := Lib.hid (show Wg w r s l w3.heap.size (w3.alloc (.cells #[.slice r.A1 r.n1 r.c1, .slice r.A2 r.n2 r.c2, .int .i64 ((s : Int) + 1), .slice r.A3 r.n3 r.c3] 33)).drew from
    { h0 := by have := ((R0.out.below hb R0.out.lt).alloc (.cells #[.slice r.A1 r.n1 r.c1, .slice r.A2 r.n2 r.c2, .int .i64 ((s : Int) + 1), .slice r.A3 r.n3 r.c3] 33)); rw [HDC.out] at this; exact this
      h1 := (R1.out.below hb R1.out.lt).alloc _
      h6 := (R2.out.below hb R2.out.lt).alloc _
      h8 := Blk.new w3 _ _
      be := ((RB.out.trans (hb.mono RB.out.size)).alloc (Nat.le_trans RB.out.size hb.size) _).drew
      gt := by have := RN.out; have := hb.size; omega
      sz := by simp })
  clear hb R0 R1 R2 RB RH RN a0 a1 a2 a3 kc0 kc1 kc2 kc3 HDC HST
  go_wp2_with fail
  refine wp_region_only (S := fun w' => w'.cell? ⟨w.heap.size, 1, none⟩ = some (.slice r.A2 r.n2 r.c2) ∧ w'.rangeAt (w.heap.size + 1) 0 (bv l)) (by kernel_rfl) X.out.fs (fun hHeld => ?_)
  refine wpAnyH_take (i := 1) (v := ?v1) rfl (by kernel_rfl) (by kernel_rfl) (by kernel_rfl) (fun _ _ _ h => h) (Or.inl ⟨by rfl, ?hy1⟩) hHeld ?rest1
  case hy1 =>
    intro w' hSw
    try dsimp only at hSw
    go_simp
    first | done | with_reducible rfl
  try simp only [Act.put, List.getElem_toArray, List.getElem_cons_succ, List.getElem_cons_zero, List.setIfInBounds_toArray, List.set_cons_zero, List.set_cons_succ]
  refine wpAnyH_take (i := 2) (v := ?v2) rfl (by kernel_rfl) (by kernel_rfl) (by kernel_rfl) (fun _ _ _ h => h) (Or.inl ⟨by rfl, ?hy2⟩) hHeld ?rest2
  case hy2 =>
    intro w' hSw
    try dsimp only at hSw
    go_simp
    first | done | with_reducible rfl
  try simp only [Act.put, List.getElem_toArray, List.getElem_cons_succ, List.getElem_cons_zero, List.setIfInBounds_toArray, List.set_cons_zero, List.set_cons_succ]
  refine wpAnyH_take (i := 4) (v := ?v3) rfl (by kernel_rfl) (by kernel_rfl) (by kernel_rfl) (fun _ _ _ h => h) (Or.inl ⟨by rfl, ?hy3⟩) hHeld ?rest3
  case hy3 =>
    intro w' hSw
    try dsimp only at hSw
    go_simp
    first | done | with_reducible rfl
  try simp only [Act.put, List.getElem_toArray, List.getElem_cons_succ, List.getElem_cons_zero, List.setIfInBounds_toArray, List.set_cons_zero, List.set_cons_succ]
  refine wpAnyH_take (i := 5) rfl (by kernel_rfl) (by kernel_rfl) (by kernel_rfl) (fun _ _ _ h => h) (yieldsIf_load_mid (by rfl) 56 _ (by rfl) (w.heap.size + 1) 0 (by rfl) (bv l) _ (fun w' hSw => hSw.2) Try.underlying56 rfl (by rw [bv_length, HL.out]; exact size47)) hHeld ?_
  try simp only [Act.put, List.getElem_toArray, List.getElem_cons_succ, List.getElem_cons_zero, List.setIfInBounds_toArray, List.set_cons_zero, List.set_cons_succ]
  refine wpAnyH_take (i := 6) rfl (by kernel_rfl) (by kernel_rfl) (by kernel_rfl) (fun _ _ _ h => h) (yieldsIf_build94 (by rfl) _ _ (by rfl) n l (by rfl) (by rfl) HL.out) hHeld ?_
  try simp only [Act.put, List.getElem_toArray, List.getElem_cons_succ, List.getElem_cons_zero, List.setIfInBounds_toArray, List.set_cons_zero, List.set_cons_succ]
  refine wpAnyH_ready (rs := [0, 7]) (by kernel_rfl) (by simp) ?_
  refine AllReadyH.cons (by rfl) (fun K hK => ?_) (AllReadyH.cons (by rfl) (fun K hK => ?_) AllReadyH.nil)
  · refine step_make94 rfl (by rfl) ?_
    intro g0 p1 hown hg0 hw
    have O0 := Lib.hid (own_base hown (show w3.heap.size + 1 ≤ _ from X.out.sz))
    have X := Lib.hid (show Wg w r s l w3.heap.size p1 from by rw [hw]; exact X.out.alloc _)
    clear hown hg0 hw hHeld
    refine hK.out _ _ X.out.fs (fun hHeld => ?_)
    clear hK K
    try simp only [Act.put, List.getElem_toArray, List.getElem_cons_zero, List.setIfInBounds_toArray, List.set_cons_zero, List.set_cons_succ]
    refine wpAnyH_ready (rs := [3, 7]) (by kernel_rfl) (by simp) ?_
    refine AllReadyH.cons (by rfl) (fun K hK => ?_) (AllReadyH.cons (by rfl) (fun K hK => ?_) AllReadyH.nil)
    · refine step_append94s rfl (.tmp 27) (.tmp 29) (by rfl) (by rfl) O0.out (by rfl) ((H.out.r2.below X.out.be)) H.out.n2.symm HWL.out (by have := H.out.n2; have := HN.out; omega) X.out.sz ?_
      intro v3 p2 hown hg hat
      have O3 := Lib.hid (show p2.ownsRow (w3.heap.size + 1) 100 513 v3 r.n2 (R.ws.flatMap wc) by simpa using hown)
      have X := Lib.hid (show Wg w r s l w3.heap.size p2 from X.out.grown O0.out hg)
      clear hown hg hat hHeld O0
      refine hK.out _ _ X.out.fs (fun hHeld => ?_)
      clear hK K
      try simp only [Act.put, List.getElem_toArray, List.getElem_cons_succ, List.getElem_cons_zero, List.setIfInBounds_toArray, List.set_cons_zero, List.set_cons_succ]
      refine wpAnyH_ready (rs := [7]) (by kernel_rfl) (by simp) ?_
      refine AllReadyH.cons (by rfl) (fun K hK => ?_) AllReadyH.nil
      refine step_one94 rfl (.tmp 33) (by rfl) (n, l) (by rfl) HL.out ?_
      intro g7 p3 hb7 hg7 hw
      have N7 := Lib.hid hb7
      have O3 := Lib.hid (show p3.ownsRow (w3.heap.size + 1) 100 513 v3 r.n2 (R.ws.flatMap wc) from by rw [hw]; exact O3.out.alloc _)
      have X := Lib.hid (show Wg w r s l w3.heap.size p3 from by rw [hw]; exact X.out.alloc _)
      clear hb7 hg7 hw hHeld
      refine hK.out _ _ X.out.fs (fun hHeld => ?_)
      clear hK K
      try simp only [Act.put, List.getElem_toArray, List.getElem_cons_succ, List.getElem_cons_zero, List.setIfInBounds_toArray, List.set_cons_zero, List.set_cons_succ]
      refine wpAnyH_ready (rs := [8]) (by kernel_rfl) (by simp) ?_
      refine AllReadyH.cons (by rfl) (fun K hK => ?_) AllReadyH.nil
      refine step_append94s (m := 1) rfl (.tmp 30) (.tmp 34) (by rfl) (by rfl) O3.out (by rfl) (RdW.one N7.out) rfl (by intro x hx; rw [List.mem_singleton] at hx; subst hx; exact HL.out) (by have := H.out.n2; have := HN.out; omega) X.out.sz ?_
      intro v8 p4 hown hg hat
      obtain ⟨A, c, rfl⟩ := own_shape hown
      have O8 := Lib.hid (show p4.ownsRow (w3.heap.size + 1) 100 513 (.slice A (r.n2 + 1) c) (r.n2 + 1) ((R.ws ++ [(n, l)]).flatMap wc) by simpa using hown)
      have X := Lib.hid (show Wg w r s l w3.heap.size p4 from X.out.grown O3.out hg)
      clear hown hg hat hHeld O3 N7
      have e8 := (X.out.h8.cell 1).trans (show _ = some (.slice r.A2 r.n2 r.c2) from rfl)
      have f8 := X.out.h8.frozen 1
      refine hK.out _ _ X.out.fs (fun hHeld => ?_)
      clear hK K
      try simp only [Act.put, List.getElem_toArray, List.getElem_cons_succ, List.getElem_cons_zero, List.setIfInBounds_toArray, List.set_cons_zero, List.set_cons_succ]
      refine wpAnyH_ready (rs := [9]) (by kernel_rfl) (by simp) ?_
      refine AllReadyH.cons (by rfl) (fun K hK => ?_) AllReadyH.nil
      go_simp
      refine hK.out _ _ X.out.fs (fun hHeld => ?_)
      clear hK K
      try simp only [Act.put, List.getElem_toArray, List.getElem_cons_succ, List.getElem_cons_zero, List.setIfInBounds_toArray, List.set_cons_zero, List.set_cons_succ]
      refine wpAnyH_ready (rs := [10]) (by kernel_rfl) (by simp) ?_
      refine AllReadyH.cons (by rfl) (fun K hK => ?_) AllReadyH.nil
      go_simp
      refine hK.out _ _ (X.out.fs_set _) (fun hHeld => ?_)
      clear hK K
      try simp only [Act.put, List.getElem_toArray, List.getElem_cons_succ, List.getElem_cons_zero, List.setIfInBounds_toArray, List.set_cons_zero, List.set_cons_succ]
      refine wpAnyH_done (by kernel_rfl) ?_ _
      refine OnlyN.normal ?_
      clear hHeld e8 f8
      have hgt := X.out.gt
      have Y8 := Lib.hid (show Blk (p4.setCell ⟨w3.heap.size, 1, none⟩ (.slice A (r.n2 + 1) c)) w3.heap.size 33 #[.slice r.A1 r.n1 r.c1, .slice A (r.n2 + 1) c, .int .i64 ((s : Int) + 1), .slice r.A3 r.n3 r.c3] from X.out.h8.set_ 1 _)
      have Y6 := Lib.hid (show Blk (p4.setCell ⟨w3.heap.size, 1, none⟩ (.slice A (r.n2 + 1) c)) (w.heap.size + 1 + 1) 33 #[.slice none 0 0, .slice none 0 0, .int .i64 0, .slice none 0 0] from X.out.h6.far (by simp only; omega) _)
      have YB := Lib.hid (show Below w.heap.size w (p4.setCell ⟨w3.heap.size, 1, none⟩ (.slice A (r.n2 + 1) c)) from X.out.be.setCell (by simp only; omega) _)
      have HA := Lib.hid (show ∀ b off, A = some ⟨b, off, none⟩ → w3.heap.size + 1 ≤ b from fun b off e => by subst e; exact (O8.out.lt b (by rcases O8.out.2 with ⟨e, _⟩ | ⟨g, cap, cur, e, _⟩ <;> injection e with e1 <;> simp [Value.ownBlock] at e1 ⊢)).1)
      have YR := Lib.hid (show RdW (p4.setCell ⟨w3.heap.size, 1, none⟩ (.slice A (r.n2 + 1) c)) A (R.ws ++ [(n, l)]) from (rdW_own (by intro x hx; rcases List.mem_append.1 hx with hx | hx; exact HWL.out x hx; rw [List.mem_singleton] at hx; subst hx; exact HL.out) O8.out).far (fun b off e => by have := HA.out b off e; simp only; omega) _)
      clear X O8
      generalize p4.setCell ⟨w3.heap.size, 1, none⟩ (.slice A (r.n2 + 1) c) = Wf at Y8 Y6 YB YR ⊢
      have a0 := (Y8.out.cell 0).trans (show _ = some (.slice r.A1 r.n1 r.c1) from rfl)
      have a1 := (Y8.out.cell 1).trans (show _ = some (.slice A (r.n2 + 1) c) from rfl)
      have a2 := (Y8.out.cell 2).trans (show _ = some (.int .i64 ((s : Int) + 1)) from rfl)
      have a3 := (Y8.out.cell 3).trans (show _ = some (.slice r.A3 r.n3 r.c3) from rfl)
      have b0 := (Y6.out.cell 0).trans (show _ = some (.slice none 0 0) from rfl)
      have b1 := (Y6.out.cell 1).trans (show _ = some (.slice none 0 0) from rfl)
      have b2 := (Y6.out.cell 2).trans (show _ = some (.int .i64 0) from rfl)
      have b3 := (Y6.out.cell 3).trans (show _ = some (.slice none 0 0) from rfl)
      have bf0 := Y6.out.frozen 0
      have bf1 := Y6.out.frozen 1
      have bf2 := Y6.out.frozen 2
      have bf3 := Y6.out.frozen 3
      have J1 := Lib.hid (four_set Y6.out (.slice r.A1 r.n1 r.c1) (.slice A (r.n2 + 1) c) (.int .i64 ((s : Int) + 1)) (.slice r.A3 r.n3 r.c3))
      have JB := Lib.hid (four_below YB.out (b := w.heap.size + 1 + 1) (by omega) (.slice r.A1 r.n1 r.c1) (.slice A (r.n2 + 1) c) (.int .i64 ((s : Int) + 1)) (.slice r.A3 r.n3 r.c3))
      have JR := Lib.hid ((((YR.out.far (p := ⟨w.heap.size + 1 + 1, 0, none⟩) (fun b off e => by have := HA.out b off e; simp only; omega) (.slice r.A1 r.n1 r.c1)).far (p := ⟨w.heap.size + 1 + 1, 1, none⟩) (fun b off e => by have := HA.out b off e; simp only; omega) (.slice A (r.n2 + 1) c)).far (p := ⟨w.heap.size + 1 + 1, 2, none⟩) (fun b off e => by have := HA.out b off e; simp only; omega) (.int .i64 ((s : Int) + 1))).far (p := ⟨w.heap.size + 1 + 1, 3, none⟩) (fun b off e => by have := HA.out b off e; simp only; omega) (.slice r.A3 r.n3 r.c3))
      go_wp2
      exact bodyPost_ret (results_ref rfl _ _ (w.heap.size + 1 + 1) #[.slice r.A1 r.n1 r.c1, .slice A (r.n2 + 1) c, .int .i64 ((s : Int) + 1), .slice r.A3 r.n3 r.c3] rfl rfl J1.out) rfl ⟨A, c, rfl, JB.out, wrote_end H.out HN.out HNZ.out HL.out JB.out JR.out, fun b off e => by have := HA.out b off e; omega⟩
    · refine step_one94 rfl (.tmp 33) (by rfl) (n, l) (by rfl) HL.out ?_
      intro g7 p2 hb7 hg7 hw
      have N7 := Lib.hid hb7
      have NE := Lib.hid (show g7 ≠ g0 by have := (O0.out.lt g0 rfl).2; omega)
      have O0 := Lib.hid (show p2.ownsRow (w3.heap.size + 1) 100 513 (.slice (some ⟨g0, 0, none⟩) 0 0) 0 [] from by rw [hw]; exact O0.out.alloc _)
      have X := Lib.hid (show Wg w r s l w3.heap.size p2 from by rw [hw]; exact X.out.alloc _)
      clear hb7 hg7 hw hHeld
      refine hK.out _ _ X.out.fs (fun hHeld => ?_)
      clear hK K
      try simp only [Act.put, List.getElem_toArray, List.getElem_cons_succ, List.getElem_cons_zero, List.setIfInBounds_toArray, List.set_cons_zero, List.set_cons_succ]
      refine wpAnyH_ready (rs := [3]) (by kernel_rfl) (by simp) ?_
      refine AllReadyH.cons (by rfl) (fun K hK => ?_) AllReadyH.nil
      refine step_append94s rfl (.tmp 27) (.tmp 29) (by rfl) (by rfl) O0.out (by rfl) ((H.out.r2.below X.out.be)) H.out.n2.symm HWL.out (by have := H.out.n2; have := HN.out; omega) X.out.sz ?_
      intro v3 p3 hown hg hat
      have O3 := Lib.hid (show p3.ownsRow (w3.heap.size + 1) 100 513 v3 r.n2 (R.ws.flatMap wc) by simpa using hown)
      have N7 := Lib.hid (show Blk p3 g7 100 (wc (n, l)).toArray from (hg.block g7 N7.out.lt (fun e => by injection e with e; exact NE.out e)).trans N7.out)
      have X := Lib.hid (show Wg w r s l w3.heap.size p3 from X.out.grown O0.out hg)
      clear hown hg hat hHeld O0
      refine hK.out _ _ X.out.fs (fun hHeld => ?_)
      clear hK K
      try simp only [Act.put, List.getElem_toArray, List.getElem_cons_succ, List.getElem_cons_zero, List.setIfInBounds_toArray, List.set_cons_zero, List.set_cons_succ]
      refine wpAnyH_ready (rs := [8]) (by kernel_rfl) (by simp) ?_
      refine AllReadyH.cons (by rfl) (fun K hK => ?_) AllReadyH.nil
      refine step_append94s (m := 1) rfl (.tmp 30) (.tmp 34) (by rfl) (by rfl) O3.out (by rfl) (RdW.one N7.out) rfl (by intro x hx; rw [List.mem_singleton] at hx; subst hx; exact HL.out) (by have := H.out.n2; have := HN.out; omega) X.out.sz ?_
      intro v8 p4 hown hg hat
      obtain ⟨A, c, rfl⟩ := own_shape hown
      have O8 := Lib.hid (show p4.ownsRow (w3.heap.size + 1) 100 513 (.slice A (r.n2 + 1) c) (r.n2 + 1) ((R.ws ++ [(n, l)]).flatMap wc) by simpa using hown)
      have X := Lib.hid (show Wg w r s l w3.heap.size p4 from X.out.grown O3.out hg)
      clear hown hg hat hHeld O3 N7
      have e8 := (X.out.h8.cell 1).trans (show _ = some (.slice r.A2 r.n2 r.c2) from rfl)
      have f8 := X.out.h8.frozen 1
      refine hK.out _ _ X.out.fs (fun hHeld => ?_)
      clear hK K
      try simp only [Act.put, List.getElem_toArray, List.getElem_cons_succ, List.getElem_cons_zero, List.setIfInBounds_toArray, List.set_cons_zero, List.set_cons_succ]
      refine wpAnyH_ready (rs := [9]) (by kernel_rfl) (by simp) ?_
      refine AllReadyH.cons (by rfl) (fun K hK => ?_) AllReadyH.nil
      go_simp
      refine hK.out _ _ X.out.fs (fun hHeld => ?_)
      clear hK K
      try simp only [Act.put, List.getElem_toArray, List.getElem_cons_succ, List.getElem_cons_zero, List.setIfInBounds_toArray, List.set_cons_zero, List.set_cons_succ]
      refine wpAnyH_ready (rs := [10]) (by kernel_rfl) (by simp) ?_
      refine AllReadyH.cons (by rfl) (fun K hK => ?_) AllReadyH.nil
      go_simp
      refine hK.out _ _ (X.out.fs_set _) (fun hHeld => ?_)
      clear hK K
      try simp only [Act.put, List.getElem_toArray, List.getElem_cons_succ, List.getElem_cons_zero, List.setIfInBounds_toArray, List.set_cons_zero, List.set_cons_succ]
      refine wpAnyH_done (by kernel_rfl) ?_ _
      refine OnlyN.normal ?_
      clear hHeld e8 f8
      have hgt := X.out.gt
      have Y8 := Lib.hid (show Blk (p4.setCell ⟨w3.heap.size, 1, none⟩ (.slice A (r.n2 + 1) c)) w3.heap.size 33 #[.slice r.A1 r.n1 r.c1, .slice A (r.n2 + 1) c, .int .i64 ((s : Int) + 1), .slice r.A3 r.n3 r.c3] from X.out.h8.set_ 1 _)
      have Y6 := Lib.hid (show Blk (p4.setCell ⟨w3.heap.size, 1, none⟩ (.slice A (r.n2 + 1) c)) (w.heap.size + 1 + 1) 33 #[.slice none 0 0, .slice none 0 0, .int .i64 0, .slice none 0 0] from X.out.h6.far (by simp only; omega) _)
      have YB := Lib.hid (show Below w.heap.size w (p4.setCell ⟨w3.heap.size, 1, none⟩ (.slice A (r.n2 + 1) c)) from X.out.be.setCell (by simp only; omega) _)
      have HA := Lib.hid (show ∀ b off, A = some ⟨b, off, none⟩ → w3.heap.size + 1 ≤ b from fun b off e => by subst e; exact (O8.out.lt b (by rcases O8.out.2 with ⟨e, _⟩ | ⟨g, cap, cur, e, _⟩ <;> injection e with e1 <;> simp [Value.ownBlock] at e1 ⊢)).1)
      have YR := Lib.hid (show RdW (p4.setCell ⟨w3.heap.size, 1, none⟩ (.slice A (r.n2 + 1) c)) A (R.ws ++ [(n, l)]) from (rdW_own (by intro x hx; rcases List.mem_append.1 hx with hx | hx; exact HWL.out x hx; rw [List.mem_singleton] at hx; subst hx; exact HL.out) O8.out).far (fun b off e => by have := HA.out b off e; simp only; omega) _)
      clear X O8
      generalize p4.setCell ⟨w3.heap.size, 1, none⟩ (.slice A (r.n2 + 1) c) = Wf at Y8 Y6 YB YR ⊢
      have a0 := (Y8.out.cell 0).trans (show _ = some (.slice r.A1 r.n1 r.c1) from rfl)
      have a1 := (Y8.out.cell 1).trans (show _ = some (.slice A (r.n2 + 1) c) from rfl)
      have a2 := (Y8.out.cell 2).trans (show _ = some (.int .i64 ((s : Int) + 1)) from rfl)
      have a3 := (Y8.out.cell 3).trans (show _ = some (.slice r.A3 r.n3 r.c3) from rfl)
      have b0 := (Y6.out.cell 0).trans (show _ = some (.slice none 0 0) from rfl)
      have b1 := (Y6.out.cell 1).trans (show _ = some (.slice none 0 0) from rfl)
      have b2 := (Y6.out.cell 2).trans (show _ = some (.int .i64 0) from rfl)
      have b3 := (Y6.out.cell 3).trans (show _ = some (.slice none 0 0) from rfl)
      have bf0 := Y6.out.frozen 0
      have bf1 := Y6.out.frozen 1
      have bf2 := Y6.out.frozen 2
      have bf3 := Y6.out.frozen 3
      have J1 := Lib.hid (four_set Y6.out (.slice r.A1 r.n1 r.c1) (.slice A (r.n2 + 1) c) (.int .i64 ((s : Int) + 1)) (.slice r.A3 r.n3 r.c3))
      have JB := Lib.hid (four_below YB.out (b := w.heap.size + 1 + 1) (by omega) (.slice r.A1 r.n1 r.c1) (.slice A (r.n2 + 1) c) (.int .i64 ((s : Int) + 1)) (.slice r.A3 r.n3 r.c3))
      have JR := Lib.hid ((((YR.out.far (p := ⟨w.heap.size + 1 + 1, 0, none⟩) (fun b off e => by have := HA.out b off e; simp only; omega) (.slice r.A1 r.n1 r.c1)).far (p := ⟨w.heap.size + 1 + 1, 1, none⟩) (fun b off e => by have := HA.out b off e; simp only; omega) (.slice A (r.n2 + 1) c)).far (p := ⟨w.heap.size + 1 + 1, 2, none⟩) (fun b off e => by have := HA.out b off e; simp only; omega) (.int .i64 ((s : Int) + 1))).far (p := ⟨w.heap.size + 1 + 1, 3, none⟩) (fun b off e => by have := HA.out b off e; simp only; omega) (.slice r.A3 r.n3 r.c3))
      go_wp2
      exact bodyPost_ret (results_ref rfl _ _ (w.heap.size + 1 + 1) #[.slice r.A1 r.n1 r.c1, .slice A (r.n2 + 1) c, .int .i64 ((s : Int) + 1), .slice r.A3 r.n3 r.c3] rfl rfl J1.out) rfl ⟨A, c, rfl, JB.out, wrote_end H.out HN.out HNZ.out HL.out JB.out JR.out, fun b off e => by have := HA.out b off e; omega⟩
  · refine step_one94 rfl (.tmp 33) (by rfl) (n, l) (by rfl) HL.out ?_
    intro g7 p1 hb7 hg7 hw
    have N7 := Lib.hid hb7
    have X := Lib.hid (show Wg w r s l w3.heap.size p1 from by rw [hw]; exact X.out.alloc _)
    clear hb7 hg7 hw hHeld
    refine hK.out _ _ X.out.fs (fun hHeld => ?_)
    clear hK K
    try simp only [Act.put, List.getElem_toArray, List.getElem_cons_succ, List.getElem_cons_zero, List.setIfInBounds_toArray, List.set_cons_zero, List.set_cons_succ]
    refine wpAnyH_ready (rs := [0]) (by kernel_rfl) (by simp) ?_
    refine AllReadyH.cons (by rfl) (fun K hK => ?_) AllReadyH.nil
    refine step_make94 rfl (by rfl) ?_
    intro g0 p2 hown hg0 hw
    have O0 := Lib.hid (own_base hown (show w3.heap.size + 1 ≤ _ from X.out.sz))
    have NE := Lib.hid (show g7 ≠ g0 by have := N7.out.lt; omega)
    have N7 := Lib.hid (show Blk p2 g7 100 (wc (n, l)).toArray from by rw [hw]; exact N7.out.alloc _)
    have X := Lib.hid (show Wg w r s l w3.heap.size p2 from by rw [hw]; exact X.out.alloc _)
    clear hown hg0 hw hHeld
    refine hK.out _ _ X.out.fs (fun hHeld => ?_)
    clear hK K
    try simp only [Act.put, List.getElem_toArray, List.getElem_cons_zero, List.setIfInBounds_toArray, List.set_cons_zero, List.set_cons_succ]
    refine wpAnyH_ready (rs := [3]) (by kernel_rfl) (by simp) ?_
    refine AllReadyH.cons (by rfl) (fun K hK => ?_) AllReadyH.nil
    refine step_append94s rfl (.tmp 27) (.tmp 29) (by rfl) (by rfl) O0.out (by rfl) ((H.out.r2.below X.out.be)) H.out.n2.symm HWL.out (by have := H.out.n2; have := HN.out; omega) X.out.sz ?_
    intro v3 p3 hown hg hat
    have O3 := Lib.hid (show p3.ownsRow (w3.heap.size + 1) 100 513 v3 r.n2 (R.ws.flatMap wc) by simpa using hown)
    have N7 := Lib.hid (show Blk p3 g7 100 (wc (n, l)).toArray from (hg.block g7 N7.out.lt (fun e => by injection e with e; exact NE.out e)).trans N7.out)
    have X := Lib.hid (show Wg w r s l w3.heap.size p3 from X.out.grown O0.out hg)
    clear hown hg hat hHeld O0
    refine hK.out _ _ X.out.fs (fun hHeld => ?_)
    clear hK K
    try simp only [Act.put, List.getElem_toArray, List.getElem_cons_succ, List.getElem_cons_zero, List.setIfInBounds_toArray, List.set_cons_zero, List.set_cons_succ]
    refine wpAnyH_ready (rs := [8]) (by kernel_rfl) (by simp) ?_
    refine AllReadyH.cons (by rfl) (fun K hK => ?_) AllReadyH.nil
    refine step_append94s (m := 1) rfl (.tmp 30) (.tmp 34) (by rfl) (by rfl) O3.out (by rfl) (RdW.one N7.out) rfl (by intro x hx; rw [List.mem_singleton] at hx; subst hx; exact HL.out) (by have := H.out.n2; have := HN.out; omega) X.out.sz ?_
    intro v8 p4 hown hg hat
    obtain ⟨A, c, rfl⟩ := own_shape hown
    have O8 := Lib.hid (show p4.ownsRow (w3.heap.size + 1) 100 513 (.slice A (r.n2 + 1) c) (r.n2 + 1) ((R.ws ++ [(n, l)]).flatMap wc) by simpa using hown)
    have X := Lib.hid (show Wg w r s l w3.heap.size p4 from X.out.grown O3.out hg)
    clear hown hg hat hHeld O3 N7
    have e8 := (X.out.h8.cell 1).trans (show _ = some (.slice r.A2 r.n2 r.c2) from rfl)
    have f8 := X.out.h8.frozen 1
    refine hK.out _ _ X.out.fs (fun hHeld => ?_)
    clear hK K
    try simp only [Act.put, List.getElem_toArray, List.getElem_cons_succ, List.getElem_cons_zero, List.setIfInBounds_toArray, List.set_cons_zero, List.set_cons_succ]
    refine wpAnyH_ready (rs := [9]) (by kernel_rfl) (by simp) ?_
    refine AllReadyH.cons (by rfl) (fun K hK => ?_) AllReadyH.nil
    go_simp
    refine hK.out _ _ X.out.fs (fun hHeld => ?_)
    clear hK K
    try simp only [Act.put, List.getElem_toArray, List.getElem_cons_succ, List.getElem_cons_zero, List.setIfInBounds_toArray, List.set_cons_zero, List.set_cons_succ]
    refine wpAnyH_ready (rs := [10]) (by kernel_rfl) (by simp) ?_
    refine AllReadyH.cons (by rfl) (fun K hK => ?_) AllReadyH.nil
    go_simp
    refine hK.out _ _ (X.out.fs_set _) (fun hHeld => ?_)
    clear hK K
    try simp only [Act.put, List.getElem_toArray, List.getElem_cons_succ, List.getElem_cons_zero, List.setIfInBounds_toArray, List.set_cons_zero, List.set_cons_succ]
    refine wpAnyH_done (by kernel_rfl) ?_ _
    refine OnlyN.normal ?_
    clear hHeld e8 f8
    have hgt := X.out.gt
    have Y8 := Lib.hid (show Blk (p4.setCell ⟨w3.heap.size, 1, none⟩ (.slice A (r.n2 + 1) c)) w3.heap.size 33 #[.slice r.A1 r.n1 r.c1, .slice A (r.n2 + 1) c, .int .i64 ((s : Int) + 1), .slice r.A3 r.n3 r.c3] from X.out.h8.set_ 1 _)
    have Y6 := Lib.hid (show Blk (p4.setCell ⟨w3.heap.size, 1, none⟩ (.slice A (r.n2 + 1) c)) (w.heap.size + 1 + 1) 33 #[.slice none 0 0, .slice none 0 0, .int .i64 0, .slice none 0 0] from X.out.h6.far (by simp only; omega) _)
    have YB := Lib.hid (show Below w.heap.size w (p4.setCell ⟨w3.heap.size, 1, none⟩ (.slice A (r.n2 + 1) c)) from X.out.be.setCell (by simp only; omega) _)
    have HA := Lib.hid (show ∀ b off, A = some ⟨b, off, none⟩ → w3.heap.size + 1 ≤ b from fun b off e => by subst e; exact (O8.out.lt b (by rcases O8.out.2 with ⟨e, _⟩ | ⟨g, cap, cur, e, _⟩ <;> injection e with e1 <;> simp [Value.ownBlock] at e1 ⊢)).1)
    have YR := Lib.hid (show RdW (p4.setCell ⟨w3.heap.size, 1, none⟩ (.slice A (r.n2 + 1) c)) A (R.ws ++ [(n, l)]) from (rdW_own (by intro x hx; rcases List.mem_append.1 hx with hx | hx; exact HWL.out x hx; rw [List.mem_singleton] at hx; subst hx; exact HL.out) O8.out).far (fun b off e => by have := HA.out b off e; simp only; omega) _)
    clear X O8
    generalize p4.setCell ⟨w3.heap.size, 1, none⟩ (.slice A (r.n2 + 1) c) = Wf at Y8 Y6 YB YR ⊢
    have a0 := (Y8.out.cell 0).trans (show _ = some (.slice r.A1 r.n1 r.c1) from rfl)
    have a1 := (Y8.out.cell 1).trans (show _ = some (.slice A (r.n2 + 1) c) from rfl)
    have a2 := (Y8.out.cell 2).trans (show _ = some (.int .i64 ((s : Int) + 1)) from rfl)
    have a3 := (Y8.out.cell 3).trans (show _ = some (.slice r.A3 r.n3 r.c3) from rfl)
    have b0 := (Y6.out.cell 0).trans (show _ = some (.slice none 0 0) from rfl)
    have b1 := (Y6.out.cell 1).trans (show _ = some (.slice none 0 0) from rfl)
    have b2 := (Y6.out.cell 2).trans (show _ = some (.int .i64 0) from rfl)
    have b3 := (Y6.out.cell 3).trans (show _ = some (.slice none 0 0) from rfl)
    have bf0 := Y6.out.frozen 0
    have bf1 := Y6.out.frozen 1
    have bf2 := Y6.out.frozen 2
    have bf3 := Y6.out.frozen 3
    have J1 := Lib.hid (four_set Y6.out (.slice r.A1 r.n1 r.c1) (.slice A (r.n2 + 1) c) (.int .i64 ((s : Int) + 1)) (.slice r.A3 r.n3 r.c3))
    have JB := Lib.hid (four_below YB.out (b := w.heap.size + 1 + 1) (by omega) (.slice r.A1 r.n1 r.c1) (.slice A (r.n2 + 1) c) (.int .i64 ((s : Int) + 1)) (.slice r.A3 r.n3 r.c3))
    have JR := Lib.hid ((((YR.out.far (p := ⟨w.heap.size + 1 + 1, 0, none⟩) (fun b off e => by have := HA.out b off e; simp only; omega) (.slice r.A1 r.n1 r.c1)).far (p := ⟨w.heap.size + 1 + 1, 1, none⟩) (fun b off e => by have := HA.out b off e; simp only; omega) (.slice A (r.n2 + 1) c)).far (p := ⟨w.heap.size + 1 + 1, 2, none⟩) (fun b off e => by have := HA.out b off e; simp only; omega) (.int .i64 ((s : Int) + 1))).far (p := ⟨w.heap.size + 1 + 1, 3, none⟩) (fun b off e => by have := HA.out b off e; simp only; omega) (.slice r.A3 r.n3 r.c3))
    go_wp2
    exact bodyPost_ret (results_ref rfl _ _ (w.heap.size + 1 + 1) #[.slice r.A1 r.n1 r.c1, .slice A (r.n2 + 1) c, .int .i64 ((s : Int) + 1), .slice r.A3 r.n3 r.c3] rfl rfl J1.out) rfl ⟨A, c, rfl, JB.out, wrote_end H.out HN.out HNZ.out HL.out JB.out JR.out, fun b off e => by have := HA.out b off e; omega⟩
end Go.Proofs.Ytcfkoglehjkkdaa
namespace Go.Proofs.Ytcfkoglehjkkdaa
open Go.RowKit Go.ChangeShapes Go.WideShapes Go.ChangeAt
/-- a call, as it is told by plain data -/
structure Ac where
  what : Int
  sector : Int
  at_ : Int
  byte : UInt8
  sA : Option Addr
  sc : Nat
  steps : List Int
  kA : Option Addr
  kc : Nat
  keep : List Bool
  torn : Int
  bytes : Int
abbrev Ac.cs (x : Ac) : List Value := [.int .i64 x.what, .int .i64 x.sector, .int .i64 x.at_, .int .u8 (x.byte.toNat : Int), .slice x.sA x.steps.length x.sc, .slice x.kA x.keep.length x.kc, .int .i64 x.torn, .int .i64 x.bytes]
abbrev Ac.val (x : Ac) : Value := .agg x.cs.toArray
/-- its lists lie there, and are of a size that there is -/
structure Ac.lies (w : World) (x : Ac) : Prop where
  steps : RdI w x.sA x.steps
  keep : RdB w x.kA x.keep
  s1 : x.steps.length ≤ 140737488351232
  k1 : x.keep.length ≤ 140737488351232
  wf : ∀ n ∈ x.steps, -9223372036854775808 ≤ n ∧ n ≤ 9223372036854775807
theorem Ac.lies.below {w w' : World} {x : Ac} (h : x.lies w) (hb : Below w.heap.size w w') : x.lies w' := { h with steps := h.steps.below hb, keep := h.keep.below hb }
/-- a list of calls lies there -/
def RdA (w : World) (A : Option Addr) (l : List Ac) : Prop := ∀ i x, l[i]? = some x → ∃ b off, A = some ⟨b, off, none⟩ ∧ ∀ j u, x.cs[j]? = some u → w.cell? ⟨b, off + i * 8 + j, none⟩ = some u
theorem RdA.below {w w' : World} {A : Option Addr} {l : List Ac} (h : RdA w A l) (hb : Below w.heap.size w w') : RdA w' A l := fun i x hx => by
  obtain ⟨b, off, e, hc⟩ := h i x hx
  exact ⟨b, off, e, fun j u hu => (hb.cell (p := ⟨b, off + i * 8 + j, none⟩) (cell_lt (hc j u hu))).trans (hc j u hu)⟩
section
variable {H : Type} {enc : TypeId × Value → H} {W : World} {base : Nat} {held : Bool} {fuel : Nat}
theorem spot_none {A : Addr} {v : Value} (h : W.cell? A = some v) : A.spot = none := World.cell?_spot h
set_option maxRecDepth 8000 in
theorem ints_lie {cs : List Value} {x : DataW H × List MemPlace} (h : DataW.trod enc Try.prog W base (fun _ => true) held fuel 24 cs = some x) :
    ∃ (A : Option Addr) (c : Nat) (l : List Int), cs = [.slice A l.length c] ∧ l.length ≤ c ∧ RdI W A l ∧ (∀ n ∈ l, -9223372036854775808 ≤ n ∧ n ≤ 9223372036854775807) ∧ ((∀ n ∈ x.1.weights Try.prog 24, n ≤ reachBytes) → l.length ≤ 140737488351232) := by
  rcases open_ints Try.underlying24 Try.underlying3 (by kernel_rfl) h with ⟨rfl, _⟩ | ⟨a, len, cap, zs, rfl, _, hl, hm, hz, hx, hcell, hwz⟩
  · exact ⟨none, 0, [], rfl, Nat.le_refl _, fun j hj => absurd hj (by simp), by simp, fun _ => by simp⟩
  · have hz' : zs.length = cap := by simpa using hz
    have htl : (zs.take len).length = len := by rw [List.length_take]; omega
    refine ⟨some a, cap, zs.take len, by rw [htl], by omega, fun j hj => ?_, fun n hn => wf_i64 (hwz n (List.mem_of_mem_take hn)), fun hw => ?_⟩
    · rw [htl] at hj
      have hs : a.spot = none := by
        have := spot_none (hcell 0 (by omega))
        simpa [Addr.add] using this
      obtain ⟨b, off, spot⟩ := a
      simp only at hs
      subst hs
      refine ⟨b, off, rfl, ?_⟩
      have := hcell j (by omega)
      rw [add_flat] at this
      rw [this, List.getElem_take, List.getD_eq_getElem?_getD, List.getElem?_eq_getElem (by omega)]
      rfl
    · have hw := hw ((zs.length) * 8) (by
        rw [hx]
        have hu : Try.prog.underlying 24 = some (.slice 3) := Try.underlying24
        have hb : Try.prog.bytesOf 3 = 8 := by kernel_rfl
        simp only [DataW.weights, hu, hb]
        exact List.mem_cons.2 (.inl (by simp only [lits, List.length_map, List.length_take, List.length_drop]; omega)))
      have : reachBytes = 140737488351232 := rfl
      omega
set_option maxRecDepth 8000 in
theorem bools_lie {cs : List Value} {x : DataW H × List MemPlace} (h : DataW.trod enc Try.prog W base (fun _ => true) held fuel 60 cs = some x) :
    ∃ (A : Option Addr) (c : Nat) (l : List Bool), cs = [.slice A l.length c] ∧ l.length ≤ c ∧ RdB W A l ∧ ((∀ n ∈ x.1.weights Try.prog 60, n ≤ reachBytes) → l.length ≤ 140737488351232) := by
  have hu : Try.prog.underlying 60 = some (.slice 4) := Try.underlying60
  rcases Go.Deep.open_slice hu h with ⟨rfl, _⟩ | ⟨a, len, cap, m, n, D, Pl, rfl, _, hl, hm, hmm, hx, hi⟩
  · exact ⟨none, 0, [], rfl, Nat.le_refl _, fun j hj => absurd hj (by simp), fun _ => by simp⟩
  · rw [show Try.prog.cellsOf 4 = 1 by kernel_rfl] at hi
    have hmc : m = cap := by simpa using hmm
    have key : ∀ i, i < len → ∃ b : Bool, a.spot = none ∧ W.cell? ⟨a.block, a.off + i, none⟩ = some (.bool b) := by
      intro i hil
      obtain ⟨cs', hc, ht⟩ := hi i (by omega)
      obtain ⟨b, rfl, _⟩ := DataW.trod_bool Try.underlying4 ht
      have h0 := (World.cells?_some hc).2.2 0 (by decide)
      have hs : a.spot = none := by
        obtain ⟨cs0, hc0, ht0⟩ := hi 0 (by omega)
        obtain ⟨b0, rfl, _⟩ := DataW.trod_bool Try.underlying4 ht0
        have := spot_none ((World.cells?_some hc0).2.2 0 (by decide))
        simpa [Addr.add] using this
      obtain ⟨b', off, spot⟩ := a
      simp only at hs
      subst hs
      refine ⟨b, rfl, ?_⟩
      simpa [add_flat] using h0
    let f : Nat → Bool := fun i => if h : i < len then (key i h).choose else false
    have hf : ∀ i (h : i < len), a.spot = none ∧ W.cell? ⟨a.block, a.off + i, none⟩ = some (.bool (f i)) := fun i h => by
      have := (key i h).choose_spec
      simp only [f, h, dif_pos]
      exact this
    refine ⟨some a, cap, (List.range len).map f, by simp, by simpa using hl, fun j hj => ?_, fun hw => ?_⟩
    · simp at hj
      obtain ⟨hs, hc⟩ := hf j hj
      obtain ⟨b', off, spot⟩ := a
      simp only at hs
      subst hs
      exact ⟨b', off, rfl, by rw [hc]; simp⟩
    · have hw := hw (m * 1) (by
        rw [hx]
        have hb : Try.prog.bytesOf 4 = 1 := by kernel_rfl
        simp only [DataW.weights, hu, hb]
        exact List.mem_cons.2 (.inl (by simp only [List.length_map, List.length_range]; omega)))
      have : reachBytes = 140737488351232 := rfl
      simp
      omega
set_option maxRecDepth 8000 in
theorem byte_of_u8 {n : Int} (h : (Lit.int .u8 n).wf = true) : ∃ b : UInt8, n = (b.toNat : Int) := by
  have hb := wf_u8 h
  exact ⟨UInt8.ofNat n.toNat, by simp; omega⟩
end
end Go.Proofs.Ytcfkoglehjkkdaa

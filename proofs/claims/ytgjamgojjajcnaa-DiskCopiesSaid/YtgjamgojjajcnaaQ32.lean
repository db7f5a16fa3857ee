/- the document's answer for layer 2: Flush, whatever waits. -/
import Derived.Test.YtgjamgojjajcnaaQ13
import Derived.Test.YtgjamgojjajcnaaQ17
import Derived.Test.YtgjamgojjajcnaaQ19
import Derived.Test.YtgjamgojjajcnaaQ20
import Derived.Test.YtgjamgojjajcnaaQ31
import Derived.Test.YtgjamgojjajcnaaQ05
import Derived.Test.YtgjamgojjajcnaaQ06
import Derived.Test.YtgjamgojjajcnaaQ24
import Derived.Test.YtgjamgojjajcnaaQ15
namespace Go.Proofs.Ytgjamgojjajcnaa
open Go.RowKit
theorem below_row {B : Nat} {a w : World} {b : Nat} (h : Below B a w) (hB : B ≤ w.heap.size) (hb : B ≤ b) (c : Array Value) : Below B a (w.setRow b c) := h.trans ((setRow_fr' w b c).to_below (fun _ e => e ▸ hb) hB)
set_option maxRecDepth 8000 in
theorem blk_new_of (w : World) (t : TypeId) (c : Array Value) {g : Nat} (hg : g = w.heap.size) : Blk (w.alloc (.cells c t)) g t c := by
  subst hg
  exact Blk.new w t c
theorem blk_k {w w' : World} {g : Nat} {t : TypeId} {c : Array Value} (h : Blk w g t c) (hb : Below w.heap.size w w') : Blk w' g t c := h.below hb h.lt
set_option maxRecDepth 8000 in
theorem wpList_store_new4 {P : Program} {ops : Array Oper} {rest : List Oper} {o : Oper} {a : Act} {Q : Exit → Act → World → Prop} {W : World} {t ty : TypeId} {c0 c : Array Value} (hgd : o.guard = none) (x y : Operand) (ho : o.op = .store ty x y) (hx : a.eval x = .pointer (some ⟨W.heap.size, 0, none⟩)) (hy : a.eval y = .agg c) (hs : (P.info? ty).map (·.size) = some c.size) (hl : c0.size = c.size) (h1 : c.all (·.oneCell') = true)
    (h : wpList P ops Q rest (a.put o.dst undef) (W.alloc (.cells c t))) : wpList P ops Q (o :: rest) a (W.alloc (.cells c0 t)) := by
  refine wpList_store_row hgd ty x y ho W.heap.size c hx hy t c0 (Blk.new W t c0) hs hl h1 ?_
  rw [World.setRow_alloc_new]
  exact h
theorem rd_far {w : World} {A : Option Addr} {l : List UInt8} {p : Addr} (h : Rd w A l) (hA : ∀ b off, A = some ⟨b, off, none⟩ → b ≠ p.block) (u : Value) : Rd (w.setCell p u) A l := fun j hj => by
  obtain ⟨b, off, e, hc⟩ := h j hj
  exact ⟨b, off, e, (World.cell?_of_block (a := ⟨b, off + j, none⟩) (Below.heap_setCell w p u b (hA b off e))).trans hc⟩
theorem rd_row {w : World} {A : Option Addr} {l : List UInt8} {g : Nat} (h : Rd w A l) (hA : ∀ b off, A = some ⟨b, off, none⟩ → b ≠ g) (c : Array Value) : Rd (w.setRow g c) A l := fun j hj => by
  obtain ⟨b, off, e, hc⟩ := h j hj
  exact ⟨b, off, e, (World.cell?_of_block (a := ⟨b, off + j, none⟩) ((setRow_fr' w g c).block b (cell_lt hc) (hA b off e))).trans hc⟩
theorem blk_row {w : World} {b : Nat} {t : TypeId} {l0 : Array Value} (h : Blk w b t l0) (c : Array Value) : Blk (w.setRow b c) b t c := setRow_heap w b l0 c t (0, 0) h
section
variable {w : World} {r : Rp} {R : Rf} {z : Nat}
set_option maxRecDepth 100000 in
set_option maxHeartbeats 4000000 in
theorem rflush_fails (h : RefAt w r R z) (s : Nat) (hs : s ≤ 100000) (hf : (s : Int) ∈ R.fl) :
    Calls Try.prog 33 #[r.val s] w fun e w' => e = .returned (.tuple #[r.val (s + 1), .int .i64 120]) ∧ Below w.heap.size w w' := by
  have hz := z43
  have H := Lib.hid h
  obtain ⟨N, hN⟩ : ∃ N, N = z * 512 := ⟨_, rfl⟩
  have HNE := Lib.hid hN
  have NB := Lib.hid (show 0 < N ∧ N ≤ 3000000 by have := h.z1; have := h.z2; omega)
  have hn1 : r.n1 = N := h.n1.trans hN.symm
  have CT := Lib.hid (fun (b : Bool) (hb : (!(decide ((s : Int) ∈ R.fl))) = b) (W : World) (hw : RdI W r.A3 R.fl) => (show Calls Try.prog 42 #[.agg #[.slice r.A1 N r.c1, .slice r.A2 r.n2 r.c2, .int .i64 (s : Int), .slice r.A3 r.n3 r.c3]] W
    fun e w' => e = .returned (.tuple #[.agg #[.slice r.A1 N r.c1, .slice r.A2 r.n2 r.c2, .int .i64 ((s : Int) + 1), .slice r.A3 r.n3 r.c3], .bool b]) ∧ Below W.heap.size W w' from hb ▸ hn1 ▸ rstep_any W r s R.fl H.out.n3 (by have := H.out.m3; omega) (by omega) hw))
  have HN2 := Lib.hid h.n2
  have hm := h.m2
  have P1 := Lib.hid ((Blk.new w 34 #[.slice r.A1 N r.c1, .slice r.A2 r.n2 r.c2, .int .i64 (s : Int), .slice r.A3 r.n3 r.c3]).alloc (.cells #[.slice none 0 0, .slice none 0 0, .int .i64 0, .slice none 0 0] 34))
  have P2 := Lib.hid (blk_new_of (w.alloc (.cells #[.slice r.A1 N r.c1, .slice r.A2 r.n2 r.c2, .int .i64 (s : Int), .slice r.A3 r.n3 r.c3] 34)) 34 #[.slice none 0 0, .slice none 0 0, .int .i64 0, .slice none 0 0] (g := w.heap.size + 1) (by simp))
  have BL := Lib.hid (((Below.refl w.heap.size w).alloc (Nat.le_refl _) (.cells #[.slice r.A1 N r.c1, .slice r.A2 r.n2 r.c2, .int .i64 (s : Int), .slice r.A3 r.n3 r.c3] 34)).alloc (by simp) (.cells #[.slice none 0 0, .slice none 0 0, .int .i64 0, .slice none 0 0] 34))
  have H1 := Lib.hid ((h.alloc (.cells #[.slice r.A1 N r.c1, .slice r.A2 r.n2 r.c2, .int .i64 (s : Int), .slice r.A3 r.n3 r.c3] 34)).alloc (.cells #[.slice none 0 0, .slice none 0 0, .int .i64 0, .slice none 0 0] 34))
  rw [show r.val s = .agg #[.slice r.A1 N r.c1, .slice r.A2 r.n2 r.c2, .int .i64 (s : Int), .slice r.A3 r.n3 r.c3] by show Value.agg (r.cells s) = _; rw [Rp.cells, hn1], show r.val (s + 1) = .agg #[.slice r.A1 N r.c1, .slice r.A2 r.n2 r.c2, .int .i64 ((s : Int) + 1), .slice r.A3 r.n3 r.c3] by show Value.agg (r.cells (s + 1)) = _; rw [Rp.cells, hn1]; rfl]
  have HF := Lib.hid (show (!(decide ((s : Int) ∈ R.fl))) = false by simp [hf])
  clear h hN hf
  obtain ⟨a0, a1, a2, a3⟩ := cells4 P1.out
  go_enter Try.func33, Try.ntmps33
  go_wp2_with (first
    | (go_at_call 42; refine (CT.out false HF.out _ H1.out.r3).mono ?_; rintro e w3 ⟨rfl, b3⟩; have Q2 := Lib.hid ((blk_k P2.out b3).alloc (.cells #[.slice r.A1 N r.c1, .slice r.A2 r.n2 r.c2, .int .i64 ((s : Int) + 1), .slice r.A3 r.n3 r.c3] 34)); have Q4 := Lib.hid (Blk.new w3 34 #[.slice r.A1 N r.c1, .slice r.A2 r.n2 r.c2, .int .i64 ((s : Int) + 1), .slice r.A3 r.n3 r.c3]); have B3 := Lib.hid ((BL.out.trans (b3.mono BL.out.size)).alloc (Nat.le_trans BL.out.size b3.size) (.cells #[.slice r.A1 N r.c1, .slice r.A2 r.n2 r.c2, .int .i64 ((s : Int) + 1), .slice r.A3 r.n3 r.c3] 34)); clear b3 a0 a1 a2 a3; obtain ⟨a0, a1, a2, a3⟩ := cells4 Q4.out)
    | (show wpList _ _ _ ({ dst := none, op := .store _ (.tmp 4) (.tmp 10), type := _, pos := _, after := _, guard := _ } :: _) _ _; refine wpList_store_new4 (c := #[.slice r.A1 N r.c1, .slice r.A2 r.n2 r.c2, .int .i64 ((s : Int) + 1), .slice r.A3 r.n3 r.c3]) (c0 := #[.slice none 0 0, .slice none 0 0, .int .i64 0, .slice none 0 0]) (ty := 34) rfl (.tmp 4) (.tmp 10) rfl rfl rfl (size43c _ _ _ _) rfl (one43 _ _ _ _ _ _ _ _ _ _) ?_)
    | (show wpList _ _ _ ({ dst := none, op := .store _ (.tmp 2) (.tmp 14), type := _, pos := _, after := _, guard := _ } :: _) _ _; refine wpList_store_row rfl 34 (.tmp 2) (.tmp 14) rfl (w.heap.size + 1) #[.slice r.A1 N r.c1, .slice r.A2 r.n2 r.c2, .int .i64 ((s : Int) + 1), .slice r.A3 r.n3 r.c3] rfl rfl 34 #[.slice none 0 0, .slice none 0 0, .int .i64 0, .slice none 0 0] (Q2.out) (size43c _ _ _ _) rfl (one43 _ _ _ _ _ _ _ _ _ _) ?_))
  exact bodyPost_ret (results_ref rfl _ _ (w.heap.size + 1) #[.slice r.A1 N r.c1, .slice r.A2 r.n2 r.c2, .int .i64 ((s : Int) + 1), .slice r.A3 r.n3 r.c3] rfl rfl (blk_row Q2.out _)) rfl ⟨rfl, below_row B3.out B3.out.size (by omega) _⟩
set_option maxRecDepth 100000 in
set_option maxHeartbeats 4000000 in
theorem rflush_goes (h : RefAt w r R z) (s : Nat) (hs : s ≤ 100000) (hf : ¬ ((s : Int) ∈ R.fl)) :
    Calls Try.prog 33 #[r.val s] w fun e w' => ∃ A' c', e = .returned (.tuple #[Rp.val ⟨A', r.n1, c', none, 0, 0, r.A3, r.n3, r.c3⟩ (s + 1), .int .i64 0]) ∧ Below w.heap.size w w' ∧ Rd w' A' (layR R.lb R.ws) ∧ ((A' = r.A1) ∨ ∀ b off, A' = some ⟨b, off, none⟩ → w.heap.size ≤ b) := by
  have hz := z43
  have H := Lib.hid h
  obtain ⟨N, hN⟩ : ∃ N, N = z * 512 := ⟨_, rfl⟩
  have HNE := Lib.hid hN
  have NB := Lib.hid (show 0 < N ∧ N ≤ 3000000 by have := h.z1; have := h.z2; omega)
  have hn1 : r.n1 = N := h.n1.trans hN.symm
  have CT := Lib.hid (fun (b : Bool) (hb : (!(decide ((s : Int) ∈ R.fl))) = b) (W : World) (hw : RdI W r.A3 R.fl) => (show Calls Try.prog 42 #[.agg #[.slice r.A1 N r.c1, .slice r.A2 r.n2 r.c2, .int .i64 (s : Int), .slice r.A3 r.n3 r.c3]] W
    fun e w' => e = .returned (.tuple #[.agg #[.slice r.A1 N r.c1, .slice r.A2 r.n2 r.c2, .int .i64 ((s : Int) + 1), .slice r.A3 r.n3 r.c3], .bool b]) ∧ Below W.heap.size W w' from hb ▸ hn1 ▸ rstep_any W r s R.fl H.out.n3 (by have := H.out.m3; omega) (by omega) hw))
  have HN2 := Lib.hid h.n2
  have hm := h.m2
  have P1 := Lib.hid ((Blk.new w 34 #[.slice r.A1 N r.c1, .slice r.A2 r.n2 r.c2, .int .i64 (s : Int), .slice r.A3 r.n3 r.c3]).alloc (.cells #[.slice none 0 0, .slice none 0 0, .int .i64 0, .slice none 0 0] 34))
  have P2 := Lib.hid (blk_new_of (w.alloc (.cells #[.slice r.A1 N r.c1, .slice r.A2 r.n2 r.c2, .int .i64 (s : Int), .slice r.A3 r.n3 r.c3] 34)) 34 #[.slice none 0 0, .slice none 0 0, .int .i64 0, .slice none 0 0] (g := w.heap.size + 1) (by simp))
  have BL := Lib.hid (((Below.refl w.heap.size w).alloc (Nat.le_refl _) (.cells #[.slice r.A1 N r.c1, .slice r.A2 r.n2 r.c2, .int .i64 (s : Int), .slice r.A3 r.n3 r.c3] 34)).alloc (by simp) (.cells #[.slice none 0 0, .slice none 0 0, .int .i64 0, .slice none 0 0] 34))
  have H1 := Lib.hid ((h.alloc (.cells #[.slice r.A1 N r.c1, .slice r.A2 r.n2 r.c2, .int .i64 (s : Int), .slice r.A3 r.n3 r.c3] 34)).alloc (.cells #[.slice none 0 0, .slice none 0 0, .int .i64 0, .slice none 0 0] 34))
  rw [show r.val s = .agg #[.slice r.A1 N r.c1, .slice r.A2 r.n2 r.c2, .int .i64 (s : Int), .slice r.A3 r.n3 r.c3] by show Value.agg (r.cells s) = _; rw [Rp.cells, hn1], hn1]
  have HF := Lib.hid (show (!(decide ((s : Int) ∈ R.fl))) = true by simp [hf])
  clear h hN hf hn1
  obtain ⟨a0, a1, a2, a3⟩ := cells4 P1.out
  go_enter Try.func33, Try.ntmps33
  go_wp2_with (first
    | (go_at_call 42; refine (CT.out true HF.out _ H1.out.r3).mono ?_; rintro e w3 ⟨rfl, b3⟩; have Q1 := Lib.hid ((blk_k P1.out b3).alloc (.cells #[.slice r.A1 N r.c1, .slice r.A2 r.n2 r.c2, .int .i64 ((s : Int) + 1), .slice r.A3 r.n3 r.c3] 34)); have Q2 := Lib.hid ((blk_k P2.out b3).alloc (.cells #[.slice r.A1 N r.c1, .slice r.A2 r.n2 r.c2, .int .i64 ((s : Int) + 1), .slice r.A3 r.n3 r.c3] 34)); have Q4 := Lib.hid (Blk.new w3 34 #[.slice r.A1 N r.c1, .slice r.A2 r.n2 r.c2, .int .i64 ((s : Int) + 1), .slice r.A3 r.n3 r.c3]); have QB := Lib.hid ((BL.out.trans (b3.mono BL.out.size)).alloc (Nat.le_trans BL.out.size b3.size) (.cells #[.slice r.A1 N r.c1, .slice r.A2 r.n2 r.c2, .int .i64 ((s : Int) + 1), .slice r.A3 r.n3 r.c3] 34)); have HB4 := Lib.hid (show w.heap.size + 1 < w3.heap.size from Nat.lt_of_lt_of_le P2.out.lt b3.size); clear b3 a0 a1 a2 a3)
    | (show wpList _ _ _ ({ dst := none, op := .store _ (.tmp 4) (.tmp 10), type := _, pos := _, after := _, guard := _ } :: _) _ _; refine wpList_store_new4 (c := #[.slice r.A1 N r.c1, .slice r.A2 r.n2 r.c2, .int .i64 ((s : Int) + 1), .slice r.A3 r.n3 r.c3]) (c0 := #[.slice none 0 0, .slice none 0 0, .int .i64 0, .slice none 0 0]) (ty := 34) rfl (.tmp 4) (.tmp 10) rfl rfl rfl (size43c _ _ _ _) rfl (one43 _ _ _ _ _ _ _ _ _ _) ?_))
  have QO : Hid (Rd (w3.alloc (.cells #[.slice r.A1 N r.c1, .slice r.A2 r.n2 r.c2, .int .i64 ((s : Int) + 1), .slice r.A3 r.n3 r.c3] 34)) r.A1 R.lb) := Lib.hid (H.out.r1.below QB.out)
  generalize w3.alloc (.cells #[.slice r.A1 N r.c1, .slice r.A2 r.n2 r.c2, .int .i64 ((s : Int) + 1), .slice r.A3 r.n3 r.c3] 34) = W3 at Q1 Q2 Q4 QB QO ⊢
  generalize w3.heap.size = b4 at Q4 HB4 ⊢
  go_loopw [6] (fun i wr => ∃ (k : Nat) (A : Option Addr) (c : Nat), k ≤ R.ws.length ∧ i = .int .i64 (k : Int) ∧ Rd wr A (layR R.lb (R.ws.take k)) ∧ (A = r.A1 ∨ ∀ b off, A = some ⟨b, off, none⟩ → b4 < b) ∧ Blk wr w.heap.size 34 #[.slice r.A1 N r.c1, .slice r.A2 r.n2 r.c2, .int .i64 (s : Int), .slice r.A3 r.n3 r.c3] ∧ Blk wr (w.heap.size + 1) 34 #[.slice none 0 0, .slice none 0 0, .int .i64 0, .slice none 0 0] ∧ Blk wr b4 34 #[.slice A N c, .slice r.A2 r.n2 r.c2, .int .i64 ((s : Int) + 1), .slice r.A3 r.n3 r.c3] ∧ Below w.heap.size w wr) (fun i _ => R.ws.length - (intOf i).toNat)
  case atStart => exact ⟨0, r.A1, r.c1, Nat.zero_le _, rfl, QO.out, .inl rfl, Q1.out, Q2.out, Q4.out, QB.out⟩
  case round =>
    obtain ⟨k, A, c, hk, rfl, ho, hA, h1, h2, h4, hb⟩ := hrel
    clear P1 P2 BL H1 Q1 Q2 Q4 QB QO
    have QO := Lib.hid ho
    have HAA := Lib.hid hA
    have Q1 := Lib.hid h1
    have Q2 := Lib.hid h2
    have Q4 := Lib.hid h4
    have QB := Lib.hid hb
    have a1 := (cells4 h1).2.1
    have HLL := Lib.hid (show (layR R.lb (R.ws.take k)).length = N by rw [HNE.out]; exact layR_length _ _ H.out.l1 (fun y hy => H.out.wl y (List.mem_of_mem_take hy)))
    clear ho hA h1 h2 h4 hb
    by_cases hlt : k < R.ws.length
    · obtain ⟨x, hx⟩ : ∃ x, R.ws[k]? = some x := ⟨_, List.getElem?_eq_getElem hlt⟩
      obtain ⟨wb, wo, hA2, _⟩ := H.out.r2 k x hx
      have HA2 := Lib.hid hA2
      have HC_ := Lib.hid (show ∀ W, Below w.heap.size w W → W.rangeAt wb (wo + k * 513) (wc x) from fun W hW => by
        obtain ⟨b', o', e', hc⟩ := (H.out.r2.below hW) k x hx
        rw [hA2] at e'
        injection e' with e'
        injection e' with e1 e2
        subst e1 e2
        exact hc)
      have HA1 := Lib.hid (show ∀ W, Blk W w.heap.size 34 #[.slice r.A1 N r.c1, .slice r.A2 r.n2 r.c2, .int .i64 (s : Int), .slice r.A3 r.n3 r.c3] → W.cell? ⟨w.heap.size, 1, none⟩ = some (.slice (some ⟨wb, wo, none⟩) r.n2 r.c2) from fun W hW => by
        have := (cells4 hW).2.1
        rw [hA2] at this
        exact this)
      rw [hA2] at a1
      have HX := Lib.hid (show R.ws.take (k + 1) = R.ws.take k ++ [x] by rw [List.take_add_one, hx]; rfl)
      have HW := Lib.hid (H.out.wl x (List.mem_of_getElem? hx))
      have i1 : (0 : Int) ≤ (k : Int) := by omega
      have i2 : (k : Int) < (r.n2 : Int) := by have := HN2.out; omega
      have kb : k ≤ 100000 := by omega
      have LAID := Lib.hid (fun (W : World) (hr : Rd W A (layR R.lb (R.ws.take k))) => show Calls Try.prog 59 #[.slice A N c, wv x, .int .i64 512] W fun e w' => ∃ v, e = .returned v ∧ w'.ownsRow W.heap.size 5 1 v N (bv (laidF (layR R.lb (R.ws.take k)) x 512)) ∧ Below W.heap.size W w' from by
        have := laid_any W A c (layR R.lb (R.ws.take k)) x 512 hr (by rw [HLL.out]; exact NB.out.1) (by rw [HLL.out]; exact NB.out.2) HW.out.1 (by omega) (.inr (by rw [HLL.out, HNE.out]; have := HW.out.2; omega))
        rw [HLL.out] at this
        exact this)
      clear hx hA2
      go_wp2_with fail
      refine wp_region_U (S := fun w' => w'.cell? ⟨b4, 0, none⟩ = some (.slice A N c) ∧ w'.cell? ⟨w.heap.size, 1, none⟩ = some (.slice (some ⟨wb, wo, none⟩) r.n2 r.c2) ∧ w'.rangeAt wb (wo + k * 513) (wc x)) 9 (by kernel_rfl) ⟨(cells4 Q4.out).1, HA1.out _ Q1.out, HC_.out wr QB.out⟩ (fun hHeld => ?_)
      refine wpAnyU_take (i := 0) (v := ?v1) rfl (by kernel_rfl) (by kernel_rfl) (by kernel_rfl) (by kernel_rfl) (fun _ _ _ h => h) (Or.inl ⟨by rfl, ?hy1⟩) hHeld ?rest1
      case hy1 =>
        intro w' hSw
        try dsimp only at hSw
        go_simp
        first | done | with_reducible rfl
      try simp only [Act.put, List.getElem_toArray, List.getElem_cons_zero, List.setIfInBounds_toArray, List.set_cons_zero, List.set_cons_succ]
      refine wpAnyU_take (i := 1) (v := ?v2) rfl (by kernel_rfl) (by kernel_rfl) (by kernel_rfl) (by kernel_rfl) (fun _ _ _ h => h) (Or.inl ⟨by rfl, ?hy2⟩) hHeld ?rest2
      case hy2 =>
        intro w' hSw
        try dsimp only at hSw
        go_simp
        first | done | with_reducible rfl
      try simp only [Act.put, List.getElem_toArray, List.getElem_cons_succ, List.getElem_cons_zero, List.setIfInBounds_toArray, List.set_cons_zero, List.set_cons_succ]
      refine wpAnyU_take (i := 2) (v := ?v3) rfl (by kernel_rfl) (by kernel_rfl) (by kernel_rfl) (by kernel_rfl) (fun _ _ _ h => h) (Or.inl ⟨by rfl, ?hy3⟩) hHeld ?rest3
      case hy3 =>
        intro w' hSw
        try dsimp only at hSw
        go_simp
        first | done | with_reducible rfl
      try simp only [Act.put, List.getElem_toArray, List.getElem_cons_succ, List.getElem_cons_zero, List.setIfInBounds_toArray, List.set_cons_zero, List.set_cons_succ]
      refine wpAnyU_take (i := 3) (v := ?v4) rfl (by kernel_rfl) (by kernel_rfl) (by kernel_rfl) (by kernel_rfl) (fun _ _ _ h => h) (Or.inl ⟨by rfl, ?hy4⟩) hHeld ?rest4
      case hy4 =>
        intro w' hSw
        try dsimp only at hSw
        go_simp
        first | done | with_reducible rfl
      try simp only [Act.put, List.getElem_toArray, List.getElem_cons_succ, List.getElem_cons_zero, List.setIfInBounds_toArray, List.set_cons_zero, List.set_cons_succ]
      refine wpAnyU_take (i := 4) (v := ?v5) rfl (by kernel_rfl) (by kernel_rfl) (by kernel_rfl) (by kernel_rfl) (fun _ _ _ h => h) (Or.inl ⟨by rfl, ?hy5⟩) hHeld ?rest5
      case hy5 =>
        intro w' hSw
        try dsimp only at hSw
        go_simp
        first | done | with_reducible rfl
      try simp only [Act.put, List.getElem_toArray, List.getElem_cons_succ, List.getElem_cons_zero, List.setIfInBounds_toArray, List.set_cons_zero, List.set_cons_succ]
      refine wpAnyU_take (i := 5) (v := ?v6) rfl (by kernel_rfl) (by kernel_rfl) (by kernel_rfl) (by kernel_rfl) (fun _ _ _ h => h) (Or.inl ⟨by rfl, ?hy6⟩) hHeld ?rest6
      case hy6 =>
        intro w' hSw
        try dsimp only at hSw
        go_simp
        first | done | with_reducible rfl
      try simp only [Act.put, List.getElem_toArray, List.getElem_cons_succ, List.getElem_cons_zero, List.setIfInBounds_toArray, List.set_cons_zero, List.set_cons_succ]
      refine wpAnyU_take (i := 6) rfl (by kernel_rfl) (by kernel_rfl) (by kernel_rfl) (by kernel_rfl) (fun _ _ _ h => h) (yieldsIf_load_mid (by rfl) 94 (.tmp 27) (by rfl) wb (wo + k * 513) (by rfl) (wc x) _ (fun _ h => h.2.2) Try.underlying94 rfl (by rw [wc_length _ HW.out.1]; exact size94)) hHeld ?_
      try simp only [Act.put, List.getElem_toArray, List.getElem_cons_succ, List.getElem_cons_zero, List.setIfInBounds_toArray, List.set_cons_zero, List.set_cons_succ]
      refine wpAnyU_one (i := 7) (by kernel_rfl) (by rfl) (fun K hK => ?_)
      go_simp
      refine (LAID.out _ (QO.out.below (Below.drew (Below.refl _ _)))).mono ?_
      rintro e_ w5 ⟨v, rfl, hown, c_⟩
      obtain ⟨g5, c', rfl, _⟩ := own_some hown NB.out.1
      have HG5 := Lib.hid (show b4 < g5 from Nat.lt_of_lt_of_le Q4.out.lt (hown.lt g5 rfl).1)
      have J := Lib.hid (Rd.of_own hown)
      have JB := Lib.hid ((QB.out.trans (Below.drew (Below.refl _ _))).trans (c_.mono QB.out.size))
      have J1 := Lib.hid (blk_k (w := wr.drew) Q1.out c_)
      have J2 := Lib.hid (blk_k (w := wr.drew) Q2.out c_)
      have J4 := Lib.hid (blk_k (w := wr.drew) Q4.out c_)
      have JC := Lib.hid (HC_.out w5 JB.out)
      have f4 := J4.out.frozen 0
      clear c_ hown hHeld
      go_wp2_with fail
      refine hK.out _ _ (.inr ⟨(cells4 J4.out).1, HA1.out _ J1.out, JC.out⟩) (fun hHeld => ?_)
      replace hHeld := hHeld.resolve_left (by decide)
      clear hK K
      try simp only [Act.put, List.getElem_toArray, List.getElem_cons_succ, List.getElem_cons_zero, List.setIfInBounds_toArray, List.set_cons_zero, List.set_cons_succ]
      refine wpAnyU_take (i := 8) (v := ?v7) rfl (by kernel_rfl) (by kernel_rfl) (by kernel_rfl) (by kernel_rfl) (fun _ _ _ h => h) (Or.inl ⟨by rfl, ?hy7⟩) hHeld ?rest7
      case hy7 =>
        intro w' hSw
        try dsimp only at hSw
        go_simp
        first | done | with_reducible rfl
      try simp only [Act.put, List.getElem_toArray, List.getElem_cons_succ, List.getElem_cons_zero, List.setIfInBounds_toArray, List.set_cons_zero, List.set_cons_succ]
      refine wpAnyU_one (i := 9) (by kernel_rfl) (by rfl) (fun K hK => ?_)
      go_simp
      refine hK.out _ _ (.inl rfl) (fun hHeld => ?_)
      clear hK K
      try simp only [Act.put, List.getElem_toArray, List.getElem_cons_succ, List.getElem_cons_zero, List.setIfInBounds_toArray, List.set_cons_zero, List.set_cons_succ]
      refine wpAnyU_done (by kernel_rfl) ?_ _
      refine OnlyN.normal ?_
      clear hHeld
      go_wp2
      go_roundw
      case rel =>
        refine ⟨k + 1, some ⟨g5, 0, none⟩, c', by omega, by go_num, ?_, .inr (fun b off e => by injection e with e; injection e with e1; subst e1; exact HG5.out), Blk.far J1.out (show w.heap.size ≠ b4 by have := HB4.out; omega) _, Blk.far J2.out (show w.heap.size + 1 ≠ b4 by have := HB4.out; omega) _, Blk.set_ J4.out 0 _, JB.out.setCell (show w.heap.size ≤ b4 by have := HB4.out; omega) _⟩
        rw [HX.out, layR_snoc]
        exact rd_far J.out (fun b off e => by injection e with e; injection e with e1; subst e1; have := HG5.out; show g5 ≠ b4; omega) _
      case measure => simp [intOf]; omega
    · obtain rfl : k = R.ws.length := by omega
      have i2 : ¬ ((R.ws.length : Nat) : Int) < (r.n2 : Int) := by have := HN2.out; omega
      rw [List.take_length] at QO
      have HR1 := Lib.hid (show ∀ b off, A = some ⟨b, off, none⟩ → b ≠ b4 ∧ b ≠ w.heap.size + 1 from fun b off e => by
        have hb4 := HB4.out
        rcases HAA.out with h | h
        · obtain ⟨b', o', e', hc⟩ := H.out.r1 0 (by rw [H.out.l1, ← HNE.out]; exact NB.out.1)
          rw [← h, e] at e'
          injection e' with e'
          injection e' with e1
          subst e1
          have : b < w.heap.size := cell_lt hc
          omega
        · have := h b off e
          omega)
      have f4 := Q4.out.frozen 1
      have q1 := (cells4 Q4.out).2.1
      have E4 := Lib.hid (show Blk (wr.setCell ⟨b4, 1, none⟩ (.slice none 0 0)) b4 34 #[.slice A N c, .slice none 0 0, .int .i64 ((s : Int) + 1), .slice r.A3 r.n3 r.c3] from Blk.set_ Q4.out 1 _)
      have E2 := Lib.hid (show Blk (wr.setCell ⟨b4, 1, none⟩ (.slice none 0 0)) (w.heap.size + 1) 34 #[.slice none 0 0, .slice none 0 0, .int .i64 0, .slice none 0 0] from Blk.far Q2.out (show w.heap.size + 1 ≠ b4 by have := HB4.out; omega) _)
      have EB := Lib.hid (QB.out.setCell (p := ⟨b4, 1, none⟩) (show w.heap.size ≤ b4 by have := HB4.out; omega) (.slice none 0 0))
      have EO := Lib.hid (rd_far (p := ⟨b4, 1, none⟩) QO.out (fun b off e => (HR1.out b off e).1) (.slice none 0 0))
      obtain ⟨e0, e1, e2, e3⟩ := cells4 E4.out
      go_wp2_with (first
        | (show wpList _ _ _ ({ dst := none, op := .store _ (.tmp 2) (.tmp 32), type := _, pos := _, after := _, guard := _ } :: _) _ _; refine wpList_store_row rfl 34 (.tmp 2) (.tmp 32) rfl (w.heap.size + 1) #[.slice A N c, .slice none 0 0, .int .i64 ((s : Int) + 1), .slice r.A3 r.n3 r.c3] rfl rfl 34 #[.slice none 0 0, .slice none 0 0, .int .i64 0, .slice none 0 0] (E2.out) (size43c _ _ _ _) rfl (one43 _ _ _ _ _ _ _ _ _ _) ?_))
      exact bodyPost_ret (results_ref rfl _ _ (w.heap.size + 1) #[.slice A N c, .slice none 0 0, .int .i64 ((s : Int) + 1), .slice r.A3 r.n3 r.c3] rfl rfl (blk_row E2.out _)) rfl ⟨A, ⟨c, rfl⟩, below_row EB.out EB.out.size (by omega) _, rd_row EO.out (fun b off e => (HR1.out b off e).2) _, HAA.out.imp id (fun h b off e => by have h1 := h b off e; have h2 := HB4.out; omega)⟩
end
end Go.Proofs.Ytgjamgojjajcnaa
namespace Go.Proofs.Ytgjamgojjajcnaa
open Go.RowKit
/-- what a Flush tells; the document's disk behind it -/
def flNo (R : Rf) (s : Nat) : Int := if (s : Int) ∈ R.fl then 120 else 0
def flRf (R : Rf) (s : Nat) : Rf := if (s : Int) ∈ R.fl then R else ⟨layR R.lb R.ws, [], R.fl⟩
set_option maxRecDepth 8000 in
theorem chunk_secs (L : Nat → List UInt8) (hL : ∀ n, (L n).length = 512) (z n : Nat) (hn : n < z) : chunk (secs L z) n = L n := by
  apply List.ext_getElem?
  intro i
  unfold chunk
  rw [List.getElem?_take, List.getElem?_drop]
  by_cases hi : i < 512
  · rw [if_pos hi, secs_get L hL z (n * 512 + i) (by omega), show (n * 512 + i) / 512 = n by omega, show (n * 512 + i) % 512 = i by omega]
  · rw [if_neg hi, List.getElem?_eq_none (by rw [hL]; omega)]
section
variable {w : World} {r : Rp} {R : Rf} {s z : Nat}
set_option maxRecDepth 8000 in
theorem rflush_any (h : RefAt w r R z) (hs : s ≤ 100000) :
    Calls Try.prog 33 #[r.val s] w fun e w' => ∃ r' : Rp, e = .returned (.tuple #[r'.val (s + 1), .int .i64 (flNo R s)]) ∧ Below w.heap.size w w' ∧ RefAt w' r' (flRf R s) z ∧ ∀ q, r'.at_ (flRf R s) q → r.at_ R q ∨ w.heap.size ≤ q := by
  unfold flNo flRf
  by_cases hf : (s : Int) ∈ R.fl
  · rw [if_pos hf, if_pos hf]
    refine (rflush_fails h s hs hf).mono ?_
    rintro e w' ⟨rfl, hb⟩
    exact ⟨r, rfl, hb, h.below hb, fun q hq => .inl hq⟩
  · rw [if_neg hf, if_neg hf]
    refine (rflush_goes h s hs hf).mono ?_
    rintro e w' ⟨A', c', rfl, hb, hrd, hA⟩
    have hl := layR_length R.ws R.lb h.l1 h.wl
    refine ⟨_, rfl, hb, ⟨h.n1, hl, hrd, rfl, fun i x hx => by simp at hx, h.n3, h.r3.below hb, fun x hx => by simp at hx, h.z1, h.z2, by simp, h.m3⟩, ?_⟩
    rintro q ⟨off, ⟨e, hp⟩ | ⟨e, hp⟩ | ⟨e, hp⟩⟩
    · rcases hA with hA | hA
      · exact .inl ⟨off, .inl ⟨hA ▸ e, by rw [h.l1]; have := h.z1; omega⟩⟩
      · exact .inr (hA q off e)
    · simp at hp
    · exact .inl ⟨off, .inr (.inr ⟨e, hp⟩)⟩
set_option maxRecDepth 8000 in
theorem Alike.flushed {B p : Nat} {pl : Pl} {D : Dk} (ha : Alike D R s z) (hd : DiskAt w B p pl D) (hl : R.lb.length = z * 512) : Alike D.flushed ⟨layR R.lb R.ws, [], R.fl⟩ s z :=
  { size := ha.size
    lasts := fun n hn => by
      have h1 := ha.all hd hl
      have h2 : secs (D.laid fun _ => 512) z = layR R.lb R.ws := by rw [← h1, ← ha.size]; rfl
      show D.laid (fun _ => 512) n = chunk (layR R.lb R.ws) n
      rw [← h2, chunk_secs _ (Dk.laid_len hd _ (fun _ => Nat.le_refl _)) z n hn]
    waits := rfl, steps := ha.steps, fails := ha.fails }
set_option maxRecDepth 8000 in
theorem dflush_any {B p : Nat} {pl : Pl} {D : Dk} (hd : DiskAt w B p pl D) (ha : Alike D R s z) (hl : R.lb.length = z * 512) (hN : R.ws.length ≤ 1000000) (hs : s ≤ 100000) :
    Calls Try.prog 24 #[.pointer (some ⟨p, 0, none⟩)] w fun e w' => e = .returned (.int .i64 (flNo R s)) ∧ ∃ pl' D', DiskAt w' B p pl' D' ∧ Fr (pl.has p) w w' ∧ (∀ q, pl'.has p q → pl.has p q ∨ w.heap.size ≤ q) ∧ Alike D' (flRf R s) (s + 1) z := by
  have hnx := ha.next (by omega)
  have hwl : D.waits.length = R.ws.length := by rw [ha.waits]
  have hst := ha.steps
  unfold flNo flRf
  by_cases hf : (s : Int) ∈ R.fl
  · rw [if_pos hf, if_pos hf]
    refine (flush_fails hd (by omega) (by rw [hnx]; exact decide_eq_true hf)).mono ?_
    rintro e w' ⟨rfl, hd', hfr⟩
    exact ⟨rfl, pl, _, hd', hfr, fun q hq => .inl hq, ha.stepped⟩
  · rw [if_neg hf, if_neg hf]
    refine (flush_goes hd (by omega) (by omega) (by rw [hnx]; exact decide_eq_false hf)).mono ?_
    rintro e w' ⟨rfl, hd', hfr⟩
    refine ⟨rfl, _, _, hd', hfr, ?_, ?_⟩
    · rintro q (h | h | h | h)
      · exact .inl (.inl h)
      · exact .inl (.inr (.inl h))
      · simp [Value.ownBlock] at h
      · exact .inl (.inr (.inr (.inr h)))
    · have h1 : Alike D.stepped R (s + 1) z := ha.stepped
      exact { size := h1.size
              lasts := fun n hn => by
                have h2 := (ha.flushed hd hl).lasts n hn
                exact h2
              waits := rfl, steps := h1.steps, fails := h1.fails }
end
end Go.Proofs.Ytgjamgojjajcnaa
namespace Go.Proofs.Ytgjamgojjajcnaa
open Go.RowKit
attribute [local go_sem] Oper.semAt_some
set_option maxRecDepth 100000 in
set_option maxHeartbeats 8000000 in
theorem act2_t {w : World} {B p : Nat} {pl : Pl} {D : Dk} {r : Rp} {R : Rf} {s z : Nat} (h : Bo w B p pl D r R s z) (hs : s ≤ 100000) (x : Ac) (hx : x.what = 2) (t : Nat) (ht : t = s + 1) :
    Calls Try.prog 11 #[.pointer (some ⟨p, 0, none⟩), r.val s, x.val] w (ActPost w B p pl r R z (flRf R s) t) := by
  have hz := z43
  have H := Lib.hid h
  obtain ⟨Wd, hW⟩ : ∃ Wd, Wd = ((w.alloc (.cells #[.slice r.A1 r.n1 r.c1, .slice r.A2 r.n2 r.c2, .int .i64 (s : Int), .slice r.A3 r.n3 r.c3] 34)).alloc (.cells x.cs.toArray 28)).alloc (.cells #[.slice none 0 0, .slice none 0 0, .int .i64 0, .slice none 0 0] 34) := ⟨_, rfl⟩
  have A0 := Lib.hid (show Ag w r s x Wd from by rw [hW]; exact Ag.of w r s x)
  have x0 : (x.what == 0) = false := by rw [hx]; rfl
  have x1 : (x.what == 1) = false := by rw [hx]; rfl
  have x2 : (x.what == 2) = true := by rw [hx]; rfl
  have c0 := (A0.out.h1.cell 0).trans (show _ = some (.int .i64 x.what) from rfl)
  have c1 := (A0.out.h1.cell 1).trans (show _ = some (.int .i64 x.sector) from rfl)
  have c2 := (A0.out.h1.cell 2).trans (show _ = some (.int .i64 x.at_) from rfl)
  have c3 := (A0.out.h1.cell 3).trans (show _ = some (.int .u8 (x.byte.toNat : Int)) from rfl)
  rw [hW] at c0 c1 c2 c3
  have A00 := Lib.hid (hW ▸ A0.out.h0)
  clear h hx
  go_enter Try.func11, Try.ntmps11
  go_wp2_with (first
    | (refine wpList_load_mid rfl 34 (.tmp 4) rfl w.heap.size 0 rfl [.slice r.A1 r.n1 r.c1, .slice r.A2 r.n2 r.c2, .int .i64 (s : Int), .slice r.A3 r.n3 r.c3] _ (Blk.rangeAt (l := [.slice r.A1 r.n1 r.c1, .slice r.A2 r.n2 r.c2, .int .i64 (s : Int), .slice r.A3 r.n3 r.c3]) A00.out) Try.underlying34 rfl size43 ?_))
  rw [← hW]
  clear hW c0 c1 c2 c3 A00
  have HTT := Lib.hid ht
  have RFL := rflush_any (s := s) (H.out.rf.below A0.out.be) hs
  rw [← ht] at RFL
  refine RFL.mono ?_
  clear RFL
  rintro e W5 ⟨r', rfl, hb5, hr5, hat5⟩
  have NA0 := Lib.hid (show ∀ q, r'.at_ (flRf R s) q → r.at_ R q ∨ w.heap.size + 1 + 1 < q from fun q hq => (hat5 q hq).imp id (fun h => Nat.lt_of_lt_of_le A0.out.h7.lt h))
  have A5 := Lib.hid (A0.out.go hb5)
  have T5 := Lib.hid hr5
  obtain ⟨no, hno⟩ : ∃ no, no = flNo R s := ⟨_, rfl⟩
  rw [← hno]
  have HNO := Lib.hid hno
  have GG := Lib.hid (show w.heap.size + 1 + 1 < W5.heap.size from A5.out.h7.lt)
  clear hb5 hr5 hat5 hno A0 ht
  have X6 := Lib.hid (show Ah w x W5.heap.size #[.slice r'.A1 r'.n1 r'.c1, .slice r'.A2 r'.n2 r'.c2, .int .i64 (t : Int), .slice r'.A3 r'.n3 r'.c3] (W5.alloc (.cells #[.slice r'.A1 r'.n1 r'.c1, .slice r'.A2 r'.n2 r'.c2, .int .i64 (t : Int), .slice r'.A3 r'.n3 r'.c3] 34)) from ⟨A5.out.h1.alloc _, A5.out.h7.alloc _, Blk.new W5 _ _⟩)
  have T6 := Lib.hid (T5.out.alloc (.cells #[.slice r'.A1 r'.n1 r'.c1, .slice r'.A2 r'.n2 r'.c2, .int .i64 (t : Int), .slice r'.A3 r'.n3 r'.c3] 34))
  have B6 := Lib.hid (A5.out.be.alloc A5.out.be.size (.cells #[.slice r'.A1 r'.n1 r'.c1, .slice r'.A2 r'.n2 r'.c2, .int .i64 (t : Int), .slice r'.A3 r'.n3 r'.c3] 34))
  clear A5 T5
  go_wp2_with fail
  generalize W5.alloc (.cells #[.slice r'.A1 r'.n1 r'.c1, .slice r'.A2 r'.n2 r'.c2, .int .i64 (t : Int), .slice r'.A3 r'.n3 r'.c3] 34) = m5 at X6 T6 B6 ⊢
  replace X6 := Lib.hid (X6.out.below (Below.drew (Below.refl _ m5)))
  replace T6 := Lib.hid T6.out.drew
  replace B6 := Lib.hid B6.out.drew
  refine wp_region_only (S := fun w' => Blk w' W5.heap.size 34 #[.slice r'.A1 r'.n1 r'.c1, .slice r'.A2 r'.n2 r'.c2, .int .i64 (t : Int), .slice r'.A3 r'.n3 r'.c3]) (by kernel_rfl) X6.out.hg (fun hHeld => ?_)
  refine wpAnyH_take (i := 0) (v := ?v1) rfl (by kernel_rfl) (by kernel_rfl) (by kernel_rfl) (fun _ _ _ h => h) (Or.inl ⟨by rfl, ?hy1⟩) hHeld ?rest1
  case hy1 =>
    intro w' hSw
    try dsimp only at hSw
    go_simp
    first | done | with_reducible rfl
  try simp only [Act.put, List.getElem_toArray, List.getElem_cons_zero, List.setIfInBounds_toArray, List.set_cons_zero, List.set_cons_succ]
  refine wpAnyH_take (i := 1) rfl (by kernel_rfl) (by kernel_rfl) (by kernel_rfl) (fun _ _ _ h => h) (yieldsIf_load_mid (by rfl) 34 (.tmp 16) (by rfl) W5.heap.size 0 (by rfl) [.slice r'.A1 r'.n1 r'.c1, .slice r'.A2 r'.n2 r'.c2, .int .i64 (t : Int), .slice r'.A3 r'.n3 r'.c3] _ (fun w' hSw => Blk.rangeAt hSw) Try.underlying34 rfl size43) hHeld ?_
  try simp only [Act.put, List.getElem_toArray, List.getElem_cons_succ, List.getElem_cons_zero, List.setIfInBounds_toArray, List.set_cons_zero, List.set_cons_succ]
  refine wpAnyH_take (i := 2) (v := ?v2) rfl (by kernel_rfl) (by kernel_rfl) (by kernel_rfl) (fun _ _ _ h => h) (Or.inl ⟨by rfl, ?hy2⟩) hHeld ?rest2
  case hy2 =>
    intro w' hSw
    try dsimp only at hSw
    go_simp
    first | done | with_reducible rfl
  try simp only [Act.put, List.getElem_toArray, List.getElem_cons_succ, List.getElem_cons_zero, List.setIfInBounds_toArray, List.set_cons_zero, List.set_cons_succ]
  refine wpAnyH_take (i := 5) (v := ?v3) rfl (by kernel_rfl) (by kernel_rfl) (by kernel_rfl) (fun _ _ _ h => h) (Or.inl ⟨by rfl, ?hy3⟩) hHeld ?rest3
  case hy3 =>
    intro w' hSw
    try dsimp only at hSw
    go_simp
    first | done | with_reducible rfl
  try simp only [Act.put, List.getElem_toArray, List.getElem_cons_succ, List.getElem_cons_zero, List.setIfInBounds_toArray, List.set_cons_zero, List.set_cons_succ]
  refine wpAnyH_ready (rs := [3]) (by kernel_rfl) (by simp) ?_
  refine AllReadyH.cons (by rfl) (fun K hK => ?_) AllReadyH.nil
  go_simp
  refine (dflush_any (H.out.da.below B6.out) H.out.al H.out.rf.l1 (by have := H.out.rf.m2; omega) hs).mono ?_
  rw [← HTT.out]
  rintro e m6 ⟨rfl, pl', D', hd, hf, hpl, hal⟩
  have HM := Lib.hid X6.out.hg.lt
  have HPL := Lib.hid hpl
  have X7 := Lib.hid (X6.out.fr hf (fun k hk => (H.out.da.lt k hk).1) GG.out)
  have BO := Lib.hid (H.out.mk' B6.out.size T6.out (fun b hb' => (NA0.out b hb').imp id (fun h => by omega)) hd hf hpl hal)
  have FR := Lib.hid (show Fr (pl.has p) w m6 from (Fr.of_below B6.out).trans hf)
  have HPL2 := Lib.hid (show ∀ q, pl'.has p q → pl.has p q ∨ w.heap.size ≤ q from fun q hq => (HPL.out q hq).imp id (fun h => Nat.le_trans B6.out.size h))
  have HPN := Lib.hid (show ¬ pl'.has p (w.heap.size + 1 + 1) from fun hk => by
    rcases HPL.out _ hk with h | h
    · have := (H.out.da.lt _ h).1
      omega
    · have h1 := HM.out
      have h2 := GG.out
      omega)
  rw [← HNO.out]
  clear hd hf hal hHeld T6 B6 X6 hpl HPL
  refine hK.out _ _ X7.out.hg (fun hHeld => ?_)
  clear hK K
  try simp only [Act.put, List.getElem_toArray, List.getElem_cons_succ, List.getElem_cons_zero, List.setIfInBounds_toArray, List.set_cons_zero, List.set_cons_succ]
  refine wpAnyH_ready (rs := [4]) (by kernel_rfl) (by simp) ?_
  refine AllReadyH.cons (by rfl) (fun K hK => ?_) AllReadyH.nil
  go_simp
  refine (num_any _ _).mono ?_
  rintro e m7 ⟨rfl, rfl⟩
  clear hHeld
  refine hK.out _ _ X7.out.hg (fun hHeld => ?_)
  clear hK K
  try simp only [Act.put, List.getElem_toArray, List.getElem_cons_succ, List.getElem_cons_zero, List.setIfInBounds_toArray, List.set_cons_zero, List.set_cons_succ]
  refine wpAnyH_take (i := 6) (v := ?v4) rfl (by kernel_rfl) (by kernel_rfl) (by kernel_rfl) (fun _ _ _ h => h) (Or.inl ⟨by rfl, ?hy4⟩) hHeld ?rest4
  case hy4 =>
    intro w' hSw
    try dsimp only at hSw
    go_simp
    first | done | with_reducible rfl
  try simp only [Act.put, List.getElem_toArray, List.getElem_cons_succ, List.getElem_cons_zero, List.setIfInBounds_toArray, List.set_cons_zero, List.set_cons_succ]
  refine wpAnyH_take (i := 7) (v := ?v5) rfl (by kernel_rfl) (by kernel_rfl) (by kernel_rfl) (fun _ _ _ h => h) (Or.inl ⟨by rfl, ?hy5⟩) hHeld ?rest5
  case hy5 =>
    intro w' hSw
    try dsimp only at hSw
    go_simp
    first | done | with_reducible rfl
  try simp only [Act.put, List.getElem_toArray, List.getElem_cons_succ, List.getElem_cons_zero, List.setIfInBounds_toArray, List.set_cons_zero, List.set_cons_succ]
  refine wpAnyH_ready (rs := [8]) (by kernel_rfl) (by simp) ?_
  refine AllReadyH.cons (by rfl) (fun K hK => ?_) AllReadyH.nil
  refine step_store_whole rfl 34 (.tmp 7) (.tmp 88) rfl (by rfl) #[.slice r'.A1 r'.n1 r'.c1, .slice r'.A2 r'.n2 r'.c2, .int .i64 (t : Int), .slice r'.A3 r'.n3 r'.c3] #[.slice none 0 0, .slice none 0 0, .int .i64 0, .slice none 0 0] 34 (by rfl) X7.out.h7 (size43c _ _ _ _) rfl (one43 _ _ _ _ _ _ _ _ _ _) ?_
  intro m8 j8 f8
  have J8 := Lib.hid j8
  have BO8 := Lib.hid (show Bo m8 B p pl' D' r' (flRf R s) t z from BO.out.far f8 HPN.out (fun hk => by rcases NA0.out _ hk with h | h; (have := H.out.rf.lt h; omega); omega))
  have FR8 := Lib.hid (FR.out.then_ f8 (fun i hi e => by omega))
  have X8 := Lib.hid (show Blk m8 W5.heap.size 34 #[.slice r'.A1 r'.n1 r'.c1, .slice r'.A2 r'.n2 r'.c2, .int .i64 (t : Int), .slice r'.A3 r'.n3 r'.c3] from f8.keepBlk X7.out.hg (by have := GG.out; omega))
  clear hHeld j8 f8 BO FR X7
  refine hK.out _ _ X8.out (fun hHeld => ?_)
  clear hK K
  try simp only [Act.put, List.getElem_toArray, List.getElem_cons_succ, List.getElem_cons_zero]
  refine wpAnyH_take (i := 9) (v := ?v6) rfl (by kernel_rfl) (by kernel_rfl) (by kernel_rfl) (fun _ _ _ h => h) (Or.inl ⟨by rfl, ?hy6⟩) hHeld ?rest6
  case hy6 =>
    intro w' hSw
    try dsimp only at hSw
    go_simp
    first | done | with_reducible rfl
  try simp only [Act.put, List.getElem_toArray, List.getElem_cons_succ, List.getElem_cons_zero, List.setIfInBounds_toArray, List.set_cons_zero, List.set_cons_succ]
  refine wpAnyH_done (by kernel_rfl) ?_ _
  refine OnlyN.normal ?_
  clear hHeld
  go_wp2_with fail
  exact bodyPost_ret (results_act rfl _ _ (w.heap.size + 1 + 1) #[.slice r'.A1 r'.n1 r'.c1, .slice r'.A2 r'.n2 r'.c2, .int .i64 (t : Int), .slice r'.A3 r'.n3 r'.c3] rfl rfl J8.out) rfl ⟨pl', D', r', rfl, BO8.out, FR8.out, HPL2.out, fun b hb' => (NA0.out b hb').imp id (fun h => by omega)⟩
theorem act2_any {w : World} {B p : Nat} {pl : Pl} {D : Dk} {r : Rp} {R : Rf} {s z : Nat} (h : Bo w B p pl D r R s z) (hs : s ≤ 100000) (x : Ac) (hx : x.what = 2) :
    Calls Try.prog 11 #[.pointer (some ⟨p, 0, none⟩), r.val s, x.val] w (ActPost w B p pl r R z (flRf R s) (s + 1)) := act2_t h hs x hx (s + 1) rfl
end Go.Proofs.Ytgjamgojjajcnaa

/- law 2: what a crash leaves, by the disk and by the document's: plain. -/
import Derived.Test.YtgjamgojjajcnaaQ32
import Derived.Test.YtgjamgojjajcnaaQ08
import Derived.Test.YtgjamgojjajcnaaQ13
import Derived.Test.YtgjamgojjajcnaaQ20
namespace Go.Proofs.Ytgjamgojjajcnaa
open Go.RowKit
/-- bytes with the first so many of each write's laid over, one behind the other -/
def layE (kf : Nat → Nat) (lb : List UInt8) (es : List (Nat × (Nat × List UInt8))) : List UInt8 := es.foldl (fun l e => laidF l e.2 (kf e.1)) lb
set_option maxRecDepth 8000 in
theorem layE_snoc (kf : Nat → Nat) (lb : List UInt8) (es : List (Nat × (Nat × List UInt8))) (e : Nat × (Nat × List UInt8)) : layE kf lb (es ++ [e]) = laidF (layE kf lb es) e.2 (kf e.1) := by simp [layE]
theorem layE_length {z : Nat} (kf : Nat → Nat) (hk : ∀ i, kf i ≤ 512) : ∀ (es : List (Nat × (Nat × List UInt8))) (lb : List UInt8), lb.length = z * 512 → (∀ e ∈ es, e.2.2.length = 512 ∧ e.2.1 < z) → (layE kf lb es).length = z * 512
  | [], _, hl, _ => hl
  | e :: es, lb, hl, hw => layE_length kf hk es (laidF lb e.2 (kf e.1)) (by
      have h := hw e (by simp)
      have h2 := hk e.1
      rw [laidF_length lb e.2 (kf e.1) (by have := h.2; omega) h.1 (hk e.1), hl]) (fun y hy => hw y (by simp [hy]))
set_option maxRecDepth 8000 in
theorem laidF_getk (lb : List UInt8) (n : Nat) (l : List UInt8) (k : Nat) (hk : k ≤ 512) (hl : l.length = 512) (hn : 512 * n + 512 ≤ lb.length) (i : Nat) : (laidF lb (n, l) k)[i]? = if i / 512 = n ∧ i % 512 < k then l[i % 512]? else lb[i]? := by
  unfold laidF splice
  dsimp only
  have ht : (List.take (512 * n) lb).length = 512 * n := by rw [List.length_take]; omega
  have hl2 : (List.take k l).length = k := by rw [List.length_take]; omega
  by_cases h : i / 512 = n ∧ i % 512 < k
  · rw [if_pos h, List.getElem?_append_right (by omega), ht, List.getElem?_append_left (by omega), List.getElem?_take, if_pos (by omega)]
    congr 1
    omega
  · rw [if_neg h]
    by_cases h1 : i < 512 * n
    · rw [List.getElem?_append_left (by omega), List.getElem?_take, if_pos h1]
    · rw [List.getElem?_append_right (by omega), ht, List.getElem?_append_right (by omega), List.getElem?_drop, hl2]
      congr 1
      omega
set_option maxRecDepth 8000 in
theorem layL_getk (a l : List UInt8) (k : Nat) (hk : k ≤ 512) (hl : l.length = 512) (j : Nat) : (layL a l k)[j]? = if j < k then l[j]? else a[j]? := by
  unfold layL
  have hl2 : (List.take k l).length = k := by rw [List.length_take]; omega
  by_cases h : j < k
  · rw [if_pos h, List.getElem?_append_left (by omega), List.getElem?_take, if_pos h]
  · rw [if_neg h, List.getElem?_append_right (by omega), List.getElem?_drop, hl2]
    congr 1
    omega
set_option maxRecDepth 8000 in
theorem secs_upk (L : Nat → List UInt8) (z n : Nat) (l : List UInt8) (k : Nat) (hk : k ≤ 512) (hL : ∀ n, (L n).length = 512) (hl : l.length = 512) (hn : n < z) : secs (upL L n (layL (L n) l k)) z = laidF (secs L z) (n, l) k := by
  have hL' : ∀ m, (upL L n (layL (L n) l k) m).length = 512 := fun m => by
    unfold upL
    split
    · exact layL_length _ _ _ (hL _) hl hk
    · exact hL m
  have hsl : (secs L z).length = z * 512 := secs_length L hL z
  apply List.ext_getElem?
  intro i
  rw [laidF_getk _ n l k hk hl (by rw [hsl]; omega)]
  by_cases hi : i < z * 512
  · rw [secs_get _ hL' z i hi]
    unfold upL
    by_cases h : i / 512 = n
    · rw [if_pos h, layL_getk _ _ k hk hl]
      by_cases h2 : i % 512 < k
      · rw [if_pos h2, if_pos ⟨h, h2⟩]
      · rw [if_neg h2, if_neg (fun h3 => h2 h3.2), secs_get L hL z i hi, h]
    · rw [if_neg h, if_neg (fun h3 => h h3.1), secs_get L hL z i hi]
  · have h : i / 512 ≠ n := by omega
    rw [if_neg (fun h3 => h h3.1), List.getElem?_eq_none (by rw [secs_length _ hL']; omega), List.getElem?_eq_none (by rw [hsl]; omega)]
theorem layC_allk (kf : Nat → Nat) (hk : ∀ i, kf i ≤ 512) (z : Nat) : ∀ (es : List (Nat × (Nat × List UInt8))) (L : Nat → List UInt8), (∀ n, (L n).length = 512) → (∀ e ∈ es, e.2.2.length = 512 ∧ e.2.1 < z) →
    secs (layC kf L es) z = layE kf (secs L z) es
  | [], _, _, _ => rfl
  | e :: es, L, hL, he => by
    have h := he e (by simp)
    have hL' : ∀ m, (upL L e.2.1 (layL (L e.2.1) e.2.2 (kf e.1)) m).length = 512 := fun m => by
      unfold upL
      split
      · exact layL_length _ _ _ (hL _) h.1 (hk _)
      · exact hL m
    show secs (layC kf (upL L e.2.1 (layL (L e.2.1) e.2.2 (kf e.1))) es) z = layE kf (laidF (secs L z) e.2 (kf e.1)) es
    rw [layC_allk kf hk z es _ hL' (fun e' h' => he e' (by simp [h'])), secs_upk L z e.2.1 e.2.2 (kf e.1) (hk _) hL h.1 h.2]
/-- the writes that wait, with their numbers -/
def Rf.nums (R : Rf) : List (Nat × (Nat × List UInt8)) := R.ws.mapIdx fun i x => (i, x)
set_option maxRecDepth 8000 in
theorem Rf.nums_len (R : Rf) : R.nums.length = R.ws.length := by simp [Rf.nums]
set_option maxRecDepth 8000 in
theorem Rf.nums_at {R : Rf} {k : Nat} {x : Nat × List UInt8} (h : R.ws[k]? = some x) : R.nums.take (k + 1) = R.nums.take k ++ [(k, x)] := by
  have : R.nums[k]? = some (k, x) := by simp [Rf.nums, List.getElem?_mapIdx, h]
  rw [List.take_add_one, this]
  rfl
/-- what a crash leaves of the document's disk -/
def crRf (R : Rf) (c : Cr) : Rf := ⟨layE (fun i => c.kn i) R.lb R.nums, [], []⟩
section
variable {w : World} {r : Rp} {R : Rf} {s z : Nat}
theorem nums_wl (h : RefAt w r R z) : ∀ e ∈ R.nums, e.2.2.length = 512 ∧ e.2.1 < z := fun e he => by
  obtain ⟨i, hi, rfl⟩ := List.mem_mapIdx.1 he
  exact h.wl _ (List.getElem_mem hi)
theorem Alike.crashed {B p : Nat} {pl : Pl} {D : Dk} (ha : Alike D R s z) (hd : DiskAt w B p pl D) (hl : R.lb.length = z * 512) (c : Cr) (h0 : 0 ≤ c.bytes) (h5 : c.bytes ≤ 512) : Alike (D.crashed c) (crRf R c) 0 z :=
  { size := ha.size
    lasts := fun n hn => by
      have hk := fun i => kn_le c h0 h5 i
      have h1 : secs (layC (fun i => c.kn i) D.lasts D.nums) z = layE (fun i => c.kn i) (secs D.lasts z) D.nums := layC_allk _ hk z D.nums D.lasts hd.lens (fun e he => by rw [← ha.size]; exact hd.wlens _ (nums_mem he).2)
      rw [secs_congr z ha.lasts, secs_chunk _ _ hl, show D.nums = R.nums by unfold Dk.nums Rf.nums; rw [ha.waits]] at h1
      have h2 := chunk_secs (D.laid fun i => c.kn i) (Dk.laid_len hd _ hk) z n hn
      show D.laid (fun i => c.kn i) n = chunk (layE (fun i => c.kn i) R.lb R.nums) n
      rw [← h1, ← h2]
      unfold Dk.laid
      rw [show D.nums = R.nums by unfold Dk.nums Rf.nums; rw [ha.waits]]
    waits := rfl, steps := rfl, fails := fun n _ _ => by simp [Dk.crashed, crRf] }
end
end Go.Proofs.Ytgjamgojjajcnaa
namespace Go.Proofs.Ytgjamgojjajcnaa
open Go.RowKit
theorem cells3 {w : World} {g : Nat} {t : TypeId} {v0 v1 v2 : Value} (h : Blk w g t #[v0, v1, v2]) : w.cell? ⟨g, 0, none⟩ = some v0 ∧ w.cell? ⟨g, 1, none⟩ = some v1 ∧ w.cell? ⟨g, 2, none⟩ = some v2 :=
  ⟨h.cell 0, h.cell 1, h.cell 2⟩
section
variable {w : World} {r : Rp} {R : Rf} {z : Nat}
set_option maxRecDepth 100000 in
set_option maxHeartbeats 4000000 in
theorem rcrash_neg (w : World) (r : Rp) (s : Nat) (c : Cr) (KA : Option Addr) (kc : Nat) (h : c.bytes < 0) :
    Calls Try.prog 36 #[r.val s, c.val KA kc] w fun e w' => e = .returned (.tuple #[.agg #[.slice none 0 0, .slice none 0 0, .int .i64 0, .slice none 0 0], .int .i64 2]) ∧ Below w.heap.size w w' := by
  have hz := z43
  have h1 : decide (c.bytes < 0) = true := by simpa using h
  have P1 := Lib.hid (((Blk.new w 34 #[.slice r.A1 r.n1 r.c1, .slice r.A2 r.n2 r.c2, .int .i64 (s : Int), .slice r.A3 r.n3 r.c3]).alloc (.cells #[.slice KA c.keep.length kc, .int .i64 c.torn, .int .i64 c.bytes] 26)).alloc (.cells #[.slice none 0 0, .slice none 0 0, .int .i64 0, .slice none 0 0] 34))
  have P2 := Lib.hid ((blk_new_of (w.alloc (.cells #[.slice r.A1 r.n1 r.c1, .slice r.A2 r.n2 r.c2, .int .i64 (s : Int), .slice r.A3 r.n3 r.c3] 34)) 26 #[.slice KA c.keep.length kc, .int .i64 c.torn, .int .i64 c.bytes] (g := w.heap.size + 1) (by simp)).alloc (.cells #[.slice none 0 0, .slice none 0 0, .int .i64 0, .slice none 0 0] 34))
  have P3 := Lib.hid (blk_new_of ((w.alloc (.cells #[.slice r.A1 r.n1 r.c1, .slice r.A2 r.n2 r.c2, .int .i64 (s : Int), .slice r.A3 r.n3 r.c3] 34)).alloc (.cells #[.slice KA c.keep.length kc, .int .i64 c.torn, .int .i64 c.bytes] 26)) 34 #[.slice none 0 0, .slice none 0 0, .int .i64 0, .slice none 0 0] (g := w.heap.size + 1 + 1) (by simp))
  have BL := Lib.hid ((((Below.refl w.heap.size w).alloc (Nat.le_refl _) (.cells #[.slice r.A1 r.n1 r.c1, .slice r.A2 r.n2 r.c2, .int .i64 (s : Int), .slice r.A3 r.n3 r.c3] 34)).alloc (by simp) (.cells #[.slice KA c.keep.length kc, .int .i64 c.torn, .int .i64 c.bytes] 26)).alloc (by simp; omega) (.cells #[.slice none 0 0, .slice none 0 0, .int .i64 0, .slice none 0 0] 34))
  rw [show r.val s = .agg #[.slice r.A1 r.n1 r.c1, .slice r.A2 r.n2 r.c2, .int .i64 (s : Int), .slice r.A3 r.n3 r.c3] from rfl, show c.val KA kc = .agg #[.slice KA c.keep.length kc, .int .i64 c.torn, .int .i64 c.bytes] from rfl]
  clear h
  obtain ⟨a0, a1, a2, a3⟩ := cells4 P1.out
  obtain ⟨m0, m1, m2⟩ := cells3 P2.out
  go_enter Try.func36, Try.ntmps36
  go_wp2_with (first
    | (show wpList _ _ _ ({ dst := none, op := .store _ (.tmp 4) (.tmp 17), type := _, pos := _, after := _, guard := _ } :: _) _ _; refine wpList_store_row rfl 34 (.tmp 4) (.tmp 17) rfl (w.heap.size + 1 + 1) #[.slice none 0 0, .slice none 0 0, .int .i64 0, .slice none 0 0] rfl rfl 34 #[.slice none 0 0, .slice none 0 0, .int .i64 0, .slice none 0 0] (P3.out) (size43c _ _ _ _) rfl (one43 _ _ _ _ _ _ _ _ _ _) ?_))
  exact bodyPost_ret (results_ref rfl _ _ (w.heap.size + 1 + 1) #[.slice none 0 0, .slice none 0 0, .int .i64 0, .slice none 0 0] rfl rfl (blk_row P3.out _)) rfl ⟨rfl, below_row BL.out BL.out.size (by omega) _⟩
set_option maxRecDepth 100000 in
set_option maxHeartbeats 4000000 in
theorem rcrash_big (w : World) (r : Rp) (s : Nat) (c : Cr) (KA : Option Addr) (kc : Nat) (h : ¬ c.bytes < 0 ∧ 512 < c.bytes) :
    Calls Try.prog 36 #[r.val s, c.val KA kc] w fun e w' => e = .returned (.tuple #[.agg #[.slice none 0 0, .slice none 0 0, .int .i64 0, .slice none 0 0], .int .i64 2]) ∧ Below w.heap.size w w' := by
  have hz := z43
  have h1 : decide (c.bytes < 0) = false := by simpa using h.1
  have h2 : decide (512 < c.bytes) = true := by simpa using h.2
  have P1 := Lib.hid (((Blk.new w 34 #[.slice r.A1 r.n1 r.c1, .slice r.A2 r.n2 r.c2, .int .i64 (s : Int), .slice r.A3 r.n3 r.c3]).alloc (.cells #[.slice KA c.keep.length kc, .int .i64 c.torn, .int .i64 c.bytes] 26)).alloc (.cells #[.slice none 0 0, .slice none 0 0, .int .i64 0, .slice none 0 0] 34))
  have P2 := Lib.hid ((blk_new_of (w.alloc (.cells #[.slice r.A1 r.n1 r.c1, .slice r.A2 r.n2 r.c2, .int .i64 (s : Int), .slice r.A3 r.n3 r.c3] 34)) 26 #[.slice KA c.keep.length kc, .int .i64 c.torn, .int .i64 c.bytes] (g := w.heap.size + 1) (by simp)).alloc (.cells #[.slice none 0 0, .slice none 0 0, .int .i64 0, .slice none 0 0] 34))
  have P3 := Lib.hid (blk_new_of ((w.alloc (.cells #[.slice r.A1 r.n1 r.c1, .slice r.A2 r.n2 r.c2, .int .i64 (s : Int), .slice r.A3 r.n3 r.c3] 34)).alloc (.cells #[.slice KA c.keep.length kc, .int .i64 c.torn, .int .i64 c.bytes] 26)) 34 #[.slice none 0 0, .slice none 0 0, .int .i64 0, .slice none 0 0] (g := w.heap.size + 1 + 1) (by simp))
  have BL := Lib.hid ((((Below.refl w.heap.size w).alloc (Nat.le_refl _) (.cells #[.slice r.A1 r.n1 r.c1, .slice r.A2 r.n2 r.c2, .int .i64 (s : Int), .slice r.A3 r.n3 r.c3] 34)).alloc (by simp) (.cells #[.slice KA c.keep.length kc, .int .i64 c.torn, .int .i64 c.bytes] 26)).alloc (by simp; omega) (.cells #[.slice none 0 0, .slice none 0 0, .int .i64 0, .slice none 0 0] 34))
  rw [show r.val s = .agg #[.slice r.A1 r.n1 r.c1, .slice r.A2 r.n2 r.c2, .int .i64 (s : Int), .slice r.A3 r.n3 r.c3] from rfl, show c.val KA kc = .agg #[.slice KA c.keep.length kc, .int .i64 c.torn, .int .i64 c.bytes] from rfl]
  clear h
  obtain ⟨a0, a1, a2, a3⟩ := cells4 P1.out
  obtain ⟨m0, m1, m2⟩ := cells3 P2.out
  go_enter Try.func36, Try.ntmps36
  go_wp2_with (first
    | (show wpList _ _ _ ({ dst := none, op := .store _ (.tmp 4) (.tmp 17), type := _, pos := _, after := _, guard := _ } :: _) _ _; refine wpList_store_row rfl 34 (.tmp 4) (.tmp 17) rfl (w.heap.size + 1 + 1) #[.slice none 0 0, .slice none 0 0, .int .i64 0, .slice none 0 0] rfl rfl 34 #[.slice none 0 0, .slice none 0 0, .int .i64 0, .slice none 0 0] (P3.out) (size43c _ _ _ _) rfl (one43 _ _ _ _ _ _ _ _ _ _) ?_))
  exact bodyPost_ret (results_ref rfl _ _ (w.heap.size + 1 + 1) #[.slice none 0 0, .slice none 0 0, .int .i64 0, .slice none 0 0] rfl rfl (blk_row P3.out _)) rfl ⟨rfl, below_row BL.out BL.out.size (by omega) _⟩
set_option maxRecDepth 100000 in
set_option maxHeartbeats 8000000 in
theorem rcrash_goes (h : RefAt w r R z) (s : Nat) (c : Cr) (KA : Option Addr) (kc : Nat) (hkr : RdB w KA c.keep) (hb0 : 0 ≤ c.bytes) (hb5 : c.bytes ≤ 512) :
    Calls Try.prog 36 #[r.val s, c.val KA kc] w fun e w' => ∃ A' c', e = .returned (.tuple #[Rp.val ⟨A', r.n1, c', none, 0, 0, none, 0, 0⟩ 0, .int .i64 0]) ∧ Below w.heap.size w w' ∧ Rd w' A' (layE (fun i => c.kn i) R.lb R.nums) ∧ ((A' = r.A1) ∨ ∀ b off, A' = some ⟨b, off, none⟩ → w.heap.size ≤ b) := by
  have hz := z43
  have H := Lib.hid h
  have HKR := Lib.hid hkr
  have HKN := Lib.hid (fun i => kn_le c hb0 hb5 i)
  have HK0 := Lib.hid (fun i => (kept_range c hb0 hb5 i).1)
  have h1 : decide (c.bytes < 0) = false := by simpa using hb0
  have h2 : decide (512 < c.bytes) = false := by simpa using hb5
  obtain ⟨N, hN⟩ : ∃ N, N = z * 512 := ⟨_, rfl⟩
  have HNE := Lib.hid hN
  have NB := Lib.hid (show 0 < N ∧ N ≤ 3000000 by have := h.z1; have := h.z2; omega)
  have hn1 : r.n1 = N := h.n1.trans hN.symm
  have HN2 := Lib.hid h.n2
  have hm := h.m2
  rw [show r.val s = .agg #[.slice r.A1 N r.c1, .slice r.A2 r.n2 r.c2, .int .i64 (s : Int), .slice r.A3 r.n3 r.c3] by show Value.agg (r.cells s) = _; rw [Rp.cells, hn1], show c.val KA kc = .agg #[.slice KA c.keep.length kc, .int .i64 c.torn, .int .i64 c.bytes] from rfl, hn1]
  have P1 := Lib.hid (((Blk.new w 34 #[.slice r.A1 N r.c1, .slice r.A2 r.n2 r.c2, .int .i64 (s : Int), .slice r.A3 r.n3 r.c3]).alloc (.cells #[.slice KA c.keep.length kc, .int .i64 c.torn, .int .i64 c.bytes] 26)).alloc (.cells #[.slice none 0 0, .slice none 0 0, .int .i64 0, .slice none 0 0] 34))
  have P2 := Lib.hid ((blk_new_of (w.alloc (.cells #[.slice r.A1 N r.c1, .slice r.A2 r.n2 r.c2, .int .i64 (s : Int), .slice r.A3 r.n3 r.c3] 34)) 26 #[.slice KA c.keep.length kc, .int .i64 c.torn, .int .i64 c.bytes] (g := w.heap.size + 1) (by simp)).alloc (.cells #[.slice none 0 0, .slice none 0 0, .int .i64 0, .slice none 0 0] 34))
  have P3 := Lib.hid (blk_new_of ((w.alloc (.cells #[.slice r.A1 N r.c1, .slice r.A2 r.n2 r.c2, .int .i64 (s : Int), .slice r.A3 r.n3 r.c3] 34)).alloc (.cells #[.slice KA c.keep.length kc, .int .i64 c.torn, .int .i64 c.bytes] 26)) 34 #[.slice none 0 0, .slice none 0 0, .int .i64 0, .slice none 0 0] (g := w.heap.size + 1 + 1) (by simp))
  have BL := Lib.hid ((((Below.refl w.heap.size w).alloc (Nat.le_refl _) (.cells #[.slice r.A1 N r.c1, .slice r.A2 r.n2 r.c2, .int .i64 (s : Int), .slice r.A3 r.n3 r.c3] 34)).alloc (by simp) (.cells #[.slice KA c.keep.length kc, .int .i64 c.torn, .int .i64 c.bytes] 26)).alloc (by simp; omega) (.cells #[.slice none 0 0, .slice none 0 0, .int .i64 0, .slice none 0 0] 34))
  clear h hN hkr hb0 hb5 hn1
  obtain ⟨a0, a1, a2, a3⟩ := cells4 P1.out
  obtain ⟨m0, m1, m2⟩ := cells3 P2.out
  go_enter Try.func36, Try.ntmps36
  go_wp2_with (first
    | (show wpList _ _ _ ({ dst := none, op := .store _ (.tmp 6) (.tmp 20), type := _, pos := _, after := _, guard := _ } :: _) _ _; refine wpList_store_new4 (c := #[.slice r.A1 N r.c1, .slice none 0 0, .int .i64 0, .slice none 0 0]) (c0 := #[.slice none 0 0, .slice none 0 0, .int .i64 0, .slice none 0 0]) (ty := 34) rfl (.tmp 6) (.tmp 20) rfl rfl rfl (size43c _ _ _ _) rfl (one43 _ _ _ _ _ _ _ _ _ _) ?_))
  have Q1 := Lib.hid (P1.out.alloc (.cells #[.slice r.A1 N r.c1, .slice none 0 0, .int .i64 0, .slice none 0 0] 34))
  have Q2 := Lib.hid (P2.out.alloc (.cells #[.slice r.A1 N r.c1, .slice none 0 0, .int .i64 0, .slice none 0 0] 34))
  have Q3 := Lib.hid (P3.out.alloc (.cells #[.slice r.A1 N r.c1, .slice none 0 0, .int .i64 0, .slice none 0 0] 34))
  have Q4 := Lib.hid (blk_new_of (((w.alloc (.cells #[.slice r.A1 N r.c1, .slice r.A2 r.n2 r.c2, .int .i64 (s : Int), .slice r.A3 r.n3 r.c3] 34)).alloc (.cells #[.slice KA c.keep.length kc, .int .i64 c.torn, .int .i64 c.bytes] 26)).alloc (.cells #[.slice none 0 0, .slice none 0 0, .int .i64 0, .slice none 0 0] 34)) 34 #[.slice r.A1 N r.c1, .slice none 0 0, .int .i64 0, .slice none 0 0] (g := w.heap.size + 1 + 1 + 1) (by simp))
  have QB := Lib.hid (BL.out.alloc BL.out.size (.cells #[.slice r.A1 N r.c1, .slice none 0 0, .int .i64 0, .slice none 0 0] 34))
  have HB4 := Lib.hid (show w.heap.size + 1 + 1 < w.heap.size + 1 + 1 + 1 by omega)
  have QO : Hid (Rd ((((w.alloc (.cells #[.slice r.A1 N r.c1, .slice r.A2 r.n2 r.c2, .int .i64 (s : Int), .slice r.A3 r.n3 r.c3] 34)).alloc (.cells #[.slice KA c.keep.length kc, .int .i64 c.torn, .int .i64 c.bytes] 26)).alloc (.cells #[.slice none 0 0, .slice none 0 0, .int .i64 0, .slice none 0 0] 34)).alloc (.cells #[.slice r.A1 N r.c1, .slice none 0 0, .int .i64 0, .slice none 0 0] 34)) r.A1 R.lb) := Lib.hid (H.out.r1.below QB.out)
  clear m0 m1 m2 a0 a1 a2 a3
  generalize (((w.alloc (.cells #[.slice r.A1 N r.c1, .slice r.A2 r.n2 r.c2, .int .i64 (s : Int), .slice r.A3 r.n3 r.c3] 34)).alloc (.cells #[.slice KA c.keep.length kc, .int .i64 c.torn, .int .i64 c.bytes] 26)).alloc (.cells #[.slice none 0 0, .slice none 0 0, .int .i64 0, .slice none 0 0] 34)).alloc (.cells #[.slice r.A1 N r.c1, .slice none 0 0, .int .i64 0, .slice none 0 0] 34) = W3 at Q1 Q2 Q3 Q4 QB QO ⊢
  generalize w.heap.size + 1 + 1 + 1 = b4 at Q4 HB4 ⊢
  clear P1 P2 P3 BL h1 h2
  go_loopw [7] (fun i wr => ∃ (k : Nat) (A : Option Addr) (cp : Nat), k ≤ R.ws.length ∧ i = .int .i64 (k : Int) ∧ Rd wr A (layE (fun i => c.kn i) R.lb (R.nums.take k)) ∧ (A = r.A1 ∨ ∀ b off, A = some ⟨b, off, none⟩ → b4 < b) ∧ Blk wr w.heap.size 34 #[.slice r.A1 N r.c1, .slice r.A2 r.n2 r.c2, .int .i64 (s : Int), .slice r.A3 r.n3 r.c3] ∧ Blk wr (w.heap.size + 1) 26 #[.slice KA c.keep.length kc, .int .i64 c.torn, .int .i64 c.bytes] ∧ Blk wr (w.heap.size + 1 + 1) 34 #[.slice none 0 0, .slice none 0 0, .int .i64 0, .slice none 0 0] ∧ Blk wr b4 34 #[.slice A N cp, .slice none 0 0, .int .i64 0, .slice none 0 0] ∧ Below w.heap.size w wr) (fun i _ => R.ws.length - (intOf i).toNat)
  case atStart => exact ⟨0, r.A1, r.c1, Nat.zero_le _, rfl, QO.out, .inl rfl, Q1.out, Q2.out, Q3.out, Q4.out, QB.out⟩
  case round =>
    obtain ⟨k, A, cp, hk, rfl, ho, hA, h1, h2, h3, h4, hb⟩ := hrel
    clear Q1 Q2 Q3 Q4 QB QO
    have QO := Lib.hid ho
    have HAA := Lib.hid hA
    have Q1 := Lib.hid h1
    have Q2 := Lib.hid h2
    have Q3 := Lib.hid h3
    have Q4 := Lib.hid h4
    have QB := Lib.hid hb
    have a1 := (cells4 h1).2.1
    obtain ⟨m0, m1, m2⟩ := cells3 h2
    have HLL := Lib.hid (show (layE (fun i => c.kn i) R.lb (R.nums.take k)).length = N by rw [HNE.out]; exact layE_length _ HKN.out _ _ H.out.l1 (fun y hy => nums_wl H.out y (List.mem_of_mem_take hy)))
    clear ho hA h1 h2 h3 h4 hb
    by_cases hlt : k < R.ws.length
    · obtain ⟨x, hx⟩ : ∃ x, R.ws[k]? = some x := ⟨_, List.getElem?_eq_getElem hlt⟩
      obtain ⟨wb, wo, hA2, _⟩ := H.out.r2 k x hx
      have HA2 := Lib.hid hA2
      have HC_ := Lib.hid (show ∀ W, Below w.heap.size w W → W.rangeAt wb (wo + k * 513) (wc x) from fun W hW => by
        obtain ⟨b', o', e', hc⟩ := (H.out.r2.below hW) k x hx
        rw [hA2] at e'
        injection e' with e'
        injection e' with e1 e2
        subst e1 e2
        exact hc)
      have HA1 := Lib.hid (show ∀ W, Blk W w.heap.size 34 #[.slice r.A1 N r.c1, .slice r.A2 r.n2 r.c2, .int .i64 (s : Int), .slice r.A3 r.n3 r.c3] → W.cell? ⟨w.heap.size, 1, none⟩ = some (.slice (some ⟨wb, wo, none⟩) r.n2 r.c2) from fun W hW => by
        have := (cells4 hW).2.1
        rw [hA2] at this
        exact this)
      rw [hA2] at a1
      have HX := Lib.hid (Rf.nums_at hx)
      have HW := Lib.hid (H.out.wl x (List.mem_of_getElem? hx))
      have i1 : (0 : Int) ≤ (k : Int) := by omega
      have i2 : (k : Int) < (r.n2 : Int) := by have := HN2.out; omega
      have kb : k ≤ 100000 := by omega
      have LAID := Lib.hid (fun (u : Int) (hu : u = (c.kn k : Int)) (W : World) (hr : Rd W A (layE (fun i => c.kn i) R.lb (R.nums.take k))) => show Calls Try.prog 59 #[.slice A N cp, wv x, .int .i64 u] W fun e w' => ∃ v, e = .returned v ∧ w'.ownsRow W.heap.size 5 1 v N (bv (laidF (layE (fun i => c.kn i) R.lb (R.nums.take k)) x (c.kn k))) ∧ Below W.heap.size W w' from by
        subst hu
        have := laid_any W A cp (layE (fun i => c.kn i) R.lb (R.nums.take k)) x (c.kn k) hr (by rw [HLL.out]; exact NB.out.1) (by rw [HLL.out]; exact NB.out.2) HW.out.1 (HKN.out k) (.inr (by rw [HLL.out, HNE.out]; have := HW.out.2; omega))
        rw [HLL.out] at this
        exact this)
      have KE := Lib.hid (Int.toNat_of_nonneg (HK0.out k))
      have KD := Lib.hid (show c.kept k = if (k : Int) = c.torn then c.bytes else if c.keep[k]? = some true then 512 else 0 from rfl)
      clear hx hA2
      by_cases hl : k < c.keep.length
      · obtain ⟨kb2, off, hka, hc⟩ := HKR.out k hl
        have hc2 := (QB.out.cell (cell_lt hc)).trans hc
        have h2 : decide (k < c.keep.length) = true := by simpa using hl
        have i3 : (k : Int) < (c.keep.length : Int) := by omega
        have KL := Lib.hid (List.getElem?_eq_getElem hl)
        rw [hka] at m0
        generalize c.keep[k] = u at hc2 KL
        clear hc hka
        by_cases ht : (k : Int) = c.torn
        · have h3 : ((k : Int) == c.torn) = true := beq_iff_eq.2 ht
          have VE := Lib.hid (show c.bytes = (c.kn k : Int) by show c.bytes = ((c.kept k).toNat : Int); rw [KE.out, KD.out, if_pos ht])
          clear ht hl
          cases u
          · go_wp2_with fail
            refine wp_region_U (S := fun w' => w'.cell? ⟨b4, 0, none⟩ = some (.slice A N cp) ∧ w'.cell? ⟨w.heap.size, 1, none⟩ = some (.slice (some ⟨wb, wo, none⟩) r.n2 r.c2) ∧ w'.rangeAt wb (wo + k * 513) (wc x)) 10 (by kernel_rfl) ⟨(cells4 Q4.out).1, HA1.out _ Q1.out, HC_.out wr QB.out⟩ (fun hHeld => ?_)
            refine wpAnyU_take (i := 0) (v := ?v1) rfl (by kernel_rfl) (by kernel_rfl) (by kernel_rfl) (by kernel_rfl) (fun _ _ _ h => h) (Or.inl ⟨by rfl, ?hy1⟩) hHeld ?rest1
            case hy1 =>
              intro w' hSw
              try dsimp only at hSw
              go_simp
              first | done | with_reducible rfl
            try simp only [Act.put, List.getElem_toArray, List.getElem_cons_zero, List.setIfInBounds_toArray, List.set_cons_zero, List.set_cons_succ]
            refine wpAnyU_take (i := 1) (v := ?v2) rfl (by kernel_rfl) (by kernel_rfl) (by kernel_rfl) (by kernel_rfl) (fun _ _ _ h => h) (Or.inl ⟨by rfl, ?hy2⟩) hHeld ?rest2
            case hy2 =>
              intro w' hSw
              try dsimp only at hSw
              go_simp
              first | done | with_reducible rfl
            try simp only [Act.put, List.getElem_toArray, List.getElem_cons_succ, List.getElem_cons_zero, List.setIfInBounds_toArray, List.set_cons_zero, List.set_cons_succ]
            refine wpAnyU_take (i := 2) (v := ?v3) rfl (by kernel_rfl) (by kernel_rfl) (by kernel_rfl) (by kernel_rfl) (fun _ _ _ h => h) (Or.inl ⟨by rfl, ?hy3⟩) hHeld ?rest3
            case hy3 =>
              intro w' hSw
              try dsimp only at hSw
              go_simp
              first | done | with_reducible rfl
            try simp only [Act.put, List.getElem_toArray, List.getElem_cons_succ, List.getElem_cons_zero, List.setIfInBounds_toArray, List.set_cons_zero, List.set_cons_succ]
            refine wpAnyU_take (i := 3) (v := ?v4) rfl (by kernel_rfl) (by kernel_rfl) (by kernel_rfl) (by kernel_rfl) (fun _ _ _ h => h) (Or.inl ⟨by rfl, ?hy4⟩) hHeld ?rest4
            case hy4 =>
              intro w' hSw
              try dsimp only at hSw
              go_simp
              first | done | with_reducible rfl
            try simp only [Act.put, List.getElem_toArray, List.getElem_cons_succ, List.getElem_cons_zero, List.setIfInBounds_toArray, List.set_cons_zero, List.set_cons_succ]
            refine wpAnyU_take (i := 4) (v := ?v5) rfl (by kernel_rfl) (by kernel_rfl) (by kernel_rfl) (by kernel_rfl) (fun _ _ _ h => h) (Or.inl ⟨by rfl, ?hy5⟩) hHeld ?rest5
            case hy5 =>
              intro w' hSw
              try dsimp only at hSw
              go_simp
              first | done | with_reducible rfl
            try simp only [Act.put, List.getElem_toArray, List.getElem_cons_succ, List.getElem_cons_zero, List.setIfInBounds_toArray, List.set_cons_zero, List.set_cons_succ]
            refine wpAnyU_take (i := 5) (v := ?v6) rfl (by kernel_rfl) (by kernel_rfl) (by kernel_rfl) (by kernel_rfl) (fun _ _ _ h => h) (Or.inl ⟨by rfl, ?hy6⟩) hHeld ?rest6
            case hy6 =>
              intro w' hSw
              try dsimp only at hSw
              go_simp
              first | done | with_reducible rfl
            try simp only [Act.put, List.getElem_toArray, List.getElem_cons_succ, List.getElem_cons_zero, List.setIfInBounds_toArray, List.set_cons_zero, List.set_cons_succ]
            refine wpAnyU_take (i := 6) rfl (by kernel_rfl) (by kernel_rfl) (by kernel_rfl) (by kernel_rfl) (fun _ _ _ h => h) (yieldsIf_load_mid (by rfl) 94 (.tmp 51) (by rfl) wb (wo + k * 513) (by rfl) (wc x) _ (fun _ h => h.2.2) Try.underlying94 rfl (by rw [wc_length _ HW.out.1]; exact size94)) hHeld ?_
            try simp only [Act.put, List.getElem_toArray, List.getElem_cons_succ, List.getElem_cons_zero, List.setIfInBounds_toArray, List.set_cons_zero, List.set_cons_succ]
            refine wpAnyU_take (i := 7) (v := ?v7) rfl (by kernel_rfl) (by kernel_rfl) (by kernel_rfl) (by kernel_rfl) (fun _ _ _ h => h) (Or.inl ⟨by rfl, ?hy7⟩) hHeld ?rest7
            case hy7 =>
              intro w' hSw
              try dsimp only at hSw
              go_simp
              first | done | with_reducible rfl
            try simp only [Act.put, List.getElem_toArray, List.getElem_cons_succ, List.getElem_cons_zero, List.setIfInBounds_toArray, List.set_cons_zero, List.set_cons_succ]
            refine wpAnyU_one (i := 8) (by kernel_rfl) (by rfl) (fun K hK => ?_)
            go_simp
            refine (LAID.out _ VE.out _ (QO.out.below (Below.drew (Below.refl _ _)))).mono ?_
            rintro e_ w5 ⟨v, rfl, hown, c_⟩
            obtain ⟨g5, c', rfl, _⟩ := own_some hown NB.out.1
            have HG5 := Lib.hid (show b4 < g5 from Nat.lt_of_lt_of_le Q4.out.lt (hown.lt g5 rfl).1)
            have J := Lib.hid (Rd.of_own hown)
            have JB := Lib.hid ((QB.out.trans (Below.drew (Below.refl _ _))).trans (c_.mono QB.out.size))
            have J1 := Lib.hid (blk_k (w := wr.drew) Q1.out c_)
            have J2 := Lib.hid (blk_k (w := wr.drew) Q2.out c_)
            have J3 := Lib.hid (blk_k (w := wr.drew) Q3.out c_)
            have J4 := Lib.hid (blk_k (w := wr.drew) Q4.out c_)
            have JC := Lib.hid (HC_.out w5 JB.out)
            have f4 := J4.out.frozen 0
            clear c_ hown hHeld
            go_wp2_with fail
            refine hK.out _ _ (.inr ⟨(cells4 J4.out).1, HA1.out _ J1.out, JC.out⟩) (fun hHeld => ?_)
            replace hHeld := hHeld.resolve_left (by decide)
            clear hK K
            try simp only [Act.put, List.getElem_toArray, List.getElem_cons_succ, List.getElem_cons_zero, List.setIfInBounds_toArray, List.set_cons_zero, List.set_cons_succ]
            refine wpAnyU_take (i := 9) (v := ?v8) rfl (by kernel_rfl) (by kernel_rfl) (by kernel_rfl) (by kernel_rfl) (fun _ _ _ h => h) (Or.inl ⟨by rfl, ?hy8⟩) hHeld ?rest8
            case hy8 =>
              intro w' hSw
              try dsimp only at hSw
              go_simp
              first | done | with_reducible rfl
            try simp only [Act.put, List.getElem_toArray, List.getElem_cons_succ, List.getElem_cons_zero, List.setIfInBounds_toArray, List.set_cons_zero, List.set_cons_succ]
            refine wpAnyU_one (i := 10) (by kernel_rfl) (by rfl) (fun K hK => ?_)
            go_simp
            refine hK.out _ _ (.inl rfl) (fun hHeld => ?_)
            clear hK K
            try simp only [Act.put, List.getElem_toArray, List.getElem_cons_succ, List.getElem_cons_zero, List.setIfInBounds_toArray, List.set_cons_zero, List.set_cons_succ]
            refine wpAnyU_done (by kernel_rfl) ?_ _
            refine OnlyN.normal ?_
            clear hHeld
            go_wp2
            go_roundw
            case rel =>
              refine ⟨k + 1, some ⟨g5, 0, none⟩, c', by omega, by go_num, ?_, .inr (fun b off e => by injection e with e; injection e with e1; subst e1; exact HG5.out), Blk.far J1.out (show w.heap.size ≠ b4 by have := HB4.out; omega) _, Blk.far J2.out (show w.heap.size + 1 ≠ b4 by have := HB4.out; omega) _, Blk.far J3.out (show w.heap.size + 1 + 1 ≠ b4 by have := HB4.out; omega) _, Blk.set_ J4.out 0 _, JB.out.setCell (show w.heap.size ≤ b4 by have := HB4.out; omega) _⟩
              rw [HX.out, layE_snoc]
              exact rd_far J.out (fun b off e => by injection e with e; injection e with e1; subst e1; have := HG5.out; show g5 ≠ b4; omega) _
            case measure => simp [intOf]; omega
          · go_wp2_with fail
            refine wp_region_U (S := fun w' => w'.cell? ⟨b4, 0, none⟩ = some (.slice A N cp) ∧ w'.cell? ⟨w.heap.size, 1, none⟩ = some (.slice (some ⟨wb, wo, none⟩) r.n2 r.c2) ∧ w'.rangeAt wb (wo + k * 513) (wc x)) 10 (by kernel_rfl) ⟨(cells4 Q4.out).1, HA1.out _ Q1.out, HC_.out wr QB.out⟩ (fun hHeld => ?_)
            refine wpAnyU_take (i := 0) (v := ?v9) rfl (by kernel_rfl) (by kernel_rfl) (by kernel_rfl) (by kernel_rfl) (fun _ _ _ h => h) (Or.inl ⟨by rfl, ?hy9⟩) hHeld ?rest9
            case hy9 =>
              intro w' hSw
              try dsimp only at hSw
              go_simp
              first | done | with_reducible rfl
            try simp only [Act.put, List.getElem_toArray, List.getElem_cons_zero, List.setIfInBounds_toArray, List.set_cons_zero, List.set_cons_succ]
            refine wpAnyU_take (i := 1) (v := ?v10) rfl (by kernel_rfl) (by kernel_rfl) (by kernel_rfl) (by kernel_rfl) (fun _ _ _ h => h) (Or.inl ⟨by rfl, ?hy10⟩) hHeld ?rest10
            case hy10 =>
              intro w' hSw
              try dsimp only at hSw
              go_simp
              first | done | with_reducible rfl
            try simp only [Act.put, List.getElem_toArray, List.getElem_cons_succ, List.getElem_cons_zero, List.setIfInBounds_toArray, List.set_cons_zero, List.set_cons_succ]
            refine wpAnyU_take (i := 2) (v := ?v11) rfl (by kernel_rfl) (by kernel_rfl) (by kernel_rfl) (by kernel_rfl) (fun _ _ _ h => h) (Or.inl ⟨by rfl, ?hy11⟩) hHeld ?rest11
            case hy11 =>
              intro w' hSw
              try dsimp only at hSw
              go_simp
              first | done | with_reducible rfl
            try simp only [Act.put, List.getElem_toArray, List.getElem_cons_succ, List.getElem_cons_zero, List.setIfInBounds_toArray, List.set_cons_zero, List.set_cons_succ]
            refine wpAnyU_take (i := 3) (v := ?v12) rfl (by kernel_rfl) (by kernel_rfl) (by kernel_rfl) (by kernel_rfl) (fun _ _ _ h => h) (Or.inl ⟨by rfl, ?hy12⟩) hHeld ?rest12
            case hy12 =>
              intro w' hSw
              try dsimp only at hSw
              go_simp
              first | done | with_reducible rfl
            try simp only [Act.put, List.getElem_toArray, List.getElem_cons_succ, List.getElem_cons_zero, List.setIfInBounds_toArray, List.set_cons_zero, List.set_cons_succ]
            refine wpAnyU_take (i := 4) (v := ?v13) rfl (by kernel_rfl) (by kernel_rfl) (by kernel_rfl) (by kernel_rfl) (fun _ _ _ h => h) (Or.inl ⟨by rfl, ?hy13⟩) hHeld ?rest13
            case hy13 =>
              intro w' hSw
              try dsimp only at hSw
              go_simp
              first | done | with_reducible rfl
            try simp only [Act.put, List.getElem_toArray, List.getElem_cons_succ, List.getElem_cons_zero, List.setIfInBounds_toArray, List.set_cons_zero, List.set_cons_succ]
            refine wpAnyU_take (i := 5) (v := ?v14) rfl (by kernel_rfl) (by kernel_rfl) (by kernel_rfl) (by kernel_rfl) (fun _ _ _ h => h) (Or.inl ⟨by rfl, ?hy14⟩) hHeld ?rest14
            case hy14 =>
              intro w' hSw
              try dsimp only at hSw
              go_simp
              first | done | with_reducible rfl
            try simp only [Act.put, List.getElem_toArray, List.getElem_cons_succ, List.getElem_cons_zero, List.setIfInBounds_toArray, List.set_cons_zero, List.set_cons_succ]
            refine wpAnyU_take (i := 6) rfl (by kernel_rfl) (by kernel_rfl) (by kernel_rfl) (by kernel_rfl) (fun _ _ _ h => h) (yieldsIf_load_mid (by rfl) 94 (.tmp 51) (by rfl) wb (wo + k * 513) (by rfl) (wc x) _ (fun _ h => h.2.2) Try.underlying94 rfl (by rw [wc_length _ HW.out.1]; exact size94)) hHeld ?_
            try simp only [Act.put, List.getElem_toArray, List.getElem_cons_succ, List.getElem_cons_zero, List.setIfInBounds_toArray, List.set_cons_zero, List.set_cons_succ]
            refine wpAnyU_take (i := 7) (v := ?v15) rfl (by kernel_rfl) (by kernel_rfl) (by kernel_rfl) (by kernel_rfl) (fun _ _ _ h => h) (Or.inl ⟨by rfl, ?hy15⟩) hHeld ?rest15
            case hy15 =>
              intro w' hSw
              try dsimp only at hSw
              go_simp
              first | done | with_reducible rfl
            try simp only [Act.put, List.getElem_toArray, List.getElem_cons_succ, List.getElem_cons_zero, List.setIfInBounds_toArray, List.set_cons_zero, List.set_cons_succ]
            refine wpAnyU_one (i := 8) (by kernel_rfl) (by rfl) (fun K hK => ?_)
            go_simp
            refine (LAID.out _ VE.out _ (QO.out.below (Below.drew (Below.refl _ _)))).mono ?_
            rintro e_ w5 ⟨v, rfl, hown, c_⟩
            obtain ⟨g5, c', rfl, _⟩ := own_some hown NB.out.1
            have HG5 := Lib.hid (show b4 < g5 from Nat.lt_of_lt_of_le Q4.out.lt (hown.lt g5 rfl).1)
            have J := Lib.hid (Rd.of_own hown)
            have JB := Lib.hid ((QB.out.trans (Below.drew (Below.refl _ _))).trans (c_.mono QB.out.size))
            have J1 := Lib.hid (blk_k (w := wr.drew) Q1.out c_)
            have J2 := Lib.hid (blk_k (w := wr.drew) Q2.out c_)
            have J3 := Lib.hid (blk_k (w := wr.drew) Q3.out c_)
            have J4 := Lib.hid (blk_k (w := wr.drew) Q4.out c_)
            have JC := Lib.hid (HC_.out w5 JB.out)
            have f4 := J4.out.frozen 0
            clear c_ hown hHeld
            go_wp2_with fail
            refine hK.out _ _ (.inr ⟨(cells4 J4.out).1, HA1.out _ J1.out, JC.out⟩) (fun hHeld => ?_)
            replace hHeld := hHeld.resolve_left (by decide)
            clear hK K
            try simp only [Act.put, List.getElem_toArray, List.getElem_cons_succ, List.getElem_cons_zero, List.setIfInBounds_toArray, List.set_cons_zero, List.set_cons_succ]
            refine wpAnyU_take (i := 9) (v := ?v16) rfl (by kernel_rfl) (by kernel_rfl) (by kernel_rfl) (by kernel_rfl) (fun _ _ _ h => h) (Or.inl ⟨by rfl, ?hy16⟩) hHeld ?rest16
            case hy16 =>
              intro w' hSw
              try dsimp only at hSw
              go_simp
              first | done | with_reducible rfl
            try simp only [Act.put, List.getElem_toArray, List.getElem_cons_succ, List.getElem_cons_zero, List.setIfInBounds_toArray, List.set_cons_zero, List.set_cons_succ]
            refine wpAnyU_one (i := 10) (by kernel_rfl) (by rfl) (fun K hK => ?_)
            go_simp
            refine hK.out _ _ (.inl rfl) (fun hHeld => ?_)
            clear hK K
            try simp only [Act.put, List.getElem_toArray, List.getElem_cons_succ, List.getElem_cons_zero, List.setIfInBounds_toArray, List.set_cons_zero, List.set_cons_succ]
            refine wpAnyU_done (by kernel_rfl) ?_ _
            refine OnlyN.normal ?_
            clear hHeld
            go_wp2
            go_roundw
            case rel =>
              refine ⟨k + 1, some ⟨g5, 0, none⟩, c', by omega, by go_num, ?_, .inr (fun b off e => by injection e with e; injection e with e1; subst e1; exact HG5.out), Blk.far J1.out (show w.heap.size ≠ b4 by have := HB4.out; omega) _, Blk.far J2.out (show w.heap.size + 1 ≠ b4 by have := HB4.out; omega) _, Blk.far J3.out (show w.heap.size + 1 + 1 ≠ b4 by have := HB4.out; omega) _, Blk.set_ J4.out 0 _, JB.out.setCell (show w.heap.size ≤ b4 by have := HB4.out; omega) _⟩
              rw [HX.out, layE_snoc]
              exact rd_far J.out (fun b off e => by injection e with e; injection e with e1; subst e1; have := HG5.out; show g5 ≠ b4; omega) _
            case measure => simp [intOf]; omega
        · have h3 : ((k : Int) == c.torn) = false := beq_eq_false_iff_ne.2 ht
          cases u
          · have VE := Lib.hid (show (0 : Int) = (c.kn k : Int) by show (0 : Int) = ((c.kept k).toNat : Int); rw [KE.out, KD.out, if_neg ht, KL.out]; simp)
            clear ht hl
            go_wp2_with fail
            refine wp_region_U (S := fun w' => w'.cell? ⟨b4, 0, none⟩ = some (.slice A N cp) ∧ w'.cell? ⟨w.heap.size, 1, none⟩ = some (.slice (some ⟨wb, wo, none⟩) r.n2 r.c2) ∧ w'.rangeAt wb (wo + k * 513) (wc x)) 10 (by kernel_rfl) ⟨(cells4 Q4.out).1, HA1.out _ Q1.out, HC_.out wr QB.out⟩ (fun hHeld => ?_)
            refine wpAnyU_take (i := 0) (v := ?v17) rfl (by kernel_rfl) (by kernel_rfl) (by kernel_rfl) (by kernel_rfl) (fun _ _ _ h => h) (Or.inl ⟨by rfl, ?hy17⟩) hHeld ?rest17
            case hy17 =>
              intro w' hSw
              try dsimp only at hSw
              go_simp
              first | done | with_reducible rfl
            try simp only [Act.put, List.getElem_toArray, List.getElem_cons_zero, List.setIfInBounds_toArray, List.set_cons_zero, List.set_cons_succ]
            refine wpAnyU_take (i := 1) (v := ?v18) rfl (by kernel_rfl) (by kernel_rfl) (by kernel_rfl) (by kernel_rfl) (fun _ _ _ h => h) (Or.inl ⟨by rfl, ?hy18⟩) hHeld ?rest18
            case hy18 =>
              intro w' hSw
              try dsimp only at hSw
              go_simp
              first | done | with_reducible rfl
            try simp only [Act.put, List.getElem_toArray, List.getElem_cons_succ, List.getElem_cons_zero, List.setIfInBounds_toArray, List.set_cons_zero, List.set_cons_succ]
            refine wpAnyU_take (i := 2) (v := ?v19) rfl (by kernel_rfl) (by kernel_rfl) (by kernel_rfl) (by kernel_rfl) (fun _ _ _ h => h) (Or.inl ⟨by rfl, ?hy19⟩) hHeld ?rest19
            case hy19 =>
              intro w' hSw
              try dsimp only at hSw
              go_simp
              first | done | with_reducible rfl
            try simp only [Act.put, List.getElem_toArray, List.getElem_cons_succ, List.getElem_cons_zero, List.setIfInBounds_toArray, List.set_cons_zero, List.set_cons_succ]
            refine wpAnyU_take (i := 3) (v := ?v20) rfl (by kernel_rfl) (by kernel_rfl) (by kernel_rfl) (by kernel_rfl) (fun _ _ _ h => h) (Or.inl ⟨by rfl, ?hy20⟩) hHeld ?rest20
            case hy20 =>
              intro w' hSw
              try dsimp only at hSw
              go_simp
              first | done | with_reducible rfl
            try simp only [Act.put, List.getElem_toArray, List.getElem_cons_succ, List.getElem_cons_zero, List.setIfInBounds_toArray, List.set_cons_zero, List.set_cons_succ]
            refine wpAnyU_take (i := 4) (v := ?v21) rfl (by kernel_rfl) (by kernel_rfl) (by kernel_rfl) (by kernel_rfl) (fun _ _ _ h => h) (Or.inl ⟨by rfl, ?hy21⟩) hHeld ?rest21
            case hy21 =>
              intro w' hSw
              try dsimp only at hSw
              go_simp
              first | done | with_reducible rfl
            try simp only [Act.put, List.getElem_toArray, List.getElem_cons_succ, List.getElem_cons_zero, List.setIfInBounds_toArray, List.set_cons_zero, List.set_cons_succ]
            refine wpAnyU_take (i := 5) (v := ?v22) rfl (by kernel_rfl) (by kernel_rfl) (by kernel_rfl) (by kernel_rfl) (fun _ _ _ h => h) (Or.inl ⟨by rfl, ?hy22⟩) hHeld ?rest22
            case hy22 =>
              intro w' hSw
              try dsimp only at hSw
              go_simp
              first | done | with_reducible rfl
            try simp only [Act.put, List.getElem_toArray, List.getElem_cons_succ, List.getElem_cons_zero, List.setIfInBounds_toArray, List.set_cons_zero, List.set_cons_succ]
            refine wpAnyU_take (i := 6) rfl (by kernel_rfl) (by kernel_rfl) (by kernel_rfl) (by kernel_rfl) (fun _ _ _ h => h) (yieldsIf_load_mid (by rfl) 94 (.tmp 51) (by rfl) wb (wo + k * 513) (by rfl) (wc x) _ (fun _ h => h.2.2) Try.underlying94 rfl (by rw [wc_length _ HW.out.1]; exact size94)) hHeld ?_
            try simp only [Act.put, List.getElem_toArray, List.getElem_cons_succ, List.getElem_cons_zero, List.setIfInBounds_toArray, List.set_cons_zero, List.set_cons_succ]
            refine wpAnyU_take (i := 7) (v := ?v23) rfl (by kernel_rfl) (by kernel_rfl) (by kernel_rfl) (by kernel_rfl) (fun _ _ _ h => h) (Or.inl ⟨by rfl, ?hy23⟩) hHeld ?rest23
            case hy23 =>
              intro w' hSw
              try dsimp only at hSw
              go_simp
              first | done | with_reducible rfl
            try simp only [Act.put, List.getElem_toArray, List.getElem_cons_succ, List.getElem_cons_zero, List.setIfInBounds_toArray, List.set_cons_zero, List.set_cons_succ]
            refine wpAnyU_one (i := 8) (by kernel_rfl) (by rfl) (fun K hK => ?_)
            go_simp
            refine (LAID.out _ VE.out _ (QO.out.below (Below.drew (Below.refl _ _)))).mono ?_
            rintro e_ w5 ⟨v, rfl, hown, c_⟩
            obtain ⟨g5, c', rfl, _⟩ := own_some hown NB.out.1
            have HG5 := Lib.hid (show b4 < g5 from Nat.lt_of_lt_of_le Q4.out.lt (hown.lt g5 rfl).1)
            have J := Lib.hid (Rd.of_own hown)
            have JB := Lib.hid ((QB.out.trans (Below.drew (Below.refl _ _))).trans (c_.mono QB.out.size))
            have J1 := Lib.hid (blk_k (w := wr.drew) Q1.out c_)
            have J2 := Lib.hid (blk_k (w := wr.drew) Q2.out c_)
            have J3 := Lib.hid (blk_k (w := wr.drew) Q3.out c_)
            have J4 := Lib.hid (blk_k (w := wr.drew) Q4.out c_)
            have JC := Lib.hid (HC_.out w5 JB.out)
            have f4 := J4.out.frozen 0
            clear c_ hown hHeld
            go_wp2_with fail
            refine hK.out _ _ (.inr ⟨(cells4 J4.out).1, HA1.out _ J1.out, JC.out⟩) (fun hHeld => ?_)
            replace hHeld := hHeld.resolve_left (by decide)
            clear hK K
            try simp only [Act.put, List.getElem_toArray, List.getElem_cons_succ, List.getElem_cons_zero, List.setIfInBounds_toArray, List.set_cons_zero, List.set_cons_succ]
            refine wpAnyU_take (i := 9) (v := ?v24) rfl (by kernel_rfl) (by kernel_rfl) (by kernel_rfl) (by kernel_rfl) (fun _ _ _ h => h) (Or.inl ⟨by rfl, ?hy24⟩) hHeld ?rest24
            case hy24 =>
              intro w' hSw
              try dsimp only at hSw
              go_simp
              first | done | with_reducible rfl
            try simp only [Act.put, List.getElem_toArray, List.getElem_cons_succ, List.getElem_cons_zero, List.setIfInBounds_toArray, List.set_cons_zero, List.set_cons_succ]
            refine wpAnyU_one (i := 10) (by kernel_rfl) (by rfl) (fun K hK => ?_)
            go_simp
            refine hK.out _ _ (.inl rfl) (fun hHeld => ?_)
            clear hK K
            try simp only [Act.put, List.getElem_toArray, List.getElem_cons_succ, List.getElem_cons_zero, List.setIfInBounds_toArray, List.set_cons_zero, List.set_cons_succ]
            refine wpAnyU_done (by kernel_rfl) ?_ _
            refine OnlyN.normal ?_
            clear hHeld
            go_wp2
            go_roundw
            case rel =>
              refine ⟨k + 1, some ⟨g5, 0, none⟩, c', by omega, by go_num, ?_, .inr (fun b off e => by injection e with e; injection e with e1; subst e1; exact HG5.out), Blk.far J1.out (show w.heap.size ≠ b4 by have := HB4.out; omega) _, Blk.far J2.out (show w.heap.size + 1 ≠ b4 by have := HB4.out; omega) _, Blk.far J3.out (show w.heap.size + 1 + 1 ≠ b4 by have := HB4.out; omega) _, Blk.set_ J4.out 0 _, JB.out.setCell (show w.heap.size ≤ b4 by have := HB4.out; omega) _⟩
              rw [HX.out, layE_snoc]
              exact rd_far J.out (fun b off e => by injection e with e; injection e with e1; subst e1; have := HG5.out; show g5 ≠ b4; omega) _
            case measure => simp [intOf]; omega
          · have VE := Lib.hid (show (512 : Int) = (c.kn k : Int) by show (512 : Int) = ((c.kept k).toNat : Int); rw [KE.out, KD.out, if_neg ht, KL.out]; simp)
            clear ht hl
            go_wp2_with fail
            refine wp_region_U (S := fun w' => w'.cell? ⟨b4, 0, none⟩ = some (.slice A N cp) ∧ w'.cell? ⟨w.heap.size, 1, none⟩ = some (.slice (some ⟨wb, wo, none⟩) r.n2 r.c2) ∧ w'.rangeAt wb (wo + k * 513) (wc x)) 10 (by kernel_rfl) ⟨(cells4 Q4.out).1, HA1.out _ Q1.out, HC_.out wr QB.out⟩ (fun hHeld => ?_)
            refine wpAnyU_take (i := 0) (v := ?v25) rfl (by kernel_rfl) (by kernel_rfl) (by kernel_rfl) (by kernel_rfl) (fun _ _ _ h => h) (Or.inl ⟨by rfl, ?hy25⟩) hHeld ?rest25
            case hy25 =>
              intro w' hSw
              try dsimp only at hSw
              go_simp
              first | done | with_reducible rfl
            try simp only [Act.put, List.getElem_toArray, List.getElem_cons_zero, List.setIfInBounds_toArray, List.set_cons_zero, List.set_cons_succ]
            refine wpAnyU_take (i := 1) (v := ?v26) rfl (by kernel_rfl) (by kernel_rfl) (by kernel_rfl) (by kernel_rfl) (fun _ _ _ h => h) (Or.inl ⟨by rfl, ?hy26⟩) hHeld ?rest26
            case hy26 =>
              intro w' hSw
              try dsimp only at hSw
              go_simp
              first | done | with_reducible rfl
            try simp only [Act.put, List.getElem_toArray, List.getElem_cons_succ, List.getElem_cons_zero, List.setIfInBounds_toArray, List.set_cons_zero, List.set_cons_succ]
            refine wpAnyU_take (i := 2) (v := ?v27) rfl (by kernel_rfl) (by kernel_rfl) (by kernel_rfl) (by kernel_rfl) (fun _ _ _ h => h) (Or.inl ⟨by rfl, ?hy27⟩) hHeld ?rest27
            case hy27 =>
              intro w' hSw
              try dsimp only at hSw
              go_simp
              first | done | with_reducible rfl
            try simp only [Act.put, List.getElem_toArray, List.getElem_cons_succ, List.getElem_cons_zero, List.setIfInBounds_toArray, List.set_cons_zero, List.set_cons_succ]
            refine wpAnyU_take (i := 3) (v := ?v28) rfl (by kernel_rfl) (by kernel_rfl) (by kernel_rfl) (by kernel_rfl) (fun _ _ _ h => h) (Or.inl ⟨by rfl, ?hy28⟩) hHeld ?rest28
            case hy28 =>
              intro w' hSw
              try dsimp only at hSw
              go_simp
              first | done | with_reducible rfl
            try simp only [Act.put, List.getElem_toArray, List.getElem_cons_succ, List.getElem_cons_zero, List.setIfInBounds_toArray, List.set_cons_zero, List.set_cons_succ]
            refine wpAnyU_take (i := 4) (v := ?v29) rfl (by kernel_rfl) (by kernel_rfl) (by kernel_rfl) (by kernel_rfl) (fun _ _ _ h => h) (Or.inl ⟨by rfl, ?hy29⟩) hHeld ?rest29
            case hy29 =>
              intro w' hSw
              try dsimp only at hSw
              go_simp
              first | done | with_reducible rfl
            try simp only [Act.put, List.getElem_toArray, List.getElem_cons_succ, List.getElem_cons_zero, List.setIfInBounds_toArray, List.set_cons_zero, List.set_cons_succ]
            refine wpAnyU_take (i := 5) (v := ?v30) rfl (by kernel_rfl) (by kernel_rfl) (by kernel_rfl) (by kernel_rfl) (fun _ _ _ h => h) (Or.inl ⟨by rfl, ?hy30⟩) hHeld ?rest30
            case hy30 =>
              intro w' hSw
              try dsimp only at hSw
              go_simp
              first | done | with_reducible rfl
            try simp only [Act.put, List.getElem_toArray, List.getElem_cons_succ, List.getElem_cons_zero, List.setIfInBounds_toArray, List.set_cons_zero, List.set_cons_succ]
            refine wpAnyU_take (i := 6) rfl (by kernel_rfl) (by kernel_rfl) (by kernel_rfl) (by kernel_rfl) (fun _ _ _ h => h) (yieldsIf_load_mid (by rfl) 94 (.tmp 51) (by rfl) wb (wo + k * 513) (by rfl) (wc x) _ (fun _ h => h.2.2) Try.underlying94 rfl (by rw [wc_length _ HW.out.1]; exact size94)) hHeld ?_
            try simp only [Act.put, List.getElem_toArray, List.getElem_cons_succ, List.getElem_cons_zero, List.setIfInBounds_toArray, List.set_cons_zero, List.set_cons_succ]
            refine wpAnyU_take (i := 7) (v := ?v31) rfl (by kernel_rfl) (by kernel_rfl) (by kernel_rfl) (by kernel_rfl) (fun _ _ _ h => h) (Or.inl ⟨by rfl, ?hy31⟩) hHeld ?rest31
            case hy31 =>
              intro w' hSw
              try dsimp only at hSw
              go_simp
              first | done | with_reducible rfl
            try simp only [Act.put, List.getElem_toArray, List.getElem_cons_succ, List.getElem_cons_zero, List.setIfInBounds_toArray, List.set_cons_zero, List.set_cons_succ]
            refine wpAnyU_one (i := 8) (by kernel_rfl) (by rfl) (fun K hK => ?_)
            go_simp
            refine (LAID.out _ VE.out _ (QO.out.below (Below.drew (Below.refl _ _)))).mono ?_
            rintro e_ w5 ⟨v, rfl, hown, c_⟩
            obtain ⟨g5, c', rfl, _⟩ := own_some hown NB.out.1
            have HG5 := Lib.hid (show b4 < g5 from Nat.lt_of_lt_of_le Q4.out.lt (hown.lt g5 rfl).1)
            have J := Lib.hid (Rd.of_own hown)
            have JB := Lib.hid ((QB.out.trans (Below.drew (Below.refl _ _))).trans (c_.mono QB.out.size))
            have J1 := Lib.hid (blk_k (w := wr.drew) Q1.out c_)
            have J2 := Lib.hid (blk_k (w := wr.drew) Q2.out c_)
            have J3 := Lib.hid (blk_k (w := wr.drew) Q3.out c_)
            have J4 := Lib.hid (blk_k (w := wr.drew) Q4.out c_)
            have JC := Lib.hid (HC_.out w5 JB.out)
            have f4 := J4.out.frozen 0
            clear c_ hown hHeld
            go_wp2_with fail
            refine hK.out _ _ (.inr ⟨(cells4 J4.out).1, HA1.out _ J1.out, JC.out⟩) (fun hHeld => ?_)
            replace hHeld := hHeld.resolve_left (by decide)
            clear hK K
            try simp only [Act.put, List.getElem_toArray, List.getElem_cons_succ, List.getElem_cons_zero, List.setIfInBounds_toArray, List.set_cons_zero, List.set_cons_succ]
            refine wpAnyU_take (i := 9) (v := ?v32) rfl (by kernel_rfl) (by kernel_rfl) (by kernel_rfl) (by kernel_rfl) (fun _ _ _ h => h) (Or.inl ⟨by rfl, ?hy32⟩) hHeld ?rest32
            case hy32 =>
              intro w' hSw
              try dsimp only at hSw
              go_simp
              first | done | with_reducible rfl
            try simp only [Act.put, List.getElem_toArray, List.getElem_cons_succ, List.getElem_cons_zero, List.setIfInBounds_toArray, List.set_cons_zero, List.set_cons_succ]
            refine wpAnyU_one (i := 10) (by kernel_rfl) (by rfl) (fun K hK => ?_)
            go_simp
            refine hK.out _ _ (.inl rfl) (fun hHeld => ?_)
            clear hK K
            try simp only [Act.put, List.getElem_toArray, List.getElem_cons_succ, List.getElem_cons_zero, List.setIfInBounds_toArray, List.set_cons_zero, List.set_cons_succ]
            refine wpAnyU_done (by kernel_rfl) ?_ _
            refine OnlyN.normal ?_
            clear hHeld
            go_wp2
            go_roundw
            case rel =>
              refine ⟨k + 1, some ⟨g5, 0, none⟩, c', by omega, by go_num, ?_, .inr (fun b off e => by injection e with e; injection e with e1; subst e1; exact HG5.out), Blk.far J1.out (show w.heap.size ≠ b4 by have := HB4.out; omega) _, Blk.far J2.out (show w.heap.size + 1 ≠ b4 by have := HB4.out; omega) _, Blk.far J3.out (show w.heap.size + 1 + 1 ≠ b4 by have := HB4.out; omega) _, Blk.set_ J4.out 0 _, JB.out.setCell (show w.heap.size ≤ b4 by have := HB4.out; omega) _⟩
              rw [HX.out, layE_snoc]
              exact rd_far J.out (fun b off e => by injection e with e; injection e with e1; subst e1; have := HG5.out; show g5 ≠ b4; omega) _
            case measure => simp [intOf]; omega
      · have h2 : decide (k < c.keep.length) = false := by simpa using hl
        have KL := Lib.hid (List.getElem?_eq_none (l := c.keep) (i := k) (by omega))
        by_cases ht : (k : Int) = c.torn
        · have h3 : ((k : Int) == c.torn) = true := beq_iff_eq.2 ht
          have VE := Lib.hid (show c.bytes = (c.kn k : Int) by show c.bytes = ((c.kept k).toNat : Int); rw [KE.out, KD.out, if_pos ht])
          clear ht hl
          go_wp2_with fail
          refine wp_region_U (S := fun w' => w'.cell? ⟨b4, 0, none⟩ = some (.slice A N cp) ∧ w'.cell? ⟨w.heap.size, 1, none⟩ = some (.slice (some ⟨wb, wo, none⟩) r.n2 r.c2) ∧ w'.rangeAt wb (wo + k * 513) (wc x)) 10 (by kernel_rfl) ⟨(cells4 Q4.out).1, HA1.out _ Q1.out, HC_.out wr QB.out⟩ (fun hHeld => ?_)
          refine wpAnyU_take (i := 0) (v := ?v33) rfl (by kernel_rfl) (by kernel_rfl) (by kernel_rfl) (by kernel_rfl) (fun _ _ _ h => h) (Or.inl ⟨by rfl, ?hy33⟩) hHeld ?rest33
          case hy33 =>
            intro w' hSw
            try dsimp only at hSw
            go_simp
            first | done | with_reducible rfl
          try simp only [Act.put, List.getElem_toArray, List.getElem_cons_zero, List.setIfInBounds_toArray, List.set_cons_zero, List.set_cons_succ]
          refine wpAnyU_take (i := 1) (v := ?v34) rfl (by kernel_rfl) (by kernel_rfl) (by kernel_rfl) (by kernel_rfl) (fun _ _ _ h => h) (Or.inl ⟨by rfl, ?hy34⟩) hHeld ?rest34
          case hy34 =>
            intro w' hSw
            try dsimp only at hSw
            go_simp
            first | done | with_reducible rfl
          try simp only [Act.put, List.getElem_toArray, List.getElem_cons_succ, List.getElem_cons_zero, List.setIfInBounds_toArray, List.set_cons_zero, List.set_cons_succ]
          refine wpAnyU_take (i := 2) (v := ?v35) rfl (by kernel_rfl) (by kernel_rfl) (by kernel_rfl) (by kernel_rfl) (fun _ _ _ h => h) (Or.inl ⟨by rfl, ?hy35⟩) hHeld ?rest35
          case hy35 =>
            intro w' hSw
            try dsimp only at hSw
            go_simp
            first | done | with_reducible rfl
          try simp only [Act.put, List.getElem_toArray, List.getElem_cons_succ, List.getElem_cons_zero, List.setIfInBounds_toArray, List.set_cons_zero, List.set_cons_succ]
          refine wpAnyU_take (i := 3) (v := ?v36) rfl (by kernel_rfl) (by kernel_rfl) (by kernel_rfl) (by kernel_rfl) (fun _ _ _ h => h) (Or.inl ⟨by rfl, ?hy36⟩) hHeld ?rest36
          case hy36 =>
            intro w' hSw
            try dsimp only at hSw
            go_simp
            first | done | with_reducible rfl
          try simp only [Act.put, List.getElem_toArray, List.getElem_cons_succ, List.getElem_cons_zero, List.setIfInBounds_toArray, List.set_cons_zero, List.set_cons_succ]
          refine wpAnyU_take (i := 4) (v := ?v37) rfl (by kernel_rfl) (by kernel_rfl) (by kernel_rfl) (by kernel_rfl) (fun _ _ _ h => h) (Or.inl ⟨by rfl, ?hy37⟩) hHeld ?rest37
          case hy37 =>
            intro w' hSw
            try dsimp only at hSw
            go_simp
            first | done | with_reducible rfl
          try simp only [Act.put, List.getElem_toArray, List.getElem_cons_succ, List.getElem_cons_zero, List.setIfInBounds_toArray, List.set_cons_zero, List.set_cons_succ]
          refine wpAnyU_take (i := 5) (v := ?v38) rfl (by kernel_rfl) (by kernel_rfl) (by kernel_rfl) (by kernel_rfl) (fun _ _ _ h => h) (Or.inl ⟨by rfl, ?hy38⟩) hHeld ?rest38
          case hy38 =>
            intro w' hSw
            try dsimp only at hSw
            go_simp
            first | done | with_reducible rfl
          try simp only [Act.put, List.getElem_toArray, List.getElem_cons_succ, List.getElem_cons_zero, List.setIfInBounds_toArray, List.set_cons_zero, List.set_cons_succ]
          refine wpAnyU_take (i := 6) rfl (by kernel_rfl) (by kernel_rfl) (by kernel_rfl) (by kernel_rfl) (fun _ _ _ h => h) (yieldsIf_load_mid (by rfl) 94 (.tmp 51) (by rfl) wb (wo + k * 513) (by rfl) (wc x) _ (fun _ h => h.2.2) Try.underlying94 rfl (by rw [wc_length _ HW.out.1]; exact size94)) hHeld ?_
          try simp only [Act.put, List.getElem_toArray, List.getElem_cons_succ, List.getElem_cons_zero, List.setIfInBounds_toArray, List.set_cons_zero, List.set_cons_succ]
          refine wpAnyU_take (i := 7) (v := ?v39) rfl (by kernel_rfl) (by kernel_rfl) (by kernel_rfl) (by kernel_rfl) (fun _ _ _ h => h) (Or.inl ⟨by rfl, ?hy39⟩) hHeld ?rest39
          case hy39 =>
            intro w' hSw
            try dsimp only at hSw
            go_simp
            first | done | with_reducible rfl
          try simp only [Act.put, List.getElem_toArray, List.getElem_cons_succ, List.getElem_cons_zero, List.setIfInBounds_toArray, List.set_cons_zero, List.set_cons_succ]
          refine wpAnyU_one (i := 8) (by kernel_rfl) (by rfl) (fun K hK => ?_)
          go_simp
          refine (LAID.out _ VE.out _ (QO.out.below (Below.drew (Below.refl _ _)))).mono ?_
          rintro e_ w5 ⟨v, rfl, hown, c_⟩
          obtain ⟨g5, c', rfl, _⟩ := own_some hown NB.out.1
          have HG5 := Lib.hid (show b4 < g5 from Nat.lt_of_lt_of_le Q4.out.lt (hown.lt g5 rfl).1)
          have J := Lib.hid (Rd.of_own hown)
          have JB := Lib.hid ((QB.out.trans (Below.drew (Below.refl _ _))).trans (c_.mono QB.out.size))
          have J1 := Lib.hid (blk_k (w := wr.drew) Q1.out c_)
          have J2 := Lib.hid (blk_k (w := wr.drew) Q2.out c_)
          have J3 := Lib.hid (blk_k (w := wr.drew) Q3.out c_)
          have J4 := Lib.hid (blk_k (w := wr.drew) Q4.out c_)
          have JC := Lib.hid (HC_.out w5 JB.out)
          have f4 := J4.out.frozen 0
          clear c_ hown hHeld
          go_wp2_with fail
          refine hK.out _ _ (.inr ⟨(cells4 J4.out).1, HA1.out _ J1.out, JC.out⟩) (fun hHeld => ?_)
          replace hHeld := hHeld.resolve_left (by decide)
          clear hK K
          try simp only [Act.put, List.getElem_toArray, List.getElem_cons_succ, List.getElem_cons_zero, List.setIfInBounds_toArray, List.set_cons_zero, List.set_cons_succ]
          refine wpAnyU_take (i := 9) (v := ?v40) rfl (by kernel_rfl) (by kernel_rfl) (by kernel_rfl) (by kernel_rfl) (fun _ _ _ h => h) (Or.inl ⟨by rfl, ?hy40⟩) hHeld ?rest40
          case hy40 =>
            intro w' hSw
            try dsimp only at hSw
            go_simp
            first | done | with_reducible rfl
          try simp only [Act.put, List.getElem_toArray, List.getElem_cons_succ, List.getElem_cons_zero, List.setIfInBounds_toArray, List.set_cons_zero, List.set_cons_succ]
          refine wpAnyU_one (i := 10) (by kernel_rfl) (by rfl) (fun K hK => ?_)
          go_simp
          refine hK.out _ _ (.inl rfl) (fun hHeld => ?_)
          clear hK K
          try simp only [Act.put, List.getElem_toArray, List.getElem_cons_succ, List.getElem_cons_zero, List.setIfInBounds_toArray, List.set_cons_zero, List.set_cons_succ]
          refine wpAnyU_done (by kernel_rfl) ?_ _
          refine OnlyN.normal ?_
          clear hHeld
          go_wp2
          go_roundw
          case rel =>
            refine ⟨k + 1, some ⟨g5, 0, none⟩, c', by omega, by go_num, ?_, .inr (fun b off e => by injection e with e; injection e with e1; subst e1; exact HG5.out), Blk.far J1.out (show w.heap.size ≠ b4 by have := HB4.out; omega) _, Blk.far J2.out (show w.heap.size + 1 ≠ b4 by have := HB4.out; omega) _, Blk.far J3.out (show w.heap.size + 1 + 1 ≠ b4 by have := HB4.out; omega) _, Blk.set_ J4.out 0 _, JB.out.setCell (show w.heap.size ≤ b4 by have := HB4.out; omega) _⟩
            rw [HX.out, layE_snoc]
            exact rd_far J.out (fun b off e => by injection e with e; injection e with e1; subst e1; have := HG5.out; show g5 ≠ b4; omega) _
          case measure => simp [intOf]; omega
        · have h3 : ((k : Int) == c.torn) = false := beq_eq_false_iff_ne.2 ht
          have VE := Lib.hid (show (0 : Int) = (c.kn k : Int) by show (0 : Int) = ((c.kept k).toNat : Int); rw [KE.out, KD.out, if_neg ht, KL.out]; simp)
          clear ht hl
          go_wp2_with fail
          refine wp_region_U (S := fun w' => w'.cell? ⟨b4, 0, none⟩ = some (.slice A N cp) ∧ w'.cell? ⟨w.heap.size, 1, none⟩ = some (.slice (some ⟨wb, wo, none⟩) r.n2 r.c2) ∧ w'.rangeAt wb (wo + k * 513) (wc x)) 10 (by kernel_rfl) ⟨(cells4 Q4.out).1, HA1.out _ Q1.out, HC_.out wr QB.out⟩ (fun hHeld => ?_)
          refine wpAnyU_take (i := 0) (v := ?v41) rfl (by kernel_rfl) (by kernel_rfl) (by kernel_rfl) (by kernel_rfl) (fun _ _ _ h => h) (Or.inl ⟨by rfl, ?hy41⟩) hHeld ?rest41
          case hy41 =>
            intro w' hSw
            try dsimp only at hSw
            go_simp
            first | done | with_reducible rfl
          try simp only [Act.put, List.getElem_toArray, List.getElem_cons_zero, List.setIfInBounds_toArray, List.set_cons_zero, List.set_cons_succ]
          refine wpAnyU_take (i := 1) (v := ?v42) rfl (by kernel_rfl) (by kernel_rfl) (by kernel_rfl) (by kernel_rfl) (fun _ _ _ h => h) (Or.inl ⟨by rfl, ?hy42⟩) hHeld ?rest42
          case hy42 =>
            intro w' hSw
            try dsimp only at hSw
            go_simp
            first | done | with_reducible rfl
          try simp only [Act.put, List.getElem_toArray, List.getElem_cons_succ, List.getElem_cons_zero, List.setIfInBounds_toArray, List.set_cons_zero, List.set_cons_succ]
          refine wpAnyU_take (i := 2) (v := ?v43) rfl (by kernel_rfl) (by kernel_rfl) (by kernel_rfl) (by kernel_rfl) (fun _ _ _ h => h) (Or.inl ⟨by rfl, ?hy43⟩) hHeld ?rest43
          case hy43 =>
            intro w' hSw
            try dsimp only at hSw
            go_simp
            first | done | with_reducible rfl
          try simp only [Act.put, List.getElem_toArray, List.getElem_cons_succ, List.getElem_cons_zero, List.setIfInBounds_toArray, List.set_cons_zero, List.set_cons_succ]
          refine wpAnyU_take (i := 3) (v := ?v44) rfl (by kernel_rfl) (by kernel_rfl) (by kernel_rfl) (by kernel_rfl) (fun _ _ _ h => h) (Or.inl ⟨by rfl, ?hy44⟩) hHeld ?rest44
          case hy44 =>
            intro w' hSw
            try dsimp only at hSw
            go_simp
            first | done | with_reducible rfl
          try simp only [Act.put, List.getElem_toArray, List.getElem_cons_succ, List.getElem_cons_zero, List.setIfInBounds_toArray, List.set_cons_zero, List.set_cons_succ]
          refine wpAnyU_take (i := 4) (v := ?v45) rfl (by kernel_rfl) (by kernel_rfl) (by kernel_rfl) (by kernel_rfl) (fun _ _ _ h => h) (Or.inl ⟨by rfl, ?hy45⟩) hHeld ?rest45
          case hy45 =>
            intro w' hSw
            try dsimp only at hSw
            go_simp
            first | done | with_reducible rfl
          try simp only [Act.put, List.getElem_toArray, List.getElem_cons_succ, List.getElem_cons_zero, List.setIfInBounds_toArray, List.set_cons_zero, List.set_cons_succ]
          refine wpAnyU_take (i := 5) (v := ?v46) rfl (by kernel_rfl) (by kernel_rfl) (by kernel_rfl) (by kernel_rfl) (fun _ _ _ h => h) (Or.inl ⟨by rfl, ?hy46⟩) hHeld ?rest46
          case hy46 =>
            intro w' hSw
            try dsimp only at hSw
            go_simp
            first | done | with_reducible rfl
          try simp only [Act.put, List.getElem_toArray, List.getElem_cons_succ, List.getElem_cons_zero, List.setIfInBounds_toArray, List.set_cons_zero, List.set_cons_succ]
          refine wpAnyU_take (i := 6) rfl (by kernel_rfl) (by kernel_rfl) (by kernel_rfl) (by kernel_rfl) (fun _ _ _ h => h) (yieldsIf_load_mid (by rfl) 94 (.tmp 51) (by rfl) wb (wo + k * 513) (by rfl) (wc x) _ (fun _ h => h.2.2) Try.underlying94 rfl (by rw [wc_length _ HW.out.1]; exact size94)) hHeld ?_
          try simp only [Act.put, List.getElem_toArray, List.getElem_cons_succ, List.getElem_cons_zero, List.setIfInBounds_toArray, List.set_cons_zero, List.set_cons_succ]
          refine wpAnyU_take (i := 7) (v := ?v47) rfl (by kernel_rfl) (by kernel_rfl) (by kernel_rfl) (by kernel_rfl) (fun _ _ _ h => h) (Or.inl ⟨by rfl, ?hy47⟩) hHeld ?rest47
          case hy47 =>
            intro w' hSw
            try dsimp only at hSw
            go_simp
            first | done | with_reducible rfl
          try simp only [Act.put, List.getElem_toArray, List.getElem_cons_succ, List.getElem_cons_zero, List.setIfInBounds_toArray, List.set_cons_zero, List.set_cons_succ]
          refine wpAnyU_one (i := 8) (by kernel_rfl) (by rfl) (fun K hK => ?_)
          go_simp
          refine (LAID.out _ VE.out _ (QO.out.below (Below.drew (Below.refl _ _)))).mono ?_
          rintro e_ w5 ⟨v, rfl, hown, c_⟩
          obtain ⟨g5, c', rfl, _⟩ := own_some hown NB.out.1
          have HG5 := Lib.hid (show b4 < g5 from Nat.lt_of_lt_of_le Q4.out.lt (hown.lt g5 rfl).1)
          have J := Lib.hid (Rd.of_own hown)
          have JB := Lib.hid ((QB.out.trans (Below.drew (Below.refl _ _))).trans (c_.mono QB.out.size))
          have J1 := Lib.hid (blk_k (w := wr.drew) Q1.out c_)
          have J2 := Lib.hid (blk_k (w := wr.drew) Q2.out c_)
          have J3 := Lib.hid (blk_k (w := wr.drew) Q3.out c_)
          have J4 := Lib.hid (blk_k (w := wr.drew) Q4.out c_)
          have JC := Lib.hid (HC_.out w5 JB.out)
          have f4 := J4.out.frozen 0
          clear c_ hown hHeld
          go_wp2_with fail
          refine hK.out _ _ (.inr ⟨(cells4 J4.out).1, HA1.out _ J1.out, JC.out⟩) (fun hHeld => ?_)
          replace hHeld := hHeld.resolve_left (by decide)
          clear hK K
          try simp only [Act.put, List.getElem_toArray, List.getElem_cons_succ, List.getElem_cons_zero, List.setIfInBounds_toArray, List.set_cons_zero, List.set_cons_succ]
          refine wpAnyU_take (i := 9) (v := ?v48) rfl (by kernel_rfl) (by kernel_rfl) (by kernel_rfl) (by kernel_rfl) (fun _ _ _ h => h) (Or.inl ⟨by rfl, ?hy48⟩) hHeld ?rest48
          case hy48 =>
            intro w' hSw
            try dsimp only at hSw
            go_simp
            first | done | with_reducible rfl
          try simp only [Act.put, List.getElem_toArray, List.getElem_cons_succ, List.getElem_cons_zero, List.setIfInBounds_toArray, List.set_cons_zero, List.set_cons_succ]
          refine wpAnyU_one (i := 10) (by kernel_rfl) (by rfl) (fun K hK => ?_)
          go_simp
          refine hK.out _ _ (.inl rfl) (fun hHeld => ?_)
          clear hK K
          try simp only [Act.put, List.getElem_toArray, List.getElem_cons_succ, List.getElem_cons_zero, List.setIfInBounds_toArray, List.set_cons_zero, List.set_cons_succ]
          refine wpAnyU_done (by kernel_rfl) ?_ _
          refine OnlyN.normal ?_
          clear hHeld
          go_wp2
          go_roundw
          case rel =>
            refine ⟨k + 1, some ⟨g5, 0, none⟩, c', by omega, by go_num, ?_, .inr (fun b off e => by injection e with e; injection e with e1; subst e1; exact HG5.out), Blk.far J1.out (show w.heap.size ≠ b4 by have := HB4.out; omega) _, Blk.far J2.out (show w.heap.size + 1 ≠ b4 by have := HB4.out; omega) _, Blk.far J3.out (show w.heap.size + 1 + 1 ≠ b4 by have := HB4.out; omega) _, Blk.set_ J4.out 0 _, JB.out.setCell (show w.heap.size ≤ b4 by have := HB4.out; omega) _⟩
            rw [HX.out, layE_snoc]
            exact rd_far J.out (fun b off e => by injection e with e; injection e with e1; subst e1; have := HG5.out; show g5 ≠ b4; omega) _
          case measure => simp [intOf]; omega
    · obtain rfl : k = R.ws.length := by omega
      have i2 : ¬ ((R.ws.length : Nat) : Int) < (r.n2 : Int) := by have := HN2.out; omega
      rw [show R.nums.take R.ws.length = R.nums by rw [← Rf.nums_len, List.take_length]] at QO
      have HR1 := Lib.hid (show ∀ b off, A = some ⟨b, off, none⟩ → b ≠ w.heap.size + 1 + 1 from fun b off e => by
        have hb4 := HB4.out
        rcases HAA.out with h | h
        · obtain ⟨b', o', e', hc⟩ := H.out.r1 0 (by rw [H.out.l1, ← HNE.out]; exact NB.out.1)
          rw [← h, e] at e'
          injection e' with e'
          injection e' with e1
          subst e1
          have : b < w.heap.size := cell_lt hc
          omega
        · have := h b off e
          omega)
      obtain ⟨e0, e1, e2, e3⟩ := cells4 Q4.out
      go_wp2_with (first
        | (show wpList _ _ _ ({ dst := none, op := .store _ (.tmp 4) (.tmp 56), type := _, pos := _, after := _, guard := _ } :: _) _ _; refine wpList_store_row rfl 34 (.tmp 4) (.tmp 56) rfl (w.heap.size + 1 + 1) #[.slice A N cp, .slice none 0 0, .int .i64 0, .slice none 0 0] rfl rfl 34 #[.slice none 0 0, .slice none 0 0, .int .i64 0, .slice none 0 0] (Q3.out) (size43c _ _ _ _) rfl (one43 _ _ _ _ _ _ _ _ _ _) ?_))
      exact bodyPost_ret (results_ref rfl _ _ (w.heap.size + 1 + 1) #[.slice A N cp, .slice none 0 0, .int .i64 0, .slice none 0 0] rfl rfl (blk_row Q3.out _)) rfl ⟨A, ⟨cp, rfl⟩, below_row QB.out QB.out.size (by omega) _, rd_row QO.out HR1.out _, HAA.out.imp id (fun h b off e => by have h1 := h b off e; have h2 := HB4.out; omega)⟩
end
end Go.Proofs.Ytgjamgojjajcnaa
namespace Go.Proofs.Ytgjamgojjajcnaa
open Go.RowKit
/-- the crash of a call -/
abbrev Ac.cr (x : Ac) : Cr := ⟨x.keep, x.torn, x.bytes⟩
set_option maxRecDepth 8000 in
theorem bo_crashed {w W W5 W6 : World} {B p p' m : Nat} {pl : Pl} {D : Dk} {r : Rp} {R : Rf} {s z : Nat} {c : Cr} {A' : Option Addr} {c' : Nat} (h : Bo w B p pl D r R s z) (hW : Below w.heap.size w W) (hb5 : Below W.heap.size W W5) (hb6 : Below W5.heap.size W5 W6)
    (hd : DiskAt W5 W.heap.size p' (leftPl m) (D.crashed c)) (hr : Rd W6 A' (layE (fun i => c.kn i) R.lb R.nums)) (ha : A' = r.A1 ∨ ∀ b off, A' = some ⟨b, off, none⟩ → W5.heap.size ≤ b) (h0 : 0 ≤ c.bytes) (h5 : c.bytes ≤ 512) :
    Bo W6 B p' (leftPl m) (D.crashed c) ⟨A', r.n1, c', none, 0, 0, none, 0, 0⟩ (crRf R c) 0 z ∧ (∀ q, (leftPl m).has p' q → w.heap.size ≤ q) ∧ (∀ b, Rp.at_ ⟨A', r.n1, c', none, 0, 0, none, 0, 0⟩ (crRf R c) b → r.at_ R b ∨ w.heap.size ≤ b) := by
  have hl : (layE (fun i => c.kn i) R.lb R.nums).length = z * 512 := layE_length _ (fun i => kn_le c h0 h5 i) _ _ h.rf.l1 (nums_wl h.rf)
  have hz : 0 < R.lb.length := by rw [h.rf.l1]; have := h.rf.z1; omega
  have hat : ∀ b, Rp.at_ ⟨A', r.n1, c', none, 0, 0, none, 0, 0⟩ (crRf R c) b → r.at_ R b ∨ W5.heap.size ≤ b := by
    rintro b ⟨off, ⟨e, hp⟩ | ⟨e, hp⟩ | ⟨e, hp⟩⟩
    · rcases ha with h1 | h1
      · exact .inl ⟨off, .inl ⟨h1 ▸ e, hz⟩⟩
      · exact .inr (h1 b off e)
    · cases e
    · cases e
  have s1 := hW.size
  have s5 := hb5.size
  have s6 := hb6.size
  have hB := h.hB
  refine ⟨{ da := (hd.base (Nat.le_trans hB s1)).below hb6
            rf := { n1 := h.rf.n1, l1 := hl, r1 := hr, n2 := rfl, r2 := fun i x hx => by simp [crRf] at hx, n3 := rfl, r3 := fun j hj => absurd hj (by simp [crRf]), wl := fun x hx => by simp [crRf] at hx, z1 := h.rf.z1, z2 := h.rf.z2, m2 := by simp [crRf], m3 := by simp }
            al := Alike.crashed h.al h.da h.rf.l1 c h0 h5
            ap := fun b hb hp => by
              have h2 := hd.lt b hp
              rcases hat b hb with h1 | h1
              · have := h.rf.lt h1
                omega
              · omega
            hB := by omega }, fun q hq => by have := (hd.lt q hq).2; omega, fun b hb => (hat b hb).imp id (fun h => by omega)⟩
/-- what act leaves, be it a crash or not -/
def ActPost' (w : World) (B p : Nat) (pl : Pl) (r : Rp) (R : Rf) (z : Nat) (R' : Rf) (s' : Nat) (e : Ending) (w' : World) : Prop :=
  ∃ p' pl' D' r', e = .returned (.tuple #[.pointer (some ⟨p', 0, none⟩), Rp.val r' s', .bool true]) ∧ Bo w' B p' pl' D' r' R' s' z ∧ Fr (pl.has p) w w' ∧ (∀ q, pl'.has p' q → pl.has p q ∨ w.heap.size ≤ q) ∧ ∀ b, r'.at_ R' b → r.at_ R b ∨ w.heap.size ≤ b
set_option maxRecDepth 8000 in
theorem ActPost.any {w : World} {B p : Nat} {pl : Pl} {r : Rp} {R : Rf} {z : Nat} {R' : Rf} {s' : Nat} {e : Ending} {w' : World} (h : ActPost w B p pl r R z R' s' e w') : ActPost' w B p pl r R z R' s' e w' := by
  obtain ⟨pl', D', r', h⟩ := h
  exact ⟨p, pl', D', r', h⟩
end Go.Proofs.Ytgjamgojjajcnaa

/- law 2: DiskLasts: what a crash leaves, in plain words. -/
import Derived.Test.YtokbghpddgfnpaaFew
import Derived.Test.YtokbghpddgfnpaaBegun
namespace Go.Proofs.Ytokbghpddgfnpaa
open Go.RowKit
theorem secs_get (L : Nat → List UInt8) (hL : ∀ n, (L n).length = 512) : ∀ k i, i < k * 512 → (secs L k)[i]? = (L (i / 512))[i % 512]?
  | 0, i, h => absurd h (by omega)
  | k + 1, i, h => by
    rw [secs_succ]
    by_cases hi : i < k * 512
    · rw [List.getElem?_append_left (by rw [secs_length L hL]; exact hi), secs_get L hL k i hi]
    · rw [List.getElem?_append_right (by rw [secs_length L hL]; omega), secs_length L hL, show i / 512 = k by omega, show i % 512 = i - k * 512 by omega]
theorem layC_congr {kf kg : Nat → Nat} : ∀ (es : List (Nat × (Nat × List UInt8))) (L : Nat → List UInt8), (∀ e ∈ es, kf e.1 = kg e.1) → layC kf L es = layC kg L es
  | [], _, _ => rfl
  | e :: es, L, h => by
    show layC kf (upL L e.2.1 (layL (L e.2.1) e.2.2 (kf e.1))) es = layC kg (upL L e.2.1 (layL (L e.2.1) e.2.2 (kg e.1))) es
    rw [h e (by simp)]
    exact layC_congr es _ fun e' he => h e' (by simp [he])
set_option maxRecDepth 8000 in
theorem layL_byte (a b : List UInt8) (k : Nat) (_ : a.length = 512) (hb : b.length = 512) (hk : k ≤ 512) (j : Nat) : (layL a b k)[j]? = a[j]? ∨ (layL a b k)[j]? = b[j]? := by
  unfold layL
  by_cases h : j < k
  · right
    rw [List.getElem?_append_left (by rw [List.length_take]; omega), List.getElem?_take, if_pos h]
  · left
    rw [List.getElem?_append_right (by rw [List.length_take]; omega), List.getElem?_drop, List.length_take]
    congr 1
    omega
set_option maxRecDepth 8000 in
theorem layC_byte (kf : Nat → Nat) (hk : ∀ i, kf i ≤ 512) : ∀ (es : List (Nat × (Nat × List UInt8))) (L : Nat → List UInt8), (∀ n, (L n).length = 512) → (∀ e ∈ es, e.2.2.length = 512) → ∀ (n j : Nat),
    (layC kf L es n)[j]? = (L n)[j]? ∨ ∃ e ∈ es, e.2.1 = n ∧ (layC kf L es n)[j]? = e.2.2[j]?
  | [], _, _, _, _, _ => .inl rfl
  | e :: es, L, hL, he, n, j => by
    have hlay : (layL (L e.2.1) e.2.2 (kf e.1)).length = 512 := by
      have := layC_length kf hk [e] L hL (fun e' h => by rw [List.mem_singleton.1 h]; exact he e (by simp)) e.2.1
      simpa [layC, upL] using this
    have hL' : ∀ n, (upL L e.2.1 (layL (L e.2.1) e.2.2 (kf e.1)) n).length = 512 := fun n => by
      unfold upL
      split
      · exact hlay
      · exact hL n
    show (layC kf (upL L e.2.1 (layL (L e.2.1) e.2.2 (kf e.1))) es n)[j]? = (L n)[j]? ∨ ∃ e' ∈ e :: es, e'.2.1 = n ∧ (layC kf (upL L e.2.1 (layL (L e.2.1) e.2.2 (kf e.1))) es n)[j]? = e'.2.2[j]?
    rcases layC_byte kf hk es (upL L e.2.1 (layL (L e.2.1) e.2.2 (kf e.1))) hL' (fun e' h => he e' (by simp [h])) n j with h | ⟨e', h1, h2, h3⟩
    · rw [h]
      unfold upL
      by_cases hn : n = e.2.1
      · rw [if_pos hn]
        rcases layL_byte (L e.2.1) e.2.2 (kf e.1) (hL _) (he e (by simp)) (hk _) j with q | q
        · exact .inl (by rw [q, hn])
        · exact .inr ⟨e, by simp, hn.symm, q⟩
      · rw [if_neg hn]
        exact .inl rfl
    · exact .inr ⟨e', by simp [h1], h2, h3⟩
/-- a disk behind writes -/
structure Wd (D0 : Dk) (l : List Ac) (D : Dk) : Prop where
  size : D.size = D0.size
  lasts : D.lasts = D0.lasts
  fails : ∀ n, D.fails n = false
  steps : D.steps ≤ l.length
  waits : D.waits.length ≤ l.length
  mem : ∀ y ∈ D.waits, ∃ x ∈ l, x.sector = (y.1 : Int) ∧ y.2 = fullL x.byte
theorem Wd.next {D0 D : Dk} {l : List Ac} (h : Wd D0 l D) : D.next = false := h.fails _
set_option maxRecDepth 8000 in
theorem Wd.skip {D0 D : Dk} {l : List Ac} (h : Wd D0 l D) (x : Ac) : Wd D0 (l ++ [x]) D :=
  { h with
    steps := by have := h.steps; simp; omega
    waits := by have := h.waits; simp; omega
    mem := fun y hy => by
      obtain ⟨x', h1, h2⟩ := h.mem y hy
      exact ⟨x', by simp [h1], h2⟩ }
set_option maxRecDepth 8000 in
theorem Wd.put {D0 D : Dk} {l : List Ac} (h : Wd D0 l D) (x : Ac) (n : Nat) (hn : x.sector = (n : Int)) : Wd D0 (l ++ [x]) (D.stepped.queued (n, fullL x.byte)) where
  size := h.size
  lasts := h.lasts
  fails := fun m => by
    show delS D.fails _ m = false
    unfold delS
    split
    · rfl
    · exact h.fails m
  steps := by have := h.steps; show D.steps + 1 ≤ _; simp; omega
  waits := by have := h.waits; show (D.waits ++ [_]).length ≤ _; simp; omega
  mem := fun y hy => by
    rcases List.mem_append.1 (show y ∈ D.waits ++ [(n, fullL x.byte)] from hy) with hy | hy
    · obtain ⟨x', h1, h2⟩ := h.mem y hy
      exact ⟨x', by simp [h1], h2⟩
    · rw [List.mem_singleton.1 hy]
      exact ⟨x, by simp, hn, rfl⟩
theorem Wd.nil (l : List UInt8) (s k : Nat) : Wd (ofD l s k) [] (ofD l s k) := ⟨rfl, rfl, fun _ => rfl, Nat.le_refl _, Nat.le_refl _, fun _ h => nomatch h⟩
set_option maxRecDepth 8000 in
theorem nums_mem {D : Dk} {e : Nat × (Nat × List UInt8)} (h : e ∈ D.nums) : e.1 < D.waits.length ∧ e.2 ∈ D.waits := by
  obtain ⟨i, hi, rfl⟩ := List.mem_mapIdx.1 h
  exact ⟨hi, List.getElem_mem hi⟩
set_option maxRecDepth 8000 in
/-- a crash that keeps all leaves what is read -/
theorem crashed_all {D : Dk} {c : Cr} (h : ∀ i, i < D.waits.length → c.kn i = 512) : (D.crashed c).all = D.all := by
  show secs (D.laid fun i => c.kn i) D.size = secs (D.laid fun _ => 512) D.size
  unfold Dk.laid
  rw [layC_congr (kf := fun i => c.kn i) (kg := fun _ => 512) D.nums D.lasts (fun e he => h e.1 (nums_mem he).1)]
/-- behind a flush each crash leaves what is read -/
theorem flushed_all (D : Dk) (c : Cr) : (D.stepped.flushed.crashed c).all = D.all := rfl
set_option maxRecDepth 8000 in
theorem start_all {D0 : Dk} (h : D0.waits = []) : D0.all = secs D0.lasts D0.size := by
  show secs (layC _ D0.lasts (D0.waits.mapIdx _)) D0.size = _
  rw [h]
  rfl
set_option maxRecDepth 8000 in
/-- each byte behind a crash is what lasted there, or what some write has there -/
theorem crashed_byte {w : World} {base p : Nat} {pl : Pl} {D D0 : Dk} {l : List Ac} (h : DiskAt w base p pl D) (hw : Wd D0 l D) (h0 : D0.waits = []) (c : Cr) (hc0 : 0 ≤ c.bytes) (hc5 : c.bytes ≤ 512) (i : Nat) (hi : i < D.size * 512) :
    ∃ b a, (D.crashed c).all[i]? = some b ∧ D0.all[i]? = some a ∧ (b = a ∨ ∃ x ∈ l, x.sector = ((i / 512 : Nat) : Int) ∧ x.byte = b) := by
  have hk : ∀ i, c.kn i ≤ 512 := fun i => by
    have := kept_range c hc0 hc5 i
    show (c.kept i).toNat ≤ 512
    omega
  have hL := Dk.laid_len h (fun i => c.kn i) hk
  have hL0 : ∀ n, (D0.lasts n).length = 512 := fun n => by rw [← hw.lasts]; exact h.lens n
  have e1 : (D.crashed c).all[i]? = (D.laid (fun i => c.kn i) (i / 512))[i % 512]? := secs_get _ hL D.size i hi
  have e2 : D0.all[i]? = (D0.lasts (i / 512))[i % 512]? := by
    rw [start_all h0]
    exact secs_get _ hL0 D0.size i (by rw [← hw.size]; exact hi)
  have l1 : i % 512 < (D.laid (fun i => c.kn i) (i / 512)).length := by rw [hL]; omega
  have l2 : i % 512 < (D0.lasts (i / 512)).length := by rw [hL0]; omega
  refine ⟨_, _, by rw [e1]; exact List.getElem?_eq_getElem l1, by rw [e2]; exact List.getElem?_eq_getElem l2, ?_⟩
  rcases layC_byte (fun i => c.kn i) hk D.nums D.lasts h.lens (fun e he => (h.wlens _ (nums_mem he).2).1) (i / 512) (i % 512) with q | ⟨e, he, hn, q⟩
  · left
    have q' : (D.laid (fun i => c.kn i) (i / 512))[i % 512]? = (D0.lasts (i / 512))[i % 512]? := by rw [← hw.lasts]; exact q
    rw [List.getElem?_eq_getElem l1, List.getElem?_eq_getElem l2] at q'
    exact Option.some.inj q'
  · right
    obtain ⟨x, hx, hs, hb⟩ := hw.mem e.2 (nums_mem he).2
    refine ⟨x, hx, by rw [hs, hn], ?_⟩
    have q' : (D.laid (fun i => c.kn i) (i / 512))[i % 512]? = e.2.2[i % 512]? := q
    rw [hb, List.getElem?_eq_getElem l1] at q'
    have : (fullL x.byte)[i % 512]? = some x.byte := by rw [fullL, List.getElem?_replicate, if_pos (by omega)]
    rw [this] at q'
    exact (Option.some.inj q').symm
theorem all_length {w : World} {base p : Nat} {pl : Pl} {D : Dk} (h : DiskAt w base p pl D) : D.all.length = D.size * 512 := secs_length _ (Dk.laid_len h _ (fun _ => Nat.le_refl _)) _
end Go.Proofs.Ytokbghpddgfnpaa

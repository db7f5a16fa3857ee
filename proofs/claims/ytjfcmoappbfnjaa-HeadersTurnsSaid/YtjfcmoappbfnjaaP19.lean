/- law 2: few. -/
import Derived.Test.YtjfcmoappbfnjaaP18
import Derived.Test.YtjfcmoappbfnjaaP08
import Derived.Test.YtjfcmoappbfnjaaP16
import Derived.Test.YtjfcmoappbfnjaaP17
import Derived.Test.YtjfcmoappbfnjaaP09
namespace Go.Proofs.Ytjfcmoappbfnjaa
open Go.RowKit
attribute [local go_sem] Oper.semAt_some
end Go.Proofs.Ytjfcmoappbfnjaa
namespace Go.Proofs.Ytjfcmoappbfnjaa
open Go.RowKit
theorem secs_get (L : Nat → List UInt8) (hL : ∀ n, (L n).length = 512) : ∀ k i, i < k * 512 → (secs L k)[i]? = (L (i / 512))[i % 512]?
  | 0, i, h => absurd h (by omega)
  | k + 1, i, h => by
    rw [secs_succ]
    by_cases hi : i < k * 512
    · rw [List.getElem?_append_left (by rw [secs_length L hL]; exact hi), secs_get L hL k i hi]
    · rw [List.getElem?_append_right (by rw [secs_length L hL]; omega), secs_length L hL, show i / 512 = k by omega, show i % 512 = i - k * 512 by omega]
/-- a disk behind writes -/
structure Wd (D0 : Dk) (l : List Ac) (D : Dk) : Prop where
  size : D.size = D0.size
  lasts : D.lasts = D0.lasts
  fails : ∀ n, D.fails n = false
  steps : D.steps ≤ l.length
  waits : D.waits.length ≤ l.length
  mem : ∀ y ∈ D.waits, ∃ x ∈ l, x.sector = (y.1 : Int) ∧ y.2 = fullL x.byte
theorem Wd.next {D0 D : Dk} {l : List Ac} (h : Wd D0 l D) : D.next = false := h.fails _
set_option maxRecDepth 8000 in
theorem Wd.skip {D0 D : Dk} {l : List Ac} (h : Wd D0 l D) (x : Ac) : Wd D0 (l ++ [x]) D :=
  { h with
    steps := by have := h.steps; simp; omega
    waits := by have := h.waits; simp; omega
    mem := fun y hy => by
      obtain ⟨x', h1, h2⟩ := h.mem y hy
      exact ⟨x', by simp [h1], h2⟩ }
set_option maxRecDepth 8000 in
theorem Wd.put {D0 D : Dk} {l : List Ac} (h : Wd D0 l D) (x : Ac) (n : Nat) (hn : x.sector = (n : Int)) : Wd D0 (l ++ [x]) (D.stepped.queued (n, fullL x.byte)) where
  size := h.size
  lasts := h.lasts
  fails := fun m => by
    show delS D.fails _ m = false
    unfold delS
    split
    · rfl
    · exact h.fails m
  steps := by have := h.steps; show D.steps + 1 ≤ _; simp; omega
  waits := by have := h.waits; show (D.waits ++ [_]).length ≤ _; simp; omega
  mem := fun y hy => by
    rcases List.mem_append.1 (show y ∈ D.waits ++ [(n, fullL x.byte)] from hy) with hy | hy
    · obtain ⟨x', h1, h2⟩ := h.mem y hy
      exact ⟨x', by simp [h1], h2⟩
    · rw [List.mem_singleton.1 hy]
      exact ⟨x, by simp, hn, rfl⟩
theorem Wd.nil (l : List UInt8) (s k : Nat) : Wd (ofD l s k) [] (ofD l s k) := ⟨rfl, rfl, fun _ => rfl, Nat.le_refl _, Nat.le_refl _, fun _ h => nomatch h⟩
set_option maxRecDepth 8000 in
theorem nums_mem {D : Dk} {e : Nat × (Nat × List UInt8)} (h : e ∈ D.nums) : e.1 < D.waits.length ∧ e.2 ∈ D.waits := by
  obtain ⟨i, hi, rfl⟩ := List.mem_mapIdx.1 h
  exact ⟨hi, List.getElem_mem hi⟩
end Go.Proofs.Ytjfcmoappbfnjaa
namespace Go.Proofs.Ytjfcmoappbfnjaa
open Go.RowKit
/-- a disk and the document's stand alike -/
structure Alike (D : Dk) (R : Rf) (s z : Nat) : Prop where
  size : D.size = z
  lasts : ∀ n, n < z → D.lasts n = chunk R.lb n
  waits : D.waits = R.ws
  steps : D.steps = s
  fails : ∀ n : Int, (s : Int) ≤ n → n ≤ 9223372036854775807 → D.fails (n - (D.frm : Int)) = decide (n ∈ R.fl)
set_option maxRecDepth 8000 in
theorem Alike.next {D : Dk} {R : Rf} {s z : Nat} (h : Alike D R s z) (hs : s ≤ 1000000) : D.next = decide ((s : Int) ∈ R.fl) := by
  unfold Dk.next
  rw [h.steps]
  exact h.fails s (Int.le_refl _) (by omega)
theorem secs_congr {L L' : Nat → List UInt8} : ∀ z, (∀ n, n < z → L n = L' n) → secs L z = secs L' z
  | 0, _ => rfl
  | z + 1, h => by rw [secs_succ, secs_succ, secs_congr z (fun n hn => h n (by omega)), h z (by omega)]
set_option maxRecDepth 8000 in
theorem secs_chunk (lb : List UInt8) (z : Nat) (hl : lb.length = z * 512) : secs (chunk lb) z = lb := by
  rw [secs_congr (L := chunk lb) (L' := ofL lb z) z (fun n hn => by unfold ofL; rw [if_pos hn])]
  exact diskMakes.secs_of lb z hl
set_option maxRecDepth 8000 in
theorem laidF_get (lb : List UInt8) (n : Nat) (l : List UInt8) (hl : l.length = 512) (hn : 512 * n + 512 ≤ lb.length) (i : Nat) : (laidF lb (n, l) 512)[i]? = if i / 512 = n then l[i % 512]? else lb[i]? := by
  unfold laidF splice
  have ht : (List.take (512 * n) lb).length = 512 * n := by rw [List.length_take]; omega
  have hl2 : (List.take 512 l) = l := List.take_of_length_le (by omega)
  simp only [hl2]
  by_cases h : i / 512 = n
  · rw [if_pos h, List.getElem?_append_right (by omega), ht, List.getElem?_append_left (by omega)]
    congr 1
    omega
  · rw [if_neg h]
    by_cases h1 : i < 512 * n
    · rw [List.getElem?_append_left (by omega), List.getElem?_take, if_pos h1]
    · rw [List.getElem?_append_right (by omega), ht, List.getElem?_append_right (by omega), List.getElem?_drop, hl]
      congr 1
      omega
set_option maxRecDepth 8000 in
theorem secs_up (L : Nat → List UInt8) (z n : Nat) (l : List UInt8) (hL : ∀ n, (L n).length = 512) (hl : l.length = 512) (hn : n < z) : secs (upL L n (layL (L n) l 512)) z = laidF (secs L z) (n, l) 512 := by
  have hlay : layL (L n) l 512 = l := by
    unfold layL
    rw [List.take_of_length_le (by omega), List.drop_of_length_le (by rw [hL]; omega), List.append_nil]
  have hL' : ∀ k, (upL L n (layL (L n) l 512) k).length = 512 := fun k => by
    unfold upL
    split
    · rw [hlay, hl]
    · exact hL k
  have hsl : (secs L z).length = z * 512 := secs_length L hL z
  apply List.ext_getElem?
  intro i
  rw [laidF_get _ n l hl (by rw [hsl]; omega)]
  by_cases hi : i < z * 512
  · rw [secs_get _ hL' z i hi]
    unfold upL
    by_cases h : i / 512 = n
    · rw [if_pos h, if_pos h, hlay]
    · rw [if_neg h, if_neg h, secs_get L hL z i hi]
  · have h : i / 512 ≠ n := by omega
    rw [if_neg h, List.getElem?_eq_none (by rw [secs_length _ hL']; omega), List.getElem?_eq_none (by rw [hsl]; omega)]
theorem layC_all (z : Nat) : ∀ (es : List (Nat × (Nat × List UInt8))) (L : Nat → List UInt8), (∀ n, (L n).length = 512) → (∀ e ∈ es, e.2.2.length = 512 ∧ e.2.1 < z) →
    secs (layC (fun _ => 512) L es) z = layR (secs L z) (es.map (·.2))
  | [], _, _, _ => rfl
  | e :: es, L, hL, he => by
    have h := he e (by simp)
    have hL' : ∀ k, (upL L e.2.1 (layL (L e.2.1) e.2.2 512) k).length = 512 := fun k => by
      unfold upL
      split
      · exact layL_length _ _ _ (hL _) h.1 (Nat.le_refl _)
      · exact hL k
    show secs (layC (fun _ => 512) (upL L e.2.1 (layL (L e.2.1) e.2.2 512)) es) z = layR (laidF (secs L z) e.2 512) (es.map (·.2))
    rw [layC_all z es _ hL' (fun e' h' => he e' (by simp [h'])), secs_up L z e.2.1 e.2.2 hL h.1 h.2]
set_option maxRecDepth 8000 in
theorem nums_snd (D : Dk) : D.nums.map (·.2) = D.waits := by
  unfold Dk.nums
  apply List.ext_getElem?
  intro i
  rw [List.getElem?_map, List.getElem?_mapIdx]
  cases D.waits[i]? <;> rfl
set_option maxRecDepth 8000 in
/-- what is read of all is the same by both -/
theorem Alike.all {w : World} {base p : Nat} {pl : Pl} {D : Dk} {R : Rf} {s z : Nat} (h : Alike D R s z) (hd : DiskAt w base p pl D) (hl : R.lb.length = z * 512) : D.all = layR R.lb R.ws := by
  show secs (layC (fun _ => 512) D.lasts D.nums) D.size = _
  rw [layC_all D.size D.nums D.lasts hd.lens (fun e he => hd.wlens _ (nums_mem he).2), nums_snd, h.waits, h.size, secs_congr z h.lasts, secs_chunk _ _ hl]
end Go.Proofs.Ytjfcmoappbfnjaa
namespace Go.Proofs.Ytjfcmoappbfnjaa
open Go.RowKit
section
variable {w w' : World} {r : Rp} {R : Rf} {s z : Nat}
/-- where a disk of the document has a list that is not empty -/
def Rp.at_ (r : Rp) (R : Rf) (b : Nat) : Prop := ∃ off, (r.A1 = some ⟨b, off, none⟩ ∧ 0 < R.lb.length) ∨ (r.A2 = some ⟨b, off, none⟩ ∧ 0 < R.ws.length) ∨ (r.A3 = some ⟨b, off, none⟩ ∧ 0 < R.fl.length)
set_option maxRecDepth 8000 in
theorem RefAt.lt (h : RefAt w r R z) {b : Nat} (hb : r.at_ R b) : b < w.heap.size := by
  obtain ⟨off, ⟨e, hl⟩ | ⟨e, hl⟩ | ⟨e, hl⟩⟩ := hb
  · obtain ⟨b', off', e', hc⟩ := h.r1 0 hl
    rw [e] at e'
    cases e'
    exact cell_lt hc
  · obtain ⟨b', off', e', hc⟩ := h.r2 0 _ (List.getElem?_eq_getElem hl)
    rw [e] at e'
    cases e'
    exact cell_lt (hc 0 _ rfl)
  · obtain ⟨b', off', e', hc⟩ := h.r3 0 hl
    rw [e] at e'
    cases e'
    exact cell_lt hc
set_option maxRecDepth 8000 in
theorem RefAt.fr {K : Nat → Prop} (h : RefAt w r R z) (hf : Fr K w w') (hn : ∀ b, r.at_ R b → ¬ K b) : RefAt w' r R z :=
  { h with
    r1 := fun j hj => by
      obtain ⟨b, off, e, hc⟩ := h.r1 j hj
      exact ⟨b, off, e, (hf.cell (p := ⟨b, off + j, none⟩) (cell_lt hc) (hn b ⟨off, .inl ⟨e, by omega⟩⟩)).trans hc⟩
    r2 := fun i x hx => by
      obtain ⟨b, off, e, hc⟩ := h.r2 i x hx
      have hi : 0 < R.ws.length := by
        rcases Nat.lt_or_ge i R.ws.length with h | h
        · omega
        · rw [List.getElem?_eq_none h] at hx; cases hx
      exact ⟨b, off, e, fun j v hv => (hf.cell (p := ⟨b, off + i * 513 + j, none⟩) (cell_lt (hc j v hv)) (hn b ⟨off, .inr (.inl ⟨e, hi⟩)⟩)).trans (hc j v hv)⟩
    r3 := fun j hj => by
      obtain ⟨b, off, e, hc⟩ := h.r3 j hj
      exact ⟨b, off, e, (hf.cell (p := ⟨b, off + j, none⟩) (cell_lt hc) (hn b ⟨off, .inr (.inr ⟨e, by omega⟩)⟩)).trans hc⟩ }
end
/-- a disk and the document's, side by side, apart from each other -/
structure Bo (W : World) (B p : Nat) (pl : Pl) (D : Dk) (r : Rp) (R : Rf) (s z : Nat) : Prop where
  da : DiskAt W B p pl D
  rf : RefAt W r R z
  al : Alike D R s z
  ap : ∀ b, r.at_ R b → ¬ pl.has p b
  hB : B ≤ W.heap.size
section
variable {W W' : World} {B p : Nat} {pl : Pl} {D : Dk} {r : Rp} {R : Rf} {s z : Nat}
theorem Bo.below (h : Bo W B p pl D r R s z) (hb : Below W.heap.size W W') : Bo W' B p pl D r R s z :=
  ⟨h.da.below hb, h.rf.below hb, h.al, h.ap, Nat.le_trans h.hB hb.size⟩
theorem Bo.drew (h : Bo W B p pl D r R s z) : Bo W.drew B p pl D r R s z := h.below (Below.drew (Below.refl _ W))
theorem Bo.alloc (h : Bo W B p pl D r R s z) (o : Obj) : Bo (W.alloc o) B p pl D r R s z := h.below ((Below.refl _ W).alloc (Nat.le_refl _) o)
end
end Go.Proofs.Ytjfcmoappbfnjaa

/- law 2: few. -/
import Derived.Test.YtcfkoglehjkkdaaP18
import Derived.Test.YtcfkoglehjkkdaaP08
import Derived.Test.YtcfkoglehjkkdaaP16
import Derived.Test.YtcfkoglehjkkdaaP17
import Derived.Test.YtcfkoglehjkkdaaP09
namespace Go.Proofs.Ytcfkoglehjkkdaa
open Go.RowKit
attribute [local go_sem] Oper.semAt_some
/-- how much a list of calls is reckoned -/
def tot (l : List Ac) : Nat := (l.map fun x => 10 + x.steps.length + x.keep.length).sum
set_option maxRecDepth 8000 in
theorem tot_snoc (l : List Ac) (x : Ac) : tot (l ++ [x]) = tot l + 10 + x.steps.length + x.keep.length := by
  simp [tot, List.sum_append]
  omega
set_option maxRecDepth 8000 in
theorem tot_mem : ∀ (l : List Ac), 10 * l.length ≤ tot l ∧ ∀ x ∈ l, x.steps.length + x.keep.length ≤ tot l
  | [] => by simp [tot]
  | y :: l => by
    obtain ⟨h1, h2⟩ := tot_mem l
    have e : tot (y :: l) = 10 + y.steps.length + y.keep.length + tot l := by simp [tot]
    refine ⟨by rw [e, List.length_cons]; omega, fun x hx => ?_⟩
    rcases List.mem_cons.1 hx with rfl | hx
    · omega
    · have := h2 x hx
      omega
set_option maxRecDepth 8000 in
theorem act_snoc {l : List Ac} {k : Nat} {x : Ac} (h : l[k]? = some x) : l.take (k + 1) = l.take k ++ [x] := by rw [List.take_add_one, h]; rfl
end Go.Proofs.Ytcfkoglehjkkdaa
namespace Go.Proofs.Ytcfkoglehjkkdaa
open Go.RowKit
theorem secs_get (L : Nat → List UInt8) (hL : ∀ n, (L n).length = 512) : ∀ k i, i < k * 512 → (secs L k)[i]? = (L (i / 512))[i % 512]?
  | 0, i, h => absurd h (by omega)
  | k + 1, i, h => by
    rw [secs_succ]
    by_cases hi : i < k * 512
    · rw [List.getElem?_append_left (by rw [secs_length L hL]; exact hi), secs_get L hL k i hi]
    · rw [List.getElem?_append_right (by rw [secs_length L hL]; omega), secs_length L hL, show i / 512 = k by omega, show i % 512 = i - k * 512 by omega]
theorem layC_congr {kf kg : Nat → Nat} : ∀ (es : List (Nat × (Nat × List UInt8))) (L : Nat → List UInt8), (∀ e ∈ es, kf e.1 = kg e.1) → layC kf L es = layC kg L es
  | [], _, _ => rfl
  | e :: es, L, h => by
    show layC kf (upL L e.2.1 (layL (L e.2.1) e.2.2 (kf e.1))) es = layC kg (upL L e.2.1 (layL (L e.2.1) e.2.2 (kg e.1))) es
    rw [h e (by simp)]
    exact layC_congr es _ fun e' he => h e' (by simp [he])
set_option maxRecDepth 8000 in
theorem layL_byte (a b : List UInt8) (k : Nat) (_ : a.length = 512) (hb : b.length = 512) (hk : k ≤ 512) (j : Nat) : (layL a b k)[j]? = a[j]? ∨ (layL a b k)[j]? = b[j]? := by
  unfold layL
  by_cases h : j < k
  · right
    rw [List.getElem?_append_left (by rw [List.length_take]; omega), List.getElem?_take, if_pos h]
  · left
    rw [List.getElem?_append_right (by rw [List.length_take]; omega), List.getElem?_drop, List.length_take]
    congr 1
    omega
set_option maxRecDepth 8000 in
theorem layC_byte (kf : Nat → Nat) (hk : ∀ i, kf i ≤ 512) : ∀ (es : List (Nat × (Nat × List UInt8))) (L : Nat → List UInt8), (∀ n, (L n).length = 512) → (∀ e ∈ es, e.2.2.length = 512) → ∀ (n j : Nat),
    (layC kf L es n)[j]? = (L n)[j]? ∨ ∃ e ∈ es, e.2.1 = n ∧ (layC kf L es n)[j]? = e.2.2[j]?
  | [], _, _, _, _, _ => .inl rfl
  | e :: es, L, hL, he, n, j => by
    have hlay : (layL (L e.2.1) e.2.2 (kf e.1)).length = 512 := by
      have := layC_length kf hk [e] L hL (fun e' h => by rw [List.mem_singleton.1 h]; exact he e (by simp)) e.2.1
      simpa [layC, upL] using this
    have hL' : ∀ n, (upL L e.2.1 (layL (L e.2.1) e.2.2 (kf e.1)) n).length = 512 := fun n => by
      unfold upL
      split
      · exact hlay
      · exact hL n
    show (layC kf (upL L e.2.1 (layL (L e.2.1) e.2.2 (kf e.1))) es n)[j]? = (L n)[j]? ∨ ∃ e' ∈ e :: es, e'.2.1 = n ∧ (layC kf (upL L e.2.1 (layL (L e.2.1) e.2.2 (kf e.1))) es n)[j]? = e'.2.2[j]?
    rcases layC_byte kf hk es (upL L e.2.1 (layL (L e.2.1) e.2.2 (kf e.1))) hL' (fun e' h => he e' (by simp [h])) n j with h | ⟨e', h1, h2, h3⟩
    · rw [h]
      unfold upL
      by_cases hn : n = e.2.1
      · rw [if_pos hn]
        rcases layL_byte (L e.2.1) e.2.2 (kf e.1) (hL _) (he e (by simp)) (hk _) j with q | q
        · exact .inl (by rw [q, hn])
        · exact .inr ⟨e, by simp, hn.symm, q⟩
      · rw [if_neg hn]
        exact .inl rfl
    · exact .inr ⟨e', by simp [h1], h2, h3⟩
/-- a disk behind writes -/
structure Wd (D0 : Dk) (l : List Ac) (D : Dk) : Prop where
  size : D.size = D0.size
  lasts : D.lasts = D0.lasts
  fails : ∀ n, D.fails n = false
  steps : D.steps ≤ l.length
  waits : D.waits.length ≤ l.length
  mem : ∀ y ∈ D.waits, ∃ x ∈ l, x.sector = (y.1 : Int) ∧ y.2 = fullL x.byte
theorem Wd.next {D0 D : Dk} {l : List Ac} (h : Wd D0 l D) : D.next = false := h.fails _
set_option maxRecDepth 8000 in
theorem Wd.skip {D0 D : Dk} {l : List Ac} (h : Wd D0 l D) (x : Ac) : Wd D0 (l ++ [x]) D :=
  { h with
    steps := by have := h.steps; simp; omega
    waits := by have := h.waits; simp; omega
    mem := fun y hy => by
      obtain ⟨x', h1, h2⟩ := h.mem y hy
      exact ⟨x', by simp [h1], h2⟩ }
set_option maxRecDepth 8000 in
theorem Wd.put {D0 D : Dk} {l : List Ac} (h : Wd D0 l D) (x : Ac) (n : Nat) (hn : x.sector = (n : Int)) : Wd D0 (l ++ [x]) (D.stepped.queued (n, fullL x.byte)) where
  size := h.size
  lasts := h.lasts
  fails := fun m => by
    show delS D.fails _ m = false
    unfold delS
    split
    · rfl
    · exact h.fails m
  steps := by have := h.steps; show D.steps + 1 ≤ _; simp; omega
  waits := by have := h.waits; show (D.waits ++ [_]).length ≤ _; simp; omega
  mem := fun y hy => by
    rcases List.mem_append.1 (show y ∈ D.waits ++ [(n, fullL x.byte)] from hy) with hy | hy
    · obtain ⟨x', h1, h2⟩ := h.mem y hy
      exact ⟨x', by simp [h1], h2⟩
    · rw [List.mem_singleton.1 hy]
      exact ⟨x, by simp, hn, rfl⟩
theorem Wd.nil (l : List UInt8) (s k : Nat) : Wd (ofD l s k) [] (ofD l s k) := ⟨rfl, rfl, fun _ => rfl, Nat.le_refl _, Nat.le_refl _, fun _ h => nomatch h⟩
set_option maxRecDepth 8000 in
theorem nums_mem {D : Dk} {e : Nat × (Nat × List UInt8)} (h : e ∈ D.nums) : e.1 < D.waits.length ∧ e.2 ∈ D.waits := by
  obtain ⟨i, hi, rfl⟩ := List.mem_mapIdx.1 h
  exact ⟨hi, List.getElem_mem hi⟩
set_option maxRecDepth 8000 in
/-- a crash that keeps all leaves what is read -/
theorem crashed_all {D : Dk} {c : Cr} (h : ∀ i, i < D.waits.length → c.kn i = 512) : (D.crashed c).all = D.all := by
  show secs (D.laid fun i => c.kn i) D.size = secs (D.laid fun _ => 512) D.size
  unfold Dk.laid
  rw [layC_congr (kf := fun i => c.kn i) (kg := fun _ => 512) D.nums D.lasts (fun e he => h e.1 (nums_mem he).1)]
/-- behind a flush each crash leaves what is read -/
theorem flushed_all (D : Dk) (c : Cr) : (D.stepped.flushed.crashed c).all = D.all := rfl
set_option maxRecDepth 8000 in
theorem start_all {D0 : Dk} (h : D0.waits = []) : D0.all = secs D0.lasts D0.size := by
  show secs (layC _ D0.lasts (D0.waits.mapIdx _)) D0.size = _
  rw [h]
  rfl
set_option maxRecDepth 8000 in
/-- each byte behind a crash is what lasted there, or what some write has there -/
theorem crashed_byte {w : World} {base p : Nat} {pl : Pl} {D D0 : Dk} {l : List Ac} (h : DiskAt w base p pl D) (hw : Wd D0 l D) (h0 : D0.waits = []) (c : Cr) (hc0 : 0 ≤ c.bytes) (hc5 : c.bytes ≤ 512) (i : Nat) (hi : i < D.size * 512) :
    ∃ b a, (D.crashed c).all[i]? = some b ∧ D0.all[i]? = some a ∧ (b = a ∨ ∃ x ∈ l, x.sector = ((i / 512 : Nat) : Int) ∧ x.byte = b) := by
  have hk : ∀ i, c.kn i ≤ 512 := fun i => by
    have := kept_range c hc0 hc5 i
    show (c.kept i).toNat ≤ 512
    omega
  have hL := Dk.laid_len h (fun i => c.kn i) hk
  have hL0 : ∀ n, (D0.lasts n).length = 512 := fun n => by rw [← hw.lasts]; exact h.lens n
  have e1 : (D.crashed c).all[i]? = (D.laid (fun i => c.kn i) (i / 512))[i % 512]? := secs_get _ hL D.size i hi
  have e2 : D0.all[i]? = (D0.lasts (i / 512))[i % 512]? := by
    rw [start_all h0]
    exact secs_get _ hL0 D0.size i (by rw [← hw.size]; exact hi)
  have l1 : i % 512 < (D.laid (fun i => c.kn i) (i / 512)).length := by rw [hL]; omega
  have l2 : i % 512 < (D0.lasts (i / 512)).length := by rw [hL0]; omega
  refine ⟨_, _, by rw [e1]; exact List.getElem?_eq_getElem l1, by rw [e2]; exact List.getElem?_eq_getElem l2, ?_⟩
  rcases layC_byte (fun i => c.kn i) hk D.nums D.lasts h.lens (fun e he => (h.wlens _ (nums_mem he).2).1) (i / 512) (i % 512) with q | ⟨e, he, hn, q⟩
  · left
    have q' : (D.laid (fun i => c.kn i) (i / 512))[i % 512]? = (D0.lasts (i / 512))[i % 512]? := by rw [← hw.lasts]; exact q
    rw [List.getElem?_eq_getElem l1, List.getElem?_eq_getElem l2] at q'
    exact Option.some.inj q'
  · right
    obtain ⟨x, hx, hs, hb⟩ := hw.mem e.2 (nums_mem he).2
    refine ⟨x, hx, by rw [hs, hn], ?_⟩
    have q' : (D.laid (fun i => c.kn i) (i / 512))[i % 512]? = e.2.2[i % 512]? := q
    rw [hb, List.getElem?_eq_getElem l1] at q'
    have : (fullL x.byte)[i % 512]? = some x.byte := by rw [fullL, List.getElem?_replicate, if_pos (by omega)]
    rw [this] at q'
    exact (Option.some.inj q').symm
theorem all_length {w : World} {base p : Nat} {pl : Pl} {D : Dk} (h : DiskAt w base p pl D) : D.all.length = D.size * 512 := secs_length _ (Dk.laid_len h _ (fun _ => Nat.le_refl _)) _
end Go.Proofs.Ytcfkoglehjkkdaa
namespace Go.Proofs.Ytcfkoglehjkkdaa
open Go.RowKit
/-- a disk and the document's stand alike -/
structure Alike (D : Dk) (R : Rf) (s z : Nat) : Prop where
  size : D.size = z
  lasts : ∀ n, n < z → D.lasts n = chunk R.lb n
  waits : D.waits = R.ws
  steps : D.steps = s
  fails : ∀ n : Int, (s : Int) ≤ n → n ≤ 9223372036854775807 → D.fails (n - (D.frm : Int)) = decide (n ∈ R.fl)
set_option maxRecDepth 8000 in
theorem Alike.next {D : Dk} {R : Rf} {s z : Nat} (h : Alike D R s z) (hs : s ≤ 1000000) : D.next = decide ((s : Int) ∈ R.fl) := by
  unfold Dk.next
  rw [h.steps]
  exact h.fails s (Int.le_refl _) (by omega)
theorem secs_congr {L L' : Nat → List UInt8} : ∀ z, (∀ n, n < z → L n = L' n) → secs L z = secs L' z
  | 0, _ => rfl
  | z + 1, h => by rw [secs_succ, secs_succ, secs_congr z (fun n hn => h n (by omega)), h z (by omega)]
set_option maxRecDepth 8000 in
theorem secs_chunk (lb : List UInt8) (z : Nat) (hl : lb.length = z * 512) : secs (chunk lb) z = lb := by
  rw [secs_congr (L := chunk lb) (L' := ofL lb z) z (fun n hn => by unfold ofL; rw [if_pos hn])]
  exact diskMakes.secs_of lb z hl
set_option maxRecDepth 8000 in
theorem laidF_get (lb : List UInt8) (n : Nat) (l : List UInt8) (hl : l.length = 512) (hn : 512 * n + 512 ≤ lb.length) (i : Nat) : (laidF lb (n, l) 512)[i]? = if i / 512 = n then l[i % 512]? else lb[i]? := by
  unfold laidF splice
  have ht : (List.take (512 * n) lb).length = 512 * n := by rw [List.length_take]; omega
  have hl2 : (List.take 512 l) = l := List.take_of_length_le (by omega)
  simp only [hl2]
  by_cases h : i / 512 = n
  · rw [if_pos h, List.getElem?_append_right (by omega), ht, List.getElem?_append_left (by omega)]
    congr 1
    omega
  · rw [if_neg h]
    by_cases h1 : i < 512 * n
    · rw [List.getElem?_append_left (by omega), List.getElem?_take, if_pos h1]
    · rw [List.getElem?_append_right (by omega), ht, List.getElem?_append_right (by omega), List.getElem?_drop, hl]
      congr 1
      omega
set_option maxRecDepth 8000 in
theorem secs_up (L : Nat → List UInt8) (z n : Nat) (l : List UInt8) (hL : ∀ n, (L n).length = 512) (hl : l.length = 512) (hn : n < z) : secs (upL L n (layL (L n) l 512)) z = laidF (secs L z) (n, l) 512 := by
  have hlay : layL (L n) l 512 = l := by
    unfold layL
    rw [List.take_of_length_le (by omega), List.drop_of_length_le (by rw [hL]; omega), List.append_nil]
  have hL' : ∀ k, (upL L n (layL (L n) l 512) k).length = 512 := fun k => by
    unfold upL
    split
    · rw [hlay, hl]
    · exact hL k
  have hsl : (secs L z).length = z * 512 := secs_length L hL z
  apply List.ext_getElem?
  intro i
  rw [laidF_get _ n l hl (by rw [hsl]; omega)]
  by_cases hi : i < z * 512
  · rw [secs_get _ hL' z i hi]
    unfold upL
    by_cases h : i / 512 = n
    · rw [if_pos h, if_pos h, hlay]
    · rw [if_neg h, if_neg h, secs_get L hL z i hi]
  · have h : i / 512 ≠ n := by omega
    rw [if_neg h, List.getElem?_eq_none (by rw [secs_length _ hL']; omega), List.getElem?_eq_none (by rw [hsl]; omega)]
theorem layC_all (z : Nat) : ∀ (es : List (Nat × (Nat × List UInt8))) (L : Nat → List UInt8), (∀ n, (L n).length = 512) → (∀ e ∈ es, e.2.2.length = 512 ∧ e.2.1 < z) →
    secs (layC (fun _ => 512) L es) z = layR (secs L z) (es.map (·.2))
  | [], _, _, _ => rfl
  | e :: es, L, hL, he => by
    have h := he e (by simp)
    have hL' : ∀ k, (upL L e.2.1 (layL (L e.2.1) e.2.2 512) k).length = 512 := fun k => by
      unfold upL
      split
      · exact layL_length _ _ _ (hL _) h.1 (Nat.le_refl _)
      · exact hL k
    show secs (layC (fun _ => 512) (upL L e.2.1 (layL (L e.2.1) e.2.2 512)) es) z = layR (laidF (secs L z) e.2 512) (es.map (·.2))
    rw [layC_all z es _ hL' (fun e' h' => he e' (by simp [h'])), secs_up L z e.2.1 e.2.2 hL h.1 h.2]
set_option maxRecDepth 8000 in
theorem nums_snd (D : Dk) : D.nums.map (·.2) = D.waits := by
  unfold Dk.nums
  apply List.ext_getElem?
  intro i
  rw [List.getElem?_map, List.getElem?_mapIdx]
  cases D.waits[i]? <;> rfl
set_option maxRecDepth 8000 in
/-- what is read of all is the same by both -/
theorem Alike.all {w : World} {base p : Nat} {pl : Pl} {D : Dk} {R : Rf} {s z : Nat} (h : Alike D R s z) (hd : DiskAt w base p pl D) (hl : R.lb.length = z * 512) : D.all = layR R.lb R.ws := by
  show secs (layC (fun _ => 512) D.lasts D.nums) D.size = _
  rw [layC_all D.size D.nums D.lasts hd.lens (fun e he => hd.wlens _ (nums_mem he).2), nums_snd, h.waits, h.size, secs_congr z h.lasts, secs_chunk _ _ hl]
end Go.Proofs.Ytcfkoglehjkkdaa
namespace Go.Proofs.Ytcfkoglehjkkdaa
open Go.RowKit
/-- what a Write tells -/
def wNo (R : Rf) (s z : Nat) (n : Int) : Int := if n < 0 ∨ (z : Int) ≤ n then 4 else if (s : Int) ∈ R.fl then 120 else 0
def wSt (s z : Nat) (n : Int) : Nat := if n < 0 ∨ (z : Int) ≤ n then s else s + 1
def wRf (R : Rf) (s z : Nat) (n : Int) (l : List UInt8) : Rf := if n < 0 ∨ (z : Int) ≤ n then R else if (s : Int) ∈ R.fl then R else ⟨R.lb, R.ws ++ [(n.toNat, l)], R.fl⟩
section
variable {w w' : World} {r : Rp} {R : Rf} {s z : Nat}
set_option maxRecDepth 8000 in
theorem rwrite_any (h : RefAt w r R z) (hN : R.ws.length < 100000) (hs : s ≤ 100000) (n : Int) (l : List UInt8) (hl : l.length = 512) :
    Calls Try.prog 33 #[r.val s, .int .i64 n, sec l] w fun e w' => ∃ r' : Rp, e = .returned (.tuple #[r'.val (wSt s z n), .int .i64 (wNo R s z n)]) ∧ Below w.heap.size w w' ∧ RefAt w' r' (wRf R s z n l) z ∧
      r'.A1 = r.A1 ∧ r'.A3 = r.A3 ∧ (r'.A2 = r.A2 ∧ wRf R s z n l = R ∨ ∀ b off, r'.A2 = some ⟨b, off, none⟩ → w.heap.size ≤ b) := by
  unfold wNo wSt wRf
  by_cases h1 : n < 0 ∨ (z : Int) ≤ n
  · rw [if_pos h1, if_pos h1, if_pos h1]
    by_cases h0 : n < 0
    · refine (rwrite_neg r s n h0 l w).mono ?_
      rintro e w' ⟨rfl, hb⟩
      exact ⟨r, rfl, hb, h.below hb, rfl, rfl, .inl ⟨rfl, rfl⟩⟩
    · refine (rwrite_range h s hs n h0 (by omega) l).mono ?_
      rintro e w' ⟨rfl, hb⟩
      exact ⟨r, rfl, hb, h.below hb, rfl, rfl, .inl ⟨rfl, rfl⟩⟩
  · rw [if_neg h1, if_neg h1, if_neg h1]
    by_cases hf : (s : Int) ∈ R.fl
    · rw [if_pos hf, if_pos hf]
      refine (rwrite_fails h s hs n (by omega) (by omega) hf l).mono ?_
      rintro e w' ⟨rfl, hb⟩
      exact ⟨r, rfl, hb, h.below hb, rfl, rfl, .inl ⟨rfl, rfl⟩⟩
    · rw [if_neg hf, if_neg hf]
      obtain ⟨k, rfl⟩ : ∃ k : Nat, n = (k : Int) := ⟨n.toNat, by omega⟩
      refine (rwrite_goes h hN s hs k (by omega) hf l hl).mono ?_
      rintro e w' ⟨A, c, rfl, hb, hr, ha⟩
      exact ⟨_, rfl, hb, hr, rfl, rfl, .inr ha⟩
set_option maxRecDepth 8000 in
theorem dwrite_any {B p : Nat} {pl : Pl} {D : Dk} (hd : DiskAt w B p pl D) (hB : B ≤ w.heap.size) (ha : Alike D R s z) (hN : R.ws.length < 100000) (hs : s ≤ 100000) (n : Int) (l : List UInt8) (hl : l.length = 512) :
    Calls Try.prog 37 #[.pointer (some ⟨p, 0, none⟩), .int .i64 n, sec l] w fun e w' => e = .returned (.int .i64 (wNo R s z n)) ∧ ∃ pl' D', DiskAt w' B p pl' D' ∧ Fr (pl.has p) w w' ∧ (∀ q, pl'.has p q → pl.has p q ∨ w.heap.size ≤ q) ∧
      Alike D' (wRf R s z n l) (wSt s z n) z := by
  have hnx := ha.next (by omega)
  have hws := ha.waits
  have hst := ha.steps
  have hwl : D.waits.length = R.ws.length := by rw [hws]
  have hsz := ha.size
  unfold wNo wSt wRf
  by_cases h1 : n < 0 ∨ (z : Int) ≤ n
  · rw [if_pos h1, if_pos h1, if_pos h1]
    refine (write_out hd n l (by rw [hsz]; exact h1)).mono ?_
    rintro e w' ⟨rfl, hb⟩
    exact ⟨rfl, pl, D, hd.below hb, ((Fr.refl (pl.has p) w).below hb), fun q hq => .inl hq, ha⟩
  · rw [if_neg h1, if_neg h1, if_neg h1]
    obtain ⟨k, rfl⟩ : ∃ k : Nat, n = (k : Int) := ⟨n.toNat, by omega⟩
    have hfl : ∀ n : Int, ((s + 1 : Nat) : Int) ≤ n → n ≤ 9223372036854775807 → delS D.fails ((D.steps : Int) - (D.frm : Int)) (n - (D.frm : Int)) = decide (n ∈ R.fl) := fun n h2 h3 => by
      unfold delS
      rw [if_neg (by omega)]
      exact ha.fails n (by omega) h3
    by_cases hf : (s : Int) ∈ R.fl
    · rw [if_pos hf, if_pos hf]
      refine (write_fails hd k l (by omega) (by omega) (by rw [hnx]; exact decide_eq_true hf)).mono ?_
      rintro e w' ⟨rfl, hd', hfr⟩
      exact ⟨rfl, pl, _, hd', hfr, fun q hq => .inl hq, { size := hsz, lasts := ha.lasts, waits := hws, steps := by show D.steps + 1 = s + 1; omega, fails := hfl }⟩
    · rw [if_neg hf, if_neg hf]
      refine (write_goes hd hB (by omega) k l hl (by omega) (by omega) (by rw [hnx]; exact decide_eq_false hf)).mono ?_
      rintro e w' ⟨rfl, v, hd', hfr, hv⟩
      refine ⟨rfl, _, _, hd', hfr, fun q hq => ?_, { size := hsz, lasts := ha.lasts, waits := by show D.waits ++ [(k, l)] = R.ws ++ [((k : Int).toNat, l)]; rw [hws]; rfl, steps := by show D.steps + 1 = s + 1; omega, fails := hfl }⟩
      rcases hq with hq | hq | hq | hq
      · exact .inl (.inl hq)
      · exact .inl (.inr (.inl hq))
      · rcases hv with e | ⟨g, e, hg⟩
        · exact .inl (.inr (.inr (.inl (e ▸ hq))))
        · rw [show v.ownBlock = some q from hq] at e
          cases e
          exact .inr hg
      · exact .inl (.inr (.inr (.inr hq)))
/-- where a disk of the document has a list that is not empty -/
def Rp.at_ (r : Rp) (R : Rf) (b : Nat) : Prop := ∃ off, (r.A1 = some ⟨b, off, none⟩ ∧ 0 < R.lb.length) ∨ (r.A2 = some ⟨b, off, none⟩ ∧ 0 < R.ws.length) ∨ (r.A3 = some ⟨b, off, none⟩ ∧ 0 < R.fl.length)
set_option maxRecDepth 8000 in
theorem RefAt.lt (h : RefAt w r R z) {b : Nat} (hb : r.at_ R b) : b < w.heap.size := by
  obtain ⟨off, ⟨e, hl⟩ | ⟨e, hl⟩ | ⟨e, hl⟩⟩ := hb
  · obtain ⟨b', off', e', hc⟩ := h.r1 0 hl
    rw [e] at e'
    cases e'
    exact cell_lt hc
  · obtain ⟨b', off', e', hc⟩ := h.r2 0 _ (List.getElem?_eq_getElem hl)
    rw [e] at e'
    cases e'
    exact cell_lt (hc 0 _ rfl)
  · obtain ⟨b', off', e', hc⟩ := h.r3 0 hl
    rw [e] at e'
    cases e'
    exact cell_lt hc
set_option maxRecDepth 8000 in
theorem RefAt.fr {K : Nat → Prop} (h : RefAt w r R z) (hf : Fr K w w') (hn : ∀ b, r.at_ R b → ¬ K b) : RefAt w' r R z :=
  { h with
    r1 := fun j hj => by
      obtain ⟨b, off, e, hc⟩ := h.r1 j hj
      exact ⟨b, off, e, (hf.cell (p := ⟨b, off + j, none⟩) (cell_lt hc) (hn b ⟨off, .inl ⟨e, by omega⟩⟩)).trans hc⟩
    r2 := fun i x hx => by
      obtain ⟨b, off, e, hc⟩ := h.r2 i x hx
      have hi : 0 < R.ws.length := by
        rcases Nat.lt_or_ge i R.ws.length with h | h
        · omega
        · rw [List.getElem?_eq_none h] at hx; cases hx
      exact ⟨b, off, e, fun j v hv => (hf.cell (p := ⟨b, off + i * 513 + j, none⟩) (cell_lt (hc j v hv)) (hn b ⟨off, .inr (.inl ⟨e, hi⟩)⟩)).trans (hc j v hv)⟩
    r3 := fun j hj => by
      obtain ⟨b, off, e, hc⟩ := h.r3 j hj
      exact ⟨b, off, e, (hf.cell (p := ⟨b, off + j, none⟩) (cell_lt hc) (hn b ⟨off, .inr (.inr ⟨e, by omega⟩)⟩)).trans hc⟩ }
end
/-- a disk and the document's, side by side, apart from each other -/
structure Bo (W : World) (B p : Nat) (pl : Pl) (D : Dk) (r : Rp) (R : Rf) (s z : Nat) : Prop where
  da : DiskAt W B p pl D
  rf : RefAt W r R z
  al : Alike D R s z
  ap : ∀ b, r.at_ R b → ¬ pl.has p b
  hB : B ≤ W.heap.size
section
variable {W W' : World} {B p : Nat} {pl : Pl} {D : Dk} {r : Rp} {R : Rf} {s z : Nat}
theorem Bo.below (h : Bo W B p pl D r R s z) (hb : Below W.heap.size W W') : Bo W' B p pl D r R s z :=
  ⟨h.da.below hb, h.rf.below hb, h.al, h.ap, Nat.le_trans h.hB hb.size⟩
theorem Bo.drew (h : Bo W B p pl D r R s z) : Bo W.drew B p pl D r R s z := h.below (Below.drew (Below.refl _ W))
theorem Bo.alloc (h : Bo W B p pl D r R s z) (o : Obj) : Bo (W.alloc o) B p pl D r R s z := h.below ((Below.refl _ W).alloc (Nat.le_refl _) o)
set_option maxRecDepth 8000 in
/-- behind the document's Write the lists lie where they lay, or in a new row -/
theorem at_write {r' : Rp} {n : Int} {l : List UInt8} (e1 : r'.A1 = r.A1) (e3 : r'.A3 = r.A3) (hz : r'.A2 = r.A2 ∧ wRf R s z n l = R ∨ ∀ b off, r'.A2 = some ⟨b, off, none⟩ → W.heap.size ≤ b) {b : Nat} (hb : r'.at_ (wRf R s z n l) b) : r.at_ R b ∨ W.heap.size ≤ b := by
  have q1 : (wRf R s z n l).lb = R.lb := by unfold wRf; split; rfl; split <;> rfl
  have q3 : (wRf R s z n l).fl = R.fl := by unfold wRf; split; rfl; split <;> rfl
  obtain ⟨off, ⟨e, hl⟩ | ⟨e, hl⟩ | ⟨e, hl⟩⟩ := hb
  · exact .inl ⟨off, .inl ⟨e1 ▸ e, q1 ▸ hl⟩⟩
  · rcases hz with hz | hz
    · exact .inl ⟨off, .inr (.inl ⟨hz.1 ▸ e, by rw [hz.2] at hl; exact hl⟩)⟩
    · exact .inr (hz b off e)
  · exact .inl ⟨off, .inr (.inr ⟨e3 ▸ e, q3 ▸ hl⟩)⟩
set_option maxRecDepth 8000 in
theorem step_alloc43 {ops : Array Oper} {o : Oper} {a : Act} {w : World} {K : Act → World → Prop} {Q : Exit → Act → World → Prop} {E : Prop} (hgd : o.guard = none) (ho : o.op = .alloc 33)
    (h : ∀ g w', g = w.heap.size → w' = w.alloc (.cells #[.slice none 0 0, .slice none 0 0, .int .i64 0, .slice none 0 0] 33) → K (a.put o.dst (.pointer (some ⟨g, 0, none⟩))) w') :
    if Region.wanted o (yielded ops a.tmps) = true then Oper.wp Try.prog o a w K Q else E := by
  have hw : Region.wanted o (yielded ops a.tmps) = true := by simp [Region.wanted, hgd]
  rw [if_pos hw]
  unfold Oper.wp
  simp [execOp, ho, Result.andThen]
  exact h _ _ rfl rfl
end
end Go.Proofs.Ytcfkoglehjkkdaa

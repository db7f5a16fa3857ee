/- volume: All's iterator, which ranges over another: its contract. -/
import Derived.RangeFuncFrom
import Derived.RangeFuncLeaves
import Derived.Sort.LoopGhostIn
import Derived.Test.YtpihllgdgolgpaaDoorVSp1
import Derived.Test.YtpihllgdgolgpaaDoorVPrw
import Derived.Test.YtpihllgdgolgpaaDoorVAll
namespace Go.Proofs.YtpihllgdgolgpaaDoor
open Go.RowKit Go.Shelf
attribute [local go_sem] Oper.semAt_some
/-- what comes: a sector of a plan -/
structure Ia (n : Nat) where
  i : Nat
  lt : i < 20 + 3 * n
def EltsA {n : Nat} (k : Nat) (xs : List (Ia n)) : Prop := xs.length = k ∧ ∀ (i : Nat) (y : Ia n), xs[i]? = some y → y.i = i
set_option maxRecDepth 8000 in
theorem EltsA.snoc {n k : Nat} {xs : List (Ia n)} (h : EltsA k xs) (x : Ia n) (hx : x.i = k) : EltsA (k + 1) (xs ++ [x]) := by
  refine ⟨by simp [h.1], fun i y hy => ?_⟩
  rcases Nat.lt_or_ge i xs.length with hi | hi
  · rw [List.getElem?_append_left hi] at hy
    exact h.2 i y hy
  · rw [List.getElem?_append_right hi] at hy
    have hi' : i = xs.length := by
      rcases Nat.eq_or_lt_of_le hi with e | e
      · exact e.symm
      · rw [List.getElem?_eq_none (by simp; omega)] at hy; cases hy
    subst hi'
    rw [Nat.sub_self] at hy
    simp only [List.getElem?_cons_zero, Option.some.injEq] at hy
    subst hy
    rw [h.1]
    exact hx
/-- what the body of a range over All must keep: the iterator's cells, and all that is no cells but the loop's own record -/
structure KA (l : Nat) (A C : World) : Prop where
  cells : ∀ (k : Nat) (cs : Array Value) (t : TypeId), (t = 34 ∨ t = 40 ∨ t = 23) → A.heap[k]? = some (.cells cs t (0, 0)) → C.heap[k]? = some (.cells cs t (0, 0))
  same : ∀ (k : Nat) (o : Obj), k ≠ l → A.heap[k]? = some o → o.isCells = false → C.heap[k]? = some o
  size : A.heap.size ≤ C.heap.size
theorem KA.trans {l : Nat} {A B C : World} (h : KA l A B) (k : KA l B C) : KA l A C :=
  ⟨fun i cs t ht hi => k.cells i cs t ht (h.cells i cs t ht hi), fun i o hl hi ho => k.same i o hl (h.same i o hl hi ho) ho, Nat.le_trans h.size k.size⟩
theorem KA.put {l : Nat} {A : World} {r r' : Loop} (h : A.heap[l]? = some (.loop r)) : KA l A (A.putObj l (.loop r')) :=
  ⟨fun i cs t _ hi => (World.putObj_heap_other (by rintro rfl; rw [h] at hi; cases hi)).trans hi, fun i o hl hi _ => (World.putObj_heap_other hl).trans hi, by simp [World.putObj]⟩
theorem KA.blk {l : Nat} {A C : World} (h : KA l A C) {g : Nat} {t : TypeId} {cs : Array Value} (ht : t = 34 ∨ t = 40 ∨ t = 23) (hb : Blk A g t cs) : Blk C g t cs := h.cells g cs t ht hb
set_option maxRecDepth 8000 in
theorem KA.row {l : Nat} {A C : World} (h : KA l A C) {g : Nat} {ps : List Pt} (hr : RdPt A g ps) : RdPt C g ps := by
  obtain ⟨⟨cur, hg⟩, hp⟩ := hr
  have hc := h.cells g cur _ (.inr (.inl rfl)) hg
  refine ⟨⟨cur, hc⟩, fun i x hx j u hu => ?_⟩
  rw [← hp i x hx j u hu]
  exact World.cell?_of_block (hc.trans hg.symm)
set_option maxRecDepth 8000 in
theorem RdPt.keep {A C : World} {g : Nat} {ps : List Pt} (hr : RdPt A g ps) (h : C.heap[g]? = A.heap[g]?) : RdPt C g ps := by
  obtain ⟨⟨cur, hg⟩, hp⟩ := hr
  refine ⟨⟨cur, h.trans hg⟩, fun i x hx j u hu => ?_⟩
  rw [← hp i x hx j u hu]
  exact World.cell?_of_block h
set_option maxRecDepth 8000 in
theorem RdPt.lt {A : World} {g : Nat} {ps : List Pt} (hr : RdPt A g ps) : g < A.heap.size := by
  obtain ⟨⟨cur, hg⟩, _⟩ := hr
  exact (Array.getElem?_eq_some_iff.1 hg).1
/-- the marks that ranges have left, from block B on -/
structure Mks (B : Nat) (w : World) (Ds : List Nat) : Prop where
  nodup : Ds.Nodup
  at_ : ∀ D ∈ Ds, B ≤ D ∧ w.heap[D]? = some (.deferred (some []))
theorem Mks.keep {B : Nat} {w w' : World} {Ds : List Nat} (h : Mks B w Ds) (hk : ∀ D ∈ Ds, w'.heap[D]? = w.heap[D]?) : Mks B w' Ds := ⟨h.nodup, fun D hD => ⟨(h.at_ D hD).1, (hk D hD).trans (h.at_ D hD).2⟩⟩
theorem Mks.lt {B : Nat} {w : World} {Ds : List Nat} (h : Mks B w Ds) {D : Nat} (hD : D ∈ Ds) : D < w.heap.size := (Array.getElem?_eq_some_iff.1 (h.at_ D hD).2).1
theorem Mks.ka {l B : Nat} {A C : World} {Ds : List Nat} (h : Mks B A Ds) (hk : KA l A C) (hl : l < B) : Mks B C Ds :=
  ⟨h.nodup, fun D hD => ⟨(h.at_ D hD).1, hk.same D _ (by have := (h.at_ D hD).1; omega) (h.at_ D hD).2 rfl⟩⟩
theorem Mks.own {β : Type} {B B' : Nat} {Ds : List Nat} (hB : ∀ D ∈ Ds, D < B') : OwnFrom B' (fun (_ : β) W => Mks B W Ds) := fun _ X Y row hs hg hr =>
  hs.keep fun D hD => hg.block D (hs.lt hD) (fun e => by have := (hr D e.symm).1; have := hB D hD; omega)
abbrev mk1 (D : Nat) : Deferred := { target := .collected D, args := #[] }
theorem leaves_mks {F : Fence} {n B : Nat} {P : Program} {fn : Func} {tmps : Array Value} {R : Ending → World → Prop} (hres : fn.results = #[]) (G : World → Prop) (hG : ∀ (w : World) (D : Nat), G w → B ≤ D → w.heap[D]? = some (.deferred (some [])) → G (w.putObj D (.deferred none)))
    (hR : ∀ w, G w → R (.returned (.tuple #[])) w) : ∀ (Ds : List Nat) (w : World), Mks B w Ds → G w → LeavesInM F n P fn tmps R (Ds.map mk1) .returning w
  | [], w, _, hg => ⟨_, results_none hres _ _ _, hR w hg⟩
  | D :: Ds, w, hm, hg => by
    obtain ⟨hn, ha⟩ := hm
    rw [List.nodup_cons] at hn
    obtain ⟨hB, hD⟩ := ha D (by simp)
    refine ⟨by simp, .inl ⟨_, _, rfl, run_takeDeferred hD, leaves_mks hres G hG hR Ds _ ⟨hn.2, fun E hE => ?_⟩ (hG w D hg hB hD)⟩⟩
    obtain ⟨h1, h2⟩ := ha E (by simp [hE])
    exact ⟨h1, (World.putObj_heap_other (by rintro rfl; exact hn.1 hE)).trans h2⟩
theorem own_blk {β : Type} (B : Nat) (g : Nat) (t : TypeId) (f : β → Array Value) : OwnFrom B (fun (s : β) W => Blk W g t (f s)) := fun s X Y row hs hg hr =>
  (hg.block g hs.lt (fun e => by obtain ⟨_, o, ho, hc⟩ := hr g e.symm; unfold Blk at hs; rw [hs] at ho; cases ho; cases hc)).trans hs
theorem own_size {β : Type} (B n : Nat) : OwnFrom B (fun (_ : β) W => n ≤ W.heap.size) := fun _ _ _ _ hs hg _ => Nat.le_trans hs hg.size
theorem own_row {β : Type} (B g : Nat) (ps : List Pt) : OwnFrom B (fun (_ : β) W => RdPt W g ps) := fun s X Y row hs hg hr =>
  hs.keep (hg.block g hs.lt (fun e => by obtain ⟨_, o, ho, hc⟩ := hr g e.symm; obtain ⟨⟨cur, h⟩, _⟩ := hs; rw [h] at ho; cases ho; cases hc))
theorem roundIn_wide {n m l l' : Nat} {P : Program} {f : FuncId} {tmps : Array Value} {assign body : Code} {w : World} {R : Ending → World → Prop} (h : RoundIn Fence.wide n P l f tmps assign body w R) : RoundIn (Fence.wide.inRound l') m P l f tmps assign body w R :=
  ⟨h.1, fun c cs _ => h.2 c cs (room_wide _)⟩
/-- where part j begins, where it ends, what it is of -/
def pf (n : Nat) : Nat → Nat
  | 0 => 0 | 1 => 2 | 2 => 3 | 3 => 11 | 4 => 11 + n | 5 => 12 + n | 6 => 20 + n | 7 => 20 + 2 * n | _ => 20 + 3 * n
set_option maxRecDepth 8000 in
theorem part_at (n j : Nat) (hj : j < 8) : ∃ k a : Int, (partsL n)[j]? = some ⟨k, a, (pf n j : Nat), (pf n (j + 1) : Nat)⟩ ∧ pf n j ≤ pf n (j + 1) ∧ pf n (j + 1) ≤ 20 + 3 * n ∧ ∀ i, pf n j ≤ i → i < pf n (j + 1) → plc n i = ⟨k, a, (i : Int) - (pf n j : Nat)⟩ := by
  have h : j = 0 ∨ j = 1 ∨ j = 2 ∨ j = 3 ∨ j = 4 ∨ j = 5 ∨ j = 6 ∨ j = 7 := by omega
  rcases h with rfl | rfl | rfl | rfl | rfl | rfl | rfl | rfl
  all_goals
    refine ⟨_, _, rfl, by simp only [pf]; omega, by simp only [pf]; omega, fun i h1 h2 => ?_⟩
    simp only [pf] at h1 h2 ⊢
    unfold plc
    repeat' split
    all_goals first | omega | exact Sp.ext ⟨rfl, rfl, by simp only; omega⟩
end Go.Proofs.YtpihllgdgolgpaaDoor

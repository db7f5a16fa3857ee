/- banks: a store laid over by another one, where they are unlike: plain; numbers in a row. -/
import Derived.Test.YteodgefnbmiblaaDoorBIu
import Derived.Test.YteodgefnbmiblaaDoorR18
namespace Go.Proofs.YteodgefnbmiblaaDoor
open Go.RowKit
/-- os with L's objects at these places -/
def pat (os L : List Oj) (ds : List Nat) : List Oj := ds.foldl (fun l i => l.set i ((L[i]?).getD oz)) os
set_option maxRecDepth 8000 in
theorem pat_snoc (os L : List Oj) (ds : List Nat) (i : Nat) : pat os L (ds ++ [i]) = (pat os L ds).set i ((L[i]?).getD oz) := by
  unfold pat
  rw [List.foldl_append]
  rfl
theorem pat_len (L : List Oj) : ∀ (ds : List Nat) (os : List Oj), (pat os L ds).length = os.length
  | [], _ => rfl
  | d :: ds, os => by
    show (pat (os.set d ((L[d]?).getD oz)) L ds).length = _
    rw [pat_len L ds, List.length_set]
theorem pat_get (L : List Oj) : ∀ (ds : List Nat) (os : List Oj), L.length = os.length → ∀ i, (pat os L ds)[i]? = if i ∈ ds then L[i]? else os[i]?
  | [], _, _, i => by simp [pat]
  | d :: ds, os, hl, i => by
    show (pat (os.set d ((L[d]?).getD oz)) L ds)[i]? = _
    rw [pat_get L ds _ (by rw [List.length_set]; exact hl) i]
    by_cases h1 : i ∈ ds
    · rw [if_pos h1, if_pos (List.mem_cons_of_mem _ h1)]
    · rw [if_neg h1]
      by_cases h2 : i = d
      · subst h2
        rw [if_pos List.mem_cons_self]
        by_cases h3 : i < os.length
        · rw [List.getElem?_set_self h3, List.getElem?_eq_getElem (by omega)]
          rfl
        · rw [List.getElem?_eq_none (by rw [List.length_set]; omega), List.getElem?_eq_none (by omega)]
      · rw [if_neg (by simp [h1, h2]), List.getElem?_set_ne (fun e => h2 e.symm)]
set_option maxRecDepth 8000 in
theorem pat_diffs (os L : List Oj) (hl : L.length = os.length) : pat os L (diffs os L os.length) = L := by
  apply List.ext_getElem?
  intro i
  rw [pat_get L _ os hl i]
  split
  · rfl
  · next h =>
    by_cases hi : i < os.length
    · unfold diffs at h
      rw [List.mem_filter, List.mem_range] at h
      have : ¬ ((os[i]? != L[i]?) = true) := fun e => h ⟨hi, e⟩
      simpa using this
    · rw [List.getElem?_eq_none (by omega), List.getElem?_eq_none (by omega)]
set_option maxRecDepth 8000 in
theorem diffs_lt {os L : List Oj} {k z : Nat} (h : (diffs os L os.length)[k]? = some z) : z < os.length := by
  have := List.mem_of_getElem? h
  unfold diffs at this
  rw [List.mem_filter, List.mem_range] at this
  exact this.1
/-- the numbers of a row, each in a block of ints -/
def RowI (W : World) (Av : Option Addr) (D : List Nat) : Prop := ∀ (k z : Nat), D[k]? = some z → ∃ (g : Nat) (cur : Array Value), Av = some ⟨g, 0, none⟩ ∧ Blk W g 3 cur ∧ W.cell? ⟨g, k, none⟩ = some (.int .i64 (z : Int))
set_option maxRecDepth 8000 in
theorem row_int {w : World} {base n c : Nat} {Av : Option Addr} {D : List Nat} (h : w.ownsRow base 3 1 (.slice Av n c) n (dv D)) (hn : n = D.length) : RowI w Av D := by
  intro k z hz
  have hk : k < n := by rw [hn]; exact (List.getElem?_eq_some_iff.1 hz).1
  obtain ⟨g, c', e, _, _⟩ := h.form (by omega)
  injection e with e
  subst e
  have hb : ∃ cur, Blk w g 3 cur := by
    rcases h.2 with ⟨h0, _⟩ | ⟨g2, c2, cur, h1, h2, h3, _⟩
    · cases h0
    · injection h1 with h1
      injection h1 with h1
      injection h1 with h1
      subst h1
      exact ⟨cur, h3⟩
  obtain ⟨cur, hb⟩ := hb
  refine ⟨g, cur, rfl, hb, ?_⟩
  have := h.cellAt k (by omega)
  rw [this, dv, List.getElem?_map, hz]
  rfl
theorem RowI.below {W W' : World} {Av : Option Addr} {D : List Nat} (h : RowI W Av D) (hb : Below W.heap.size W W') : RowI W' Av D := fun k z hz => by
  obtain ⟨g, cur, e, hg, hc⟩ := h k z hz
  exact ⟨g, cur, e, hg.keep hb, (World.cell?_of_block (a := ⟨g, k, none⟩) (hb.block g hg.lt)).trans hc⟩
theorem RowI.fr {W W' : World} {Av : Option Addr} {D : List Nat} {base p : Nat} {A : Option Addr} {cap : Nat} {ps : List Nat} {os : List Oj} (h : RowI W Av D) (hs : StAt W base p A cap ps os) (hf : Fr (fun k => k ∈ ps) W W') : RowI W' Av D := fun k z hz => by
  obtain ⟨g, cur, e, hg, hc⟩ := h k z hz
  have h2 := hs.blkF hf hg (by decide)
  refine ⟨g, cur, e, h2, (World.cell?_of_block (a := ⟨g, k, none⟩) ?_).trans hc⟩
  unfold Blk at hg h2
  rw [hg, h2]
/-- what a tried call does on a copy is seen from below as nothing -/
theorem TabB.lift {base q : Nat} {w w1 : World} (hT : TabB base w) (hb : Below base w w1) (hq : base ≤ q) : TabB q w1 := fun W hW => hT W (hb.trans (hW.mono hq))
end Go.Proofs.YteodgefnbmiblaaDoor

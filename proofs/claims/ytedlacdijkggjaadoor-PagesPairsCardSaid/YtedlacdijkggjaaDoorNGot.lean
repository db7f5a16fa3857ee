/- nodes: got. -/
import Derived.Test.YtedlacdijkggjaaDoorNAsk
import Derived.Test.YtedlacdijkggjaaDoorR09
import Derived.Test.YtedlacdijkggjaaDoorR05
namespace Go.Proofs.YtedlacdijkggjaaDoor
open Go.RowKit
set_option maxRecDepth 8000 in
theorem named_of {os : List Oj} {x : Ky} (h : (named os x).isSome = true) : x.of := by
  by_cases hf : x.of
  · exact hf
  · rw [named_not hf] at h
    cases h
set_option maxRecDepth 8000 in
theorem cn_ok {x : Ky} {o : Oj} (h : x.cn o = true) : x.ok := by
  unfold Ky.cn Ky.cnt at h
  simp only [decide_eq_true_eq] at h
  exact h.1
set_option maxRecDepth 8000 in
theorem prepd_ok (os : List Oj) (y : Ky) : (prepd os y).ok := by
  unfold prepd
  by_cases h : ((named os y).isSome || y.cn oz) = true
  · rw [if_pos h]
    simp only [Bool.or_eq_true] at h
    rcases h with h | h
    · exact (named_of h).1
    · exact cn_ok h
  · rw [if_neg h]
    exact zk_ok
/-- what is got by a key of what a slot has -/
noncomputable def gotK (os : List Oj) (x y : Ky) : Ky := if x.r / 2 % 2 = 1 then (prepd os y).weak else prepd os y
section
variable {ops : Array Oper} {o : Oper} {a : Act} {w : World} {K : Act → World → Prop} {Q : Exit → Act → World → Prop} {E : Prop} {P : Program}
set_option maxRecDepth 8000 in
theorem step_alloc30 (hgd : o.guard = none) (ho : o.op = .alloc 30)
    (h : ∀ g w', g = w.heap.size → w' = w.alloc (.cells (kl zk).toArray 30) → K (a.put o.dst (.pointer (some ⟨g, 0, none⟩))) w') :
    if Region.wanted o (yielded ops a.tmps) = true then Oper.wp Tryd.prog o a w K Q else E := by
  have hw : Region.wanted o (yielded ops a.tmps) = true := by simp [Region.wanted, hgd]
  rw [if_pos hw]
  unfold Oper.wp
  simp [execOp, ho, Result.andThen]
  exact h _ _ rfl rfl
set_option maxRecDepth 8000 in
theorem step_store_big {t ty : TypeId} {b : Nat} {l0 l : List Value} (hb : Blk w b t l0.toArray) (hgd : o.guard = none) (x y : Operand) (ho : o.op = .store ty x y) (hx : a.eval x = .pointer (some ⟨b, 0, none⟩)) (hy : a.eval y = .agg l.toArray) (hs : (P.info? ty).map (·.size) = some l.length) (hl : l0.length = l.length) (h1 : ∀ u ∈ l, u.oneCell' = true)
    (h : K (a.put o.dst undef) (w.setRow b l.toArray)) : if Region.wanted o (yielded ops a.tmps) = true then Oper.wp P o a w K Q else E := by
  rw [if_pos (by simp [Region.wanted, hgd])]
  exact wp_store_row ty x y ho b l.toArray hx hy t l0.toArray hb (by rw [List.size_toArray]; exact hs) (by rw [List.size_toArray, List.size_toArray, hl]) (all_one h1) h
end
section
variable {w : World} {base p : Nat} {A : Option Addr} {cap : Nat} {ps : List Nat} {os : List Oj}
set_option maxRecDepth 8000 in
theorem KeyAt.at_heap {w w' : World} {b o : Nat} {x : Ky} (h : KeyAt w b o x) (hk : w'.heap[b]? = w.heap[b]?) : KeyAt w' b o x := by
  obtain ⟨h0, h1, h2, h3, h4, h5⟩ := h
  exact ⟨(World.cell?_of_block (a := ⟨b, o, none⟩) hk).trans h0, (World.cell?_of_block (a := ⟨b, o + 1, none⟩) hk).trans h1, (World.cell?_of_block (a := ⟨b, o + 2, none⟩) hk).trans h2, (World.cell?_of_block (a := ⟨b, o + 3, none⟩) hk).trans h3, (World.cell?_of_block (a := ⟨b, o + 4, none⟩) hk).trans h4, (World.cell?_of_block (a := ⟨b, o + 5, none⟩) hk).trans h5⟩
set_option maxRecDepth 8000 in
theorem slot6 {g off i : Nat} {y : Ky} (h : KeyAt w g (off + 7 + 3 + i * 6) y) : KeyAt w g (off + 10 + i * 6) y := by
  rw [show off + 10 + i * 6 = off + 7 + 3 + i * 6 by omega]
  exact h
end
end Go.Proofs.YtedlacdijkggjaaDoor

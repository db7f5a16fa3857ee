/- codec: an object of one slot: words. -/
import Derived.Test.YtfclkkbmgclfgaaDoorFr4
namespace Go.Proofs.YtfclkkbmgclfgaaDoor
open Go.RowKit
theorem y_build_2 {ops : Array Oper} {o : Oper} {a : Act} {S : World → Prop} {t : TypeId} {cs : Array Value} (p q : Operand) (x y : Value) (hw : Region.wanted o (yielded ops a.tmps) = true) (ho : o.op = .build t #[(0, p), (1, q)]) (hp : a.eval p = x) (hq : a.eval q = y) (hb : Tryd.prog.built t [(0, x), (1, y)] = some cs) : YieldsIf Tryd.prog ops S o (.agg cs) a := .inl ⟨hw, fun w _ => by
  unfold execOp
  simp only [ho, Sem.run_bind]
  have := run_build w t #[(0, x), (1, y)] cs hb
  simp only [List.map_toArray, List.map_cons, List.map_nil, hp, hq]
  simp only [this, Result.andThen_ok, Sem.run_pure]⟩
/-- a node with a Count -/
def oc (c : Int) : Oj := ⟨1, c, 0, zks, zbs, List.length_replicate, List.length_replicate⟩
set_option maxRecDepth 8000 in
theorem built_oc (c : Int) : Tryd.prog.built 30 [(0, .int .i64 1), (1, .int .i64 c)] = some (oc c).cells.toArray := by kernel_rfl
/-- and one of its slots -/
def os1 (c : Int) (i : Nat) (x : Ky) : Oj := ⟨1, c, 0, zks.set i x, zbs, by rw [List.length_set]; exact List.length_replicate, List.length_replicate⟩
set_option maxRecDepth 8000 in
theorem os1_cells (c : Int) (i : Nat) (x : Ky) (h : i < 16) : (oc c).cells.take (3 + i * 6) ++ kl x ++ (oc c).cells.drop (3 + i * 6 + (kl x).length) = (os1 c i x).cells := by
  have hc : i = 0 ∨ i = 1 ∨ i = 2 ∨ i = 3 ∨ i = 4 ∨ i = 5 ∨ i = 6 ∨ i = 7 ∨ i = 8 ∨ i = 9 ∨ i = 10 ∨ i = 11 ∨ i = 12 ∨ i = 13 ∨ i = 14 ∨ i = 15 := by omega
  rcases hc with rfl | rfl | rfl | rfl | rfl | rfl | rfl | rfl | rfl | rfl | rfl | rfl | rfl | rfl | rfl | rfl <;> rfl
set_option maxRecDepth 8000 in
theorem os1_vb (c : Int) (i : Nat) (x : Ky) (hx : x.vb) : ∀ y ∈ (os1 c i x).s, y.vb := by
  intro y hy
  rcases List.mem_or_eq_of_mem_set hy with h | h
  · rw [(List.mem_replicate.1 h).2]
    exact ⟨by decide, by decide⟩
  · rw [h]
    exact hx
set_option maxRecDepth 8000 in
theorem wpList_store_slot1 {ops : Array Oper} {rest : List Oper} {o : Oper} {a : Act} {Q : Exit → Act → World → Prop} {W : World} (hgd : o.guard = none) (x y : Operand) (ho : o.op = .store KT x y) (b : Nat) (hb : b = W.heap.size) (c : Int) (i : Nat) (z : Ky) (hi : i < 16) (hx : a.eval x = .pointer (some ⟨b, 3 + i * 6, none⟩)) (hy : a.eval y = .agg (kl z).toArray)
    (h : wpList Tryd.prog ops Q rest (a.put o.dst undef) (W.alloc (.cells (os1 c i z).cells.toArray OT))) : wpList Tryd.prog ops Q (o :: rest) a (W.alloc (.cells (oc c).cells.toArray OT)) := by
  subst hb
  refine wpList_store_mid hgd KT x y ho (Blk.new W OT _) hx hy (by rw [Oj.len]; show 3 + i * 6 + 6 ≤ 163; omega) size25 (kl_one _) ?_
  rw [os1_cells c i z hi, World.setRow_alloc_new]
  exact h
end Go.Proofs.YtfclkkbmgclfgaaDoor

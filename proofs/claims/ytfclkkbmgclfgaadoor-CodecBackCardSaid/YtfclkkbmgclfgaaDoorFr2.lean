/- The document's own answer: the key of bytes. -/
import Derived.Test.YtfclkkbmgclfgaaDoorFr1
import Derived.Test.YtfclkkbmgclfgaaDoorRegIn
namespace Go.Proofs.YtfclkkbmgclfgaaDoor
open Go.RowKit
attribute [local go_sem] Oper.semAt_some
set_option maxRecDepth 8000 in
theorem step_store_newd {P : Program} {ops : Array Oper} {o : Oper} {a : Act} {K : Act → World → Prop} {Q : Exit → Act → World → Prop} {E : Prop} {W : World} {t : TypeId} (hgd : o.guard = none) (ty : TypeId) (x y : Operand) (ho : o.op = .store ty x y) (hx : a.eval x = .pointer (some ⟨W.heap.size, 0, none⟩)) (cells old : Array Value) (hy : a.eval y = .agg cells)
    (hi : (P.info? ty).map (·.size) = some cells.size) (hold : old.size = cells.size) (h1 : cells.all (·.oneCell') = true)
    (h : K (a.put o.dst undef) ((W.alloc (.cells cells t)).drew)) : if Region.wanted o (yielded ops a.tmps) = true then Oper.wp P o a ((W.alloc (.cells old t)).drew) K Q else E := by
  rw [if_pos (by simp [Region.wanted, hgd])]
  have e : (W.alloc (.cells old t)).drew.setRow W.heap.size cells = (W.alloc (.cells cells t)).drew := by
    show ((W.alloc (.cells old t)).setRow W.heap.size cells).drew = _
    rw [World.setRow_alloc_new]
  refine wp_store_row ty x y ho W.heap.size cells hx hy t old (heap_alloc_new W _) hi hold h1 ?_
  rw [e]
  exact h
def b1 (l : List UInt8) : UInt8 := b0 (l.drop 1)
set_option maxRecDepth 8000 in
theorem rd2 {w : World} {b off : Nat} {l : List UInt8} (h : Rd w (some ⟨b, off, none⟩) l) (hl : 20 ≤ l.length) : w.cell? ⟨b, off, none⟩ = some (.int .u8 ((b0 l).toNat : Int)) ∧ w.cell? ⟨b, off + 1, none⟩ = some (.int .u8 ((b1 l).toNat : Int)) := by
  constructor
  · obtain ⟨b', o', e, hc⟩ := h 0 (by omega)
    injection e with e
    injection e with e1 e2
    subst e1 e2
    have : b0 l = l[0]'(by omega) := by
      match l, hl with
      | x :: l, _ => rfl
    rw [this]
    exact hc
  · obtain ⟨b', o', e, hc⟩ := h 1 (by omega)
    injection e with e
    injection e with e1 e2
    subst e1 e2
    have : b1 l = l[1]'(by omega) := by
      match l, hl with
      | x :: y :: l, _ => rfl
    rw [this]
    exact hc
set_option maxRecDepth 8000 in
theorem num_b (l : List UInt8) (n : Nat) (h : n ≤ 8) : numLE (l.take n) < 18446744073709551616 := by
  have := numLE_lt (l.take n)
  have hp : (256 : Nat) ^ (l.take n).length ≤ 256 ^ 8 := Nat.pow_le_pow_right (by omega) (by rw [List.length_take]; omega)
  omega
theorem wrap_i64n (N : Nat) (h : N < 4294967296) : IntKind.i64.wrap (N : Int) = (N : Int) := wrap_i64_of _ (by omega) (by omega)
end Go.Proofs.YtfclkkbmgclfgaaDoor

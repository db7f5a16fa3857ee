/- The document's own answer: an object's sector. -/
import Derived.Test.YtfclkkbmgclfgaaDoorZW
namespace Go.Proofs.YtfclkkbmgclfgaaDoor
open Go.RowKit
set_option maxRecDepth 8000 in
theorem slot_ok {u : Oj} {n : Int} (h : u.ok n) : ∀ x ∈ u.s, x.ok := by
  obtain ⟨_, hc, hl, hh⟩ := h
  have hzf : ∀ x ∈ zks, x.ok := fun x hx => by rw [(List.mem_replicate.1 hx).2]; exact zk_ok
  intro x hx
  rcases hh with h | h | h
  · exact (h.2 x hx).1
  · exact hzf x (h.2.2 ▸ hx)
  · exact hzf x (h.2.2.2 ▸ hx)
/-- while the sector's bytes come up -/
structure PS (w W : World) (u : Oj) (v : Value) (n : Nat) (l : List UInt8) : Prop where
  ob : Blk W w.heap.size obt u.cells.toArray
  r4 : Blk W (w.heap.size + 1) 44 (bv z512).toArray
  r6 : Blk W (w.heap.size + 2) 44 (bv z512).toArray
  own : W.ownsRow (w.heap.size + 3) 5 1 v n (bv l)
  size : w.heap.size + 3 ≤ W.heap.size
  below : Below w.heap.size w W
section
variable {w W W' : World} {u : Oj} {v : Value} {n : Nat} {l : List UInt8}
theorem PS.call (h : PS w W u v n l) (hb : Below W.heap.size W W') : PS w W' u v n l :=
  ⟨h.ob.keep hb, h.r4.keep hb, h.r6.keep hb, own_below h.own hb, Nat.le_trans h.size hb.size, h.below.trans (hb.mono h.below.size)⟩
set_option maxRecDepth 8000 in
theorem PS.cast (h : PS w W u v n l) {n' : Nat} {l' : List UInt8} (hn : n = n') (hl : l = l') : PS w W u v n' l' := by
  subst hn hl
  exact h
theorem PS.alloc (h : PS w W u v n l) (o : Obj) : PS w (W.alloc o) u v n l := h.call ((Below.refl _ _).alloc (Nat.le_refl _) _)
set_option maxRecDepth 8000 in
theorem PS.cells (h : PS w W u v n l) : W.cell? ⟨w.heap.size, 0, none⟩ = some (.int .i64 u.k) ∧ W.cell? ⟨w.heap.size, 1, none⟩ = some (.int .i64 u.c) ∧ W.cell? ⟨w.heap.size, 2, none⟩ = some (.int .i64 u.l) := by
  have := h.ob.ob.cells
  simpa using this
set_option maxRecDepth 8000 in
theorem wpList_append_ps {ops : Array Oper} {rest : List Oper} {o : Oper} {a : Act} {Q : Exit → Act → World → Prop} (hgd : o.guard = none) (h : PS w W u v n l) (s x : Operand) (ho : o.op = .call { callee := .builtin .append, args := #[s, x], argTypes := #[31, 31] })
    (hs : a.eval s = v) {A : Option Addr} {m c : Nat} {k : List UInt8} (hx : a.eval x = .slice A m c) (hr : Rd W A k) (hm : k.length = m) (hbig : n + m ≤ 100000000)
    (hK : ∀ v' W', PS w W' u v' (n + m) (l ++ k) → wpList Tryd.prog ops Q rest (a.put o.dst v') W') : wpList Tryd.prog ops Q (o :: rest) a W := by
  refine wpList_append_bytes _ hgd s x 31 ho Tryd.underlying31 infoU8 hs h.own hx hr hm hbig h.size ?_
  intro z x1 ho' hg ht
  have hne : ∀ j, j < w.heap.size + 3 → some j ≠ v.ownBlock := fun j hj e => by have := (h.own.lt j e.symm).1; omega
  exact hK z x1 ⟨(hg.block _ h.ob.lt (hne _ (by omega))).trans h.ob, (hg.block _ h.r4.lt (hne _ (by omega))).trans h.r4, (hg.block _ h.r6.lt (hne _ (by omega))).trans h.r6, ho', Nat.le_trans h.size hg.size,
    h.below.grown hg h.below.size (fun k hk => by have := (h.own.lt k hk).1; omega)⟩
end
def lenOf : Value → Nat
  | .slice _ n _ => n
  | _ => 0
set_option maxRecDepth 8000 in
theorem kks_take {s : List Ky} {k : Nat} (h : k < s.length) {x : Ky} (e : s[k] = x) : kks (s.take k) ++ kbs x = kks (s.take (k + 1)) := by
  rw [take_snoc s k h, kks_snoc, e]
set_option maxRecDepth 8000 in
theorem take_sn {α : Type} {s : List α} {k : Nat} (h : k < s.length) {x : α} (e : s[k] = x) : s.take k ++ [x] = s.take (k + 1) := by
  rw [take_snoc s k h, e]
set_option maxRecDepth 8000 in
theorem fill_set (sl : List UInt8) (hl : sl.length = 512) (j : Nat) (hj : j < 512) : (bv (sl.take j ++ z512.drop j)).toArray.setIfInBounds j (.int .u8 ((sl[j]'(by omega)).toNat : Int)) = (bv (sl.take (j + 1) ++ z512.drop (j + 1))).toArray := by
  have hz : z512.length = 512 := by unfold z512; exact List.length_replicate
  rw [List.setIfInBounds_toArray, take_snoc sl j (by omega), bv_append, bv_append, bv_append]
  congr 1
  have h1 : (bv (sl.take j)).length = j := by rw [bv_length, List.length_take]; omega
  rw [List.set_append_right _ _ (by rw [h1]; exact Nat.le_refl _), h1, Nat.sub_self]
  rw [List.drop_eq_getElem_cons (show j < z512.length by omega), List.append_assoc]
  rfl
theorem lit4 (w : World) (x : UInt8) : (w.alloc (.cells #[.int .u8 (x.toNat : Int), .int .u8 0, .int .u8 0, .int .u8 0] 5)).ownsRow w.heap.size 5 1 (.slice (some ⟨w.heap.size, 0, none⟩) 4 4) 4 (bv ([x] ++ List.replicate 3 0)) :=
  World.ownsRow_lit w #[.int .u8 (x.toNat : Int), .int .u8 0, .int .u8 0, .int .u8 0] 4 (Nat.le_refl _) (by simp only [maxLen]; omega) rfl
end Go.Proofs.YtfclkkbmgclfgaaDoor

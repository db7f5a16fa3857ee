/- a row of objects that is one's own, and grows. -/
import Derived.Test.YteodgefnbmiblaaDoorBPart
import Derived.Test.YteodgefnbmiblaaDoorBKn
import Derived.Test.YteodgefnbmiblaaDoorR18
namespace Go.Proofs.YteodgefnbmiblaaDoor
open Go.RowKit
theorem ocs_snoc : ∀ (l : List Oj) (q : Oj), ocs (l ++ [q]) = ocs l ++ q.cells
  | [], q => by simp [ocs]
  | x :: l, q => by rw [List.cons_append, ocs, ocs_snoc l q, ocs, List.append_assoc]
/-- a row of objects of one's own -/
abbrev OwO (w : World) (base : Nat) (v : Value) (l : List Oj) : Prop := w.ownsRow base 47 163 v l.length (ocs l)
section
variable {ops : Array Oper} {rest : List Oper} {o : Oper} {a : Act} {Q : Exit → Act → World → Prop} {W w w' : World} {base : Nat} {v : Value} {l : List Oj}
set_option maxRecDepth 8000 in
theorem OwO.below (h : OwO w base v l) (hb : Below w.heap.size w w') : OwO w' base v l := by
  refine World.ownsRow.kept (row := none) h ⟨hb.os, hb.tape, hb.output, hb.size, fun k hk _ => hb.block k hk⟩ ?_
  cases hv : v.ownBlock with
  | none => exact .inl rfl
  | some k => exact .inr (by simp)
set_option maxRecDepth 8000 in
/-- append of an object that was boxed last -/
theorem wpList_append_ob (hgd : o.guard = none) (s x : Operand) (ho : o.op = .call { callee := .builtin .append, args := #[s, x], argTypes := #[22, 22] })
    (hs : a.eval s = v) (hown : OwO W base v l) (q : Oj) (hx : a.eval x = .slice (some ⟨W.heap.size, 0, none⟩) 1 1) (hn : l.length ≤ 1000) (hbase : base ≤ W.heap.size)
    (h : ∀ g c w', OwO w' base (.slice (some ⟨g, 0, none⟩) (l.length + 1) c) (l ++ [q]) → Below base W w' → wpList Tryd.prog ops Q rest (a.put o.dst (.slice (some ⟨g, 0, none⟩) (l.length + 1) c)) w') : wpList Tryd.prog ops Q (o :: rest) a (W.alloc (.cells q.cells.toArray 47)) := by
  obtain ⟨i0, hi, hz0, hz1, hz2⟩ := info_parts infoOb
  have hown2 : OwO (W.alloc (.cells q.cells.toArray 47)) base v l := OwO.below hown ((Below.refl _ _).alloc (Nat.le_refl _) _)
  refine wpList_append_lies _ hgd s x 22 ho base 47 i0 oz.val 163 856 Tryd.underlying22 hi hz0 hz1 hz2 (by show oz.cells.toArray.size = 163; rw [List.size_toArray, oz.len]) (by decide) v l.length (ocs l) hs hown2 ⟨W.heap.size, 0, none⟩ 1 1 q.cells hx (by rw [q.len]) ?_ (fun u hu => q.one u hu) (by decide) (by simp only [maxLen]; omega) (by omega) (by simp; omega) _ rfl ?_
  · intro j u hu
    rw [Addr.add_mid, Nat.zero_add]
    have := (Blk.new W 47 q.cells.toArray).cell j
    rw [this]
    simpa using hu
  · intro g c w' h1 h2 h3 _
    have hb : Below base W (W.alloc (.cells q.cells.toArray 47)) := (Below.refl _ _).alloc hbase _
    refine h g c w' (by unfold OwO; rw [ocs_snoc, List.length_append]; exact h1) ?_
    exact hb.grown h2 (by simp; omega) fun k hk => (World.ownsRow.lt hown2 k hk).1
set_option maxRecDepth 8000 in
theorem OwO.first (w : World) (q : Oj) (base : Nat) (hb : base ≤ w.heap.size) : OwO (w.alloc (.cells q.cells.toArray 47)) base (.slice (some ⟨w.heap.size, 0, none⟩) 1 1) [q] := by
  refine ⟨by rw [ocs_length], .inr ⟨w.heap.size, 1, q.cells.toArray, rfl, hb, Blk.new w _ _, Nat.le_refl _, by simp only [maxLen]; omega, by rw [List.size_toArray, q.len], ?_⟩⟩
  have := q.len
  simp only [List.length_cons, List.length_nil, Nat.zero_add, Nat.one_mul, ocs, List.append_nil]
  rw [← this, List.take_length]
set_option maxRecDepth 8000 in
theorem RdO.of_own {n c : Nat} {A : Option Addr} (h : OwO w base (.slice A n c) l) : RdO w A l := by
  intro i hi
  obtain ⟨hl, ⟨h0, _⟩ | ⟨g, cap, cur, he, hb, hg, _, _, _, ht⟩⟩ := h
  · injection h0 with _ h0 _
    omega
  · injection he with he _ _
    refine ⟨g, 0, he, fun j u hu => ?_⟩
    have hj : j < 163 := by have := (List.getElem?_eq_some_iff.1 hu).1; rwa [Oj.len] at this
    have h2 := ocs_get l i hi j hj
    rw [← ht, List.getElem?_take, if_pos (by omega), hu] at h2
    rw [Nat.zero_add]
    have hB : Blk w g 47 cur := hg
    rw [hB.cell, ← Array.getElem?_toList]
    exact h2
end
end Go.Proofs.YteodgefnbmiblaaDoor

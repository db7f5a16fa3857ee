/- volume: blocks that are known whole, places, parts of a plan: words. -/
import Derived.Test.YtpihllgdgolgpaaDoorOwn
import Derived.Test.YtpihllgdgolgpaaDoorFr
import Derived.Test.YtpihllgdgolgpaaDoorProg
import Derived.Deep.AppendLies
namespace Go.Proofs.YtpihllgdgolgpaaDoor
open Go.RowKit
theorem below_box {w w1 : World} {x : Obj} (hb : Below (w.alloc x).heap.size (w.alloc x) w1) : Below w.heap.size w w1 := ((Below.refl _ _).alloc (Nat.le_refl _) _).trans (hb.mono (by simp))
/-- a block that is known whole -/
def Blk (w : World) (g : Nat) (t : TypeId) (cs : Array Value) : Prop := w.heap[g]? = some (.cells cs t (0, 0))
section
variable {w w' w1 : World} {g : Nat} {t u : TypeId} {cs ds es : Array Value}
theorem Blk.lt (h : Blk w g t cs) : g < w.heap.size := (Array.getElem?_eq_some_iff.1 h).1
theorem Blk.cell (h : Blk w g t cs) (i : Nat) : w.cell? ⟨g, i, none⟩ = cs[i]? := cell_of_row w g i cs t (0, 0) h
theorem Blk.frozen (h : Blk w g t cs) (i : Nat) : w.frozen? ⟨g, i, none⟩ = false := frozen_of_row w g i cs t h
theorem Blk.new (w : World) (t : TypeId) (cs : Array Value) : Blk (w.alloc (.cells cs t)) w.heap.size t cs := heap_alloc_new w _
theorem Blk.alloc (h : Blk w g t cs) (o : Obj) : Blk (w.alloc o) g t cs := (Below.heap_alloc w o g h.lt).trans h
theorem Blk.drew (h : Blk w g t cs) : Blk w.drew g t cs := h
theorem Blk.drewN (h : Blk w g t cs) (n : Nat) : Blk (w.drewN n) g t cs := h
theorem Blk.set_ (h : Blk w g t cs) (i : Nat) (u : Value) : Blk (w.setCell ⟨g, i, none⟩ u) g t (cs.setIfInBounds i u) := heap_setCell_same w g i cs t u h
theorem Blk.far (h : Blk w g t cs) {p : Addr} (hp : g ≠ p.block) (u : Value) : Blk (w.setCell p u) g t cs := (Below.heap_setCell w p u g hp).trans h
theorem Blk.below {B : Nat} (h : Blk w g t cs) (hb : Below B w w') (hg : g < B) : Blk w' g t cs := (hb.block g hg).trans h
theorem Blk.keep (h : Blk w g t cs) (hb : Below w.heap.size w w') : Blk w' g t cs := h.below hb h.lt
theorem Blk.two {a b : Value} (h : Blk w g t #[a, b]) : w.cell? ⟨g, 0, none⟩ = some a ∧ w.cell? ⟨g, 1, none⟩ = some b := ⟨h.cell 0, h.cell 1⟩
theorem Blk.six {a b c d e f : Value} (h : Blk w g t #[a, b, c, d, e, f]) :
    w.cell? ⟨g, 0, none⟩ = some a ∧ w.cell? ⟨g, 1, none⟩ = some b ∧ w.cell? ⟨g, 2, none⟩ = some c ∧ w.cell? ⟨g, 3, none⟩ = some d ∧ w.cell? ⟨g, 4, none⟩ = some e ∧ w.cell? ⟨g, 5, none⟩ = some f :=
  ⟨h.cell 0, h.cell 1, h.cell 2, h.cell 3, h.cell 4, h.cell 5⟩
theorem box1 (b1 : Below (w.alloc (.cells cs t)).heap.size (w.alloc (.cells cs t)) w1) : Blk w1 w.heap.size t cs ∧ Below w.heap.size w w1 :=
  ⟨(Blk.new w t cs).keep b1, below_box b1⟩
theorem box2 (b1 : Below ((w.alloc (.cells cs t)).alloc (.cells ds u)).heap.size ((w.alloc (.cells cs t)).alloc (.cells ds u)) w1) :
    Blk w1 w.heap.size t cs ∧ Blk w1 (w.heap.size + 1) u ds ∧ Below w.heap.size w w1 :=
  ⟨((Blk.new w t cs).alloc _).keep b1, by have := (Blk.new (w.alloc (.cells cs t)) u ds).keep b1; simpa using this, below_box ((below_box b1))⟩
theorem Blk.three {a b c : Value} (h : Blk w g t #[a, b, c]) : w.cell? ⟨g, 0, none⟩ = some a ∧ w.cell? ⟨g, 1, none⟩ = some b ∧ w.cell? ⟨g, 2, none⟩ = some c := ⟨h.cell 0, h.cell 1, h.cell 2⟩
theorem Blk.four {a b c d : Value} (h : Blk w g t #[a, b, c, d]) : w.cell? ⟨g, 0, none⟩ = some a ∧ w.cell? ⟨g, 1, none⟩ = some b ∧ w.cell? ⟨g, 2, none⟩ = some c ∧ w.cell? ⟨g, 3, none⟩ = some d := ⟨h.cell 0, h.cell 1, h.cell 2, h.cell 3⟩
theorem Blk.one {a : Value} (h : Blk w g t #[a]) : w.cell? ⟨g, 0, none⟩ = some a := h.cell 0
end
/-- a place -/
structure Sp where
  (k a t : Int)
set_option maxRecDepth 8000 in
theorem Sp.ext {x y : Sp} (h : x.k = y.k ∧ x.a = y.a ∧ x.t = y.t) : x = y := by
  obtain ⟨k, a, t⟩ := x
  obtain ⟨k', a', t'⟩ := y
  obtain ⟨rfl, rfl, rfl⟩ := h
  rfl
instance : DecidableEq Sp := fun x y => decidable_of_iff (x.k = y.k ∧ x.a = y.a ∧ x.t = y.t) ⟨Sp.ext, fun h => by subst h; exact ⟨rfl, rfl, rfl⟩⟩
abbrev Sp.cs (x : Sp) : List Value := [.int .i64 x.k, .int .i64 x.a, .int .i64 x.t]
abbrev Sp.val (x : Sp) : Value := .agg #[.int .i64 x.k, .int .i64 x.a, .int .i64 x.t]
/-- a part -/
structure Pt where
  (k a f t : Int)
abbrev Pt.cs (x : Pt) : List Value := [.int .i64 x.k, .int .i64 x.a, .int .i64 x.f, .int .i64 x.t]
abbrev Pt.val (x : Pt) : Value := .agg #[.int .i64 x.k, .int .i64 x.a, .int .i64 x.f, .int .i64 x.t]
/-- rows of them -/
def scs (l : List Sp) : List Value := (l.map Sp.cs).flatten
def pcs (l : List Pt) : List Value := (l.map Pt.cs).flatten
set_option maxRecDepth 8000 in
theorem scs_snoc (l : List Sp) (x : Sp) : scs (l ++ [x]) = scs l ++ x.cs := by simp [scs]
set_option maxRecDepth 8000 in
theorem pcs_snoc (l : List Pt) (x : Pt) : pcs (l ++ [x]) = pcs l ++ x.cs := by simp [pcs]
theorem scs_length : ∀ l : List Sp, (scs l).length = l.length * 3
  | [] => rfl
  | x :: l => by
    have := scs_length l
    simp only [scs, List.map_cons, List.flatten_cons, List.length_append, List.length_cons, List.length_nil] at this ⊢
    omega
theorem pcs_length : ∀ l : List Pt, (pcs l).length = l.length * 4
  | [] => rfl
  | x :: l => by
    have := pcs_length l
    simp only [pcs, List.map_cons, List.flatten_cons, List.length_append, List.length_cons, List.length_nil] at this ⊢
    omega
set_option maxRecDepth 8000 in
theorem scs_get : ∀ (l : List Sp) (i : Nat) (x : Sp) (j : Nat), l[i]? = some x → j < 3 → (scs l)[i * 3 + j]? = x.cs[j]?
  | [], i, x, j, h, _ => by simp at h
  | y :: l, 0, x, j, h, hj => by
    simp only [List.getElem?_cons_zero, Option.some.injEq] at h
    subst h
    simp only [scs, List.map_cons, List.flatten_cons, Nat.zero_mul, Nat.zero_add]
    rw [List.getElem?_append_left (by simpa using hj)]
  | y :: l, i + 1, x, j, h, hj => by
    have ih := scs_get l i x j (by simpa using h) hj
    simp only [scs, List.map_cons, List.flatten_cons] at ih ⊢
    rw [List.getElem?_append_right (by simp; omega)]
    have : (i + 1) * 3 + j - y.cs.length = i * 3 + j := by simp; omega
    rw [this]
    exact ih
set_option maxRecDepth 8000 in
theorem pcs_get : ∀ (l : List Pt) (i : Nat) (x : Pt) (j : Nat), l[i]? = some x → j < 4 → (pcs l)[i * 4 + j]? = x.cs[j]?
  | [], i, x, j, h, _ => by simp at h
  | y :: l, 0, x, j, h, hj => by
    simp only [List.getElem?_cons_zero, Option.some.injEq] at h
    subst h
    simp only [pcs, List.map_cons, List.flatten_cons, Nat.zero_mul, Nat.zero_add]
    rw [List.getElem?_append_left (by simpa using hj)]
  | y :: l, i + 1, x, j, h, hj => by
    have ih := pcs_get l i x j (by simpa using h) hj
    simp only [pcs, List.map_cons, List.flatten_cons] at ih ⊢
    rw [List.getElem?_append_right (by simp; omega)]
    have : (i + 1) * 4 + j - y.cs.length = i * 4 + j := by simp; omega
    rw [this]
    exact ih
/-- a row of them lies at g -/
def RdP (w : World) (g : Nat) (l : List Pt) : Prop := ∀ i x, l[i]? = some x → ∀ j u, x.cs[j]? = some u → w.cell? ⟨g, i * 4 + j, none⟩ = some u
def RdS (w : World) (g : Nat) (l : List Sp) : Prop := ∀ i x, l[i]? = some x → ∀ j u, x.cs[j]? = some u → w.cell? ⟨g, i * 3 + j, none⟩ = some u
section
variable {w w' : World} {g : Nat} {l : List Pt} {s : List Sp}
theorem RdP.keep (h : RdP w g l) (hb : Below w.heap.size w w') : RdP w' g l := fun i x hx j u hu => (hb.cell (p := ⟨g, i * 4 + j, none⟩) (cell_lt (h i x hx j u hu))).trans (h i x hx j u hu)
theorem RdS.keep (h : RdS w g s) (hb : Below w.heap.size w w') : RdS w' g s := fun i x hx j u hu => (hb.cell (p := ⟨g, i * 3 + j, none⟩) (cell_lt (h i x hx j u hu))).trans (h i x hx j u hu)
theorem RdP.at_ (h : RdP w g l) {i : Nat} {x : Pt} (hx : l[i]? = some x) : w.cell? ⟨g, i * 4, none⟩ = some (.int .i64 x.k) ∧ w.cell? ⟨g, i * 4 + 1, none⟩ = some (.int .i64 x.a) ∧ w.cell? ⟨g, i * 4 + 2, none⟩ = some (.int .i64 x.f) ∧ w.cell? ⟨g, i * 4 + 3, none⟩ = some (.int .i64 x.t) :=
  ⟨h i x hx 0 _ rfl, h i x hx 1 _ rfl, h i x hx 2 _ rfl, h i x hx 3 _ rfl⟩
theorem RdS.at_ (h : RdS w g s) {i : Nat} {x : Sp} (hx : s[i]? = some x) : w.cell? ⟨g, i * 3, none⟩ = some (.int .i64 x.k) ∧ w.cell? ⟨g, i * 3 + 1, none⟩ = some (.int .i64 x.a) ∧ w.cell? ⟨g, i * 3 + 2, none⟩ = some (.int .i64 x.t) :=
  ⟨h i x hx 0 _ rfl, h i x hx 1 _ rfl, h i x hx 2 _ rfl⟩
set_option maxRecDepth 8000 in
theorem RdP.of_own {base n : Nat} {v : Value} (h : w.ownsRow base 40 4 v n (pcs l)) (hn : 0 < n) : ∃ g c, v = .slice (some ⟨g, 0, none⟩) n c ∧ base ≤ g ∧ RdP w g l := by
  obtain ⟨hl, ⟨_, h0⟩ | ⟨g, cap, cur, rfl, hb, hg, _, _, _, ht⟩⟩ := h
  · omega
  refine ⟨g, cap, rfl, hb, fun i x hx j u hu => ?_⟩
  have hj : j < 4 := by have := (List.getElem?_eq_some_iff.1 hu).1; simpa using this
  rw [cell_of_row w g _ cur 40 (0, 0) hg, ← Array.getElem?_toList]
  have h2 := pcs_get l i x j hx hj
  rw [← ht, hu] at h2
  rw [List.getElem?_take] at h2
  split at h2
  · exact h2
  · cases h2
set_option maxRecDepth 8000 in
theorem RdS.of_own {base n : Nat} {v : Value} (h : w.ownsRow base 30 3 v n (scs s)) (hn : 0 < n) : ∃ g c, v = .slice (some ⟨g, 0, none⟩) n c ∧ base ≤ g ∧ RdS w g s := by
  obtain ⟨hl, ⟨_, h0⟩ | ⟨g, cap, cur, rfl, hb, hg, _, _, _, ht⟩⟩ := h
  · omega
  refine ⟨g, cap, rfl, hb, fun i x hx j u hu => ?_⟩
  have hj : j < 3 := by have := (List.getElem?_eq_some_iff.1 hu).1; simpa using this
  rw [cell_of_row w g _ cur 30 (0, 0) hg, ← Array.getElem?_toList]
  have h2 := scs_get s i x j hx hj
  rw [← ht, hu] at h2
  rw [List.getElem?_take] at h2
  split at h2
  · exact h2
  · cases h2
end
set_option maxRecDepth 8000 in
theorem own_belowN {w w' : World} {base n size : Nat} {e : TypeId} {v : Value} {xs : List Value} (h : w.ownsRow base e size v n xs) (hb : Below w.heap.size w w') : w'.ownsRow base e size v n xs := by
  refine h.kept (row := none) ⟨hb.os, hb.tape, hb.output, hb.size, fun k hk _ => hb.block k hk⟩ ?_
  cases hv : v.ownBlock with
  | none => exact .inl rfl
  | some k => exact .inr (by simp)
set_option maxRecDepth 8000 in
theorem infoP : (Tryd.prog.info? 40).map (fun i => (i.zero, i.size, i.bytes)) = some (some (.agg #[.int .i64 0, .int .i64 0, .int .i64 0, .int .i64 0]), 4, 32) := by kernel_rfl
set_option maxRecDepth 8000 in
theorem infoS : (Tryd.prog.info? 30).map (fun i => (i.zero, i.size, i.bytes)) = some (some (.agg #[.int .i64 0, .int .i64 0, .int .i64 0]), 3, 24) := by kernel_rfl
set_option maxRecDepth 8000 in
theorem info_partsN {P : Program} {e : TypeId} {z : Value} {s b : Nat} (h : (P.info? e).map (fun i => (i.zero, i.size, i.bytes)) = some (some z, s, b)) : ∃ i, P.info? e = some i ∧ i.zero = some z ∧ i.size = s ∧ i.bytes = b := by
  cases hi : P.info? e with
  | none => rw [hi] at h; cases h
  | some i => rw [hi] at h; simp only [Option.map_some, Option.some.injEq, Prod.mk.injEq] at h; exact ⟨i, rfl, h.1, h.2.1, h.2.2⟩
set_option maxRecDepth 8000 in
/-- append of a part that was boxed last -/
theorem wpList_append_pt {ops : Array Oper} {rest : List Oper} {o : Oper} {a : Act} {Q : Exit → Act → World → Prop} {W : World} (hgd : o.guard = none) (s x : Operand) (ho : o.op = .call { callee := .builtin .append, args := #[s, x], argTypes := #[35, 35] })
    {base n : Nat} {v : Value} {xs : List Pt} (hs : a.eval s = v) (hown : W.ownsRow base 40 4 v n (pcs xs)) (q : Pt) (hx : a.eval x = .slice (some ⟨W.heap.size, 0, none⟩) 1 1) (hn : n ≤ 1000) (hbase : base ≤ W.heap.size)
    (h : ∀ g c w', w'.ownsRow base 40 4 (.slice (some ⟨g, 0, none⟩) (n + 1) c) (n + 1) (pcs (xs ++ [q])) → Below base W w' → wpList Tryd.prog ops Q rest (a.put o.dst (.slice (some ⟨g, 0, none⟩) (n + 1) c)) w') : wpList Tryd.prog ops Q (o :: rest) a (W.alloc (.cells q.cs.toArray 40)) := by
  obtain ⟨i0, hi, hz0, hz1, hz2⟩ := info_partsN infoP
  have hown2 : (W.alloc (.cells q.cs.toArray 40)).ownsRow base 40 4 v n (pcs xs) := own_belowN hown ((Below.refl _ _).alloc (Nat.le_refl _) _)
  refine wpList_append_lies _ hgd s x 35 ho base 40 i0 _ 4 32 Tryd.underlying35 hi hz0 hz1 hz2 rfl (by decide) v n (pcs xs) hs hown2 ⟨W.heap.size, 0, none⟩ 1 1 q.cs hx rfl ?_ (by simp [Value.oneCell']) (by decide) (by simp only [maxLen]; omega) (by omega) (by simp; omega) _ rfl ?_
  · intro j u hu
    rw [add_flat, Nat.zero_add]
    have := (Blk.new W 40 q.cs.toArray).cell j
    rw [this]
    simpa using hu
  · intro g c w' h1 h2 h3 _
    refine h g c w' (by rw [pcs_snoc]; exact h1) ?_
    have hb : Below base W (W.alloc (.cells q.cs.toArray 40)) := (Below.refl _ _).alloc hbase _
    exact hb.grown h2 (by simp; omega) fun k hk => (hown2.lt k hk).1
set_option maxRecDepth 8000 in
/-- append of a place that was boxed last -/
theorem wpList_append_sp {ops : Array Oper} {rest : List Oper} {o : Oper} {a : Act} {Q : Exit → Act → World → Prop} {W : World} (hgd : o.guard = none) (s x : Operand) (ho : o.op = .call { callee := .builtin .append, args := #[s, x], argTypes := #[27, 27] })
    {base n : Nat} {v : Value} {xs : List Sp} (hs : a.eval s = v) (hown : W.ownsRow base 30 3 v n (scs xs)) (q : Sp) (hx : a.eval x = .slice (some ⟨W.heap.size, 0, none⟩) 1 1) (hn : n ≤ 1000) (hbase : base ≤ W.heap.size)
    (h : ∀ g c w', w'.ownsRow base 30 3 (.slice (some ⟨g, 0, none⟩) (n + 1) c) (n + 1) (scs (xs ++ [q])) → Below base W w' → wpList Tryd.prog ops Q rest (a.put o.dst (.slice (some ⟨g, 0, none⟩) (n + 1) c)) w') : wpList Tryd.prog ops Q (o :: rest) a (W.alloc (.cells q.cs.toArray 30)) := by
  obtain ⟨i0, hi, hz0, hz1, hz2⟩ := info_partsN infoS
  have hown2 : (W.alloc (.cells q.cs.toArray 30)).ownsRow base 30 3 v n (scs xs) := own_belowN hown ((Below.refl _ _).alloc (Nat.le_refl _) _)
  refine wpList_append_lies _ hgd s x 27 ho base 30 i0 _ 3 24 Tryd.underlying27 hi hz0 hz1 hz2 rfl (by decide) v n (scs xs) hs hown2 ⟨W.heap.size, 0, none⟩ 1 1 q.cs hx rfl ?_ (by simp [Value.oneCell']) (by decide) (by simp only [maxLen]; omega) (by omega) (by simp; omega) _ rfl ?_
  · intro j u hu
    rw [add_flat, Nat.zero_add]
    have := (Blk.new W 30 q.cs.toArray).cell j
    rw [this]
    simpa using hu
  · intro g c w' h1 h2 h3 _
    refine h g c w' (by rw [scs_snoc]; exact h1) ?_
    have hb : Below base W (W.alloc (.cells q.cs.toArray 30)) := (Below.refl _ _).alloc hbase _
    exact hb.grown h2 (by simp; omega) fun k hk => (hown2.lt k hk).1
end Go.Proofs.YtpihllgdgolgpaaDoor

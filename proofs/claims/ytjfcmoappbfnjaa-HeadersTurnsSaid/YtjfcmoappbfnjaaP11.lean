/- volume: blocks that are known whole, places, parts of a plan: words. -/
import Derived.Test.YtjfcmoappbfnjaaP10
import Derived.Test.YtjfcmoappbfnjaaP06
import Derived.Test.YtjfcmoappbfnjaaProg
import Derived.Deep.AppendLies
import Derived.Test.YtjfcmoappbfnjaaP08
import Derived.Test.YtjfcmoappbfnjaaP09
import Derived.Laws.Externs
import Derived.WalkSpells
namespace Go.Proofs.Ytjfcmoappbfnjaa.V
open Go.RowKit
/-- a block that is known whole -/
def Blk (w : World) (g : Nat) (t : TypeId) (cs : Array Value) : Prop := w.heap[g]? = some (.cells cs t (0, 0))
section
variable {w w' w1 : World} {g : Nat} {t u : TypeId} {cs ds es : Array Value}
theorem Blk.lt (h : Blk w g t cs) : g < w.heap.size := (Array.getElem?_eq_some_iff.1 h).1
theorem Blk.cell (h : Blk w g t cs) (i : Nat) : w.cell? ⟨g, i, none⟩ = cs[i]? := cell_of_row w g i cs t (0, 0) h
theorem Blk.frozen (h : Blk w g t cs) (i : Nat) : w.frozen? ⟨g, i, none⟩ = false := frozen_of_row w g i cs t h
theorem Blk.new (w : World) (t : TypeId) (cs : Array Value) : Blk (w.alloc (.cells cs t)) w.heap.size t cs := heap_alloc_new w _
theorem Blk.alloc (h : Blk w g t cs) (o : Obj) : Blk (w.alloc o) g t cs := (Below.heap_alloc w o g h.lt).trans h
theorem Blk.drew (h : Blk w g t cs) : Blk w.drew g t cs := h
theorem Blk.drewN (h : Blk w g t cs) (n : Nat) : Blk (w.drewN n) g t cs := h
theorem Blk.set_ (h : Blk w g t cs) (i : Nat) (u : Value) : Blk (w.setCell ⟨g, i, none⟩ u) g t (cs.setIfInBounds i u) := heap_setCell_same w g i cs t u h
theorem Blk.far (h : Blk w g t cs) {p : Addr} (hp : g ≠ p.block) (u : Value) : Blk (w.setCell p u) g t cs := (Below.heap_setCell w p u g hp).trans h
theorem Blk.below {B : Nat} (h : Blk w g t cs) (hb : Below B w w') (hg : g < B) : Blk w' g t cs := (hb.block g hg).trans h
theorem Blk.keep (h : Blk w g t cs) (hb : Below w.heap.size w w') : Blk w' g t cs := h.below hb h.lt
theorem Blk.two {a b : Value} (h : Blk w g t #[a, b]) : w.cell? ⟨g, 0, none⟩ = some a ∧ w.cell? ⟨g, 1, none⟩ = some b := ⟨h.cell 0, h.cell 1⟩
theorem Blk.three {a b c : Value} (h : Blk w g t #[a, b, c]) : w.cell? ⟨g, 0, none⟩ = some a ∧ w.cell? ⟨g, 1, none⟩ = some b ∧ w.cell? ⟨g, 2, none⟩ = some c := ⟨h.cell 0, h.cell 1, h.cell 2⟩
theorem Blk.one {a : Value} (h : Blk w g t #[a]) : w.cell? ⟨g, 0, none⟩ = some a := h.cell 0
end
/-- a place -/
structure Sp where
  (k a t : Int)
set_option maxRecDepth 8000 in
theorem Sp.ext {x y : Sp} (h : x.k = y.k ∧ x.a = y.a ∧ x.t = y.t) : x = y := by
  obtain ⟨k, a, t⟩ := x
  obtain ⟨k', a', t'⟩ := y
  obtain ⟨rfl, rfl, rfl⟩ := h
  rfl
instance : DecidableEq Sp := fun x y => decidable_of_iff (x.k = y.k ∧ x.a = y.a ∧ x.t = y.t) ⟨Sp.ext, fun h => by subst h; exact ⟨rfl, rfl, rfl⟩⟩
abbrev Sp.cs (x : Sp) : List Value := [.int .i64 x.k, .int .i64 x.a, .int .i64 x.t]
abbrev Sp.val (x : Sp) : Value := .agg #[.int .i64 x.k, .int .i64 x.a, .int .i64 x.t]
/-- a part -/
structure Pt where
  (k a f t : Int)
abbrev Pt.cs (x : Pt) : List Value := [.int .i64 x.k, .int .i64 x.a, .int .i64 x.f, .int .i64 x.t]
abbrev Pt.val (x : Pt) : Value := .agg #[.int .i64 x.k, .int .i64 x.a, .int .i64 x.f, .int .i64 x.t]
/-- rows of them -/
def scs (l : List Sp) : List Value := (l.map Sp.cs).flatten
def pcs (l : List Pt) : List Value := (l.map Pt.cs).flatten
set_option maxRecDepth 8000 in
theorem pcs_snoc (l : List Pt) (x : Pt) : pcs (l ++ [x]) = pcs l ++ x.cs := by simp [pcs]
set_option maxRecDepth 8000 in
theorem scs_get : ∀ (l : List Sp) (i : Nat) (x : Sp) (j : Nat), l[i]? = some x → j < 3 → (scs l)[i * 3 + j]? = x.cs[j]?
  | [], i, x, j, h, _ => by simp at h
  | y :: l, 0, x, j, h, hj => by
    simp only [List.getElem?_cons_zero, Option.some.injEq] at h
    subst h
    simp only [scs, List.map_cons, List.flatten_cons, Nat.zero_mul, Nat.zero_add]
    rw [List.getElem?_append_left (by simpa using hj)]
  | y :: l, i + 1, x, j, h, hj => by
    have ih := scs_get l i x j (by simpa using h) hj
    simp only [scs, List.map_cons, List.flatten_cons] at ih ⊢
    rw [List.getElem?_append_right (by simp; omega)]
    have : (i + 1) * 3 + j - y.cs.length = i * 3 + j := by simp; omega
    rw [this]
    exact ih
set_option maxRecDepth 8000 in
theorem pcs_get : ∀ (l : List Pt) (i : Nat) (x : Pt) (j : Nat), l[i]? = some x → j < 4 → (pcs l)[i * 4 + j]? = x.cs[j]?
  | [], i, x, j, h, _ => by simp at h
  | y :: l, 0, x, j, h, hj => by
    simp only [List.getElem?_cons_zero, Option.some.injEq] at h
    subst h
    simp only [pcs, List.map_cons, List.flatten_cons, Nat.zero_mul, Nat.zero_add]
    rw [List.getElem?_append_left (by simpa using hj)]
  | y :: l, i + 1, x, j, h, hj => by
    have ih := pcs_get l i x j (by simpa using h) hj
    simp only [pcs, List.map_cons, List.flatten_cons] at ih ⊢
    rw [List.getElem?_append_right (by simp; omega)]
    have : (i + 1) * 4 + j - y.cs.length = i * 4 + j := by simp; omega
    rw [this]
    exact ih
/-- a row of them lies at g -/
def RdP (w : World) (g : Nat) (l : List Pt) : Prop := ∀ i x, l[i]? = some x → ∀ j u, x.cs[j]? = some u → w.cell? ⟨g, i * 4 + j, none⟩ = some u
def RdS (w : World) (g : Nat) (l : List Sp) : Prop := ∀ i x, l[i]? = some x → ∀ j u, x.cs[j]? = some u → w.cell? ⟨g, i * 3 + j, none⟩ = some u
section
variable {w w' : World} {g : Nat} {l : List Pt} {s : List Sp}
theorem RdP.keep (h : RdP w g l) (hb : Below w.heap.size w w') : RdP w' g l := fun i x hx j u hu => (hb.cell (p := ⟨g, i * 4 + j, none⟩) (cell_lt (h i x hx j u hu))).trans (h i x hx j u hu)
theorem RdS.keep (h : RdS w g s) (hb : Below w.heap.size w w') : RdS w' g s := fun i x hx j u hu => (hb.cell (p := ⟨g, i * 3 + j, none⟩) (cell_lt (h i x hx j u hu))).trans (h i x hx j u hu)
theorem RdP.at_ (h : RdP w g l) {i : Nat} {x : Pt} (hx : l[i]? = some x) : w.cell? ⟨g, i * 4, none⟩ = some (.int .i64 x.k) ∧ w.cell? ⟨g, i * 4 + 1, none⟩ = some (.int .i64 x.a) ∧ w.cell? ⟨g, i * 4 + 2, none⟩ = some (.int .i64 x.f) ∧ w.cell? ⟨g, i * 4 + 3, none⟩ = some (.int .i64 x.t) :=
  ⟨h i x hx 0 _ rfl, h i x hx 1 _ rfl, h i x hx 2 _ rfl, h i x hx 3 _ rfl⟩
theorem RdS.at_ (h : RdS w g s) {i : Nat} {x : Sp} (hx : s[i]? = some x) : w.cell? ⟨g, i * 3, none⟩ = some (.int .i64 x.k) ∧ w.cell? ⟨g, i * 3 + 1, none⟩ = some (.int .i64 x.a) ∧ w.cell? ⟨g, i * 3 + 2, none⟩ = some (.int .i64 x.t) :=
  ⟨h i x hx 0 _ rfl, h i x hx 1 _ rfl, h i x hx 2 _ rfl⟩
set_option maxRecDepth 8000 in
theorem RdP.of_own {base n : Nat} {v : Value} (h : w.ownsRow base 147 4 v n (pcs l)) (hn : 0 < n) : ∃ g c, v = .slice (some ⟨g, 0, none⟩) n c ∧ base ≤ g ∧ RdP w g l := by
  obtain ⟨hl, ⟨_, h0⟩ | ⟨g, cap, cur, rfl, hb, hg, _, _, _, ht⟩⟩ := h
  · omega
  refine ⟨g, cap, rfl, hb, fun i x hx j u hu => ?_⟩
  have hj : j < 4 := by have := (List.getElem?_eq_some_iff.1 hu).1; simpa using this
  rw [cell_of_row w g _ cur 147 (0, 0) hg, ← Array.getElem?_toList]
  have h2 := pcs_get l i x j hx hj
  rw [← ht, hu] at h2
  rw [List.getElem?_take] at h2
  split at h2
  · exact h2
  · cases h2
set_option maxRecDepth 8000 in
theorem RdS.of_own {base n : Nat} {v : Value} (h : w.ownsRow base 121 3 v n (scs s)) (hn : 0 < n) : ∃ g c, v = .slice (some ⟨g, 0, none⟩) n c ∧ base ≤ g ∧ RdS w g s := by
  obtain ⟨hl, ⟨_, h0⟩ | ⟨g, cap, cur, rfl, hb, hg, _, _, _, ht⟩⟩ := h
  · omega
  refine ⟨g, cap, rfl, hb, fun i x hx j u hu => ?_⟩
  have hj : j < 3 := by have := (List.getElem?_eq_some_iff.1 hu).1; simpa using this
  rw [cell_of_row w g _ cur 121 (0, 0) hg, ← Array.getElem?_toList]
  have h2 := scs_get s i x j hx hj
  rw [← ht, hu] at h2
  rw [List.getElem?_take] at h2
  split at h2
  · exact h2
  · cases h2
end
set_option maxRecDepth 8000 in
theorem own_belowN {w w' : World} {base n size : Nat} {e : TypeId} {v : Value} {xs : List Value} (h : w.ownsRow base e size v n xs) (hb : Below w.heap.size w w') : w'.ownsRow base e size v n xs := by
  refine h.kept (row := none) ⟨hb.os, hb.tape, hb.output, hb.size, fun k hk _ => hb.block k hk⟩ ?_
  cases hv : v.ownBlock with
  | none => exact .inl rfl
  | some k => exact .inr (by simp)
set_option maxRecDepth 8000 in
theorem infoP : (Try.prog.info? 147).map (fun i => (i.zero, i.size, i.bytes)) = some (some (.agg #[.int .i64 0, .int .i64 0, .int .i64 0, .int .i64 0]), 4, 32) := by kernel_rfl
set_option maxRecDepth 8000 in
theorem info_partsN {P : Program} {e : TypeId} {z : Value} {s b : Nat} (h : (P.info? e).map (fun i => (i.zero, i.size, i.bytes)) = some (some z, s, b)) : ∃ i, P.info? e = some i ∧ i.zero = some z ∧ i.size = s ∧ i.bytes = b := by
  cases hi : P.info? e with
  | none => rw [hi] at h; cases h
  | some i => rw [hi] at h; simp only [Option.map_some, Option.some.injEq, Prod.mk.injEq] at h; exact ⟨i, rfl, h.1, h.2.1, h.2.2⟩
set_option maxRecDepth 8000 in
/-- append of a part that was boxed last -/
theorem wpList_append_pt {ops : Array Oper} {rest : List Oper} {o : Oper} {a : Act} {Q : Exit → Act → World → Prop} {W : World} (hgd : o.guard = none) (s x : Operand) (ho : o.op = .call { callee := .builtin .append, args := #[s, x], argTypes := #[143, 143] })
    {base n : Nat} {v : Value} {xs : List Pt} (hs : a.eval s = v) (hown : W.ownsRow base 147 4 v n (pcs xs)) (q : Pt) (hx : a.eval x = .slice (some ⟨W.heap.size, 0, none⟩) 1 1) (hn : n ≤ 1000) (hbase : base ≤ W.heap.size)
    (h : ∀ g c w', w'.ownsRow base 147 4 (.slice (some ⟨g, 0, none⟩) (n + 1) c) (n + 1) (pcs (xs ++ [q])) → Below base W w' → wpList Try.prog ops Q rest (a.put o.dst (.slice (some ⟨g, 0, none⟩) (n + 1) c)) w') : wpList Try.prog ops Q (o :: rest) a (W.alloc (.cells q.cs.toArray 147)) := by
  obtain ⟨i0, hi, hz0, hz1, hz2⟩ := info_partsN infoP
  have hown2 : (W.alloc (.cells q.cs.toArray 147)).ownsRow base 147 4 v n (pcs xs) := own_belowN hown ((Below.refl _ _).alloc (Nat.le_refl _) _)
  refine wpList_append_lies _ hgd s x 143 ho base 147 i0 _ 4 32 Try.underlying143 hi hz0 hz1 hz2 rfl (by decide) v n (pcs xs) hs hown2 ⟨W.heap.size, 0, none⟩ 1 1 q.cs hx rfl ?_ (by simp [Value.oneCell']) (by decide) (by simp only [maxLen]; omega) (by omega) (by simp; omega) _ rfl ?_
  · intro j u hu
    rw [add_flat, Nat.zero_add]
    have := (Blk.new W 147 q.cs.toArray).cell j
    rw [this]
    simpa using hu
  · intro g c w' h1 h2 h3 _
    refine h g c w' (by rw [pcs_snoc]; exact h1) ?_
    have hb : Below base W (W.alloc (.cells q.cs.toArray 147)) := (Below.refl _ _).alloc hbase _
    exact hb.grown h2 (by simp; omega) fun k hk => (hown2.lt k hk).1
end Go.Proofs.Ytjfcmoappbfnjaa.V
namespace Go.Proofs.Ytjfcmoappbfnjaa.V
open Go.RowKit
attribute [local go_sem] Oper.semAt_some
abbrev pv (p : Nat) : Value := .pointer (some ⟨p, 0, none⟩)
/-- what the two boxes of parts hold -/
structure PA (w : World) (pr pe base : Nat) (v : Value) (n : Nat) (l : List Pt) (e : Int) : Prop where
  row : Blk w pr 143 #[v]
  stop : Blk w pe 3 #[.int .i64 e]
  own : w.ownsRow base 147 4 v n (pcs l)
  size : base ≤ w.heap.size
set_option maxRecDepth 8000 in
theorem own_far {w : World} {base n size : Nat} {e : TypeId} {v : Value} {xs : List Value} (h : w.ownsRow base e size v n xs) {p : Addr} (hp : ∀ q, v.ownBlock = some q → q ≠ p.block) (u : Value) : (w.setCell p u).ownsRow base e size v n xs := by
  obtain ⟨hl, h0 | ⟨g, cap, cur, rfl, hb, hg, h1, h2, h3, ht⟩⟩ := h
  · exact ⟨hl, .inl h0⟩
  · exact ⟨hl, .inr ⟨g, cap, cur, rfl, hb, (Below.heap_setCell w p u g (hp g rfl)).trans hg, h1, h2, h3, ht⟩⟩
set_option maxRecDepth 8000 in
set_option maxHeartbeats 1000000 in
theorem add_any (pr pe base : Nat) (v : Value) (n : Nat) (l : List Pt) (e k a c : Int) (w : World) (h : PA w pr pe base v n l e) (hn : n ≤ 100) (hp : pr < pe) (hb : pe < base) (he : 0 ≤ e ∧ e ≤ 100000) (hc : 0 ≤ c ∧ c ≤ 100000) :
    Calls Try.prog 89 #[.int .i64 k, .int .i64 a, .int .i64 c, pv pr, pv pe] w fun r w' => r = .returned (.tuple #[]) ∧ (∃ v', PA w' pr pe base v' (n + 1) (l ++ [⟨k, a, e, e + c⟩]) (e + c)) ∧ Below pr w w' := by
  obtain ⟨h1, h2, h3, h4⟩ := h
  have c1 : w.cell? ⟨pr, 0, none⟩ = some v := h1.cell 0
  have c2 : w.cell? ⟨pe, 0, none⟩ = some (.int .i64 e) := h2.cell 0
  have H1 := Lib.hid h1
  have H2 := Lib.hid h2
  have H3 := Lib.hid h3
  have H4 := Lib.hid h4
  have HP := Lib.hid hp
  have HBb := Lib.hid hb
  clear h1 h2 h3 h4 hp hb
  go_enter Try.func89, Try.ntmps89
  go_wp2_with (refine wpList_append_pt rfl (.tmp 8) (.tmp 16) rfl (by rfl) H3.out ⟨k, a, e, e + c⟩ (by first | rfl | simp) (by omega) H4.out ?_; intro g' c' w1 hw1 hw2; have K1 := Lib.hid (H1.out.below hw2 (Nat.lt_trans HP.out HBb.out)); have K2 := Lib.hid (H2.out.below hw2 HBb.out); have O1 := Lib.hid hw1; have B1 := Lib.hid hw2; have f1 : w1.frozen? ⟨pr, 0, none⟩ = false := K1.out.frozen 0; have d1 : w1.cell? ⟨pr, 0, none⟩ = some v := K1.out.cell 0; have f2 : w1.frozen? ⟨pe, 0, none⟩ = false := K2.out.frozen 0; have d2 : w1.cell? ⟨pe, 0, none⟩ = some (.int .i64 e) := K2.out.cell 0; have hne : pr ≠ pe := Nat.ne_of_lt HP.out; have hne' : pe ≠ pr := (Nat.ne_of_lt HP.out).symm; clear hw1 hw2 c1 c2)
  go_end0
  refine ⟨rfl, ⟨_, (K1.out.set_ 0 _).far hne _, (K2.out.far hne' _).set_ 0 _, ?_, ?_⟩, ?_⟩
  · refine own_far (own_far O1.out ?_ _) ?_ _
    · exact fun q hq => by have := (World.ownsRow.lt O1.out _ hq).1; have := HP.out; have := HBb.out; simp; omega
    · exact fun q hq => by have := (World.ownsRow.lt O1.out _ hq).1; have := HP.out; have := HBb.out; simp; omega
  · have := B1.out.size
    have := H4.out
    simp [World.setCell]
    omega
  · exact ((B1.out.mono (Nat.le_trans (Nat.le_of_lt HP.out) (Nat.le_of_lt HBb.out))).setCell (p := ⟨pr, 0, none⟩) (Nat.le_refl _) _).setCell (p := ⟨pe, 0, none⟩) (Nat.le_of_lt HP.out) _
/-- a plan's parts -/
def partsL (n : Int) : List Pt := [⟨1, 0, 0, 2⟩, ⟨2, 0, 2, 3⟩, ⟨3, 0, 3, 11⟩, ⟨4, 0, 11, 11 + n⟩, ⟨2, 1, 11 + n, 12 + n⟩, ⟨3, 1, 12 + n, 20 + n⟩, ⟨4, 1, 20 + n, 20 + 2 * n⟩, ⟨5, 0, 20 + 2 * n, 20 + 3 * n⟩]
abbrev plan (n : Int) : Value := .agg #[.int .i64 n]
set_option maxRecDepth 8000 in
theorem parts_no (n : Int) (w : World) (h : ¬ (1 ≤ n ∧ n ≤ 64)) :
    Calls Try.prog 71 #[plan n] w fun r w' => r = .returned (.tuple #[.slice none 0 0, .int .i64 2]) ∧ Below w.heap.size w w' := by
  by_cases h1 : n < 1
  · have d0 : decide (n < 1) = true := decide_eq_true h1
    clear h h1
    go_enter Try.func71, Try.ntmps71
    go_wp2
    go_ret2
    exact ⟨rfl, (Below.refl _ _).alloc (Nat.le_refl _) _⟩
  · have d0 : decide (n < 1) = false := decide_eq_false h1
    have d1 : decide (64 < n) = true := decide_eq_true (by omega)
    clear h h1
    go_enter Try.func71, Try.ntmps71
    go_wp2
    go_ret2
    exact ⟨rfl, (Below.refl _ _).alloc (Nat.le_refl _) _⟩
set_option maxRecDepth 8000 in
set_option maxHeartbeats 4000000 in
theorem parts_yes (n : Int) (w : World) (h : 1 ≤ n ∧ n ≤ 64) :
    Calls Try.prog 71 #[plan n] w fun r w' => (∃ g c, r = .returned (.tuple #[.slice (some ⟨g, 0, none⟩) 8 c, .int .i64 0]) ∧ RdP w' g (partsL n)) ∧ Below w.heap.size w w' := by
  have d0 : decide (n < 1) = false := decide_eq_false (by omega)
  have d1 : decide (64 < n) = false := decide_eq_false (by omega)
  have HG := Lib.hid (((Blk.new w 80 #[.int .i64 n]).alloc (.cells #[.slice none 0 0] 143)).alloc (.cells #[.int .i64 0] 3))
  have HB := Lib.hid ((((Below.refl w.heap.size w).alloc (Nat.le_refl _) (.cells #[.int .i64 n] 80)).alloc (by simp) (.cells #[.slice none 0 0] 143)).alloc (by simp; omega) (.cells #[.int .i64 0] 3))
  have HA := Lib.hid (show PA (((w.alloc (.cells #[.int .i64 n] 80)).alloc (.cells #[.slice none 0 0] 143)).alloc (.cells #[.int .i64 0] 3)) (w.heap.size + 1) (w.heap.size + 2) (w.heap.size + 3) (.slice none 0 0) 0 [] 0 from
    ⟨by have := (Blk.new (w.alloc (.cells #[.int .i64 n] 80)) 143 #[.slice none 0 0]).alloc (.cells #[.int .i64 0] 3); simpa using this,
     by have := Blk.new ((w.alloc (.cells #[.int .i64 n] 80)).alloc (.cells #[.slice none 0 0] 143)) 3 #[.int .i64 0]; simpa using this,
     World.ownsRow_nil _ _ _ _, by simp⟩)
  have c0 : (((w.alloc (.cells #[.int .i64 n] 80)).alloc (.cells #[.slice none 0 0] 143)).alloc (.cells #[.int .i64 0] 3)).cell? ⟨w.heap.size, 0, none⟩ = some (.int .i64 n) := HG.out.one
  go_enter Try.func71, Try.ntmps71
  go_wp2_with (go_at_call 89; refine (add_any (w.heap.size + 1) (w.heap.size + 2) (w.heap.size + 3) _ _ _ _ _ _ _ _ HA.out (by omega) (by omega) (by omega) (by omega) (by omega)).mono ?_; rintro r w1 ⟨rfl, ⟨v1, ha⟩, hb⟩; have HA1 := Lib.hid ha; have HG1 := Lib.hid (HG.out.below hb (Nat.lt_succ_self _)); have HB1 := Lib.hid (HB.out.trans (hb.mono (Nat.le_succ _))); have c1 := HG1.out.one; clear ha hb HA HG HB c0)
  refine wp_loop_rounds 3 ?_
  rw [rounds_succ]
  go_wp2_with (first
    | (go_at_call 89; refine (add_any (w.heap.size + 1) (w.heap.size + 2) (w.heap.size + 3) _ _ _ _ _ _ _ _ HA1.out (by omega) (by omega) (by omega) (by omega) (by omega)).mono ?_; rintro r w2 ⟨rfl, ⟨v2, ha⟩, hb⟩; have HA2 := Lib.hid ha; have HG2 := Lib.hid (HG1.out.below hb (Nat.lt_succ_self _)); have HB2 := Lib.hid (HB1.out.trans (hb.mono (Nat.le_succ _))); have c2 := HG2.out.one; clear ha hb HA1 HG1 HB1 c1)
    | (go_at_call 89; refine (add_any (w.heap.size + 1) (w.heap.size + 2) (w.heap.size + 3) _ _ _ _ _ _ _ _ HA2.out (by omega) (by omega) (by omega) (by omega) (by omega)).mono ?_; rintro r w3 ⟨rfl, ⟨v3, ha⟩, hb⟩; have HA3 := Lib.hid ha; have HG3 := Lib.hid (HG2.out.below hb (Nat.lt_succ_self _)); have HB3 := Lib.hid (HB2.out.trans (hb.mono (Nat.le_succ _))); have c3 := HG3.out.one; clear ha hb HA2 HG2 HB2 c2)
    | (go_at_call 89; refine (add_any (w.heap.size + 1) (w.heap.size + 2) (w.heap.size + 3) _ _ _ _ _ _ _ _ HA3.out (by omega) (by omega) (by omega) (by omega) (by omega)).mono ?_; rintro r w4 ⟨rfl, ⟨v4, ha⟩, hb⟩; have HA4 := Lib.hid ha; have HG4 := Lib.hid (HG3.out.below hb (Nat.lt_succ_self _)); have HB4 := Lib.hid (HB3.out.trans (hb.mono (Nat.le_succ _))); have c4 := HG4.out.one; clear ha hb HA3 HG3 HB3 c3))
  rw [rounds_succ]
  go_wp2_with (first
    | (go_at_call 89; refine (add_any (w.heap.size + 1) (w.heap.size + 2) (w.heap.size + 3) _ _ _ _ _ _ _ _ HA4.out (by omega) (by omega) (by omega) (by omega) (by omega)).mono ?_; rintro r w5 ⟨rfl, ⟨v5, ha⟩, hb⟩; have HA5 := Lib.hid ha; have HG5 := Lib.hid (HG4.out.below hb (Nat.lt_succ_self _)); have HB5 := Lib.hid (HB4.out.trans (hb.mono (Nat.le_succ _))); have c5 := HG5.out.one; clear ha hb HA4 HG4 HB4 c4)
    | (go_at_call 89; refine (add_any (w.heap.size + 1) (w.heap.size + 2) (w.heap.size + 3) _ _ _ _ _ _ _ _ HA5.out (by omega) (by omega) (by omega) (by omega) (by omega)).mono ?_; rintro r w6 ⟨rfl, ⟨v6, ha⟩, hb⟩; have HA6 := Lib.hid ha; have HG6 := Lib.hid (HG5.out.below hb (Nat.lt_succ_self _)); have HB6 := Lib.hid (HB5.out.trans (hb.mono (Nat.le_succ _))); have c6 := HG6.out.one; clear ha hb HA5 HG5 HB5 c5)
    | (go_at_call 89; refine (add_any (w.heap.size + 1) (w.heap.size + 2) (w.heap.size + 3) _ _ _ _ _ _ _ _ HA6.out (by omega) (by omega) (by omega) (by omega) (by omega)).mono ?_; rintro r w7 ⟨rfl, ⟨v7, ha⟩, hb⟩; have HA7 := Lib.hid ha; have HG7 := Lib.hid (HG6.out.below hb (Nat.lt_succ_self _)); have HB7 := Lib.hid (HB6.out.trans (hb.mono (Nat.le_succ _))); have c7 := HG7.out.one; clear ha hb HA6 HG6 HB6 c6))
  rw [rounds_succ]
  go_wp2_with (go_at_call 89; refine (add_any (w.heap.size + 1) (w.heap.size + 2) (w.heap.size + 3) _ _ _ _ _ _ _ _ HA7.out (by omega) (by omega) (by omega) (by omega) (by omega)).mono ?_; rintro r w8 ⟨rfl, ⟨v8, ha⟩, hb⟩; have HA8 := Lib.hid ha; have HG8 := Lib.hid (HG7.out.below hb (Nat.lt_succ_self _)); have HB8 := Lib.hid (HB7.out.trans (hb.mono (Nat.le_succ _))); have c8 := HG8.out.one; have d8 : w8.cell? ⟨w.heap.size + 1, 0, none⟩ = some v8 := HA8.out.row.cell 0; clear ha hb HA7 HG7 HB7 c7)
  have hl : ∀ e, (((((((([] ++ [(⟨1, 0, 0, 0 + 2⟩ : Pt)]) ++ [⟨2, 0, 0 + 2, 0 + 2 + 1⟩]) ++ [⟨3, 0, 0 + 2 + 1, 0 + 2 + 1 + 8⟩]) ++ [⟨4, 0, 0 + 2 + 1 + 8, 0 + 2 + 1 + 8 + n⟩]) ++ [⟨2, 1, 0 + 2 + 1 + 8 + n, 0 + 2 + 1 + 8 + n + 1⟩]) ++ [⟨3, 1, 0 + 2 + 1 + 8 + n + 1, 0 + 2 + 1 + 8 + n + 1 + 8⟩]) ++ [⟨4, 1, 0 + 2 + 1 + 8 + n + 1 + 8, 0 + 2 + 1 + 8 + n + 1 + 8 + n⟩]) ++ [⟨5, 0, 0 + 2 + 1 + 8 + n + 1 + 8 + n, e⟩]) = (partsL n).dropLast ++ [⟨5, 0, 20 + 2 * n, e⟩] := by
    intro e
    simp only [partsL, List.nil_append, List.cons_append, List.dropLast, List.cons.injEq, Pt.mk.injEq, and_true, true_and]
    omega
  obtain ⟨g, cp, rfl, -, hr⟩ := RdP.of_own HA8.out.own (by omega)
  rw [hl, show 0 + 2 + 1 + 8 + n + 1 + 8 + n + n = 20 + 3 * n by omega] at hr
  go_ret2
  exact ⟨⟨g, cp, rfl, hr⟩, HB8.out⟩
set_option maxRecDepth 8000 in
set_option maxHeartbeats 1000000 in
theorem size_any (n : Int) (w : World) : Calls Try.prog 52 #[plan n] w fun r w' => r = .returned (.tuple #[.int .i64 (if 1 ≤ n ∧ n ≤ 64 then 20 + 3 * n else 0), .int .i64 (if 1 ≤ n ∧ n ≤ 64 then 0 else 2)]) ∧ Below w.heap.size w w' := by
  have HB := Lib.hid ((Below.refl w.heap.size w).alloc (Nat.le_refl _) (.cells #[.int .i64 n] 80))
  by_cases h : 1 ≤ n ∧ n ≤ 64
  · rw [if_pos h, if_pos h]
    have H := Lib.hid h
    clear h
    go_enter Try.func52, Try.ntmps52
    go_wp2_with (go_at_call 71; refine (parts_yes n _ H.out).mono ?_; rintro r w1 ⟨⟨g, c, rfl, hr⟩, hb⟩; have HB1 := Lib.hid (HB.out.trans (hb.mono HB.out.size)); have c3 : w1.cell? ⟨g, 31, none⟩ = some (.int .i64 (20 + 3 * n)) := hr 7 _ rfl 3 _ rfl; clear hr hb)
    go_ret2
    exact ⟨rfl, HB1.out⟩
  · rw [if_neg h, if_neg h]
    have H := Lib.hid h
    clear h
    go_enter Try.func52, Try.ntmps52
    go_wp2_with (go_at_call 71; refine (parts_no n _ H.out).mono ?_; rintro r w1 ⟨rfl, hb⟩; have HB1 := Lib.hid (HB.out.trans (hb.mono HB.out.size)); clear hb)
    go_ret2
    exact ⟨rfl, HB1.out⟩
end Go.Proofs.Ytjfcmoappbfnjaa.V
namespace Go.Proofs.Ytjfcmoappbfnjaa
open Go.RowKit
set_option maxRecDepth 8000 in
theorem run_equalIn_map_nil {P : Program} (w : World) (d : Nat) (t k e : TypeId) (p : Option Nat) (h : P.underlying t = some (.map k e)) : (Op.equalIn (d + 1) t (.map p) (.map none)).run P w = .ok p.isNone w := by
  cases p <;> simp [Op.equalIn, run_underlying h]
set_option maxRecDepth 8000 in
theorem run_eql_map_nil {P : Program} (w : World) (t k e : TypeId) (p : Option Nat) (h : P.underlying t = some (.map k e)) : (binOp .eql t (.map p) (.map none)).run P w = .ok (.bool p.isNone) w := by
  simp only [binOp]
  simp [show Op.equal t (.map p) (.map none) = Op.equalIn (9999 + 1) t (.map p) (.map none) from rfl, run_equalIn_map_nil w 9999 t k e p h]
set_option maxRecDepth 8000 in
theorem run_clone_i {P : Program} (w : World) {r : Nat} {es : Array MapEntry} {clock : Nat} (t : TypeId) (hb : w.heap[r]? = some (.map es clock)) :
    (Extern.MapsClone.clone #[.iface t (.map (some r))]).run P w = .ok (.iface t (.map (some w.heap.size))) (w.alloc (.map es clock)) := by
  have e : Extern.MapsClone.clone #[.iface t (.map (some r))] = (getObj r >>= fun o => match o with
      | .map entries clock => (newObj (.map entries clock) >>= fun n => pure (.iface t (.map (some n))))
      | _ => stuck "maps.clone: a map expected") := rfl
  rw [e]
  simp [MapKept.run_getObj_map hb, Result.andThen, go_sem]
set_option maxRecDepth 8000 in
theorem run_assert_map {P : Program} (w : World) (t xT k e : TypeId) (v : Value) (h : P.underlying t = some (.map k e)) : (Instr.typeAssert (.iface t v) xT t false).run P w = .ok v w := by
  simp [Instr.typeAssert, run_underlying h, go_sem, Result.andThen]
set_option maxRecDepth 100000 in
set_option maxHeartbeats 800000 in
theorem clone73 (b : Nat) (es : Array MapEntry) (clock : Nat) (w : World) (hb : w.heap[b]? = some (.map es clock)) :
    Calls Try.prog 40 #[.map (some b)] w fun e w' => e = .returned (.map (some w.heap.size)) ∧ w.alloc (.map es clock) = w' := by
  have hq := fun w => run_eql_map_nil (P := Try.prog) w 85 _ _ (some b) Try.underlying85
  go_enter Try.func40, Try.ntmps40
  go_wp2
  rw [run_callFunc_extern Try.func62 (by kernel_rfl) (by kernel_rfl) (by kernel_rfl) (e := Extern.MapsClone.clone) (by kernel_rfl), run_clone_i w _ hb]
  simp only [Result.andThen]
  rw [Oper.upon_value]
  go_wp2
  rw [run_assert_map _ 85 _ _ _ _ Try.underlying85]
  simp only [Result.andThen]
  rw [Oper.upon_value]
  go_wp2
  go_ret
  exact ⟨rfl, rfl⟩
/-- the cells from A on read as these bools -/
def RdB (w : World) (A : Option Addr) (l : List Bool) : Prop := ∀ j (h : j < l.length), ∃ b off, A = some ⟨b, off, none⟩ ∧ w.cell? ⟨b, off + j, none⟩ = some (.bool l[j])
theorem RdB.below {w w' : World} {A : Option Addr} {l : List Bool} (h : RdB w A l) (hb : Below w.heap.size w w') : RdB w' A l := fun j hj => by
  obtain ⟨b, off, e, hc⟩ := h j hj
  exact ⟨b, off, e, (hb.cell (cell_lt hc)).trans hc⟩
/-- a crash, as it is told by plain data -/
structure Cr where
  keep : List Bool
  torn : Int
  bytes : Int
/-- its value -/
def Cr.val (c : Cr) (A : Option Addr) (cap : Nat) : Value := .agg #[.slice A c.keep.length cap, .int .i64 c.torn, .int .i64 c.bytes]
/-- how many bytes are kept of the write of that number -/
def Cr.kept (c : Cr) (i : Nat) : Int := if (i : Int) = c.torn then c.bytes else if c.keep[i]? = some true then 512 else 0
set_option maxRecDepth 100000 in
set_option maxHeartbeats 800000 in
theorem kept_at (w : World) (c : Cr) (A : Option Addr) (cap : Nat) (hr : RdB w A c.keep) (i : Nat) (hi : i ≤ 1000000) :
    Calls Try.prog 55 #[c.val A cap, .int .i64 (i : Int)] w fun e w' => e = .returned (.int .i64 (c.kept i)) ∧ Below w.heap.size w w' := by
  have bl : Below w.heap.size w (w.alloc (.cells #[.slice A c.keep.length cap, .int .i64 c.torn, .int .i64 c.bytes] 62)) := (Below.refl _ w).alloc (Nat.le_refl _) _
  unfold Cr.val
  by_cases ht : (i : Int) = c.torn
  · have h1 : ((i : Int) == c.torn) = true := beq_iff_eq.2 ht
    have HR := Lib.hid (show c.kept i = c.bytes by unfold Cr.kept; rw [if_pos ht])
    have BL := Lib.hid bl
    clear ht bl hr
    go_enter Try.func55, Try.ntmps55
    go_wp2
    go_ret
    exact ⟨by rw [HR.out]; rfl, BL.out⟩
  · have h1 : ((i : Int) == c.torn) = false := beq_eq_false_iff_ne.2 ht
    by_cases hl : i < c.keep.length
    · obtain ⟨b, off, rfl, hc⟩ := hr i hl
      have hc2 := (bl.cell (cell_lt hc)).trans hc
      have h2 : decide (i < c.keep.length) = true := by simpa using hl
      have i1 : (0 : Int) ≤ (i : Int) := by omega
      have i2 : (i : Int) < (c.keep.length : Int) := by omega
      have HR := Lib.hid (show c.kept i = if c.keep[i] = true then 512 else 0 by unfold Cr.kept; rw [if_neg ht, List.getElem?_eq_getElem hl]; simp)
      have BL := Lib.hid bl
      generalize c.keep[i] = u at hc2 HR
      clear ht bl hr hl hc
      cases u
      all_goals
        go_enter Try.func55, Try.ntmps55
        go_wp2
        go_ret
        exact ⟨by rw [HR.out]; rfl, BL.out⟩
    · have h2 : decide (i < c.keep.length) = false := by simpa using hl
      have HR := Lib.hid (show c.kept i = 0 by unfold Cr.kept; rw [if_neg ht, List.getElem?_eq_none (by omega)]; simp)
      have BL := Lib.hid bl
      clear ht bl hr hl
      go_enter Try.func55, Try.ntmps55
      go_wp2
      go_ret
      exact ⟨by rw [HR.out]; rfl, BL.out⟩
end Go.Proofs.Ytjfcmoappbfnjaa
namespace Go.Proofs.Ytjfcmoappbfnjaa
open Go.RowKit Go.Shelf
attribute [local go_sem] Oper.semAt_some
attribute [local go_sem] run_store_bv run_store_wc run_store_bv_drew run_store_wc_drew
end Go.Proofs.Ytjfcmoappbfnjaa

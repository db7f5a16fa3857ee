/- keys: a slice of keys that came in: words. -/
import Derived.Test.YtjolojomgfcfbaaDoorR06
import Derived.Test.YtjolojomgfcfbaaDoorR05
import Derived.Test.YtjolojomgfcfbaaDoorR01
import Derived.OwnWalk
import Derived.Deep.MidRow
import Derived.Deep.WholeRow
import Derived.Laws.Tables
namespace Go.Proofs.YtjolojomgfcfbaaDoor
open Go.ChangeShapes Go.WideShapes Go.ChangeAt Go.RowKit
/-- the six cells of a key -/
def KeyAt (w : World) (b o : Nat) (x : Ky) : Prop :=
  w.cell? ⟨b, o, none⟩ = some (.int .i64 x.k) ∧ w.cell? ⟨b, o + 1, none⟩ = some (.int .i64 x.o) ∧ w.cell? ⟨b, o + 2, none⟩ = some (.int .i64 x.c) ∧ w.cell? ⟨b, o + 3, none⟩ = some (.int .i64 x.l) ∧ w.cell? ⟨b, o + 4, none⟩ = some (.int .i64 x.r) ∧ w.cell? ⟨b, o + 5, none⟩ = some (.int .i64 x.v)
theorem KeyAt.lt {w : World} {b o : Nat} {x : Ky} (h : KeyAt w b o x) : b < w.heap.size := cell_lt h.1
set_option maxRecDepth 8000 in
theorem KeyAt.keep {w w' : World} {b o : Nat} {x : Ky} (h : KeyAt w b o x) (hb : Below w.heap.size w w') : KeyAt w' b o x := by
  have hl := h.lt
  obtain ⟨h0, h1, h2, h3, h4, h5⟩ := h
  exact ⟨(hb.cell (p := ⟨b, o, none⟩) hl).trans h0, (hb.cell (p := ⟨b, o + 1, none⟩) hl).trans h1, (hb.cell (p := ⟨b, o + 2, none⟩) hl).trans h2, (hb.cell (p := ⟨b, o + 3, none⟩) hl).trans h3, (hb.cell (p := ⟨b, o + 4, none⟩) hl).trans h4, (hb.cell (p := ⟨b, o + 5, none⟩) hl).trans h5⟩
theorem KeyAt.drew {w : World} {b o : Nat} {x : Ky} (h : KeyAt w b o x) : KeyAt w.drew b o x := h
theorem KeyAt.six {w : World} {b o : Nat} {x : Ky} (h : KeyAt w b o x) :
    w.cell? ⟨b, o, none⟩ = some (.int .i64 x.k) ∧ w.cell? ⟨b, o + 1, none⟩ = some (.int .i64 x.o) ∧ w.cell? ⟨b, o + 2, none⟩ = some (.int .i64 x.c) ∧ w.cell? ⟨b, o + 3, none⟩ = some (.int .i64 x.l) ∧ w.cell? ⟨b, o + 4, none⟩ = some (.int .i64 x.r) ∧ w.cell? ⟨b, o + 5, none⟩ = some (.int .i64 x.v) := h
/-- the cells from A on read as the keys l -/
def RdK (w : World) (A : Option Addr) (l : List Ky) : Prop := ∀ i (h : i < l.length), ∃ b o, A = some ⟨b, o, none⟩ ∧ KeyAt w b (o + i * 6) l[i]
theorem RdK.drew {w : World} {A : Option Addr} {l : List Ky} (h : RdK w A l) : RdK w.drew A l := h
theorem RdK.keep {w w' : World} {A : Option Addr} {l : List Ky} (h : RdK w A l) (hb : Below w.heap.size w w') : RdK w' A l := fun i hi => by
  obtain ⟨b, o, e, hk⟩ := h i hi
  exact ⟨b, o, e, hk.keep hb⟩
theorem KeyAt.alloc {w : World} {b o : Nat} {x : Ky} (h : KeyAt w b o x) (u : Obj) : KeyAt (w.alloc u) b o x := h.keep ((Below.refl _ _).alloc (Nat.le_refl _) _)
theorem RdK.alloc {w : World} {A : Option Addr} {l : List Ky} (h : RdK w A l) (u : Obj) : RdK (w.alloc u) A l := h.keep ((Below.refl _ _).alloc (Nat.le_refl _) _)
section
variable {H : Type} {enc : TypeId × Value → H} {W : World} {base : Nat} {spare : Nat → Bool} {held : Bool}
set_option maxRecDepth 8000 in
theorem add_add_flat {a : Addr} (h : a.spot = none) (n : Nat) : (a.add n) = ⟨a.block, a.off + n, none⟩ := by
  obtain ⟨b, o, s⟩ := a
  simp only at h
  subst h
  exact add_flat b o n
end
end Go.Proofs.YtjolojomgfcfbaaDoor
namespace Go.Proofs.YtjolojomgfcfbaaDoor
open Go.RowKit
/-- every block of w that is not in S lies in w' as it lay -/
structure Fr (S : Nat → Prop) (w w' : World) : Prop where
  os : w'.os = w.os
  tape : w'.tape = w.tape
  output : w'.output = w.output
  size : w.heap.size ≤ w'.heap.size
  block : ∀ k, k < w.heap.size → ¬ S k → w'.heap[k]? = w.heap[k]?
section
variable {S : Nat → Prop} {a b c w w' : World}
theorem Fr.refl (S : Nat → Prop) (w : World) : Fr S w w := ⟨rfl, rfl, rfl, Nat.le_refl _, fun _ _ _ => rfl⟩
theorem Fr.trans (h : Fr S a b) (k : Fr S b c) : Fr S a c :=
  ⟨k.os.trans h.os, k.tape.trans h.tape, k.output.trans h.output, Nat.le_trans h.size k.size, fun i hi hn => (k.block i (Nat.lt_of_lt_of_le hi h.size) hn).trans (h.block i hi hn)⟩
theorem Fr.then_ {T : Nat → Prop} (h : Fr S a b) (k : Fr T b c) (hT : ∀ i, i < a.heap.size → T i → S i) : Fr S a c :=
  ⟨k.os.trans h.os, k.tape.trans h.tape, k.output.trans h.output, Nat.le_trans h.size k.size, fun i hi hn => (k.block i (Nat.lt_of_lt_of_le hi h.size) (fun ht => hn (hT i hi ht))).trans (h.block i hi hn)⟩
theorem Fr.mono {T : Nat → Prop} (h : Fr S a b) (hT : ∀ i, i < a.heap.size → S i → T i) : Fr T a b := ⟨h.os, h.tape, h.output, h.size, fun i hi hn => h.block i hi (fun hs => hn (hT i hi hs))⟩
theorem Fr.of_below (h : Below w.heap.size w w') : Fr S w w' := ⟨h.os, h.tape, h.output, h.size, fun i hi _ => h.block i hi⟩
theorem Fr.below (h : Fr S a b) (k : Below b.heap.size b c) : Fr S a c := h.trans (Fr.of_below k)
theorem Fr.grown {row : Option Nat} (h : Fr S a b) (k : b.grownBy c row) (hr : ∀ i, row = some i → i < a.heap.size → S i) : Fr S a c :=
  ⟨k.os.trans h.os, k.tape.trans h.tape, k.output.trans h.output, Nat.le_trans h.size k.size, fun i hi hn => (k.block i (Nat.lt_of_lt_of_le hi h.size) (fun e => hn (hr i e.symm hi))).trans (h.block i hi hn)⟩
theorem Fr.alloc (h : Fr S a b) (o : Obj) : Fr S a (b.alloc o) := h.grown (World.grownBy_alloc b o none) (fun _ e => by cases e)
theorem Fr.setCell (h : Fr S a b) {p : Addr} (hp : p.block < a.heap.size → S p.block) (u : Value) : Fr S a (b.setCell p u) :=
  ⟨h.os, h.tape, h.output, by simpa [World.setCell] using h.size, fun i hi hn => (Below.heap_setCell b p u i (by rintro rfl; exact hn (hp hi))).trans (h.block i hi hn)⟩
theorem Fr.drew (h : Fr S a b) : Fr S a b.drew := ⟨h.os, h.tape, h.output, h.size, h.block⟩
theorem Fr.to_below {B : Nat} (h : Fr S a b) (hS : ∀ k, S k → B ≤ k) (hB : B ≤ a.heap.size) : Below B a b := ⟨h.os, h.tape, h.output, h.size, fun k hk => h.block k (Nat.lt_of_lt_of_le hk hB) (fun hs => by have := hS k hs; omega)⟩
theorem Fr.cell (h : Fr S a b) {p : Addr} (hp : p.block < a.heap.size) (hn : ¬ S p.block) : b.cell? p = a.cell? p := World.cell?_of_block (h.block p.block hp hn)
end
end Go.Proofs.YtjolojomgfcfbaaDoor
namespace Go.Proofs.YtjolojomgfcfbaaDoor
open Go.RowKit
instance : DecidableEq Ky := fun a b => decidable_of_iff (a.k = b.k ∧ a.o = b.o ∧ a.c = b.c ∧ a.l = b.l ∧ a.r = b.r ∧ a.v = b.v) ⟨fun ⟨h0, h1, h2, h3, h4, h5⟩ => by
  obtain ⟨k, o, c, l, r, v⟩ := a
  obtain ⟨k', o', c', l', r', v'⟩ := b
  simp only at h0 h1 h2 h3 h4 h5
  subst h0 h1 h2 h3 h4 h5
  rfl, fun h => by subst h; exact ⟨rfl, rfl, rfl, rfl, rfl, rfl⟩⟩
/-- a key's cells -/
def kl (x : Ky) : List Value := [.int .i64 x.k, .int .i64 x.o, .int .i64 x.c, .int .i64 x.l, .int .i64 x.r, .int .i64 x.v]
theorem kl_val (x : Ky) : x.val = .agg (kl x).toArray := rfl
/-- keys' cells -/
def kcs : List Ky → List Value
  | [] => []
  | x :: l => kl x ++ kcs l
set_option maxRecDepth 8000 in
theorem kcs_length (l : List Ky) : (kcs l).length = l.length * 6 := by
  induction l with
  | nil => rfl
  | cons x l ih => simp [kcs, kl, ih]; omega
theorem kcs_at : ∀ (l : List Ky) (i : Nat) (h : i < l.length), ((kcs l).drop (i * 6)).take 6 = kl l[i]
  | x :: l, 0, _ => by simp [kcs, kl]
  | x :: l, i + 1, h => by
    have := kcs_at l i (by simpa using h)
    rw [show (i + 1) * 6 = (kl x).length + i * 6 by simp [kl]; omega, kcs, List.drop_length_add_append, this]
    rfl
set_option maxRecDepth 8000 in
theorem kcs_get (l : List Ky) (i : Nat) (h : i < l.length) (j : Nat) (hj : j < 6) : (kcs l)[i * 6 + j]? = (kl l[i])[j]? := by
  rw [← kcs_at l i h, List.getElem?_take, if_pos hj, List.getElem?_drop]
set_option maxRecDepth 8000 in
theorem kcs_one (l : List Ky) : ∀ u ∈ kcs l, u.oneCell' = true := by
  induction l with
  | nil => intro u hu; cases hu
  | cons x l ih =>
    intro u hu
    rcases List.mem_append.1 hu with h | h
    · simp only [kl, List.mem_cons, List.not_mem_nil, or_false] at h
      rcases h with rfl | rfl | rfl | rfl | rfl | rfl <;> rfl
    · exact ih u h
/-- the void key -/
def zk : Ky := ⟨0, 0, 0, 0, 0, 0⟩
def zks : List Ky := List.replicate 16 zk
def zbs : List UInt8 := List.replicate 64 0
/-- an object -/
structure Oj where
  (k c l : Int)
  s : List Ky
  b : List UInt8
  hs : s.length = 16
  hb : b.length = 64
instance : DecidableEq Oj := fun a b => decidable_of_iff (a.k = b.k ∧ a.c = b.c ∧ a.l = b.l ∧ a.s = b.s ∧ a.b = b.b) ⟨fun ⟨h0, h1, h2, h3, h4⟩ => by
  obtain ⟨k, c, l, s, z, _, _⟩ := a
  obtain ⟨k', c', l', s', z', _, _⟩ := b
  simp only at h0 h1 h2 h3 h4
  subst h0 h1 h2 h3 h4
  rfl, fun h => by subst h; exact ⟨rfl, rfl, rfl, rfl, rfl⟩⟩
/-- its cells -/
def Oj.cells (o : Oj) : List Value := .int .i64 o.k :: .int .i64 o.c :: .int .i64 o.l :: (kcs o.s ++ bv o.b)
abbrev Oj.val (o : Oj) : Value := .agg o.cells.toArray
set_option maxRecDepth 8000 in
theorem Oj.len (o : Oj) : o.cells.length = 163 := by simp [Oj.cells, kcs_length, bv_length, o.hs, o.hb]
set_option maxRecDepth 8000 in
theorem Oj.one (o : Oj) : ∀ u ∈ o.cells, u.oneCell' = true := by
  intro u hu
  simp only [Oj.cells, List.mem_cons, List.mem_append] at hu
  rcases hu with rfl | rfl | rfl | h | h
  · rfl
  · rfl
  · rfl
  · exact kcs_one _ u h
  · exact bv_one _ u h
theorem Oj.allOne (o : Oj) : o.cells.toArray.all (·.oneCell') = true := all_oneCell_toArray o.one
/-- a free one -/
def oz : Oj := ⟨0, 0, 0, zks, zbs, rfl, rfl⟩
/-- an object lies in a block from off on -/
def ObAt (w : World) (g off : Nat) (o : Oj) : Prop := w.rangeAt g off o.cells
section
variable {w w' : World} {g off : Nat} {o : Oj}
theorem ObAt.lt (h : ObAt w g off o) : g < w.heap.size := cell_lt (h 0 _ rfl)
theorem ObAt.keep (h : ObAt w g off o) (hk : w'.heap[g]? = w.heap[g]?) : ObAt w' g off o := fun j v hv => (World.cell?_of_block (a := ⟨g, off + j, none⟩) hk).trans (h j v hv)
theorem ObAt.below (h : ObAt w g off o) (hb : Below w.heap.size w w') : ObAt w' g off o := h.keep (hb.block g h.lt)
theorem ObAt.alloc (h : ObAt w g off o) (u : Obj) : ObAt (w.alloc u) g off o := h.below ((Below.refl _ _).alloc (Nat.le_refl _) _)
theorem ObAt.drew (h : ObAt w g off o) : ObAt w.drew g off o := h
theorem ObAt.cells (h : ObAt w g off o) : w.cell? ⟨g, off, none⟩ = some (.int .i64 o.k) ∧ w.cell? ⟨g, off + 1, none⟩ = some (.int .i64 o.c) ∧ w.cell? ⟨g, off + 2, none⟩ = some (.int .i64 o.l) := ⟨h 0 _ rfl, h 1 _ rfl, h 2 _ rfl⟩
theorem ObAt.slots (h : ObAt w g off o) : w.rangeAt g (off + 3) (kcs o.s) := fun j v hv => by
  have hj := (List.getElem?_eq_some_iff.1 hv).1
  have := h (j + 3) v (by
    show (kcs o.s ++ bv o.b)[j]? = some v
    rw [List.getElem?_append_left hj, hv])
  rw [show off + 3 + j = off + (j + 3) by omega]
  exact this
set_option maxRecDepth 8000 in
theorem ObAt.bytes (h : ObAt w g off o) : w.rangeAt g (off + 99) (bv o.b) := fun j v hv => by
  have := h (j + 99) v (by
    show (kcs o.s ++ bv o.b)[j + 96]? = some v
    have hl : (kcs o.s).length = 96 := by rw [kcs_length, o.hs]
    rw [List.getElem?_append_right (by omega), hl, Nat.add_sub_cancel, hv])
  rw [show off + 99 + j = off + (j + 99) by omega]
  exact this
set_option maxRecDepth 8000 in
theorem key_of_range {l : List Ky} (h : w.rangeAt g off (kcs l)) (i : Nat) (hi : i < l.length) : KeyAt w g (off + i * 6) l[i] := by
  have e : ∀ j u, j < 6 → (kl l[i])[j]? = some u → w.cell? ⟨g, off + i * 6 + j, none⟩ = some u := fun j u hj hu => by
    rw [Nat.add_assoc]
    exact h _ _ ((kcs_get l i hi j hj).trans hu)
  exact ⟨e 0 _ (by decide) rfl, e 1 _ (by decide) rfl, e 2 _ (by decide) rfl, e 3 _ (by decide) rfl, e 4 _ (by decide) rfl, e 5 _ (by decide) rfl⟩
theorem byte_of_range {l : List UInt8} (h : w.rangeAt g off (bv l)) (i : Nat) (hi : i < l.length) : w.cell? ⟨g, off + i, none⟩ = some (.int .u8 ((l[i]).toNat : Int)) := h i _ (by rw [bv_get, List.getElem?_eq_getElem hi]; rfl)
end
theorem Blk.ob {w : World} {g : Nat} {t : TypeId} {o : Oj} (h : Blk w g t o.cells.toArray) : ObAt w g 0 o := fun j v hv => by
  rw [Nat.zero_add, h.cell]
  simpa using hv
theorem Blk.kx {w : World} {g : Nat} {t : TypeId} {l : List Ky} (h : Blk w g t (kcs l).toArray) : w.rangeAt g 0 (kcs l) := fun j v hv => by
  rw [Nat.zero_add, h.cell]
  simpa using hv
theorem Blk.range {w : World} {g : Nat} {t : TypeId} {l : List Value} (h : Blk w g t l.toArray) : w.rangeAt g 0 l := fun j v hv => by
  rw [Nat.zero_add, h.cell]
  simpa using hv
set_option maxRecDepth 8000 in
-- of the program
theorem size34 : (Tryd.prog.info? 33).map (·.size) = some 163 := by kernel_rfl
set_option maxRecDepth 8000 in
theorem size31 : (Tryd.prog.info? 30).map (·.size) = some 96 := by kernel_rfl
set_option maxRecDepth 8000 in
theorem size32 : (Tryd.prog.info? 31).map (·.size) = some 64 := by kernel_rfl
set_option maxRecDepth 8000 in
theorem size30 : (Tryd.prog.info? 29).map (·.size) = some 6 := by kernel_rfl
set_option maxRecDepth 8000 in
theorem zero34 : (Tryd.prog.info? 33).map (fun i => (i.zero, i.size)) = some (some oz.val, 163) := by kernel_rfl
theorem z34 (w : World) : (zeroValue 33).run Tryd.prog w = .ok oz.val w := (zero_of_info zero34).1 w
set_option maxRecDepth 8000 in
theorem built34 : Tryd.prog.built 33 [] = some oz.cells.toArray := by kernel_rfl
set_option maxRecDepth 8000 in
theorem built31 : Tryd.prog.built 30 [] = some (kcs zks).toArray := by kernel_rfl
set_option maxRecDepth 8000 in
theorem built32 : Tryd.prog.built 31 [] = some (bv zbs).toArray := by kernel_rfl
theorem oz_len : oz.cells.length = 163 := oz.len
section
variable {P : Program} {ops : Array Oper} {rest : List Oper} {o : Oper} {a : Act} {w : World} {Q : Exit → Act → World → Prop}
/-- what an operation yields in each world that meets S, guarded or not -/
theorem wpList_yields {S : World → Prop} {v : Value} (hy : YieldsIf P ops S o v a) (hS : S w) (h : wpList P ops Q rest (a.put o.dst v) w) : wpList P ops Q (o :: rest) a w :=
  wpList_step fun K hK => by
    rcases hy with ⟨hw, hrun⟩ | ⟨hw, rfl⟩
    · rw [if_pos hw]
      unfold Oper.wp
      rw [hrun w hS]
      exact hK _ _ h
    · rw [if_neg (by rw [hw]; decide)]
      exact hK _ _ h
end
section
variable {ops : Array Oper} {o : Oper} {a : Act} {S : World → Prop}
theorem y_ob (hw : Region.wanted o (yielded ops a.tmps) = true) (x : Operand) (ho : o.op = .load 33 x) (g off : Nat) (hx : a.eval x = .pointer (some ⟨g, off, none⟩)) (u : Oj) (hS : ∀ w, S w → ObAt w g off u) : YieldsIf Tryd.prog ops S o u.val a :=
  yieldsIf_load_mid hw 33 x ho g off hx u.cells _ hS Tryd.underlying33 rfl (by rw [u.len]; exact size34)
theorem y_ks (hw : Region.wanted o (yielded ops a.tmps) = true) (x : Operand) (ho : o.op = .load 30 x) (g off : Nat) (hx : a.eval x = .pointer (some ⟨g, off, none⟩)) (l : List Ky) (hl : l.length = 16) (hS : ∀ w, S w → w.rangeAt g off (kcs l)) : YieldsIf Tryd.prog ops S o (.agg (kcs l).toArray) a :=
  yieldsIf_load_mid hw 30 x ho g off hx (kcs l) _ hS Tryd.underlying30 rfl (by rw [kcs_length, hl]; exact size31)
theorem y_bs (hw : Region.wanted o (yielded ops a.tmps) = true) (x : Operand) (ho : o.op = .load 31 x) (g off : Nat) (hx : a.eval x = .pointer (some ⟨g, off, none⟩)) (l : List UInt8) (hl : l.length = 64) (hS : ∀ w, S w → w.rangeAt g off (bv l)) : YieldsIf Tryd.prog ops S o (.agg (bv l).toArray) a :=
  yieldsIf_load_mid hw 31 x ho g off hx (bv l) _ hS Tryd.underlying31 rfl (by rw [bv_length, hl]; exact size32)
theorem y_build {t : TypeId} {cs : Array Value} (hw : Region.wanted o (yielded ops a.tmps) = true) (ho : o.op = .build t #[]) (hb : Tryd.prog.built t [] = some cs) : YieldsIf Tryd.prog ops S o (.agg cs) a := .inl ⟨hw, fun w _ => by
  unfold execOp
  simp only [ho, Sem.run_bind]
  have := run_build w t #[] cs hb
  simp only [List.map_toArray, List.map_nil, this, Result.andThen_ok, Sem.run_pure]⟩
set_option maxRecDepth 8000 in
/-- an element of an array of keys -/
theorem part_key (l : List Ky) (i : Nat) (hi : i < l.length) (w : World) : (part 29 (kcs l).toArray (i * 6)).run Tryd.prog w = .ok l[i].val w := by
  have hu := Tryd.underlying29
  obtain ⟨inf, hq⟩ : ∃ inf, Tryd.prog.info? 29 = some inf := by
    cases h : Tryd.prog.info? 29 with
    | none => have := size30; simp [h] at this
    | some i => exact ⟨i, rfl⟩
  have hs : inf.size = 6 := by have := size30; simpa [hq] using this
  have e := kcs_at l i hi
  simp [part, isAgg, run_underlying hu, sizeOf, typeInfo, hq, hs, e, kl_val]
set_option maxRecDepth 8000 in
theorem y_index (hw : Region.wanted o (yielded ops a.tmps) = true) (x y : Operand) (ho : o.op = .index 30 x y) (l : List Ky) (hl : l.length = 16) (i : Nat) (hi : i < l.length) (hx : a.eval x = .agg (kcs l).toArray) (hy : a.eval y = .int .i64 (i : Int)) : YieldsIf Tryd.prog ops S o l[i].val a := .inl ⟨hw, fun w _ => by
  have hp := part_key l i hi w
  have hz : (sizeOf 29).run Tryd.prog w = .ok 6 w := by
    cases h : Tryd.prog.info? 29 with
    | none => have := size30; simp [h] at this
    | some i => have := size30; simp [h] at this; simp [sizeOf, typeInfo, h, this]
  have hlt : (i : Int) < 16 := by omega
  unfold execOp
  simp only [ho, hx, hy, Instr.index, asIntOf, Sem.run_bind, Sem.run_pure, Result.andThen_ok, run_underlying Tryd.underlying30]
  rw [if_pos (by omega)]
  simp only [Sem.run_bind, hz, Result.andThen_ok, Int.toNat_natCast, hp]⟩
end
end Go.Proofs.YtjolojomgfcfbaaDoor
namespace Go.Proofs.YtjolojomgfcfbaaDoor
open Go.RowKit
set_option maxRecDepth 8000 in
theorem eqb_iff (b : Bool) (P : Prop) [Decidable P] (h : b = true ↔ P) : b = decide P := by
  rw [Bool.eq_iff_iff, h]
  simp
section
variable (w : World)
set_option maxRecDepth 8000 in
theorem ob_eq8 (d : Nat) (a b : UInt8) : (Op.equalIn (d + 1) 5 (.int .u8 (a.toNat : Int)) (.int .u8 (b.toNat : Int))).run Tryd.prog w = .ok (a == b) w := by
  have e : (((a.toNat : Nat) : Int) == ((b.toNat : Nat) : Int)) = (a == b) := by
    rcases Decidable.em (a = b) with rfl | h
    · simp
    · have h2 : a.toNat ≠ b.toNat := fun e => h (UInt8.toNat_inj.1 e)
      have h3 : ((a.toNat : Nat) : Int) ≠ ((b.toNat : Nat) : Int) := by omega
      rw [beq_eq_false_iff_ne.2 h, beq_eq_false_iff_ne.2 h3]
  simp [Op.equalIn, run_underlying Tryd.underlying5, e]
set_option maxRecDepth 8000 in
theorem ob_part8 (l : List UInt8) (i : Nat) (hi : i < l.length) : (part 5 (bv l).toArray i).run Tryd.prog w = .ok (.int .u8 ((l[i]'hi).toNat : Int)) w := by
  have hg : (bv l).toArray[i]? = some (.int .u8 ((l[i]'hi).toNat : Int)) := by
    simp [bv, hi]
  exact run_part_plain w (by kernel_rfl) hg
set_option maxRecDepth 8000 in
theorem ob_items8 (d : Nat) (l l' : List UInt8) : ∀ is : List Nat, (∀ i ∈ is, i < l.length ∧ i < l'.length) →
    (Op.eqItems (d + 1) 5 1 (bv l).toArray (bv l').toArray is).run Tryd.prog w = .ok (is.all fun i => l[i]? == l'[i]?) w
  | [], _ => by simp [Op.eqItems]
  | i :: is, h => by
    obtain ⟨h1, h2⟩ := h i (by simp)
    simp only [Op.eqItems, Sem.run_bind, Nat.mul_one, ob_part8 w l i h1, ob_part8 w l' i h2, Result.andThen_ok, ob_eq8]
    have e : ((l[i]? == l'[i]?) : Bool) = (l[i] == l'[i]) := by simp [h1, h2]
    rw [List.all_cons, e]
    cases hq : (l[i] == l'[i]) with
    | false => simp
    | true => simpa using ob_items8 d l l' is (fun j hj => h j (by simp [hj]))
set_option maxRecDepth 8000 in
theorem all_range_of {α : Type} [DecidableEq α] (l l' : List α) (n : Nat) (h : l.length = n) (h' : l'.length = n) : ((List.range n).all fun i => l[i]? == l'[i]?) = decide (l = l') := by
  refine eqb_iff _ _ ⟨fun hall => List.ext_getElem? (fun i => ?_), fun e => by subst e; simp⟩
  rcases Nat.lt_or_ge i n with hi | hi
  · have := List.all_eq_true.1 hall i (List.mem_range.2 hi)
    simpa using this
  · rw [List.getElem?_eq_none (by omega), List.getElem?_eq_none (by omega)]
set_option maxRecDepth 8000 in
theorem info_some {t : TypeId} {n : Nat} (h : (Tryd.prog.info? t).map (·.size) = some n) : ∃ i, Tryd.prog.info? t = some i := by
  cases h' : Tryd.prog.info? t with
  | none => simp [h'] at h
  | some i => exact ⟨i, rfl⟩
set_option maxRecDepth 8000 in
theorem size8 : (Tryd.prog.info? 5).map (·.size) = some 1 := by kernel_rfl
set_option maxRecDepth 8000 in
theorem bytes_equalIn (d : Nat) (l l' : List UInt8) (h : l.length = 64) (h' : l'.length = 64) : (Op.equalIn (d + 2) 31 (.agg (bv l).toArray) (.agg (bv l').toArray)).run Tryd.prog w = .ok (decide (l = l')) w := by
  obtain ⟨i, hi⟩ := info_some size8
  have hc : Tryd.prog.cellsOf 5 = 1 := by kernel_rfl
  rw [show d + 2 = (d + 1) + 1 from rfl, run_equalIn_array w (d + 1) _ _ Tryd.underlying31 hi, hc, ob_items8 w d l l' _ (fun j hj => by have := List.mem_range.1 hj; omega), all_range_of l l' 64 h h']
set_option maxRecDepth 8000 in
theorem bytes_neq (l l' : List UInt8) (h : l.length = 64) (h' : l'.length = 64) : (binOp .neq 31 (.agg (bv l).toArray) (.agg (bv l').toArray)).run Tryd.prog w = .ok (.bool (!decide (l = l'))) w := by
  rw [run_neq_struct, bytes_equalIn w 9998 l l' h h']
  rfl
set_option maxRecDepth 8000 in
-- keys
theorem ob_keyFields (d : Nat) (k o c l r v k' o' c' l' r' v' : Int) :
    (Op.eqFields (d + 1) (kc k o c l r v) (kc k' o' c' l' r' v') (Tryd.prog.fieldsOf 29).toList).run Tryd.prog w =
      .ok (decide (k = k') && (decide (o = o') && (decide (c = c') && (decide (l = l') && (decide (r = r') && (decide (v = v') && true)))))) w := by
  have hf := fields25
  generalize (Tryd.prog.fieldsOf 29).toList = fs at hf ⊢
  have hl : fs.length = 6 := by have := congrArg List.length hf; simpa using this
  match fs, hl, hf with
  | [f0, f1, f2, f3, f4, f5], _, hf =>
    simp only [List.map_cons, List.map_nil, List.cons.injEq, Prod.mk.injEq, and_true] at hf
    obtain ⟨⟨n0, t0, o0⟩, ⟨n1, t1, o1⟩, ⟨n2, t2, o2⟩, ⟨n3, t3, o3⟩, ⟨n4, t4, o4⟩, ⟨n5, t5, o5⟩⟩ := hf
    exact eq_head w f0 _ n0 t0 o0 Tryd.underlying27 (fun w => run_part_plain w (by kernel_rfl) rfl) (fun w => run_part_plain w (by kernel_rfl) rfl) _ fun _ =>
      eq_head w f1 _ n1 t1 o1 Tryd.underlying3 (fun w => run_part_plain w (by kernel_rfl) rfl) (fun w => run_part_plain w (by kernel_rfl) rfl) _ fun _ =>
      eq_head w f2 _ n2 t2 o2 Tryd.underlying2 (fun w => run_part_plain w (by kernel_rfl) rfl) (fun w => run_part_plain w (by kernel_rfl) rfl) _ fun _ =>
      eq_head w f3 _ n3 t3 o3 Tryd.underlying2 (fun w => run_part_plain w (by kernel_rfl) rfl) (fun w => run_part_plain w (by kernel_rfl) rfl) _ fun _ =>
      eq_head w f4 _ n4 t4 o4 Tryd.underlying22 (fun w => run_part_plain w (by kernel_rfl) rfl) (fun w => run_part_plain w (by kernel_rfl) rfl) _ fun _ =>
      eq_head w f5 _ n5 t5 o5 Tryd.underlying2 (fun w => run_part_plain w (by kernel_rfl) rfl) (fun w => run_part_plain w (by kernel_rfl) rfl) _ fun _ => eqFields_nil _ _ _ w
set_option maxRecDepth 8000 in
theorem ky_eqb (x y : Ky) : (decide (x.k = y.k) && (decide (x.o = y.o) && (decide (x.c = y.c) && (decide (x.l = y.l) && (decide (x.r = y.r) && (decide (x.v = y.v) && true)))))) = decide (x = y) := by
  obtain ⟨k, o, c, l, r, v⟩ := x
  obtain ⟨k', o', c', l', r', v'⟩ := y
  rw [Bool.eq_iff_iff]
  simp
set_option maxRecDepth 8000 in
theorem key_equalIn (d : Nat) (x y : Ky) : (Op.equalIn (d + 2) 29 x.val y.val).run Tryd.prog w = .ok (decide (x = y)) w := by
  rw [run_equalIn_agg w (d + 1) 29 _ _ (by kernel_rfl) (by kernel_rfl), ob_keyFields, ky_eqb]
set_option maxRecDepth 8000 in
theorem ky_eql (x y : Ky) : (binOp .eql 29 x.val y.val).run Tryd.prog w = .ok (.bool (decide (x = y))) w := by
  rw [run_eql_struct, key_equalIn w 9998 x y]
  rfl
set_option maxRecDepth 8000 in
theorem ky_neq (x y : Ky) : (binOp .neq 29 x.val y.val).run Tryd.prog w = .ok (.bool (!decide (x = y))) w := by
  rw [run_neq_struct, key_equalIn w 9998 x y]
  rfl
set_option maxRecDepth 8000 in
theorem ob_itemsK (d : Nat) (l l' : List Ky) : ∀ is : List Nat, (∀ i ∈ is, i < l.length ∧ i < l'.length) →
    (Op.eqItems (d + 2) 29 6 (kcs l).toArray (kcs l').toArray is).run Tryd.prog w = .ok (is.all fun i => l[i]? == l'[i]?) w
  | [], _ => by simp [Op.eqItems]
  | i :: is, h => by
    obtain ⟨h1, h2⟩ := h i (by simp)
    simp only [Op.eqItems, Sem.run_bind, part_key l i h1, part_key l' i h2, Result.andThen_ok, key_equalIn]
    have e : ((l[i]? == l'[i]?) : Bool) = decide (l[i] = l'[i]) := by
      rw [Bool.eq_iff_iff]
      simp [h1, h2]
    rw [List.all_cons, e]
    cases hq : decide (l[i] = l'[i]) with
    | false => simp
    | true => simpa using ob_itemsK d l l' is (fun j hj => h j (by simp [hj]))
set_option maxRecDepth 8000 in
theorem keys_equalIn (d : Nat) (l l' : List Ky) (h : l.length = 16) (h' : l'.length = 16) : (Op.equalIn (d + 3) 30 (.agg (kcs l).toArray) (.agg (kcs l').toArray)).run Tryd.prog w = .ok (decide (l = l')) w := by
  obtain ⟨i, hi⟩ := info_some size30
  have hc : Tryd.prog.cellsOf 29 = 6 := by kernel_rfl
  rw [show d + 3 = (d + 2) + 1 from rfl, run_equalIn_array w (d + 2) _ _ Tryd.underlying30 hi, hc, ob_itemsK w d l l' _ (fun j hj => by have := List.mem_range.1 hj; omega), all_range_of l l' 16 h h']
set_option maxRecDepth 8000 in
theorem keys_eql (l l' : List Ky) (h : l.length = 16) (h' : l'.length = 16) : (binOp .eql 30 (.agg (kcs l).toArray) (.agg (kcs l').toArray)).run Tryd.prog w = .ok (.bool (decide (l = l'))) w := by
  rw [run_eql_struct, keys_equalIn w 9997 l l' h h']
  rfl
-- objects
end
section
variable {ops : Array Oper} {o : Oper} {a : Act} {S : World → Prop} {p q : Operand}
theorem y_bin {t : TypeId} {bo : BinOp} {xs ys : Array Value} {v : Value} (hw : Region.wanted o (yielded ops a.tmps) = true) (ho : o.op = .binOp bo t p q t) (hx : a.eval p = .agg xs) (hy : a.eval q = .agg ys) (hm : Tryd.prog.eqGuardType Tryd.prog.depth t = false) (h : ∀ w, (binOp bo t (.agg xs) (.agg ys)).run Tryd.prog w = .ok v w) : YieldsIf Tryd.prog ops S o v a :=
  .inl ⟨hw, fun w _ => by
    unfold execOp
    simp only [ho, hx, hy, Sem.run_bind, run_eqGuard_agg (P := Tryd.prog) w bo t p q xs ys hm, h, Result.andThen_ok, Sem.run_pure]⟩
theorem y_kyeq (hw : Region.wanted o (yielded ops a.tmps) = true) (ho : o.op = .binOp .eql 29 p q 29) (x y : Ky) (hx : a.eval p = x.val) (hy : a.eval q = y.val) : YieldsIf Tryd.prog ops S o (.bool (decide (x = y))) a := y_bin hw ho hx hy (by kernel_rfl) (fun w => ky_eql w x y)
theorem y_kyne (hw : Region.wanted o (yielded ops a.tmps) = true) (ho : o.op = .binOp .neq 29 p q 29) (x y : Ky) (hx : a.eval p = x.val) (hy : a.eval q = y.val) : YieldsIf Tryd.prog ops S o (.bool (!decide (x = y))) a := y_bin hw ho hx hy (by kernel_rfl) (fun w => ky_neq w x y)
theorem y_kseq (hw : Region.wanted o (yielded ops a.tmps) = true) (ho : o.op = .binOp .eql 30 p q 30) (x y : List Ky) (hl : x.length = 16) (hl' : y.length = 16) (hx : a.eval p = .agg (kcs x).toArray) (hy : a.eval q = .agg (kcs y).toArray) : YieldsIf Tryd.prog ops S o (.bool (decide (x = y))) a := y_bin hw ho hx hy (by kernel_rfl) (fun w => keys_eql w x y hl hl')
theorem y_bsne (hw : Region.wanted o (yielded ops a.tmps) = true) (ho : o.op = .binOp .neq 31 p q 31) (x y : List UInt8) (hl : x.length = 64) (hl' : y.length = 64) (hx : a.eval p = .agg (bv x).toArray) (hy : a.eval q = .agg (bv y).toArray) : YieldsIf Tryd.prog ops S o (.bool (!decide (x = y))) a := y_bin hw ho hx hy (by kernel_rfl) (fun w => bytes_neq w x y hl hl')
end
end Go.Proofs.YtjolojomgfcfbaaDoor

/- objects: an object, whole, as it lies: words. -/
import Derived.Test.YtlhlgfehbfankaaDoorKSl
import Derived.Test.YtlhlgfehbfankaaDoorFr
import Derived.Deep.MidRow
import Derived.Deep.WholeRow
import Derived.Laws.Tables
namespace Go.Proofs.YtlhlgfehbfankaaDoor
open Go.RowKit
instance : DecidableEq Ky := fun a b => decidable_of_iff (a.k = b.k ∧ a.o = b.o ∧ a.c = b.c ∧ a.l = b.l ∧ a.r = b.r ∧ a.v = b.v) ⟨fun ⟨h0, h1, h2, h3, h4, h5⟩ => by
  obtain ⟨k, o, c, l, r, v⟩ := a
  obtain ⟨k', o', c', l', r', v'⟩ := b
  simp only at h0 h1 h2 h3 h4 h5
  subst h0 h1 h2 h3 h4 h5
  rfl, fun h => by subst h; exact ⟨rfl, rfl, rfl, rfl, rfl, rfl⟩⟩
/-- a key's cells -/
def kl (x : Ky) : List Value := [.int .i64 x.k, .int .i64 x.o, .int .i64 x.c, .int .i64 x.l, .int .i64 x.r, .int .i64 x.v]
theorem kl_val (x : Ky) : x.val = .agg (kl x).toArray := rfl
/-- keys' cells -/
def kcs : List Ky → List Value
  | [] => []
  | x :: l => kl x ++ kcs l
theorem kcs_length (l : List Ky) : (kcs l).length = l.length * 6 := by
  induction l with
  | nil => rfl
  | cons x l ih => simp [kcs, kl, ih]; omega
theorem kcs_at : ∀ (l : List Ky) (i : Nat) (h : i < l.length), ((kcs l).drop (i * 6)).take 6 = kl l[i]
  | x :: l, 0, _ => by simp [kcs, kl]
  | x :: l, i + 1, h => by
    have := kcs_at l i (by simpa using h)
    rw [show (i + 1) * 6 = (kl x).length + i * 6 by simp [kl]; omega, kcs, List.drop_length_add_append, this]
    rfl
theorem kcs_get (l : List Ky) (i : Nat) (h : i < l.length) (j : Nat) (hj : j < 6) : (kcs l)[i * 6 + j]? = (kl l[i])[j]? := by
  rw [← kcs_at l i h, List.getElem?_take, if_pos hj, List.getElem?_drop]
theorem kcs_one (l : List Ky) : ∀ u ∈ kcs l, u.oneCell' = true := by
  induction l with
  | nil => intro u hu; cases hu
  | cons x l ih =>
    intro u hu
    rcases List.mem_append.1 hu with h | h
    · simp only [kl, List.mem_cons, List.not_mem_nil, or_false] at h
      rcases h with rfl | rfl | rfl | rfl | rfl | rfl <;> rfl
    · exact ih u h
/-- the void key -/
def zk : Ky := ⟨0, 0, 0, 0, 0, 0⟩
def zks : List Ky := List.replicate 16 zk
def zbs : List UInt8 := List.replicate 64 0
/-- an object -/
structure Oj where
  (k c l : Int)
  s : List Ky
  b : List UInt8
  hs : s.length = 16
  hb : b.length = 64
instance : DecidableEq Oj := fun a b => decidable_of_iff (a.k = b.k ∧ a.c = b.c ∧ a.l = b.l ∧ a.s = b.s ∧ a.b = b.b) ⟨fun ⟨h0, h1, h2, h3, h4⟩ => by
  obtain ⟨k, c, l, s, z, _, _⟩ := a
  obtain ⟨k', c', l', s', z', _, _⟩ := b
  simp only at h0 h1 h2 h3 h4
  subst h0 h1 h2 h3 h4
  rfl, fun h => by subst h; exact ⟨rfl, rfl, rfl, rfl, rfl⟩⟩
/-- its cells -/
def Oj.cells (o : Oj) : List Value := .int .i64 o.k :: .int .i64 o.c :: .int .i64 o.l :: (kcs o.s ++ bv o.b)
abbrev Oj.val (o : Oj) : Value := .agg o.cells.toArray
theorem Oj.len (o : Oj) : o.cells.length = 163 := by simp [Oj.cells, kcs_length, bv_length, o.hs, o.hb]
theorem Oj.one (o : Oj) : ∀ u ∈ o.cells, u.oneCell' = true := by
  intro u hu
  simp only [Oj.cells, List.mem_cons, List.mem_append] at hu
  rcases hu with rfl | rfl | rfl | h | h
  · rfl
  · rfl
  · rfl
  · exact kcs_one _ u h
  · exact bv_one _ u h
theorem Oj.allOne (o : Oj) : o.cells.toArray.all (·.oneCell') = true := all_oneCell_toArray o.one
/-- a free one -/
def oz : Oj := ⟨0, 0, 0, zks, zbs, rfl, rfl⟩
/-- an object lies in a block from off on -/
def ObAt (w : World) (g off : Nat) (o : Oj) : Prop := w.rangeAt g off o.cells
section
variable {w w' : World} {g off : Nat} {o : Oj}
theorem ObAt.lt (h : ObAt w g off o) : g < w.heap.size := cell_lt (h 0 _ rfl)
theorem ObAt.keep (h : ObAt w g off o) (hk : w'.heap[g]? = w.heap[g]?) : ObAt w' g off o := fun j v hv => (World.cell?_of_block (a := ⟨g, off + j, none⟩) hk).trans (h j v hv)
theorem ObAt.below (h : ObAt w g off o) (hb : Below w.heap.size w w') : ObAt w' g off o := h.keep (hb.block g h.lt)
theorem ObAt.alloc (h : ObAt w g off o) (u : Obj) : ObAt (w.alloc u) g off o := h.below ((Below.refl _ _).alloc (Nat.le_refl _) _)
theorem ObAt.drew (h : ObAt w g off o) : ObAt w.drew g off o := h
theorem ObAt.cells (h : ObAt w g off o) : w.cell? ⟨g, off, none⟩ = some (.int .i64 o.k) ∧ w.cell? ⟨g, off + 1, none⟩ = some (.int .i64 o.c) ∧ w.cell? ⟨g, off + 2, none⟩ = some (.int .i64 o.l) := ⟨h 0 _ rfl, h 1 _ rfl, h 2 _ rfl⟩
theorem ObAt.slots (h : ObAt w g off o) : w.rangeAt g (off + 3) (kcs o.s) := fun j v hv => by
  have hj := (List.getElem?_eq_some_iff.1 hv).1
  have := h (j + 3) v (by
    show (kcs o.s ++ bv o.b)[j]? = some v
    rw [List.getElem?_append_left hj, hv])
  rw [show off + 3 + j = off + (j + 3) by omega]
  exact this
theorem ObAt.bytes (h : ObAt w g off o) : w.rangeAt g (off + 99) (bv o.b) := fun j v hv => by
  have := h (j + 99) v (by
    show (kcs o.s ++ bv o.b)[j + 96]? = some v
    have hl : (kcs o.s).length = 96 := by rw [kcs_length, o.hs]
    rw [List.getElem?_append_right (by omega), hl, Nat.add_sub_cancel, hv])
  rw [show off + 99 + j = off + (j + 99) by omega]
  exact this
theorem key_of_range {l : List Ky} (h : w.rangeAt g off (kcs l)) (i : Nat) (hi : i < l.length) : KeyAt w g (off + i * 6) l[i] := by
  have e : ∀ j u, j < 6 → (kl l[i])[j]? = some u → w.cell? ⟨g, off + i * 6 + j, none⟩ = some u := fun j u hj hu => by
    rw [Nat.add_assoc]
    exact h _ _ ((kcs_get l i hi j hj).trans hu)
  exact ⟨e 0 _ (by decide) rfl, e 1 _ (by decide) rfl, e 2 _ (by decide) rfl, e 3 _ (by decide) rfl, e 4 _ (by decide) rfl, e 5 _ (by decide) rfl⟩
theorem byte_of_range {l : List UInt8} (h : w.rangeAt g off (bv l)) (i : Nat) (hi : i < l.length) : w.cell? ⟨g, off + i, none⟩ = some (.int .u8 ((l[i]).toNat : Int)) := h i _ (by rw [bv_get, List.getElem?_eq_getElem hi]; rfl)
end
theorem Blk.ob {w : World} {g : Nat} {t : TypeId} {o : Oj} (h : Blk w g t o.cells.toArray) : ObAt w g 0 o := fun j v hv => by
  rw [Nat.zero_add, h.cell]
  simpa using hv
theorem Blk.kx {w : World} {g : Nat} {t : TypeId} {l : List Ky} (h : Blk w g t (kcs l).toArray) : w.rangeAt g 0 (kcs l) := fun j v hv => by
  rw [Nat.zero_add, h.cell]
  simpa using hv
theorem Blk.range {w : World} {g : Nat} {t : TypeId} {l : List Value} (h : Blk w g t l.toArray) : w.rangeAt g 0 l := fun j v hv => by
  rw [Nat.zero_add, h.cell]
  simpa using hv
-- of the program
theorem size34 : (Tryd.prog.info? 34).map (·.size) = some 163 := by kernel_rfl
theorem size31 : (Tryd.prog.info? 31).map (·.size) = some 96 := by kernel_rfl
theorem size32 : (Tryd.prog.info? 32).map (·.size) = some 64 := by kernel_rfl
theorem size30 : (Tryd.prog.info? 30).map (·.size) = some 6 := by kernel_rfl
theorem zero34 : (Tryd.prog.info? 34).map (fun i => (i.zero, i.size)) = some (some oz.val, 163) := by kernel_rfl
theorem z34 (w : World) : (zeroValue 34).run Tryd.prog w = .ok oz.val w := (zero_of_info zero34).1 w
theorem built34 : Tryd.prog.built 34 [] = some oz.cells.toArray := by kernel_rfl
theorem built31 : Tryd.prog.built 31 [] = some (kcs zks).toArray := by kernel_rfl
theorem built32 : Tryd.prog.built 32 [] = some (bv zbs).toArray := by kernel_rfl
theorem oz_len : oz.cells.length = 163 := oz.len
section
variable {P : Program} {ops : Array Oper} {rest : List Oper} {o : Oper} {a : Act} {w : World} {Q : Exit → Act → World → Prop}
/-- what an operation yields in each world that meets S, guarded or not -/
theorem wpList_yields {S : World → Prop} {v : Value} (hy : YieldsIf P ops S o v a) (hS : S w) (h : wpList P ops Q rest (a.put o.dst v) w) : wpList P ops Q (o :: rest) a w :=
  wpList_step fun K hK => by
    rcases hy with ⟨hw, hrun⟩ | ⟨hw, rfl⟩
    · rw [if_pos hw]
      unfold Oper.wp
      rw [hrun w hS]
      exact hK _ _ h
    · rw [if_neg (by rw [hw]; decide)]
      exact hK _ _ h
end
section
variable {ops : Array Oper} {o : Oper} {a : Act} {S : World → Prop}
theorem y_ob (hw : Region.wanted o (yielded ops a.tmps) = true) (x : Operand) (ho : o.op = .load 34 x) (g off : Nat) (hx : a.eval x = .pointer (some ⟨g, off, none⟩)) (u : Oj) (hS : ∀ w, S w → ObAt w g off u) : YieldsIf Tryd.prog ops S o u.val a :=
  yieldsIf_load_mid hw 34 x ho g off hx u.cells _ hS Tryd.underlying34 rfl (by rw [u.len]; exact size34)
theorem y_ks (hw : Region.wanted o (yielded ops a.tmps) = true) (x : Operand) (ho : o.op = .load 31 x) (g off : Nat) (hx : a.eval x = .pointer (some ⟨g, off, none⟩)) (l : List Ky) (hl : l.length = 16) (hS : ∀ w, S w → w.rangeAt g off (kcs l)) : YieldsIf Tryd.prog ops S o (.agg (kcs l).toArray) a :=
  yieldsIf_load_mid hw 31 x ho g off hx (kcs l) _ hS Tryd.underlying31 rfl (by rw [kcs_length, hl]; exact size31)
theorem y_bs (hw : Region.wanted o (yielded ops a.tmps) = true) (x : Operand) (ho : o.op = .load 32 x) (g off : Nat) (hx : a.eval x = .pointer (some ⟨g, off, none⟩)) (l : List UInt8) (hl : l.length = 64) (hS : ∀ w, S w → w.rangeAt g off (bv l)) : YieldsIf Tryd.prog ops S o (.agg (bv l).toArray) a :=
  yieldsIf_load_mid hw 32 x ho g off hx (bv l) _ hS Tryd.underlying32 rfl (by rw [bv_length, hl]; exact size32)
theorem y_build {t : TypeId} {cs : Array Value} (hw : Region.wanted o (yielded ops a.tmps) = true) (ho : o.op = .build t #[]) (hb : Tryd.prog.built t [] = some cs) : YieldsIf Tryd.prog ops S o (.agg cs) a := .inl ⟨hw, fun w _ => by
  unfold execOp
  simp only [ho, Sem.run_bind]
  have := run_build w t #[] cs hb
  simp only [List.map_toArray, List.map_nil, this, Result.andThen_ok, Sem.run_pure]⟩
/-- an element of an array of keys -/
theorem part_key (l : List Ky) (i : Nat) (hi : i < l.length) (w : World) : (part 30 (kcs l).toArray (i * 6)).run Tryd.prog w = .ok l[i].val w := by
  have hu := Tryd.underlying30
  obtain ⟨inf, hq⟩ : ∃ inf, Tryd.prog.info? 30 = some inf := by
    cases h : Tryd.prog.info? 30 with
    | none => have := size30; simp [h] at this
    | some i => exact ⟨i, rfl⟩
  have hs : inf.size = 6 := by have := size30; simpa [hq] using this
  have e := kcs_at l i hi
  simp [part, isAgg, run_underlying hu, sizeOf, typeInfo, hq, hs, e, kl_val]
theorem y_index (hw : Region.wanted o (yielded ops a.tmps) = true) (x y : Operand) (ho : o.op = .index 31 x y) (l : List Ky) (hl : l.length = 16) (i : Nat) (hi : i < l.length) (hx : a.eval x = .agg (kcs l).toArray) (hy : a.eval y = .int .i64 (i : Int)) : YieldsIf Tryd.prog ops S o l[i].val a := .inl ⟨hw, fun w _ => by
  have hp := part_key l i hi w
  have hz : (sizeOf 30).run Tryd.prog w = .ok 6 w := by
    cases h : Tryd.prog.info? 30 with
    | none => have := size30; simp [h] at this
    | some i => have := size30; simp [h] at this; simp [sizeOf, typeInfo, h, this]
  have hlt : (i : Int) < 16 := by omega
  unfold execOp
  simp only [ho, hx, hy, Instr.index, asIntOf, Sem.run_bind, Sem.run_pure, Result.andThen_ok, run_underlying Tryd.underlying31]
  rw [if_pos (by omega)]
  simp only [Sem.run_bind, hz, Result.andThen_ok, Int.toNat_natCast, hp]⟩
end
end Go.Proofs.YtlhlgfehbfankaaDoor

/- objects: an object, whole, as it lies: words. -/
import Derived.Test.YtogkdhpnbpgheaaGreatDoorR05
import Derived.Deep.MidRow
import Derived.Deep.WholeRow
import Derived.Laws.Tables
namespace Go.Proofs.YtogkdhpnbpgheaaGreatDoor
open Go.RowKit
instance : DecidableEq Ky := fun a b => decidable_of_iff (a.k = b.k ∧ a.o = b.o ∧ a.c = b.c ∧ a.l = b.l ∧ a.r = b.r ∧ a.v = b.v) ⟨fun ⟨h0, h1, h2, h3, h4, h5⟩ => by
  obtain ⟨k, o, c, l, r, v⟩ := a
  obtain ⟨k', o', c', l', r', v'⟩ := b
  simp only at h0 h1 h2 h3 h4 h5
  subst h0 h1 h2 h3 h4 h5
  rfl, fun h => by subst h; exact ⟨rfl, rfl, rfl, rfl, rfl, rfl⟩⟩
/-- a key's cells -/
def kl (x : Ky) : List Value := [.int .i64 x.k, .int .i64 x.o, .int .i64 x.c, .int .i64 x.l, .int .i64 x.r, .int .i64 x.v]
theorem kl_val (x : Ky) : x.val = .agg (kl x).toArray := rfl
/-- keys' cells -/
def kcs : List Ky → List Value
  | [] => []
  | x :: l => kl x ++ kcs l
set_option maxRecDepth 8000 in
theorem kcs_length (l : List Ky) : (kcs l).length = l.length * 6 := by
  induction l with
  | nil => rfl
  | cons x l ih => simp [kcs, kl, ih]; omega
theorem kcs_at : ∀ (l : List Ky) (i : Nat) (h : i < l.length), ((kcs l).drop (i * 6)).take 6 = kl l[i]
  | x :: l, 0, _ => by simp [kcs, kl]
  | x :: l, i + 1, h => by
    have := kcs_at l i (by simpa using h)
    rw [show (i + 1) * 6 = (kl x).length + i * 6 by simp [kl]; omega, kcs, List.drop_length_add_append, this]
    rfl
set_option maxRecDepth 8000 in
theorem kcs_get (l : List Ky) (i : Nat) (h : i < l.length) (j : Nat) (hj : j < 6) : (kcs l)[i * 6 + j]? = (kl l[i])[j]? := by
  rw [← kcs_at l i h, List.getElem?_take, if_pos hj, List.getElem?_drop]
set_option maxRecDepth 8000 in
theorem kcs_one (l : List Ky) : ∀ u ∈ kcs l, u.oneCell' = true := by
  induction l with
  | nil => intro u hu; cases hu
  | cons x l ih =>
    intro u hu
    rcases List.mem_append.1 hu with h | h
    · simp only [kl, List.mem_cons, List.not_mem_nil, or_false] at h
      rcases h with rfl | rfl | rfl | rfl | rfl | rfl <;> rfl
    · exact ih u h
/-- the void key -/
def zk : Ky := ⟨0, 0, 0, 0, 0, 0⟩
def zks : List Ky := List.replicate 16 zk
def zbs : List UInt8 := List.replicate 64 0
/-- an object -/
structure Oj where
  (k c l : Int)
  s : List Ky
  b : List UInt8
  hs : s.length = 16
  hb : b.length = 64
instance : DecidableEq Oj := fun a b => decidable_of_iff (a.k = b.k ∧ a.c = b.c ∧ a.l = b.l ∧ a.s = b.s ∧ a.b = b.b) ⟨fun ⟨h0, h1, h2, h3, h4⟩ => by
  obtain ⟨k, c, l, s, z, _, _⟩ := a
  obtain ⟨k', c', l', s', z', _, _⟩ := b
  simp only at h0 h1 h2 h3 h4
  subst h0 h1 h2 h3 h4
  rfl, fun h => by subst h; exact ⟨rfl, rfl, rfl, rfl, rfl⟩⟩
/-- its cells -/
def Oj.cells (o : Oj) : List Value := .int .i64 o.k :: .int .i64 o.c :: .int .i64 o.l :: (kcs o.s ++ bv o.b)
abbrev Oj.val (o : Oj) : Value := .agg o.cells.toArray
set_option maxRecDepth 8000 in
theorem Oj.len (o : Oj) : o.cells.length = 163 := by simp [Oj.cells, kcs_length, bv_length, o.hs, o.hb]
set_option maxRecDepth 8000 in
theorem Oj.one (o : Oj) : ∀ u ∈ o.cells, u.oneCell' = true := by
  intro u hu
  simp only [Oj.cells, List.mem_cons, List.mem_append] at hu
  rcases hu with rfl | rfl | rfl | h | h
  · rfl
  · rfl
  · rfl
  · exact kcs_one _ u h
  · exact bv_one _ u h
theorem Oj.allOne (o : Oj) : o.cells.toArray.all (·.oneCell') = true := all_oneCell_toArray o.one
/-- a free one -/
def oz : Oj := ⟨0, 0, 0, zks, zbs, rfl, rfl⟩
/-- an object lies in a block from off on -/
def ObAt (w : World) (g off : Nat) (o : Oj) : Prop := w.rangeAt g off o.cells
section
variable {w w' : World} {g off : Nat} {o : Oj}
theorem ObAt.lt (h : ObAt w g off o) : g < w.heap.size := cell_lt (h 0 _ rfl)
theorem ObAt.keep (h : ObAt w g off o) (hk : w'.heap[g]? = w.heap[g]?) : ObAt w' g off o := fun j v hv => (World.cell?_of_block (a := ⟨g, off + j, none⟩) hk).trans (h j v hv)
theorem ObAt.below (h : ObAt w g off o) (hb : Below w.heap.size w w') : ObAt w' g off o := h.keep (hb.block g h.lt)
theorem ObAt.alloc (h : ObAt w g off o) (u : Obj) : ObAt (w.alloc u) g off o := h.below ((Below.refl _ _).alloc (Nat.le_refl _) _)
theorem ObAt.drew (h : ObAt w g off o) : ObAt w.drew g off o := h
theorem ObAt.cells (h : ObAt w g off o) : w.cell? ⟨g, off, none⟩ = some (.int .i64 o.k) ∧ w.cell? ⟨g, off + 1, none⟩ = some (.int .i64 o.c) ∧ w.cell? ⟨g, off + 2, none⟩ = some (.int .i64 o.l) := ⟨h 0 _ rfl, h 1 _ rfl, h 2 _ rfl⟩
theorem ObAt.slots (h : ObAt w g off o) : w.rangeAt g (off + 3) (kcs o.s) := fun j v hv => by
  have hj := (List.getElem?_eq_some_iff.1 hv).1
  have := h (j + 3) v (by
    show (kcs o.s ++ bv o.b)[j]? = some v
    rw [List.getElem?_append_left hj, hv])
  rw [show off + 3 + j = off + (j + 3) by omega]
  exact this
set_option maxRecDepth 8000 in
theorem ObAt.bytes (h : ObAt w g off o) : w.rangeAt g (off + 99) (bv o.b) := fun j v hv => by
  have := h (j + 99) v (by
    show (kcs o.s ++ bv o.b)[j + 96]? = some v
    have hl : (kcs o.s).length = 96 := by rw [kcs_length, o.hs]
    rw [List.getElem?_append_right (by omega), hl, Nat.add_sub_cancel, hv])
  rw [show off + 99 + j = off + (j + 99) by omega]
  exact this
set_option maxRecDepth 8000 in
theorem key_of_range {l : List Ky} (h : w.rangeAt g off (kcs l)) (i : Nat) (hi : i < l.length) : KeyAt w g (off + i * 6) l[i] := by
  have e : ∀ j u, j < 6 → (kl l[i])[j]? = some u → w.cell? ⟨g, off + i * 6 + j, none⟩ = some u := fun j u hj hu => by
    rw [Nat.add_assoc]
    exact h _ _ ((kcs_get l i hi j hj).trans hu)
  exact ⟨e 0 _ (by decide) rfl, e 1 _ (by decide) rfl, e 2 _ (by decide) rfl, e 3 _ (by decide) rfl, e 4 _ (by decide) rfl, e 5 _ (by decide) rfl⟩
theorem byte_of_range {l : List UInt8} (h : w.rangeAt g off (bv l)) (i : Nat) (hi : i < l.length) : w.cell? ⟨g, off + i, none⟩ = some (.int .u8 ((l[i]).toNat : Int)) := h i _ (by rw [bv_get, List.getElem?_eq_getElem hi]; rfl)
end
theorem Blk.ob {w : World} {g : Nat} {t : TypeId} {o : Oj} (h : Blk w g t o.cells.toArray) : ObAt w g 0 o := fun j v hv => by
  rw [Nat.zero_add, h.cell]
  simpa using hv
theorem Blk.kx {w : World} {g : Nat} {t : TypeId} {l : List Ky} (h : Blk w g t (kcs l).toArray) : w.rangeAt g 0 (kcs l) := fun j v hv => by
  rw [Nat.zero_add, h.cell]
  simpa using hv
theorem Blk.range {w : World} {g : Nat} {t : TypeId} {l : List Value} (h : Blk w g t l.toArray) : w.rangeAt g 0 l := fun j v hv => by
  rw [Nat.zero_add, h.cell]
  simpa using hv
set_option maxRecDepth 8000 in
-- of the program
theorem size34 : (Tryz.prog.info? 49).map (·.size) = some 163 := by kernel_rfl
set_option maxRecDepth 8000 in
theorem size31 : (Tryz.prog.info? 46).map (·.size) = some 96 := by kernel_rfl
set_option maxRecDepth 8000 in
theorem size32 : (Tryz.prog.info? 47).map (·.size) = some 64 := by kernel_rfl
set_option maxRecDepth 8000 in
theorem size30 : (Tryz.prog.info? 33).map (·.size) = some 6 := by kernel_rfl
set_option maxRecDepth 8000 in
theorem zero34 : (Tryz.prog.info? 49).map (fun i => (i.zero, i.size)) = some (some oz.val, 163) := by kernel_rfl
theorem z34 (w : World) : (zeroValue 49).run Tryz.prog w = .ok oz.val w := (zero_of_info zero34).1 w
set_option maxRecDepth 8000 in
theorem built34 : Tryz.prog.built 49 [] = some oz.cells.toArray := by kernel_rfl
set_option maxRecDepth 8000 in
theorem built31 : Tryz.prog.built 46 [] = some (kcs zks).toArray := by kernel_rfl
set_option maxRecDepth 8000 in
theorem built32 : Tryz.prog.built 47 [] = some (bv zbs).toArray := by kernel_rfl
theorem oz_len : oz.cells.length = 163 := oz.len
section
variable {P : Program} {ops : Array Oper} {rest : List Oper} {o : Oper} {a : Act} {w : World} {Q : Exit → Act → World → Prop}
/-- what an operation yields in each world that meets S, guarded or not -/
theorem wpList_yields {S : World → Prop} {v : Value} (hy : YieldsIf P ops S o v a) (hS : S w) (h : wpList P ops Q rest (a.put o.dst v) w) : wpList P ops Q (o :: rest) a w :=
  wpList_step fun K hK => by
    rcases hy with ⟨hw, hrun⟩ | ⟨hw, rfl⟩
    · rw [if_pos hw]
      unfold Oper.wp
      rw [hrun w hS]
      exact hK _ _ h
    · rw [if_neg (by rw [hw]; decide)]
      exact hK _ _ h
end
section
variable {ops : Array Oper} {o : Oper} {a : Act} {S : World → Prop}
theorem y_ob (hw : Region.wanted o (yielded ops a.tmps) = true) (x : Operand) (ho : o.op = .load 49 x) (g off : Nat) (hx : a.eval x = .pointer (some ⟨g, off, none⟩)) (u : Oj) (hS : ∀ w, S w → ObAt w g off u) : YieldsIf Tryz.prog ops S o u.val a :=
  yieldsIf_load_mid hw 49 x ho g off hx u.cells _ hS Tryz.underlying49 rfl (by rw [u.len]; exact size34)
theorem y_ks (hw : Region.wanted o (yielded ops a.tmps) = true) (x : Operand) (ho : o.op = .load 46 x) (g off : Nat) (hx : a.eval x = .pointer (some ⟨g, off, none⟩)) (l : List Ky) (hl : l.length = 16) (hS : ∀ w, S w → w.rangeAt g off (kcs l)) : YieldsIf Tryz.prog ops S o (.agg (kcs l).toArray) a :=
  yieldsIf_load_mid hw 46 x ho g off hx (kcs l) _ hS Tryz.underlying46 rfl (by rw [kcs_length, hl]; exact size31)
theorem y_bs (hw : Region.wanted o (yielded ops a.tmps) = true) (x : Operand) (ho : o.op = .load 47 x) (g off : Nat) (hx : a.eval x = .pointer (some ⟨g, off, none⟩)) (l : List UInt8) (hl : l.length = 64) (hS : ∀ w, S w → w.rangeAt g off (bv l)) : YieldsIf Tryz.prog ops S o (.agg (bv l).toArray) a :=
  yieldsIf_load_mid hw 47 x ho g off hx (bv l) _ hS Tryz.underlying47 rfl (by rw [bv_length, hl]; exact size32)
theorem y_build {t : TypeId} {cs : Array Value} (hw : Region.wanted o (yielded ops a.tmps) = true) (ho : o.op = .build t #[]) (hb : Tryz.prog.built t [] = some cs) : YieldsIf Tryz.prog ops S o (.agg cs) a := .inl ⟨hw, fun w _ => by
  unfold execOp
  simp only [ho, Sem.run_bind]
  have := run_build w t #[] cs hb
  simp only [List.map_toArray, List.map_nil, this, Result.andThen_ok, Sem.run_pure]⟩
set_option maxRecDepth 8000 in
/-- an element of an array of keys -/
theorem part_key (l : List Ky) (i : Nat) (hi : i < l.length) (w : World) : (part 33 (kcs l).toArray (i * 6)).run Tryz.prog w = .ok l[i].val w := by
  have hu := Tryz.underlying33
  obtain ⟨inf, hq⟩ : ∃ inf, Tryz.prog.info? 33 = some inf := by
    cases h : Tryz.prog.info? 33 with
    | none => have := size30; simp [h] at this
    | some i => exact ⟨i, rfl⟩
  have hs : inf.size = 6 := by have := size30; simpa [hq] using this
  have e := kcs_at l i hi
  simp [part, isAgg, run_underlying hu, sizeOf, typeInfo, hq, hs, e, kl_val]
set_option maxRecDepth 8000 in
theorem y_index (hw : Region.wanted o (yielded ops a.tmps) = true) (x y : Operand) (ho : o.op = .index 46 x y) (l : List Ky) (hl : l.length = 16) (i : Nat) (hi : i < l.length) (hx : a.eval x = .agg (kcs l).toArray) (hy : a.eval y = .int .i64 (i : Int)) : YieldsIf Tryz.prog ops S o l[i].val a := .inl ⟨hw, fun w _ => by
  have hp := part_key l i hi w
  have hz : (sizeOf 33).run Tryz.prog w = .ok 6 w := by
    cases h : Tryz.prog.info? 33 with
    | none => have := size30; simp [h] at this
    | some i => have := size30; simp [h] at this; simp [sizeOf, typeInfo, h, this]
  have hlt : (i : Int) < 16 := by omega
  unfold execOp
  simp only [ho, hx, hy, Instr.index, asIntOf, Sem.run_bind, Sem.run_pure, Result.andThen_ok, run_underlying Tryz.underlying46]
  rw [if_pos (by omega)]
  simp only [Sem.run_bind, hz, Result.andThen_ok, Int.toNat_natCast, hp]⟩
end
end Go.Proofs.YtogkdhpnbpgheaaGreatDoor
namespace Go.Proofs.YtogkdhpnbpgheaaGreatDoor
open Go.RowKit
set_option maxRecDepth 8000 in
theorem eqb_iff (b : Bool) (P : Prop) [Decidable P] (h : b = true ↔ P) : b = decide P := by
  rw [Bool.eq_iff_iff, h]
  simp
section
variable (w : World)
set_option maxRecDepth 8000 in
theorem ob_eq8 (d : Nat) (a b : UInt8) : (Op.equalIn (d + 1) 5 (.int .u8 (a.toNat : Int)) (.int .u8 (b.toNat : Int))).run Tryz.prog w = .ok (a == b) w := by
  have e : (((a.toNat : Nat) : Int) == ((b.toNat : Nat) : Int)) = (a == b) := by
    rcases Decidable.em (a = b) with rfl | h
    · simp
    · have h2 : a.toNat ≠ b.toNat := fun e => h (UInt8.toNat_inj.1 e)
      have h3 : ((a.toNat : Nat) : Int) ≠ ((b.toNat : Nat) : Int) := by omega
      rw [beq_eq_false_iff_ne.2 h, beq_eq_false_iff_ne.2 h3]
  simp [Op.equalIn, run_underlying Tryz.underlying5, e]
set_option maxRecDepth 8000 in
theorem ob_part8 (l : List UInt8) (i : Nat) (hi : i < l.length) : (part 5 (bv l).toArray i).run Tryz.prog w = .ok (.int .u8 ((l[i]'hi).toNat : Int)) w := by
  have hg : (bv l).toArray[i]? = some (.int .u8 ((l[i]'hi).toNat : Int)) := by
    simp [bv, hi]
  exact run_part_plain w (by kernel_rfl) hg
set_option maxRecDepth 8000 in
theorem ob_items8 (d : Nat) (l l' : List UInt8) : ∀ is : List Nat, (∀ i ∈ is, i < l.length ∧ i < l'.length) →
    (Op.eqItems (d + 1) 5 1 (bv l).toArray (bv l').toArray is).run Tryz.prog w = .ok (is.all fun i => l[i]? == l'[i]?) w
  | [], _ => by simp [Op.eqItems]
  | i :: is, h => by
    obtain ⟨h1, h2⟩ := h i (by simp)
    simp only [Op.eqItems, Sem.run_bind, Nat.mul_one, ob_part8 w l i h1, ob_part8 w l' i h2, Result.andThen_ok, ob_eq8]
    have e : ((l[i]? == l'[i]?) : Bool) = (l[i] == l'[i]) := by simp [h1, h2]
    rw [List.all_cons, e]
    cases hq : (l[i] == l'[i]) with
    | false => simp
    | true => simpa using ob_items8 d l l' is (fun j hj => h j (by simp [hj]))
set_option maxRecDepth 8000 in
theorem all_range_of {α : Type} [DecidableEq α] (l l' : List α) (n : Nat) (h : l.length = n) (h' : l'.length = n) : ((List.range n).all fun i => l[i]? == l'[i]?) = decide (l = l') := by
  refine eqb_iff _ _ ⟨fun hall => List.ext_getElem? (fun i => ?_), fun e => by subst e; simp⟩
  rcases Nat.lt_or_ge i n with hi | hi
  · have := List.all_eq_true.1 hall i (List.mem_range.2 hi)
    simpa using this
  · rw [List.getElem?_eq_none (by omega), List.getElem?_eq_none (by omega)]
set_option maxRecDepth 8000 in
theorem info_some {t : TypeId} {n : Nat} (h : (Tryz.prog.info? t).map (·.size) = some n) : ∃ i, Tryz.prog.info? t = some i := by
  cases h' : Tryz.prog.info? t with
  | none => simp [h'] at h
  | some i => exact ⟨i, rfl⟩
set_option maxRecDepth 8000 in
theorem size8 : (Tryz.prog.info? 5).map (·.size) = some 1 := by kernel_rfl
set_option maxRecDepth 8000 in
theorem bytes_equalIn (d : Nat) (l l' : List UInt8) (h : l.length = 64) (h' : l'.length = 64) : (Op.equalIn (d + 2) 47 (.agg (bv l).toArray) (.agg (bv l').toArray)).run Tryz.prog w = .ok (decide (l = l')) w := by
  obtain ⟨i, hi⟩ := info_some size8
  have hc : Tryz.prog.cellsOf 5 = 1 := by kernel_rfl
  rw [show d + 2 = (d + 1) + 1 from rfl, run_equalIn_array w (d + 1) _ _ Tryz.underlying47 hi, hc, ob_items8 w d l l' _ (fun j hj => by have := List.mem_range.1 hj; omega), all_range_of l l' 64 h h']
set_option maxRecDepth 8000 in
theorem bytes_eql (l l' : List UInt8) (h : l.length = 64) (h' : l'.length = 64) : (binOp .eql 47 (.agg (bv l).toArray) (.agg (bv l').toArray)).run Tryz.prog w = .ok (.bool (decide (l = l'))) w := by
  rw [run_eql_struct, bytes_equalIn w 9998 l l' h h']
  rfl
set_option maxRecDepth 8000 in
theorem bytes_neq (l l' : List UInt8) (h : l.length = 64) (h' : l'.length = 64) : (binOp .neq 47 (.agg (bv l).toArray) (.agg (bv l').toArray)).run Tryz.prog w = .ok (.bool (!decide (l = l'))) w := by
  rw [run_neq_struct, bytes_equalIn w 9998 l l' h h']
  rfl
set_option maxRecDepth 8000 in
-- keys
theorem ob_keyFields (d : Nat) (k o c l r v k' o' c' l' r' v' : Int) :
    (Op.eqFields (d + 1) (kc k o c l r v) (kc k' o' c' l' r' v') (Tryz.prog.fieldsOf 33).toList).run Tryz.prog w =
      .ok (decide (k = k') && (decide (o = o') && (decide (c = c') && (decide (l = l') && (decide (r = r') && (decide (v = v') && true)))))) w := by
  have hf := fields25
  generalize (Tryz.prog.fieldsOf 33).toList = fs at hf ⊢
  have hl : fs.length = 6 := by have := congrArg List.length hf; simpa using this
  match fs, hl, hf with
  | [f0, f1, f2, f3, f4, f5], _, hf =>
    simp only [List.map_cons, List.map_nil, List.cons.injEq, Prod.mk.injEq, and_true] at hf
    obtain ⟨⟨n0, t0, o0⟩, ⟨n1, t1, o1⟩, ⟨n2, t2, o2⟩, ⟨n3, t3, o3⟩, ⟨n4, t4, o4⟩, ⟨n5, t5, o5⟩⟩ := hf
    exact eq_head w f0 _ n0 t0 o0 Tryz.underlying30 (fun w => run_part_plain w (by kernel_rfl) rfl) (fun w => run_part_plain w (by kernel_rfl) rfl) _ fun _ =>
      eq_head w f1 _ n1 t1 o1 Tryz.underlying3 (fun w => run_part_plain w (by kernel_rfl) rfl) (fun w => run_part_plain w (by kernel_rfl) rfl) _ fun _ =>
      eq_head w f2 _ n2 t2 o2 Tryz.underlying2 (fun w => run_part_plain w (by kernel_rfl) rfl) (fun w => run_part_plain w (by kernel_rfl) rfl) _ fun _ =>
      eq_head w f3 _ n3 t3 o3 Tryz.underlying2 (fun w => run_part_plain w (by kernel_rfl) rfl) (fun w => run_part_plain w (by kernel_rfl) rfl) _ fun _ =>
      eq_head w f4 _ n4 t4 o4 Tryz.underlying31 (fun w => run_part_plain w (by kernel_rfl) rfl) (fun w => run_part_plain w (by kernel_rfl) rfl) _ fun _ =>
      eq_head w f5 _ n5 t5 o5 Tryz.underlying2 (fun w => run_part_plain w (by kernel_rfl) rfl) (fun w => run_part_plain w (by kernel_rfl) rfl) _ fun _ => eqFields_nil _ _ _ w
set_option maxRecDepth 8000 in
theorem ky_eqb (x y : Ky) : (decide (x.k = y.k) && (decide (x.o = y.o) && (decide (x.c = y.c) && (decide (x.l = y.l) && (decide (x.r = y.r) && (decide (x.v = y.v) && true)))))) = decide (x = y) := by
  obtain ⟨k, o, c, l, r, v⟩ := x
  obtain ⟨k', o', c', l', r', v'⟩ := y
  rw [Bool.eq_iff_iff]
  simp
set_option maxRecDepth 8000 in
theorem key_equalIn (d : Nat) (x y : Ky) : (Op.equalIn (d + 2) 33 x.val y.val).run Tryz.prog w = .ok (decide (x = y)) w := by
  rw [run_equalIn_agg w (d + 1) 33 _ _ (by kernel_rfl) (by kernel_rfl), ob_keyFields, ky_eqb]
set_option maxRecDepth 8000 in
theorem ky_eql (x y : Ky) : (binOp .eql 33 x.val y.val).run Tryz.prog w = .ok (.bool (decide (x = y))) w := by
  rw [run_eql_struct, key_equalIn w 9998 x y]
  rfl
set_option maxRecDepth 8000 in
theorem ky_neq (x y : Ky) : (binOp .neq 33 x.val y.val).run Tryz.prog w = .ok (.bool (!decide (x = y))) w := by
  rw [run_neq_struct, key_equalIn w 9998 x y]
  rfl
set_option maxRecDepth 8000 in
theorem ob_itemsK (d : Nat) (l l' : List Ky) : ∀ is : List Nat, (∀ i ∈ is, i < l.length ∧ i < l'.length) →
    (Op.eqItems (d + 2) 33 6 (kcs l).toArray (kcs l').toArray is).run Tryz.prog w = .ok (is.all fun i => l[i]? == l'[i]?) w
  | [], _ => by simp [Op.eqItems]
  | i :: is, h => by
    obtain ⟨h1, h2⟩ := h i (by simp)
    simp only [Op.eqItems, Sem.run_bind, part_key l i h1, part_key l' i h2, Result.andThen_ok, key_equalIn]
    have e : ((l[i]? == l'[i]?) : Bool) = decide (l[i] = l'[i]) := by
      rw [Bool.eq_iff_iff]
      simp [h1, h2]
    rw [List.all_cons, e]
    cases hq : decide (l[i] = l'[i]) with
    | false => simp
    | true => simpa using ob_itemsK d l l' is (fun j hj => h j (by simp [hj]))
set_option maxRecDepth 8000 in
theorem keys_equalIn (d : Nat) (l l' : List Ky) (h : l.length = 16) (h' : l'.length = 16) : (Op.equalIn (d + 3) 46 (.agg (kcs l).toArray) (.agg (kcs l').toArray)).run Tryz.prog w = .ok (decide (l = l')) w := by
  obtain ⟨i, hi⟩ := info_some size30
  have hc : Tryz.prog.cellsOf 33 = 6 := by kernel_rfl
  rw [show d + 3 = (d + 2) + 1 from rfl, run_equalIn_array w (d + 2) _ _ Tryz.underlying46 hi, hc, ob_itemsK w d l l' _ (fun j hj => by have := List.mem_range.1 hj; omega), all_range_of l l' 16 h h']
set_option maxRecDepth 8000 in
theorem keys_eql (l l' : List Ky) (h : l.length = 16) (h' : l'.length = 16) : (binOp .eql 46 (.agg (kcs l).toArray) (.agg (kcs l').toArray)).run Tryz.prog w = .ok (.bool (decide (l = l'))) w := by
  rw [run_eql_struct, keys_equalIn w 9997 l l' h h']
  rfl
set_option maxRecDepth 8000 in
-- objects
theorem eq_headG {d : Nat} {xs ys : Array Value} {t : TypeId} {i : Nat} {a b : Value} (f : Field) (fs : List Field) (hn : (f.name == "_") = false) (ht : f.type = t) (ho : f.offset = i)
    (hp : (part t xs i).run Tryz.prog w = .ok a w) (hq : (part t ys i).run Tryz.prog w = .ok b w) {r : Bool} (he : (Op.equalIn d t a b).run Tryz.prog w = .ok r w) (b' : Bool) (hr : (Op.eqFields d xs ys fs).run Tryz.prog w = .ok b' w) :
    (Op.eqFields d xs ys (f :: fs)).run Tryz.prog w = .ok (r && b') w := by
  have hn' : f.name ≠ "_" := by simpa using hn
  subst ht ho
  simp only [Op.eqFields, hn', ne_eq, not_false_eq_true, if_true, Sem.run_bind, hp, hq, Result.andThen_ok, he]
  cases r
  · simp
  · simp [hr]
set_option maxRecDepth 8000 in
theorem fields34 : (Tryz.prog.fieldsOf 49).toList.map (fun f => (f.name == "_", f.type, f.offset)) = [(false, 45, 0), (false, 2, 1), (false, 2, 2), (false, 46, 3), (false, 47, 99)] := by kernel_rfl
set_option maxRecDepth 8000 in
theorem part_agg {t : TypeId} {n i : Nat} {xs ys : List Value} {d : TypeDesc} (hu : Tryz.prog.underlying t = some d) (hd : d.isRow = true) (hs : (Tryz.prog.info? t).map (·.size) = some n) (he : (xs.drop i).take n = ys) : (part t xs.toArray i).run Tryz.prog w = .ok (.agg ys.toArray) w := by
  obtain ⟨inf, hq⟩ := info_some hs
  have hsz : inf.size = n := by simpa [hq] using hs
  have e : xs.toArray.extract i (i + n) = ys.toArray := by
    rw [← he]
    simp [List.extract_toArray, List.extract]
  cases d <;> simp_all [part, isAgg, run_underlying hu, sizeOf, typeInfo]
set_option maxRecDepth 8000 in
theorem ob_slots (o : Oj) : (o.cells.drop 3).take 96 = kcs o.s := by
  have hl : (kcs o.s).length = 96 := by rw [kcs_length, o.hs]
  show ((kcs o.s ++ bv o.b).take 96) = _
  rw [← hl, List.take_left]
set_option maxRecDepth 8000 in
theorem ob_bytes (o : Oj) : (o.cells.drop 99).take 64 = bv o.b := by
  have hl : (kcs o.s).length = 96 := by rw [kcs_length, o.hs]
  have hb : (bv o.b).length = 64 := by rw [bv_length, o.hb]
  show ((kcs o.s ++ bv o.b).drop 96).take 64 = _
  rw [← hl, List.drop_left, ← hb, List.take_length]
set_option maxRecDepth 8000 in
theorem ob_eqb (x y : Oj) : (decide (x.k = y.k) && (decide (x.c = y.c) && (decide (x.l = y.l) && (decide (x.s = y.s) && (decide (x.b = y.b) && true))))) = decide (x = y) := by
  obtain ⟨k, c, l, s, b, _, _⟩ := x
  obtain ⟨k', c', l', s', b', _, _⟩ := y
  rw [Bool.eq_iff_iff]
  simp
set_option maxRecDepth 8000 in
theorem ob_fields (d : Nat) (x y : Oj) : (Op.eqFields (d + 3) x.cells.toArray y.cells.toArray (Tryz.prog.fieldsOf 49).toList).run Tryz.prog w = .ok (decide (x = y)) w := by
  have hf := fields34
  generalize (Tryz.prog.fieldsOf 49).toList = fs at hf ⊢
  have hl : fs.length = 5 := by have := congrArg List.length hf; simpa using this
  match fs, hl, hf with
  | [f0, f1, f2, f3, f4], _, hf =>
    simp only [List.map_cons, List.map_nil, List.cons.injEq, Prod.mk.injEq, and_true] at hf
    obtain ⟨⟨n0, t0, o0⟩, ⟨n1, t1, o1⟩, ⟨n2, t2, o2⟩, ⟨n3, t3, o3⟩, ⟨n4, t4, o4⟩⟩ := hf
    rw [← ob_eqb]
    have i0 : ∀ t, Tryz.prog.underlying t = some (.int .i64) → ∀ a b : Int, (Op.equalIn (d + 3) t (.int .i64 a) (.int .i64 b)).run Tryz.prog w = .ok (decide (a = b)) w := fun t ht a b => by
      rw [run_equalIn_int w (d + 2) t .i64 .i64 a b ht]
      congr 1
    exact eq_headG w f0 _ n0 t0 o0 (run_part_plain w (by kernel_rfl) rfl) (run_part_plain w (by kernel_rfl) rfl) (i0 _ Tryz.underlying45 _ _) _ <|
      eq_headG w f1 _ n1 t1 o1 (run_part_plain w (by kernel_rfl) rfl) (run_part_plain w (by kernel_rfl) rfl) (i0 _ Tryz.underlying2 _ _) _ <|
      eq_headG w f2 _ n2 t2 o2 (run_part_plain w (by kernel_rfl) rfl) (run_part_plain w (by kernel_rfl) rfl) (i0 _ Tryz.underlying2 _ _) _ <|
      eq_headG w f3 _ n3 t3 o3 (part_agg w Tryz.underlying46 rfl size31 (ob_slots x)) (part_agg w Tryz.underlying46 rfl size31 (ob_slots y)) (keys_equalIn w d _ _ x.hs y.hs) _ <|
      eq_headG w f4 _ n4 t4 o4 (part_agg w Tryz.underlying47 rfl size32 (ob_bytes x)) (part_agg w Tryz.underlying47 rfl size32 (ob_bytes y)) (bytes_equalIn w (d + 1) _ _ x.hb y.hb) _ <| eqFields_nil _ _ _ w
set_option maxRecDepth 8000 in
theorem ob_equalIn (x y : Oj) : (Op.equalIn 10000 49 x.val y.val).run Tryz.prog w = .ok (decide (x = y)) w := by
  rw [run_equalIn_agg w 9999 49 _ _ (by kernel_rfl) (by kernel_rfl), ob_fields w 9996 x y]
set_option maxRecDepth 8000 in
theorem ob_eql (x y : Oj) : (binOp .eql 49 x.val y.val).run Tryz.prog w = .ok (.bool (decide (x = y))) w := by
  rw [run_eql_struct, ob_equalIn]
  rfl
set_option maxRecDepth 8000 in
theorem ob_neq (x y : Oj) : (binOp .neq 49 x.val y.val).run Tryz.prog w = .ok (.bool (!decide (x = y))) w := by
  rw [run_neq_struct, ob_equalIn]
  rfl
end
section
variable {ops : Array Oper} {o : Oper} {a : Act} {S : World → Prop} {p q : Operand}
theorem y_bin {t : TypeId} {bo : BinOp} {xs ys : Array Value} {v : Value} (hw : Region.wanted o (yielded ops a.tmps) = true) (ho : o.op = .binOp bo t p q t) (hx : a.eval p = .agg xs) (hy : a.eval q = .agg ys) (hm : Tryz.prog.eqGuardType Tryz.prog.depth t = false) (h : ∀ w, (binOp bo t (.agg xs) (.agg ys)).run Tryz.prog w = .ok v w) : YieldsIf Tryz.prog ops S o v a :=
  .inl ⟨hw, fun w _ => by
    unfold execOp
    simp only [ho, hx, hy, Sem.run_bind, run_eqGuard_agg (P := Tryz.prog) w bo t p q xs ys hm, h, Result.andThen_ok, Sem.run_pure]⟩
theorem y_obeq (hw : Region.wanted o (yielded ops a.tmps) = true) (ho : o.op = .binOp .eql 49 p q 49) (x y : Oj) (hx : a.eval p = x.val) (hy : a.eval q = y.val) : YieldsIf Tryz.prog ops S o (.bool (decide (x = y))) a := y_bin hw ho hx hy (by kernel_rfl) (fun w => ob_eql w x y)
theorem y_obne (hw : Region.wanted o (yielded ops a.tmps) = true) (ho : o.op = .binOp .neq 49 p q 49) (x y : Oj) (hx : a.eval p = x.val) (hy : a.eval q = y.val) : YieldsIf Tryz.prog ops S o (.bool (!decide (x = y))) a := y_bin hw ho hx hy (by kernel_rfl) (fun w => ob_neq w x y)
theorem y_kyeq (hw : Region.wanted o (yielded ops a.tmps) = true) (ho : o.op = .binOp .eql 33 p q 33) (x y : Ky) (hx : a.eval p = x.val) (hy : a.eval q = y.val) : YieldsIf Tryz.prog ops S o (.bool (decide (x = y))) a := y_bin hw ho hx hy (by kernel_rfl) (fun w => ky_eql w x y)
theorem y_kyne (hw : Region.wanted o (yielded ops a.tmps) = true) (ho : o.op = .binOp .neq 33 p q 33) (x y : Ky) (hx : a.eval p = x.val) (hy : a.eval q = y.val) : YieldsIf Tryz.prog ops S o (.bool (!decide (x = y))) a := y_bin hw ho hx hy (by kernel_rfl) (fun w => ky_neq w x y)
theorem y_kseq (hw : Region.wanted o (yielded ops a.tmps) = true) (ho : o.op = .binOp .eql 46 p q 46) (x y : List Ky) (hl : x.length = 16) (hl' : y.length = 16) (hx : a.eval p = .agg (kcs x).toArray) (hy : a.eval q = .agg (kcs y).toArray) : YieldsIf Tryz.prog ops S o (.bool (decide (x = y))) a := y_bin hw ho hx hy (by kernel_rfl) (fun w => keys_eql w x y hl hl')
theorem y_bsne (hw : Region.wanted o (yielded ops a.tmps) = true) (ho : o.op = .binOp .neq 47 p q 47) (x y : List UInt8) (hl : x.length = 64) (hl' : y.length = 64) (hx : a.eval p = .agg (bv x).toArray) (hy : a.eval q = .agg (bv y).toArray) : YieldsIf Tryz.prog ops S o (.bool (!decide (x = y))) a := y_bin hw ho hx hy (by kernel_rfl) (fun w => bytes_neq w x y hl hl')
end
end Go.Proofs.YtogkdhpnbpgheaaGreatDoor
namespace Go.Proofs.YtogkdhpnbpgheaaGreatDoor
open Go.RowKit
set_option maxRecDepth 8000 in
theorem many_any (n : Int) (w : World) : Calls Tryz.prog 34 #[.int .i64 n] w fun e w' => e = .returned (.bool (decide (1 ≤ n ∧ n ≤ 64))) ∧ w = w' := by
  by_cases h0 : 1 ≤ n
  · have d0 : decide (1 ≤ n) = true := by simpa using h0
    by_cases h1 : n ≤ 64
    · rw [show decide (1 ≤ n ∧ n ≤ 64) = true by simp; omega]
      go_enter Tryz.func34, Tryz.ntmps34
      go_wp2
      go_ret
      exact ⟨rfl, rfl⟩
    · rw [show decide (1 ≤ n ∧ n ≤ 64) = false by simp; omega]
      have d1 : decide (n ≤ 64) = false := by simpa using h1
      go_enter Tryz.func34, Tryz.ntmps34
      go_wp2
      go_ret
      exact ⟨rfl, rfl⟩
  · rw [show decide (1 ≤ n ∧ n ≤ 64) = false by simp; omega]
    have d0 : decide (1 ≤ n) = false := by simpa using h0
    go_enter Tryz.func34, Tryz.ntmps34
    go_wp2
    go_ret
    exact ⟨rfl, rfl⟩
set_option maxRecDepth 8000 in
theorem counted_any (n : Int) (w : World) : Calls Tryz.prog 57 #[.int .i64 n] w fun e w' => e = .returned (.bool (decide (0 ≤ n ∧ n ≤ 4294967295))) ∧ w = w' := by
  by_cases h0 : 0 ≤ n
  · have d0 : decide (0 ≤ n) = true := by simpa using h0
    by_cases h1 : n ≤ 4294967295
    · rw [show decide (0 ≤ n ∧ n ≤ 4294967295) = true by simp; omega]
      go_enter Tryz.func57, Tryz.ntmps57
      go_wp2
      go_ret
      exact ⟨rfl, rfl⟩
    · rw [show decide (0 ≤ n ∧ n ≤ 4294967295) = false by simp; omega]
      have d1 : decide (n ≤ 4294967295) = false := by simpa using h1
      go_enter Tryz.func57, Tryz.ntmps57
      go_wp2
      go_ret
      exact ⟨rfl, rfl⟩
  · rw [show decide (0 ≤ n ∧ n ≤ 4294967295) = false by simp; omega]
    have d0 : decide (0 ≤ n) = false := by simpa using h0
    go_enter Tryz.func57, Tryz.ntmps57
    go_wp2
    go_ret
    exact ⟨rfl, rfl⟩
/-- may a node have this key, in a store of n -/
def Ky.may (n : Int) (x : Ky) : Prop := x.ok ∧ (x.of → x.o < n)
def mayS (n : Int) (s : List Ky) : Prop := ∀ x ∈ s, x.may n
noncomputable def mayB (n : Int) (s : List Ky) : Bool := @decide (mayS n s) (Classical.propDecidable _)
set_option maxRecDepth 8000 in
theorem mayB_yes {n : Int} {s : List Ky} (h : mayS n s) : mayB n s = true := by unfold mayB; simpa using h
set_option maxRecDepth 8000 in
theorem mayB_no {n : Int} {s : List Ky} {x : Ky} (hx : x ∈ s) (h : ¬ x.may n) : mayB n s = false := by
  unfold mayB
  simp only [decide_eq_false_iff_not]
  exact fun hh => h (hh x hx)
set_option maxRecDepth 8000 in
theorem mayS_snoc {n : Int} {s : List Ky} {k : Nat} (hk : k < s.length) (h : mayS n (s.take k)) (hx : s[k].may n) : mayS n (s.take (k + 1)) := by
  rw [List.take_succ_eq_append_getElem hk]
  intro y hy
  rcases List.mem_append.1 hy with h' | h'
  · exact h y h'
  · obtain rfl : y = s[k] := by simpa using h'
    exact hx
set_option maxRecDepth 8000 in
set_option maxHeartbeats 1000000 in
theorem mayHold_any (s : List Ky) (hs : s.length = 16) (n : Int) (w : World) (hT : Tab w) :
    Calls Tryz.prog 131 #[.agg (kcs s).toArray, .int .i64 n] w fun e w' => e = .returned (.bool (mayB n s)) ∧ Below w.heap.size w w' := by
  have HT := Lib.hid (hT.alloc (.cells (kcs s).toArray 46))
  have HB := Lib.hid (((Below.refl w.heap.size w).alloc (Nat.le_refl _) (.cells (kcs s).toArray 46)))
  have HG := Lib.hid (Blk.new w 46 (kcs s).toArray)
  have HS := Lib.hid hs
  clear hT
  go_enter Tryz.func131, Tryz.ntmps131
  go_wp2_with (refine wpList_yields (S := fun w' => w'.rangeAt w.heap.size 0 (kcs s)) (y_ks (by rfl) (.tmp 2) (by rfl) w.heap.size 0 (by rfl) s HS.out (fun _ h => h)) HG.out.kx ?_)
  generalize w.alloc (.cells (kcs s).toArray 46) = w0 at HT HB HG ⊢
  go_loopw [6, 7, 8, 10] (fun _ _ _ i wr => ∃ k : Nat, k ≤ 16 ∧ i = .int .i64 k ∧ Below w.heap.size w wr ∧ Tab wr ∧ mayS n (s.take k)) (fun _ _ _ i _ => 17 - (intOf i).toNat)
  case atStart => exact ⟨0, by omega, rfl, HB.out, HT.out, fun x hx => by simp at hx⟩
  case round =>
    obtain ⟨k, hk, rfl, hb, ht, hm⟩ := hrel
    clear HT HB HG
    have HB0 := Lib.hid hb
    have HT0 := Lib.hid ht
    have HM := Lib.hid hm
    clear hb ht hm
    by_cases hlt : k < 16
    · have hks : k < s.length := by omega
      have HKS := Lib.hid hks
      obtain ⟨x, hx⟩ : ∃ x, x = s[k] := ⟨_, rfl⟩
      have HX := Lib.hid hx
      clear hs hx
      by_cases hof : x.of
      · have HOF := Lib.hid hof
        clear hof
        by_cases hq : x.o < n
        · have dq : decide (n ≤ x.o) = false := by simpa using hq
          have HQ := Lib.hid hq
          clear hq
          go_wp2_with (first
        | (refine wpList_yields (S := fun _ => True) (HX.out ▸ y_index (by rfl) (.tmp 9) (.tmp 10) (by rfl) s HS.out k HKS.out (by rfl) (by rfl)) trivial ?_)
        | (go_at_call 80; refine (kname_yes x _ (HT0.out.alloc _) HOF.out).mono ?_; rintro e w1 ⟨rfl, b1⟩; obtain ⟨B1, b2⟩ := box1 b1; have HT1 := Lib.hid (HT0.out.below b2); have HB1 := Lib.hid (HB0.out.trans (b2.mono HB0.out.size)); have G1 := Lib.hid B1; obtain ⟨c0, c1, c2, c3, c4, c5⟩ := B1.six; clear b1 b2 B1)
        | (go_at_call 81; refine (kchk_yes x _ HT1.out HOF.out.1).mono ?_; rintro e w2 ⟨rfl, b2⟩; have HT2 := Lib.hid (HT1.out.below b2); have HB2 := Lib.hid (HB1.out.trans (b2.mono HB1.out.size)); clear b2 c0 c1 c2 c3 c4 c5))
          go_roundw
          case rel => exact ⟨k + 1, by omega, by go_num, HB2.out, HT2.out, mayS_snoc HKS.out HM.out (HX.out ▸ ⟨HOF.out.1, fun _ => HQ.out⟩)⟩
          case measure => simp [intOf]; omega
        · have dq : decide (n ≤ x.o) = true := by simpa using hq
          have HQ := Lib.hid hq
          clear hq
          go_wp2_with (first
        | (refine wpList_yields (S := fun _ => True) (HX.out ▸ y_index (by rfl) (.tmp 9) (.tmp 10) (by rfl) s HS.out k HKS.out (by rfl) (by rfl)) trivial ?_)
        | (go_at_call 80; refine (kname_yes x _ (HT0.out.alloc _) HOF.out).mono ?_; rintro e w1 ⟨rfl, b1⟩; obtain ⟨B1, b2⟩ := box1 b1; have HT1 := Lib.hid (HT0.out.below b2); have HB1 := Lib.hid (HB0.out.trans (b2.mono HB0.out.size)); have G1 := Lib.hid B1; obtain ⟨c0, c1, c2, c3, c4, c5⟩ := B1.six; clear b1 b2 B1)
        | (go_at_call 81; refine (kchk_yes x _ HT1.out HOF.out.1).mono ?_; rintro e w2 ⟨rfl, b2⟩; have HT2 := Lib.hid (HT1.out.below b2); have HB2 := Lib.hid (HB1.out.trans (b2.mono HB1.out.size)); clear b2 c0 c1 c2 c3 c4 c5))
          go_ret
          exact ⟨by rw [mayB_no (List.getElem_mem HKS.out) (HX.out ▸ fun h => by have h1 := HQ.out; have h2 := h.2 HOF.out; omega)]; rfl, HB2.out⟩
      · have HOF := Lib.hid hof
        clear hof
        by_cases hok : x.ok
        · have HOK := Lib.hid hok
          clear hok
          go_wp2_with (first
        | (refine wpList_yields (S := fun _ => True) (HX.out ▸ y_index (by rfl) (.tmp 9) (.tmp 10) (by rfl) s HS.out k HKS.out (by rfl) (by rfl)) trivial ?_)
        | (go_at_call 80; refine (kname_no x _ (HT0.out.alloc _) HOF.out).mono ?_; rintro e w1 ⟨rfl, b1⟩; obtain ⟨B1, b2⟩ := box1 b1; have HT1 := Lib.hid (HT0.out.below b2); have HB1 := Lib.hid (HB0.out.trans (b2.mono HB0.out.size)); have G1 := Lib.hid B1; obtain ⟨c0, c1, c2, c3, c4, c5⟩ := B1.six; clear b1 b2 B1)
        | (go_at_call 81; refine (kchk_yes x _ HT1.out HOK.out).mono ?_; rintro e w2 ⟨rfl, b2⟩; have HT2 := Lib.hid (HT1.out.below b2); have HB2 := Lib.hid (HB1.out.trans (b2.mono HB1.out.size)); clear b2 c0 c1 c2 c3 c4 c5))
          go_roundw
          case rel => exact ⟨k + 1, by omega, by go_num, HB2.out, HT2.out, mayS_snoc HKS.out HM.out (HX.out ▸ ⟨HOK.out, fun h => absurd h HOF.out⟩)⟩
          case measure => simp [intOf]; omega
        · have HOK := Lib.hid hok
          clear hok
          go_wp2_with (first
        | (refine wpList_yields (S := fun _ => True) (HX.out ▸ y_index (by rfl) (.tmp 9) (.tmp 10) (by rfl) s HS.out k HKS.out (by rfl) (by rfl)) trivial ?_)
        | (go_at_call 80; refine (kname_no x _ (HT0.out.alloc _) HOF.out).mono ?_; rintro e w1 ⟨rfl, b1⟩; obtain ⟨B1, b2⟩ := box1 b1; have HT1 := Lib.hid (HT0.out.below b2); have HB1 := Lib.hid (HB0.out.trans (b2.mono HB0.out.size)); have G1 := Lib.hid B1; obtain ⟨c0, c1, c2, c3, c4, c5⟩ := B1.six; clear b1 b2 B1)
        | (go_at_call 81; refine (kchk_no x _ HT1.out HOK.out).mono ?_; rintro e w2 ⟨rfl, b2⟩; have HT2 := Lib.hid (HT1.out.below b2); have HB2 := Lib.hid (HB1.out.trans (b2.mono HB1.out.size)); clear b2 c0 c1 c2 c3 c4 c5))
          go_ret
          exact ⟨by rw [mayB_no (List.getElem_mem HKS.out) (HX.out ▸ fun h => HOK.out h.1)]; rfl, HB2.out⟩
    · obtain rfl : k = 16 := by omega
      go_wp2
      go_ret
      exact ⟨by rw [mayB_yes (by have h := HM.out; rwa [List.take_of_length_le (by have := HS.out; omega)] at h)]; rfl, HB0.out⟩
end Go.Proofs.YtogkdhpnbpgheaaGreatDoor
namespace Go.Proofs.YtogkdhpnbpgheaaGreatDoor
open Go.RowKit
/-- has it nothing that its kind has not, in a store of n -/
def Oj.has (n : Int) (o : Oj) : Prop := (o.k = 1 ∧ mayS n o.s) ∨ (o.k = 2 ∧ o.l = 0 ∧ o.s = zks) ∨ ((o.k = 0 ∨ o.k = 3) ∧ o.b = zbs ∧ o.l = 0 ∧ o.s = zks)
noncomputable def Oj.hasB (n : Int) (o : Oj) : Bool := @decide (o.has n) (Classical.propDecidable _)
set_option maxRecDepth 8000 in
theorem Oj.hasB_eq {n : Int} {o : Oj} {b : Bool} (h : o.has n ↔ b = true) : b = o.hasB n := by
  unfold Oj.hasB
  rw [Bool.eq_iff_iff]
  simp [h]
set_option maxRecDepth 8000 in
theorem ret_b {a b : Bool} (h : a = b) : Ending.returned (.bool a) = .returned (.bool b) := by rw [h]
set_option maxRecDepth 8000 in
set_option maxHeartbeats 1000000 in
theorem has_0b (o : Oj) (n : Int) (w : World) (hk : o.k = 0) (hb : o.b ≠ zbs) :
    Calls Tryz.prog 58 #[o.val, .int .i64 n] w fun e w' => e = .returned (.bool (o.hasB n)) ∧ Below w.heap.size w w' := by
  have HB := Lib.hid ((Below.refl w.heap.size w).alloc (Nat.le_refl _) (.cells o.cells.toArray 49))
  have HG := Lib.hid (Blk.new w 49 o.cells.toArray).ob
  have DV := Lib.hid (show (!decide (o.b = zbs)) = true by simpa using hb)
  obtain ⟨c0, _, c2⟩ := HG.out.cells
  rw [hk] at c0
  go_enter Tryz.func58, Tryz.ntmps58
  go_wp2_with (first
    | (refine wpList_yields (S := fun w' => w'.rangeAt w.heap.size 99 (bv o.b)) (y_bs (by rfl) (.tmp 14) (by rfl) w.heap.size 99 (by rfl) o.b o.hb (fun _ h => h)) (by simpa using HG.out.bytes) ?_)
    | (refine wpList_yields (S := fun _ => True) (y_build (by rfl) (by rfl) built32) trivial ?_)
    | (refine wpList_yields (S := fun _ => True) (DV.out ▸ y_bsne (by rfl) (by rfl) o.b zbs o.hb rfl (by rfl) (by rfl)) trivial ?_))
  go_ret
  exact ⟨ret_b (Oj.hasB_eq (by unfold Oj.has; simp [hk, hb])), HB.out⟩
set_option maxRecDepth 8000 in
set_option maxHeartbeats 1000000 in
theorem has_0l (o : Oj) (n : Int) (w : World) (hk : o.k = 0) (hb : o.b = zbs) (hl : o.l ≠ 0) :
    Calls Tryz.prog 58 #[o.val, .int .i64 n] w fun e w' => e = .returned (.bool (o.hasB n)) ∧ Below w.heap.size w w' := by
  have HB := Lib.hid ((Below.refl w.heap.size w).alloc (Nat.le_refl _) (.cells o.cells.toArray 49))
  have HG := Lib.hid (Blk.new w 49 o.cells.toArray).ob
  have DV := Lib.hid (show (!decide (o.b = zbs)) = false by simpa using hb)
  obtain ⟨c0, _, c2⟩ := HG.out.cells
  rw [hk] at c0
  have dl : (o.l == 0) = false := by simpa using hl
  go_enter Tryz.func58, Tryz.ntmps58
  go_wp2_with (first
    | (refine wpList_yields (S := fun w' => w'.rangeAt w.heap.size 99 (bv o.b)) (y_bs (by rfl) (.tmp 14) (by rfl) w.heap.size 99 (by rfl) o.b o.hb (fun _ h => h)) (by simpa using HG.out.bytes) ?_)
    | (refine wpList_yields (S := fun _ => True) (y_build (by rfl) (by rfl) built32) trivial ?_)
    | (refine wpList_yields (S := fun _ => True) (DV.out ▸ y_bsne (by rfl) (by rfl) o.b zbs o.hb rfl (by rfl) (by rfl)) trivial ?_))
  go_ret
  exact ⟨ret_b (Oj.hasB_eq (by unfold Oj.has; simp [hk, hl])), HB.out⟩
set_option maxRecDepth 8000 in
set_option maxHeartbeats 1000000 in
theorem has_0s (o : Oj) (n : Int) (w : World) (hk : o.k = 0) (hb : o.b = zbs) (hl : o.l = 0) :
    Calls Tryz.prog 58 #[o.val, .int .i64 n] w fun e w' => e = .returned (.bool (o.hasB n)) ∧ Below w.heap.size w w' := by
  have HB := Lib.hid ((Below.refl w.heap.size w).alloc (Nat.le_refl _) (.cells o.cells.toArray 49))
  have HG := Lib.hid (Blk.new w 49 o.cells.toArray).ob
  have DV := Lib.hid (show (!decide (o.b = zbs)) = false by simpa using hb)
  obtain ⟨c0, _, c2⟩ := HG.out.cells
  rw [hk] at c0
  rw [hl] at c2
  go_enter Tryz.func58, Tryz.ntmps58
  go_wp2_with (first
    | (refine wpList_yields (S := fun w' => w'.rangeAt w.heap.size 99 (bv o.b)) (y_bs (by rfl) (.tmp 14) (by rfl) w.heap.size 99 (by rfl) o.b o.hb (fun _ h => h)) (by simpa using HG.out.bytes) ?_)
    | (refine wpList_yields (S := fun _ => True) (y_build (by rfl) (by rfl) built32) trivial ?_)
    | (refine wpList_yields (S := fun _ => True) (DV.out ▸ y_bsne (by rfl) (by rfl) o.b zbs o.hb rfl (by rfl) (by rfl)) trivial ?_)
    | (refine wpList_yields (S := fun w' => w'.rangeAt w.heap.size 3 (kcs o.s)) (y_ks (by rfl) (.tmp 22) (by rfl) w.heap.size 3 (by rfl) o.s o.hs (fun _ h => h)) (by simpa using HG.out.slots) ?_)
    | (refine wpList_yields (S := fun _ => True) (y_build (by rfl) (by rfl) built31) trivial ?_)
    | (refine wpList_yields (S := fun _ => True) (y_kseq (by rfl) (by rfl) o.s zks o.hs rfl (by rfl) (by rfl)) trivial ?_))
  go_ret
  exact ⟨ret_b (Oj.hasB_eq (by unfold Oj.has; simp [hk, hl, hb])), HB.out⟩
set_option maxRecDepth 8000 in
set_option maxHeartbeats 1000000 in
theorem has_3b (o : Oj) (n : Int) (w : World) (hk : o.k = 3) (hb : o.b ≠ zbs) :
    Calls Tryz.prog 58 #[o.val, .int .i64 n] w fun e w' => e = .returned (.bool (o.hasB n)) ∧ Below w.heap.size w w' := by
  have HB := Lib.hid ((Below.refl w.heap.size w).alloc (Nat.le_refl _) (.cells o.cells.toArray 49))
  have HG := Lib.hid (Blk.new w 49 o.cells.toArray).ob
  have DV := Lib.hid (show (!decide (o.b = zbs)) = true by simpa using hb)
  obtain ⟨c0, _, c2⟩ := HG.out.cells
  rw [hk] at c0
  go_enter Tryz.func58, Tryz.ntmps58
  go_wp2_with (first
    | (refine wpList_yields (S := fun w' => w'.rangeAt w.heap.size 99 (bv o.b)) (y_bs (by rfl) (.tmp 14) (by rfl) w.heap.size 99 (by rfl) o.b o.hb (fun _ h => h)) (by simpa using HG.out.bytes) ?_)
    | (refine wpList_yields (S := fun _ => True) (y_build (by rfl) (by rfl) built32) trivial ?_)
    | (refine wpList_yields (S := fun _ => True) (DV.out ▸ y_bsne (by rfl) (by rfl) o.b zbs o.hb rfl (by rfl) (by rfl)) trivial ?_))
  go_ret
  exact ⟨ret_b (Oj.hasB_eq (by unfold Oj.has; simp [hk, hb])), HB.out⟩
set_option maxRecDepth 8000 in
set_option maxHeartbeats 1000000 in
theorem has_3l (o : Oj) (n : Int) (w : World) (hk : o.k = 3) (hb : o.b = zbs) (hl : o.l ≠ 0) :
    Calls Tryz.prog 58 #[o.val, .int .i64 n] w fun e w' => e = .returned (.bool (o.hasB n)) ∧ Below w.heap.size w w' := by
  have HB := Lib.hid ((Below.refl w.heap.size w).alloc (Nat.le_refl _) (.cells o.cells.toArray 49))
  have HG := Lib.hid (Blk.new w 49 o.cells.toArray).ob
  have DV := Lib.hid (show (!decide (o.b = zbs)) = false by simpa using hb)
  obtain ⟨c0, _, c2⟩ := HG.out.cells
  rw [hk] at c0
  have dl : (o.l == 0) = false := by simpa using hl
  go_enter Tryz.func58, Tryz.ntmps58
  go_wp2_with (first
    | (refine wpList_yields (S := fun w' => w'.rangeAt w.heap.size 99 (bv o.b)) (y_bs (by rfl) (.tmp 14) (by rfl) w.heap.size 99 (by rfl) o.b o.hb (fun _ h => h)) (by simpa using HG.out.bytes) ?_)
    | (refine wpList_yields (S := fun _ => True) (y_build (by rfl) (by rfl) built32) trivial ?_)
    | (refine wpList_yields (S := fun _ => True) (DV.out ▸ y_bsne (by rfl) (by rfl) o.b zbs o.hb rfl (by rfl) (by rfl)) trivial ?_))
  go_ret
  exact ⟨ret_b (Oj.hasB_eq (by unfold Oj.has; simp [hk, hl])), HB.out⟩
set_option maxRecDepth 8000 in
set_option maxHeartbeats 1000000 in
theorem has_3s (o : Oj) (n : Int) (w : World) (hk : o.k = 3) (hb : o.b = zbs) (hl : o.l = 0) :
    Calls Tryz.prog 58 #[o.val, .int .i64 n] w fun e w' => e = .returned (.bool (o.hasB n)) ∧ Below w.heap.size w w' := by
  have HB := Lib.hid ((Below.refl w.heap.size w).alloc (Nat.le_refl _) (.cells o.cells.toArray 49))
  have HG := Lib.hid (Blk.new w 49 o.cells.toArray).ob
  have DV := Lib.hid (show (!decide (o.b = zbs)) = false by simpa using hb)
  obtain ⟨c0, _, c2⟩ := HG.out.cells
  rw [hk] at c0
  rw [hl] at c2
  go_enter Tryz.func58, Tryz.ntmps58
  go_wp2_with (first
    | (refine wpList_yields (S := fun w' => w'.rangeAt w.heap.size 99 (bv o.b)) (y_bs (by rfl) (.tmp 14) (by rfl) w.heap.size 99 (by rfl) o.b o.hb (fun _ h => h)) (by simpa using HG.out.bytes) ?_)
    | (refine wpList_yields (S := fun _ => True) (y_build (by rfl) (by rfl) built32) trivial ?_)
    | (refine wpList_yields (S := fun _ => True) (DV.out ▸ y_bsne (by rfl) (by rfl) o.b zbs o.hb rfl (by rfl) (by rfl)) trivial ?_)
    | (refine wpList_yields (S := fun w' => w'.rangeAt w.heap.size 3 (kcs o.s)) (y_ks (by rfl) (.tmp 22) (by rfl) w.heap.size 3 (by rfl) o.s o.hs (fun _ h => h)) (by simpa using HG.out.slots) ?_)
    | (refine wpList_yields (S := fun _ => True) (y_build (by rfl) (by rfl) built31) trivial ?_)
    | (refine wpList_yields (S := fun _ => True) (y_kseq (by rfl) (by rfl) o.s zks o.hs rfl (by rfl) (by rfl)) trivial ?_))
  go_ret
  exact ⟨ret_b (Oj.hasB_eq (by unfold Oj.has; simp [hk, hl, hb])), HB.out⟩
set_option maxRecDepth 8000 in
set_option maxHeartbeats 1000000 in
theorem has_2l (o : Oj) (n : Int) (w : World) (hk : o.k = 2) (hl : o.l ≠ 0) :
    Calls Tryz.prog 58 #[o.val, .int .i64 n] w fun e w' => e = .returned (.bool (o.hasB n)) ∧ Below w.heap.size w w' := by
  have HB := Lib.hid ((Below.refl w.heap.size w).alloc (Nat.le_refl _) (.cells o.cells.toArray 49))
  have HG := Lib.hid (Blk.new w 49 o.cells.toArray).ob
  obtain ⟨c0, _, c2⟩ := HG.out.cells
  rw [hk] at c0
  have dl : (o.l == 0) = false := by simpa using hl
  go_enter Tryz.func58, Tryz.ntmps58
  go_wp2_with (first
    | (refine wpList_yields (S := fun w' => w'.rangeAt w.heap.size 3 (kcs o.s)) (y_ks (by rfl) (.tmp 22) (by rfl) w.heap.size 3 (by rfl) o.s o.hs (fun _ h => h)) (by simpa using HG.out.slots) ?_))
  go_ret
  exact ⟨ret_b (Oj.hasB_eq (by unfold Oj.has; simp [hk, hl])), HB.out⟩
set_option maxRecDepth 8000 in
set_option maxHeartbeats 1000000 in
theorem has_2s (o : Oj) (n : Int) (w : World) (hk : o.k = 2) (hl : o.l = 0) :
    Calls Tryz.prog 58 #[o.val, .int .i64 n] w fun e w' => e = .returned (.bool (o.hasB n)) ∧ Below w.heap.size w w' := by
  have HB := Lib.hid ((Below.refl w.heap.size w).alloc (Nat.le_refl _) (.cells o.cells.toArray 49))
  have HG := Lib.hid (Blk.new w 49 o.cells.toArray).ob
  obtain ⟨c0, _, c2⟩ := HG.out.cells
  rw [hk] at c0
  rw [hl] at c2
  go_enter Tryz.func58, Tryz.ntmps58
  go_wp2_with (first
    | (refine wpList_yields (S := fun w' => w'.rangeAt w.heap.size 3 (kcs o.s)) (y_ks (by rfl) (.tmp 22) (by rfl) w.heap.size 3 (by rfl) o.s o.hs (fun _ h => h)) (by simpa using HG.out.slots) ?_)
    | (refine wpList_yields (S := fun _ => True) (y_build (by rfl) (by rfl) built31) trivial ?_)
    | (refine wpList_yields (S := fun _ => True) (y_kseq (by rfl) (by rfl) o.s zks o.hs rfl (by rfl) (by rfl)) trivial ?_))
  go_ret
  exact ⟨ret_b (Oj.hasB_eq (by unfold Oj.has; simp [hk, hl])), HB.out⟩
set_option maxRecDepth 8000 in
set_option maxHeartbeats 1000000 in
theorem has_1 (o : Oj) (n : Int) (w : World) (hT : Tab w) (hk : o.k = 1) :
    Calls Tryz.prog 58 #[o.val, .int .i64 n] w fun e w' => e = .returned (.bool (o.hasB n)) ∧ Below w.heap.size w w' := by
  have HB := Lib.hid ((Below.refl w.heap.size w).alloc (Nat.le_refl _) (.cells o.cells.toArray 49))
  have HG := Lib.hid (Blk.new w 49 o.cells.toArray).ob
  have HT := Lib.hid hT
  obtain ⟨c0, _, c2⟩ := HG.out.cells
  rw [hk] at c0
  clear hT
  go_enter Tryz.func58, Tryz.ntmps58
  go_wp2_with (first
    | (refine wpList_yields (S := fun w' => w'.rangeAt w.heap.size 3 (kcs o.s)) (y_ks (by rfl) (.tmp 27) (by rfl) w.heap.size 3 (by rfl) o.s o.hs (fun _ h => h)) (by simpa using HG.out.slots) ?_)
    | (go_at_call 131; refine (mayHold_any o.s o.hs n _ (HT.out.alloc _)).mono ?_; rintro e w1 ⟨rfl, b1⟩; have HB1 := Lib.hid (HB.out.trans (b1.mono HB.out.size)); clear b1))
  go_ret
  exact ⟨ret_b (Oj.hasB_eq (by unfold Oj.has mayB; simp [hk])), HB1.out⟩
set_option maxRecDepth 8000 in
set_option maxHeartbeats 1000000 in
theorem has_x (o : Oj) (n : Int) (w : World) (h0 : o.k ≠ 0) (h1 : o.k ≠ 1) (h2 : o.k ≠ 2) (h3 : o.k ≠ 3) :
    Calls Tryz.prog 58 #[o.val, .int .i64 n] w fun e w' => e = .returned (.bool (o.hasB n)) ∧ Below w.heap.size w w' := by
  have HB := Lib.hid ((Below.refl w.heap.size w).alloc (Nat.le_refl _) (.cells o.cells.toArray 49))
  have HG := Lib.hid (Blk.new w 49 o.cells.toArray).ob
  obtain ⟨c0, _, c2⟩ := HG.out.cells
  have d0 : (o.k == 0) = false := by simpa using h0
  have d1 : (o.k == 1) = false := by simpa using h1
  have d2 : (o.k == 2) = false := by simpa using h2
  have d3 : (o.k == 3) = false := by simpa using h3
  go_enter Tryz.func58, Tryz.ntmps58
  go_wp2_with (first
    | (refine wpList_yields (S := fun w' => w'.rangeAt w.heap.size 3 (kcs o.s)) (y_ks (by rfl) (.tmp 27) (by rfl) w.heap.size 3 (by rfl) o.s o.hs (fun _ h => h)) (by simpa using HG.out.slots) ?_))
  go_ret
  exact ⟨ret_b (Oj.hasB_eq (by unfold Oj.has; simp [h0, h1, h2, h3])), HB.out⟩
set_option maxRecDepth 8000 in
theorem kindHas_any (o : Oj) (n : Int) (w : World) (hT : Tab w) :
    Calls Tryz.prog 58 #[o.val, .int .i64 n] w fun e w' => e = .returned (.bool (o.hasB n)) ∧ Below w.heap.size w w' := by
  by_cases h1 : o.k = 1
  · exact has_1 o n w hT h1
  · by_cases h2 : o.k = 2
    · by_cases hl : o.l = 0
      · exact has_2s o n w h2 hl
      · exact has_2l o n w h2 hl
    · by_cases h0 : o.k = 0
      · by_cases hb : o.b = zbs
        · by_cases hl : o.l = 0
          · exact has_0s o n w h0 hb hl
          · exact has_0l o n w h0 hb hl
        · exact has_0b o n w h0 hb
      · by_cases h3 : o.k = 3
        · by_cases hb : o.b = zbs
          · by_cases hl : o.l = 0
            · exact has_3s o n w h3 hb hl
            · exact has_3l o n w h3 hb hl
          · exact has_3b o n w h3 hb
        · exact has_x o n w h0 h1 h2 h3
/-- may an object be in a store of n -/
def Oj.ok (n : Int) (o : Oj) : Prop := (1 ≤ n ∧ n ≤ 64) ∧ (0 ≤ o.c ∧ o.c ≤ 4294967295) ∧ (0 ≤ o.l ∧ o.l ≤ 4294967295) ∧ o.has n
noncomputable def Oj.chk (n : Int) (o : Oj) : Int := @ite Int (o.ok n) (Classical.propDecidable _) 0 2
theorem Oj.chk_yes {n : Int} {o : Oj} (h : o.ok n) : o.chk n = 0 := if_pos h
theorem Oj.chk_no {n : Int} {o : Oj} (h : ¬ o.ok n) : o.chk n = 2 := if_neg h
set_option maxRecDepth 8000 in
theorem ret_n {a b : Int} (h : a = b) : Ending.returned (.int .i64 a) = .returned (.int .i64 b) := by rw [h]
set_option maxRecDepth 8000 in
theorem Oj.hasB_yes {n : Int} {o : Oj} (h : o.has n) : o.hasB n = true := by unfold Oj.hasB; simpa using h
set_option maxRecDepth 8000 in
theorem Oj.hasB_no {n : Int} {o : Oj} (h : ¬ o.has n) : o.hasB n = false := by unfold Oj.hasB; simpa using h
set_option maxRecDepth 8000 in
set_option maxHeartbeats 1000000 in
theorem chk_m (o : Oj) (n : Int) (w : World) (hT : Tab w) (hm : ¬ (1 ≤ n ∧ n ≤ 64)) :
    Calls Tryz.prog 35 #[o.val, .int .i64 n] w fun e w' => e = .returned (.int .i64 2) ∧ Below w.heap.size w w' := by
  have HB := Lib.hid ((Below.refl w.heap.size w).alloc (Nat.le_refl _) (.cells o.cells.toArray 49))
  have HG := Lib.hid (Blk.new w 49 o.cells.toArray).ob
  have HT := Lib.hid hT
  obtain ⟨_, c1, c2⟩ := HG.out.cells
  have DM := Lib.hid (show decide (1 ≤ n ∧ n ≤ 64) = false from decide_eq_false hm)
  clear hm
  clear hT
  go_enter Tryz.func35, Tryz.ntmps35
  go_wp2_with (first
    | (go_at_call 34; refine (DM.out ▸ many_any n _).mono ?_; rintro e w1 ⟨rfl, rfl⟩))
  go_ret
  exact ⟨rfl, HB.out⟩
set_option maxRecDepth 8000 in
set_option maxHeartbeats 1000000 in
theorem chk_c (o : Oj) (n : Int) (w : World) (hT : Tab w) (hm : 1 ≤ n ∧ n ≤ 64) (hc : ¬ (0 ≤ o.c ∧ o.c ≤ 4294967295)) :
    Calls Tryz.prog 35 #[o.val, .int .i64 n] w fun e w' => e = .returned (.int .i64 2) ∧ Below w.heap.size w w' := by
  have HB := Lib.hid ((Below.refl w.heap.size w).alloc (Nat.le_refl _) (.cells o.cells.toArray 49))
  have HG := Lib.hid (Blk.new w 49 o.cells.toArray).ob
  have HT := Lib.hid hT
  obtain ⟨_, c1, c2⟩ := HG.out.cells
  have DM := Lib.hid (show decide (1 ≤ n ∧ n ≤ 64) = true by simpa using hm)
  have DC := Lib.hid (show decide (0 ≤ o.c ∧ o.c ≤ 4294967295) = false from decide_eq_false hc)
  clear hm hc
  clear hT
  go_enter Tryz.func35, Tryz.ntmps35
  go_wp2_with (first
    | (go_at_call 34; refine (DM.out ▸ many_any n _).mono ?_; rintro e w1 ⟨rfl, rfl⟩)
    | (go_at_call 57; (with_reducible refine (DC.out ▸ counted_any o.c _).mono ?_); rintro e w1 ⟨rfl, rfl⟩))
  go_ret
  exact ⟨rfl, HB.out⟩
set_option maxRecDepth 8000 in
set_option maxHeartbeats 1000000 in
theorem chk_l (o : Oj) (n : Int) (w : World) (hT : Tab w) (hm : 1 ≤ n ∧ n ≤ 64) (hc : 0 ≤ o.c ∧ o.c ≤ 4294967295) (hl : ¬ (0 ≤ o.l ∧ o.l ≤ 4294967295)) :
    Calls Tryz.prog 35 #[o.val, .int .i64 n] w fun e w' => e = .returned (.int .i64 2) ∧ Below w.heap.size w w' := by
  have HB := Lib.hid ((Below.refl w.heap.size w).alloc (Nat.le_refl _) (.cells o.cells.toArray 49))
  have HG := Lib.hid (Blk.new w 49 o.cells.toArray).ob
  have HT := Lib.hid hT
  obtain ⟨_, c1, c2⟩ := HG.out.cells
  have DM := Lib.hid (show decide (1 ≤ n ∧ n ≤ 64) = true by simpa using hm)
  have DC := Lib.hid (show decide (0 ≤ o.c ∧ o.c ≤ 4294967295) = true by simpa using hc)
  have DL := Lib.hid (show decide (0 ≤ o.l ∧ o.l ≤ 4294967295) = false from decide_eq_false hl)
  clear hm hc hl
  clear hT
  go_enter Tryz.func35, Tryz.ntmps35
  go_wp2_with (first
    | (go_at_call 34; refine (DM.out ▸ many_any n _).mono ?_; rintro e w1 ⟨rfl, rfl⟩)
    | (go_at_call 57; (with_reducible refine (DC.out ▸ counted_any o.c _).mono ?_); rintro e w1 ⟨rfl, rfl⟩)
    | (go_at_call 57; (with_reducible refine (DL.out ▸ counted_any o.l _).mono ?_); rintro e w1 ⟨rfl, rfl⟩))
  go_ret
  exact ⟨rfl, HB.out⟩
set_option maxRecDepth 8000 in
set_option maxHeartbeats 1000000 in
theorem chk_h (o : Oj) (n : Int) (w : World) (hT : Tab w) (hm : 1 ≤ n ∧ n ≤ 64) (hc : 0 ≤ o.c ∧ o.c ≤ 4294967295) (hl : 0 ≤ o.l ∧ o.l ≤ 4294967295) (hh : ¬ o.has n) :
    Calls Tryz.prog 35 #[o.val, .int .i64 n] w fun e w' => e = .returned (.int .i64 2) ∧ Below w.heap.size w w' := by
  have HB := Lib.hid ((Below.refl w.heap.size w).alloc (Nat.le_refl _) (.cells o.cells.toArray 49))
  have HG := Lib.hid (Blk.new w 49 o.cells.toArray).ob
  have HT := Lib.hid hT
  obtain ⟨_, c1, c2⟩ := HG.out.cells
  have DM := Lib.hid (show decide (1 ≤ n ∧ n ≤ 64) = true by simpa using hm)
  have DC := Lib.hid (show decide (0 ≤ o.c ∧ o.c ≤ 4294967295) = true by simpa using hc)
  have DL := Lib.hid (show decide (0 ≤ o.l ∧ o.l ≤ 4294967295) = true by simpa using hl)
  have DH := Lib.hid (Oj.hasB_no hh)
  clear hm hc hl hh
  clear hT
  go_enter Tryz.func35, Tryz.ntmps35
  go_wp2_with (first
    | (go_at_call 34; refine (DM.out ▸ many_any n _).mono ?_; rintro e w1 ⟨rfl, rfl⟩)
    | (go_at_call 57; (with_reducible refine (DC.out ▸ counted_any o.c _).mono ?_); rintro e w1 ⟨rfl, rfl⟩)
    | (go_at_call 57; (with_reducible refine (DL.out ▸ counted_any o.l _).mono ?_); rintro e w1 ⟨rfl, rfl⟩)
    | (refine wpList_yields (S := fun w' => ObAt w' w.heap.size 0 o) (y_ob (by rfl) (.tmp 2) (by rfl) w.heap.size 0 (by rfl) o (fun _ h => h)) HG.out ?_)
    | (go_at_call 58; refine (DH.out ▸ kindHas_any o n _ (HT.out.alloc _)).mono ?_; rintro e w1 ⟨rfl, b1⟩; have HB1 := Lib.hid (HB.out.trans (b1.mono HB.out.size)); clear b1))
  go_ret
  exact ⟨rfl, HB1.out⟩
set_option maxRecDepth 8000 in
set_option maxHeartbeats 1000000 in
theorem chk_y (o : Oj) (n : Int) (w : World) (hT : Tab w) (hm : 1 ≤ n ∧ n ≤ 64) (hc : 0 ≤ o.c ∧ o.c ≤ 4294967295) (hl : 0 ≤ o.l ∧ o.l ≤ 4294967295) (hh : o.has n) :
    Calls Tryz.prog 35 #[o.val, .int .i64 n] w fun e w' => e = .returned (.int .i64 0) ∧ Below w.heap.size w w' := by
  have HB := Lib.hid ((Below.refl w.heap.size w).alloc (Nat.le_refl _) (.cells o.cells.toArray 49))
  have HG := Lib.hid (Blk.new w 49 o.cells.toArray).ob
  have HT := Lib.hid hT
  obtain ⟨_, c1, c2⟩ := HG.out.cells
  have DM := Lib.hid (show decide (1 ≤ n ∧ n ≤ 64) = true by simpa using hm)
  have DC := Lib.hid (show decide (0 ≤ o.c ∧ o.c ≤ 4294967295) = true by simpa using hc)
  have DL := Lib.hid (show decide (0 ≤ o.l ∧ o.l ≤ 4294967295) = true by simpa using hl)
  have DH := Lib.hid (Oj.hasB_yes hh)
  clear hm hc hl hh
  clear hT
  go_enter Tryz.func35, Tryz.ntmps35
  go_wp2_with (first
    | (go_at_call 34; refine (DM.out ▸ many_any n _).mono ?_; rintro e w1 ⟨rfl, rfl⟩)
    | (go_at_call 57; (with_reducible refine (DC.out ▸ counted_any o.c _).mono ?_); rintro e w1 ⟨rfl, rfl⟩)
    | (go_at_call 57; (with_reducible refine (DL.out ▸ counted_any o.l _).mono ?_); rintro e w1 ⟨rfl, rfl⟩)
    | (refine wpList_yields (S := fun w' => ObAt w' w.heap.size 0 o) (y_ob (by rfl) (.tmp 2) (by rfl) w.heap.size 0 (by rfl) o (fun _ h => h)) HG.out ?_)
    | (go_at_call 58; refine (DH.out ▸ kindHas_any o n _ (HT.out.alloc _)).mono ?_; rintro e w1 ⟨rfl, b1⟩; have HB1 := Lib.hid (HB.out.trans (b1.mono HB.out.size)); clear b1))
  go_ret
  exact ⟨rfl, HB1.out⟩
set_option maxRecDepth 8000 in
theorem check_any (o : Oj) (n : Int) (w : World) (hT : Tab w) :
    Calls Tryz.prog 35 #[o.val, .int .i64 n] w fun e w' => e = .returned (.int .i64 (o.chk n)) ∧ Below w.heap.size w w' := by
  by_cases hm : 1 ≤ n ∧ n ≤ 64
  · by_cases hc : 0 ≤ o.c ∧ o.c ≤ 4294967295
    · by_cases hl : 0 ≤ o.l ∧ o.l ≤ 4294967295
      · by_cases hh : o.has n
        · rw [Oj.chk_yes ⟨hm, hc, hl, hh⟩]; exact chk_y o n w hT hm hc hl hh
        · rw [Oj.chk_no fun h => hh h.2.2.2]; exact chk_h o n w hT hm hc hl hh
      · rw [Oj.chk_no fun h => hl h.2.2.1]; exact chk_l o n w hT hm hc hl
    · rw [Oj.chk_no fun h => hc h.2.1]; exact chk_c o n w hT hm hc
  · rw [Oj.chk_no fun h => hm h.1]; exact chk_m o n w hT hm
end Go.Proofs.YtogkdhpnbpgheaaGreatDoor

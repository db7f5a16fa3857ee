/- objects: a Step, steps, a row of objects, as they lie: words. -/
import Derived.Test.YtlhlgfehbfankaaDoorOFr
import Derived.Test.YtlhlgfehbfankaaDoorOPart
import Derived.Test.YtlhlgfehbfankaaDoorONew
namespace Go.Proofs.YtlhlgfehbfankaaDoor
open Go.ChangeShapes Go.WideShapes Go.ChangeAt Go.RowKit
structure Stp where
  puts : Bool
  oid : Int
  o : Oj
def Stp.cells (x : Stp) : List Value := .bool x.puts :: .int .i64 x.oid :: x.o.cells
abbrev Stp.val (x : Stp) : Value := .agg x.cells.toArray
theorem Stp.len (x : Stp) : x.cells.length = 165 := by simp [Stp.cells, x.o.len]
theorem Stp.one (x : Stp) : ∀ u ∈ x.cells, u.oneCell' = true := by
  intro u hu
  simp only [Stp.cells, List.mem_cons] at hu
  rcases hu with rfl | rfl | h
  · rfl
  · rfl
  · exact x.o.one u h
def zs45 : Stp := ⟨false, 0, oz⟩
theorem size45 : (Tryd.prog.info? 45).map (·.size) = some 165 := by kernel_rfl
theorem zero45 : (Tryd.prog.info? 45).map (fun i => (i.zero, i.size)) = some (some zs45.val, 165) := by kernel_rfl
theorem z45 (w : World) : (zeroValue 45).run Tryd.prog w = .ok zs45.val w := (zero_of_info zero45).1 w
theorem zs45_len : zs45.cells.length = 165 := zs45.len
def StpAt (w : World) (b off : Nat) (x : Stp) : Prop := w.rangeAt b off x.cells
section
variable {w w' : World} {b off : Nat} {x : Stp}
theorem StpAt.lt (h : StpAt w b off x) : b < w.heap.size := cell_lt (h 0 _ rfl)
theorem StpAt.below (h : StpAt w b off x) (hb : Below w.heap.size w w') : StpAt w' b off x := fun j v hv => (World.cell?_of_block (a := ⟨b, off + j, none⟩) (hb.block b h.lt)).trans (h j v hv)
theorem StpAt.drew (h : StpAt w b off x) : StpAt w.drew b off x := h
theorem StpAt.c0 (h : StpAt w b off x) : w.cell? ⟨b, off, none⟩ = some (.bool x.puts) := h 0 _ rfl
theorem StpAt.c1 (h : StpAt w b off x) : w.cell? ⟨b, off + 1, none⟩ = some (.int .i64 x.oid) := h 1 _ rfl
theorem StpAt.ob (h : StpAt w b off x) : ObAt w b (off + 2) x.o := fun j v hv => by
  have := h (j + 2) v (by show x.o.cells[j]? = some v; exact hv)
  rw [show off + 2 + j = off + (j + 2) by omega]
  exact this
theorem Blk.stp {t : TypeId} (h : Blk w b t x.cells.toArray) : StpAt w b 0 x := fun j v hv => by
  rw [Nat.zero_add, h.cell]
  simpa using hv
end
theorem StpAt.ob0 {w : World} {b : Nat} {x : Stp} (h : StpAt w b 0 x) : ObAt w b 2 x.o := h.ob
theorem StpAt.setRow {w : World} {b g : Nat} {x : Stp} (h : StpAt w b 0 x) (hne : b ≠ g) (c : Array Value) : StpAt (w.setRow g c) b 0 x := fun j v hv => (World.cell?_of_block (a := ⟨b, 0 + j, none⟩) (setRow_other w g b c hne)).trans (h j v hv)
theorem y_stp {ops : Array Oper} {o : Oper} {a : Act} {S : World → Prop} (hw : Region.wanted o (yielded ops a.tmps) = true) (p : Operand) (ho : o.op = .load 45 p) (g off : Nat) (hx : a.eval p = .pointer (some ⟨g, off, none⟩)) (u : Stp) (hS : ∀ w, S w → StpAt w g off u) : YieldsIf Tryd.prog ops S o u.val a :=
  yieldsIf_load_mid hw 45 p ho g off hx u.cells _ hS Tryd.underlying45 rfl (by rw [u.len]; exact size45)
theorem wpList_store_lastS {ops : Array Oper} {rest : List Oper} {o : Oper} {a : Act} {Q : Exit → Act → World → Prop} {W : World} {t : TypeId} (hgd : o.guard = none) (x y : Operand) (ho : o.op = .store 45 x y) (b : Nat) (hb : b = W.heap.size) (hx : a.eval x = .pointer (some ⟨b, 0, none⟩)) (u u0 : Stp) (hy : a.eval y = u.val)
    (h : wpList Tryd.prog ops Q rest (a.put o.dst undef) (W.alloc (.cells u.cells.toArray t))) : wpList Tryd.prog ops Q (o :: rest) a (W.alloc (.cells u0.cells.toArray t)) := by
  subst hb
  refine wpList_store_row hgd 45 x y ho W.heap.size u.cells.toArray hx hy t u0.cells.toArray (heap_alloc_new W _) (by rw [List.size_toArray, u.len]; exact size45) (by rw [List.size_toArray, List.size_toArray, u.len, u0.len]) (all_oneCell_toArray u.one) ?_
  rw [World.setRow_alloc_new]
  exact h
/-- the steps l lie from A on -/
def RdS (w : World) (A : Option Addr) (l : List Stp) : Prop := ∀ i (h : i < l.length), ∃ b off, A = some ⟨b, off, none⟩ ∧ StpAt w b (off + i * 165) l[i]
theorem RdS.below {w w' : World} {A : Option Addr} {l : List Stp} (h : RdS w A l) (hb : Below w.heap.size w w') : RdS w' A l := fun i hi => by
  obtain ⟨b, off, e, ho⟩ := h i hi
  exact ⟨b, off, e, ho.below hb⟩
-- a row of objects, whole
def ocs : List Oj → List Value
  | [] => []
  | o :: l => o.cells ++ ocs l
theorem ocs_length (l : List Oj) : (ocs l).length = l.length * 163 := by
  induction l with
  | nil => rfl
  | cons o l ih => simp [ocs, o.len, ih]; omega
theorem ocs_get : ∀ (l : List Oj) (i : Nat) (h : i < l.length) (j : Nat), j < 163 → (ocs l)[i * 163 + j]? = l[i].cells[j]?
  | o :: l, 0, _, j, hj => by
    rw [Nat.zero_mul, Nat.zero_add, ocs, List.getElem?_append_left (by rw [o.len]; exact hj)]
    rfl
  | o :: l, i + 1, h, j, hj => by
    have := ocs_get l i (by simpa using h) j hj
    rw [ocs, List.getElem?_append_right (by rw [o.len]; omega), o.len, show (i + 1) * 163 + j - 163 = i * 163 + j by omega, this]
    rfl
theorem ocs_set : ∀ (l : List Oj) (i : Nat) (_ : i < l.length) (o : Oj), (ocs l).take (i * 163) ++ o.cells ++ (ocs l).drop (i * 163 + 163) = ocs (l.set i o)
  | x :: l, 0, _, o => by
    have hx := x.len
    have hd : (x.cells ++ ocs l).drop 163 = ocs l := by rw [← hx, List.drop_left]
    simp [ocs, hd]
  | x :: l, i + 1, h, o => by
    have := ocs_set l i (by simpa using h) o
    have e : (i + 1) * 163 = x.cells.length + i * 163 := by rw [x.len]; omega
    rw [e, ocs, List.set_cons_succ, ocs, ← this, List.take_length_add_append, show x.cells.length + i * 163 + 163 = x.cells.length + (i * 163 + 163) by omega, List.drop_length_add_append]
    simp only [List.append_assoc]
theorem Blk.rdo {w : World} {g : Nat} {t : TypeId} {l : List Oj} (h : Blk w g t (ocs l).toArray) : RdO w (some ⟨g, 0, none⟩) l := fun i hi => by
  refine ⟨g, 0, rfl, fun j v hv => ?_⟩
  have hj : j < 163 := by have := (List.getElem?_eq_some_iff.1 hv).1; rwa [l[i].len] at this
  rw [Nat.zero_add, h.cell, ← hv, ← ocs_get l i hi j hj]
  simp
theorem mkO_ocs (n : Nat) : mkO n = ocs (List.replicate n oz) := by
  apply List.ext_getElem?
  intro q
  have hl1 : (mkO n).length = n * 163 := by simp [mkO, size_madeCells]
  have hl2 : (ocs (List.replicate n oz)).length = n * 163 := by rw [ocs_length, List.length_replicate]
  rcases Nat.lt_or_ge q (n * 163) with hq | hq
  · have h1 : q / 163 < n := Nat.div_lt_of_lt_mul (by rw [Nat.mul_comm]; exact hq)
    have h2 : q % 163 < 163 := Nat.mod_lt _ (by decide)
    have e : q / 163 * 163 + q % 163 = q := by rw [Nat.mul_comm]; exact Nat.div_add_mod q 163
    rw [← e, mkO_get n _ _ h1 h2, ocs_get _ _ (by simpa using h1) _ h2, List.getElem_replicate]
  · rw [List.getElem?_eq_none (by omega), List.getElem?_eq_none (by omega)]
/-- an object is stored into a row that is known whole -/
theorem wpList_store_row_ob {ops : Array Oper} {rest : List Oper} {op : Oper} {a : Act} {Q : Exit → Act → World → Prop} {W : World} {t : TypeId} {b : Nat} {l : List Oj} (hb : Blk W b t (ocs l).toArray) (i : Nat) (hi : i < l.length) (hgd : op.guard = none) (p q : Operand) (ho : op.op = .store 34 p q) (o : Oj) (hx : a.eval p = .pointer (some ⟨b, i * 163, none⟩)) (hy : a.eval q = o.val)
    (h : wpList Tryd.prog ops Q rest (a.put op.dst undef) (W.setRow b (ocs (l.set i o)).toArray)) : wpList Tryd.prog ops Q (op :: rest) a W := by
  refine wpList_plain hgd fun K hK => ?_
  have hl := o.len
  have hfit : i * 163 + 163 ≤ l.length * 163 := by have : (i + 1) * 163 ≤ l.length * 163 := Nat.mul_le_mul_right _ hi; omega
  refine wp_store_part 34 p q ho hb hx hy (by rw [ocs_length, hl]; exact hfit) (by rw [hl]; exact size34) o.one ?_
  rw [hl, ocs_set l i hi o]
  exact hK _ _ h
section
variable {H : Type} {enc : TypeId × Value → H} {W : World} {base : Nat} {spare : Nat → Bool} {held : Bool} {fuel : Nat}
theorem cellsOf45 : Tryd.prog.cellsOf 45 = 165 := by kernel_rfl
set_option maxRecDepth 100000 in
theorem step_cells {cs : List Value} {x : DataW H × List MemPlace} (h : DataW.trod enc Tryd.prog W base spare held fuel 45 cs = some x) : ∃ o : Stp, cs = o.cells := by
  obtain ⟨xs, n, _, _, hl, hn, hel⟩ := DataW.trod_struct Tryd.underlying45 h
  rw [cellsOf45] at hl
  match xs, hn with
  | [y0, y1, y2], _ =>
    have h0 : DataW.trod enc Tryd.prog W base spare held n 4 ((cs.drop 0).take (Tryd.prog.cellsOf 4)) = some y0 := hel 0 _ rfl
    have h1 : DataW.trod enc Tryd.prog W base spare held n 3 ((cs.drop 1).take (Tryd.prog.cellsOf 3)) = some y1 := hel 1 _ rfl
    have h2 : DataW.trod enc Tryd.prog W base spare held n 34 ((cs.drop 2).take (Tryd.prog.cellsOf 34)) = some y2 := hel 2 _ rfl
    rw [show Tryd.prog.cellsOf 4 = 1 by kernel_rfl] at h0
    rw [show Tryd.prog.cellsOf 3 = 1 by kernel_rfl] at h1
    rw [cellsOf34] at h2
    match cs, hl with
    | c0 :: c1 :: cs, hl =>
      obtain ⟨b, e0, _⟩ := bool_of h0
      obtain ⟨q, e1, _, _⟩ := DataW.trod_int Tryd.underlying3 h1
      obtain ⟨o, e2⟩ := object_cells h2
      simp only [List.drop_zero, List.take_succ_cons, List.take_zero, List.drop_succ_cons, List.cons.injEq, and_true] at e0 e1 e2
      subst e0 e1
      refine ⟨⟨b, q, o⟩, ?_⟩
      simp only [Stp.cells, ← e2]
      rw [List.take_of_length_le (by simp at hl; omega)]
theorem open_stp {r : Reach} {b0 : Nat} {v : Value} {d : DataW H} {p : List MemPlace} (hv : Value.okWide Tryd.prog W r b0 45 v) (h : DataW.Trod enc Tryd.prog W base spare held 45 v d p) : ∃ o : Stp, v = o.val := by
  obtain ⟨cs, rfl, _⟩ := okWide_struct Tryd.underlying45 hv
  obtain ⟨f, hf⟩ := h
  obtain ⟨o, ho⟩ := step_cells hf
  refine ⟨o, ?_⟩
  obtain ⟨l⟩ := cs
  simp only [Value.cells] at ho
  subst ho
  rfl
theorem open_stps {r : Reach} {b0 : Nat} {v : Value} {d : DataW H} {p : List MemPlace} (hv : Value.okWide Tryd.prog W r b0 42 v) (h : DataW.Trod enc Tryd.prog W base spare held 42 v d p) :
    ∃ (A : Option Addr) (l : List Stp) (cap : Nat), v = .slice A l.length cap ∧ l.length ≤ cap ∧ cap ≤ maxLen ∧ RdS W A l := by
  obtain ⟨A, len, cap, rfl⟩ := okWide_slice Tryd.underlying42 hv
  obtain ⟨fuel, hf⟩ := h
  rcases Go.Deep.open_slice Tryd.underlying42 hf with ⟨hcs, _⟩ | ⟨a, len', cap', m, n, D, Pl, hcs, hb, hl, hm, hmm, hx, hi⟩
  · simp only [Value.cells, List.cons.injEq, Value.slice.injEq, and_true] at hcs
    obtain ⟨rfl, rfl, rfl⟩ := hcs
    exact ⟨none, [], 0, rfl, Nat.le_refl _, by simp [maxLen], fun i h => absurd h (by simp)⟩
  · simp only [Value.cells, List.cons.injEq, Value.slice.injEq, and_true] at hcs
    obtain ⟨rfl, rfl, rfl⟩ := hcs
    rw [cellsOf45] at hi
    have hlen : len ≤ m := by rw [hmm]; split <;> omega
    have key : ∀ i, i < len → ∃ o : Stp, a.spot = none ∧ StpAt W a.block (a.off + i * 165) o := by
      intro i hil
      obtain ⟨cs', hc, ht⟩ := hi i (by omega)
      obtain ⟨o, rfl⟩ := step_cells ht
      obtain ⟨_, _, hat⟩ := World.cells?_some hc
      have hs' : a.spot = none := by
        obtain ⟨cs0, hc0, ht0⟩ := hi 0 (by omega)
        have h0 := (World.cells?_some hc0).2.2 0 (by decide)
        obtain ⟨o', rfl⟩ := step_cells ht0
        have := World.cell?_spot (h0.trans (show (Stp.cells o')[0]? = some _ from rfl))
        simpa [Addr.add] using this
      refine ⟨o, hs', fun j v hv => ?_⟩
      have e := add_add_flat hs' (i * 165)
      have hj : j < 165 := by have := (List.getElem?_eq_some_iff.1 hv).1; rwa [o.len] at this
      have := hat j hj
      rw [e, add_flat] at this
      rw [this, hv]
    have ex : ∃ l : List Stp, l.length = len ∧ ∀ i (h : i < l.length), a.spot = none ∧ StpAt W a.block (a.off + i * 165) l[i] := by
      refine ⟨(List.range len).map fun i => if h : i < len then (key i h).choose else zs45, by simp, fun i h => ?_⟩
      have hil : i < len := by simpa using h
      simp only [List.getElem_map, List.getElem_range, hil, dif_pos]
      exact (key i hil).choose_spec
    obtain ⟨l, rfl, hl2⟩ := ex
    refine ⟨some a, l, cap, rfl, hl, hm, fun i h => ?_⟩
    obtain ⟨hs, hk⟩ := hl2 i h
    obtain ⟨b, o, s⟩ := a
    simp only at hs
    subst hs
    exact ⟨b, o, rfl, hk⟩
end
end Go.Proofs.YtlhlgfehbfankaaDoor

/- objects: a Step, steps, a row of objects, as they lie: words. -/
import Derived.Test.YteodgefnbmiblaaDoorR13
import Derived.Test.YteodgefnbmiblaaDoorR12
import Derived.Test.YteodgefnbmiblaaDoorR09
import Derived.Test.YteodgefnbmiblaaDoorR11
import Derived.Test.YteodgefnbmiblaaDoorR07
import Derived.Deep.AppendLies
namespace Go.Proofs.YteodgefnbmiblaaDoor
open Go.ChangeShapes Go.WideShapes Go.ChangeAt Go.RowKit
structure Stp where
  puts : Bool
  oid : Int
  o : Oj
def Stp.cells (x : Stp) : List Value := .bool x.puts :: .int .i64 x.oid :: x.o.cells
abbrev Stp.val (x : Stp) : Value := .agg x.cells.toArray
set_option maxRecDepth 8000 in
theorem Stp.len (x : Stp) : x.cells.length = 165 := by simp [Stp.cells, x.o.len]
set_option maxRecDepth 8000 in
theorem Stp.one (x : Stp) : ∀ u ∈ x.cells, u.oneCell' = true := by
  intro u hu
  simp only [Stp.cells, List.mem_cons] at hu
  rcases hu with rfl | rfl | h
  · rfl
  · rfl
  · exact x.o.one u h
def zs45 : Stp := ⟨false, 0, oz⟩
theorem zs45_len : zs45.cells.length = 165 := zs45.len
def StpAt (w : World) (b off : Nat) (x : Stp) : Prop := w.rangeAt b off x.cells
section
variable {w w' : World} {b off : Nat} {x : Stp}
theorem StpAt.lt (h : StpAt w b off x) : b < w.heap.size := cell_lt (h 0 _ rfl)
theorem StpAt.below (h : StpAt w b off x) (hb : Below w.heap.size w w') : StpAt w' b off x := fun j v hv => (World.cell?_of_block (a := ⟨b, off + j, none⟩) (hb.block b h.lt)).trans (h j v hv)
theorem StpAt.drew (h : StpAt w b off x) : StpAt w.drew b off x := h
theorem StpAt.c0 (h : StpAt w b off x) : w.cell? ⟨b, off, none⟩ = some (.bool x.puts) := h 0 _ rfl
theorem StpAt.c1 (h : StpAt w b off x) : w.cell? ⟨b, off + 1, none⟩ = some (.int .i64 x.oid) := h 1 _ rfl
theorem StpAt.ob (h : StpAt w b off x) : ObAt w b (off + 2) x.o := fun j v hv => by
  have := h (j + 2) v (by show x.o.cells[j]? = some v; exact hv)
  rw [show off + 2 + j = off + (j + 2) by omega]
  exact this
theorem Blk.stp {t : TypeId} (h : Blk w b t x.cells.toArray) : StpAt w b 0 x := fun j v hv => by
  rw [Nat.zero_add, h.cell]
  simpa using hv
end
theorem StpAt.ob0 {w : World} {b : Nat} {x : Stp} (h : StpAt w b 0 x) : ObAt w b 2 x.o := h.ob
theorem StpAt.setRow {w : World} {b g : Nat} {x : Stp} (h : StpAt w b 0 x) (hne : b ≠ g) (c : Array Value) : StpAt (w.setRow g c) b 0 x := fun j v hv => (World.cell?_of_block (a := ⟨b, 0 + j, none⟩) (setRow_other w g b c hne)).trans (h j v hv)
/-- the steps l lie from A on -/
def RdS (w : World) (A : Option Addr) (l : List Stp) : Prop := ∀ i (h : i < l.length), ∃ b off, A = some ⟨b, off, none⟩ ∧ StpAt w b (off + i * 165) l[i]
theorem RdS.below {w w' : World} {A : Option Addr} {l : List Stp} (h : RdS w A l) (hb : Below w.heap.size w w') : RdS w' A l := fun i hi => by
  obtain ⟨b, off, e, ho⟩ := h i hi
  exact ⟨b, off, e, ho.below hb⟩
-- a row of objects, whole
def ocs : List Oj → List Value
  | [] => []
  | o :: l => o.cells ++ ocs l
set_option maxRecDepth 8000 in
theorem ocs_length (l : List Oj) : (ocs l).length = l.length * 163 := by
  induction l with
  | nil => rfl
  | cons o l ih => simp [ocs, o.len, ih]; omega
theorem ocs_get : ∀ (l : List Oj) (i : Nat) (h : i < l.length) (j : Nat), j < 163 → (ocs l)[i * 163 + j]? = l[i].cells[j]?
  | o :: l, 0, _, j, hj => by
    rw [Nat.zero_mul, Nat.zero_add, ocs, List.getElem?_append_left (by rw [o.len]; exact hj)]
    rfl
  | o :: l, i + 1, h, j, hj => by
    have := ocs_get l i (by simpa using h) j hj
    rw [ocs, List.getElem?_append_right (by rw [o.len]; omega), o.len, show (i + 1) * 163 + j - 163 = i * 163 + j by omega, this]
    rfl
set_option maxRecDepth 8000 in
theorem ocs_set : ∀ (l : List Oj) (i : Nat) (_ : i < l.length) (o : Oj), (ocs l).take (i * 163) ++ o.cells ++ (ocs l).drop (i * 163 + 163) = ocs (l.set i o)
  | x :: l, 0, _, o => by
    have hx := x.len
    have hd : (x.cells ++ ocs l).drop 163 = ocs l := by rw [← hx, List.drop_left]
    simp [ocs, hd]
  | x :: l, i + 1, h, o => by
    have := ocs_set l i (by simpa using h) o
    have e : (i + 1) * 163 = x.cells.length + i * 163 := by rw [x.len]; omega
    rw [e, ocs, List.set_cons_succ, ocs, ← this, List.take_length_add_append, show x.cells.length + i * 163 + 163 = x.cells.length + (i * 163 + 163) by omega, List.drop_length_add_append]
    simp only [List.append_assoc]
set_option maxRecDepth 8000 in
theorem Blk.rdo {w : World} {g : Nat} {t : TypeId} {l : List Oj} (h : Blk w g t (ocs l).toArray) : RdO w (some ⟨g, 0, none⟩) l := fun i hi => by
  refine ⟨g, 0, rfl, fun j v hv => ?_⟩
  have hj : j < 163 := by have := (List.getElem?_eq_some_iff.1 hv).1; rwa [l[i].len] at this
  rw [Nat.zero_add, h.cell, ← hv, ← ocs_get l i hi j hj]
  simp
set_option maxRecDepth 8000 in
theorem mkO_ocs (n : Nat) : mkO n = ocs (List.replicate n oz) := by
  apply List.ext_getElem?
  intro q
  have hl1 : (mkO n).length = n * 163 := by simp [mkO, size_madeCells]
  have hl2 : (ocs (List.replicate n oz)).length = n * 163 := by rw [ocs_length, List.length_replicate]
  rcases Nat.lt_or_ge q (n * 163) with hq | hq
  · have h1 : q / 163 < n := Nat.div_lt_of_lt_mul (by rw [Nat.mul_comm]; exact hq)
    have h2 : q % 163 < 163 := Nat.mod_lt _ (by decide)
    have e : q / 163 * 163 + q % 163 = q := by rw [Nat.mul_comm]; exact Nat.div_add_mod q 163
    rw [← e, mkO_get n _ _ h1 h2, ocs_get _ _ (by simpa using h1) _ h2, List.getElem_replicate]
  · rw [List.getElem?_eq_none (by omega), List.getElem?_eq_none (by omega)]
set_option maxRecDepth 8000 in
/-- an object is stored into a row that is known whole -/
theorem wpList_store_row_ob {ops : Array Oper} {rest : List Oper} {op : Oper} {a : Act} {Q : Exit → Act → World → Prop} {W : World} {t : TypeId} {b : Nat} {l : List Oj} (hb : Blk W b t (ocs l).toArray) (i : Nat) (hi : i < l.length) (hgd : op.guard = none) (p q : Operand) (ho : op.op = .store 47 p q) (o : Oj) (hx : a.eval p = .pointer (some ⟨b, i * 163, none⟩)) (hy : a.eval q = o.val)
    (h : wpList Tryd.prog ops Q rest (a.put op.dst undef) (W.setRow b (ocs (l.set i o)).toArray)) : wpList Tryd.prog ops Q (op :: rest) a W := by
  refine wpList_plain hgd fun K hK => ?_
  have hl := o.len
  have hfit : i * 163 + 163 ≤ l.length * 163 := by have : (i + 1) * 163 ≤ l.length * 163 := Nat.mul_le_mul_right _ hi; omega
  refine wp_store_part 47 p q ho hb hx hy (by rw [ocs_length, hl]; exact hfit) (by rw [hl]; exact size34) o.one ?_
  rw [hl, ocs_set l i hi o]
  exact hK _ _ h
section
variable {H : Type} {enc : TypeId × Value → H} {W : World} {base : Nat} {spare : Nat → Bool} {held : Bool} {fuel : Nat}
end
end Go.Proofs.YteodgefnbmiblaaDoor
namespace Go.Proofs.YteodgefnbmiblaaDoor
open Go.RowKit
attribute [local go_sem] Oper.semAt_some
section
variable {w : World} {A : Option Addr} {l : List Oj} {cap : Nat}
theorem six_and {a b c d e f g : Prop} (h : a ∧ b ∧ c ∧ d ∧ e ∧ f) (k : g) : a ∧ b ∧ c ∧ d ∧ e ∧ f ∧ g := ⟨h.1, h.2.1, h.2.2.1, h.2.2.2.1, h.2.2.2.2.1, h.2.2.2.2.2, k⟩
set_option maxRecDepth 8000 in
theorem rchk_no2 (x : Ky) (h : ¬ x.ok) (w : World) : Calls Tryd.prog 64 #[x.val] w fun e w' => e = .returned (.int .i64 2) ∧ Below w.heap.size w w' := by
  have := rchk_any x w
  rwa [Ky.chk_no h] at this
end
end Go.Proofs.YteodgefnbmiblaaDoor
namespace Go.Proofs.YteodgefnbmiblaaDoor
open Go.RowKit
section
variable {w : World} {A : Option Addr} {l : List Oj} {cap : Nat}
set_option maxRecDepth 8000 in
theorem cn_oz {x : Ky} : x.cn oz = true ↔ x.ok ∧ ¬ x.of := by
  unfold Ky.cn
  constructor
  · intro h
    have hh : x.ok ∧ (x.of → x.want = 0 ∧ x.c = 0 ∧ (x.k ≠ 7 ∨ x.l = 0)) := by
      unfold Ky.cnt at h
      have h' := @of_decide_eq_true _ (Classical.propDecidable _) h
      exact h'
    refine ⟨hh.1, fun hf => ?_⟩
    have h1 := (hh.2 hf).1
    unfold Ky.want at h1
    rw [if_pos hf] at h1
    split at h1 <;> omega
  · rintro ⟨h1, h2⟩
    exact cnt_yes ⟨h1, fun h => absurd h h2⟩
set_option maxRecDepth 8000 in
theorem prepd_idem (os : List Oj) (x : Ky) : prepd os (prepd os x) = prepd os x := by
  by_cases h : ((named os x).isSome || x.cn oz) = true
  · have e : prepd os x = x := if_pos h
    rw [e, e]
  · have e : prepd os x = zk := if_neg h
    rw [e]
    unfold prepd
    split <;> rfl
end
end Go.Proofs.YteodgefnbmiblaaDoor
namespace Go.Proofs.YteodgefnbmiblaaDoor
open Go.RowKit
set_option maxRecDepth 8000 in
theorem row_cut {L : List Value} {l : List Oj} (h : L.take (l.length * 163) = ocs l) (j : Nat) (hj : j < l.length) (o : Oj) :
    (L.take (j * 163) ++ o.cells ++ L.drop (j * 163 + o.cells.length)).take ((l.set j o).length * 163) = ocs (l.set j o) := by
  have hs := ocs_set l j hj o
  have hn := ocs_length l
  have hle : j * 163 + 163 ≤ (ocs l).length := by rw [hn]; omega
  obtain ⟨Y, rfl⟩ : ∃ Y, L = ocs l ++ Y := ⟨L.drop (l.length * 163), by rw [← h, List.take_append_drop]⟩
  have e1 : (ocs l ++ Y).take (j * 163) = (ocs l).take (j * 163) := List.take_append_of_le_length (by omega)
  have e2 : (ocs l ++ Y).drop (j * 163 + 163) = (ocs l).drop (j * 163 + 163) ++ Y := List.drop_append_of_le_length hle
  have hq : (ocs (l.set j o)).length = l.length * 163 := by rw [ocs_length, List.length_set]
  rw [List.length_set, o.len, e1, e2, ← List.append_assoc, hs, List.take_append_of_le_length (by omega), List.take_of_length_le (by omega)]
set_option maxRecDepth 8000 in
theorem row_rdo {w : World} {g : Nat} {t : TypeId} {L : List Value} {l : List Oj} (h : Blk w g t L.toArray) (hl : L.take (l.length * 163) = ocs l) : RdO w (some ⟨g, 0, none⟩) l := fun i hi => by
  refine ⟨g, 0, rfl, fun j v hv => ?_⟩
  have hj : j < 163 := by have := (List.getElem?_eq_some_iff.1 hv).1; rwa [Oj.len] at this
  have h1 := ocs_get l i hi j hj
  rw [← hl, List.getElem?_take, if_pos (show i * 163 + j < l.length * 163 by omega)] at h1
  rw [Nat.zero_add, h.cell, ← hv, ← h1]
  simp
section
variable {ops : Array Oper} {rest : List Oper} {o : Oper} {a : Act} {Q : Exit → Act → World → Prop} {W : World}
theorem ocs_one : ∀ (l : List Oj), ∀ u ∈ ocs l, u.oneCell' = true
  | [], u, hu => by cases hu
  | x :: l, u, hu => by
    rcases List.mem_append.1 hu with h | h
    · exact x.one u h
    · exact ocs_one l u h
set_option maxRecDepth 8000 in
theorem wpList_append_obs (hgd : o.guard = none) (x : Operand) (ho : o.op = .call { callee := .builtin .append, args := #[.const (.slice none 0 0), x], argTypes := #[22, 22] })
    {A : Option Addr} {n c : Nat} {l : List Oj} (hx : a.eval x = .slice A n c) (hr : RdO W A l) (hn : l.length = n) (h1 : 0 < n) (h64 : n ≤ 1000)
    (h : ∀ (g c' : Nat) (w' : World) (L : List Value), Blk w' g 47 L.toArray → L.take (l.length * 163) = ocs l → l.length * 163 ≤ L.length → n ≤ c' → W.heap.size ≤ g → Below W.heap.size W w' → wpList Tryd.prog ops Q rest (a.put o.dst (.slice (some ⟨g, 0, none⟩) n c')) w') : wpList Tryd.prog ops Q (o :: rest) a W := by
  obtain ⟨i0, hi, hz0, hz1, hz2⟩ := info_parts infoOb
  obtain ⟨b, off, rfl, _⟩ := hr 0 (by omega)
  have hown : W.ownsRow W.heap.size 47 163 (.slice none 0 0) 0 [] := ⟨rfl, .inl ⟨rfl, rfl⟩⟩
  refine wpList_append_lies _ hgd (.const (.slice none 0 0)) x 22 ho W.heap.size 47 i0 oz.val 163 856 Tryd.underlying22 hi hz0 hz1 hz2 (by show oz.cells.toArray.size = 163; rw [List.size_toArray, oz.len]) (by decide) (.slice none 0 0) 0 [] rfl hown ⟨b, off, none⟩ n c (ocs l) hx (by rw [ocs_length, hn]) ?_ (ocs_one l) h1 (by simp only [maxLen]; omega) (by omega) (Nat.le_refl _) _ rfl ?_
  · intro j u hu
    rw [Addr.add_mid]
    have hjl : j < l.length * 163 := by have := (List.getElem?_eq_some_iff.1 hu).1; rwa [ocs_length] at this
    have hq : j / 163 < l.length := Nat.div_lt_of_lt_mul (by omega)
    obtain ⟨b', off', e, ho'⟩ := hr (j / 163) hq
    injection e with e
    injection e with e1 e2
    subst e1 e2
    have hm := ocs_get l (j / 163) hq (j % 163) (Nat.mod_lt _ (by decide))
    have ej : j / 163 * 163 + j % 163 = j := Nat.div_add_mod' j 163
    rw [ej, hu] at hm
    have := ho' (j % 163) u hm.symm
    rwa [Nat.add_assoc, ej] at this
  · intro g c' w' h2 h3 h4 h5
    have hg : g = W.heap.size := by
      rcases h4 with h4 | h4
      · cases h4
      · exact h4
    rw [Nat.zero_add, List.nil_append] at h2
    rcases h2.2 with ⟨he, _⟩ | ⟨g', cap', cur, he, _, hb, hc, _, hcs, ht⟩
    · injection he with he
      cases he
    · injection he with he _ hcc
      injection he with he
      injection he with he
      subst he hcc
      rw [Nat.zero_add]
      have e : cur.toList.length = c' * 163 := by simpa using hcs
      have e2 := Nat.mul_le_mul_right 163 hc
      have hle : l.length * 163 ≤ cur.toList.length := by omega
      refine h g c' w' cur.toList (by simpa [Blk] using hb) (by rw [hn]; exact ht) hle hc (by omega) ⟨h3.os, h3.tape, h3.output, h3.size, fun k hk => h3.block k hk (by intro e; cases e)⟩
end
section
variable {w : World} {A : Option Addr} {l : List Oj} {n cap : Nat}
end
end Go.Proofs.YteodgefnbmiblaaDoor

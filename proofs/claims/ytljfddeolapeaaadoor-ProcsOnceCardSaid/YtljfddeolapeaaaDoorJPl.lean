/- procs: what each call answers, of any store: plain. -/
import Derived.Test.YtljfddeolapeaaaDoorJDef
import Derived.Test.YtljfddeolapeaaaDoorBPl
namespace Go.Proofs.YtljfddeolapeaaaDoor
open Go.RowKit
/-- a process's state -/
def stN (u : Oj) : Option Int := if u.k = 1 ∧ (slt u 2).k = 1 ∧ 0 ≤ (slt u 2).v ∧ (slt u 2).v ≤ 2 then some (slt u 2).v else none
/-- what has an Oid -/
def objA (os : List Oj) (i : Int) : Oj := if 0 ≤ i then (os[i.toNat]?).getD oz else oz
set_option maxRecDepth 8000 in
theorem objA_in (os : List Oj) (j : Nat) (hj : j < os.length) : objA os (j : Int) = os[j] := by
  unfold objA
  rw [if_pos (by omega), Int.toNat_natCast, List.getElem?_eq_getElem hj]
  rfl
set_option maxRecDepth 8000 in
theorem objA_out (os : List Oj) (i : Int) (h : i < 0 ∨ (os.length : Int) ≤ i) : objA os i = oz := by
  unfold objA
  split
  · rw [List.getElem?_eq_none (by omega)]
    rfl
  · rfl
set_option maxRecDepth 8000 in
theorem objA_node {os : List Oj} {i : Int} (h : (objA os i).k ≠ 0) : ∃ j : Nat, i = (j : Int) ∧ j < os.length := by
  by_cases hi : i < 0 ∨ (os.length : Int) ≤ i
  · rw [objA_out os i hi] at h
    exact absurd rfl h
  · exact ⟨i.toNat, by omega, by omega⟩
set_option maxRecDepth 8000 in
theorem objA_set (os : List Oj) (j : Nat) (hj : j < os.length) (o : Oj) (i : Int) : objA (os.set j o) i = if i = (j : Int) then o else objA os i := by
  by_cases h : i = (j : Int)
  · subst h
    rw [if_pos rfl, objA_in _ _ (by rw [List.length_set]; exact hj), List.getElem_set_self]
  · rw [if_neg h]
    unfold objA
    split
    · rw [List.getElem?_set_ne (by omega)]
    · rfl
set_option maxRecDepth 8000 in
theorem stN_k {u : Oj} (h : stN u ≠ none) : u.k = 1 := by
  unfold stN at h
  split at h
  · next h' => exact h'.1
  · exact absurd rfl h
set_option maxRecDepth 8000 in
theorem stN_some {u : Oj} {s : Int} (h : stN u = some s) : u.k = 1 ∧ (slt u 2).k = 1 ∧ (slt u 2).v = s ∧ 0 ≤ s ∧ s ≤ 2 := by
  unfold stN at h
  split at h
  · next h' =>
    injection h with h
    subst h
    exact ⟨h'.1, h'.2.1, rfl, h'.2.2.1, h'.2.2.2⟩
  · cases h
def stA (os : List Oj) (i : Int) : Option Int := stN (objA os i)
theorem stA_in {os : List Oj} {i : Int} (h : stA os i ≠ none) : ∃ j : Nat, i = (j : Int) ∧ j < os.length := objA_node (by rw [stN_k h]; decide)
/-- who runs -/
def runA (os : List Oj) : List Nat := (List.range os.length).filter fun i => decide (stA os (i : Int) = some 1)
/-- a state is given -/
def becA (os : List Oj) (i s : Int) : List Oj × Int :=
  if (objA os i).k = 1 then (if 0 ≤ s ∧ s ≤ 2 then (os.set i.toNat (slotAs (objA os i) 2 (nmk s)), 0) else (os, 2)) else (os, 230)
-- messages
def mayM (os : List Oj) (m : Mg) : Prop := m.d.length ≤ 32 ∧ mayS os.length m.k
noncomputable def cntM (os : List Oj) (m : Mg) : Mg := m.ksAs (m.k.map (prepd os)) (by rw [List.length_map]; exact m.hk)
/-- the bytes of data -/
def hdB (d : List UInt8) : List UInt8 := ((UInt8.ofNat d.length :: d) ++ zbs).take 64
set_option maxRecDepth 8000 in
theorem hdB_len (d : List UInt8) : (hdB d).length = 64 := by
  unfold hdB
  rw [List.length_take, List.length_append, show zbs.length = 64 from rfl]
  omega
set_option maxRecDepth 8000 in
theorem hdB_lay (d : List UInt8) (h : d.length ≤ 63) : lay (zbs.set 0 (UInt8.ofNat d.length)) 1 d = hdB d := by
  have e : zbs.set 0 (UInt8.ofNat d.length) = UInt8.ofNat d.length :: List.replicate 63 0 := rfl
  have ez : zbs = List.replicate 64 0 := rfl
  unfold lay hdB
  rw [e, ez, List.take_append, List.take_of_length_le (show (UInt8.ofNat d.length :: d).length ≤ 64 by simp; omega), List.length_cons, List.take_replicate]
  rw [show (1 + d.length) = d.length + 1 by omega, List.drop_succ_cons, List.drop_replicate]
  simp
  omega
set_option maxRecDepth 8000 in
theorem keysAs_len (u : Oj) (l : List Ky) (h : l.length = 3) : (u.s.take 12 ++ l ++ u.s.drop 15).length = 16 := by
  simp [u.hs, h]
/-- the keys of a message in a node's slots -/
def keysAs (u : Oj) (l : List Ky) (h : l.length = 3) : Oj := { u with s := u.s.take 12 ++ l ++ u.s.drop 15, hs := keysAs_len u l h }
/-- a message is handed over -/
def handO (u : Oj) (m : Mg) (k : Ky) : Oj := slotAs (bAs (slotAs (slotAs (keysAs u m.k m.hk) 15 k) 3 (nmk m.c)) (hdB m.d) (hdB_len _)) 2 (nmk 1)
set_option maxRecDepth 8000 in
theorem oj_ext {u v : Oj} (h0 : u.k = v.k) (h1 : u.c = v.c) (h2 : u.l = v.l) (h3 : u.s = v.s) (h4 : u.b = v.b) : u = v := by
  obtain ⟨k, c, l, s, b, _, _⟩ := u
  obtain ⟨k', c', l', s', b', _, _⟩ := v
  simp only at h0 h1 h2 h3 h4
  subst h0 h1 h2 h3 h4
  rfl
theorem list16 {α : Type} {s : List α} (h : s.length = 16) : ∃ a0 a1 a2 a3 a4 a5 a6 a7 a8 a9 b0 b1 b2 b3 b4 b5, s = [a0, a1, a2, a3, a4, a5, a6, a7, a8, a9, b0, b1, b2, b3, b4, b5] :=
  match s, h with
  | [a0, a1, a2, a3, a4, a5, a6, a7, a8, a9, b0, b1, b2, b3, b4, b5], _ => ⟨a0, a1, a2, a3, a4, a5, a6, a7, a8, a9, b0, b1, b2, b3, b4, b5, rfl⟩
theorem list3 {α : Type} {s : List α} (h : s.length = 3) : ∃ a0 a1 a2, s = [a0, a1, a2] :=
  match s, h with
  | [a0, a1, a2], _ => ⟨a0, a1, a2, rfl⟩
set_option maxRecDepth 8000 in
/-- the same, in the document's order -/
theorem hand_doc (u : Oj) (m : Mg) (k a b c : Ky) (h : m.k = [a, b, c]) : bAs (slotAs (slotAs (slotAs (slotAs (slotAs (slotAs u 2 (nmk 1)) 3 (nmk m.c)) 12 a) 13 b) 14 c) 15 k) (hdB m.d) (hdB_len _) = handO u m k := by
  obtain ⟨c0, d, l, hl⟩ := m
  simp only at h
  subst h
  obtain ⟨uk, uc, ul, s, bb, hs, hb⟩ := u
  obtain ⟨a0, a1, a2, a3, a4, a5, a6, a7, a8, a9, b0, b1, b2, b3, b4, b5, rfl⟩ := list16 hs
  rfl
set_option maxRecDepth 8000 in
/-- where the state was made another one ahead -/
theorem hand_slot2 (u : Oj) (m : Mg) (k y : Ky) : handO (slotAs u 2 y) m k = handO u m k := by
  obtain ⟨c0, d, l, hl⟩ := m
  obtain ⟨x0, x1, x2, rfl⟩ := list3 hl
  obtain ⟨uk, uc, ul, s, bb, hs, hb⟩ := u
  obtain ⟨a0, a1, a2, a3, a4, a5, a6, a7, a8, a9, b0, b1, b2, b3, b4, b5, rfl⟩ := list16 hs
  rfl
theorem slot2_calls (u : Oj) (y : Ky) (q : Int) : callsAs (slotAs u 2 y) q = slotAs (callsAs u q) 2 y := rfl
set_option maxRecDepth 8000 in
theorem hand_slots (u : Oj) (m : Mg) (k : Ky) : ∀ y ∈ (handO u m k).s, y ∈ u.s ∨ y ∈ m.k ∨ y = k ∨ y = nmk m.c ∨ y = nmk 1 := by
  obtain ⟨c0, d, l, hl⟩ := m
  obtain ⟨x0, x1, x2, rfl⟩ := list3 hl
  obtain ⟨uk, uc, ul, s, bb, hs, hb⟩ := u
  obtain ⟨a0, a1, a2, a3, a4, a5, a6, a7, a8, a9, b0, b1, b2, b3, b4, b5, rfl⟩ := list16 hs
  intro y hy
  have hy' : y ∈ [a0, a1, nmk 1, nmk c0, a4, a5, a6, a7, a8, a9, b0, b1, x0, x1, x2, k] := hy
  simp only [List.mem_cons, List.not_mem_nil, or_false] at hy' ⊢
  rcases hy' with h | h | h | h | h | h | h | h | h | h | h | h | h | h | h | h <;> simp [h]
theorem nmk_ok (n : Int) : (nmk n).ok := ⟨1, rfl, by decide, Int.le_refl 0, (by decide : (0 : Int) ≤ kOid 1), Int.le_refl 0, (by decide : (0 : Int) ≤ kCnt 1), Int.le_refl 0, (by decide : (0 : Int) ≤ kCall 1), Int.le_refl 0, (by decide : (0 : Int) ≤ kRts 1), .inr rfl⟩
end Go.Proofs.YtljfddeolapeaaaDoor

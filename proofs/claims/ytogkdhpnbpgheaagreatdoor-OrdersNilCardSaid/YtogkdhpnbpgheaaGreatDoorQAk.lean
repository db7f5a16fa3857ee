/- law 14: an order as an argument. -/
import Derived.Test.YtogkdhpnbpgheaaGreatDoorQKn
import Derived.Test.YtogkdhpnbpgheaaGreatDoorR13
import Derived.ChangeMaps5
namespace Go.Proofs.YtogkdhpnbpgheaaGreatDoor
open Go.ChangeShapes Go.WideShapes Go.ChangeAt Go.RowKit
/-- an order: its key, its message, its time -/
structure Ak where
  x : Ky
  c : Int
  d : List UInt8
  k : List Ky
  hk : k.length = 3
  n : Int
def Ak.mg (a : Ak) : List Value := .int .i64 a.c :: .string (st a.d) :: kcs a.k
set_option maxRecDepth 8000 in
theorem Ak.mg_len (a : Ak) : a.mg.length = 20 := by simp [Ak.mg, kcs_length, a.hk]
def Ak.cells (a : Ak) : List Value := kl a.x ++ (a.mg ++ [.int .i64 a.n])
abbrev Ak.val (a : Ak) : Value := .agg a.cells.toArray
set_option maxRecDepth 8000 in
theorem Ak.len (a : Ak) : a.cells.length = 27 := by simp [Ak.cells, kl_len, a.mg_len]
set_option maxRecDepth 8000 in
theorem sizeAk : (Tryz.prog.info? 38).map (·.size) = some 27 := by kernel_rfl
set_option maxRecDepth 8000 in
theorem cellsOfAk : Tryz.prog.cellsOf 38 = 27 := by kernel_rfl
set_option maxRecDepth 8000 in
theorem ocellsOfM : Tryz.prog.cellsOf 36 = 20 := by kernel_rfl
set_option maxRecDepth 8000 in
theorem ocellsOf3k : Tryz.prog.cellsOf 34 = 18 := by kernel_rfl
set_option maxRecDepth 8000 in
theorem ocellsOf30 : Tryz.prog.cellsOf 33 = 6 := by kernel_rfl
section
variable {H : Type} {enc : TypeId × Value → H} {W : World} {base : Nat} {spare : Nat → Bool} {held : Bool} {fuel : Nat}
set_option maxRecDepth 8000 in
theorem ok3_cells {cs : List Value} {x : DataW H × List MemPlace} (h : DataW.trod enc Tryz.prog W base spare held fuel 34 cs = some x) : ∃ l : List Ky, l.length = 3 ∧ cs = kcs l := by
  obtain ⟨xs, n, _, _, hl, hn, hel⟩ := DataW.trod_array Tryz.underlying34 h
  rw [ocellsOf3k] at hl
  rw [ocellsOf30] at hel
  refine keys_of_chunks 3 cs hl (fun i hi => ?_)
  have := hel i hi
  rw [List.getElem?_eq_getElem (by omega)] at this
  obtain ⟨y, hy⟩ := key_cells this
  exact ⟨y, hy⟩
theorem ost_of (s : ByteArray) : ∃ d : List UInt8, s = st d := ⟨s.data.toList, by cases s; rfl⟩
set_option maxRecDepth 100000 in
theorem omg_cells {cs : List Value} {x : DataW H × List MemPlace} (h : DataW.trod enc Tryz.prog W base spare held fuel 36 cs = some x) : ∃ (c : Int) (d : List UInt8) (l : List Ky), l.length = 3 ∧ cs = .int .i64 c :: .string (st d) :: kcs l := by
  obtain ⟨xs, n, _, _, hl, hn, hel⟩ := DataW.trod_struct Tryz.underlying36 h
  rw [ocellsOfM] at hl
  match xs, hn with
  | [y0, y1, y2], _ =>
    have h0 : DataW.trod enc Tryz.prog W base spare held n 2 ((cs.drop 0).take (Tryz.prog.cellsOf 2)) = some y0 := hel 0 _ rfl
    have h1 : DataW.trod enc Tryz.prog W base spare held n 9 ((cs.drop 1).take (Tryz.prog.cellsOf 9)) = some y1 := hel 1 _ rfl
    have h2 : DataW.trod enc Tryz.prog W base spare held n 34 ((cs.drop 2).take (Tryz.prog.cellsOf 34)) = some y2 := hel 2 _ rfl
    rw [show Tryz.prog.cellsOf 2 = 1 by kernel_rfl] at h0
    rw [show Tryz.prog.cellsOf 9 = 1 by kernel_rfl] at h1
    rw [ocellsOf3k] at h2
    match cs, hl with
    | c0 :: c1 :: cs, hl =>
      obtain ⟨p, e0, _, _⟩ := DataW.trod_int Tryz.underlying2 h0
      obtain ⟨s, e1, _, _⟩ := DataW.trod_string Tryz.underlying9 h1
      obtain ⟨l, hll, e2⟩ := ok3_cells h2
      obtain ⟨d, rfl⟩ := ost_of s
      simp only [List.drop_zero, List.take_succ_cons, List.take_zero, List.drop_succ_cons, List.cons.injEq, and_true] at e0 e1 e2
      rw [List.take_of_length_le (by simp at hl ⊢; omega)] at e2
      subst e0 e1 e2
      exact ⟨p, d, l, hll, rfl⟩
set_option maxRecDepth 100000 in
theorem ak_cells {cs : List Value} {x : DataW H × List MemPlace} (h : DataW.trod enc Tryz.prog W base spare held fuel 38 cs = some x) : ∃ o : Ak, cs = o.cells := by
  obtain ⟨xs, n, _, _, hl, hn, hel⟩ := DataW.trod_struct Tryz.underlying38 h
  rw [cellsOfAk] at hl
  match xs, hn with
  | [y0, y1, y2], _ =>
    have h0 : DataW.trod enc Tryz.prog W base spare held n 33 ((cs.drop 0).take (Tryz.prog.cellsOf 33)) = some y0 := hel 0 _ rfl
    have h1 : DataW.trod enc Tryz.prog W base spare held n 36 ((cs.drop 6).take (Tryz.prog.cellsOf 36)) = some y1 := hel 1 _ rfl
    have h2 : DataW.trod enc Tryz.prog W base spare held n 2 ((cs.drop 26).take (Tryz.prog.cellsOf 2)) = some y2 := hel 2 _ rfl
    rw [show Tryz.prog.cellsOf 2 = 1 by kernel_rfl] at h2
    rw [ocellsOf30] at h0
    rw [ocellsOfM] at h1
    obtain ⟨y, e0⟩ := key_cells h0
    obtain ⟨c, d, l, hll, e1⟩ := omg_cells h1
    obtain ⟨q, e2, _, _⟩ := DataW.trod_int Tryz.underlying2 h2
    refine ⟨⟨y, c, d, l, hll, q⟩, ?_⟩
    have e : cs = (cs.drop 0).take 6 ++ ((cs.drop 6).take 20 ++ (cs.drop 26).take 1) := by
      rw [List.drop_zero, List.take_of_length_le (l := cs.drop 26) (by simp; omega), show cs.drop 26 = (cs.drop 6).drop 20 by rw [List.drop_drop], List.take_append_drop, List.take_append_drop]
    rw [e, e0, e1, e2]
    rfl
set_option maxRecDepth 8000 in
theorem open_ak {r : Reach} {b0 : Nat} {v : Value} {d : DataW H} {p : List MemPlace} (hv : Value.okWide Tryz.prog W r b0 38 v) (h : DataW.Trod enc Tryz.prog W base spare held 38 v d p) : ∃ o : Ak, v = o.val := by
  obtain ⟨cs, rfl, _⟩ := okWide_struct Tryz.underlying38 hv
  obtain ⟨f, hf⟩ := h
  obtain ⟨o, ho⟩ := ak_cells hf
  refine ⟨o, ?_⟩
  obtain ⟨l⟩ := cs
  simp only [Value.cells] at ho
  subst ho
  rfl
end
end Go.Proofs.YtogkdhpnbpgheaaGreatDoor

/- codec: comparing of sectors; objects and sectors that came in: words. -/
import Derived.Test.YtfclkkbmgclfgaaDoorFr3
namespace Go.Proofs.YtfclkkbmgclfgaaDoor
open Go.ChangeShapes Go.WideShapes Go.ChangeAt Go.RowKit
section
variable (w : World)
set_option maxRecDepth 8000 in
theorem sec_equalIn (d : Nat) (l l' : List UInt8) (h : l.length = 512) (h' : l'.length = 512) : (Op.equalIn (d + 2) 44 (.agg (bv l).toArray) (.agg (bv l').toArray)).run Tryd.prog w = .ok (decide (l = l')) w := by
  obtain ⟨i, hi⟩ := info_some size8
  have hc : Tryd.prog.cellsOf 5 = 1 := by kernel_rfl
  rw [show d + 2 = (d + 1) + 1 from rfl, run_equalIn_array w (d + 1) _ _ Tryd.underlying44 hi, hc, ob_items8 w d l l' _ (fun j hj => by have := List.mem_range.1 hj; omega), all_range_of l l' 512 h h']
set_option maxRecDepth 8000 in
theorem sec_eql (l l' : List UInt8) (h : l.length = 512) (h' : l'.length = 512) : (binOp .eql 44 (sv l) (sv l')).run Tryd.prog w = .ok (.bool (decide (l = l'))) w := by
  rw [run_eql_struct, sec_equalIn w 9998 l l' h h']
  rfl
set_option maxRecDepth 8000 in
theorem sec_neq (l l' : List UInt8) (h : l.length = 512) (h' : l'.length = 512) : (binOp .neq 44 (sv l) (sv l')).run Tryd.prog w = .ok (.bool (!decide (l = l'))) w := by
  rw [run_neq_struct, sec_equalIn w 9998 l l' h h']
  rfl
end
section
variable {ops : Array Oper} {o : Oper} {a : Act} {S : World → Prop} {p q : Operand}
set_option maxRecDepth 8000 in
theorem y_seceq (hw : Region.wanted o (yielded ops a.tmps) = true) (ho : o.op = .binOp .eql 44 p q 44) (x y : List UInt8) (hl : x.length = 512) (hl' : y.length = 512) (b : Bool) (hb : decide (x = y) = b) (hx : a.eval p = sv x) (hy : a.eval q = sv y) : YieldsIf Tryd.prog ops S o (.bool b) a := by
  have := y_bin (S := S) hw ho hx hy (by kernel_rfl) (fun w => sec_eql w x y hl hl')
  rwa [hb] at this
set_option maxRecDepth 8000 in
theorem y_secne (hw : Region.wanted o (yielded ops a.tmps) = true) (ho : o.op = .binOp .neq 44 p q 44) (x y : List UInt8) (hl : x.length = 512) (hl' : y.length = 512) (b : Bool) (hb : (!decide (x = y)) = b) (hx : a.eval p = sv x) (hy : a.eval q = sv y) : YieldsIf Tryd.prog ops S o (.bool b) a := by
  have := y_bin (S := S) hw ho hx hy (by kernel_rfl) (fun w => sec_neq w x y hl hl')
  rwa [hb] at this
end
/-- chunks of a list, each known, are the list -/
theorem keys_of_chunks : ∀ (n : Nat) (cs : List Value), cs.length = n * 6 → (∀ i, i < n → ∃ y : Ky, (cs.drop (i * 6)).take 6 = kl y ∧ y.vb) → ∃ l : List Ky, l.length = n ∧ cs = kcs l ∧ ∀ x ∈ l, x.vb
  | 0, cs, hl, _ => ⟨[], rfl, by cases cs with | nil => rfl | cons => simp at hl, fun x hx => by cases hx⟩
  | n + 1, cs, hl, h => by
    obtain ⟨y, hy, hyb⟩ := h 0 (by omega)
    obtain ⟨l, hll, hlc, hlb⟩ := keys_of_chunks n (cs.drop 6) (by rw [List.length_drop]; omega) (fun i hi => by
      obtain ⟨z, hz, hzb⟩ := h (i + 1) (by omega)
      exact ⟨z, by rw [List.drop_drop, show 6 + i * 6 = (i + 1) * 6 by omega]; exact hz, hzb⟩)
    refine ⟨y :: l, by simp [hll], ?_, fun x hx => (List.mem_cons.1 hx).elim (fun e => e ▸ hyb) (hlb x)⟩
    rw [Nat.zero_mul, List.drop_zero] at hy
    rw [kcs, ← hy, ← hlc, List.take_append_drop]
set_option maxRecDepth 8000 in
theorem bytes_of_cells : ∀ (cs : List Value), (∀ i (h : i < cs.length), ∃ b : UInt8, cs[i] = .int .u8 (b.toNat : Int)) → ∃ l : List UInt8, cs = bv l
  | [], _ => ⟨[], rfl⟩
  | c :: cs, h => by
    obtain ⟨b, hb⟩ := h 0 (by simp)
    obtain ⟨l, rfl⟩ := bytes_of_cells cs (fun i hi => h (i + 1) (by simpa using hi))
    exact ⟨b :: l, by simp only [List.getElem_cons_zero] at hb; rw [hb]; rfl⟩
section
variable {H : Type} {enc : TypeId × Value → H} {W : World} {base : Nat} {spare : Nat → Bool} {held : Bool} {fuel : Nat}
set_option maxRecDepth 8000 in
theorem cellsOf30 : Tryd.prog.cellsOf 26 = 6 := by kernel_rfl
set_option maxRecDepth 8000 in
theorem cellsOf31 : Tryd.prog.cellsOf 27 = 96 := by kernel_rfl
set_option maxRecDepth 8000 in
theorem cellsOf32 : Tryd.prog.cellsOf 28 = 64 := by kernel_rfl
set_option maxRecDepth 8000 in
theorem cellsOf34 : Tryd.prog.cellsOf 30 = 163 := by kernel_rfl
set_option maxRecDepth 8000 in
theorem slots_cells {cs : List Value} {x : DataW H × List MemPlace} (h : DataW.trod enc Tryd.prog W base spare held fuel 27 cs = some x) : ∃ l : List Ky, l.length = 16 ∧ cs = kcs l ∧ ∀ x ∈ l, x.vb := by
  obtain ⟨xs, n, _, _, hl, hn, hel⟩ := DataW.trod_array Tryd.underlying27 h
  rw [cellsOf31] at hl
  rw [cellsOf30] at hel
  refine keys_of_chunks 16 cs hl (fun i hi => ?_)
  have := hel i hi
  rw [List.getElem?_eq_getElem (by omega)] at this
  obtain ⟨y, hy, hyb⟩ := key_cellsv this
  exact ⟨y, hy, hyb⟩
set_option maxRecDepth 8000 in
theorem bytes_cells {cs : List Value} {x : DataW H × List MemPlace} (h : DataW.trod enc Tryd.prog W base spare held fuel 28 cs = some x) : ∃ l : List UInt8, l.length = 64 ∧ cs = bv l := by
  obtain ⟨xs, n, _, _, hl, hn, hel⟩ := DataW.trod_array Tryd.underlying28 h
  have c1 : Tryd.prog.cellsOf 5 = 1 := by kernel_rfl
  rw [cellsOf32] at hl
  rw [c1] at hel
  obtain ⟨l, rfl⟩ := bytes_of_cells cs (fun i hi => by
    have := hel i (by omega)
    rw [List.getElem?_eq_getElem (by omega), Nat.mul_one, List.drop_eq_getElem_cons hi, List.take_succ_cons, List.take_zero] at this
    obtain ⟨q, hq, _, hw⟩ := DataW.trod_int Tryd.underlying5 this
    simp only [List.cons.injEq, and_true] at hq
    have h1 : IntKind.u8.min = 0 := rfl
    have h2 : IntKind.u8.max = 255 := rfl
    simp only [Lit.wf, Bool.and_eq_true, decide_eq_true_eq] at hw
    exact ⟨UInt8.ofNat q.toNat, by rw [hq]; congr 1; simp; omega⟩)
  exact ⟨l, by rw [← bv_length, hl], rfl⟩
set_option maxRecDepth 100000 in
theorem object_cells {cs : List Value} {x : DataW H × List MemPlace} (h : DataW.trod enc Tryd.prog W base spare held fuel 30 cs = some x) : ∃ o : Oj, cs = o.cells ∧ ∀ x ∈ o.s, x.vb := by
  obtain ⟨xs, n, _, _, hl, hn, hel⟩ := DataW.trod_struct Tryd.underlying30 h
  rw [cellsOf34] at hl
  have c1 : ∀ t, t = 22 ∨ t = 2 → Tryd.prog.cellsOf t = 1 := by
    intro t ht
    rcases ht with rfl | rfl <;> kernel_rfl
  have g : ∀ (off : Nat) (t : TypeId) (x : DataW H × List MemPlace), (t = 22 ∨ t = 2) → off < 163 → DataW.trod enc Tryd.prog W base spare held n t ((cs.drop off).take (Tryd.prog.cellsOf t)) = some x → ∃ q : Int, cs[off]? = some (.int .i64 q) := by
    intro off t x ht hoff hx
    rw [c1 t ht, List.drop_eq_getElem_cons (by omega)] at hx
    simp only [List.take_succ_cons, List.take_zero] at hx
    have hu : Tryd.prog.underlying t = some (.int .i64) := by
      rcases ht with rfl | rfl
      · exact Tryd.underlying22
      · exact Tryd.underlying2
    obtain ⟨q, hq, _, _⟩ := DataW.trod_int hu hx
    simp only [List.cons.injEq, and_true] at hq
    exact ⟨q, by rw [List.getElem?_eq_getElem (by omega), hq]⟩
  match xs, hn with
  | [y0, y1, y2, y3, y4], _ =>
    obtain ⟨q0, e0⟩ := g 0 22 y0 (.inl rfl) (by decide) (hel 0 _ rfl)
    obtain ⟨q1, e1⟩ := g 1 2 y1 (.inr rfl) (by decide) (hel 1 _ rfl)
    obtain ⟨q2, e2⟩ := g 2 2 y2 (.inr rfl) (by decide) (hel 2 _ rfl)
    have h3 : DataW.trod enc Tryd.prog W base spare held n 27 ((cs.drop 3).take (Tryd.prog.cellsOf 27)) = some y3 := hel 3 _ rfl
    have h4 : DataW.trod enc Tryd.prog W base spare held n 28 ((cs.drop 99).take (Tryd.prog.cellsOf 28)) = some y4 := hel 4 _ rfl
    obtain ⟨s, hs, es, hsv⟩ := slots_cells h3
    obtain ⟨b, hb, eb⟩ := bytes_cells h4
    rw [cellsOf31] at es
    rw [cellsOf32] at eb
    refine ⟨⟨q0, q1, q2, s, b, hs, hb⟩, ?_, hsv⟩
    match cs, e0, e1, e2, es, eb, hl with
    | c0 :: c1 :: c2 :: cs, e0, e1, e2, es, eb, hl =>
      simp only [List.getElem?_cons_zero, List.getElem?_cons_succ, Option.some.injEq] at e0 e1 e2
      subst e0 e1 e2
      simp only [Oj.cells, List.cons.injEq, true_and]
      have es' : cs.take 96 = kcs s := es
      have eb' : (cs.drop 96).take 64 = bv b := eb
      rw [← es', ← eb', List.take_of_length_le (l := cs.drop 96) (by simp at hl ⊢; omega), List.take_append_drop]
set_option maxRecDepth 8000 in
/-- an object that came in -/
theorem open_ob {r : Reach} {b0 : Nat} {v : Value} {d : DataW H} {p : List MemPlace} (hv : Value.okWide Tryd.prog W r b0 30 v) (h : DataW.Trod enc Tryd.prog W base spare held 30 v d p) : ∃ o : Oj, v = o.val ∧ ∀ x ∈ o.s, x.vb := by
  obtain ⟨cs, rfl, _⟩ := okWide_struct Tryd.underlying30 hv
  obtain ⟨f, hf⟩ := h
  obtain ⟨o, ho, hov⟩ := object_cells hf
  refine ⟨o, ?_, hov⟩
  obtain ⟨l⟩ := cs
  simp only [Value.cells] at ho
  subst ho
  rfl
set_option maxRecDepth 8000 in
theorem cellsOf512 : Tryd.prog.cellsOf 44 = 512 := by kernel_rfl
set_option maxRecDepth 8000 in
theorem sec_cells {cs : List Value} {x : DataW H × List MemPlace} (h : DataW.trod enc Tryd.prog W base spare held fuel 44 cs = some x) : ∃ l : List UInt8, l.length = 512 ∧ cs = bv l := by
  obtain ⟨xs, n, _, _, hl, hn, hel⟩ := DataW.trod_array Tryd.underlying44 h
  have c1 : Tryd.prog.cellsOf 5 = 1 := by kernel_rfl
  rw [cellsOf512] at hl
  rw [c1] at hel
  obtain ⟨l, rfl⟩ := bytes_of_cells cs (fun i hi => by
    have := hel i (by omega)
    rw [List.getElem?_eq_getElem (by omega), Nat.mul_one, List.drop_eq_getElem_cons hi, List.take_succ_cons, List.take_zero] at this
    obtain ⟨q, hq, _, hw⟩ := DataW.trod_int Tryd.underlying5 this
    simp only [List.cons.injEq, and_true] at hq
    have h1 : IntKind.u8.min = 0 := rfl
    have h2 : IntKind.u8.max = 255 := rfl
    simp only [Lit.wf, Bool.and_eq_true, decide_eq_true_eq] at hw
    exact ⟨UInt8.ofNat q.toNat, by rw [hq]; congr 1; simp; omega⟩)
  exact ⟨l, by rw [← bv_length, hl], rfl⟩
set_option maxRecDepth 8000 in
theorem okWide_row {P : Program} {w : World} {r : Reach} {b0 : Nat} {t e : TypeId} {k : Nat} {v : Value} (ht : P.underlying t = some (.array k e)) (h : Value.okWide P w r b0 t v) : ∃ cs, v = .agg cs ∧ cs.size = P.cellsOf t := by
  simp only [Value.okWide, ht] at h
  obtain ⟨cs, h1, h2, _⟩ := h
  exact ⟨cs, h1, h2⟩
set_option maxRecDepth 8000 in
/-- a sector that came in -/
theorem open_sec {r : Reach} {b0 : Nat} {v : Value} {d : DataW H} {p : List MemPlace} (hv : Value.okWide Tryd.prog W r b0 44 v) (h : DataW.Trod enc Tryd.prog W base spare held 44 v d p) : ∃ l : List UInt8, v = sv l ∧ l.length = 512 := by
  obtain ⟨cs, rfl, _⟩ := okWide_row Tryd.underlying44 hv
  obtain ⟨f, hf⟩ := h
  obtain ⟨l, hl, hc⟩ := sec_cells hf
  refine ⟨l, ?_, hl⟩
  obtain ⟨q⟩ := cs
  simp only [Value.cells] at hc
  subst hc
  rfl
end
end Go.Proofs.YtfclkkbmgclfgaaDoor

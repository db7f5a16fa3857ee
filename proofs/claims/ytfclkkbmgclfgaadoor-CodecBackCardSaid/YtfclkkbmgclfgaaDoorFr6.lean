/- codec: the definition's GetKey of any bytes; bytes that came in: words. -/
import Derived.Test.YtfclkkbmgclfgaaDoorFr2
import Derived.Test.YtfclkkbmgclfgaaDoorFr4
import Derived.ShutString
namespace Go.Proofs.YtfclkkbmgclfgaaDoor
open Go.ChangeShapes Go.WideShapes Go.ChangeAt Go.RowKit
theorem lit0 (w : World) : (w.alloc (.cells #[] 5)).ownsRow w.heap.size 5 1 (.slice (some ⟨w.heap.size, 0, none⟩) 0 0) 0 (bv []) := World.ownsRow_lit w #[] 0 (Nat.le_refl _) (Nat.zero_le _) rfl
theorem below_lit0 (w : World) : Below w.heap.size w (w.alloc (.cells #[] 5)) := (Below.refl _ _).alloc (Nat.le_refl _) _
set_option maxRecDepth 8000 in
theorem cut_more (g k cap : Nat) (h : k + 1 ≤ cap) (hk : k ≤ 3000) (W : World) : (Instr.slice 31 (.slice (some ⟨g, 0, none⟩) k cap) none (some (.int .i64 ((k : Int) + 1))) none).run Tryd.prog W = .ok (.slice (some ⟨g, 0, none⟩) (k + 1) cap) W := by
  have hw2 : (0 : Int) ≤ (k : Int) + 1 := by omega
  have hw3 : (k : Int) + 1 ≤ (cap : Int) := by omega
  have hw4 : ((k : Int) + 1).toNat = k + 1 := by omega
  have hw1 : IntKind.i64.wrap ((k : Int) + 1) = (k : Int) + 1 := wrap_i64_of _ hw2 (by omega)
  go_simp
set_option maxRecDepth 8000 in
theorem at_end {w : World} {g n : Nat} {l : List UInt8} (hn : l.length = n) (h : Rd w (some ⟨g, 0, none⟩) (l ++ [77])) : w.cell? ⟨g, n, none⟩ = some (.int .u8 77) := by
  have := byte_of_range (rd_range h) n (by simp [hn])
  rw [Nat.zero_add] at this
  rw [this]
  simp [← hn]
set_option maxRecDepth 8000 in
theorem y_kyeq_of {ops : Array Oper} {o : Oper} {a : Act} {S : World → Prop} {p q : Operand} (hw : Region.wanted o (yielded ops a.tmps) = true) (ho : o.op = .binOp .eql 26 p q 26) (x y : Ky) (b : Bool) (hb : decide (x = y) = b) (hx : a.eval p = x.val) (hy : a.eval q = y.val) : YieldsIf Tryd.prog ops S o (.bool b) a := by
  have := y_kyeq (S := S) hw ho x y hx hy
  rwa [hb] at this
set_option maxRecDepth 8000 in
theorem rd_some {w : World} {A : Option Addr} {l : List UInt8} (h : Rd w A l) (hl : 0 < l.length) : ∃ b off, A = some ⟨b, off, none⟩ := by
  obtain ⟨b, off, e, _⟩ := h 0 hl
  exact ⟨b, off, e⟩
def IsRow (k : IntKind) (w : World) (a : Option Addr) (len cap : Nat) (zs : List Int) : Prop :=
  (a = none ∧ len = 0 ∧ cap = 0 ∧ zs = []) ∨
  ∃ x, a = some x ∧ len ≤ cap ∧ cap ≤ maxLen ∧ zs.length = cap ∧ (∀ i, i < zs.length → w.cell? (x.add i) = some (.int k (zs.getD i 0))) ∧ ∀ n ∈ zs, (Lit.int k n).wf = true
set_option maxRecDepth 8000 in
theorem wf_u8 {n : Int} (h : (Lit.int .u8 n).wf = true) : 0 ≤ n ∧ n ≤ 255 := by
  have h1 : IntKind.u8.min = 0 := rfl
  have h2 : IntKind.u8.max = 255 := rfl
  simp only [Lit.wf, Bool.and_eq_true, decide_eq_true_eq] at h
  omega
set_option maxRecDepth 8000 in
theorem row_bytes {w : World} {a : Option Addr} {len cap : Nat} {zs : List Int} (h : IsRow .u8 w a len cap zs) : ∃ l : List UInt8, l.length = len ∧ len ≤ cap ∧ Rd w a l := by
  rcases h with ⟨rfl, rfl, rfl, _⟩ | ⟨x, rfl, hl, hm, hz, hc, hw⟩
  · exact ⟨[], rfl, Nat.le_refl _, Rd.none_⟩
  · refine ⟨(zs.take len).map fun z => UInt8.ofNat z.toNat, by simp; omega, hl, ?_⟩
    intro j hj
    have hj' : j < zs.length := by simp at hj; omega
    have hcell := hc j hj'
    have hspot : x.spot = none := by
      have := World.cell?_spot (hc 0 (by omega))
      simpa [Addr.add] using this
    obtain ⟨b, off, spot⟩ := x
    simp only at hspot
    subst hspot
    refine ⟨b, off, rfl, ?_⟩
    rw [add_flat] at hcell
    rw [hcell, List.getD_eq_getElem?_getD, List.getElem?_eq_getElem hj']
    have hb := wf_u8 (hw _ (List.getElem_mem hj'))
    congr 2
    simp
    omega
set_option maxRecDepth 8000 in
theorem open_by {H : Type} {enc : TypeId × Value → H} {W : World} {base : Nat} {held : Bool} {a0 : Option Addr} {len0 cap0 : Nat} {d : DataW H} {p : List MemPlace} (h : DataW.Trod enc Tryd.prog W base (fun _ => true) held 31 (.slice a0 len0 cap0) d p) : ∃ l : List UInt8, l.length = len0 ∧ len0 ≤ cap0 ∧ Rd W a0 l := by
  obtain ⟨fuel, hf⟩ := h
  rcases open_ints Tryd.underlying31 Tryd.underlying5 (by kernel_rfl) hf with ⟨hcs, _⟩ | ⟨x, l, c, zs, hcs, _, hl, hm, hz, _, hcell, hwz⟩
  · simp [Value.cells] at hcs
    obtain ⟨rfl, rfl, rfl⟩ := hcs
    exact row_bytes (.inl ⟨rfl, rfl, rfl, rfl⟩ : IsRow .u8 W none 0 0 [])
  · simp [Value.cells] at hcs
    obtain ⟨rfl, rfl, rfl⟩ := hcs
    exact row_bytes (.inr ⟨_, rfl, hl, hm, by simpa using hz, hcell, hwz⟩)
end Go.Proofs.YtfclkkbmgclfgaaDoor

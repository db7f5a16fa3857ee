/- Small words for the laws: a copy of bytes that the law makes. -/
import Derived.Test.YtgpggodabalakaaSumsGet
namespace Go.Proofs.Ytgpggodabalakaa
open Go.RowKit
theorem Rd.at0 {w : World} {g : Nat} {l : List UInt8} (h : Rd w (some ⟨g, 0, none⟩) l) (j : Nat) (x : UInt8) (hx : l[j]? = some x) : w.cell? ⟨g, j, none⟩ = some (.int .u8 (x.toNat : Int)) := by
  obtain ⟨hj, rfl⟩ := List.getElem?_eq_some_iff.1 hx
  obtain ⟨b, off, e, hc⟩ := h j hj
  injection e with e
  injection e with e1 e2
  subst e1; subst e2
  rw [← hc, Nat.zero_add]
theorem lit0 (w : World) : (w.alloc (.cells #[] 5)).ownsRow w.heap.size 5 1 (.slice (some ⟨w.heap.size, 0, none⟩) 0 0) 0 (bv []) := World.ownsRow_lit w #[] 0 (Nat.le_refl _) (Nat.zero_le _) rfl
theorem below_lit0 (w : World) : Below w.heap.size w (w.alloc (.cells #[] 5)) := (Below.refl _ _).alloc (Nat.le_refl _) _
theorem cast_nonneg (n : Nat) : (0 : Int) ≤ (n : Int) := by omega
theorem cast_le_of {a b : Nat} (h : a ≤ b) : (a : Int) ≤ (b : Int) := by omega
theorem rd77 (w : World) (t : TypeId) : Rd (w.alloc (.cells #[.int .u8 77] t)) (some ⟨w.heap.size, 0, none⟩) [77] := rd_new w 77 t rfl
end Go.Proofs.Ytgpggodabalakaa

/- Reading a list of bytes out of memory; a list of bytes that a call has made: words and their laws, over any world. -/
import Derived.WalkKit
import Derived.Below
import Derived.Laws.OwnMore
import Derived.Deep.AppendLies
import Derived.Deep.Draws
import Derived.Lib.Hide
namespace Go.Proofs.Ytokbghpddgfnpaa
open Go.RowKit
/-- the cells of bytes -/
def bv (l : List UInt8) : List Value := l.map fun x => .int .u8 (x.toNat : Int)
set_option maxRecDepth 8000 in
theorem bv_length (l : List UInt8) : (bv l).length = l.length := by simp [bv]
set_option maxRecDepth 8000 in
theorem bv_get (l : List UInt8) (j : Nat) : (bv l)[j]? = (l[j]?).map fun x => .int .u8 (x.toNat : Int) := by simp [bv]
set_option maxRecDepth 8000 in
theorem bv_append (a b : List UInt8) : bv (a ++ b) = bv a ++ bv b := by simp [bv]
set_option maxRecDepth 8000 in
theorem bv_one (l : List UInt8) : ∀ u ∈ bv l, u.oneCell' = true := by
  intro u hu
  simp only [bv, List.mem_map] at hu
  obtain ⟨x, _, rfl⟩ := hu
  rfl
set_option maxRecDepth 8000 in
theorem bv_inj {a b : List UInt8} (h : bv a = bv b) : a = b := by
  induction a generalizing b with
  | nil => cases b with
    | nil => rfl
    | cons y b => simp [bv] at h
  | cons x a ih => cases b with
    | nil => simp [bv] at h
    | cons y b =>
      simp only [bv, List.map_cons, List.cons.injEq] at h
      obtain ⟨h1, h2⟩ := h
      rw [ih h2]
      have : x.toNat = y.toNat := by
        injection h1 with _ h1
        omega
      rw [UInt8.toNat_inj.1 this]
set_option maxRecDepth 8000 in
theorem own_base {w : World} {base base' : Nat} {e : TypeId} {size : Nat} {v : Value} {n : Nat} {xs : List Value} (h : w.ownsRow base e size v n xs) (hb : base' ≤ base) : w.ownsRow base' e size v n xs := by
  refine ⟨h.1, ?_⟩
  rcases h.2 with h | ⟨g, cap, cur, h1, h2, h3⟩
  · exact .inl h
  · exact .inr ⟨g, cap, cur, h1, by omega, h3⟩
/-- The cells from A on read as the bytes l. -/
def Rd (w : World) (A : Option Addr) (l : List UInt8) : Prop :=
  ∀ j (h : j < l.length), ∃ b off, A = some ⟨b, off, none⟩ ∧ w.cell? ⟨b, off + j, none⟩ = some (.int .u8 (l[j].toNat : Int))
set_option maxRecDepth 8000 in
theorem cell_lt {w : World} {p : Addr} {v : Value} (h : w.cell? p = some v) : p.block < w.heap.size := by
  rcases Nat.lt_or_ge p.block w.heap.size with hlt | hge
  · exact hlt
  · rw [World.cell?, Array.getElem?_eq_none hge] at h
    cases h
section
variable {w w' : World} {A : Option Addr} {l : List UInt8}
theorem Rd.none_ : Rd w A [] := fun j h => absurd h (by simp)
set_option maxRecDepth 8000 in
theorem Rd.keep (h : Rd w A l) (hk : ∀ p : Addr, p.block < w.heap.size → w'.cell? p = w.cell? p) : Rd w' A l := by
  intro j hj
  obtain ⟨b, off, rfl, hc⟩ := h j hj
  exact ⟨b, off, rfl, (hk _ (cell_lt hc)).trans hc⟩
theorem Rd.below (h : Rd w A l) (hb : Below w.heap.size w w') : Rd w' A l := h.keep fun _ hp => hb.cell hp
theorem Rd.alloc (h : Rd w A l) (o : Obj) : Rd (w.alloc o) A l := h.keep fun p hp => World.cell?_alloc_lt w o p hp
theorem Rd.drew (h : Rd w A l) : Rd w.drew A l := h
theorem Rd.drewN (h : Rd w A l) (k : Nat) : Rd (w.drewN k) A l := h
set_option maxRecDepth 8000 in
theorem Rd.take (h : Rd w A l) (n : Nat) : Rd w A (l.take n) := by
  intro j hj
  have hj' : j < l.length := by simp at hj; omega
  obtain ⟨b, off, e, hc⟩ := h j hj'
  exact ⟨b, off, e, by rw [hc]; simp⟩
set_option maxRecDepth 8000 in
theorem Rd.drop {b off : Nat} (h : Rd w (some ⟨b, off, none⟩) l) (n : Nat) : Rd w (some ⟨b, off + n, none⟩) (l.drop n) := by
  intro j hj
  have hj' : n + j < l.length := by simp at hj; omega
  obtain ⟨b', off', e, hc⟩ := h (n + j) hj'
  injection e with e
  injection e with e1 e2
  subst e1; subst e2
  exact ⟨b, off + n, rfl, by rw [Nat.add_assoc, hc]; simp⟩
set_option maxRecDepth 8000 in
theorem Rd.of_own {base n c : Nat} {t : TypeId} (h : w.ownsRow base t 1 (.slice A n c) n (bv l)) : Rd w A l := by
  intro j hj
  have hn : (bv l).length = n := by simpa using h.1
  rw [bv_length] at hn
  obtain ⟨g, cap, hv, _, _⟩ := h.form (by omega)
  injection hv with hA _ _
  subst hA
  refine ⟨g, 0, rfl, ?_⟩
  have := h.cellAt j (by omega)
  rw [Nat.zero_add, this, bv_get, List.getElem?_eq_getElem hj]
  rfl
end
end Go.Proofs.Ytokbghpddgfnpaa

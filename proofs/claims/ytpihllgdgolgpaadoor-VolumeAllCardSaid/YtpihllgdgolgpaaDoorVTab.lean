/- volume: the table of what places name; which place is which sector: words. -/
import Derived.Test.YtpihllgdgolgpaaDoorVBou
namespace Go.Proofs.YtpihllgdgolgpaaDoor
open Go.RowKit
def nmc : List Value := [.int .i64 0, .int .i64 2, .int .i64 1, .int .i64 3, .int .i64 3, .int .i64 2]
/-- the variable's cells -/
def Tab (w : World) : Prop := ∀ j u, nmc[j]? = some u → w.cell? ⟨0, j, none⟩ = some u
theorem Tab.lt {w : World} (h : Tab w) : 0 < w.heap.size := cell_lt (h 0 _ rfl)
theorem Tab.keep {w w' : World} (h : Tab w) (hk : ∀ p : Addr, p.block < w.heap.size → w'.cell? p = w.cell? p) : Tab w' :=
  fun j u hu => (hk _ h.lt).trans (h j u hu)
theorem Tab.below {w w' : World} (h : Tab w) (hb : Below w.heap.size w w') : Tab w' := h.keep fun _ hp => hb.cell hp
theorem Tab.alloc {w : World} (h : Tab w) (o : Obj) : Tab (w.alloc o) := h.keep fun p hp => World.cell?_alloc_lt w o p hp
/-- may a place be -/
def mayP (x : Sp) : Prop := 1 ≤ x.k ∧ x.k ≤ 5 ∧ (x.a = 0 ∨ x.a = 1 ∧ 2 ≤ x.k ∧ x.k ≤ 4) ∧ (x.t = 0 ∨ x.k ≠ 2)
theorem mayP_mk (k a t : Int) : mayP ⟨k, a, t⟩ ↔ (1 ≤ k ∧ k ≤ 5 ∧ (a = 0 ∨ a = 1 ∧ 2 ≤ k ∧ k ≤ 4) ∧ (t = 0 ∨ k ≠ 2)) := Iff.rfl
instance (x : Sp) : Decidable (mayP x) := by unfold mayP; exact inferInstance
/-- a plan that may be -/
def rightP (n : Int) : Prop := 1 ≤ n ∧ n ≤ 64
set_option maxRecDepth 8000 in
theorem bnd_in (n : Int) (h : rightP n) (x : Sp) : 0 ≤ (bndF (partsL n) x).1 ∧ (bndF (partsL n) x).1 ≤ (bndF (partsL n) x).2 ∧ (bndF (partsL n) x).2 ≤ 212 := by
  unfold rightP at h
  have step : ∀ l : List Pt, (∀ r ∈ l, 0 ≤ r.f ∧ r.f ≤ r.t ∧ r.t ≤ 212) → 0 ≤ (bndF l x).1 ∧ (bndF l x).1 ≤ (bndF l x).2 ∧ (bndF l x).2 ≤ 212 := by
    intro l
    induction l with
    | nil => intro _; exact ⟨Int.le_refl _, Int.le_refl _, (show (0 : Int) ≤ 212 by decide)⟩
    | cons r l ih =>
      intro hl
      rw [bndF]
      split
      · exact hl r (by simp)
      · exact ih fun q hq => hl q (by simp [hq])
  refine step _ fun r hr => ?_
  simp only [partsL, List.mem_cons, List.not_mem_nil, or_false] at hr
  rcases hr with rfl | rfl | rfl | rfl | rfl | rfl | rfl | rfl <;> refine ⟨?_, ?_, ?_⟩ <;> simp only <;> omega
/-- which sector a place is, and the error -/
noncomputable def secP (n : Int) (x : Sp) : Int × Int := @ite _ (rightP n ∧ mayP x) (Classical.propDecidable _) (if x.t < 0 ∨ (bndF (partsL n) x).2 - (bndF (partsL n) x).1 ≤ x.t then (0, 4) else ((bndF (partsL n) x).1 + x.t, 0)) (0, 2)
set_option maxRecDepth 8000 in
theorem secP_no {n : Int} {x : Sp} (h : ¬ (rightP n ∧ mayP x)) : secP n x = (0, 2) := by unfold secP; rw [if_neg h]
set_option maxRecDepth 8000 in
theorem secP_out {n : Int} {x : Sp} (h : rightP n ∧ mayP x) (h2 : x.t < 0 ∨ (bndF (partsL n) x).2 - (bndF (partsL n) x).1 ≤ x.t) : secP n x = (0, 4) := by unfold secP; rw [if_pos h, if_pos h2]
set_option maxRecDepth 8000 in
theorem secP_in {n : Int} {x : Sp} (h : rightP n ∧ mayP x) (h2 : ¬ (x.t < 0 ∨ (bndF (partsL n) x).2 - (bndF (partsL n) x).1 ≤ x.t)) : secP n x = ((bndF (partsL n) x).1 + x.t, 0) := by unfold secP; rw [if_pos h, if_neg h2]
end Go.Proofs.YtpihllgdgolgpaaDoor

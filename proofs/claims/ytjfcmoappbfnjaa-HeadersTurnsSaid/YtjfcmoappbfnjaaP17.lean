/- the document's answer for layer 2: its disk, as it is told by plain data; Size, sector. -/
import Derived.Test.YtjfcmoappbfnjaaP16
import Derived.Test.YtjfcmoappbfnjaaP14
import Derived.Test.YtjfcmoappbfnjaaP08
import Derived.Test.YtjfcmoappbfnjaaP10
namespace Go.Proofs.Ytjfcmoappbfnjaa
open Go.RowKit
attribute [local go_sem] Oper.semAt_some
attribute [local go_sem] run_store_bv run_store_wc
/-- the document's disk: what lasts, what waits, which steps fail -/
structure Rf where
  lb : List UInt8
  ws : List (Nat × List UInt8)
  fl : List Int
/-- writes that wait lie there -/
def RdW (w : World) (A : Option Addr) (ws : List (Nat × List UInt8)) : Prop := ∀ i x, ws[i]? = some x → ∃ b off, A = some ⟨b, off, none⟩ ∧ w.rangeAt b (off + i * 513) (wc x)
theorem RdW.below {w w' : World} {A : Option Addr} {ws : List (Nat × List UInt8)} (h : RdW w A ws) (hb : Below w.heap.size w w') : RdW w' A ws := fun i x hx => by
  obtain ⟨b, off, e, hc⟩ := h i x hx
  exact ⟨b, off, e, fun j v hv => (hb.cell (p := ⟨b, off + i * 513 + j, none⟩) (cell_lt (hc j v hv))).trans (hc j v hv)⟩
/-- it lies there, of z sectors -/
structure RefAt (w : World) (r : Rp) (R : Rf) (z : Nat) : Prop where
  n1 : r.n1 = z * 512
  l1 : R.lb.length = z * 512
  r1 : Rd w r.A1 R.lb
  n2 : r.n2 = R.ws.length
  r2 : RdW w r.A2 R.ws
  n3 : R.fl.length = r.n3
  r3 : RdI w r.A3 R.fl
  wl : ∀ x ∈ R.ws, x.2.length = 512 ∧ x.1 < z
  z1 : 1 ≤ z
  z2 : z ≤ 4096
  m2 : R.ws.length ≤ 100000
  m3 : r.n3 ≤ 1000
section
variable {w w' : World} {r : Rp} {R : Rf} {z : Nat}
theorem RefAt.below (h : RefAt w r R z) (hb : Below w.heap.size w w') : RefAt w' r R z := { h with r1 := h.r1.below hb, r2 := h.r2.below hb, r3 := h.r3.below hb }
theorem RefAt.alloc (h : RefAt w r R z) (o : Obj) : RefAt (w.alloc o) r R z := h.below ((Below.refl _ w).alloc (Nat.le_refl _) o)
theorem RefAt.drew (h : RefAt w r R z) : RefAt w.drew r R z := h.below (Below.drew (Below.refl _ w))
end
end Go.Proofs.Ytjfcmoappbfnjaa
namespace Go.Proofs.Ytjfcmoappbfnjaa
open Go.RowKit
attribute [local go_sem] Oper.semAt_some
attribute [local go_sem] run_store_bv run_store_wc
section
variable {w w' : World} {r : Rp} {R : Rf} {z : Nat}
set_option maxRecDepth 8000 in
theorem RdW.parts {w : World} {A : Option Addr} {ws : List (Nat × List UInt8)} (h : RdW w A ws) {i : Nat} {x : Nat × List UInt8} (hx : ws[i]? = some x) : ∃ b off, A = some ⟨b, off, none⟩ ∧ w.cell? ⟨b, off + i * 513, none⟩ = some (.int .i64 (x.1 : Int)) ∧ w.rangeAt b (off + i * 513 + 1) (bv x.2) := by
  obtain ⟨b, off, e, hc⟩ := h i x hx
  refine ⟨b, off, e, by have := hc 0 _ rfl; simpa using this, fun j v hv => ?_⟩
  have := hc (j + 1) v (by rw [wc, List.getElem?_cons_succ]; exact hv)
  rw [show off + i * 513 + 1 + j = off + i * 513 + (j + 1) by omega]
  exact this
end
end Go.Proofs.Ytjfcmoappbfnjaa
namespace Go.Proofs.Ytjfcmoappbfnjaa
open Go.RowKit
attribute [local go_sem] Oper.semAt_some
/-- what is read, laid one behind the other -/
def layR (lb : List UInt8) (ws : List (Nat × List UInt8)) : List UInt8 := ws.foldl (fun l x => laidF l x 512) lb
section
variable {w w' : World} {r : Rp} {R : Rf} {z : Nat}
end
end Go.Proofs.Ytjfcmoappbfnjaa
namespace Go.Proofs.Ytjfcmoappbfnjaa
open Go.RowKit
end Go.Proofs.Ytjfcmoappbfnjaa

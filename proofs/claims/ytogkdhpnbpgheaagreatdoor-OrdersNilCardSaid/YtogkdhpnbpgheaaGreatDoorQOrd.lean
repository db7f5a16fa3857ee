/- a region that draws its order: by an invariant over what is listed (for regions of many calls and stores that no order binds). -/
import Derived.Test.YtogkdhpnbpgheaaGreatDoorProg
import Derived.Orders
import Derived.WalkKit
namespace Go.Proofs.YtogkdhpnbpgheaaGreatDoor
open Go.RowKit
section
variable {P : Program} {md : Region.Mode} {ops : Array Oper} {Q : Exit → Act → World → Prop}
set_option maxRecDepth 8000 in
theorem qcount_set {l : Array Bool} {i : Nat} (h : l.getD i true = false) : (l.setIfInBounds i true).toList.count false + 1 = l.toList.count false := by
  have hi : i < l.size := by
    rcases Nat.lt_or_ge i l.size with q | q
    · exact q
    · rw [Array.getD_eq_getD_getElem?, Array.getElem?_eq_none q] at h
      cases h
  have hv : l.toList[i]'(by simpa using hi) = false := by
    rw [Array.getD_eq_getD_getElem?, Array.getElem?_eq_getElem hi] at h
    simpa using h
  have hm : false ∈ l.toList := hv ▸ List.getElem_mem (by simpa using hi)
  have hp := List.count_pos_iff.2 hm
  rw [Array.toList_setIfInBounds, List.count_set (by simpa using hi), hv]
  show l.toList.count false - 1 + 0 + 1 = l.toList.count false
  omega
set_option maxRecDepth 8000 in
/-- whatever order is drawn: what holds ahead, and goes on through each operation that may come up, holds behind -/
theorem wpAny_inv (J : Array Bool → Act → World → Prop)
    (hstep : ∀ listed a w i, J listed a w → i ∈ Region.ready md ops listed → wpOp P ops Q i (J (listed.setIfInBounds i true)) a w)
    (hend : ∀ listed a w, J listed a w → Region.ready md ops listed = [] → Q .normal a w) :
    ∀ (fuel : Nat) (listed : Array Bool) (a : Act) (w : World), listed.toList.count false ≤ fuel → J listed a w → wpAny P md ops Q fuel listed a w
  | 0, listed, a, w, hf, hJ => by
    have hr : Region.ready md ops listed = [] := by
      refine List.eq_nil_iff_forall_not_mem.2 fun i hi => ?_
      have := qcount_set (mem_ready.1 hi).1
      omega
    exact ⟨hr, hend listed a w hJ hr⟩
  | fuel + 1, listed, a, w, hf, hJ => ⟨fun hr => hend listed a w hJ hr, fun i hi => wpOp_mono (fun a' w' h' => wpAny_inv J hstep hend fuel _ a' w' (by have := qcount_set (mem_ready.1 hi).1; omega) h') (hstep listed a w i hJ hi)⟩
set_option maxRecDepth 8000 in
/-- at the end all is listed, where each operation waits for earlier ones alone -/
theorem all_listed (hback : ∀ i o, ops[i]? = some o → ∀ e ∈ o.after, Region.binds md e = true → e.on < i) {listed : Array Bool} (hr : Region.ready md ops listed = []) (hs : listed.size = ops.size) : ∀ i, i < ops.size → listed.getD i false = true := by
  intro i
  induction i using Nat.strongRecOn with
  | ind i ih =>
    intro hi
    refine Classical.byContradiction fun hn => ?_
    have hil : i < listed.size := by omega
    have hf : listed.getD i true = false := by
      rw [Array.getD_eq_getD_getElem?, Array.getElem?_eq_getElem hil] at hn ⊢
      simpa using hn
    have : i ∈ Region.ready md ops listed := mem_ready.2 ⟨hf, ops[i], Array.getElem?_eq_getElem hi, fun e he hb => by
      have h1 := hback i ops[i] (Array.getElem?_eq_getElem hi) e he hb
      exact ih e.on h1 (by omega)⟩
    rw [hr] at this
    cases this
end
end Go.Proofs.YtogkdhpnbpgheaaGreatDoor

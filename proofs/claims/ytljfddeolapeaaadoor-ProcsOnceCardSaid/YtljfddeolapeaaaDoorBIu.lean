/- banks: more words for walks in a function's own frame; what a change of a store's objects leaves. -/
import Derived.Test.YtljfddeolapeaaaDoorBIt
import Derived.Test.YtljfddeolapeaaaDoorBPl
import Derived.Test.YtljfddeolapeaaaDoorR18
namespace Go.Proofs.YtljfddeolapeaaaDoor
open Go.RowKit
section
variable {P : Program} {n : Nat}
end
/-- the table lies below what a store may change -/
def TabB (base : Nat) (w : World) : Prop := ∀ W, Below base w W → Tab W
theorem TabB.tab {base : Nat} {w : World} (h : TabB base w) : Tab w := h w (Below.refl _ _)
theorem TabB.below {base : Nat} {w w' : World} (h : TabB base w) (hb : Below base w w') : TabB base w' := fun W hW => h W (hb.trans hW)
theorem TabB.of {base : Nat} {w0 w : World} (hT : Tab w0) (hb : Below w0.heap.size w0 w) (hs : w0.heap.size ≤ base) : TabB base w := fun _ hW => hT.below (hb.trans (hW.mono hs))
section
variable {w w' : World} {base p : Nat} {A : Option Addr} {cap : Nat} {ps : List Nat} {os : List Oj}
set_option maxRecDepth 8000 in
theorem StAt.base_le (h : StAt w base p A cap ps os) : base ≤ w.heap.size := by
  have := h.lt p (.inl rfl)
  omega
/-- a change of the store's objects, seen from below the store -/
theorem StAt.down (h : StAt w base p A cap ps os) (hf : Fr (fun k => k ∈ ps) w w') : Below base w w' := fr_below hf h.base_le fun j hj hs => by
  have := (h.lt j (.inr (.inr hs))).1
  omega
theorem TabB.fr (hT : TabB base w) (h : StAt w base p A cap ps os) (hf : Fr (fun k => k ∈ ps) w w') : TabB base w' := hT.below (h.down hf)
theorem TabB.up (hT : TabB base w) (h : StAt w base p A cap ps os) (hb : Below w.heap.size w w') : TabB base w' := hT.below (hb.mono h.base_le)
/-- a block of another type stays -/
theorem StAt.blkF (h : StAt w base p A cap ps os) (hf : Fr (fun k => k ∈ ps) w w') {g : Nat} {t : TypeId} {cs : Array Value} (hb : Blk w g t cs) (ht : t ≠ 56) : Blk w' g t cs := (hf.block g hb.lt (fun hm => by
    obtain ⟨i, hi, rfl⟩ := List.mem_iff_getElem.1 hm
    have h3 := h.obj i (by rw [← h.len]; exact hi) hi
    unfold Blk at hb h3
    rw [h3] at hb
    injection hb with hb
    injection hb with _ hb
    exact ht hb.symm)).trans hb
end
end Go.Proofs.YtljfddeolapeaaaDoor

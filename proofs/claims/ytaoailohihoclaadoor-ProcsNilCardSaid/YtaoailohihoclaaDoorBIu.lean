/- banks: more words for walks in a function's own frame; what a change of a store's objects leaves. -/
import Derived.Test.YtaoailohihoclaaDoorBIt
import Derived.Test.YtaoailohihoclaaDoorBPl
import Derived.Test.YtaoailohihoclaaDoorR18
namespace Go.Proofs.YtaoailohihoclaaDoor
open Go.RowKit
section
variable {P : Program} {n : Nat}
set_option maxRecDepth 8000 in
theorem wpAt_scope {f : FuncId} {c : Code} {Q : Exit → Act → World → Prop} {a : Act} {w : World} (h : wpAt P f c (Exit.noGoto Q) a w) : wpAt P f (.scope c) Q a w := by
  intro b k cs hro hb
  have hs : step P (lone (b.atR a (.code (.scope c) :: k)) cs w) = .next (lone (b.atR a (.code c :: .inScope c :: k)) cs w) := step_lone_go (by simp [stepG, stepG.exec, Frame.atR])
  have he : ∀ a w, step P (lone (b.atR a (.inScope c :: k)) cs w) = .next (lone (b.atR a k) cs w) := fun a w => step_lone_go (by simp [stepG, stepG.exec, Frame.atR])
  obtain ⟨e, a₁, w₁, hq, harr⟩ := h b (.inScope c :: k) cs hro hb
  cases e with
  | normal => exact ⟨.normal, a₁, w₁, hq, .head (fenced_wide P _) hs (StepsIn.trans harr (.one (fenced_wide P _) (he _ _)))⟩
  | exit id => exact ⟨.exit id, a₁, w₁, hq, fun k' hk => .head (fenced_wide P _) hs (harr.1 k' (by simp [exitTo, hk])), fun hr' _ => by rw [hro] at hr'; cases hr'⟩
  | goto l => exact hq.elim
  | ret => exact ⟨_, a₁, w₁, hq, .of_steps (.one (fenced_wide P _) hs) harr⟩
  | panic ch => exact ⟨_, a₁, w₁, hq, .of_steps (.one (fenced_wide P _) hs) harr⟩
  | outgrown => exact ⟨_, a₁, w₁, hq, .of_steps (.one (fenced_wide P _) hs) harr⟩
set_option maxRecDepth 8000 in
theorem wpAt_block {f : FuncId} {id : Nat} {c : Code} {Q : Exit → Act → World → Prop} {a : Act} {w : World} (h : wpAt P f c (Exit.inBlock id Q) a w) : wpAt P f (.block id c) Q a w := by
  intro b k cs hro hb
  obtain ⟨e, a₁, w₁, hq, harr⟩ := h b (.inBlock id :: k) cs hro hb
  cases e with
  | normal => exact ⟨.normal, a₁, w₁, hq, .head (fenced_wide P _) stepR_block (StepsIn.trans harr (.one (fenced_wide P _) stepR_inBlock))⟩
  | exit id' =>
    by_cases hid : id' = id
    · simp only [Exit.inBlock, hid, if_true] at hq
      exact ⟨.normal, a₁, w₁, hq, .head (fenced_wide P _) stepR_block (harr.1 k (by simp [exitTo, hid]))⟩
    · simp only [Exit.inBlock, hid, if_false] at hq
      have this : (id == id') = false := by simp; exact fun h => hid h.symm
      have hx : exitTo id' (.inBlock id :: k) = exitTo id' k := by simp [exitTo, this]
      exact ⟨.exit id', a₁, w₁, hq, fun k' hk => .head (fenced_wide P _) stepR_block (harr.1 k' (by rw [hx]; exact hk)), fun hr' _ => by rw [hro] at hr'; cases hr'⟩
  | goto l =>
    have hx : gotoIn l (.inBlock id :: k) = gotoIn l k := by simp [gotoIn]
    exact ⟨_, a₁, w₁, hq, fun k' hk => .head (fenced_wide P _) stepR_block (harr.1 k' (by rw [hx]; exact hk)), fun hr' _ => by rw [hro] at hr'; cases hr'⟩
  | ret => exact ⟨_, a₁, w₁, hq, .of_steps (.one (fenced_wide P _) stepR_block) harr⟩
  | panic ch => exact ⟨_, a₁, w₁, hq, .of_steps (.one (fenced_wide P _) stepR_block) harr⟩
  | outgrown => exact ⟨_, a₁, w₁, hq, .of_steps (.one (fenced_wide P _) stepR_block) harr⟩
set_option maxRecDepth 8000 in
/-- behind code walked in the function's own frame, the rest as ever -/
theorem wpAt_tail {f : FuncId} {x y : Code} {Q : Exit → Act → World → Prop} {a : Act} {w : World} (h : wpAt P f x (Exit.then (fun a w => y.wp P Q a w) Q) a w) : wpAt P f (.seq x y) Q a w := by
  refine wpAt_seq (wpAt_mono h ?_)
  intro e a w he
  cases e with
  | normal => exact wpAt_of (n := 0) (wpIn_wide.2 he)
  | exit id => exact he
  | goto l => exact he
  | ret => exact he
  | panic c => exact he
  | outgrown => exact he
end
/-- the table lies below what a store may change -/
def TabB (base : Nat) (w : World) : Prop := ∀ W, Below base w W → Tab W
theorem TabB.tab {base : Nat} {w : World} (h : TabB base w) : Tab w := h w (Below.refl _ _)
theorem TabB.below {base : Nat} {w w' : World} (h : TabB base w) (hb : Below base w w') : TabB base w' := fun W hW => h W (hb.trans hW)
theorem TabB.of {base : Nat} {w0 w : World} (hT : Tab w0) (hb : Below w0.heap.size w0 w) (hs : w0.heap.size ≤ base) : TabB base w := fun _ hW => hT.below (hb.trans (hW.mono hs))
section
variable {w w' : World} {base p : Nat} {A : Option Addr} {cap : Nat} {ps : List Nat} {os : List Oj}
set_option maxRecDepth 8000 in
theorem StAt.base_le (h : StAt w base p A cap ps os) : base ≤ w.heap.size := by
  have := h.lt p (.inl rfl)
  omega
/-- a change of the store's objects, seen from below the store -/
theorem StAt.down (h : StAt w base p A cap ps os) (hf : Fr (fun k => k ∈ ps) w w') : Below base w w' := fr_below hf h.base_le fun j hj hs => by
  have := (h.lt j (.inr (.inr hs))).1
  omega
theorem TabB.fr (hT : TabB base w) (h : StAt w base p A cap ps os) (hf : Fr (fun k => k ∈ ps) w w') : TabB base w' := hT.below (h.down hf)
theorem TabB.up (hT : TabB base w) (h : StAt w base p A cap ps os) (hb : Below w.heap.size w w') : TabB base w' := hT.below (hb.mono h.base_le)
theorem StAt.cellsP (h : StAt w base p A cap ps os) {k : Nat} (hk : k ∈ ps) : ∃ o : Obj, w.heap[k]? = some o ∧ o.isCells = true := h.isCells (.inr (.inr hk))
/-- what is no cells stays, where a store's objects change -/
theorem StAt.keepsF (h : StAt w base p A cap ps os) (hf : Fr (fun k => k ∈ ps) w w') (B : Nat) : KeepsFrom B w w' :=
  ⟨hf.size, fun k o _ ho hc => (hf.block k (Array.getElem?_eq_some_iff.1 ho).1 (fun h' => by
    obtain ⟨o', ho', hc'⟩ := h.cellsP h'
    rw [ho] at ho'
    injection ho' with ho'
    subst ho'
    rw [hc] at hc'
    cases hc')).trans ho⟩
/-- a block of another type stays -/
theorem StAt.blkF (h : StAt w base p A cap ps os) (hf : Fr (fun k => k ∈ ps) w w') {g : Nat} {t : TypeId} {cs : Array Value} (hb : Blk w g t cs) (ht : t ≠ 56) : Blk w' g t cs := (hf.block g hb.lt (fun hm => by
    obtain ⟨i, hi, rfl⟩ := List.mem_iff_getElem.1 hm
    have h3 := h.obj i (by rw [← h.len]; exact hi) hi
    unfold Blk at hb h3
    rw [h3] at hb
    injection hb with hb
    injection hb with _ hb
    exact ht hb.symm)).trans hb
theorem Fr.putObj {S : Nat → Prop} {B : Nat} {w W : World} (h : Fr S w W) (hB : w.heap.size ≤ B) {D : Nat} (hD : B ≤ D) (o : Obj) : Fr S w (W.putObj D o) :=
  ⟨h.os, h.tape, h.output, by simpa [World.putObj] using h.size, fun k hk hs => (World.putObj_heap_other (by omega)).trans (h.block k hk hs)⟩
/-- a mark's block is shut -/
theorem StAt.shut (h : StAt w base p A cap ps os) {D : Nat} {o : Obj} {l : Option (List Deferred)} (hd : w.heap[D]? = some (.deferred l)) : StAt (w.putObj D o) base p A cap ps os := h.keep fun k hk => World.putObj_heap_other (fun e => by
    obtain ⟨o', ho', hc'⟩ := h.isCells hk
    rw [e, hd] at ho'
    injection ho' with ho'
    subst ho'
    cases hc')
end
end Go.Proofs.YtaoailohihoclaaDoor

/- volume: the law VolumeAll: one round of it. -/
import Derived.Test.YtpihllgdgolgpaaDoorVAl4
import Derived.Test.YtpihllgdgolgpaaDoorVW
import Derived.OwnWalkIn
namespace Go.Proofs.YtpihllgdgolgpaaDoor
open Go.RowKit Go.Shelf
attribute [local go_sem] Oper.semAt_some run_nilF
set_option maxRecDepth 8000 in
theorem blk_grown {V V' : World} {k base n : Nat} {t : TypeId} {cs : Array Value} {v : Value} {xs : List Value} (hb : Blk V k t cs) (ho : V.ownsRow base 30 3 v n xs) (hk : k < base) (hg : V.grownBy V' v.ownBlock) : Blk V' k t cs := by
  refine (hg.block k hb.lt fun e => ?_).trans hb
  obtain ⟨_, ⟨rfl, _⟩ | ⟨g, c, cur, rfl, hB, _⟩⟩ := ho
  · cases e
  · cases e
    exact absurd (show g < base from hk) (by omega)
set_option maxRecDepth 8000 in
theorem below_grown {V V' : World} {B base n : Nat} {v : Value} {xs : List Value} (ho : V.ownsRow base 30 3 v n xs) (hB : B ≤ base) (hBV : B ≤ V.heap.size) (hg : V.grownBy V' v.ownBlock) : Below B V V' := by
  have hb : Below B V V := Below.refl _ _
  refine hb.grown hg hBV fun k hk => ?_
  obtain ⟨_, ⟨rfl, _⟩ | ⟨g, c, cur, rfl, hB', _⟩⟩ := ho
  · cases hk
  · cases hk
    show B ≤ g
    omega
set_option maxRecDepth 8000 in
theorem LA.step {nn : Nat} {w V w3 : World} {n : Int} {S g c : Nat} {pre : List (Ia nn)} {x : Ia nn} {v : Value} (h : LA w n S pre V) (hS : w.heap.size + 4 ≤ S)
    (hl : Blk V (w.heap.size + 2) 27 #[v]) (hr : V.ownsRow (w.heap.size + 4) 30 3 v pre.length (scs (pre.map fun y => plc nn y.i)))
    (ho : w3.ownsRow (w.heap.size + 4) 30 3 (.slice (some ⟨g, 0, none⟩) (pre.length + 1) c) (pre.length + 1) (scs (pre.map (fun y => plc nn y.i) ++ [plc nn x.i])))
    (hg : ((V.setCell ⟨w.heap.size + 3, 0, none⟩ (.bool (okx (pre ++ [x])))).alloc (.cells (plc nn x.i).cs.toArray 30)).grownBy w3 v.ownBlock) :
    LA w n S (pre ++ [x]) (w3.setCell ⟨w.heap.size + 2, 0, none⟩ (.slice (some ⟨g, 0, none⟩) (pre.length + 1) c)) ∧ ∀ l, KA l V (w3.setCell ⟨w.heap.size + 2, 0, none⟩ (.slice (some ⟨g, 0, none⟩) (pre.length + 1) c)) := by
  obtain ⟨V1, hV1⟩ : ∃ V1, V.setCell ⟨w.heap.size + 3, 0, none⟩ (.bool (okx (pre ++ [x]))) = V1 := ⟨_, rfl⟩
  obtain ⟨V2, hV2⟩ : ∃ V2, V1.alloc (.cells (plc nn x.i).cs.toArray 30) = V2 := ⟨_, rfl⟩
  rw [hV1, hV2] at hg
  have sz := h.size
  have b1 : Below (w.heap.size + 3) V V1 := by rw [← hV1]; exact (Below.refl _ _).setCell (p := ⟨w.heap.size + 3, 0, none⟩) (Nat.le_refl _) _
  have s1 : V1.heap.size = V.heap.size := by rw [← hV1]; simp [World.setCell]
  have f1 : Blk V1 (w.heap.size + 3) 4 #[.bool (okx (pre ++ [x]))] := by rw [← hV1]; exact h.f.set_ 0 _
  have b2 : Below V1.heap.size V1 V2 := by rw [← hV2]; exact (Below.refl _ _).alloc (Nat.le_refl _) _
  have r1 : V1.ownsRow (w.heap.size + 4) 30 3 v pre.length (scs (pre.map fun y => plc nn y.i)) := by
    obtain ⟨hl', h' | ⟨g', cap, cur, rfl, hb, hc, h'⟩⟩ := hr
    · exact ⟨hl', .inl h'⟩
    · exact ⟨hl', .inr ⟨g', cap, cur, rfl, hb, by rw [← hV1]; exact (Below.heap_setCell V _ _ g' (by simp only; omega)).trans hc, h'⟩⟩
  have r2 : V2.ownsRow (w.heap.size + 4) 30 3 v pre.length (scs (pre.map fun y => plc nn y.i)) := own_belowN r1 b2
  have kp : ∀ k t cs, k < w.heap.size + 4 → Blk V1 k t cs → Blk w3 k t cs := fun k t cs hk hb => blk_grown (hb.keep b2) r2 hk hg
  have bw : Below w.heap.size w w3 := ((h.below.trans (b1.mono (by omega))).trans (b2.mono (by omega))).trans (below_grown r2 (by omega) (by have := b2.size; omega) hg)
  have lw : Blk w3 (w.heap.size + 2) 27 #[v] := kp _ _ _ (by omega) (hl.below b1 (by omega))
  refine ⟨⟨(kp _ _ _ (by omega) (h.p.below b1 (by omega))).far (by simp) _, (kp _ _ _ (by omega) (h.q.below b1 (by omega))).far (by simp) _, ⟨_, lw.set_ 0 _, ?_⟩, (kp _ _ _ (by omega) f1).far (by simp) _, bw.setCell (p := ⟨w.heap.size + 2, 0, none⟩) (by simp) _, ?_⟩, fun l => ?_⟩
  · rw [List.map_append, List.length_append]
    obtain ⟨hl', ⟨h0, _⟩ | ⟨g', cap, cur, he, hb, hc, h'⟩⟩ := ho
    · cases h0
    · cases he
      exact ⟨hl', .inr ⟨g, c, cur, rfl, hb, (Below.heap_setCell w3 _ _ g (by simp only; omega)).trans hc, h'⟩⟩
  · have := b2.size
    have := hg.size
    simp only [World.setCell]
    first | (simp; omega) | omega
  · have k1 : KA l V V1 := by rw [← hV1]; exact KA.store h.f (by decide) _
    have k2 : KA l V1 V2 := by rw [← hV2]; exact KA.alloc _ _
    exact ((k1.trans k2).trans (KA.grown hg r2)).trans (KA.store lw (by decide) _)
end Go.Proofs.YtpihllgdgolgpaaDoor

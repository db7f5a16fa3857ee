/- law 10: does, of any call; same. -/
import Derived.Test.YtedlacdijkggjaaDoorGArgs
import Derived.Test.YtedlacdijkggjaaDoorGSame
namespace Go.Proofs.YtedlacdijkggjaaDoor
open Go.RowKit
theorem RdO.fr {w w' : World} {L : Option Addr} {l : List Oj} {S : Nat → Prop} (h : RdO w L l) (hf : Fr S w w') (hS : ∀ q, L = some q → ¬ S q.block) : RdO w' L l := fun i hi => by
  obtain ⟨b, off, e, ho⟩ := h i hi
  exact ⟨b, off, e, ho.keep (hf.block b ho.lt (hS _ e))⟩
set_option maxRecDepth 8000 in
theorem same_n {w : World} {base p : Nat} {A : Option Addr} {cap : Nat} {ps : List Nat} {os : List Oj} {n : Nat} (h : StAt w base p A cap ps os) (hl : os.length = n) (hN : 0 < n) (hN' : n ≤ 1000) (A2 : Option Addr) (cap2 : Nat) (hr : RdO w A2 os) :
    Calls Tryd.prog 11 #[pv p, .slice A2 n cap2] w fun e w' => e = .returned (.bool true) ∧ Below w.heap.size w w' := by
  subst hl
  exact same_at h hN hN' A2 cap2 hr
section
variable {w : World} {base p : Nat} {A : Option Addr} {cap : Nat} {ps : List Nat} {os : List Oj} {L : Option Addr} {n c : Nat}
set_option maxRecDepth 8000 in
theorem does_any (h : StAt w base p A cap ps os) (hl : os.length = n) (h0 : 0 < n) (hN : n ≤ 1000) (ho : okAll n os) (hT : Tab w) (hr : RdO w L os) (hfar : ∀ q, L = some q → q.block ∉ ps) (a : Pa) :
    Calls Tryd.prog 10 #[pv p, .slice L n c, a.val] w fun e w' => ∃ L' c', e = .returned (.tuple #[.slice L' n c', .bool true]) ∧ (L' = L ∨ ∃ q, L' = some ⟨q, 0, none⟩ ∧ w.heap.size ≤ q) ∧ (∃ os', StAt w' base p A cap ps os' ∧ RdO w' L' os' ∧ os'.length = n ∧ okAll n os') ∧ Fr (fun k => k ∈ ps) w w' := by
  subst hl
  obtain ⟨k, i, m, x, y, s, ha⟩ := a
  have hps : ∀ k ∈ ps, k < w.heap.size := fun k hk => (h.lt k (.inr (.inr hk))).2
  by_cases h1 : k = 1
  · subst h1
    exact (does_1 i m _ x y s _ (fun W hW => read_all (h.below hW) h0 (hT.below hW) x i m ha) (fun W hW => rread_all (hr.below hW) rfl hN h0 x i m)).mono fun e w' hb => ⟨L, c, hb.1, .inl rfl, ⟨os, h.below hb.2, hr.below hb.2, rfl, ho⟩, Fr.of_below hb.2⟩
  · by_cases h2 : k = 2
    · subst h2
      refine (does_2 (os' := (wrA os x i s).1) i m _ x y s hps (fun W hW => write_all (h.below hW) ho h0 (hT.below hW) x i ha s) (fun W hW => rwrite_all (hr.fr hW hfar) rfl hN h0 x i s)).mono ?_
      rintro e w' ⟨L', c', e1, e2, e3, e4, e5⟩
      exact ⟨L', c', e1, e2, ⟨_, e3, e4, wrA_len _ _ _ _, wrA_ok ho x i s⟩, e5⟩
    · by_cases h3 : k = 3
      · subst h3
        refine (does_3 (os' := (wpA os x).1) i m _ x y s hps (fun W hW => wipe_all (h.below hW) ho h0 (hT.below hW) x) (fun W hW => rwipe_all (hr.fr hW hfar) rfl hN h0 x)).mono ?_
        rintro e w' ⟨L', c', e1, e2, e3, e4, e5⟩
        exact ⟨L', c', e1, e2, ⟨_, e3, e4, wpA_len _ _, wpA_ok ho x⟩, e5⟩
      · refine (does_4 (os' := (cpA os x y).1) k i m _ x y s h1 h2 h3 hps (fun W hW => copy_all (h.below hW) ho h0 (hT.below hW) x y) (fun W hW => rcopy_all (hr.fr hW hfar) rfl hN h0 x y)).mono ?_
        rintro e w' ⟨L', c', e1, e2, e3, e4, e5⟩
        exact ⟨L', c', e1, e2, ⟨_, e3, e4, cpA_len _ _ _, cpA_ok ho x y⟩, e5⟩
end
end Go.Proofs.YtedlacdijkggjaaDoor

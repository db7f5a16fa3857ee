/- law 9: does, of any call; same. -/
import Derived.Test.YtliakhknmckdgaaDoorNArgs
import Derived.Test.YtliakhknmckdgaaDoorNSame
namespace Go.Proofs.YtliakhknmckdgaaDoor
open Go.RowKit
theorem RdO.fr {w w' : World} {L : Option Addr} {l : List Oj} {S : Nat → Prop} (h : RdO w L l) (hf : Fr S w w') (hS : ∀ q, L = some q → ¬ S q.block) : RdO w' L l := fun i hi => by
  obtain ⟨b, off, e, ho⟩ := h i hi
  exact ⟨b, off, e, ho.keep (hf.block b ho.lt (hS _ e))⟩
set_option maxRecDepth 8000 in
theorem same_n {w : World} {base p : Nat} {A : Option Addr} {cap : Nat} {ps : List Nat} {os : List Oj} {n : Nat} (h : StAt w base p A cap ps os) (hl : os.length = n) (hN : 0 < n) (hN' : n ≤ 1000) (A2 : Option Addr) (cap2 : Nat) (hr : RdO w A2 os) :
    Calls Tryd.prog 12 #[pv p, .slice A2 n cap2] w fun e w' => e = .returned (.bool true) ∧ Below w.heap.size w w' := by
  subst hl
  exact same_at h hN hN' A2 cap2 hr
section
variable {w : World} {base p : Nat} {A : Option Addr} {cap : Nat} {ps : List Nat} {os : List Oj} {L : Option Addr} {n c : Nat}
set_option maxRecDepth 8000 in
theorem does_any (h : StAt w base p A cap ps os) (hl : os.length = n) (h0 : 0 < n) (hN : n ≤ 1000) (ho : okAll n os) (hT : Tab w) (hr : RdO w L os) (hfar : ∀ q, L = some q → q.block ∉ ps) (a : Na) :
    Calls Tryd.prog 11 #[pv p, .slice L n c, a.val] w fun e w' => ∃ L' c', e = .returned (.tuple #[.slice L' n c', .bool true]) ∧ (L' = L ∨ ∃ q, L' = some ⟨q, 0, none⟩ ∧ w.heap.size ≤ q) ∧ (∃ os', StAt w' base p A cap ps os' ∧ RdO w' L' os' ∧ os'.length = n ∧ okAll n os') ∧ Fr (fun k => k ∈ ps) w w' := by
  subst hl
  obtain ⟨k, s, x, y⟩ := a
  have hps : ∀ k ∈ ps, k < w.heap.size := fun k hk => (h.lt k (.inr (.inr hk))).2
  have stay : ∀ {C : Array Value}, Calls Tryd.prog 11 C w (fun e w' => e = .returned (.tuple #[.slice L os.length c, .bool true]) ∧ Below w.heap.size w w') → Calls Tryd.prog 11 C w fun e w' => ∃ L' c', e = .returned (.tuple #[.slice L' os.length c', .bool true]) ∧ (L' = L ∨ ∃ q, L' = some ⟨q, 0, none⟩ ∧ w.heap.size ≤ q) ∧ (∃ os', StAt w' base p A cap ps os' ∧ RdO w' L' os' ∧ os'.length = os.length ∧ okAll os.length os') ∧ Fr (fun k => k ∈ ps) w w' :=
    fun hc => hc.mono fun e w' hb => ⟨L, c, hb.1, .inl rfl, ⟨os, h.below hb.2, hr.below hb.2, rfl, ho⟩, Fr.of_below hb.2⟩
  by_cases h1 : k = 1
  · subst h1
    exact stay (does_1 s _ x y _ (fun W hW => get_all (h.below hW) h0 (hT.below hW) x s) (fun W hW => rget_all (hr.below hW) rfl hN h0 x s))
  · by_cases h2 : k = 2
    · subst h2
      refine (does_2 (os' := (putA os x s y).1) s _ x y _ hps (fun W hW => put_all (h.below hW) ho h0 (hT.below hW) x s y) (fun W hW => rput_all (hr.fr hW hfar) rfl hN h0 x s y)).mono ?_
      rintro e w' ⟨L', c', e1, e2, e3, e4, e5⟩
      exact ⟨L', c', e1, e2, ⟨_, e3, e4, putA_len _ _ _ _, putA_ok ho x s y⟩, e5⟩
    · by_cases h3 : k = 3
      · subst h3
        refine (does_3 (os' := (cleA os x).1) s _ x y hps (fun W hW => clear_all (h.below hW) ho h0 (hT.below hW) x) (fun W hW => rclear_all (hr.fr hW hfar) rfl hN h0 x)).mono ?_
        rintro e w' ⟨L', c', e1, e2, e3, e4, e5⟩
        exact ⟨L', c', e1, e2, ⟨_, e3, e4, cleA_len _ _, cleA_ok ho x⟩, e5⟩
      · by_cases h4 : k = 4
        · subst h4
          refine (does_4 (os' := (cloA os x y).1) s _ x y hps (fun W hW => clone_all (h.below hW) ho h0 (hT.below hW) x y) (fun W hW => rclone_all (hr.fr hW hfar) rfl hN h0 x y)).mono ?_
          rintro e w' ⟨L', c', e1, e2, e3, e4, e5⟩
          exact ⟨L', c', e1, e2, ⟨_, e3, e4, cloA_len _ _ _, cloA_ok ho x y⟩, e5⟩
        · by_cases ha : askN os x
          · obtain ⟨j, u, d⟩ := askN_d ha
            refine stay (does_5y k s x y h1 h2 h3 h4 (gots os x u) (gots_len _ _ _) (fun W hW => all_is (h.below hW) h0 (hT.below hW) x d) (fun W hW => (if_pos ha : askA os x = 0) ▸ rask_f (hr.below hW) rfl hN h0 x) fun W hW i hi z hz => ?_)
            have hus : i < u.s.length := by rw [u.hs]; exact hi
            have hz2 : gotK os x u.s[i] = z := by
              have : (gots os x u)[i]? = some (gotK os x u.s[i]) := by rw [gots, List.getElem?_map, List.getElem?_eq_getElem hus]; rfl
              rw [this] at hz
              exact Option.some.inj hz
            exact rgot_any (hr.below hW) rfl hN x j d.lt d.o i hi u.s[i] (by rw [d.at_, List.getElem?_eq_getElem hus]) d.ok hz2
          · exact stay (does_5n k s 190 x y h1 h2 h3 h4 (by decide) (fun W hW => all_not (h.below hW) h0 (hT.below hW) x ha) (fun W hW => askA_no ha ▸ rask_f (hr.below hW) rfl hN h0 x))
end
end Go.Proofs.YtliakhknmckdgaaDoor

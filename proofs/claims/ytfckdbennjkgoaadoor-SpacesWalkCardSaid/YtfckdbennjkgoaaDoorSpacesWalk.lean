/- The law SpacesWalk returns true for every input: where each address lies, or which fault it is, is what the document says (at most 20 objects, roots, addresses). No condition but that the listed variables read as the program's own text lays them; the card ties them to it. -/
import Derived.Test.YtfckdbennjkgoaaDoorWKn
import Derived.Test.YtfckdbennjkgoaaDoorWArgs
import Derived.Test.YtfckdbennjkgoaaDoorR05
import Derived.Test.YtfckdbennjkgoaaDoorWWk
import Derived.Test.YtfckdbennjkgoaaDoorWRw
namespace Go.Proofs.YtfckdbennjkgoaaDoor.spacesWalk
open Go.ChangeShapes Go.WideShapes Go.ChangeAt Go.RowKit
attribute [local go_sem] Oper.semAt_some
set_option maxRecDepth 8000 in
theorem rwalk_any {w : World} {A : Option Addr} {l : List Oj} {cap : Nat} (hr : RdO w A l) (h0 : 0 < l.length) (hl : l.length ≤ 1000) (x : Ky) (a : Int) (hi : i64 a) :
    Calls Tryd.prog 12 #[.slice A l.length cap, x.val, .int .i64 a] w fun e w' => e = .returned (.tuple #[(walkA l x a).1.val, (walkA l x a).2.1.val, .int .i64 (walkA l x a).2.2]) ∧ Below w.heap.size w w' := by
  by_cases hv : x.may l.length
  · by_cases ha : 0 ≤ a
    · obtain ⟨an, rfl⟩ : ∃ an : Nat, a = (an : Int) := ⟨a.toNat, by omega⟩
      have h1 : refA l x (an : Int) 0 = 0 := by unfold refA; rw [if_pos hv, if_pos ⟨ha, by omega, by omega⟩]
      rw [show walkA l x (an : Int) = ((goneW l x (an : Int)).fo, (goneW l x (an : Int)).fa (an : Int), 0) from by unfold walkA; rw [if_pos h1]]
      exact rwalk_go hr rfl hl h0 x an (by have := hi.2; omega) hv
    · have h1 : refA l x a 0 = 4 := by unfold refA; rw [if_pos hv, if_neg (fun h => ha h.1)]
      rw [show walkA l x a = (zfo, zfa, 4) from by unfold walkA; rw [h1]; rfl]
      exact rwalk_neg h0 x a hv (by omega)
  · have h1 : refA l x a 0 = 2 := by unfold refA; rw [if_neg hv]
    rw [show walkA l x a = (zfo, zfa, 2) from by unfold walkA; rw [h1]; rfl]
    exact rwalk_arg h0 x a hv
set_option maxRecDepth 8000 in
theorem walk (w : World) (hL : laidMetH Tryd.prog laidK w) (A : Option Addr) (l : List Oj) (cap : Nat) (hr : RdO w A l) (A2 : Option Addr) (xs : List Ky) (cap2 : Nat) (hk : RdK w A2 xs) (A3 : Option Addr) (zs : List Int) (cap3 : Nat) (hz : RdZ w A3 zs) (hi : ∀ z ∈ zs, i64 z) :
    Calls Tryd.prog 3 #[.slice A l.length cap, .slice A2 xs.length cap2, .slice A3 zs.length cap3] w fun e w' => e = .returned (.bool true) ∧ Below w.heap.size w w' := by
  by_cases h : madeP l
  · by_cases h1 : xs.length ≤ 20
    · by_cases h2 : zs.length ≤ 20
      · exact walk_ok w (tab_of hL) A l cap A2 xs cap2 A3 zs cap3 hr hk hz hi h h1 h2 (fun W x a hR ha => rwalk_any hR h.2.1 (by have := h.1; omega) x a ha)
      · exact walk_big w (tab_of hL) A l cap A2 xs cap2 A3 zs cap3 hr h (.inr (by omega))
    · exact walk_big w (tab_of hL) A l cap A2 xs cap2 A3 zs cap3 hr h (.inl (by omega))
  · exact walk_no w (tab_of hL) A l cap A2 xs cap2 A3 zs cap3 hr h
set_option maxRecDepth 100000 in
theorem lifted (os : Os) (started : os.Started) (H : Type) (enc : TypeId × Value → H) :
    ReturnsInHanded {} Tryd.checked os 3 .any (fun w args => (Rows.spacesWalkSpec.pre enc Tryd.prog Tryd.f3 [] false w args ∧ laidMetH Tryd.prog laidK w) ∧ sizedMet enc Tryd.prog Tryd.f3 (OpenSpec.ofChange Rows.spacesWalkSpec) false w args) (Rows.spacesWalkSpec.post enc Tryd.prog Tryd.f3 false true false false) := by
  refine returnsInHanded_of_change_and (C := Tryd.checked) (X := fun w _ => laidMetH Tryd.prog laidK w) (fun _ _ _ hh h => h.of_heap hh) own started (by kernel_rfl) Tryd.func3
    (ChangeSpec.witness_shaped (enc := enc) (C := Tryd.checked) (os := os) (X := fun w _ => laidMetH Tryd.prog laidK w) false (World.doorLaid Tryd.prog 40 os) #[.slice none 0 0, .slice none 0 0, .slice none 0 0] 8 rfl (World.shaped_of_RefB (by kernel_rfl) (by kernel_rfl)) (by kernel_rfl) (by kernel_rfl) (by kernel_rfl) (door_met os _)) ?_
  intro W base args ds gs before hval0 hW _ _ hL _
  have hval : ∀ (j : Nat) t v, Tryd.f3.params[j]? = some t → args[j]? = some v → Value.okWide Tryd.prog W .any base t v := hval0
  have hW' := hW
  obtain ⟨p, q, hA0, hV, rfl, hfz, hnd⟩ := hW
  have hA : DataW.TrodAll enc Tryd.prog W 0 (fun _ => true) true Tryd.f3.params.toList args.toList ds p := hA0
  rw [Tryd.params3] at hA hval
  obtain ⟨v0, vs0, d0, ds0, p0, q0, hargs, rfl, rfl, h0, t0⟩ := trodAll_cons hA
  obtain ⟨v1, vs1, d1, ds1, p1, q1, rfl, rfl, rfl, h1, t1⟩ := trodAll_cons t0
  obtain ⟨v2, vs2, d2, ds2, p2, q2, rfl, rfl, rfl, h2, t2⟩ := trodAll_cons t1
  obtain ⟨rfl, rfl, rfl⟩ := trodAll_nil t2
  obtain rfl : args = #[v0, v1, v2] := by cases args; simp_all
  obtain ⟨rfl, rfl⟩ := trodVars_none hV
  have k0 := h0
  have lt0 : ∀ x ∈ p0, x.block < W.heap.size := by obtain ⟨m, hm⟩ := k0; exact DataW.trod_lt m _ _ _ hm
  obtain ⟨A0, l0, c0, rfl, hlc0, hcm0, hr0⟩ := open_obs (hval 0 22 v0 rfl rfl) h0
  have k1 := h1
  have lt1 : ∀ x ∈ p1, x.block < W.heap.size := by obtain ⟨m, hm⟩ := k1; exact DataW.trod_lt m _ _ _ hm
  obtain ⟨A1, l1, c1, rfl, hlc1, hcm1, hr1⟩ := open_keys (hval 1 23 v1 rfl rfl) h1
  have k2 := h2
  have lt2 : ∀ x ∈ p2, x.block < W.heap.size := by obtain ⟨m, hm⟩ := k2; exact DataW.trod_lt m _ _ _ hm
  obtain ⟨A2, l2, c2, rfl, hr2, hz2⟩ := open_z6 (hval 2 24 v2 rfl rfl) h2
  clear hA0 hval0
  refine (walk W hL A0 l0 c0 hr0 A1 l1 c1 hr1 A2 l2 c2 hr2 hz2).mono fun e W' ⟨he, bel⟩ => ?_
  subst he
  exact ⟨_, rfl, _, _, _, [], _, [], hW', trodAll_mk1 (shut_bool Tryd.underlying4 _), (trodAll_cons_mk (Below.trod laidOut (by kernel_rfl) (of_decide_eq_true (by kernel_rfl)) k0 bel lt0) (trodAll_cons_mk (Below.trod laidOut (by kernel_rfl) (of_decide_eq_true (by kernel_rfl)) k1 bel lt1) (trodAll_cons_mk (Below.trod laidOut (by kernel_rfl) (of_decide_eq_true (by kernel_rfl)) k2 bel lt2) trodAll_mk0))), rfl, bel.frame _, fun h => by cases h⟩
theorem over : Rows.spacesWalkRow.holds Tryd.pinned (OpenSpec.ofChange Rows.spacesWalkSpec) :=
  OpenClaim.holds_of_wide 3 Tryd.f3 rfl rfl rfl rfl rfl rfl rfl ⟨rfl, rfl, rfl, rfl, rfl⟩ rfl rfl rfl rfl rfl (by kernel_rfl) Tryd.func3 (by kernel_rfl)
    (of_decide_eq_true (by kernel_rfl)) (by unfold Func.isWrapper; first | (rw [if_pos (by decide +kernel)]; kernel_rfl) | (rw [if_neg (by decide +kernel)]; exact ⟨rfl, rfl⟩))
    (fun os started H enc _ => lifted os started H enc)
set_option maxRecDepth 8000 in
theorem proved : Rows.SpacesWalkCardSaid :=
  Claim7.holds_tied_plain_at .later [] [.data] true Rows.spacesWalkCard.stood.harness true
    over (fun _ h => by cases h) (by kernel_rfl) (fun _ h => by cases h) spacesWalk_row_tie rfl ⟨rfl, rfl⟩ (by kernel_rfl) rfl
    (fun f fn hf hfn => by
      obtain rfl : f = 3 := Option.some.inj ((show Tryd.prog.funcNamed "chatelaine/chatelainelaw11.SpacesWalk" = some 3 by kernel_rfl).symm.trans hf) |>.symm
      obtain rfl : fn = Tryd.f3 := (Option.some.inj (Tryd.func3.symm.trans hfn)).symm
      exact ⟨by kernel_rfl, fun j t ht => by
        rw [Tryd.params3] at ht
        have hm : t ∈ [22, 23, 24] := by simpa using Array.mem_of_getElem? ht
        have hall : ([22, 23, 24].all fun u => !Tryd.prog.wantsStandIn u) = true := by kernel_rfl
        exact (show Tryd.prog.wantsStandIn t = false by simpa using List.all_eq_true.1 hall t hm)⟩)
    (by kernel_rfl)
end Go.Proofs.YtfckdbennjkgoaaDoor.spacesWalk

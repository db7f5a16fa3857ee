/- objects: Unlike, Same of two stores; the definition's Same. -/
import Derived.Test.YtlhlgfehbfankaaDoorOUnl
namespace Go.Proofs.YtlhlgfehbfankaaDoor
open Go.RowKit
attribute [local go_sem] Oper.semAt_some
theorem below_of_drew {B : Nat} {a w : World} (h : Below B a.drew w) : Below B a w := ⟨h.os, h.tape, h.output, h.size, h.block⟩
theorem own_shape {w : World} {base n : Nat} {e : TypeId} {size : Nat} {v : Value} {xs : List Value} (h : w.ownsRow base e size v n xs) : ∃ A cap, v = .slice A n cap := by
  rcases h.2 with ⟨rfl, rfl⟩ | ⟨g, cap, cur, rfl, _⟩
  · exact ⟨_, _, rfl⟩
  · exact ⟨_, _, rfl⟩
/-- where two stores are not the same -/
def unl (a b : List Oj) : List Nat := if a.length = b.length then diffs a b a.length else []
theorem unl_le (a b : List Oj) : (unl a b).length ≤ a.length := by
  unfold unl
  split
  · exact diffs_le _ _ _
  · simp
section
variable {w : World} {base p : Nat} {A : Option Addr} {cap : Nat} {ps : List Nat} {os : List Oj} {base2 p2 : Nat} {A2 : Option Addr} {cap2 : Nat} {ps2 : List Nat} {os2 : List Oj}
abbrev UnlIs (w : World) (P Q : Value) (d : List Nat) : Prop := Calls Tryd.prog 25 #[P, Q] w fun e w' => ∃ v, e = .returned v ∧ w'.ownsRow w.heap.size 3 1 v d.length (dv d) ∧ Below w.heap.size w w'
set_option maxRecDepth 100000 in
set_option maxHeartbeats 2000000 in
theorem unlike_eq (h : StAt w base p A cap ps os) (h2 : StAt w base2 p2 A2 cap2 ps2 os2) (hl : os2.length = os.length) (h0 : 0 < os.length) (hN : os.length ≤ 1000) : UnlIs w (pv p) (pv p2) (diffs os os2 os.length) := by
  have HS := Lib.hid h
  have HS2 := Lib.hid h2
  have HL := Lib.hid hl
  have H0 := Lib.hid h0
  have HN := Lib.hid hN
  have HC := Lib.hid h.c0
  have HC2 := Lib.hid (show w.cell? ⟨p2, 0, none⟩ = some (.slice A2 os.length cap2) from hl ▸ h2.c0)
  have HZ2 := Lib.hid (show SizeIs w (pv p2) (os.length : Int) from hl ▸ size_at h2 (by omega))
  clear h h2 hl h0 hN
  go_enter Tryd.func25, Tryd.ntmps25
  go_wp2_with (first
    | (go_at_call 30; (first | (with_reducible refine (size_at HS.out H0.out).mono ?_) | (with_reducible refine HZ2.out.mono ?_)); rintro e w1 ⟨rfl, rfl⟩)
    | (go_at_call 39; refine (there_yes HS.out H0.out).mono ?_; rintro e w1 ⟨rfl, rfl⟩))
  refine wp_region_only (S := fun w' => w'.cell? ⟨p, 0, none⟩ = some (.slice A os.length cap) ∧ w'.cell? ⟨p2, 0, none⟩ = some (.slice A2 os.length cap2)) (by kernel_rfl) ⟨HC.out, HC2.out⟩ (fun hHeld => ?_)
  refine wpAnyH_take (i := 0) (v := ?v1) rfl (by kernel_rfl) (by kernel_rfl) (by kernel_rfl) (fun _ _ _ h => h) (Or.inl ⟨by rfl, ?hy1⟩) hHeld ?rest1
  case hy1 =>
    intro w' hSw
    try dsimp only at hSw
    go_simp
    first | done | with_reducible rfl
  try simp only [Act.put, List.getElem_toArray, List.getElem_cons_zero, List.setIfInBounds_toArray, List.set_cons_zero, List.set_cons_succ]
  refine wpAnyH_take (i := 1) (v := ?v2) rfl (by kernel_rfl) (by kernel_rfl) (by kernel_rfl) (fun _ _ _ h => h) (Or.inl ⟨by rfl, ?hy2⟩) hHeld ?rest2
  case hy2 =>
    intro w' hSw
    try dsimp only at hSw
    go_simp
    first | done | with_reducible rfl
  try simp only [Act.put, List.getElem_toArray, List.getElem_cons_succ, List.getElem_cons_zero, List.setIfInBounds_toArray, List.set_cons_zero, List.set_cons_succ]
  refine wpAnyH_take (i := 2) (v := ?v3) rfl (by kernel_rfl) (by kernel_rfl) (by kernel_rfl) (fun _ _ _ h => h) (Or.inl ⟨by rfl, ?hy3⟩) hHeld ?rest3
  case hy3 =>
    intro w' hSw
    try dsimp only at hSw
    go_simp
    first | done | with_reducible rfl
  try simp only [Act.put, List.getElem_toArray, List.getElem_cons_succ, List.getElem_cons_zero, List.setIfInBounds_toArray, List.set_cons_zero, List.set_cons_succ]
  refine wpAnyH_take (i := 3) (v := ?v4) rfl (by kernel_rfl) (by kernel_rfl) (by kernel_rfl) (fun _ _ _ h => h) (Or.inl ⟨by rfl, ?hy4⟩) hHeld ?rest4
  case hy4 =>
    intro w' hSw
    try dsimp only at hSw
    go_simp
    first | done | with_reducible rfl
  try simp only [Act.put, List.getElem_toArray, List.getElem_cons_succ, List.getElem_cons_zero, List.setIfInBounds_toArray, List.set_cons_zero, List.set_cons_succ]
  refine wpAnyH_take (i := 4) (v := ?v5) rfl (by kernel_rfl) (by kernel_rfl) (by kernel_rfl) (fun _ _ _ h => h) (Or.inl ⟨by rfl, ?hy5⟩) hHeld ?rest5
  case hy5 =>
    intro w' hSw
    try dsimp only at hSw
    go_simp
    first | done | with_reducible rfl
  try simp only [Act.put, List.getElem_toArray, List.getElem_cons_succ, List.getElem_cons_zero, List.setIfInBounds_toArray, List.set_cons_zero, List.set_cons_succ]
  refine wpAnyH_take (i := 5) (v := ?v6) rfl (by kernel_rfl) (by kernel_rfl) (by kernel_rfl) (fun _ _ _ h => h) (Or.inl ⟨by rfl, ?hy6⟩) hHeld ?rest6
  case hy6 =>
    intro w' hSw
    try dsimp only at hSw
    go_simp
    first | done | with_reducible rfl
  try simp only [Act.put, List.getElem_toArray, List.getElem_cons_succ, List.getElem_cons_zero, List.setIfInBounds_toArray, List.set_cons_zero, List.set_cons_succ]
  refine wpAnyH_take (i := 6) (v := ?v7) rfl (by kernel_rfl) (by kernel_rfl) (by kernel_rfl) (fun _ _ _ h => h) (Or.inl ⟨by rfl, ?hy7⟩) hHeld ?rest7
  case hy7 =>
    intro w' hSw
    try dsimp only at hSw
    go_simp
    first | done | with_reducible rfl
  try simp only [Act.put, List.getElem_toArray, List.getElem_cons_succ, List.getElem_cons_zero, List.setIfInBounds_toArray, List.set_cons_zero, List.set_cons_succ]
  refine wpAnyH_take (i := 7) (v := ?v8) rfl (by kernel_rfl) (by kernel_rfl) (by kernel_rfl) (fun _ _ _ h => h) (Or.inl ⟨by rfl, ?hy8⟩) hHeld ?rest8
  case hy8 =>
    intro w' hSw
    try dsimp only at hSw
    go_simp
    first | done | with_reducible rfl
  try simp only [Act.put, List.getElem_toArray, List.getElem_cons_succ, List.getElem_cons_zero, List.setIfInBounds_toArray, List.set_cons_zero, List.set_cons_succ]
  refine wpAnyH_ready (rs := [8]) (by kernel_rfl) (by simp) ?_
  refine AllReadyH.cons (by rfl) (fun K hK => ?_) AllReadyH.nil
  go_simp
  refine (unl_at HS.out.drew HS2.out.drew HL.out HN.out).mono ?_
  rintro e y1 ⟨v, rfl, hv, b1⟩
  have HV := Lib.hid hv
  have HB := Lib.hid b1
  have HD1 := Lib.hid (HS.out.drew.below b1).c0
  have HD2 := Lib.hid (HL.out ▸ (HS2.out.drew.below b1).c0 : y1.cell? ⟨p2, 0, none⟩ = some (.slice A2 os.length cap2))
  clear hv b1 hHeld
  go_wp2_with fail
  refine hK.out _ _ ⟨HD1.out, HD2.out⟩ (fun hHeld => ?_)
  clear hK K
  try simp only [Act.put, List.getElem_toArray, List.getElem_cons_succ, List.getElem_cons_zero, List.setIfInBounds_toArray, List.set_cons_zero, List.set_cons_succ]
  refine wpAnyH_take (i := 9) (v := ?v9) rfl (by kernel_rfl) (by kernel_rfl) (by kernel_rfl) (fun _ _ _ h => h) (Or.inl ⟨by rfl, ?hy9⟩) hHeld ?rest9
  case hy9 =>
    intro w' hSw
    try dsimp only at hSw
    go_simp
    first | done | with_reducible rfl
  try simp only [Act.put, List.getElem_toArray, List.getElem_cons_succ, List.getElem_cons_zero, List.setIfInBounds_toArray, List.set_cons_zero, List.set_cons_succ]
  refine wpAnyH_done (by kernel_rfl) ?_ _
  refine OnlyN.normal ?_
  clear hHeld
  go_wp2
  go_ret
  exact ⟨_, rfl, HV.out, below_of_drew HB.out⟩
theorem unlike_st (h : StAt w base p A cap ps os) (h2 : StAt w base2 p2 A2 cap2 ps2 os2) (h0 : 0 < os.length) (h02 : 0 < os2.length) (hN : os.length ≤ 1000) : UnlIs w (pv p) (pv p2) (unl os os2) := by
  by_cases hl : os.length = os2.length
  · have := unlike_eq h h2 hl.symm h0 hN
    unfold unl
    rwa [if_pos hl]
  · have hpp : pv p ≠ pv p2 := fun e => by
      injection e with e
      injection e with e
      injection e with e
      subst e
      have h1 := h.c0
      rw [h2.c0] at h1
      injection h1 with h1
      injection h1 with _ h1
      exact hl h1.symm
    unfold unl
    rw [if_neg hl]
    refine (unlike_ne (.inr ⟨p, rfl⟩) (.inr ⟨p2, rfl⟩) hpp (size_at h h0) (size_at h2 h02) (by omega)).mono ?_
    rintro e w' ⟨rfl, rfl⟩
    exact ⟨_, rfl, ⟨rfl, .inl ⟨rfl, rfl⟩⟩, Below.refl _ _⟩
set_option maxRecDepth 100000 in
set_option maxHeartbeats 2000000 in
theorem same_eq (h : StAt w base p A cap ps os) (h2 : StAt w base2 p2 A2 cap2 ps2 os2) (hl : os2.length = os.length) (h0 : 0 < os.length) (hN : os.length ≤ 1000) :
    Calls Tryd.prog 26 #[pv p, pv p2] w fun e w' => e = .returned (.bool (decide (os = os2))) ∧ Below w.heap.size w w' := by
  have HU := Lib.hid (unlike_eq h h2 hl h0 hN)
  have HS := Lib.hid h
  have H0 := Lib.hid h0
  have HZ2 := Lib.hid (show SizeIs w (pv p2) (os.length : Int) from hl ▸ size_at h2 (by omega))
  have HE := Lib.hid (show (((diffs os os2 os.length).length : Int) == 0) = decide (os = os2) from by
    rw [Bool.eq_iff_iff]
    simp only [beq_iff_eq, decide_eq_true_eq]
    rw [← diffs_nil hl.symm, ← List.length_eq_zero_iff]
    omega)
  clear h h2 hl h0 hN
  go_enter Tryd.func26, Tryd.ntmps26
  go_wp2_with (first
    | (go_at_call 30; (first | (with_reducible refine (size_at HS.out H0.out).mono ?_) | (with_reducible refine HZ2.out.mono ?_)); rintro e w1 ⟨rfl, rfl⟩)
    | (go_at_call 25; refine HU.out.mono ?_; rintro e w1 ⟨v, rfl, hv, b1⟩; obtain ⟨A3, c3, rfl⟩ := own_shape hv; have HB := Lib.hid b1; clear hv b1))
  go_ret
  refine ⟨?_, HB.out⟩
  rw [← HE.out]
  first | rfl | simp
theorem same_st (h : StAt w base p A cap ps os) (h2 : StAt w base2 p2 A2 cap2 ps2 os2) (h0 : 0 < os.length) (h02 : 0 < os2.length) (hN : os.length ≤ 1000) :
    Calls Tryd.prog 26 #[pv p, pv p2] w fun e w' => e = .returned (.bool (decide (os = os2))) ∧ Below w.heap.size w w' := by
  by_cases hl : os.length = os2.length
  · exact same_eq h h2 hl.symm h0 hN
  · have hpp : pv p ≠ pv p2 := fun e => by
      injection e with e
      injection e with e
      injection e with e
      subst e
      have h1 := h.c0
      rw [h2.c0] at h1
      injection h1 with h1
      injection h1 with _ h1
      exact hl h1.symm
    rw [show decide (os = os2) = false from decide_eq_false (fun e => hl (by rw [e]))]
    refine (same_ne (.inr ⟨p, rfl⟩) (.inr ⟨p2, rfl⟩) hpp (size_at h h0) (size_at h2 h02) (by omega)).mono ?_
    rintro e w' ⟨he, rfl⟩
    exact ⟨he, Below.refl _ _⟩
end
section
variable {w : World} {A : Option Addr} {l : List Oj} {cap : Nat} {A2 : Option Addr} {l2 : List Oj} {cap2 : Nat}
set_option maxRecDepth 100000 in
set_option maxHeartbeats 2000000 in
theorem rsame_eq (hr : RdO w A l) (hr2 : RdO w A2 l2) (hl : l2.length = l.length) (hN : l.length ≤ 1000) :
    Calls Tryd.prog 27 #[.slice A l.length cap, .slice A2 l.length cap2] w fun e w' => e = .returned (.bool (decide (l = l2))) ∧ Below w.heap.size w w' := by
  have HR := Lib.hid hr
  have HR2 := Lib.hid hr2
  have HL := Lib.hid hl
  clear hr hr2 hl
  go_enter Tryd.func27, Tryd.ntmps27
  go_wp2
  go_loopw [5] (fun i wr => ∃ k : Nat, k ≤ l.length ∧ i = .int .i64 k ∧ Below w.heap.size w wr ∧ l.take k = l2.take k) (fun i _ => l.length + 1 - (intOf i).toNat)
  case atStart => exact ⟨0, by omega, rfl, Below.refl _ _, by simp⟩
  case round =>
    obtain ⟨k, hk, rfl, hb, heq⟩ := hrel
    by_cases hlt : k < l.length
    · obtain ⟨b, off, rfl, hob⟩ := HR.out k hlt
      have hlt2 : k < l2.length := by rw [HL.out]; exact hlt
      obtain ⟨b2, off2, rfl, hob2⟩ := HR2.out k hlt2
      obtain ⟨x, hx⟩ : ∃ x, l[k]'hlt = x := ⟨_, rfl⟩
      obtain ⟨y, hy⟩ : ∃ y, l2[k]'hlt2 = y := ⟨_, rfl⟩
      rw [hx] at hob
      rw [hy] at hob2
      have HO := Lib.hid (hob.below hb)
      have HO2 := Lib.hid (hob2.below hb)
      have HB := Lib.hid hb
      have HQ := Lib.hid heq
      have HX := Lib.hid hx
      have HY := Lib.hid hy
      have H1 := Lib.hid hlt
      have H2 := Lib.hid hlt2
      have hil : (k : Int) < (l.length : Int) := by omega
      clear hob hob2 hb heq hx hy
      by_cases hxy : x = y
      · have HXY := Lib.hid (show (!decide (x = y)) = false by simpa using hxy)
        have HE := Lib.hid hxy
        clear hxy
        go_wp2_with fail
        refine wp_region_only (S := fun w' => ObAt w' b (off + k * 163) x ∧ ObAt w' b2 (off2 + k * 163) y) (by kernel_rfl) ⟨HO.out.drew, HO2.out.drew⟩ (fun hHeld => ?_)
        refine wpAnyH_take (i := 0) (v := ?v10) rfl (by kernel_rfl) (by kernel_rfl) (by kernel_rfl) (fun _ _ _ h => h) (Or.inl ⟨by rfl, ?hy10⟩) hHeld ?rest10
        case hy10 =>
          intro w' hSw
          try dsimp only at hSw
          go_simp
          first | done | with_reducible rfl
        try simp only [Act.put, List.getElem_toArray, List.getElem_cons_zero, List.setIfInBounds_toArray, List.set_cons_zero, List.set_cons_succ]
        refine wpAnyH_take (i := 1) (v := ?v11) rfl (by kernel_rfl) (by kernel_rfl) (by kernel_rfl) (fun _ _ _ h => h) (Or.inl ⟨by rfl, ?hy11⟩) hHeld ?rest11
        case hy11 =>
          intro w' hSw
          try dsimp only at hSw
          go_simp
          first | done | with_reducible rfl
        try simp only [Act.put, List.getElem_toArray, List.getElem_cons_succ, List.getElem_cons_zero, List.setIfInBounds_toArray, List.set_cons_zero, List.set_cons_succ]
        refine wpAnyH_take (i := 2) (v := ?v12) rfl (by kernel_rfl) (by kernel_rfl) (by kernel_rfl) (fun _ _ _ h => h) (Or.inl ⟨by rfl, ?hy12⟩) hHeld ?rest12
        case hy12 =>
          intro w' hSw
          try dsimp only at hSw
          go_simp
          first | done | with_reducible rfl
        try simp only [Act.put, List.getElem_toArray, List.getElem_cons_succ, List.getElem_cons_zero, List.setIfInBounds_toArray, List.set_cons_zero, List.set_cons_succ]
        refine wpAnyH_take (i := 3) rfl (by kernel_rfl) (by kernel_rfl) (by kernel_rfl) (fun _ _ _ h => h) (y_ob (by rfl) (.tmp 19) (by rfl) b (off + k * 163) (by rfl) x (fun _ h => h.1)) hHeld ?_
        try simp only [Act.put, List.getElem_toArray, List.getElem_cons_succ, List.getElem_cons_zero, List.setIfInBounds_toArray, List.set_cons_zero, List.set_cons_succ]
        refine wpAnyH_take (i := 4) (v := ?v13) rfl (by kernel_rfl) (by kernel_rfl) (by kernel_rfl) (fun _ _ _ h => h) (Or.inl ⟨by rfl, ?hy13⟩) hHeld ?rest13
        case hy13 =>
          intro w' hSw
          try dsimp only at hSw
          go_simp
          first | done | with_reducible rfl
        try simp only [Act.put, List.getElem_toArray, List.getElem_cons_succ, List.getElem_cons_zero, List.setIfInBounds_toArray, List.set_cons_zero, List.set_cons_succ]
        refine wpAnyH_take (i := 5) (v := ?v14) rfl (by kernel_rfl) (by kernel_rfl) (by kernel_rfl) (fun _ _ _ h => h) (Or.inl ⟨by rfl, ?hy14⟩) hHeld ?rest14
        case hy14 =>
          intro w' hSw
          try dsimp only at hSw
          go_simp
          first | done | with_reducible rfl
        try simp only [Act.put, List.getElem_toArray, List.getElem_cons_succ, List.getElem_cons_zero, List.setIfInBounds_toArray, List.set_cons_zero, List.set_cons_succ]
        refine wpAnyH_take (i := 6) (v := ?v15) rfl (by kernel_rfl) (by kernel_rfl) (by kernel_rfl) (fun _ _ _ h => h) (Or.inl ⟨by rfl, ?hy15⟩) hHeld ?rest15
        case hy15 =>
          intro w' hSw
          try dsimp only at hSw
          go_simp
          first | done | with_reducible rfl
        try simp only [Act.put, List.getElem_toArray, List.getElem_cons_succ, List.getElem_cons_zero, List.setIfInBounds_toArray, List.set_cons_zero, List.set_cons_succ]
        refine wpAnyH_take (i := 7) rfl (by kernel_rfl) (by kernel_rfl) (by kernel_rfl) (fun _ _ _ h => h) (y_ob (by rfl) (.tmp 23) (by rfl) b2 (off2 + k * 163) (by rfl) y (fun _ h => h.2)) hHeld ?_
        try simp only [Act.put, List.getElem_toArray, List.getElem_cons_succ, List.getElem_cons_zero, List.setIfInBounds_toArray, List.set_cons_zero, List.set_cons_succ]
        refine wpAnyH_take (i := 8) rfl (by kernel_rfl) (by kernel_rfl) (by kernel_rfl) (fun _ _ _ h => h) (y_obne_of (by rfl) (by rfl) x y false HXY.out (by rfl) (by rfl)) hHeld ?_
        try simp only [Act.put, List.getElem_toArray, List.getElem_cons_succ, List.getElem_cons_zero, List.setIfInBounds_toArray, List.set_cons_zero, List.set_cons_succ]
        refine wpAnyH_done (by kernel_rfl) ?_ _
        refine OnlyN.normal ?_
        clear hHeld
        go_wp2
        go_roundw
        case rel => exact ⟨k + 1, by omega, by go_num, below_drew HB.out, by rw [← take_x H1.out HX.out, ← take_x H2.out HY.out, HQ.out, HE.out]⟩
        case measure => simp [intOf]; omega
      · have HXY := Lib.hid (show (!decide (x = y)) = true by simpa using hxy)
        have HE := Lib.hid hxy
        clear hxy
        go_wp2_with fail
        refine wp_region_only (S := fun w' => ObAt w' b (off + k * 163) x ∧ ObAt w' b2 (off2 + k * 163) y) (by kernel_rfl) ⟨HO.out.drew, HO2.out.drew⟩ (fun hHeld => ?_)
        refine wpAnyH_take (i := 0) (v := ?v16) rfl (by kernel_rfl) (by kernel_rfl) (by kernel_rfl) (fun _ _ _ h => h) (Or.inl ⟨by rfl, ?hy16⟩) hHeld ?rest16
        case hy16 =>
          intro w' hSw
          try dsimp only at hSw
          go_simp
          first | done | with_reducible rfl
        try simp only [Act.put, List.getElem_toArray, List.getElem_cons_zero, List.setIfInBounds_toArray, List.set_cons_zero, List.set_cons_succ]
        refine wpAnyH_take (i := 1) (v := ?v17) rfl (by kernel_rfl) (by kernel_rfl) (by kernel_rfl) (fun _ _ _ h => h) (Or.inl ⟨by rfl, ?hy17⟩) hHeld ?rest17
        case hy17 =>
          intro w' hSw
          try dsimp only at hSw
          go_simp
          first | done | with_reducible rfl
        try simp only [Act.put, List.getElem_toArray, List.getElem_cons_succ, List.getElem_cons_zero, List.setIfInBounds_toArray, List.set_cons_zero, List.set_cons_succ]
        refine wpAnyH_take (i := 2) (v := ?v18) rfl (by kernel_rfl) (by kernel_rfl) (by kernel_rfl) (fun _ _ _ h => h) (Or.inl ⟨by rfl, ?hy18⟩) hHeld ?rest18
        case hy18 =>
          intro w' hSw
          try dsimp only at hSw
          go_simp
          first | done | with_reducible rfl
        try simp only [Act.put, List.getElem_toArray, List.getElem_cons_succ, List.getElem_cons_zero, List.setIfInBounds_toArray, List.set_cons_zero, List.set_cons_succ]
        refine wpAnyH_take (i := 3) rfl (by kernel_rfl) (by kernel_rfl) (by kernel_rfl) (fun _ _ _ h => h) (y_ob (by rfl) (.tmp 19) (by rfl) b (off + k * 163) (by rfl) x (fun _ h => h.1)) hHeld ?_
        try simp only [Act.put, List.getElem_toArray, List.getElem_cons_succ, List.getElem_cons_zero, List.setIfInBounds_toArray, List.set_cons_zero, List.set_cons_succ]
        refine wpAnyH_take (i := 4) (v := ?v19) rfl (by kernel_rfl) (by kernel_rfl) (by kernel_rfl) (fun _ _ _ h => h) (Or.inl ⟨by rfl, ?hy19⟩) hHeld ?rest19
        case hy19 =>
          intro w' hSw
          try dsimp only at hSw
          go_simp
          first | done | with_reducible rfl
        try simp only [Act.put, List.getElem_toArray, List.getElem_cons_succ, List.getElem_cons_zero, List.setIfInBounds_toArray, List.set_cons_zero, List.set_cons_succ]
        refine wpAnyH_take (i := 5) (v := ?v20) rfl (by kernel_rfl) (by kernel_rfl) (by kernel_rfl) (fun _ _ _ h => h) (Or.inl ⟨by rfl, ?hy20⟩) hHeld ?rest20
        case hy20 =>
          intro w' hSw
          try dsimp only at hSw
          go_simp
          first | done | with_reducible rfl
        try simp only [Act.put, List.getElem_toArray, List.getElem_cons_succ, List.getElem_cons_zero, List.setIfInBounds_toArray, List.set_cons_zero, List.set_cons_succ]
        refine wpAnyH_take (i := 6) (v := ?v21) rfl (by kernel_rfl) (by kernel_rfl) (by kernel_rfl) (fun _ _ _ h => h) (Or.inl ⟨by rfl, ?hy21⟩) hHeld ?rest21
        case hy21 =>
          intro w' hSw
          try dsimp only at hSw
          go_simp
          first | done | with_reducible rfl
        try simp only [Act.put, List.getElem_toArray, List.getElem_cons_succ, List.getElem_cons_zero, List.setIfInBounds_toArray, List.set_cons_zero, List.set_cons_succ]
        refine wpAnyH_take (i := 7) rfl (by kernel_rfl) (by kernel_rfl) (by kernel_rfl) (fun _ _ _ h => h) (y_ob (by rfl) (.tmp 23) (by rfl) b2 (off2 + k * 163) (by rfl) y (fun _ h => h.2)) hHeld ?_
        try simp only [Act.put, List.getElem_toArray, List.getElem_cons_succ, List.getElem_cons_zero, List.setIfInBounds_toArray, List.set_cons_zero, List.set_cons_succ]
        refine wpAnyH_take (i := 8) rfl (by kernel_rfl) (by kernel_rfl) (by kernel_rfl) (fun _ _ _ h => h) (y_obne_of (by rfl) (by rfl) x y true HXY.out (by rfl) (by rfl)) hHeld ?_
        try simp only [Act.put, List.getElem_toArray, List.getElem_cons_succ, List.getElem_cons_zero, List.setIfInBounds_toArray, List.set_cons_zero, List.set_cons_succ]
        refine wpAnyH_done (by kernel_rfl) ?_ _
        refine OnlyN.normal ?_
        clear hHeld
        go_wp2
        go_ret
        refine ⟨ret_b (decide_eq_false (fun e => HE.out ?_)).symm, below_drew HB.out⟩
        have h1 := HX.out
        have h2 := HY.out
        subst e
        rw [← h1, ← h2]
    · obtain rfl : k = l.length := by omega
      rw [List.take_length, List.take_of_length_le (by rw [HL.out]; exact Nat.le_refl _)] at heq
      go_wp2
      go_ret
      exact ⟨ret_b (decide_eq_true heq).symm, hb⟩
theorem rsame_any (hr : RdO w A l) (hr2 : RdO w A2 l2) (hN : l.length ≤ 1000) :
    Calls Tryd.prog 27 #[.slice A l.length cap, .slice A2 l2.length cap2] w fun e w' => e = .returned (.bool (decide (l = l2))) ∧ Below w.heap.size w w' := by
  by_cases hl : l2.length = l.length
  · have := rsame_eq (cap := cap) (cap2 := cap2) hr hr2 hl hN
    rw [hl]
    exact this
  · have dd : ((l.length : Int) != (l2.length : Int)) = true := by simp; omega
    rw [show decide (l = l2) = false from decide_eq_false (fun e => hl (by rw [e]))]
    obtain ⟨m, hm⟩ : ∃ m, l.length = m := ⟨_, rfl⟩
    obtain ⟨n, hn⟩ : ∃ n, l2.length = n := ⟨_, rfl⟩
    rw [hm, hn] at dd ⊢
    have hmn : (m == n) = false := by simp; omega
    clear hl
    go_enter Tryd.func27, Tryd.ntmps27
    go_wp2
    go_ret
    exact ⟨rfl, Below.refl _ _⟩
end
end Go.Proofs.YtlhlgfehbfankaaDoor

/- volume: Sector, Spot. -/
import Derived.Test.YtpihllgdgolgpaaDoorVMay
import Derived.Test.YtpihllgdgolgpaaDoorVBou
import Derived.Test.YtpihllgdgolgpaaDoorRegIn
namespace Go.Proofs.YtpihllgdgolgpaaDoor
open Go.RowKit
attribute [local go_sem] Oper.semAt_some
set_option maxRecDepth 8000 in
set_option maxHeartbeats 1000000 in
theorem sector_no (n : Int) (x : Sp) (w : World) (hT : Tab w) (h : ¬ (rightP n ∧ mayP x)) :
    Calls Tryd.prog 13 #[plan n, x.val] w fun e w' => e = .returned (.tuple #[.int .i64 0, .int .i64 2]) ∧ Below w.heap.size w w' := by
  have HB := Lib.hid (((Below.refl w.heap.size w).alloc (Nat.le_refl _) (.cells #[.int .i64 n] 23)).alloc (by simp) (.cells x.cs.toArray 30))
  have HS := Lib.hid (show Blk ((w.alloc (.cells #[.int .i64 n] 23)).alloc (.cells x.cs.toArray 30)) (w.heap.size + 1) 30 x.cs.toArray by have := Blk.new (w.alloc (.cells #[.int .i64 n] 23)) 30 x.cs.toArray; simpa using this)
  have HT := Lib.hid ((hT.alloc (.cells #[.int .i64 n] 23)).alloc (.cells x.cs.toArray 30))
  obtain ⟨k, a, t⟩ := x
  clear hT
  by_cases hr : rightP n
  · have hm : decide (mayP ⟨k, a, t⟩) = false := decide_eq_false fun hm => h ⟨hr, hm⟩
    have HRI := Lib.hid hr
    have HM := Lib.hid hm
    clear hr h hm
    go_enter Tryd.func13, Tryd.ntmps13
    go_wp2_with (first
      | (go_at_call 9; refine (parts_yes n _ HRI.out).mono ?_; rintro r w1 ⟨⟨g, c, rfl, hrd⟩, hb⟩; have HB1 := Lib.hid (HB.out.trans (hb.mono HB.out.size)); have HS1 := Lib.hid (HS.out.keep hb); have HT1 := Lib.hid (HT.out.below hb); obtain ⟨c0, c1, c2⟩ := HS1.out.three; clear hrd hb)
      | (go_at_call 19; refine (maybe_any ⟨k, a, t⟩ _ HT1.out).mono ?_; rw [HM.out]; rintro r w2 ⟨rfl, hb⟩; have HB2 := Lib.hid (HB1.out.trans (hb.mono HB1.out.size)); clear hb))
    go_ret2
    exact ⟨rfl, HB2.out⟩
  · have HRI := Lib.hid hr
    clear hr h
    go_enter Tryd.func13, Tryd.ntmps13
    go_wp2_with (go_at_call 9; refine (parts_no n _ HRI.out).mono ?_; rintro r w1 ⟨rfl, hb⟩; have HB1 := Lib.hid (HB.out.trans (hb.mono HB.out.size)); clear hb)
    go_ret2
    exact ⟨rfl, HB1.out⟩
set_option maxRecDepth 10000 in
set_option maxHeartbeats 2000000 in
theorem sector_yes (n : Int) (x : Sp) (w : World) (hT : Tab w) (hr : rightP n) (hm : mayP x) (f q : Int) (hfq : bndF (partsL n) x = (f, q)) (hf : 0 ≤ f ∧ f ≤ q ∧ q ≤ 212) :
    Calls Tryd.prog 13 #[plan n, x.val] w fun e w' => e = .returned (.tuple #[.int .i64 (if x.t < 0 ∨ q - f ≤ x.t then 0 else f + x.t), .int .i64 (if x.t < 0 ∨ q - f ≤ x.t then 4 else 0)]) ∧ Below w.heap.size w w' := by
  have HB := Lib.hid (((Below.refl w.heap.size w).alloc (Nat.le_refl _) (.cells #[.int .i64 n] 23)).alloc (by simp) (.cells x.cs.toArray 30))
  have HS := Lib.hid (show Blk ((w.alloc (.cells #[.int .i64 n] 23)).alloc (.cells x.cs.toArray 30)) (w.heap.size + 1) 30 x.cs.toArray by have := Blk.new (w.alloc (.cells #[.int .i64 n] 23)) 30 x.cs.toArray; simpa using this)
  have HT := Lib.hid ((hT.alloc (.cells #[.int .i64 n] 23)).alloc (.cells x.cs.toArray 30))
  obtain ⟨k, a, t⟩ := x
  have HRI := Lib.hid hr
  have HM := Lib.hid (show decide (mayP ⟨k, a, t⟩) = true from decide_eq_true hm)
  have HFQ := Lib.hid hfq
  clear hT hr hm hfq
  go_enter Tryd.func13, Tryd.ntmps13
  go_wp2_with (first
    | (go_at_call 9; refine (parts_yes n _ HRI.out).mono ?_; rintro r w1 ⟨⟨g, c, rfl, hrd⟩, hb⟩; have HB1 := Lib.hid (HB.out.trans (hb.mono HB.out.size)); have HS1 := Lib.hid (HS.out.keep hb); have HT1 := Lib.hid (HT.out.below hb); have HP1 := Lib.hid hrd; obtain ⟨c0, c1, c2⟩ := HS1.out.three; clear hrd hb)
    | (go_at_call 19; refine (maybe_any ⟨k, a, t⟩ _ HT1.out).mono ?_; rw [HM.out]; rintro r w2 ⟨rfl, hb⟩; have HB2 := Lib.hid (HB1.out.trans (hb.mono HB1.out.size)); have HS2 := Lib.hid (HS1.out.keep hb); have HP2 := Lib.hid (HP1.out.keep hb); clear hb c0 c1 c2))
  refine wp_region_only (S := fun w' => w'.cell? ⟨w.heap.size + 1, 0, none⟩ = some (.int .i64 k) ∧ w'.cell? ⟨w.heap.size + 1, 1, none⟩ = some (.int .i64 a) ∧ w'.cell? ⟨w.heap.size + 1, 2, none⟩ = some (.int .i64 t)) (by kernel_rfl) HS2.out.drew.three (fun hHeld => ?_)
  refine wpAnyH_take (i := 0) (v := ?v1) rfl (by kernel_rfl) (by kernel_rfl) (by kernel_rfl) (fun _ _ _ h => h) (Or.inl ⟨by rfl, ?hy1⟩) hHeld ?rest1
  case hy1 =>
    intro w' hSw
    try dsimp only at hSw
    go_simp
    first | done | with_reducible rfl
  try simp only [Act.put, List.getElem_toArray, List.getElem_cons_zero, List.setIfInBounds_toArray, List.set_cons_zero, List.set_cons_succ]
  refine wpAnyH_take (i := 2) (v := ?v2) rfl (by kernel_rfl) (by kernel_rfl) (by kernel_rfl) (fun _ _ _ h => h) (Or.inl ⟨by rfl, ?hy2⟩) hHeld ?rest2
  case hy2 =>
    intro w' hSw
    try dsimp only at hSw
    go_simp
    first | done | with_reducible rfl
  try simp only [Act.put, List.getElem_toArray, List.getElem_cons_succ, List.getElem_cons_zero, List.setIfInBounds_toArray, List.set_cons_zero, List.set_cons_succ]
  refine wpAnyH_ready (rs := [1]) (by kernel_rfl) (by simp) ?_
  refine AllReadyH.cons (by rfl) (fun K hK => ?_) AllReadyH.nil
  go_simp
  refine (bounds_any _ 8 c _).mono ?_
  rintro e y1 ⟨rfl, rfl⟩
  clear hHeld
  have HB3 := Lib.hid (HB2.out.drew.alloc HB2.out.size (.cells #[.slice (some ⟨g, 0, none⟩) 8 c] 35))
  have HS3 := Lib.hid (HS2.out.drew.alloc (.cells #[.slice (some ⟨g, 0, none⟩) 8 c] 35))
  have HP3 := Lib.hid (RdP.keep (w' := w2.drew.alloc (.cells #[.slice (some ⟨g, 0, none⟩) 8 c] 35)) HP2.out ((Below.drew (Below.refl _ _)).alloc (Nat.le_refl _) _))
  have HX3 := Lib.hid ((Blk.new w2.drew 35 #[.slice (some ⟨g, 0, none⟩) 8 c]).one)
  go_wp2_with fail
  refine hK.out _ _ HS3.out.three (fun hHeld => ?_)
  clear hK K
  try simp only [Act.put, List.getElem_toArray, List.getElem_cons_succ, List.getElem_cons_zero, List.setIfInBounds_toArray, List.set_cons_zero, List.set_cons_succ]
  refine wpAnyH_ready (rs := [3]) (by kernel_rfl) (by simp) ?_
  refine AllReadyH.cons (by rfl) (fun K hK => ?_) AllReadyH.nil
  go_simp
  refine (bounds1_any (partsL n) 8 rfl (by decide) g c _ ⟨k, a, t⟩ _ HP3.out HX3.out).mono ?_
  rw [HFQ.out]
  rintro e y2 ⟨rfl, b2⟩
  clear hHeld
  have HB4 := Lib.hid (HB3.out.trans (b2.mono HB3.out.size))
  have HS4 := Lib.hid (HS3.out.keep b2)
  clear b2
  go_wp2_with fail
  refine hK.out _ _ HS4.out.three (fun hHeld => ?_)
  clear hK K
  try simp only [Act.put, List.getElem_toArray, List.getElem_cons_succ, List.getElem_cons_zero, List.setIfInBounds_toArray, List.set_cons_zero, List.set_cons_succ]
  refine wpAnyH_take (i := 4) (v := ?v3) rfl (by kernel_rfl) (by kernel_rfl) (by kernel_rfl) (fun _ _ _ h => h) (Or.inl ⟨by rfl, ?hy3⟩) hHeld ?rest3
  case hy3 =>
    intro w' hSw
    try dsimp only at hSw
    go_simp
    first | done | with_reducible rfl
  try simp only [Act.put, List.getElem_toArray, List.getElem_cons_succ, List.getElem_cons_zero, List.setIfInBounds_toArray, List.set_cons_zero, List.set_cons_succ]
  refine wpAnyH_take (i := 5) (v := ?v4) rfl (by kernel_rfl) (by kernel_rfl) (by kernel_rfl) (fun _ _ _ h => h) (Or.inl ⟨by rfl, ?hy4⟩) hHeld ?rest4
  case hy4 =>
    intro w' hSw
    try dsimp only at hSw
    go_simp
    first | done | with_reducible rfl
  try simp only [Act.put, List.getElem_toArray, List.getElem_cons_succ, List.getElem_cons_zero, List.setIfInBounds_toArray, List.set_cons_zero, List.set_cons_succ]
  refine wpAnyH_take (i := 6) (v := ?v5) rfl (by kernel_rfl) (by kernel_rfl) (by kernel_rfl) (fun _ _ _ h => h) (Or.inl ⟨by rfl, ?hy5⟩) hHeld ?rest5
  case hy5 =>
    intro w' hSw
    try dsimp only at hSw
    go_simp
    first | done | with_reducible rfl
  try simp only [Act.put, List.getElem_toArray, List.getElem_cons_succ, List.getElem_cons_zero, List.setIfInBounds_toArray, List.set_cons_zero, List.set_cons_succ]
  refine wpAnyH_take (i := 7) (v := ?v6) rfl (by kernel_rfl) (by kernel_rfl) (by kernel_rfl) (fun _ _ _ h => h) (Or.inl ⟨by rfl, ?hy6⟩) hHeld ?rest6
  case hy6 =>
    intro w' hSw
    try dsimp only at hSw
    go_simp
    first | done | with_reducible rfl
  try simp only [Act.put, List.getElem_toArray, List.getElem_cons_succ, List.getElem_cons_zero, List.setIfInBounds_toArray, List.set_cons_zero, List.set_cons_succ]
  refine wpAnyH_take (i := 8) (v := ?v7) rfl (by kernel_rfl) (by kernel_rfl) (by kernel_rfl) (fun _ _ _ h => h) (Or.inl ⟨by rfl, ?hy7⟩) hHeld ?rest7
  case hy7 =>
    intro w' hSw
    try dsimp only at hSw
    go_simp
    first | done | with_reducible rfl
  try simp only [Act.put, List.getElem_toArray, List.getElem_cons_succ, List.getElem_cons_zero, List.setIfInBounds_toArray, List.set_cons_zero, List.set_cons_succ]
  refine wpAnyH_done (by kernel_rfl) ?_ _
  refine OnlyN.normal ?_
  clear hHeld
  obtain ⟨c0, c1, c2⟩ := HS4.out.three
  by_cases h0 : t < 0
  · have d0 : decide (t < 0) = true := decide_eq_true h0
    have HC := Lib.hid (show t < 0 ∨ q - f ≤ t from Or.inl h0)
    clear h0
    go_wp2
    go_ret2
    exact ⟨by first | rfl | (rw [if_pos HC.out, if_pos HC.out]; rfl) | (rw [if_pos HC.out]; rfl), HB4.out⟩
  · have d0 : decide (t < 0) = false := decide_eq_false h0
    by_cases h1 : q - f ≤ t
    · have d1 : decide (q - f ≤ t) = true := decide_eq_true h1
      have HC := Lib.hid (show t < 0 ∨ q - f ≤ t from Or.inr h1)
      clear h0 h1
      go_wp2
      go_ret2
      exact ⟨by first | rfl | (rw [if_pos HC.out, if_pos HC.out]; rfl) | (rw [if_pos HC.out]; rfl), HB4.out⟩
    · have d1 : decide (q - f ≤ t) = false := decide_eq_false h1
      have HC := Lib.hid (show ¬ (t < 0 ∨ q - f ≤ t) from fun h => h.elim h0 h1)
      have ht : 0 ≤ t ∧ t ≤ 1000 := by omega
      clear h0 h1
      go_wp2
      go_ret2
      exact ⟨by first | rfl | (rw [if_neg HC.out, if_neg HC.out]; rfl) | (rw [if_neg HC.out]; rfl), HB4.out⟩
set_option maxRecDepth 8000 in
theorem sector_any (n : Int) (x : Sp) (w : World) (hT : Tab w) :
    Calls Tryd.prog 13 #[plan n, x.val] w fun e w' => e = .returned (.tuple #[.int .i64 (secP n x).1, .int .i64 (secP n x).2]) ∧ Below w.heap.size w w' := by
  by_cases h : rightP n ∧ mayP x
  · refine (sector_yes n x w hT h.1 h.2 (bndF (partsL n) x).1 (bndF (partsL n) x).2 rfl (bnd_in n h.1 x)).mono fun e w' ⟨he, hb⟩ => ⟨?_, hb⟩
    rw [he]
    by_cases h2 : x.t < 0 ∨ (bndF (partsL n) x).2 - (bndF (partsL n) x).1 ≤ x.t
    · rw [secP_out h h2, if_pos h2, if_pos h2]
    · rw [secP_in h h2, if_neg h2, if_neg h2]
  · rw [secP_no h]
    exact sector_no n x w hT h
end Go.Proofs.YtpihllgdgolgpaaDoor

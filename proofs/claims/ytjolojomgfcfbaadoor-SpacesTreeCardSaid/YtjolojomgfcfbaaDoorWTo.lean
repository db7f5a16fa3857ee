/- spaces: toPlace: a walk till the place is found. -/
import Derived.Test.YtjolojomgfcfbaaDoorWProg
import Derived.WalkMore
namespace Go.Proofs.YtjolojomgfcfbaaDoor
open Go.RowKit
/-- how deep the walk at g is -/
def depthOf (g : Nat) (w : World) : Nat := match w.cell? ⟨g, 24, none⟩ with
  | some (.int _ n) => n.toNat
  | _ => 0
theorem sfind2 : Instr.findNow (.int .i64) (.int .i64 2) sE2.toList 0 = some (some (0, .func (.func 49) #[] #[])) := rfl
theorem sfind3 : Instr.findNow (.int .i64) (.int .i64 3) sE2.toList 0 = some (some (1, .func (.func 50) #[] #[])) := rfl
section
variable {w : World} {g base q : Nat} {A : Option Addr} {cap : Nat} {ps : List Nat} {os : List Oj} {ad : Int} {s : Ws} {y : Ky} {a : Int}
set_option maxRecDepth 8000 in
theorem WkS.depth (h : WkS w g base q A cap ps os ad s y a) : depthOf g w = s.d := by
  have : w.cell? ⟨g, 24, none⟩ = some (.int .i64 (s.d : Int)) := h.blk.cell 24
  unfold depthOf
  rw [this]
  exact Int.toNat_natCast _
/-- what a walk has come to -/
def Came (w' : World) (g base q : Nat) (A : Option Addr) (cap : Nat) (ps : List Nat) (os : List Oj) (ad : Int) (O : Wo) (e : Ending) : Prop :=
  (∃ k kp, O = .fault k kp ∧ e = .panicked (faP ⟨k, kp, ad⟩)) ∨ (∃ x a' kp d s', O = .found x a' kp d ∧ e = .returned (.tuple #[]) ∧ WkS w' g base q A cap ps os ad s' x (a' : Int) ∧ s'.kp = kp ∧ s'.d = d)
set_option maxRecDepth 100000 in
set_option maxHeartbeats 16000000 in
theorem toPlace_any (H : WkS w g base q A cap ps os ad s y a) :
    Calls Tryd.prog 25 #[.pointer (some ⟨g, 0, none⟩)] w fun e w' => Came w' g base q A cap ps os ad (runW os (9 - s.d) s) e ∧ Fr (fun k => k = g) w w' := by
  obtain ⟨O, hO⟩ : ∃ O, O = runW os (9 - s.d) s := ⟨_, rfl⟩
  rw [← hO]
  have HO := Lib.hid hO
  have HS0 := Lib.hid (H.alloc (.map sE2 2))
  have HM0 := Lib.hid (heap_alloc_new w (.map sE2 2))
  have HF0 := Lib.hid ((Fr.refl (fun k => k = g) w).alloc (.map sE2 2))
  have HLT := Lib.hid (show w.heap.size ≠ g by have := H.lt; omega)
  clear H hO
  go_enter Tryd.func25, Tryd.ntmps25
  go_step3
  go_wp2_with (go_at_call 37; refine (steps_any _).mono ?_; rintro e w1 ⟨rfl, rfl⟩)
  go_step3
  go_wp2_with fail
  generalize w.alloc (.map sE2 2) = W0 at HS0 HM0 HF0 ⊢
  obtain ⟨mb, hmb⟩ : ∃ mb, mb = w.heap.size := ⟨_, rfl⟩
  rw [← hmb] at HM0 HLT ⊢
  clear hmb
  go_loopw [] (fun wr => ∃ s' : Ws, WkS wr g base q A cap ps os ad s' y a ∧ O = runW os (9 - s'.d) s' ∧ wr.heap[mb]? = some (.map sE2 2) ∧ Fr (fun k => k = g) w wr) (fun wr => 9 - depthOf g wr)
  case atStart => exact ⟨s, HS0.out, HO.out, HM0.out, HF0.out⟩
  case round =>
    clear HS0 HM0 HF0 HO
    obtain ⟨s, hs', hO', hm', hf'⟩ := hrel
    have HS := Lib.hid hs'
    have HM := Lib.hid hm'
    have HF := Lib.hid hf'
    have HO := Lib.hid hO'
    clear hs' hm' hf' hO'
    by_cases hpg : pgN os s.x
    · obtain ⟨j, u, d⟩ := pgN_d hpg
      have HPK := Lib.hid (show prepd os s.x = s.x from prepd_named hpg.1)
      have HOK := Lib.hid d.ok
      have hk := hpg.2
      have HK3 := Lib.hid hpg.2
      have HPG := Lib.hid hpg
      have hfind : Instr.findNow (.int .i64) (.int .i64 s.x.k) sE2.toList 0 = some (some (1, .func (.func 50) #[] #[])) := by rw [hk]; exact sfind3
      have HFI := Lib.hid hfind
      clear hpg d hk hfind
      go_wp2_with fail
      refine wp_region_only (S := fun W => W.cell? ⟨g, 0, none⟩ = some (pv q) ∧ KeyAt W g 2 s.x ∧ W.heap[mb]? = some (.map sE2 2)) (by kernel_rfl) ⟨(HS.out.drew).c0, (HS.out.drew).key, HM.out⟩ (fun hHeld => ?_)
      refine wpAnyH_take (i := 0) (v := ?v1) rfl (by kernel_rfl) (by kernel_rfl) (by kernel_rfl) (fun _ _ _ h => h) (Or.inl ⟨by rfl, ?hy1⟩) hHeld ?rest1
      case hy1 =>
        intro w' hSw
        try dsimp only at hSw
        go_simp
        first | done | with_reducible rfl
      try simp only [Act.put, List.getElem_toArray, List.getElem_cons_zero, List.setIfInBounds_toArray, List.set_cons_zero, List.set_cons_succ]
      refine wpAnyH_take (i := 1) (v := ?v2) rfl (by kernel_rfl) (by kernel_rfl) (by kernel_rfl) (fun _ _ _ h => h) (Or.inl ⟨by rfl, ?hy2⟩) hHeld ?rest2
      case hy2 =>
        intro w' hSw
        try dsimp only at hSw
        go_simp
        first | done | with_reducible rfl
      try simp only [Act.put, List.getElem_toArray, List.getElem_cons_succ, List.getElem_cons_zero, List.setIfInBounds_toArray, List.set_cons_zero, List.set_cons_succ]
      refine wpAnyH_take (i := 2) (v := ?v3) rfl (by kernel_rfl) (by kernel_rfl) (by kernel_rfl) (fun _ _ _ h => h) (Or.inl ⟨by rfl, ?hy3⟩) hHeld ?rest3
      case hy3 =>
        intro w' hSw
        try dsimp only at hSw
        go_simp
        first | done | with_reducible rfl
      try simp only [Act.put, List.getElem_toArray, List.getElem_cons_succ, List.getElem_cons_zero, List.setIfInBounds_toArray, List.set_cons_zero, List.set_cons_succ]
      refine wpAnyH_take (i := 3) (v := ?v4) rfl (by kernel_rfl) (by kernel_rfl) (by kernel_rfl) (fun _ _ _ h => h) (Or.inl ⟨by rfl, ?hy4⟩) hHeld ?rest4
      case hy4 =>
        intro w' hSw
        try dsimp only at hSw
        go_simp
        first | done | with_reducible rfl
      try simp only [Act.put, List.getElem_toArray, List.getElem_cons_succ, List.getElem_cons_zero, List.setIfInBounds_toArray, List.set_cons_zero, List.set_cons_succ]
      refine wpAnyH_take (i := 4) rfl (by kernel_rfl) (by kernel_rfl) (by kernel_rfl) (fun _ _ _ h => h) (y_cell (by rfl) 35 (.tmp 10) (by rfl) g 0 (by rfl) (pv q) (ld_ptr g 0 q) (fun _ h => h.1)) hHeld ?_
      try simp only [Act.put, List.getElem_toArray, List.getElem_cons_succ, List.getElem_cons_zero, List.setIfInBounds_toArray, List.set_cons_zero, List.set_cons_succ]
      refine wpAnyH_take (i := 5) (v := ?v5) rfl (by kernel_rfl) (by kernel_rfl) (by kernel_rfl) (fun _ _ _ h => h) (Or.inl ⟨by rfl, ?hy5⟩) hHeld ?rest5
      case hy5 =>
        intro w' hSw
        try dsimp only at hSw
        go_simp
        first | done | with_reducible rfl
      try simp only [Act.put, List.getElem_toArray, List.getElem_cons_succ, List.getElem_cons_zero, List.setIfInBounds_toArray, List.set_cons_zero, List.set_cons_succ]
      refine wpAnyH_take (i := 6) (v := ?v6) rfl (by kernel_rfl) (by kernel_rfl) (by kernel_rfl) (fun _ _ _ h => h) (Or.inl ⟨by rfl, ?hy6⟩) hHeld ?rest6
      case hy6 =>
        intro w' hSw
        try dsimp only at hSw
        go_simp
        first | done | with_reducible rfl
      try simp only [Act.put, List.getElem_toArray, List.getElem_cons_succ, List.getElem_cons_zero, List.setIfInBounds_toArray, List.set_cons_zero, List.set_cons_succ]
      refine wpAnyH_take (i := 7) (v := ?v7) rfl (by kernel_rfl) (by kernel_rfl) (by kernel_rfl) (fun _ _ _ h => h) (Or.inl ⟨by rfl, ?hy7⟩) hHeld ?rest7
      case hy7 =>
        intro w' hSw
        try dsimp only at hSw
        go_simp
        first | done | with_reducible rfl
      try simp only [Act.put, List.getElem_toArray, List.getElem_cons_succ, List.getElem_cons_zero, List.setIfInBounds_toArray, List.set_cons_zero, List.set_cons_succ]
      refine wpAnyH_take (i := 8) rfl (by kernel_rfl) (by kernel_rfl) (by kernel_rfl) (fun _ _ _ h => h) (y_kyG (by rfl) (.tmp 14) (by rfl) g 2 (by rfl) s.x (fun _ h => h.2.1)) hHeld ?_
      try simp only [Act.put, List.getElem_toArray, List.getElem_cons_succ, List.getElem_cons_zero, List.setIfInBounds_toArray, List.set_cons_zero, List.set_cons_succ]
      refine wpAnyH_ready (rs := [9]) (by kernel_rfl) (by simp) ?_
      refine AllReadyH.cons (by rfl) (fun K hK => ?_) AllReadyH.nil
      go_simp
      refine (prep_at HS.out.drew.st HS.out.n HS.out.drew.tab s.x).mono ?_
      rw [HPK.out]
      rintro e_ w1 ⟨rfl, bb⟩
      have HS1 := Lib.hid (HS.out.drew.below bb)
      have HM1 := Lib.hid ((bb.block mb (Array.getElem?_eq_some_iff.1 HM.out).1).trans HM.out)
      have HF1 := Lib.hid (HF.out.below (below_of_drew bb))
      clear bb hHeld
      go_wp2_with fail
      refine hK.out _ _ ⟨(HS1.out).c0, (HS1.out).key, HM1.out⟩ (fun hHeld => ?_)
      clear hK K
      try simp only [Act.put, List.getElem_toArray, List.getElem_cons_succ, List.getElem_cons_zero, List.setIfInBounds_toArray, List.set_cons_zero, List.set_cons_succ]
      refine wpAnyH_take (i := 10) rfl (by kernel_rfl) (by kernel_rfl) (by kernel_rfl) (fun _ _ _ h => h) (y_field0 (by rfl) (.tmp 16) (by rfl) s.x rfl) hHeld ?_
      try simp only [Act.put, List.getElem_toArray, List.getElem_cons_succ, List.getElem_cons_zero, List.setIfInBounds_toArray, List.set_cons_zero, List.set_cons_succ]
      refine wpAnyH_take (i := 11) rfl (by kernel_rfl) (by kernel_rfl) (by kernel_rfl) (fun _ _ _ h => h) (y_slook (by rfl) (.tmp 7) (.tmp 17) (by rfl) mb s.x.k (some (1, .func (.func 50) #[] #[])) (by rfl) (by rfl) HFI.out (fun _ h => h.2.2)) hHeld ?_
      try simp only [Act.put, List.getElem_toArray, List.getElem_cons_succ, List.getElem_cons_zero, List.setIfInBounds_toArray, List.set_cons_zero, List.set_cons_succ]
      refine wpAnyH_take (i := 12) (v := ?v8) rfl (by kernel_rfl) (by kernel_rfl) (by kernel_rfl) (fun _ _ _ h => h) (Or.inl ⟨by rfl, ?hy8⟩) hHeld ?rest8
      case hy8 =>
        intro w' hSw
        try dsimp only at hSw
        go_simp
        first | done | with_reducible rfl
      try simp only [Act.put, List.getElem_toArray, List.getElem_cons_succ, List.getElem_cons_zero, List.setIfInBounds_toArray, List.set_cons_zero, List.set_cons_succ]
      refine wpAnyH_take (i := 13) (v := ?v9) rfl (by kernel_rfl) (by kernel_rfl) (by kernel_rfl) (fun _ _ _ h => h) (Or.inl ⟨by rfl, ?hy9⟩) hHeld ?rest9
      case hy9 =>
        intro w' hSw
        try dsimp only at hSw
        go_simp
        first | done | with_reducible rfl
      try simp only [Act.put, List.getElem_toArray, List.getElem_cons_succ, List.getElem_cons_zero, List.setIfInBounds_toArray, List.set_cons_zero, List.set_cons_succ]
      refine wpAnyH_take (i := 14) (v := ?v10) rfl (by kernel_rfl) (by kernel_rfl) (by kernel_rfl) (fun _ _ _ h => h) (Or.inl ⟨by rfl, ?hy10⟩) hHeld ?rest10
      case hy10 =>
        intro w' hSw
        try dsimp only at hSw
        go_simp
        first | done | with_reducible rfl
      try simp only [Act.put, List.getElem_toArray, List.getElem_cons_succ, List.getElem_cons_zero, List.setIfInBounds_toArray, List.set_cons_zero, List.set_cons_succ]
      refine wpAnyH_take (i := 15) (v := ?v11) rfl (by kernel_rfl) (by kernel_rfl) (by kernel_rfl) (fun _ _ _ h => h) (Or.inl ⟨by rfl, ?hy11⟩) hHeld ?rest11
      case hy11 =>
        intro w' hSw
        try dsimp only at hSw
        go_simp
        first | done | with_reducible rfl
      try simp only [Act.put, List.getElem_toArray, List.getElem_cons_succ, List.getElem_cons_zero, List.setIfInBounds_toArray, List.set_cons_zero, List.set_cons_succ]
      refine wpAnyH_take (i := 16) (v := ?v12) rfl (by kernel_rfl) (by kernel_rfl) (by kernel_rfl) (fun _ _ _ h => h) (Or.inl ⟨by rfl, ?hy12⟩) hHeld ?rest12
      case hy12 =>
        intro w' hSw
        try dsimp only at hSw
        go_simp
        first | done | with_reducible rfl
      try simp only [Act.put, List.getElem_toArray, List.getElem_cons_succ, List.getElem_cons_zero, List.setIfInBounds_toArray, List.set_cons_zero, List.set_cons_succ]
      refine wpAnyH_done (by kernel_rfl) ?_ _
      refine OnlyN.normal ?_
      by_cases hl : 64 ≤ s.left
      · have HL := Lib.hid hl
        clear hl
        go_wp2_with (first
          | (go_at_call 50; refine (page_far HS1.out HL.out).mono ?_; rintro e w2 ⟨rfl, b_⟩; have HF2 := Lib.hid (HF1.out.below b_); clear b_))
        exact ⟨rfl, .inl ⟨_, _, HO.out.trans (run_inl HS.out.d8 (stepW_far HPG.out HL.out)), rfl⟩, HF2.out⟩
      · have HL := Lib.hid hl
        clear hl
        go_wp2_with (first
          | (go_at_call 50; refine (page_any HS1.out HK3.out HOK.out HL.out).mono ?_; rintro e w2 ⟨rfl, hs2, f2⟩; have HS2 := Lib.hid hs2; have HF2 := Lib.hid (HF1.out.trans f2); clear hs2 f2))
        rw [Exit.noGoto_normal]
        go_end0
        exact ⟨.inr ⟨_, _, _, _, s, HO.out.trans (run_inl HS.out.d8 (stepW_page HPG.out HL.out)), rfl, HS2.out, rfl, rfl⟩, HF2.out⟩
    · by_cases hak : askN os s.x
      · obtain ⟨j, u, d⟩ := askN_d hak
        have HPK := Lib.hid (show prepd os s.x = s.x from prepd_named hak.1)
        have HD := Lib.hid d
        have HAK := Lib.hid hak
        have hk := hak.2
        have hfind : Instr.findNow (.int .i64) (.int .i64 s.x.k) sE2.toList 0 = some (some (0, .func (.func 49) #[] #[])) := by rw [hk]; exact sfind2
        have HFI := Lib.hid hfind
        clear hpg hak d hk hfind
        go_wp2_with fail
        refine wp_region_only (S := fun W => W.cell? ⟨g, 0, none⟩ = some (pv q) ∧ KeyAt W g 2 s.x ∧ W.heap[mb]? = some (.map sE2 2)) (by kernel_rfl) ⟨(HS.out.drew).c0, (HS.out.drew).key, HM.out⟩ (fun hHeld => ?_)
        refine wpAnyH_take (i := 0) (v := ?v13) rfl (by kernel_rfl) (by kernel_rfl) (by kernel_rfl) (fun _ _ _ h => h) (Or.inl ⟨by rfl, ?hy13⟩) hHeld ?rest13
        case hy13 =>
          intro w' hSw
          try dsimp only at hSw
          go_simp
          first | done | with_reducible rfl
        try simp only [Act.put, List.getElem_toArray, List.getElem_cons_zero, List.setIfInBounds_toArray, List.set_cons_zero, List.set_cons_succ]
        refine wpAnyH_take (i := 1) (v := ?v14) rfl (by kernel_rfl) (by kernel_rfl) (by kernel_rfl) (fun _ _ _ h => h) (Or.inl ⟨by rfl, ?hy14⟩) hHeld ?rest14
        case hy14 =>
          intro w' hSw
          try dsimp only at hSw
          go_simp
          first | done | with_reducible rfl
        try simp only [Act.put, List.getElem_toArray, List.getElem_cons_succ, List.getElem_cons_zero, List.setIfInBounds_toArray, List.set_cons_zero, List.set_cons_succ]
        refine wpAnyH_take (i := 2) (v := ?v15) rfl (by kernel_rfl) (by kernel_rfl) (by kernel_rfl) (fun _ _ _ h => h) (Or.inl ⟨by rfl, ?hy15⟩) hHeld ?rest15
        case hy15 =>
          intro w' hSw
          try dsimp only at hSw
          go_simp
          first | done | with_reducible rfl
        try simp only [Act.put, List.getElem_toArray, List.getElem_cons_succ, List.getElem_cons_zero, List.setIfInBounds_toArray, List.set_cons_zero, List.set_cons_succ]
        refine wpAnyH_take (i := 3) (v := ?v16) rfl (by kernel_rfl) (by kernel_rfl) (by kernel_rfl) (fun _ _ _ h => h) (Or.inl ⟨by rfl, ?hy16⟩) hHeld ?rest16
        case hy16 =>
          intro w' hSw
          try dsimp only at hSw
          go_simp
          first | done | with_reducible rfl
        try simp only [Act.put, List.getElem_toArray, List.getElem_cons_succ, List.getElem_cons_zero, List.setIfInBounds_toArray, List.set_cons_zero, List.set_cons_succ]
        refine wpAnyH_take (i := 4) rfl (by kernel_rfl) (by kernel_rfl) (by kernel_rfl) (fun _ _ _ h => h) (y_cell (by rfl) 35 (.tmp 10) (by rfl) g 0 (by rfl) (pv q) (ld_ptr g 0 q) (fun _ h => h.1)) hHeld ?_
        try simp only [Act.put, List.getElem_toArray, List.getElem_cons_succ, List.getElem_cons_zero, List.setIfInBounds_toArray, List.set_cons_zero, List.set_cons_succ]
        refine wpAnyH_take (i := 5) (v := ?v17) rfl (by kernel_rfl) (by kernel_rfl) (by kernel_rfl) (fun _ _ _ h => h) (Or.inl ⟨by rfl, ?hy17⟩) hHeld ?rest17
        case hy17 =>
          intro w' hSw
          try dsimp only at hSw
          go_simp
          first | done | with_reducible rfl
        try simp only [Act.put, List.getElem_toArray, List.getElem_cons_succ, List.getElem_cons_zero, List.setIfInBounds_toArray, List.set_cons_zero, List.set_cons_succ]
        refine wpAnyH_take (i := 6) (v := ?v18) rfl (by kernel_rfl) (by kernel_rfl) (by kernel_rfl) (fun _ _ _ h => h) (Or.inl ⟨by rfl, ?hy18⟩) hHeld ?rest18
        case hy18 =>
          intro w' hSw
          try dsimp only at hSw
          go_simp
          first | done | with_reducible rfl
        try simp only [Act.put, List.getElem_toArray, List.getElem_cons_succ, List.getElem_cons_zero, List.setIfInBounds_toArray, List.set_cons_zero, List.set_cons_succ]
        refine wpAnyH_take (i := 7) (v := ?v19) rfl (by kernel_rfl) (by kernel_rfl) (by kernel_rfl) (fun _ _ _ h => h) (Or.inl ⟨by rfl, ?hy19⟩) hHeld ?rest19
        case hy19 =>
          intro w' hSw
          try dsimp only at hSw
          go_simp
          first | done | with_reducible rfl
        try simp only [Act.put, List.getElem_toArray, List.getElem_cons_succ, List.getElem_cons_zero, List.setIfInBounds_toArray, List.set_cons_zero, List.set_cons_succ]
        refine wpAnyH_take (i := 8) rfl (by kernel_rfl) (by kernel_rfl) (by kernel_rfl) (fun _ _ _ h => h) (y_kyG (by rfl) (.tmp 14) (by rfl) g 2 (by rfl) s.x (fun _ h => h.2.1)) hHeld ?_
        try simp only [Act.put, List.getElem_toArray, List.getElem_cons_succ, List.getElem_cons_zero, List.setIfInBounds_toArray, List.set_cons_zero, List.set_cons_succ]
        refine wpAnyH_ready (rs := [9]) (by kernel_rfl) (by simp) ?_
        refine AllReadyH.cons (by rfl) (fun K hK => ?_) AllReadyH.nil
        go_simp
        refine (prep_at HS.out.drew.st HS.out.n HS.out.drew.tab s.x).mono ?_
        rw [HPK.out]
        rintro e_ w1 ⟨rfl, bb⟩
        have HS1 := Lib.hid (HS.out.drew.below bb)
        have HM1 := Lib.hid ((bb.block mb (Array.getElem?_eq_some_iff.1 HM.out).1).trans HM.out)
        have HF1 := Lib.hid (HF.out.below (below_of_drew bb))
        clear bb hHeld
        go_wp2_with fail
        refine hK.out _ _ ⟨(HS1.out).c0, (HS1.out).key, HM1.out⟩ (fun hHeld => ?_)
        clear hK K
        try simp only [Act.put, List.getElem_toArray, List.getElem_cons_succ, List.getElem_cons_zero, List.setIfInBounds_toArray, List.set_cons_zero, List.set_cons_succ]
        refine wpAnyH_take (i := 10) rfl (by kernel_rfl) (by kernel_rfl) (by kernel_rfl) (fun _ _ _ h => h) (y_field0 (by rfl) (.tmp 16) (by rfl) s.x rfl) hHeld ?_
        try simp only [Act.put, List.getElem_toArray, List.getElem_cons_succ, List.getElem_cons_zero, List.setIfInBounds_toArray, List.set_cons_zero, List.set_cons_succ]
        refine wpAnyH_take (i := 11) rfl (by kernel_rfl) (by kernel_rfl) (by kernel_rfl) (fun _ _ _ h => h) (y_slook (by rfl) (.tmp 7) (.tmp 17) (by rfl) mb s.x.k (some (0, .func (.func 49) #[] #[])) (by rfl) (by rfl) HFI.out (fun _ h => h.2.2)) hHeld ?_
        try simp only [Act.put, List.getElem_toArray, List.getElem_cons_succ, List.getElem_cons_zero, List.setIfInBounds_toArray, List.set_cons_zero, List.set_cons_succ]
        refine wpAnyH_take (i := 12) (v := ?v20) rfl (by kernel_rfl) (by kernel_rfl) (by kernel_rfl) (fun _ _ _ h => h) (Or.inl ⟨by rfl, ?hy20⟩) hHeld ?rest20
        case hy20 =>
          intro w' hSw
          try dsimp only at hSw
          go_simp
          first | done | with_reducible rfl
        try simp only [Act.put, List.getElem_toArray, List.getElem_cons_succ, List.getElem_cons_zero, List.setIfInBounds_toArray, List.set_cons_zero, List.set_cons_succ]
        refine wpAnyH_take (i := 13) (v := ?v21) rfl (by kernel_rfl) (by kernel_rfl) (by kernel_rfl) (fun _ _ _ h => h) (Or.inl ⟨by rfl, ?hy21⟩) hHeld ?rest21
        case hy21 =>
          intro w' hSw
          try dsimp only at hSw
          go_simp
          first | done | with_reducible rfl
        try simp only [Act.put, List.getElem_toArray, List.getElem_cons_succ, List.getElem_cons_zero, List.setIfInBounds_toArray, List.set_cons_zero, List.set_cons_succ]
        refine wpAnyH_take (i := 14) (v := ?v22) rfl (by kernel_rfl) (by kernel_rfl) (by kernel_rfl) (fun _ _ _ h => h) (Or.inl ⟨by rfl, ?hy22⟩) hHeld ?rest22
        case hy22 =>
          intro w' hSw
          try dsimp only at hSw
          go_simp
          first | done | with_reducible rfl
        try simp only [Act.put, List.getElem_toArray, List.getElem_cons_succ, List.getElem_cons_zero, List.setIfInBounds_toArray, List.set_cons_zero, List.set_cons_succ]
        refine wpAnyH_take (i := 15) (v := ?v23) rfl (by kernel_rfl) (by kernel_rfl) (by kernel_rfl) (fun _ _ _ h => h) (Or.inl ⟨by rfl, ?hy23⟩) hHeld ?rest23
        case hy23 =>
          intro w' hSw
          try dsimp only at hSw
          go_simp
          first | done | with_reducible rfl
        try simp only [Act.put, List.getElem_toArray, List.getElem_cons_succ, List.getElem_cons_zero, List.setIfInBounds_toArray, List.set_cons_zero, List.set_cons_succ]
        refine wpAnyH_take (i := 16) (v := ?v24) rfl (by kernel_rfl) (by kernel_rfl) (by kernel_rfl) (fun _ _ _ h => h) (Or.inl ⟨by rfl, ?hy24⟩) hHeld ?rest24
        case hy24 =>
          intro w' hSw
          try dsimp only at hSw
          go_simp
          first | done | with_reducible rfl
        try simp only [Act.put, List.getElem_toArray, List.getElem_cons_succ, List.getElem_cons_zero, List.setIfInBounds_toArray, List.set_cons_zero, List.set_cons_succ]
        refine wpAnyH_done (by kernel_rfl) ?_ _
        refine OnlyN.normal ?_
        by_cases hd : s.d = 8
        · have HDE := Lib.hid hd
          clear hd
          go_wp2_with (first
            | (go_at_call 49; refine (node_deep HS1.out HDE.out).mono ?_; rintro e w2 ⟨rfl, b_⟩; have HF2 := Lib.hid (HF1.out.below b_); clear b_))
          exact ⟨rfl, .inl ⟨_, _, HO.out.trans (run_inl HS.out.d8 (stepW_deep HAK.out HDE.out)), rfl⟩, HF2.out⟩
        · have HDE := Lib.hid hd
          clear hd
          by_cases hf0 : (sl u 15).k = 1 ∧ 1 ≤ (sl u 15).v ∧ (sl u 15).v ≤ 8
          · by_cases hv : (sl u 15).v < s.high
            · obtain ⟨m, hm⟩ : ∃ m : Nat, (sl u 15).v = (m : Int) := ⟨(sl u 15).v.toNat, by have := hf0.2.1; omega⟩
              have HH := Lib.hid (show hOk (sl u 15) s.high from ⟨hf0.1, hf0.2.1, hf0.2.2, hv⟩)
              have HMM := Lib.hid hm
              clear hf0 hv hm
              by_cases hsl : 14 ≤ s.left / part m
              · have HSL := Lib.hid hsl
                clear hsl
                go_wp2_with (first
                  | (go_at_call 49; refine (node_range HS1.out HD.out HDE.out HH.out HMM.out HSL.out).mono ?_; rintro e w2 ⟨rfl, f2⟩; have HF2 := Lib.hid (HF1.out.trans f2); clear f2))
                exact ⟨rfl, .inl ⟨_, _, HO.out.trans (run_inl HS.out.d8 (stepW_range HD.out HDE.out HH.out HMM.out HSL.out)), rfl⟩, HF2.out⟩
              · have HSL := Lib.hid hsl
                clear hsl
                go_wp2_with (first
                  | (go_at_call 49; refine (node_on HS1.out HD.out HDE.out HH.out HMM.out HSL.out).mono ?_; rintro e w2 ⟨rfl, hs2, f2⟩; have HS2 := Lib.hid hs2; have HM2 := Lib.hid ((f2.block mb (Array.getElem?_eq_some_iff.1 HM1.out).1 HLT.out).trans HM1.out); have HF2 := Lib.hid (HF1.out.trans f2); clear hs2 f2))
                go_roundw
                case rel => exact ⟨_, HS2.out, HO.out.trans (run_inr HS.out.d8 (stepW_on HD.out HDE.out HH.out HMM.out HSL.out) rfl), HM2.out, HF2.out⟩
                case measure =>
                  rw [HS2.out.depth, HS.out.depth]
                  have h1 := HS.out.d8
                  have h2 := HDE.out
                  show 9 - (s.d + 1) < 9 - s.d
                  omega
            · have HH0 := Lib.hid hf0
              have HV : Hid (¬ (sl u 15).v < s.high) := Lib.hid hv
              clear hf0 hv
              go_wp2_with (first
                | (go_at_call 49; refine (node_high HS1.out HD.out HDE.out HH0.out HV.out).mono ?_; rintro e w2 ⟨rfl, f2⟩; have HF2 := Lib.hid (HF1.out.trans f2); clear f2))
              exact ⟨rfl, .inl ⟨_, _, HO.out.trans (run_inl HS.out.d8 (stepW_form HD.out HDE.out (fun h => by have h1 := HV.out; have h2 := h.2.2.2; omega))), rfl⟩, HF2.out⟩
          · have HH0 := Lib.hid hf0
            clear hf0
            go_wp2_with (first
              | (go_at_call 49; refine (node_none HS1.out HD.out HDE.out HH0.out).mono ?_; rintro e w2 ⟨rfl, f2⟩; have HF2 := Lib.hid (HF1.out.trans f2); clear f2))
            exact ⟨rfl, .inl ⟨_, _, HO.out.trans (run_inl HS.out.d8 (stepW_form HD.out HDE.out (fun h => HH0.out ⟨h.1, h.2.1, h.2.2.1⟩))), rfl⟩, HF2.out⟩
      · obtain ⟨pk, hpk⟩ : ∃ pk, prepd os s.x = pk := ⟨_, rfl⟩
        have hne := prepd_else hpg hak
        rw [hpk] at hne
        have HPK := Lib.hid hpk
        have HFI := Lib.hid (sfind_none hne)
        have HPG := Lib.hid hpg
        have HAK := Lib.hid hak
        clear hpg hak hne hpk
        go_wp2_with fail
        refine wp_region_only (S := fun W => W.cell? ⟨g, 0, none⟩ = some (pv q) ∧ KeyAt W g 2 s.x ∧ W.heap[mb]? = some (.map sE2 2)) (by kernel_rfl) ⟨(HS.out.drew).c0, (HS.out.drew).key, HM.out⟩ (fun hHeld => ?_)
        refine wpAnyH_take (i := 0) (v := ?v25) rfl (by kernel_rfl) (by kernel_rfl) (by kernel_rfl) (fun _ _ _ h => h) (Or.inl ⟨by rfl, ?hy25⟩) hHeld ?rest25
        case hy25 =>
          intro w' hSw
          try dsimp only at hSw
          go_simp
          first | done | with_reducible rfl
        try simp only [Act.put, List.getElem_toArray, List.getElem_cons_zero, List.setIfInBounds_toArray, List.set_cons_zero, List.set_cons_succ]
        refine wpAnyH_take (i := 1) (v := ?v26) rfl (by kernel_rfl) (by kernel_rfl) (by kernel_rfl) (fun _ _ _ h => h) (Or.inl ⟨by rfl, ?hy26⟩) hHeld ?rest26
        case hy26 =>
          intro w' hSw
          try dsimp only at hSw
          go_simp
          first | done | with_reducible rfl
        try simp only [Act.put, List.getElem_toArray, List.getElem_cons_succ, List.getElem_cons_zero, List.setIfInBounds_toArray, List.set_cons_zero, List.set_cons_succ]
        refine wpAnyH_take (i := 2) (v := ?v27) rfl (by kernel_rfl) (by kernel_rfl) (by kernel_rfl) (fun _ _ _ h => h) (Or.inl ⟨by rfl, ?hy27⟩) hHeld ?rest27
        case hy27 =>
          intro w' hSw
          try dsimp only at hSw
          go_simp
          first | done | with_reducible rfl
        try simp only [Act.put, List.getElem_toArray, List.getElem_cons_succ, List.getElem_cons_zero, List.setIfInBounds_toArray, List.set_cons_zero, List.set_cons_succ]
        refine wpAnyH_take (i := 3) (v := ?v28) rfl (by kernel_rfl) (by kernel_rfl) (by kernel_rfl) (fun _ _ _ h => h) (Or.inl ⟨by rfl, ?hy28⟩) hHeld ?rest28
        case hy28 =>
          intro w' hSw
          try dsimp only at hSw
          go_simp
          first | done | with_reducible rfl
        try simp only [Act.put, List.getElem_toArray, List.getElem_cons_succ, List.getElem_cons_zero, List.setIfInBounds_toArray, List.set_cons_zero, List.set_cons_succ]
        refine wpAnyH_take (i := 4) rfl (by kernel_rfl) (by kernel_rfl) (by kernel_rfl) (fun _ _ _ h => h) (y_cell (by rfl) 35 (.tmp 10) (by rfl) g 0 (by rfl) (pv q) (ld_ptr g 0 q) (fun _ h => h.1)) hHeld ?_
        try simp only [Act.put, List.getElem_toArray, List.getElem_cons_succ, List.getElem_cons_zero, List.setIfInBounds_toArray, List.set_cons_zero, List.set_cons_succ]
        refine wpAnyH_take (i := 5) (v := ?v29) rfl (by kernel_rfl) (by kernel_rfl) (by kernel_rfl) (fun _ _ _ h => h) (Or.inl ⟨by rfl, ?hy29⟩) hHeld ?rest29
        case hy29 =>
          intro w' hSw
          try dsimp only at hSw
          go_simp
          first | done | with_reducible rfl
        try simp only [Act.put, List.getElem_toArray, List.getElem_cons_succ, List.getElem_cons_zero, List.setIfInBounds_toArray, List.set_cons_zero, List.set_cons_succ]
        refine wpAnyH_take (i := 6) (v := ?v30) rfl (by kernel_rfl) (by kernel_rfl) (by kernel_rfl) (fun _ _ _ h => h) (Or.inl ⟨by rfl, ?hy30⟩) hHeld ?rest30
        case hy30 =>
          intro w' hSw
          try dsimp only at hSw
          go_simp
          first | done | with_reducible rfl
        try simp only [Act.put, List.getElem_toArray, List.getElem_cons_succ, List.getElem_cons_zero, List.setIfInBounds_toArray, List.set_cons_zero, List.set_cons_succ]
        refine wpAnyH_take (i := 7) (v := ?v31) rfl (by kernel_rfl) (by kernel_rfl) (by kernel_rfl) (fun _ _ _ h => h) (Or.inl ⟨by rfl, ?hy31⟩) hHeld ?rest31
        case hy31 =>
          intro w' hSw
          try dsimp only at hSw
          go_simp
          first | done | with_reducible rfl
        try simp only [Act.put, List.getElem_toArray, List.getElem_cons_succ, List.getElem_cons_zero, List.setIfInBounds_toArray, List.set_cons_zero, List.set_cons_succ]
        refine wpAnyH_take (i := 8) rfl (by kernel_rfl) (by kernel_rfl) (by kernel_rfl) (fun _ _ _ h => h) (y_kyG (by rfl) (.tmp 14) (by rfl) g 2 (by rfl) s.x (fun _ h => h.2.1)) hHeld ?_
        try simp only [Act.put, List.getElem_toArray, List.getElem_cons_succ, List.getElem_cons_zero, List.setIfInBounds_toArray, List.set_cons_zero, List.set_cons_succ]
        refine wpAnyH_ready (rs := [9]) (by kernel_rfl) (by simp) ?_
        refine AllReadyH.cons (by rfl) (fun K hK => ?_) AllReadyH.nil
        go_simp
        refine (prep_at HS.out.drew.st HS.out.n HS.out.drew.tab s.x).mono ?_
        rw [HPK.out]
        rintro e_ w1 ⟨rfl, bb⟩
        have HS1 := Lib.hid (HS.out.drew.below bb)
        have HM1 := Lib.hid ((bb.block mb (Array.getElem?_eq_some_iff.1 HM.out).1).trans HM.out)
        have HF1 := Lib.hid (HF.out.below (below_of_drew bb))
        clear bb hHeld
        go_wp2_with fail
        refine hK.out _ _ ⟨(HS1.out).c0, (HS1.out).key, HM1.out⟩ (fun hHeld => ?_)
        clear hK K
        try simp only [Act.put, List.getElem_toArray, List.getElem_cons_succ, List.getElem_cons_zero, List.setIfInBounds_toArray, List.set_cons_zero, List.set_cons_succ]
        refine wpAnyH_take (i := 10) rfl (by kernel_rfl) (by kernel_rfl) (by kernel_rfl) (fun _ _ _ h => h) (y_field0 (by rfl) (.tmp 16) (by rfl) pk rfl) hHeld ?_
        try simp only [Act.put, List.getElem_toArray, List.getElem_cons_succ, List.getElem_cons_zero, List.setIfInBounds_toArray, List.set_cons_zero, List.set_cons_succ]
        refine wpAnyH_take (i := 11) rfl (by kernel_rfl) (by kernel_rfl) (by kernel_rfl) (fun _ _ _ h => h) (y_slook (by rfl) (.tmp 7) (.tmp 17) (by rfl) mb pk.k none (by rfl) (by rfl) HFI.out (fun _ h => h.2.2)) hHeld ?_
        try simp only [Act.put, List.getElem_toArray, List.getElem_cons_succ, List.getElem_cons_zero, List.setIfInBounds_toArray, List.set_cons_zero, List.set_cons_succ]
        refine wpAnyH_take (i := 12) (v := ?v32) rfl (by kernel_rfl) (by kernel_rfl) (by kernel_rfl) (fun _ _ _ h => h) (Or.inl ⟨by rfl, ?hy32⟩) hHeld ?rest32
        case hy32 =>
          intro w' hSw
          try dsimp only at hSw
          go_simp
          first | done | with_reducible rfl
        try simp only [Act.put, List.getElem_toArray, List.getElem_cons_succ, List.getElem_cons_zero, List.setIfInBounds_toArray, List.set_cons_zero, List.set_cons_succ]
        refine wpAnyH_take (i := 13) (v := ?v33) rfl (by kernel_rfl) (by kernel_rfl) (by kernel_rfl) (fun _ _ _ h => h) (Or.inl ⟨by rfl, ?hy33⟩) hHeld ?rest33
        case hy33 =>
          intro w' hSw
          try dsimp only at hSw
          go_simp
          first | done | with_reducible rfl
        try simp only [Act.put, List.getElem_toArray, List.getElem_cons_succ, List.getElem_cons_zero, List.setIfInBounds_toArray, List.set_cons_zero, List.set_cons_succ]
        refine wpAnyH_take (i := 14) (v := ?v34) rfl (by kernel_rfl) (by kernel_rfl) (by kernel_rfl) (fun _ _ _ h => h) (Or.inl ⟨by rfl, ?hy34⟩) hHeld ?rest34
        case hy34 =>
          intro w' hSw
          try dsimp only at hSw
          go_simp
          first | done | with_reducible rfl
        try simp only [Act.put, List.getElem_toArray, List.getElem_cons_succ, List.getElem_cons_zero, List.setIfInBounds_toArray, List.set_cons_zero, List.set_cons_succ]
        refine wpAnyH_take (i := 15) (v := ?v35) rfl (by kernel_rfl) (by kernel_rfl) (by kernel_rfl) (fun _ _ _ h => h) (Or.inl ⟨by rfl, ?hy35⟩) hHeld ?rest35
        case hy35 =>
          intro w' hSw
          try dsimp only at hSw
          go_simp
          first | done | with_reducible rfl
        try simp only [Act.put, List.getElem_toArray, List.getElem_cons_succ, List.getElem_cons_zero, List.setIfInBounds_toArray, List.set_cons_zero, List.set_cons_succ]
        refine wpAnyH_take (i := 16) (v := ?v36) rfl (by kernel_rfl) (by kernel_rfl) (by kernel_rfl) (fun _ _ _ h => h) (Or.inl ⟨by rfl, ?hy36⟩) hHeld ?rest36
        case hy36 =>
          intro w' hSw
          try dsimp only at hSw
          go_simp
          first | done | with_reducible rfl
        try simp only [Act.put, List.getElem_toArray, List.getElem_cons_succ, List.getElem_cons_zero, List.setIfInBounds_toArray, List.set_cons_zero, List.set_cons_succ]
        refine wpAnyH_done (by kernel_rfl) ?_ _
        refine OnlyN.normal ?_
        go_wp2_with (first
          | (go_at_call 26; refine (HS1.out.fault 1).mono ?_; rintro e w2 ⟨rfl, b_⟩; have HF2 := Lib.hid (HF1.out.below b_); clear b_))
        exact ⟨rfl, .inl ⟨_, _, HO.out.trans (run_inl HS.out.d8 (stepW_void HPG.out HAK.out)), rfl⟩, HF2.out⟩
end
end Go.Proofs.YtjolojomgfcfbaaDoor

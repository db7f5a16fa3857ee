/- spaces: what a step of a walk does (WNod). -/
import Derived.Test.YtjolojomgfcfbaaDoorWKep
namespace Go.Proofs.YtjolojomgfcfbaaDoor
open Go.RowKit
section
variable {w : World} {g base q : Nat} {A : Option Addr} {cap : Nat} {ps : List Nat} {os : List Oj} {ad : Int} {s : Ws} {y : Ky} {a : Int}
set_option maxRecDepth 100000 in
set_option maxHeartbeats 4000000 in
theorem node_deep (H : WkS w g base q A cap ps os ad s y a) (hd : s.d = 8) :
    Calls Tryd.prog 49 #[.pointer (some ⟨g, 0, none⟩)] w fun e w' => e = .panicked (faP ⟨3, s.kp, ad⟩) ∧ Below w.heap.size w w' := by
  obtain ⟨c0, c1, c2, c3, c4, c5, c6, c7, c8, c9, c10, c11, c12, c13, c14, c15, c16, c17, c18, c19, c20, c21, c22, c23, c24⟩ := wk_cells H.blk
  have HS := Lib.hid H
  rw [hd] at c24
  clear H hd
  go_enter Tryd.func49, Tryd.ntmps49
  go_wp2_with (first
    | (go_at_call 26; refine (HS.out.fault 3).mono ?_; rintro e w1 ⟨rfl, b_⟩; have HB := Lib.hid b_; clear b_))
  exact ⟨rfl, rfl, HB.out⟩
set_option maxRecDepth 100000 in
set_option maxHeartbeats 8000000 in
theorem node_none (H : WkS w g base q A cap ps os ad s y a) {j : Nat} {u : Oj} (d : AskD os s.x j u) (hd : s.d ≠ 8) (hf : ¬ ((sl u 15).k = 1 ∧ 1 ≤ (sl u 15).v ∧ (sl u 15).v ≤ 8)) :
    Calls Tryd.prog 49 #[.pointer (some ⟨g, 0, none⟩)] w fun e w' => e = .panicked (faP ⟨4, s.kp, ad⟩) ∧ Fr (fun k => k = g) w w' := by
  obtain ⟨c0, c1, c2, c3, c4, c5, c6, c7, c8, c9, c10, c11, c12, c13, c14, c15, c16, c17, c18, c19, c20, c21, c22, c23, c24⟩ := wk_cells H.blk
  have HS0 : Hid (WkS w g base q A cap ps os ad s y a ∧ True) := Lib.hid ⟨H, trivial⟩
  have HN := Lib.hid H.n
  have HD := Lib.hid d
  have HLT := Lib.hid H.lt
  have HDN := Lib.hid hd
  obtain ⟨_, xr, hxr, _, hx8⟩ := ok_of d.ok
  have HXR := Lib.hid hxr
  have HX8 := Lib.hid hx8
  obtain ⟨r2, hr2⟩ : ∃ r2, r2 = s.r ||| s.x.r.toNat := ⟨_, rfl⟩
  have hR28 : r2 < 8 := by rw [hr2, hxr, Int.toNat_natCast]; exact or8 H.r8 hx8
  have hor : bits .or .i64 (s.r : Int) (xr : Int) = (r2 : Int) := by rw [bor8 H.r8 hx8, hr2, hxr, Int.toNat_natCast]
  have HR2 := Lib.hid hr2
  have HR28 := Lib.hid hR28
  obtain ⟨h, hh⟩ : ∃ h, h = sl u 15 := ⟨_, rfl⟩
  obtain ⟨kk, hkk⟩ : ∃ kk, kk = sl u 14 := ⟨_, rfl⟩
  have HH := Lib.hid hh
  have HKK := Lib.hid hkk
  have e8 : ((s.d : Int) == 8) = false := by simp; omega
  have HHO := Lib.hid (show decide (h.k = 1 ∧ 1 ≤ h.v ∧ h.v ≤ 8) = false from decide_eq_false (by rw [hh]; exact hf))
  clear H d hd hxr hx8 hr2 hR28 hh hkk hf
  go_enter Tryd.func49, Tryd.ntmps49
  go_wp2_with fail
  clear c0 c1 c2 c3 c4 c5 c6 c7 c8 c9 c10 c11 c12 c13 c14 c15 c16 c17 c18 c19 c20 c21 c22 c23 c24 e8
  refine region_pg (fun ac g9 => ((((((((((((((ac.put (some 16) (.pointer (some ⟨g, 0, none⟩))).put (some 17) (.pointer (some ⟨g, 0, none⟩))).put (some 18) (.pointer (some ⟨g, 0, none⟩))).put (some 19) (pv q)).put (some 20) (.pointer (some ⟨g, 0, none⟩))).put (some 21) (.pointer (some ⟨g, 0, none⟩))).put (some 22) (.pointer (some ⟨g, 2, none⟩))).put (some 23) (s.x.val)).put (some 24) (.tuple #[u.val, .bool true])).put (some 15) (.tuple #[u.val, .bool true])).put (some 25) (u.val)).put (some 26) (.bool true)).put (some 3) (.pointer (some ⟨g9, 0, none⟩))).put (some 4) (.bool true))) (fun g9 W => WkS W g base q A cap ps os ad s y a ∧ Below w.heap.size w W ∧ Blk W g9 33 u.cells.toArray ∧ w.heap.size ≤ g9) ?mk3 ?rest3
  case mk3 =>
    refine wp_region_only (S := fun W => W.cell? ⟨g, 0, none⟩ = some (pv q) ∧ KeyAt W g 2 s.x) (by kernel_rfl) ⟨(HS0.out.1.drew).c0, (HS0.out.1.drew).key⟩ (fun hHeld => ?_)
    refine wpAnyH_take (i := 0) (v := ?v57) rfl (by kernel_rfl) (by kernel_rfl) (by kernel_rfl) (fun _ _ _ h => h) (Or.inl ⟨by rfl, ?hy57⟩) hHeld ?rest57
    case hy57 =>
      intro w' hSw
      try dsimp only at hSw
      go_simp
      first | done | with_reducible rfl
    try simp only [Act.put, List.getElem_toArray, List.getElem_cons_zero, List.setIfInBounds_toArray, List.set_cons_zero, List.set_cons_succ]
    refine wpAnyH_take (i := 1) (v := ?v58) rfl (by kernel_rfl) (by kernel_rfl) (by kernel_rfl) (fun _ _ _ h => h) (Or.inl ⟨by rfl, ?hy58⟩) hHeld ?rest58
    case hy58 =>
      intro w' hSw
      try dsimp only at hSw
      go_simp
      first | done | with_reducible rfl
    try simp only [Act.put, List.getElem_toArray, List.getElem_cons_succ, List.getElem_cons_zero, List.setIfInBounds_toArray, List.set_cons_zero, List.set_cons_succ]
    refine wpAnyH_take (i := 2) (v := ?v59) rfl (by kernel_rfl) (by kernel_rfl) (by kernel_rfl) (fun _ _ _ h => h) (Or.inl ⟨by rfl, ?hy59⟩) hHeld ?rest59
    case hy59 =>
      intro w' hSw
      try dsimp only at hSw
      go_simp
      first | done | with_reducible rfl
    try simp only [Act.put, List.getElem_toArray, List.getElem_cons_succ, List.getElem_cons_zero, List.setIfInBounds_toArray, List.set_cons_zero, List.set_cons_succ]
    refine wpAnyH_take (i := 3) rfl (by kernel_rfl) (by kernel_rfl) (by kernel_rfl) (fun _ _ _ h => h) (y_cell (by rfl) 35 (.tmp 18) (by rfl) g 0 (by rfl) (pv q) (ld_ptr g 0 q) (fun _ h => h.1)) hHeld ?_
    try simp only [Act.put, List.getElem_toArray, List.getElem_cons_succ, List.getElem_cons_zero, List.setIfInBounds_toArray, List.set_cons_zero, List.set_cons_succ]
    refine wpAnyH_take (i := 4) (v := ?v60) rfl (by kernel_rfl) (by kernel_rfl) (by kernel_rfl) (fun _ _ _ h => h) (Or.inl ⟨by rfl, ?hy60⟩) hHeld ?rest60
    case hy60 =>
      intro w' hSw
      try dsimp only at hSw
      go_simp
      first | done | with_reducible rfl
    try simp only [Act.put, List.getElem_toArray, List.getElem_cons_succ, List.getElem_cons_zero, List.setIfInBounds_toArray, List.set_cons_zero, List.set_cons_succ]
    refine wpAnyH_take (i := 5) (v := ?v61) rfl (by kernel_rfl) (by kernel_rfl) (by kernel_rfl) (fun _ _ _ h => h) (Or.inl ⟨by rfl, ?hy61⟩) hHeld ?rest61
    case hy61 =>
      intro w' hSw
      try dsimp only at hSw
      go_simp
      first | done | with_reducible rfl
    try simp only [Act.put, List.getElem_toArray, List.getElem_cons_succ, List.getElem_cons_zero, List.setIfInBounds_toArray, List.set_cons_zero, List.set_cons_succ]
    refine wpAnyH_take (i := 6) (v := ?v62) rfl (by kernel_rfl) (by kernel_rfl) (by kernel_rfl) (fun _ _ _ h => h) (Or.inl ⟨by rfl, ?hy62⟩) hHeld ?rest62
    case hy62 =>
      intro w' hSw
      try dsimp only at hSw
      go_simp
      first | done | with_reducible rfl
    try simp only [Act.put, List.getElem_toArray, List.getElem_cons_succ, List.getElem_cons_zero, List.setIfInBounds_toArray, List.set_cons_zero, List.set_cons_succ]
    refine wpAnyH_take (i := 7) rfl (by kernel_rfl) (by kernel_rfl) (by kernel_rfl) (fun _ _ _ h => h) (y_kyG (by rfl) (.tmp 22) (by rfl) g 2 (by rfl) s.x (fun _ h => h.2)) hHeld ?_
    try simp only [Act.put, List.getElem_toArray, List.getElem_cons_succ, List.getElem_cons_zero, List.setIfInBounds_toArray, List.set_cons_zero, List.set_cons_succ]
    refine wpAnyH_ready (rs := [8, 12]) (by kernel_rfl) (by simp) ?_
    refine AllReadyH.cons (by rfl) (fun K hK => ?_) (AllReadyH.cons (by rfl) (fun K hK => ?_) AllReadyH.nil)
    · go_simp
      refine (nm_some (HS0.out.1.drew).st HN.out (HS0.out.1.drew).tab HD.out.nm).mono ?_
      rintro e_ rw1 ⟨rfl, c_⟩
      have RK1 : Hid (WkS rw1 g base q A cap ps os ad s y a ∧ Below w.heap.size w rw1) := Lib.hid ⟨(HS0.out.1.drew).below c_, below_of_drew (show Below w.heap.size w.drew rw1 from c_)⟩
      clear c_ hHeld
      go_wp2_with fail
      refine hK.out _ _ ⟨(RK1.out.1).c0, (RK1.out.1).key⟩ (fun hHeld => ?_)
      clear hK K
      try simp only [Act.put, List.getElem_toArray, List.getElem_cons_succ, List.getElem_cons_zero, List.setIfInBounds_toArray, List.set_cons_zero, List.set_cons_succ]
      refine wpAnyH_take (i := 9) (v := ?v63) rfl (by kernel_rfl) (by kernel_rfl) (by kernel_rfl) (fun _ _ _ h => h) (Or.inl ⟨by rfl, ?hy63⟩) hHeld ?rest63
      case hy63 =>
        intro w' hSw
        try dsimp only at hSw
        go_simp
        first | done | with_reducible rfl
      try simp only [Act.put, List.getElem_toArray, List.getElem_cons_succ, List.getElem_cons_zero, List.setIfInBounds_toArray, List.set_cons_zero, List.set_cons_succ]
      refine wpAnyH_take (i := 10) (v := ?v64) rfl (by kernel_rfl) (by kernel_rfl) (by kernel_rfl) (fun _ _ _ h => h) (Or.inl ⟨by rfl, ?hy64⟩) hHeld ?rest64
      case hy64 =>
        intro w' hSw
        try dsimp only at hSw
        go_simp
        first | done | with_reducible rfl
      try simp only [Act.put, List.getElem_toArray, List.getElem_cons_succ, List.getElem_cons_zero, List.setIfInBounds_toArray, List.set_cons_zero, List.set_cons_succ]
      refine wpAnyH_take (i := 11) (v := ?v65) rfl (by kernel_rfl) (by kernel_rfl) (by kernel_rfl) (fun _ _ _ h => h) (Or.inl ⟨by rfl, ?hy65⟩) hHeld ?rest65
      case hy65 =>
        intro w' hSw
        try dsimp only at hSw
        go_simp
        first | done | with_reducible rfl
      try simp only [Act.put, List.getElem_toArray, List.getElem_cons_succ, List.getElem_cons_zero, List.setIfInBounds_toArray, List.set_cons_zero, List.set_cons_succ]
      refine wpAnyH_ready (rs := [12]) (by kernel_rfl) (by simp) ?_
      refine AllReadyH.cons (by rfl) (fun K hK => ?_) AllReadyH.nil
      · refine step_alloc57 rfl (by rfl) ?_
        intro g9 rw2 hg hw
        have RK2 : Hid (WkS rw2 g base q A cap ps os ad s y a ∧ Below w.heap.size w rw2) := Lib.hid (by subst hw; exact ⟨(RK1.out.1).alloc _, RK1.out.2.alloc RK1.out.2.size _⟩)
        have HGE9 : Hid (w.heap.size ≤ g9) := Lib.hid (by subst hg; exact RK1.out.2.size)
        have RG2 : Hid (Blk rw2 g9 33 oz.cells.toArray) := Lib.hid (by subst hw hg; exact Blk.new _ _ _)
        clear hg hw hHeld
        refine hK.out _ _ ⟨(RK2.out.1).c0, (RK2.out.1).key⟩ (fun hHeld => ?_)
        clear hK K
        try simp only [Act.put, List.getElem_toArray, List.getElem_cons_succ, List.getElem_cons_zero, List.setIfInBounds_toArray, List.set_cons_zero, List.set_cons_succ]
        refine wpAnyH_ready (rs := [13]) (by kernel_rfl) (by simp) ?_
        refine AllReadyH.cons (by rfl) (fun K hK => ?_) AllReadyH.nil
        refine step_store_big RG2.out rfl (.tmp 3) (.tmp 25) (ty := 33) (l := u.cells) (by rfl) (by rfl) (by rfl) (by rw [u.len]; exact size34) (by rw [oz_len, u.len]) u.one ?_
        have SK : Hid (WkS (rw2.setRow g9 u.cells.toArray) g base q A cap ps os ad s y a ∧ Below w.heap.size w (rw2.setRow g9 u.cells.toArray)) := Lib.hid ⟨HS0.out.1.row0 RK2.out.1 HGE9.out _, below_setRow RK2.out.2 HGE9.out _⟩
        have SG := Lib.hid (Blk.setRow RG2.out u.cells.toArray)
        generalize rw2.setRow g9 u.cells.toArray = SW at SK SG ⊢
        refine hK.out _ _ ⟨(SK.out.1).c0, (SK.out.1).key⟩ (fun hHeld => ?_)
        clear hK K
        try simp only [Act.put, List.getElem_toArray, List.getElem_cons_succ, List.getElem_cons_zero]
        refine wpAnyH_take (i := 14) (v := ?v66) rfl (by kernel_rfl) (by kernel_rfl) (by kernel_rfl) (fun _ _ _ h => h) (Or.inl ⟨by rfl, ?hy66⟩) hHeld ?rest66
        case hy66 =>
          intro w' hSw
          try dsimp only at hSw
          go_simp
          first | done | with_reducible rfl
        try simp only [Act.put, List.getElem_toArray, List.getElem_cons_succ, List.getElem_cons_zero, List.setIfInBounds_toArray, List.set_cons_zero, List.set_cons_succ]
        refine wpAnyH_done (by kernel_rfl) ?_ _
        refine OnlyN.normal ?_
        exact ⟨g9, rfl, rfl, SK.out.1, SK.out.2, SG.out, HGE9.out⟩
    · refine step_alloc57 rfl (by rfl) ?_
      intro g9 rw3 hg hw
      have RK3 : Hid (WkS rw3 g base q A cap ps os ad s y a ∧ Below w.heap.size w rw3) := Lib.hid (by subst hw; exact ⟨(HS0.out.1.drew).alloc _, (below_drew (Below.refl _ _)).alloc (Nat.le_refl _) _⟩)
      have HGE9 : Hid (w.heap.size ≤ g9) := Lib.hid (by subst hg; exact Nat.le_refl _)
      have RG3 : Hid (Blk rw3 g9 33 oz.cells.toArray) := Lib.hid (by subst hw hg; exact Blk.new _ _ _)
      clear hg hw hHeld
      refine hK.out _ _ ⟨(RK3.out.1).c0, (RK3.out.1).key⟩ (fun hHeld => ?_)
      clear hK K
      try simp only [Act.put, List.getElem_toArray, List.getElem_cons_succ, List.getElem_cons_zero, List.setIfInBounds_toArray, List.set_cons_zero, List.set_cons_succ]
      refine wpAnyH_ready (rs := [8]) (by kernel_rfl) (by simp) ?_
      refine AllReadyH.cons (by rfl) (fun K hK => ?_) AllReadyH.nil
      · go_simp
        refine (nm_some (RK3.out.1).st HN.out (RK3.out.1).tab HD.out.nm).mono ?_
        rintro e_ rw4 ⟨rfl, c_⟩
        have RK4 : Hid (WkS rw4 g base q A cap ps os ad s y a ∧ Below w.heap.size w rw4) := Lib.hid ⟨(RK3.out.1).below c_, RK3.out.2.trans (c_.mono RK3.out.2.size)⟩
        have RG4 := Lib.hid (RG3.out.keep c_)
        clear c_ hHeld
        go_wp2_with fail
        refine hK.out _ _ ⟨(RK4.out.1).c0, (RK4.out.1).key⟩ (fun hHeld => ?_)
        clear hK K
        try simp only [Act.put, List.getElem_toArray, List.getElem_cons_succ, List.getElem_cons_zero, List.setIfInBounds_toArray, List.set_cons_zero, List.set_cons_succ]
        refine wpAnyH_take (i := 9) (v := ?v67) rfl (by kernel_rfl) (by kernel_rfl) (by kernel_rfl) (fun _ _ _ h => h) (Or.inl ⟨by rfl, ?hy67⟩) hHeld ?rest67
        case hy67 =>
          intro w' hSw
          try dsimp only at hSw
          go_simp
          first | done | with_reducible rfl
        try simp only [Act.put, List.getElem_toArray, List.getElem_cons_succ, List.getElem_cons_zero, List.setIfInBounds_toArray, List.set_cons_zero, List.set_cons_succ]
        refine wpAnyH_take (i := 10) (v := ?v68) rfl (by kernel_rfl) (by kernel_rfl) (by kernel_rfl) (fun _ _ _ h => h) (Or.inl ⟨by rfl, ?hy68⟩) hHeld ?rest68
        case hy68 =>
          intro w' hSw
          try dsimp only at hSw
          go_simp
          first | done | with_reducible rfl
        try simp only [Act.put, List.getElem_toArray, List.getElem_cons_succ, List.getElem_cons_zero, List.setIfInBounds_toArray, List.set_cons_zero, List.set_cons_succ]
        refine wpAnyH_take (i := 11) (v := ?v69) rfl (by kernel_rfl) (by kernel_rfl) (by kernel_rfl) (fun _ _ _ h => h) (Or.inl ⟨by rfl, ?hy69⟩) hHeld ?rest69
        case hy69 =>
          intro w' hSw
          try dsimp only at hSw
          go_simp
          first | done | with_reducible rfl
        try simp only [Act.put, List.getElem_toArray, List.getElem_cons_succ, List.getElem_cons_zero, List.setIfInBounds_toArray, List.set_cons_zero, List.set_cons_succ]
        refine wpAnyH_ready (rs := [13]) (by kernel_rfl) (by simp) ?_
        refine AllReadyH.cons (by rfl) (fun K hK => ?_) AllReadyH.nil
        refine step_store_big RG4.out rfl (.tmp 3) (.tmp 25) (ty := 33) (l := u.cells) (by rfl) (by rfl) (by rfl) (by rw [u.len]; exact size34) (by rw [oz_len, u.len]) u.one ?_
        have SK : Hid (WkS (rw4.setRow g9 u.cells.toArray) g base q A cap ps os ad s y a ∧ Below w.heap.size w (rw4.setRow g9 u.cells.toArray)) := Lib.hid ⟨HS0.out.1.row0 RK4.out.1 HGE9.out _, below_setRow RK4.out.2 HGE9.out _⟩
        have SG := Lib.hid (Blk.setRow RG4.out u.cells.toArray)
        generalize rw4.setRow g9 u.cells.toArray = SW at SK SG ⊢
        refine hK.out _ _ ⟨(SK.out.1).c0, (SK.out.1).key⟩ (fun hHeld => ?_)
        clear hK K
        try simp only [Act.put, List.getElem_toArray, List.getElem_cons_succ, List.getElem_cons_zero]
        refine wpAnyH_take (i := 14) (v := ?v70) rfl (by kernel_rfl) (by kernel_rfl) (by kernel_rfl) (fun _ _ _ h => h) (Or.inl ⟨by rfl, ?hy70⟩) hHeld ?rest70
        case hy70 =>
          intro w' hSw
          try dsimp only at hSw
          go_simp
          first | done | with_reducible rfl
        try simp only [Act.put, List.getElem_toArray, List.getElem_cons_succ, List.getElem_cons_zero, List.setIfInBounds_toArray, List.set_cons_zero, List.set_cons_succ]
        refine wpAnyH_done (by kernel_rfl) ?_ _
        refine OnlyN.normal ?_
        exact ⟨g9, rfl, rfl, SK.out.1, SK.out.2, SG.out, HGE9.out⟩
  case rest3 =>
    intro g9 W3 ⟨hS3, hB3, hU3, hg3⟩
    have HS3 := Lib.hid hS3
    have HB3 := Lib.hid hB3
    have HU3 := Lib.hid hU3
    have HG3 := Lib.hid hg3
    clear hS3 hB3 hU3 hg3
    obtain ⟨c0, c1, c2, c3, c4, c5, c6, c7, c8, c9, c10, c11, c12, c13, c14, c15, c16, c17, c18, c19, c20, c21, c22, c23, c24⟩ := wk_cells HS3.out.blk
    rw [HXR.out] at c6
    have hz10 := Blk.frozen HS3.out.blk 10
    go_wp2_with fail
    go_still_tail 12, (by kernel_rfl)
    change wpList _ _ _ _ _ W3.drew
    have HS3d := Lib.hid HS3.out.drew
    have HU3d := Lib.hid (show Blk W3.drew g9 33 u.cells.toArray from HU3.out)
    have HB3d := Lib.hid (below_drew HB3.out)
    generalize W3.drew = W4 at HS3d HU3d HB3d ⊢
    clear c0 c1 c2 c3 c4 c5 c6 c7 c8 c9 c10 c11 c12 c13 c14 c15 c16 c17 c18 c19 c20 c21 c22 c23 c24 hz10 HS3 HU3 HB3
    obtain ⟨c0, c1, c2, c3, c4, c5, c6, c7, c8, c9, c10, c11, c12, c13, c14, c15, c16, c17, c18, c19, c20, c21, c22, c23, c24⟩ := wk_cells HS3d.out.blk
    have hz10 := Blk.frozen HS3d.out.blk 10
    have HS5 : Hid (WkS (W4.setCell ⟨g, 10, none⟩ (.int .i64 (r2 : Int))) g base q A cap ps os ad { s with r := r2 } y a) := Lib.hid (HS3d.out.chg (fr_set W4 g 10 _) (HS3d.out.blk.set_ 10 _) HR28.out HS3d.out.l0 HS3d.out.d8)
    have HF5 : Hid (Fr (fun k => k = g) w (W4.setCell ⟨g, 10, none⟩ (.int .i64 (r2 : Int)))) := Lib.hid ((Fr.of_below HB3d.out).trans (fr_set W4 g 10 _))
    have HU5 := Lib.hid (show Blk (W4.setCell ⟨g, 10, none⟩ (.int .i64 (r2 : Int))) g9 33 u.cells.toArray from HU3d.out.far (p := ⟨g, 10, none⟩) (by show g9 ≠ g; have := HG3.out; have := HLT.out; omega) _)
    have hK15 := Lib.hid (slot15 HU5.out)
    have hK14 := Lib.hid (slot14 HU5.out)
    rw [← HH.out] at hK15
    rw [← HKK.out] at hK14
    generalize hW5 : W4.setCell ⟨g, 10, none⟩ (.int .i64 (r2 : Int)) = W5 at HS5 HF5 HU5 hK15 hK14
    have hb5 := HS5.out.blk
    obtain ⟨d0, d1, d2, d3, d4, d5⟩ := hK15.out
    have ca9 := (wk_cells HS5.out.blk).2.2.2.2.2.2.2.2.2.1
    subst hW5
    go_wp2_with (first
      | (go_at_call 54; refine (heightOf_any h _ HHO.out).mono ?_; rintro e W6 ⟨rfl, b_⟩; have HS6 := Lib.hid (HS5.out.below b_); have HF6 := Lib.hid (HF5.out.below b_); have ca9 := (wk_cells HS6.out.blk).2.2.2.2.2.2.2.2.2.1; clear b_)
      | (go_at_call 26; refine (HS6.out.fault 4).mono ?_; rintro e W7 ⟨rfl, b_⟩; have HF7 := Lib.hid (HF6.out.below b_); clear b_))
    exact ⟨rfl, rfl, HF7.out⟩
set_option maxRecDepth 100000 in
set_option maxHeartbeats 8000000 in
theorem node_high (H : WkS w g base q A cap ps os ad s y a) {j : Nat} {u : Oj} (d : AskD os s.x j u) (hd : s.d ≠ 8) (hf : (sl u 15).k = 1 ∧ 1 ≤ (sl u 15).v ∧ (sl u 15).v ≤ 8) (hv : ¬ (sl u 15).v < s.high) :
    Calls Tryd.prog 49 #[.pointer (some ⟨g, 0, none⟩)] w fun e w' => e = .panicked (faP ⟨4, s.kp, ad⟩) ∧ Fr (fun k => k = g) w w' := by
  obtain ⟨c0, c1, c2, c3, c4, c5, c6, c7, c8, c9, c10, c11, c12, c13, c14, c15, c16, c17, c18, c19, c20, c21, c22, c23, c24⟩ := wk_cells H.blk
  have HS0 : Hid (WkS w g base q A cap ps os ad s y a ∧ True) := Lib.hid ⟨H, trivial⟩
  have HN := Lib.hid H.n
  have HD := Lib.hid d
  have HLT := Lib.hid H.lt
  have HDN := Lib.hid hd
  obtain ⟨_, xr, hxr, _, hx8⟩ := ok_of d.ok
  have HXR := Lib.hid hxr
  have HX8 := Lib.hid hx8
  obtain ⟨r2, hr2⟩ : ∃ r2, r2 = s.r ||| s.x.r.toNat := ⟨_, rfl⟩
  have hR28 : r2 < 8 := by rw [hr2, hxr, Int.toNat_natCast]; exact or8 H.r8 hx8
  have hor : bits .or .i64 (s.r : Int) (xr : Int) = (r2 : Int) := by rw [bor8 H.r8 hx8, hr2, hxr, Int.toNat_natCast]
  have HR2 := Lib.hid hr2
  have HR28 := Lib.hid hR28
  obtain ⟨h, hh⟩ : ∃ h, h = sl u 15 := ⟨_, rfl⟩
  obtain ⟨kk, hkk⟩ : ∃ kk, kk = sl u 14 := ⟨_, rfl⟩
  have HH := Lib.hid hh
  have HKK := Lib.hid hkk
  have e8 : ((s.d : Int) == 8) = false := by simp; omega
  have HHO := Lib.hid (show decide (h.k = 1 ∧ 1 ≤ h.v ∧ h.v ≤ 8) = true from decide_eq_true (by rw [hh]; exact hf))
  have e9 : decide (s.high ≤ h.v) = true := decide_eq_true (by rw [hh]; omega)
  clear H d hd hxr hx8 hr2 hR28 hh hkk hf hv
  go_enter Tryd.func49, Tryd.ntmps49
  go_wp2_with fail
  clear c0 c1 c2 c3 c4 c5 c6 c7 c8 c9 c10 c11 c12 c13 c14 c15 c16 c17 c18 c19 c20 c21 c22 c23 c24 e8
  refine region_pg (fun ac g9 => ((((((((((((((ac.put (some 16) (.pointer (some ⟨g, 0, none⟩))).put (some 17) (.pointer (some ⟨g, 0, none⟩))).put (some 18) (.pointer (some ⟨g, 0, none⟩))).put (some 19) (pv q)).put (some 20) (.pointer (some ⟨g, 0, none⟩))).put (some 21) (.pointer (some ⟨g, 0, none⟩))).put (some 22) (.pointer (some ⟨g, 2, none⟩))).put (some 23) (s.x.val)).put (some 24) (.tuple #[u.val, .bool true])).put (some 15) (.tuple #[u.val, .bool true])).put (some 25) (u.val)).put (some 26) (.bool true)).put (some 3) (.pointer (some ⟨g9, 0, none⟩))).put (some 4) (.bool true))) (fun g9 W => WkS W g base q A cap ps os ad s y a ∧ Below w.heap.size w W ∧ Blk W g9 33 u.cells.toArray ∧ w.heap.size ≤ g9) ?mk3 ?rest3
  case mk3 =>
    refine wp_region_only (S := fun W => W.cell? ⟨g, 0, none⟩ = some (pv q) ∧ KeyAt W g 2 s.x) (by kernel_rfl) ⟨(HS0.out.1.drew).c0, (HS0.out.1.drew).key⟩ (fun hHeld => ?_)
    refine wpAnyH_take (i := 0) (v := ?v71) rfl (by kernel_rfl) (by kernel_rfl) (by kernel_rfl) (fun _ _ _ h => h) (Or.inl ⟨by rfl, ?hy71⟩) hHeld ?rest71
    case hy71 =>
      intro w' hSw
      try dsimp only at hSw
      go_simp
      first | done | with_reducible rfl
    try simp only [Act.put, List.getElem_toArray, List.getElem_cons_zero, List.setIfInBounds_toArray, List.set_cons_zero, List.set_cons_succ]
    refine wpAnyH_take (i := 1) (v := ?v72) rfl (by kernel_rfl) (by kernel_rfl) (by kernel_rfl) (fun _ _ _ h => h) (Or.inl ⟨by rfl, ?hy72⟩) hHeld ?rest72
    case hy72 =>
      intro w' hSw
      try dsimp only at hSw
      go_simp
      first | done | with_reducible rfl
    try simp only [Act.put, List.getElem_toArray, List.getElem_cons_succ, List.getElem_cons_zero, List.setIfInBounds_toArray, List.set_cons_zero, List.set_cons_succ]
    refine wpAnyH_take (i := 2) (v := ?v73) rfl (by kernel_rfl) (by kernel_rfl) (by kernel_rfl) (fun _ _ _ h => h) (Or.inl ⟨by rfl, ?hy73⟩) hHeld ?rest73
    case hy73 =>
      intro w' hSw
      try dsimp only at hSw
      go_simp
      first | done | with_reducible rfl
    try simp only [Act.put, List.getElem_toArray, List.getElem_cons_succ, List.getElem_cons_zero, List.setIfInBounds_toArray, List.set_cons_zero, List.set_cons_succ]
    refine wpAnyH_take (i := 3) rfl (by kernel_rfl) (by kernel_rfl) (by kernel_rfl) (fun _ _ _ h => h) (y_cell (by rfl) 35 (.tmp 18) (by rfl) g 0 (by rfl) (pv q) (ld_ptr g 0 q) (fun _ h => h.1)) hHeld ?_
    try simp only [Act.put, List.getElem_toArray, List.getElem_cons_succ, List.getElem_cons_zero, List.setIfInBounds_toArray, List.set_cons_zero, List.set_cons_succ]
    refine wpAnyH_take (i := 4) (v := ?v74) rfl (by kernel_rfl) (by kernel_rfl) (by kernel_rfl) (fun _ _ _ h => h) (Or.inl ⟨by rfl, ?hy74⟩) hHeld ?rest74
    case hy74 =>
      intro w' hSw
      try dsimp only at hSw
      go_simp
      first | done | with_reducible rfl
    try simp only [Act.put, List.getElem_toArray, List.getElem_cons_succ, List.getElem_cons_zero, List.setIfInBounds_toArray, List.set_cons_zero, List.set_cons_succ]
    refine wpAnyH_take (i := 5) (v := ?v75) rfl (by kernel_rfl) (by kernel_rfl) (by kernel_rfl) (fun _ _ _ h => h) (Or.inl ⟨by rfl, ?hy75⟩) hHeld ?rest75
    case hy75 =>
      intro w' hSw
      try dsimp only at hSw
      go_simp
      first | done | with_reducible rfl
    try simp only [Act.put, List.getElem_toArray, List.getElem_cons_succ, List.getElem_cons_zero, List.setIfInBounds_toArray, List.set_cons_zero, List.set_cons_succ]
    refine wpAnyH_take (i := 6) (v := ?v76) rfl (by kernel_rfl) (by kernel_rfl) (by kernel_rfl) (fun _ _ _ h => h) (Or.inl ⟨by rfl, ?hy76⟩) hHeld ?rest76
    case hy76 =>
      intro w' hSw
      try dsimp only at hSw
      go_simp
      first | done | with_reducible rfl
    try simp only [Act.put, List.getElem_toArray, List.getElem_cons_succ, List.getElem_cons_zero, List.setIfInBounds_toArray, List.set_cons_zero, List.set_cons_succ]
    refine wpAnyH_take (i := 7) rfl (by kernel_rfl) (by kernel_rfl) (by kernel_rfl) (fun _ _ _ h => h) (y_kyG (by rfl) (.tmp 22) (by rfl) g 2 (by rfl) s.x (fun _ h => h.2)) hHeld ?_
    try simp only [Act.put, List.getElem_toArray, List.getElem_cons_succ, List.getElem_cons_zero, List.setIfInBounds_toArray, List.set_cons_zero, List.set_cons_succ]
    refine wpAnyH_ready (rs := [8, 12]) (by kernel_rfl) (by simp) ?_
    refine AllReadyH.cons (by rfl) (fun K hK => ?_) (AllReadyH.cons (by rfl) (fun K hK => ?_) AllReadyH.nil)
    · go_simp
      refine (nm_some (HS0.out.1.drew).st HN.out (HS0.out.1.drew).tab HD.out.nm).mono ?_
      rintro e_ rw5 ⟨rfl, c_⟩
      have RK5 : Hid (WkS rw5 g base q A cap ps os ad s y a ∧ Below w.heap.size w rw5) := Lib.hid ⟨(HS0.out.1.drew).below c_, below_of_drew (show Below w.heap.size w.drew rw5 from c_)⟩
      clear c_ hHeld
      go_wp2_with fail
      refine hK.out _ _ ⟨(RK5.out.1).c0, (RK5.out.1).key⟩ (fun hHeld => ?_)
      clear hK K
      try simp only [Act.put, List.getElem_toArray, List.getElem_cons_succ, List.getElem_cons_zero, List.setIfInBounds_toArray, List.set_cons_zero, List.set_cons_succ]
      refine wpAnyH_take (i := 9) (v := ?v77) rfl (by kernel_rfl) (by kernel_rfl) (by kernel_rfl) (fun _ _ _ h => h) (Or.inl ⟨by rfl, ?hy77⟩) hHeld ?rest77
      case hy77 =>
        intro w' hSw
        try dsimp only at hSw
        go_simp
        first | done | with_reducible rfl
      try simp only [Act.put, List.getElem_toArray, List.getElem_cons_succ, List.getElem_cons_zero, List.setIfInBounds_toArray, List.set_cons_zero, List.set_cons_succ]
      refine wpAnyH_take (i := 10) (v := ?v78) rfl (by kernel_rfl) (by kernel_rfl) (by kernel_rfl) (fun _ _ _ h => h) (Or.inl ⟨by rfl, ?hy78⟩) hHeld ?rest78
      case hy78 =>
        intro w' hSw
        try dsimp only at hSw
        go_simp
        first | done | with_reducible rfl
      try simp only [Act.put, List.getElem_toArray, List.getElem_cons_succ, List.getElem_cons_zero, List.setIfInBounds_toArray, List.set_cons_zero, List.set_cons_succ]
      refine wpAnyH_take (i := 11) (v := ?v79) rfl (by kernel_rfl) (by kernel_rfl) (by kernel_rfl) (fun _ _ _ h => h) (Or.inl ⟨by rfl, ?hy79⟩) hHeld ?rest79
      case hy79 =>
        intro w' hSw
        try dsimp only at hSw
        go_simp
        first | done | with_reducible rfl
      try simp only [Act.put, List.getElem_toArray, List.getElem_cons_succ, List.getElem_cons_zero, List.setIfInBounds_toArray, List.set_cons_zero, List.set_cons_succ]
      refine wpAnyH_ready (rs := [12]) (by kernel_rfl) (by simp) ?_
      refine AllReadyH.cons (by rfl) (fun K hK => ?_) AllReadyH.nil
      · refine step_alloc57 rfl (by rfl) ?_
        intro g9 rw6 hg hw
        have RK6 : Hid (WkS rw6 g base q A cap ps os ad s y a ∧ Below w.heap.size w rw6) := Lib.hid (by subst hw; exact ⟨(RK5.out.1).alloc _, RK5.out.2.alloc RK5.out.2.size _⟩)
        have HGE9 : Hid (w.heap.size ≤ g9) := Lib.hid (by subst hg; exact RK5.out.2.size)
        have RG6 : Hid (Blk rw6 g9 33 oz.cells.toArray) := Lib.hid (by subst hw hg; exact Blk.new _ _ _)
        clear hg hw hHeld
        refine hK.out _ _ ⟨(RK6.out.1).c0, (RK6.out.1).key⟩ (fun hHeld => ?_)
        clear hK K
        try simp only [Act.put, List.getElem_toArray, List.getElem_cons_succ, List.getElem_cons_zero, List.setIfInBounds_toArray, List.set_cons_zero, List.set_cons_succ]
        refine wpAnyH_ready (rs := [13]) (by kernel_rfl) (by simp) ?_
        refine AllReadyH.cons (by rfl) (fun K hK => ?_) AllReadyH.nil
        refine step_store_big RG6.out rfl (.tmp 3) (.tmp 25) (ty := 33) (l := u.cells) (by rfl) (by rfl) (by rfl) (by rw [u.len]; exact size34) (by rw [oz_len, u.len]) u.one ?_
        have SK : Hid (WkS (rw6.setRow g9 u.cells.toArray) g base q A cap ps os ad s y a ∧ Below w.heap.size w (rw6.setRow g9 u.cells.toArray)) := Lib.hid ⟨HS0.out.1.row0 RK6.out.1 HGE9.out _, below_setRow RK6.out.2 HGE9.out _⟩
        have SG := Lib.hid (Blk.setRow RG6.out u.cells.toArray)
        generalize rw6.setRow g9 u.cells.toArray = SW at SK SG ⊢
        refine hK.out _ _ ⟨(SK.out.1).c0, (SK.out.1).key⟩ (fun hHeld => ?_)
        clear hK K
        try simp only [Act.put, List.getElem_toArray, List.getElem_cons_succ, List.getElem_cons_zero]
        refine wpAnyH_take (i := 14) (v := ?v80) rfl (by kernel_rfl) (by kernel_rfl) (by kernel_rfl) (fun _ _ _ h => h) (Or.inl ⟨by rfl, ?hy80⟩) hHeld ?rest80
        case hy80 =>
          intro w' hSw
          try dsimp only at hSw
          go_simp
          first | done | with_reducible rfl
        try simp only [Act.put, List.getElem_toArray, List.getElem_cons_succ, List.getElem_cons_zero, List.setIfInBounds_toArray, List.set_cons_zero, List.set_cons_succ]
        refine wpAnyH_done (by kernel_rfl) ?_ _
        refine OnlyN.normal ?_
        exact ⟨g9, rfl, rfl, SK.out.1, SK.out.2, SG.out, HGE9.out⟩
    · refine step_alloc57 rfl (by rfl) ?_
      intro g9 rw7 hg hw
      have RK7 : Hid (WkS rw7 g base q A cap ps os ad s y a ∧ Below w.heap.size w rw7) := Lib.hid (by subst hw; exact ⟨(HS0.out.1.drew).alloc _, (below_drew (Below.refl _ _)).alloc (Nat.le_refl _) _⟩)
      have HGE9 : Hid (w.heap.size ≤ g9) := Lib.hid (by subst hg; exact Nat.le_refl _)
      have RG7 : Hid (Blk rw7 g9 33 oz.cells.toArray) := Lib.hid (by subst hw hg; exact Blk.new _ _ _)
      clear hg hw hHeld
      refine hK.out _ _ ⟨(RK7.out.1).c0, (RK7.out.1).key⟩ (fun hHeld => ?_)
      clear hK K
      try simp only [Act.put, List.getElem_toArray, List.getElem_cons_succ, List.getElem_cons_zero, List.setIfInBounds_toArray, List.set_cons_zero, List.set_cons_succ]
      refine wpAnyH_ready (rs := [8]) (by kernel_rfl) (by simp) ?_
      refine AllReadyH.cons (by rfl) (fun K hK => ?_) AllReadyH.nil
      · go_simp
        refine (nm_some (RK7.out.1).st HN.out (RK7.out.1).tab HD.out.nm).mono ?_
        rintro e_ rw8 ⟨rfl, c_⟩
        have RK8 : Hid (WkS rw8 g base q A cap ps os ad s y a ∧ Below w.heap.size w rw8) := Lib.hid ⟨(RK7.out.1).below c_, RK7.out.2.trans (c_.mono RK7.out.2.size)⟩
        have RG8 := Lib.hid (RG7.out.keep c_)
        clear c_ hHeld
        go_wp2_with fail
        refine hK.out _ _ ⟨(RK8.out.1).c0, (RK8.out.1).key⟩ (fun hHeld => ?_)
        clear hK K
        try simp only [Act.put, List.getElem_toArray, List.getElem_cons_succ, List.getElem_cons_zero, List.setIfInBounds_toArray, List.set_cons_zero, List.set_cons_succ]
        refine wpAnyH_take (i := 9) (v := ?v81) rfl (by kernel_rfl) (by kernel_rfl) (by kernel_rfl) (fun _ _ _ h => h) (Or.inl ⟨by rfl, ?hy81⟩) hHeld ?rest81
        case hy81 =>
          intro w' hSw
          try dsimp only at hSw
          go_simp
          first | done | with_reducible rfl
        try simp only [Act.put, List.getElem_toArray, List.getElem_cons_succ, List.getElem_cons_zero, List.setIfInBounds_toArray, List.set_cons_zero, List.set_cons_succ]
        refine wpAnyH_take (i := 10) (v := ?v82) rfl (by kernel_rfl) (by kernel_rfl) (by kernel_rfl) (fun _ _ _ h => h) (Or.inl ⟨by rfl, ?hy82⟩) hHeld ?rest82
        case hy82 =>
          intro w' hSw
          try dsimp only at hSw
          go_simp
          first | done | with_reducible rfl
        try simp only [Act.put, List.getElem_toArray, List.getElem_cons_succ, List.getElem_cons_zero, List.setIfInBounds_toArray, List.set_cons_zero, List.set_cons_succ]
        refine wpAnyH_take (i := 11) (v := ?v83) rfl (by kernel_rfl) (by kernel_rfl) (by kernel_rfl) (fun _ _ _ h => h) (Or.inl ⟨by rfl, ?hy83⟩) hHeld ?rest83
        case hy83 =>
          intro w' hSw
          try dsimp only at hSw
          go_simp
          first | done | with_reducible rfl
        try simp only [Act.put, List.getElem_toArray, List.getElem_cons_succ, List.getElem_cons_zero, List.setIfInBounds_toArray, List.set_cons_zero, List.set_cons_succ]
        refine wpAnyH_ready (rs := [13]) (by kernel_rfl) (by simp) ?_
        refine AllReadyH.cons (by rfl) (fun K hK => ?_) AllReadyH.nil
        refine step_store_big RG8.out rfl (.tmp 3) (.tmp 25) (ty := 33) (l := u.cells) (by rfl) (by rfl) (by rfl) (by rw [u.len]; exact size34) (by rw [oz_len, u.len]) u.one ?_
        have SK : Hid (WkS (rw8.setRow g9 u.cells.toArray) g base q A cap ps os ad s y a ∧ Below w.heap.size w (rw8.setRow g9 u.cells.toArray)) := Lib.hid ⟨HS0.out.1.row0 RK8.out.1 HGE9.out _, below_setRow RK8.out.2 HGE9.out _⟩
        have SG := Lib.hid (Blk.setRow RG8.out u.cells.toArray)
        generalize rw8.setRow g9 u.cells.toArray = SW at SK SG ⊢
        refine hK.out _ _ ⟨(SK.out.1).c0, (SK.out.1).key⟩ (fun hHeld => ?_)
        clear hK K
        try simp only [Act.put, List.getElem_toArray, List.getElem_cons_succ, List.getElem_cons_zero]
        refine wpAnyH_take (i := 14) (v := ?v84) rfl (by kernel_rfl) (by kernel_rfl) (by kernel_rfl) (fun _ _ _ h => h) (Or.inl ⟨by rfl, ?hy84⟩) hHeld ?rest84
        case hy84 =>
          intro w' hSw
          try dsimp only at hSw
          go_simp
          first | done | with_reducible rfl
        try simp only [Act.put, List.getElem_toArray, List.getElem_cons_succ, List.getElem_cons_zero, List.setIfInBounds_toArray, List.set_cons_zero, List.set_cons_succ]
        refine wpAnyH_done (by kernel_rfl) ?_ _
        refine OnlyN.normal ?_
        exact ⟨g9, rfl, rfl, SK.out.1, SK.out.2, SG.out, HGE9.out⟩
  case rest3 =>
    intro g9 W3 ⟨hS3, hB3, hU3, hg3⟩
    have HS3 := Lib.hid hS3
    have HB3 := Lib.hid hB3
    have HU3 := Lib.hid hU3
    have HG3 := Lib.hid hg3
    clear hS3 hB3 hU3 hg3
    obtain ⟨c0, c1, c2, c3, c4, c5, c6, c7, c8, c9, c10, c11, c12, c13, c14, c15, c16, c17, c18, c19, c20, c21, c22, c23, c24⟩ := wk_cells HS3.out.blk
    rw [HXR.out] at c6
    have hz10 := Blk.frozen HS3.out.blk 10
    go_wp2_with fail
    go_still_tail 12, (by kernel_rfl)
    change wpList _ _ _ _ _ W3.drew
    have HS3d := Lib.hid HS3.out.drew
    have HU3d := Lib.hid (show Blk W3.drew g9 33 u.cells.toArray from HU3.out)
    have HB3d := Lib.hid (below_drew HB3.out)
    generalize W3.drew = W4 at HS3d HU3d HB3d ⊢
    clear c0 c1 c2 c3 c4 c5 c6 c7 c8 c9 c10 c11 c12 c13 c14 c15 c16 c17 c18 c19 c20 c21 c22 c23 c24 hz10 HS3 HU3 HB3
    obtain ⟨c0, c1, c2, c3, c4, c5, c6, c7, c8, c9, c10, c11, c12, c13, c14, c15, c16, c17, c18, c19, c20, c21, c22, c23, c24⟩ := wk_cells HS3d.out.blk
    have hz10 := Blk.frozen HS3d.out.blk 10
    have HS5 : Hid (WkS (W4.setCell ⟨g, 10, none⟩ (.int .i64 (r2 : Int))) g base q A cap ps os ad { s with r := r2 } y a) := Lib.hid (HS3d.out.chg (fr_set W4 g 10 _) (HS3d.out.blk.set_ 10 _) HR28.out HS3d.out.l0 HS3d.out.d8)
    have HF5 : Hid (Fr (fun k => k = g) w (W4.setCell ⟨g, 10, none⟩ (.int .i64 (r2 : Int)))) := Lib.hid ((Fr.of_below HB3d.out).trans (fr_set W4 g 10 _))
    have HU5 := Lib.hid (show Blk (W4.setCell ⟨g, 10, none⟩ (.int .i64 (r2 : Int))) g9 33 u.cells.toArray from HU3d.out.far (p := ⟨g, 10, none⟩) (by show g9 ≠ g; have := HG3.out; have := HLT.out; omega) _)
    have hK15 := Lib.hid (slot15 HU5.out)
    have hK14 := Lib.hid (slot14 HU5.out)
    rw [← HH.out] at hK15
    rw [← HKK.out] at hK14
    generalize hW5 : W4.setCell ⟨g, 10, none⟩ (.int .i64 (r2 : Int)) = W5 at HS5 HF5 HU5 hK15 hK14
    have hb5 := HS5.out.blk
    obtain ⟨d0, d1, d2, d3, d4, d5⟩ := hK15.out
    have ca9 := (wk_cells HS5.out.blk).2.2.2.2.2.2.2.2.2.1
    subst hW5
    go_wp2_with (first
      | (go_at_call 54; refine (heightOf_any h _ HHO.out).mono ?_; rintro e W6 ⟨rfl, b_⟩; have HS6 := Lib.hid (HS5.out.below b_); have HF6 := Lib.hid (HF5.out.below b_); have ca9 := (wk_cells HS6.out.blk).2.2.2.2.2.2.2.2.2.1; clear b_)
      | (go_at_call 26; refine (HS6.out.fault 4).mono ?_; rintro e W7 ⟨rfl, b_⟩; have HF7 := Lib.hid (HF6.out.below b_); clear b_))
    exact ⟨rfl, rfl, HF7.out⟩
end
end Go.Proofs.YtjolojomgfcfbaaDoor

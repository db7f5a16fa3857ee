/- spaces: what a step of a walk does (WNo2). -/
import Derived.Test.YtjolojomgfcfbaaDoorWInt
namespace Go.Proofs.YtjolojomgfcfbaaDoor
open Go.RowKit
section
variable {w : World} {g base q : Nat} {A : Option Addr} {cap : Nat} {ps : List Nat} {os : List Oj} {ad : Int} {s : Ws} {y : Ky} {a : Int}
set_option maxRecDepth 100000 in
set_option maxHeartbeats 8000000 in
theorem node_range (H : WkS w g base q A cap ps os ad s y a) {j : Nat} {u : Oj} (d : AskD os s.x j u) (hd : s.d ≠ 8) (hf : hOk (sl u 15) s.high) {m : Nat} (hm : (sl u 15).v = (m : Int)) (hs : 14 ≤ s.left / part m) :
    Calls Tryd.prog 49 #[.pointer (some ⟨g, 0, none⟩)] w fun e w' => e = .panicked (faP ⟨2, keep os u (s.r ||| s.x.r.toNat) s.kp, ad⟩) ∧ Fr (fun k => k = g) w w' := by
  obtain ⟨c0, c1, c2, c3, c4, c5, c6, c7, c8, c9, c10, c11, c12, c13, c14, c15, c16, c17, c18, c19, c20, c21, c22, c23, c24⟩ := wk_cells H.blk
  have HS0 : Hid (WkS w g base q A cap ps os ad s y a ∧ True) := Lib.hid ⟨H, trivial⟩
  have HN := Lib.hid H.n
  have HD := Lib.hid d
  have HLT := Lib.hid H.lt
  have HDN := Lib.hid hd
  obtain ⟨_, xr, hxr, _, hx8⟩ := ok_of d.ok
  have HXR := Lib.hid hxr
  have HX8 := Lib.hid hx8
  obtain ⟨r2, hr2⟩ : ∃ r2, r2 = s.r ||| s.x.r.toNat := ⟨_, rfl⟩
  have hR28 : r2 < 8 := by rw [hr2, hxr, Int.toNat_natCast]; exact or8 H.r8 hx8
  have hor : bits .or .i64 (s.r : Int) (xr : Int) = (r2 : Int) := by rw [bor8 H.r8 hx8, hr2, hxr, Int.toNat_natCast]
  have HR2 := Lib.hid hr2
  have HR28 := Lib.hid hR28
  obtain ⟨h, hh⟩ : ∃ h, h = sl u 15 := ⟨_, rfl⟩
  obtain ⟨kk, hkk⟩ : ∃ kk, kk = sl u 14 := ⟨_, rfl⟩
  have HH := Lib.hid hh
  have HKK := Lib.hid hkk
  have e8 : ((s.d : Int) == 8) = false := by simp; omega
  have HHO := Lib.hid (show decide (h.k = 1 ∧ 1 ≤ h.v ∧ h.v ≤ 8) = true from decide_eq_true (by rw [hh]; exact ⟨hf.1, hf.2.1, hf.2.2.1⟩))
  have HM := Lib.hid (show h.v = (m : Int) by rw [hh]; exact hm)
  have HM1 := Lib.hid (show 1 ≤ m by have := hf.2.1; omega)
  have HM8 := Lib.hid (show m ≤ 8 by have := hf.2.2.1; omega)
  have e9 : decide (s.high ≤ (m : Int)) = false := decide_eq_false (by have := hf.2.2.2; omega)
  have HSL := Lib.hid hs
  clear H d hd hxr hx8 hr2 hR28 hh hkk hf hm hs
  go_enter Tryd.func49, Tryd.ntmps49
  go_wp2_with fail
  clear c0 c1 c2 c3 c4 c5 c6 c7 c8 c9 c10 c11 c12 c13 c14 c15 c16 c17 c18 c19 c20 c21 c22 c23 c24 e8
  refine region_pg (fun ac g9 => ((((((((((((((ac.put (some 16) (.pointer (some ⟨g, 0, none⟩))).put (some 17) (.pointer (some ⟨g, 0, none⟩))).put (some 18) (.pointer (some ⟨g, 0, none⟩))).put (some 19) (pv q)).put (some 20) (.pointer (some ⟨g, 0, none⟩))).put (some 21) (.pointer (some ⟨g, 0, none⟩))).put (some 22) (.pointer (some ⟨g, 2, none⟩))).put (some 23) (s.x.val)).put (some 24) (.tuple #[u.val, .bool true])).put (some 15) (.tuple #[u.val, .bool true])).put (some 25) (u.val)).put (some 26) (.bool true)).put (some 3) (.pointer (some ⟨g9, 0, none⟩))).put (some 4) (.bool true))) (fun g9 W => WkS W g base q A cap ps os ad s y a ∧ Below w.heap.size w W ∧ Blk W g9 33 u.cells.toArray ∧ w.heap.size ≤ g9) ?mk3 ?rest3
  case mk3 =>
    refine wp_region_only (S := fun W => W.cell? ⟨g, 0, none⟩ = some (pv q) ∧ KeyAt W g 2 s.x) (by kernel_rfl) ⟨(HS0.out.1.drew).c0, (HS0.out.1.drew).key⟩ (fun hHeld => ?_)
    refine wpAnyH_take (i := 0) (v := ?v85) rfl (by kernel_rfl) (by kernel_rfl) (by kernel_rfl) (fun _ _ _ h => h) (Or.inl ⟨by rfl, ?hy85⟩) hHeld ?rest85
    case hy85 =>
      intro w' hSw
      try dsimp only at hSw
      go_simp
      first | done | with_reducible rfl
    try simp only [Act.put, List.getElem_toArray, List.getElem_cons_zero, List.setIfInBounds_toArray, List.set_cons_zero, List.set_cons_succ]
    refine wpAnyH_take (i := 1) (v := ?v86) rfl (by kernel_rfl) (by kernel_rfl) (by kernel_rfl) (fun _ _ _ h => h) (Or.inl ⟨by rfl, ?hy86⟩) hHeld ?rest86
    case hy86 =>
      intro w' hSw
      try dsimp only at hSw
      go_simp
      first | done | with_reducible rfl
    try simp only [Act.put, List.getElem_toArray, List.getElem_cons_succ, List.getElem_cons_zero, List.setIfInBounds_toArray, List.set_cons_zero, List.set_cons_succ]
    refine wpAnyH_take (i := 2) (v := ?v87) rfl (by kernel_rfl) (by kernel_rfl) (by kernel_rfl) (fun _ _ _ h => h) (Or.inl ⟨by rfl, ?hy87⟩) hHeld ?rest87
    case hy87 =>
      intro w' hSw
      try dsimp only at hSw
      go_simp
      first | done | with_reducible rfl
    try simp only [Act.put, List.getElem_toArray, List.getElem_cons_succ, List.getElem_cons_zero, List.setIfInBounds_toArray, List.set_cons_zero, List.set_cons_succ]
    refine wpAnyH_take (i := 3) rfl (by kernel_rfl) (by kernel_rfl) (by kernel_rfl) (fun _ _ _ h => h) (y_cell (by rfl) 35 (.tmp 18) (by rfl) g 0 (by rfl) (pv q) (ld_ptr g 0 q) (fun _ h => h.1)) hHeld ?_
    try simp only [Act.put, List.getElem_toArray, List.getElem_cons_succ, List.getElem_cons_zero, List.setIfInBounds_toArray, List.set_cons_zero, List.set_cons_succ]
    refine wpAnyH_take (i := 4) (v := ?v88) rfl (by kernel_rfl) (by kernel_rfl) (by kernel_rfl) (fun _ _ _ h => h) (Or.inl ⟨by rfl, ?hy88⟩) hHeld ?rest88
    case hy88 =>
      intro w' hSw
      try dsimp only at hSw
      go_simp
      first | done | with_reducible rfl
    try simp only [Act.put, List.getElem_toArray, List.getElem_cons_succ, List.getElem_cons_zero, List.setIfInBounds_toArray, List.set_cons_zero, List.set_cons_succ]
    refine wpAnyH_take (i := 5) (v := ?v89) rfl (by kernel_rfl) (by kernel_rfl) (by kernel_rfl) (fun _ _ _ h => h) (Or.inl ⟨by rfl, ?hy89⟩) hHeld ?rest89
    case hy89 =>
      intro w' hSw
      try dsimp only at hSw
      go_simp
      first | done | with_reducible rfl
    try simp only [Act.put, List.getElem_toArray, List.getElem_cons_succ, List.getElem_cons_zero, List.setIfInBounds_toArray, List.set_cons_zero, List.set_cons_succ]
    refine wpAnyH_take (i := 6) (v := ?v90) rfl (by kernel_rfl) (by kernel_rfl) (by kernel_rfl) (fun _ _ _ h => h) (Or.inl ⟨by rfl, ?hy90⟩) hHeld ?rest90
    case hy90 =>
      intro w' hSw
      try dsimp only at hSw
      go_simp
      first | done | with_reducible rfl
    try simp only [Act.put, List.getElem_toArray, List.getElem_cons_succ, List.getElem_cons_zero, List.setIfInBounds_toArray, List.set_cons_zero, List.set_cons_succ]
    refine wpAnyH_take (i := 7) rfl (by kernel_rfl) (by kernel_rfl) (by kernel_rfl) (fun _ _ _ h => h) (y_kyG (by rfl) (.tmp 22) (by rfl) g 2 (by rfl) s.x (fun _ h => h.2)) hHeld ?_
    try simp only [Act.put, List.getElem_toArray, List.getElem_cons_succ, List.getElem_cons_zero, List.setIfInBounds_toArray, List.set_cons_zero, List.set_cons_succ]
    refine wpAnyH_ready (rs := [8, 12]) (by kernel_rfl) (by simp) ?_
    refine AllReadyH.cons (by rfl) (fun K hK => ?_) (AllReadyH.cons (by rfl) (fun K hK => ?_) AllReadyH.nil)
    · go_simp
      refine (nm_some (HS0.out.1.drew).st HN.out (HS0.out.1.drew).tab HD.out.nm).mono ?_
      rintro e_ rw9 ⟨rfl, c_⟩
      have RK9 : Hid (WkS rw9 g base q A cap ps os ad s y a ∧ Below w.heap.size w rw9) := Lib.hid ⟨(HS0.out.1.drew).below c_, below_of_drew (show Below w.heap.size w.drew rw9 from c_)⟩
      clear c_ hHeld
      go_wp2_with fail
      refine hK.out _ _ ⟨(RK9.out.1).c0, (RK9.out.1).key⟩ (fun hHeld => ?_)
      clear hK K
      try simp only [Act.put, List.getElem_toArray, List.getElem_cons_succ, List.getElem_cons_zero, List.setIfInBounds_toArray, List.set_cons_zero, List.set_cons_succ]
      refine wpAnyH_take (i := 9) (v := ?v91) rfl (by kernel_rfl) (by kernel_rfl) (by kernel_rfl) (fun _ _ _ h => h) (Or.inl ⟨by rfl, ?hy91⟩) hHeld ?rest91
      case hy91 =>
        intro w' hSw
        try dsimp only at hSw
        go_simp
        first | done | with_reducible rfl
      try simp only [Act.put, List.getElem_toArray, List.getElem_cons_succ, List.getElem_cons_zero, List.setIfInBounds_toArray, List.set_cons_zero, List.set_cons_succ]
      refine wpAnyH_take (i := 10) (v := ?v92) rfl (by kernel_rfl) (by kernel_rfl) (by kernel_rfl) (fun _ _ _ h => h) (Or.inl ⟨by rfl, ?hy92⟩) hHeld ?rest92
      case hy92 =>
        intro w' hSw
        try dsimp only at hSw
        go_simp
        first | done | with_reducible rfl
      try simp only [Act.put, List.getElem_toArray, List.getElem_cons_succ, List.getElem_cons_zero, List.setIfInBounds_toArray, List.set_cons_zero, List.set_cons_succ]
      refine wpAnyH_take (i := 11) (v := ?v93) rfl (by kernel_rfl) (by kernel_rfl) (by kernel_rfl) (fun _ _ _ h => h) (Or.inl ⟨by rfl, ?hy93⟩) hHeld ?rest93
      case hy93 =>
        intro w' hSw
        try dsimp only at hSw
        go_simp
        first | done | with_reducible rfl
      try simp only [Act.put, List.getElem_toArray, List.getElem_cons_succ, List.getElem_cons_zero, List.setIfInBounds_toArray, List.set_cons_zero, List.set_cons_succ]
      refine wpAnyH_ready (rs := [12]) (by kernel_rfl) (by simp) ?_
      refine AllReadyH.cons (by rfl) (fun K hK => ?_) AllReadyH.nil
      · refine step_alloc57 rfl (by rfl) ?_
        intro g9 rw10 hg hw
        have RK10 : Hid (WkS rw10 g base q A cap ps os ad s y a ∧ Below w.heap.size w rw10) := Lib.hid (by subst hw; exact ⟨(RK9.out.1).alloc _, RK9.out.2.alloc RK9.out.2.size _⟩)
        have HGE9 : Hid (w.heap.size ≤ g9) := Lib.hid (by subst hg; exact RK9.out.2.size)
        have RG10 : Hid (Blk rw10 g9 33 oz.cells.toArray) := Lib.hid (by subst hw hg; exact Blk.new _ _ _)
        clear hg hw hHeld
        refine hK.out _ _ ⟨(RK10.out.1).c0, (RK10.out.1).key⟩ (fun hHeld => ?_)
        clear hK K
        try simp only [Act.put, List.getElem_toArray, List.getElem_cons_succ, List.getElem_cons_zero, List.setIfInBounds_toArray, List.set_cons_zero, List.set_cons_succ]
        refine wpAnyH_ready (rs := [13]) (by kernel_rfl) (by simp) ?_
        refine AllReadyH.cons (by rfl) (fun K hK => ?_) AllReadyH.nil
        refine step_store_big RG10.out rfl (.tmp 3) (.tmp 25) (ty := 33) (l := u.cells) (by rfl) (by rfl) (by rfl) (by rw [u.len]; exact size34) (by rw [oz_len, u.len]) u.one ?_
        have SK : Hid (WkS (rw10.setRow g9 u.cells.toArray) g base q A cap ps os ad s y a ∧ Below w.heap.size w (rw10.setRow g9 u.cells.toArray)) := Lib.hid ⟨HS0.out.1.row0 RK10.out.1 HGE9.out _, below_setRow RK10.out.2 HGE9.out _⟩
        have SG := Lib.hid (Blk.setRow RG10.out u.cells.toArray)
        generalize rw10.setRow g9 u.cells.toArray = SW at SK SG ⊢
        refine hK.out _ _ ⟨(SK.out.1).c0, (SK.out.1).key⟩ (fun hHeld => ?_)
        clear hK K
        try simp only [Act.put, List.getElem_toArray, List.getElem_cons_succ, List.getElem_cons_zero]
        refine wpAnyH_take (i := 14) (v := ?v94) rfl (by kernel_rfl) (by kernel_rfl) (by kernel_rfl) (fun _ _ _ h => h) (Or.inl ⟨by rfl, ?hy94⟩) hHeld ?rest94
        case hy94 =>
          intro w' hSw
          try dsimp only at hSw
          go_simp
          first | done | with_reducible rfl
        try simp only [Act.put, List.getElem_toArray, List.getElem_cons_succ, List.getElem_cons_zero, List.setIfInBounds_toArray, List.set_cons_zero, List.set_cons_succ]
        refine wpAnyH_done (by kernel_rfl) ?_ _
        refine OnlyN.normal ?_
        exact ⟨g9, rfl, rfl, SK.out.1, SK.out.2, SG.out, HGE9.out⟩
    · refine step_alloc57 rfl (by rfl) ?_
      intro g9 rw11 hg hw
      have RK11 : Hid (WkS rw11 g base q A cap ps os ad s y a ∧ Below w.heap.size w rw11) := Lib.hid (by subst hw; exact ⟨(HS0.out.1.drew).alloc _, (below_drew (Below.refl _ _)).alloc (Nat.le_refl _) _⟩)
      have HGE9 : Hid (w.heap.size ≤ g9) := Lib.hid (by subst hg; exact Nat.le_refl _)
      have RG11 : Hid (Blk rw11 g9 33 oz.cells.toArray) := Lib.hid (by subst hw hg; exact Blk.new _ _ _)
      clear hg hw hHeld
      refine hK.out _ _ ⟨(RK11.out.1).c0, (RK11.out.1).key⟩ (fun hHeld => ?_)
      clear hK K
      try simp only [Act.put, List.getElem_toArray, List.getElem_cons_succ, List.getElem_cons_zero, List.setIfInBounds_toArray, List.set_cons_zero, List.set_cons_succ]
      refine wpAnyH_ready (rs := [8]) (by kernel_rfl) (by simp) ?_
      refine AllReadyH.cons (by rfl) (fun K hK => ?_) AllReadyH.nil
      · go_simp
        refine (nm_some (RK11.out.1).st HN.out (RK11.out.1).tab HD.out.nm).mono ?_
        rintro e_ rw12 ⟨rfl, c_⟩
        have RK12 : Hid (WkS rw12 g base q A cap ps os ad s y a ∧ Below w.heap.size w rw12) := Lib.hid ⟨(RK11.out.1).below c_, RK11.out.2.trans (c_.mono RK11.out.2.size)⟩
        have RG12 := Lib.hid (RG11.out.keep c_)
        clear c_ hHeld
        go_wp2_with fail
        refine hK.out _ _ ⟨(RK12.out.1).c0, (RK12.out.1).key⟩ (fun hHeld => ?_)
        clear hK K
        try simp only [Act.put, List.getElem_toArray, List.getElem_cons_succ, List.getElem_cons_zero, List.setIfInBounds_toArray, List.set_cons_zero, List.set_cons_succ]
        refine wpAnyH_take (i := 9) (v := ?v95) rfl (by kernel_rfl) (by kernel_rfl) (by kernel_rfl) (fun _ _ _ h => h) (Or.inl ⟨by rfl, ?hy95⟩) hHeld ?rest95
        case hy95 =>
          intro w' hSw
          try dsimp only at hSw
          go_simp
          first | done | with_reducible rfl
        try simp only [Act.put, List.getElem_toArray, List.getElem_cons_succ, List.getElem_cons_zero, List.setIfInBounds_toArray, List.set_cons_zero, List.set_cons_succ]
        refine wpAnyH_take (i := 10) (v := ?v96) rfl (by kernel_rfl) (by kernel_rfl) (by kernel_rfl) (fun _ _ _ h => h) (Or.inl ⟨by rfl, ?hy96⟩) hHeld ?rest96
        case hy96 =>
          intro w' hSw
          try dsimp only at hSw
          go_simp
          first | done | with_reducible rfl
        try simp only [Act.put, List.getElem_toArray, List.getElem_cons_succ, List.getElem_cons_zero, List.setIfInBounds_toArray, List.set_cons_zero, List.set_cons_succ]
        refine wpAnyH_take (i := 11) (v := ?v97) rfl (by kernel_rfl) (by kernel_rfl) (by kernel_rfl) (fun _ _ _ h => h) (Or.inl ⟨by rfl, ?hy97⟩) hHeld ?rest97
        case hy97 =>
          intro w' hSw
          try dsimp only at hSw
          go_simp
          first | done | with_reducible rfl
        try simp only [Act.put, List.getElem_toArray, List.getElem_cons_succ, List.getElem_cons_zero, List.setIfInBounds_toArray, List.set_cons_zero, List.set_cons_succ]
        refine wpAnyH_ready (rs := [13]) (by kernel_rfl) (by simp) ?_
        refine AllReadyH.cons (by rfl) (fun K hK => ?_) AllReadyH.nil
        refine step_store_big RG12.out rfl (.tmp 3) (.tmp 25) (ty := 33) (l := u.cells) (by rfl) (by rfl) (by rfl) (by rw [u.len]; exact size34) (by rw [oz_len, u.len]) u.one ?_
        have SK : Hid (WkS (rw12.setRow g9 u.cells.toArray) g base q A cap ps os ad s y a ∧ Below w.heap.size w (rw12.setRow g9 u.cells.toArray)) := Lib.hid ⟨HS0.out.1.row0 RK12.out.1 HGE9.out _, below_setRow RK12.out.2 HGE9.out _⟩
        have SG := Lib.hid (Blk.setRow RG12.out u.cells.toArray)
        generalize rw12.setRow g9 u.cells.toArray = SW at SK SG ⊢
        refine hK.out _ _ ⟨(SK.out.1).c0, (SK.out.1).key⟩ (fun hHeld => ?_)
        clear hK K
        try simp only [Act.put, List.getElem_toArray, List.getElem_cons_succ, List.getElem_cons_zero]
        refine wpAnyH_take (i := 14) (v := ?v98) rfl (by kernel_rfl) (by kernel_rfl) (by kernel_rfl) (fun _ _ _ h => h) (Or.inl ⟨by rfl, ?hy98⟩) hHeld ?rest98
        case hy98 =>
          intro w' hSw
          try dsimp only at hSw
          go_simp
          first | done | with_reducible rfl
        try simp only [Act.put, List.getElem_toArray, List.getElem_cons_succ, List.getElem_cons_zero, List.setIfInBounds_toArray, List.set_cons_zero, List.set_cons_succ]
        refine wpAnyH_done (by kernel_rfl) ?_ _
        refine OnlyN.normal ?_
        exact ⟨g9, rfl, rfl, SK.out.1, SK.out.2, SG.out, HGE9.out⟩
  case rest3 =>
    intro g9 W3 ⟨hS3, hB3, hU3, hg3⟩
    have HS3 := Lib.hid hS3
    have HB3 := Lib.hid hB3
    have HU3 := Lib.hid hU3
    have HG3 := Lib.hid hg3
    clear hS3 hB3 hU3 hg3
    obtain ⟨c0, c1, c2, c3, c4, c5, c6, c7, c8, c9, c10, c11, c12, c13, c14, c15, c16, c17, c18, c19, c20, c21, c22, c23, c24⟩ := wk_cells HS3.out.blk
    rw [HXR.out] at c6
    have hz10 := Blk.frozen HS3.out.blk 10
    go_wp2_with fail
    go_still_tail 12, (by kernel_rfl)
    change wpList _ _ _ _ _ W3.drew
    have HS3d := Lib.hid HS3.out.drew
    have HU3d := Lib.hid (show Blk W3.drew g9 33 u.cells.toArray from HU3.out)
    have HB3d := Lib.hid (below_drew HB3.out)
    generalize W3.drew = W4 at HS3d HU3d HB3d ⊢
    clear c0 c1 c2 c3 c4 c5 c6 c7 c8 c9 c10 c11 c12 c13 c14 c15 c16 c17 c18 c19 c20 c21 c22 c23 c24 hz10 HS3 HU3 HB3
    obtain ⟨c0, c1, c2, c3, c4, c5, c6, c7, c8, c9, c10, c11, c12, c13, c14, c15, c16, c17, c18, c19, c20, c21, c22, c23, c24⟩ := wk_cells HS3d.out.blk
    have hz10 := Blk.frozen HS3d.out.blk 10
    have HS5 : Hid (WkS (W4.setCell ⟨g, 10, none⟩ (.int .i64 (r2 : Int))) g base q A cap ps os ad { s with r := r2 } y a) := Lib.hid (HS3d.out.chg (fr_set W4 g 10 _) (HS3d.out.blk.set_ 10 _) HR28.out HS3d.out.l0 HS3d.out.d8)
    have HF5 : Hid (Fr (fun k => k = g) w (W4.setCell ⟨g, 10, none⟩ (.int .i64 (r2 : Int)))) := Lib.hid ((Fr.of_below HB3d.out).trans (fr_set W4 g 10 _))
    have HU5 := Lib.hid (show Blk (W4.setCell ⟨g, 10, none⟩ (.int .i64 (r2 : Int))) g9 33 u.cells.toArray from HU3d.out.far (p := ⟨g, 10, none⟩) (by show g9 ≠ g; have := HG3.out; have := HLT.out; omega) _)
    have hK15 := Lib.hid (slot15 HU5.out)
    have hK14 := Lib.hid (slot14 HU5.out)
    rw [← HH.out] at hK15
    rw [← HKK.out] at hK14
    generalize hW5 : W4.setCell ⟨g, 10, none⟩ (.int .i64 (r2 : Int)) = W5 at HS5 HF5 HU5 hK15 hK14
    have hb5 := HS5.out.blk
    obtain ⟨d0, d1, d2, d3, d4, d5⟩ := hK15.out
    have ca9 := (wk_cells HS5.out.blk).2.2.2.2.2.2.2.2.2.1
    subst hW5
    go_wp2_with (first
      | (go_at_call 54; refine (heightOf_any h _ HHO.out).mono ?_; rintro e W6 ⟨rfl, b_⟩; rw [HM.out]; have HS6 := Lib.hid (HS5.out.below b_); have HF6 := Lib.hid (HF5.out.below b_); have HU6 := Lib.hid (HU5.out.keep b_); clear ca9; obtain ⟨c0, c1, c2, c3, c4, c5, c6, c7, c8, c9, c10, c11, c12, c13, c14, c15, c16, c17, c18, c19, c20, c21, c22, c23, c24⟩ := wk_cells HS6.out.blk; have hz9 := Blk.frozen HS6.out.blk 9; have HS7 : Hid (WkS (W6.setCell ⟨g, 9, none⟩ (.int .i64 (m : Int))) g base q A cap ps os ad { s with r := r2, high := (m : Int) } y a) := Lib.hid (HS6.out.chg (fr_set W6 g 9 _) (HS6.out.blk.set_ 9 _) HR28.out HS6.out.l0 HS6.out.d8); have HF7 := Lib.hid (HF6.out.trans (fr_set W6 g 9 (.int .i64 (m : Int)))); have HU7 := Lib.hid (HU6.out.far (p := ⟨g, 9, none⟩) (by show g9 ≠ g; have := HG3.out; have := HLT.out; omega) (.int .i64 (m : Int))); have HK7 := Lib.hid (slot14 HU7.out); rw [← HKK.out] at HK7; clear b_; obtain ⟨k0, k1, k2, k3, k4, k5⟩ := HK7.out)
      | (go_at_call 55; refine (kept_any HS7.out u HKK.out.symm r2 rfl).mono ?_; rintro e W8 ⟨rfl, hs8, hf8⟩; have HS8 := Lib.hid hs8; have HF8 := Lib.hid (HF7.out.trans hf8); clear hs8 hf8 k0 k1 k2 k3 k4 k5 c0 c1 c2 c3 c4 c5 c6 c7 c8 c9 c10 c11 c12 c13 c14 c15 c16 c17 c18 c19 c20 c21 c22 c23 c24)
      | (go_at_call 21; refine (partOf_any m HM1.out HM8.out _).mono ?_; rintro e W9 ⟨rfl, rfl⟩)
      | (go_at_call 56; refine (into_far HS8.out (part m) (part_pos m) HSL.out).mono ?_; rintro e W10 ⟨rfl, b_⟩; have HF10 := Lib.hid (HF8.out.below b_); clear b_))
    rw [← HR2.out]
    exact ⟨rfl, rfl, HF10.out⟩
set_option maxRecDepth 100000 in
set_option maxHeartbeats 8000000 in
theorem node_on (H : WkS w g base q A cap ps os ad s y a) {j : Nat} {u : Oj} (d : AskD os s.x j u) (hd : s.d ≠ 8) (hf : hOk (sl u 15) s.high) {m : Nat} (hm : (sl u 15).v = (m : Int)) (hs : ¬ 14 ≤ s.left / part m) :
    Calls Tryd.prog 49 #[.pointer (some ⟨g, 0, none⟩)] w fun e w' => e = .returned (.bool false) ∧ WkS w' g base q A cap ps os ad ⟨gotK os s.x (sl u (s.left / part m)), s.left % part m, (m : Int), s.r ||| s.x.r.toNat, keep os u (s.r ||| s.x.r.toNat) s.kp, s.d + 1⟩ y a ∧ Fr (fun k => k = g) w w' := by
  obtain ⟨c0, c1, c2, c3, c4, c5, c6, c7, c8, c9, c10, c11, c12, c13, c14, c15, c16, c17, c18, c19, c20, c21, c22, c23, c24⟩ := wk_cells H.blk
  have HS0 : Hid (WkS w g base q A cap ps os ad s y a ∧ True) := Lib.hid ⟨H, trivial⟩
  have HN := Lib.hid H.n
  have HD := Lib.hid d
  have HLT := Lib.hid H.lt
  have HDN := Lib.hid hd
  obtain ⟨_, xr, hxr, _, hx8⟩ := ok_of d.ok
  have HXR := Lib.hid hxr
  have HX8 := Lib.hid hx8
  obtain ⟨r2, hr2⟩ : ∃ r2, r2 = s.r ||| s.x.r.toNat := ⟨_, rfl⟩
  have hR28 : r2 < 8 := by rw [hr2, hxr, Int.toNat_natCast]; exact or8 H.r8 hx8
  have hor : bits .or .i64 (s.r : Int) (xr : Int) = (r2 : Int) := by rw [bor8 H.r8 hx8, hr2, hxr, Int.toNat_natCast]
  have HR2 := Lib.hid hr2
  have HR28 := Lib.hid hR28
  obtain ⟨h, hh⟩ : ∃ h, h = sl u 15 := ⟨_, rfl⟩
  obtain ⟨kk, hkk⟩ : ∃ kk, kk = sl u 14 := ⟨_, rfl⟩
  have HH := Lib.hid hh
  have HKK := Lib.hid hkk
  have e8 : ((s.d : Int) == 8) = false := by simp; omega
  have HHO := Lib.hid (show decide (h.k = 1 ∧ 1 ≤ h.v ∧ h.v ≤ 8) = true from decide_eq_true (by rw [hh]; exact ⟨hf.1, hf.2.1, hf.2.2.1⟩))
  have HM := Lib.hid (show h.v = (m : Int) by rw [hh]; exact hm)
  have HM1 := Lib.hid (show 1 ≤ m by have := hf.2.1; omega)
  have HM8 := Lib.hid (show m ≤ 8 by have := hf.2.2.1; omega)
  have e9 : decide (s.high ≤ (m : Int)) = false := decide_eq_false (by have := hf.2.2.2; omega)
  have HSL := Lib.hid hs
  clear H d hd hxr hx8 hr2 hR28 hh hkk hf hm hs
  go_enter Tryd.func49, Tryd.ntmps49
  go_wp2_with fail
  clear c0 c1 c2 c3 c4 c5 c6 c7 c8 c9 c10 c11 c12 c13 c14 c15 c16 c17 c18 c19 c20 c21 c22 c23 c24 e8
  refine region_pg (fun ac g9 => ((((((((((((((ac.put (some 16) (.pointer (some ⟨g, 0, none⟩))).put (some 17) (.pointer (some ⟨g, 0, none⟩))).put (some 18) (.pointer (some ⟨g, 0, none⟩))).put (some 19) (pv q)).put (some 20) (.pointer (some ⟨g, 0, none⟩))).put (some 21) (.pointer (some ⟨g, 0, none⟩))).put (some 22) (.pointer (some ⟨g, 2, none⟩))).put (some 23) (s.x.val)).put (some 24) (.tuple #[u.val, .bool true])).put (some 15) (.tuple #[u.val, .bool true])).put (some 25) (u.val)).put (some 26) (.bool true)).put (some 3) (.pointer (some ⟨g9, 0, none⟩))).put (some 4) (.bool true))) (fun g9 W => WkS W g base q A cap ps os ad s y a ∧ Below w.heap.size w W ∧ Blk W g9 33 u.cells.toArray ∧ w.heap.size ≤ g9) ?mk3 ?rest3
  case mk3 =>
    refine wp_region_only (S := fun W => W.cell? ⟨g, 0, none⟩ = some (pv q) ∧ KeyAt W g 2 s.x) (by kernel_rfl) ⟨(HS0.out.1.drew).c0, (HS0.out.1.drew).key⟩ (fun hHeld => ?_)
    refine wpAnyH_take (i := 0) (v := ?v99) rfl (by kernel_rfl) (by kernel_rfl) (by kernel_rfl) (fun _ _ _ h => h) (Or.inl ⟨by rfl, ?hy99⟩) hHeld ?rest99
    case hy99 =>
      intro w' hSw
      try dsimp only at hSw
      go_simp
      first | done | with_reducible rfl
    try simp only [Act.put, List.getElem_toArray, List.getElem_cons_zero, List.setIfInBounds_toArray, List.set_cons_zero, List.set_cons_succ]
    refine wpAnyH_take (i := 1) (v := ?v100) rfl (by kernel_rfl) (by kernel_rfl) (by kernel_rfl) (fun _ _ _ h => h) (Or.inl ⟨by rfl, ?hy100⟩) hHeld ?rest100
    case hy100 =>
      intro w' hSw
      try dsimp only at hSw
      go_simp
      first | done | with_reducible rfl
    try simp only [Act.put, List.getElem_toArray, List.getElem_cons_succ, List.getElem_cons_zero, List.setIfInBounds_toArray, List.set_cons_zero, List.set_cons_succ]
    refine wpAnyH_take (i := 2) (v := ?v101) rfl (by kernel_rfl) (by kernel_rfl) (by kernel_rfl) (fun _ _ _ h => h) (Or.inl ⟨by rfl, ?hy101⟩) hHeld ?rest101
    case hy101 =>
      intro w' hSw
      try dsimp only at hSw
      go_simp
      first | done | with_reducible rfl
    try simp only [Act.put, List.getElem_toArray, List.getElem_cons_succ, List.getElem_cons_zero, List.setIfInBounds_toArray, List.set_cons_zero, List.set_cons_succ]
    refine wpAnyH_take (i := 3) rfl (by kernel_rfl) (by kernel_rfl) (by kernel_rfl) (fun _ _ _ h => h) (y_cell (by rfl) 35 (.tmp 18) (by rfl) g 0 (by rfl) (pv q) (ld_ptr g 0 q) (fun _ h => h.1)) hHeld ?_
    try simp only [Act.put, List.getElem_toArray, List.getElem_cons_succ, List.getElem_cons_zero, List.setIfInBounds_toArray, List.set_cons_zero, List.set_cons_succ]
    refine wpAnyH_take (i := 4) (v := ?v102) rfl (by kernel_rfl) (by kernel_rfl) (by kernel_rfl) (fun _ _ _ h => h) (Or.inl ⟨by rfl, ?hy102⟩) hHeld ?rest102
    case hy102 =>
      intro w' hSw
      try dsimp only at hSw
      go_simp
      first | done | with_reducible rfl
    try simp only [Act.put, List.getElem_toArray, List.getElem_cons_succ, List.getElem_cons_zero, List.setIfInBounds_toArray, List.set_cons_zero, List.set_cons_succ]
    refine wpAnyH_take (i := 5) (v := ?v103) rfl (by kernel_rfl) (by kernel_rfl) (by kernel_rfl) (fun _ _ _ h => h) (Or.inl ⟨by rfl, ?hy103⟩) hHeld ?rest103
    case hy103 =>
      intro w' hSw
      try dsimp only at hSw
      go_simp
      first | done | with_reducible rfl
    try simp only [Act.put, List.getElem_toArray, List.getElem_cons_succ, List.getElem_cons_zero, List.setIfInBounds_toArray, List.set_cons_zero, List.set_cons_succ]
    refine wpAnyH_take (i := 6) (v := ?v104) rfl (by kernel_rfl) (by kernel_rfl) (by kernel_rfl) (fun _ _ _ h => h) (Or.inl ⟨by rfl, ?hy104⟩) hHeld ?rest104
    case hy104 =>
      intro w' hSw
      try dsimp only at hSw
      go_simp
      first | done | with_reducible rfl
    try simp only [Act.put, List.getElem_toArray, List.getElem_cons_succ, List.getElem_cons_zero, List.setIfInBounds_toArray, List.set_cons_zero, List.set_cons_succ]
    refine wpAnyH_take (i := 7) rfl (by kernel_rfl) (by kernel_rfl) (by kernel_rfl) (fun _ _ _ h => h) (y_kyG (by rfl) (.tmp 22) (by rfl) g 2 (by rfl) s.x (fun _ h => h.2)) hHeld ?_
    try simp only [Act.put, List.getElem_toArray, List.getElem_cons_succ, List.getElem_cons_zero, List.setIfInBounds_toArray, List.set_cons_zero, List.set_cons_succ]
    refine wpAnyH_ready (rs := [8, 12]) (by kernel_rfl) (by simp) ?_
    refine AllReadyH.cons (by rfl) (fun K hK => ?_) (AllReadyH.cons (by rfl) (fun K hK => ?_) AllReadyH.nil)
    · go_simp
      refine (nm_some (HS0.out.1.drew).st HN.out (HS0.out.1.drew).tab HD.out.nm).mono ?_
      rintro e_ rw13 ⟨rfl, c_⟩
      have RK13 : Hid (WkS rw13 g base q A cap ps os ad s y a ∧ Below w.heap.size w rw13) := Lib.hid ⟨(HS0.out.1.drew).below c_, below_of_drew (show Below w.heap.size w.drew rw13 from c_)⟩
      clear c_ hHeld
      go_wp2_with fail
      refine hK.out _ _ ⟨(RK13.out.1).c0, (RK13.out.1).key⟩ (fun hHeld => ?_)
      clear hK K
      try simp only [Act.put, List.getElem_toArray, List.getElem_cons_succ, List.getElem_cons_zero, List.setIfInBounds_toArray, List.set_cons_zero, List.set_cons_succ]
      refine wpAnyH_take (i := 9) (v := ?v105) rfl (by kernel_rfl) (by kernel_rfl) (by kernel_rfl) (fun _ _ _ h => h) (Or.inl ⟨by rfl, ?hy105⟩) hHeld ?rest105
      case hy105 =>
        intro w' hSw
        try dsimp only at hSw
        go_simp
        first | done | with_reducible rfl
      try simp only [Act.put, List.getElem_toArray, List.getElem_cons_succ, List.getElem_cons_zero, List.setIfInBounds_toArray, List.set_cons_zero, List.set_cons_succ]
      refine wpAnyH_take (i := 10) (v := ?v106) rfl (by kernel_rfl) (by kernel_rfl) (by kernel_rfl) (fun _ _ _ h => h) (Or.inl ⟨by rfl, ?hy106⟩) hHeld ?rest106
      case hy106 =>
        intro w' hSw
        try dsimp only at hSw
        go_simp
        first | done | with_reducible rfl
      try simp only [Act.put, List.getElem_toArray, List.getElem_cons_succ, List.getElem_cons_zero, List.setIfInBounds_toArray, List.set_cons_zero, List.set_cons_succ]
      refine wpAnyH_take (i := 11) (v := ?v107) rfl (by kernel_rfl) (by kernel_rfl) (by kernel_rfl) (fun _ _ _ h => h) (Or.inl ⟨by rfl, ?hy107⟩) hHeld ?rest107
      case hy107 =>
        intro w' hSw
        try dsimp only at hSw
        go_simp
        first | done | with_reducible rfl
      try simp only [Act.put, List.getElem_toArray, List.getElem_cons_succ, List.getElem_cons_zero, List.setIfInBounds_toArray, List.set_cons_zero, List.set_cons_succ]
      refine wpAnyH_ready (rs := [12]) (by kernel_rfl) (by simp) ?_
      refine AllReadyH.cons (by rfl) (fun K hK => ?_) AllReadyH.nil
      · refine step_alloc57 rfl (by rfl) ?_
        intro g9 rw14 hg hw
        have RK14 : Hid (WkS rw14 g base q A cap ps os ad s y a ∧ Below w.heap.size w rw14) := Lib.hid (by subst hw; exact ⟨(RK13.out.1).alloc _, RK13.out.2.alloc RK13.out.2.size _⟩)
        have HGE9 : Hid (w.heap.size ≤ g9) := Lib.hid (by subst hg; exact RK13.out.2.size)
        have RG14 : Hid (Blk rw14 g9 33 oz.cells.toArray) := Lib.hid (by subst hw hg; exact Blk.new _ _ _)
        clear hg hw hHeld
        refine hK.out _ _ ⟨(RK14.out.1).c0, (RK14.out.1).key⟩ (fun hHeld => ?_)
        clear hK K
        try simp only [Act.put, List.getElem_toArray, List.getElem_cons_succ, List.getElem_cons_zero, List.setIfInBounds_toArray, List.set_cons_zero, List.set_cons_succ]
        refine wpAnyH_ready (rs := [13]) (by kernel_rfl) (by simp) ?_
        refine AllReadyH.cons (by rfl) (fun K hK => ?_) AllReadyH.nil
        refine step_store_big RG14.out rfl (.tmp 3) (.tmp 25) (ty := 33) (l := u.cells) (by rfl) (by rfl) (by rfl) (by rw [u.len]; exact size34) (by rw [oz_len, u.len]) u.one ?_
        have SK : Hid (WkS (rw14.setRow g9 u.cells.toArray) g base q A cap ps os ad s y a ∧ Below w.heap.size w (rw14.setRow g9 u.cells.toArray)) := Lib.hid ⟨HS0.out.1.row0 RK14.out.1 HGE9.out _, below_setRow RK14.out.2 HGE9.out _⟩
        have SG := Lib.hid (Blk.setRow RG14.out u.cells.toArray)
        generalize rw14.setRow g9 u.cells.toArray = SW at SK SG ⊢
        refine hK.out _ _ ⟨(SK.out.1).c0, (SK.out.1).key⟩ (fun hHeld => ?_)
        clear hK K
        try simp only [Act.put, List.getElem_toArray, List.getElem_cons_succ, List.getElem_cons_zero]
        refine wpAnyH_take (i := 14) (v := ?v108) rfl (by kernel_rfl) (by kernel_rfl) (by kernel_rfl) (fun _ _ _ h => h) (Or.inl ⟨by rfl, ?hy108⟩) hHeld ?rest108
        case hy108 =>
          intro w' hSw
          try dsimp only at hSw
          go_simp
          first | done | with_reducible rfl
        try simp only [Act.put, List.getElem_toArray, List.getElem_cons_succ, List.getElem_cons_zero, List.setIfInBounds_toArray, List.set_cons_zero, List.set_cons_succ]
        refine wpAnyH_done (by kernel_rfl) ?_ _
        refine OnlyN.normal ?_
        exact ⟨g9, rfl, rfl, SK.out.1, SK.out.2, SG.out, HGE9.out⟩
    · refine step_alloc57 rfl (by rfl) ?_
      intro g9 rw15 hg hw
      have RK15 : Hid (WkS rw15 g base q A cap ps os ad s y a ∧ Below w.heap.size w rw15) := Lib.hid (by subst hw; exact ⟨(HS0.out.1.drew).alloc _, (below_drew (Below.refl _ _)).alloc (Nat.le_refl _) _⟩)
      have HGE9 : Hid (w.heap.size ≤ g9) := Lib.hid (by subst hg; exact Nat.le_refl _)
      have RG15 : Hid (Blk rw15 g9 33 oz.cells.toArray) := Lib.hid (by subst hw hg; exact Blk.new _ _ _)
      clear hg hw hHeld
      refine hK.out _ _ ⟨(RK15.out.1).c0, (RK15.out.1).key⟩ (fun hHeld => ?_)
      clear hK K
      try simp only [Act.put, List.getElem_toArray, List.getElem_cons_succ, List.getElem_cons_zero, List.setIfInBounds_toArray, List.set_cons_zero, List.set_cons_succ]
      refine wpAnyH_ready (rs := [8]) (by kernel_rfl) (by simp) ?_
      refine AllReadyH.cons (by rfl) (fun K hK => ?_) AllReadyH.nil
      · go_simp
        refine (nm_some (RK15.out.1).st HN.out (RK15.out.1).tab HD.out.nm).mono ?_
        rintro e_ rw16 ⟨rfl, c_⟩
        have RK16 : Hid (WkS rw16 g base q A cap ps os ad s y a ∧ Below w.heap.size w rw16) := Lib.hid ⟨(RK15.out.1).below c_, RK15.out.2.trans (c_.mono RK15.out.2.size)⟩
        have RG16 := Lib.hid (RG15.out.keep c_)
        clear c_ hHeld
        go_wp2_with fail
        refine hK.out _ _ ⟨(RK16.out.1).c0, (RK16.out.1).key⟩ (fun hHeld => ?_)
        clear hK K
        try simp only [Act.put, List.getElem_toArray, List.getElem_cons_succ, List.getElem_cons_zero, List.setIfInBounds_toArray, List.set_cons_zero, List.set_cons_succ]
        refine wpAnyH_take (i := 9) (v := ?v109) rfl (by kernel_rfl) (by kernel_rfl) (by kernel_rfl) (fun _ _ _ h => h) (Or.inl ⟨by rfl, ?hy109⟩) hHeld ?rest109
        case hy109 =>
          intro w' hSw
          try dsimp only at hSw
          go_simp
          first | done | with_reducible rfl
        try simp only [Act.put, List.getElem_toArray, List.getElem_cons_succ, List.getElem_cons_zero, List.setIfInBounds_toArray, List.set_cons_zero, List.set_cons_succ]
        refine wpAnyH_take (i := 10) (v := ?v110) rfl (by kernel_rfl) (by kernel_rfl) (by kernel_rfl) (fun _ _ _ h => h) (Or.inl ⟨by rfl, ?hy110⟩) hHeld ?rest110
        case hy110 =>
          intro w' hSw
          try dsimp only at hSw
          go_simp
          first | done | with_reducible rfl
        try simp only [Act.put, List.getElem_toArray, List.getElem_cons_succ, List.getElem_cons_zero, List.setIfInBounds_toArray, List.set_cons_zero, List.set_cons_succ]
        refine wpAnyH_take (i := 11) (v := ?v111) rfl (by kernel_rfl) (by kernel_rfl) (by kernel_rfl) (fun _ _ _ h => h) (Or.inl ⟨by rfl, ?hy111⟩) hHeld ?rest111
        case hy111 =>
          intro w' hSw
          try dsimp only at hSw
          go_simp
          first | done | with_reducible rfl
        try simp only [Act.put, List.getElem_toArray, List.getElem_cons_succ, List.getElem_cons_zero, List.setIfInBounds_toArray, List.set_cons_zero, List.set_cons_succ]
        refine wpAnyH_ready (rs := [13]) (by kernel_rfl) (by simp) ?_
        refine AllReadyH.cons (by rfl) (fun K hK => ?_) AllReadyH.nil
        refine step_store_big RG16.out rfl (.tmp 3) (.tmp 25) (ty := 33) (l := u.cells) (by rfl) (by rfl) (by rfl) (by rw [u.len]; exact size34) (by rw [oz_len, u.len]) u.one ?_
        have SK : Hid (WkS (rw16.setRow g9 u.cells.toArray) g base q A cap ps os ad s y a ∧ Below w.heap.size w (rw16.setRow g9 u.cells.toArray)) := Lib.hid ⟨HS0.out.1.row0 RK16.out.1 HGE9.out _, below_setRow RK16.out.2 HGE9.out _⟩
        have SG := Lib.hid (Blk.setRow RG16.out u.cells.toArray)
        generalize rw16.setRow g9 u.cells.toArray = SW at SK SG ⊢
        refine hK.out _ _ ⟨(SK.out.1).c0, (SK.out.1).key⟩ (fun hHeld => ?_)
        clear hK K
        try simp only [Act.put, List.getElem_toArray, List.getElem_cons_succ, List.getElem_cons_zero]
        refine wpAnyH_take (i := 14) (v := ?v112) rfl (by kernel_rfl) (by kernel_rfl) (by kernel_rfl) (fun _ _ _ h => h) (Or.inl ⟨by rfl, ?hy112⟩) hHeld ?rest112
        case hy112 =>
          intro w' hSw
          try dsimp only at hSw
          go_simp
          first | done | with_reducible rfl
        try simp only [Act.put, List.getElem_toArray, List.getElem_cons_succ, List.getElem_cons_zero, List.setIfInBounds_toArray, List.set_cons_zero, List.set_cons_succ]
        refine wpAnyH_done (by kernel_rfl) ?_ _
        refine OnlyN.normal ?_
        exact ⟨g9, rfl, rfl, SK.out.1, SK.out.2, SG.out, HGE9.out⟩
  case rest3 =>
    intro g9 W3 ⟨hS3, hB3, hU3, hg3⟩
    have HS3 := Lib.hid hS3
    have HB3 := Lib.hid hB3
    have HU3 := Lib.hid hU3
    have HG3 := Lib.hid hg3
    clear hS3 hB3 hU3 hg3
    obtain ⟨c0, c1, c2, c3, c4, c5, c6, c7, c8, c9, c10, c11, c12, c13, c14, c15, c16, c17, c18, c19, c20, c21, c22, c23, c24⟩ := wk_cells HS3.out.blk
    rw [HXR.out] at c6
    have hz10 := Blk.frozen HS3.out.blk 10
    go_wp2_with fail
    go_still_tail 12, (by kernel_rfl)
    change wpList _ _ _ _ _ W3.drew
    have HS3d := Lib.hid HS3.out.drew
    have HU3d := Lib.hid (show Blk W3.drew g9 33 u.cells.toArray from HU3.out)
    have HB3d := Lib.hid (below_drew HB3.out)
    generalize W3.drew = W4 at HS3d HU3d HB3d ⊢
    clear c0 c1 c2 c3 c4 c5 c6 c7 c8 c9 c10 c11 c12 c13 c14 c15 c16 c17 c18 c19 c20 c21 c22 c23 c24 hz10 HS3 HU3 HB3
    obtain ⟨c0, c1, c2, c3, c4, c5, c6, c7, c8, c9, c10, c11, c12, c13, c14, c15, c16, c17, c18, c19, c20, c21, c22, c23, c24⟩ := wk_cells HS3d.out.blk
    have hz10 := Blk.frozen HS3d.out.blk 10
    have HS5 : Hid (WkS (W4.setCell ⟨g, 10, none⟩ (.int .i64 (r2 : Int))) g base q A cap ps os ad { s with r := r2 } y a) := Lib.hid (HS3d.out.chg (fr_set W4 g 10 _) (HS3d.out.blk.set_ 10 _) HR28.out HS3d.out.l0 HS3d.out.d8)
    have HF5 : Hid (Fr (fun k => k = g) w (W4.setCell ⟨g, 10, none⟩ (.int .i64 (r2 : Int)))) := Lib.hid ((Fr.of_below HB3d.out).trans (fr_set W4 g 10 _))
    have HU5 := Lib.hid (show Blk (W4.setCell ⟨g, 10, none⟩ (.int .i64 (r2 : Int))) g9 33 u.cells.toArray from HU3d.out.far (p := ⟨g, 10, none⟩) (by show g9 ≠ g; have := HG3.out; have := HLT.out; omega) _)
    have hK15 := Lib.hid (slot15 HU5.out)
    have hK14 := Lib.hid (slot14 HU5.out)
    rw [← HH.out] at hK15
    rw [← HKK.out] at hK14
    generalize hW5 : W4.setCell ⟨g, 10, none⟩ (.int .i64 (r2 : Int)) = W5 at HS5 HF5 HU5 hK15 hK14
    have hb5 := HS5.out.blk
    obtain ⟨d0, d1, d2, d3, d4, d5⟩ := hK15.out
    have ca9 := (wk_cells HS5.out.blk).2.2.2.2.2.2.2.2.2.1
    subst hW5
    go_wp2_with (first
      | (go_at_call 54; refine (heightOf_any h _ HHO.out).mono ?_; rintro e W6 ⟨rfl, b_⟩; rw [HM.out]; have HS6 := Lib.hid (HS5.out.below b_); have HF6 := Lib.hid (HF5.out.below b_); have HU6 := Lib.hid (HU5.out.keep b_); clear ca9; obtain ⟨c0, c1, c2, c3, c4, c5, c6, c7, c8, c9, c10, c11, c12, c13, c14, c15, c16, c17, c18, c19, c20, c21, c22, c23, c24⟩ := wk_cells HS6.out.blk; have hz9 := Blk.frozen HS6.out.blk 9; have HS7 : Hid (WkS (W6.setCell ⟨g, 9, none⟩ (.int .i64 (m : Int))) g base q A cap ps os ad { s with r := r2, high := (m : Int) } y a) := Lib.hid (HS6.out.chg (fr_set W6 g 9 _) (HS6.out.blk.set_ 9 _) HR28.out HS6.out.l0 HS6.out.d8); have HF7 := Lib.hid (HF6.out.trans (fr_set W6 g 9 (.int .i64 (m : Int)))); have HU7 := Lib.hid (HU6.out.far (p := ⟨g, 9, none⟩) (by show g9 ≠ g; have := HG3.out; have := HLT.out; omega) (.int .i64 (m : Int))); have HK7 := Lib.hid (slot14 HU7.out); rw [← HKK.out] at HK7; clear b_; obtain ⟨k0, k1, k2, k3, k4, k5⟩ := HK7.out)
      | (go_at_call 55; refine (kept_any HS7.out u HKK.out.symm r2 rfl).mono ?_; rintro e W8 ⟨rfl, hs8, hf8⟩; have HS8 := Lib.hid hs8; have HF8 := Lib.hid (HF7.out.trans hf8); clear hs8 hf8 k0 k1 k2 k3 k4 k5 c0 c1 c2 c3 c4 c5 c6 c7 c8 c9 c10 c11 c12 c13 c14 c15 c16 c17 c18 c19 c20 c21 c22 c23 c24)
      | (go_at_call 21; refine (partOf_any m HM1.out HM8.out _).mono ?_; rintro e W9 ⟨rfl, rfl⟩)
      | (go_at_call 56; refine (into_on HS8.out HD.out (part m) (part_pos m) HSL.out (by have h8 : s.d ≤ 8 := HS8.out.d8; have := HDN.out; show s.d < 8; omega)).mono ?_; rintro e W10 ⟨rfl, hs10, hf10⟩; have HS10 := Lib.hid hs10; have HF10 := Lib.hid (HF8.out.trans hf10); clear hs10 hf10))
    go_ret
    rw [← HR2.out]
    exact ⟨rfl, HS10.out, HF10.out⟩
end
end Go.Proofs.YtjolojomgfcfbaaDoor

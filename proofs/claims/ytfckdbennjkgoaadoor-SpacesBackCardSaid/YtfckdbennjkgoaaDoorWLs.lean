/- spaces: Load, Store. -/
import Derived.Test.YtfckdbennjkgoaaDoorWFn
import Derived.StillTailTactics
namespace Go.Proofs.YtfckdbennjkgoaaDoor
open Go.RowKit
section
variable {w : World} {g base q : Nat} {A : Option Addr} {cap : Nat} {ps : List Nat} {os : List Oj} {ad : Int} {s : Ws} {y : Ky}
set_option maxRecDepth 100000 in
set_option maxHeartbeats 2000000 in
theorem hold_no {a : Nat} (ha : a ≤ 64) (H : WkS w g base q A cap ps os ad s y (a : Int)) (n : Int) (hn : 64 < (a : Int) + n) :
    Calls Tryd.prog 33 #[.pointer (some ⟨g, 0, none⟩), .int .i64 n] w fun e w' => e = .panicked (faP ⟨5, s.kp, ad⟩) ∧ Below w.heap.size w w' := by
  obtain ⟨c0, c1, c2, c3, c4, c5, c6, c7, c8, c9, c10, c11, c12, c13, c14, c15, c16, c17, c18, c19, c20, c21, c22, c23, c24⟩ := wk_cells H.blk
  have HS := Lib.hid H
  obtain ⟨m, hm⟩ : ∃ m : Int, m = 64 - (a : Int) := ⟨_, rfl⟩
  have e1 : 64 - (a : Int) = m := hm.symm
  have e2 : -9223372036854775808 ≤ m := by omega
  have e3 : m ≤ 9223372036854775807 := by omega
  have e4 : decide (m < n) = true := decide_eq_true (by omega)
  clear H hn hm
  go_enter Tryd.func33, Tryd.ntmps33
  go_wp2_with (first
    | (go_at_call 58; refine (HS.out.fault 5).mono ?_; rintro e w1 ⟨rfl, b_⟩; have HB := Lib.hid b_; clear b_))
  exact ⟨rfl, rfl, HB.out⟩
set_option maxRecDepth 100000 in
set_option maxHeartbeats 2000000 in
theorem hold_yes {a : Nat} (ha : a ≤ 64) (H : WkS w g base q A cap ps os ad s y (a : Int)) (n : Int) (hn : ¬ 64 < (a : Int) + n) :
    Calls Tryd.prog 33 #[.pointer (some ⟨g, 0, none⟩), .int .i64 n] w fun e w' => e = .returned (.tuple #[]) ∧ Below w.heap.size w w' := by
  obtain ⟨c0, c1, c2, c3, c4, c5, c6, c7, c8, c9, c10, c11, c12, c13, c14, c15, c16, c17, c18, c19, c20, c21, c22, c23, c24⟩ := wk_cells H.blk
  obtain ⟨m, hm⟩ : ∃ m : Int, m = 64 - (a : Int) := ⟨_, rfl⟩
  have e1 : 64 - (a : Int) = m := hm.symm
  have e2 : -9223372036854775808 ≤ m := by omega
  have e3 : m ≤ 9223372036854775807 := by omega
  have e4 : decide (m < n) = false := decide_eq_false (by omega)
  clear H hn hm
  go_enter Tryd.func33, Tryd.ntmps33
  go_wp2_with fail
  go_end0
  exact ⟨rfl, Below.refl _ _⟩
set_option maxRecDepth 8000 in
theorem and1 {r : Int} (n : Nat) (hr : r = n) (hn : n ≤ 1) : bits .and .i64 r 1 = (n : Int) := by
  subst hr
  rw [show ((1 : Int)) = ((1 : Nat) : Int) from rfl, and_n n 1 (by omega) (by decide)]
  have : ∀ n, n ≤ 1 → n &&& 1 = n := by decide
  rw [this n hn]
set_option maxRecDepth 100000 in
set_option maxHeartbeats 2000000 in
theorem open_fault {a : Int} (H : WkS w g base q A cap ps os ad s y a) (hr : y.r = 1) :
    Calls Tryd.prog 34 #[.pointer (some ⟨g, 0, none⟩)] w fun e w' => e = .panicked (faP ⟨6, s.kp, ad⟩) ∧ Below w.heap.size w w' := by
  obtain ⟨c0, c1, c2, c3, c4, c5, c6, c7, c8, c9, c10, c11, c12, c13, c14, c15, c16, c17, c18, c19, c20, c21, c22, c23, c24⟩ := wk_cells H.blk
  have HS := Lib.hid H
  have ha := and1 1 (rfl : (1 : Int) = ((1 : Nat) : Int)) (by decide)
  rw [hr] at c15
  clear H hr
  go_enter Tryd.func34, Tryd.ntmps34
  go_wp2_with (first
    | (go_at_call 58; refine (HS.out.fault 6).mono ?_; rintro e w1 ⟨rfl, b_⟩; have HB := Lib.hid b_; clear b_))
  exact ⟨rfl, rfl, HB.out⟩
set_option maxRecDepth 100000 in
set_option maxHeartbeats 2000000 in
theorem open_goes {a : Int} (H : WkS w g base q A cap ps os ad s y a) (hr : y.r = 0) :
    Calls Tryd.prog 34 #[.pointer (some ⟨g, 0, none⟩)] w fun e w' => e = .returned (.tuple #[]) ∧ Below w.heap.size w w' := by
  obtain ⟨c0, c1, c2, c3, c4, c5, c6, c7, c8, c9, c10, c11, c12, c13, c14, c15, c16, c17, c18, c19, c20, c21, c22, c23, c24⟩ := wk_cells H.blk
  have ha := and1 0 (rfl : (0 : Int) = ((0 : Nat) : Int)) (by decide)
  rw [hr] at c15
  clear H hr
  go_enter Tryd.func34, Tryd.ntmps34
  go_wp2_with fail
  go_end0
  exact ⟨rfl, Below.refl _ _⟩
theorem WkS.fro {w' : World} {a : Int} {n3 : Nat} (h : WkS w g base q A cap ps os ad s y a) (hf : Fr (fun k => k = n3) w w') (hp : ∀ b, stHas q A ps b → b ≠ n3) (hk : 0 ≠ n3) (hg : g ≠ n3) : WkS w' g base q A cap ps os ad s y a :=
  ⟨h.st.fr hf (fun k hk e => hp k hk e), h.n, h.okl, h.tab.fr1 hk hf, h.far, h.gT, (hf.block _ h.lt hg).trans h.blk, h.r8, h.l0, h.d8⟩
theorem WkS.page {a : Int} (h : WkS w g base q A cap ps os ad s y a) : KeyAt w g 11 y := ⟨h.blk.cell 11, h.blk.cell 12, h.blk.cell 13, h.blk.cell 14, h.blk.cell 15, h.blk.cell 16⟩
set_option maxRecDepth 100000 in
set_option maxHeartbeats 4000000 in
theorem cloLoad_gave {n1 n2 n3 : Nat} {a : Nat} (ha : a ≤ 64) (H : WkS w g base q A cap ps os ad s y (a : Int)) (n : Int) (h1 : Blk w n1 3 #[.int .i64 n]) (hn : 64 < (a : Int) + n) :
    Calls Tryd.prog 37 #[.pointer (some ⟨g, 0, none⟩), .pointer (some ⟨n1, 0, none⟩), .pointer (some ⟨n2, 0, none⟩), .pointer (some ⟨n3, 0, none⟩)] w fun e w' => e = .panicked (faP ⟨5, s.kp, ad⟩) ∧ Below w.heap.size w w' := by
  have HS := Lib.hid H
  have HA := Lib.hid ha
  have HN := Lib.hid hn
  have i0 : w.cell? ⟨n1, 0, none⟩ = some (.int .i64 n) := h1.cell 0
  clear H ha hn h1
  go_enter Tryd.func37, Tryd.ntmps37
  go_wp2_with (first
    | (go_at_call 33; refine (hold_no HA.out HS.out n (by have := HN.out; omega)).mono ?_; rintro e w1 ⟨rfl, b_⟩; have HB := Lib.hid b_; clear b_))
  exact ⟨rfl, rfl, HB.out⟩
set_option maxRecDepth 100000 in
set_option maxHeartbeats 4000000 in
theorem cloLoad_yes {n1 n2 n3 : Nat} {a : Nat} (ha : a ≤ 64) (H : WkS w g base q A cap ps os ad s y (a : Int)) (n : Int) (h1 : Blk w n1 3 #[.int .i64 n]) (h2 : Blk w n2 25 #[pv q]) (h3 : ∃ t0, Blk w n3 9 #[.string (st t0)]) (d1 : n3 ≠ n1) (d2 : n3 ≠ n2) (d3 : n3 ≠ g) (hp : ∀ b, stHas q A ps b → b ≠ n3) (hk : 0 ≠ n3) (hn : ¬ 64 < (a : Int) + n) :
    Calls Tryd.prog 37 #[.pointer (some ⟨g, 0, none⟩), .pointer (some ⟨n1, 0, none⟩), .pointer (some ⟨n2, 0, none⟩), .pointer (some ⟨n3, 0, none⟩)] w fun e w' => e = .returned (.tuple #[]) ∧ Blk w' n3 9 #[.string (st (rdA os y (a : Int) n).1)] ∧ Fr (fun k => k = n3) w w' := by
  obtain ⟨t0, h3⟩ := h3
  obtain ⟨rs, hrs⟩ : ∃ rs, rs = (rdA os y (a : Int) n).1 := ⟨_, rfl⟩
  have HRS := Lib.hid hrs
  rw [← hrs]
  have HS := Lib.hid H
  have HA := Lib.hid ha
  have HN := Lib.hid hn
  have HI := Lib.hid h1
  have HB := Lib.hid h2
  have HT := Lib.hid h3
  have HD := Lib.hid (And.intro d1 (And.intro d2 d3))
  have HP := Lib.hid hp
  have HKK := Lib.hid hk
  have i0 : w.cell? ⟨n1, 0, none⟩ = some (.int .i64 n) := h1.cell 0
  clear H ha hn h1 h2 h3 hrs d1 d2 d3 hp hk
  go_enter Tryd.func37, Tryd.ntmps37
  go_wp2_with (first
    | (go_at_call 33; refine (hold_yes HA.out HS.out n (by have := HN.out; omega)).mono ?_; rintro e w1 ⟨rfl, b_⟩; have HW1 := Lib.hid b_; have HS1 := Lib.hid (HS.out.below b_); have HI1 := Lib.hid (HI.out.keep b_); have HB1 := Lib.hid (HB.out.keep b_); have HT1 := Lib.hid (HT.out.keep b_); clear b_ i0))
  refine wp_region_only (S := fun W => W.cell? ⟨n2, 0, none⟩ = some (pv q) ∧ KeyAt W g 11 y ∧ W.cell? ⟨g, 17, none⟩ = some (.int .i64 (a : Int)) ∧ W.cell? ⟨n1, 0, none⟩ = some (.int .i64 n)) (by kernel_rfl) ⟨(show Blk w1.drew n2 25 #[pv q] from HB1.out).cell 0, (HS1.out.drew).page, (HS1.out.drew).blk.cell 17, (show Blk w1.drew n1 3 #[.int .i64 n] from HI1.out).cell 0⟩ (fun hHeld => ?_)
  refine wpAnyH_take (i := 0) rfl (by kernel_rfl) (by kernel_rfl) (by kernel_rfl) (fun _ _ _ h => h) (y_cell (by rfl) 25 (.tmp 2) (by rfl) n2 0 (by rfl) (pv q) (ld_ptr _ _ _) (fun _ h => h.1)) hHeld ?_
  try simp only [Act.put, List.getElem_toArray, List.getElem_cons_zero, List.setIfInBounds_toArray, List.set_cons_zero, List.set_cons_succ]
  refine wpAnyH_take (i := 1) (v := ?v1) rfl (by kernel_rfl) (by kernel_rfl) (by kernel_rfl) (fun _ _ _ h => h) (Or.inl ⟨by rfl, ?hy1⟩) hHeld ?rest1
  case hy1 =>
    intro w' hSw
    try dsimp only at hSw
    go_simp
    first | done | with_reducible rfl
  try simp only [Act.put, List.getElem_toArray, List.getElem_cons_succ, List.getElem_cons_zero, List.setIfInBounds_toArray, List.set_cons_zero, List.set_cons_succ]
  refine wpAnyH_take (i := 2) (v := ?v2) rfl (by kernel_rfl) (by kernel_rfl) (by kernel_rfl) (fun _ _ _ h => h) (Or.inl ⟨by rfl, ?hy2⟩) hHeld ?rest2
  case hy2 =>
    intro w' hSw
    try dsimp only at hSw
    go_simp
    first | done | with_reducible rfl
  try simp only [Act.put, List.getElem_toArray, List.getElem_cons_succ, List.getElem_cons_zero, List.setIfInBounds_toArray, List.set_cons_zero, List.set_cons_succ]
  refine wpAnyH_take (i := 3) (v := ?v3) rfl (by kernel_rfl) (by kernel_rfl) (by kernel_rfl) (fun _ _ _ h => h) (Or.inl ⟨by rfl, ?hy3⟩) hHeld ?rest3
  case hy3 =>
    intro w' hSw
    try dsimp only at hSw
    go_simp
    first | done | with_reducible rfl
  try simp only [Act.put, List.getElem_toArray, List.getElem_cons_succ, List.getElem_cons_zero, List.setIfInBounds_toArray, List.set_cons_zero, List.set_cons_succ]
  refine wpAnyH_take (i := 4) (v := ?v4) rfl (by kernel_rfl) (by kernel_rfl) (by kernel_rfl) (fun _ _ _ h => h) (Or.inl ⟨by rfl, ?hy4⟩) hHeld ?rest4
  case hy4 =>
    intro w' hSw
    try dsimp only at hSw
    go_simp
    first | done | with_reducible rfl
  try simp only [Act.put, List.getElem_toArray, List.getElem_cons_succ, List.getElem_cons_zero, List.setIfInBounds_toArray, List.set_cons_zero, List.set_cons_succ]
  refine wpAnyH_take (i := 5) rfl (by kernel_rfl) (by kernel_rfl) (by kernel_rfl) (fun _ _ _ h => h) (y_kyG (by rfl) (.tmp 13) (by rfl) g 11 (by rfl) y (fun _ h => h.2.1)) hHeld ?_
  try simp only [Act.put, List.getElem_toArray, List.getElem_cons_succ, List.getElem_cons_zero, List.setIfInBounds_toArray, List.set_cons_zero, List.set_cons_succ]
  refine wpAnyH_take (i := 6) (v := ?v5) rfl (by kernel_rfl) (by kernel_rfl) (by kernel_rfl) (fun _ _ _ h => h) (Or.inl ⟨by rfl, ?hy5⟩) hHeld ?rest5
  case hy5 =>
    intro w' hSw
    try dsimp only at hSw
    go_simp
    first | done | with_reducible rfl
  try simp only [Act.put, List.getElem_toArray, List.getElem_cons_succ, List.getElem_cons_zero, List.setIfInBounds_toArray, List.set_cons_zero, List.set_cons_succ]
  refine wpAnyH_take (i := 7) (v := ?v6) rfl (by kernel_rfl) (by kernel_rfl) (by kernel_rfl) (fun _ _ _ h => h) (Or.inl ⟨by rfl, ?hy6⟩) hHeld ?rest6
  case hy6 =>
    intro w' hSw
    try dsimp only at hSw
    go_simp
    first | done | with_reducible rfl
  try simp only [Act.put, List.getElem_toArray, List.getElem_cons_succ, List.getElem_cons_zero, List.setIfInBounds_toArray, List.set_cons_zero, List.set_cons_succ]
  refine wpAnyH_take (i := 8) (v := ?v7) rfl (by kernel_rfl) (by kernel_rfl) (by kernel_rfl) (fun _ _ _ h => h) (Or.inl ⟨by rfl, ?hy7⟩) hHeld ?rest7
  case hy7 =>
    intro w' hSw
    try dsimp only at hSw
    go_simp
    first | done | with_reducible rfl
  try simp only [Act.put, List.getElem_toArray, List.getElem_cons_succ, List.getElem_cons_zero, List.setIfInBounds_toArray, List.set_cons_zero, List.set_cons_succ]
  refine wpAnyH_take (i := 9) (v := ?v8) rfl (by kernel_rfl) (by kernel_rfl) (by kernel_rfl) (fun _ _ _ h => h) (Or.inl ⟨by rfl, ?hy8⟩) hHeld ?rest8
  case hy8 =>
    intro w' hSw
    try dsimp only at hSw
    go_simp
    first | done | with_reducible rfl
  try simp only [Act.put, List.getElem_toArray, List.getElem_cons_succ, List.getElem_cons_zero, List.setIfInBounds_toArray, List.set_cons_zero, List.set_cons_succ]
  refine wpAnyH_take (i := 10) rfl (by kernel_rfl) (by kernel_rfl) (by kernel_rfl) (fun _ _ _ h => h) (y_cell (by rfl) 3 (.tmp 18) (by rfl) g 17 (by rfl) (.int .i64 (a : Int)) (ld_in _ _ _) (fun _ h => h.2.2.1)) hHeld ?_
  try simp only [Act.put, List.getElem_toArray, List.getElem_cons_succ, List.getElem_cons_zero, List.setIfInBounds_toArray, List.set_cons_zero, List.set_cons_succ]
  refine wpAnyH_take (i := 11) rfl (by kernel_rfl) (by kernel_rfl) (by kernel_rfl) (fun _ _ _ h => h) (y_cell (by rfl) 3 (.tmp 1) (by rfl) n1 0 (by rfl) (.int .i64 n) (ld_in _ _ _) (fun _ h => h.2.2.2)) hHeld ?_
  try simp only [Act.put, List.getElem_toArray, List.getElem_cons_succ, List.getElem_cons_zero, List.setIfInBounds_toArray, List.set_cons_zero, List.set_cons_succ]
  refine wpAnyH_ready (rs := [12]) (by kernel_rfl) (by simp) ?_
  refine AllReadyH.cons (by rfl) (fun K hK => ?_) AllReadyH.nil
  go_simp
  refine (read_all HS1.out.drew.st HS1.out.n HS1.out.drew.tab y (a : Int) n (by have := HA.out; omega)).mono ?_
  rintro e_ w2 ⟨rfl, bb⟩
  have HS2 := Lib.hid (HS1.out.drew.below bb)
  have HI2 := Lib.hid (show Blk w2 n1 3 #[.int .i64 n] from Blk.keep (w := w1.drew) HI1.out bb)
  have HB2 := Lib.hid (show Blk w2 n2 25 #[pv q] from Blk.keep (w := w1.drew) HB1.out bb)
  have HT2 := Lib.hid (show Blk w2 n3 9 #[.string (st t0)] from Blk.keep (w := w1.drew) HT1.out bb)
  have HW2 := Lib.hid (HW1.out.trans ((below_of_drew bb).mono HW1.out.size))
  clear bb hHeld
  go_wp2_with fail
  refine hK.out _ _ ⟨(HB2.out).cell 0, (HS2.out).page, (HS2.out).blk.cell 17, (HI2.out).cell 0⟩ (fun hHeld => ?_)
  clear hK K
  try simp only [Act.put, List.getElem_toArray, List.getElem_cons_succ, List.getElem_cons_zero, List.setIfInBounds_toArray, List.set_cons_zero, List.set_cons_succ]
  refine wpAnyH_take (i := 13) (v := ?v9) rfl (by kernel_rfl) (by kernel_rfl) (by kernel_rfl) (fun _ _ _ h => h) (Or.inl ⟨by rfl, ?hy9⟩) hHeld ?rest9
  case hy9 =>
    intro w' hSw
    try dsimp only at hSw
    go_simp
    first | done | with_reducible rfl
  try simp only [Act.put, List.getElem_toArray, List.getElem_cons_succ, List.getElem_cons_zero, List.setIfInBounds_toArray, List.set_cons_zero, List.set_cons_succ]
  refine wpAnyH_take (i := 14) (v := ?v10) rfl (by kernel_rfl) (by kernel_rfl) (by kernel_rfl) (fun _ _ _ h => h) (Or.inl ⟨by rfl, ?hy10⟩) hHeld ?rest10
  case hy10 =>
    intro w' hSw
    try dsimp only at hSw
    go_simp
    first | done | with_reducible rfl
  try simp only [Act.put, List.getElem_toArray, List.getElem_cons_succ, List.getElem_cons_zero, List.setIfInBounds_toArray, List.set_cons_zero, List.set_cons_succ]
  refine wpAnyH_take (i := 15) (v := ?v11) rfl (by kernel_rfl) (by kernel_rfl) (by kernel_rfl) (fun _ _ _ h => h) (Or.inl ⟨by rfl, ?hy11⟩) hHeld ?rest11
  case hy11 =>
    intro w' hSw
    try dsimp only at hSw
    go_simp
    first | done | with_reducible rfl
  try simp only [Act.put, List.getElem_toArray, List.getElem_cons_succ, List.getElem_cons_zero, List.setIfInBounds_toArray, List.set_cons_zero, List.set_cons_succ]
  refine wpAnyH_ready (rs := [16]) (by kernel_rfl) (by simp) ?_
  refine AllReadyH.cons (by rfl) (fun K hK => ?_) AllReadyH.nil
  have ht0 : w2.cell? ⟨n3, 0, none⟩ = some (.string (st t0)) := HT2.out.cell 0
  have hf0 := HT2.out.frozen 0
  have HSX := Lib.hid (HS2.out.fro (fr_set w2 n3 0 (.string (st (rdA os y (a : Int) n).1))) HP.out HKK.out (fun e => HD.out.2.2 e.symm))
  have HBX := Lib.hid (HB2.out.far (p := ⟨n3, 0, none⟩) (by show n2 ≠ n3; exact fun e => HD.out.2.1 e.symm) (.string (st (rdA os y (a : Int) n).1)))
  have HIX := Lib.hid (HI2.out.far (p := ⟨n3, 0, none⟩) (by show n1 ≠ n3; exact fun e => HD.out.1 e.symm) (.string (st (rdA os y (a : Int) n).1)))
  have HTX := Lib.hid (HT2.out.set_ 0 (.string (st (rdA os y (a : Int) n).1)))
  have HFX := Lib.hid ((Fr.of_below HW2.out : Fr (fun k => k = n3) w w2).trans (fr_set w2 n3 0 (.string (st (rdA os y (a : Int) n).1))))
  go_simp
  refine hK.out _ _ ⟨HBX.out.cell 0, HSX.out.page, HSX.out.blk.cell 17, HIX.out.cell 0⟩ (fun hHeld => ?_)
  clear hK K
  try simp only [Act.put, List.getElem_toArray, List.getElem_cons_succ, List.getElem_cons_zero]
  refine wpAnyH_done (by kernel_rfl) ?_ _
  refine OnlyN.normal ?_
  go_wp2_with fail
  go_end0
  rw [HRS.out]
  exact ⟨rfl, HTX.out, HFX.out⟩
end
end Go.Proofs.YtfckdbennjkgoaaDoor

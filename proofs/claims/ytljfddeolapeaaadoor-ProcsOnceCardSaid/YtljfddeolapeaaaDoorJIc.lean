/- procs: Invoke, behind its face. -/
import Derived.Test.YtljfddeolapeaaaDoorJFc
namespace Go.Proofs.YtljfddeolapeaaaDoor
open List renaming getElem_toArray → zq1, getElem_cons_succ → zq2, getElem_cons_zero → zq3, setIfInBounds_toArray → zq4, set_cons_zero → zq5, set_cons_succ → zq6
open Go.RowKit
/-- what Invoke has handed in, as it lies -/
structure Cp (w : World) (MD S KX G I : Nat) (mt pt kt gt it : TypeId) (md : Int) (p : Nat) (x : Ky) (m : Mg) (i : Int) : Prop where
  cm : Blk w MD mt #[.int .i64 md]
  cs : Blk w S pt #[pv p]
  ck : Blk w KX kt (kl x).toArray
  cg : Blk w G gt m.cells.toArray
  ci : Blk w I it #[.int .i64 i]
section
variable {w w' : World} {MD S KX G I : Nat} {mt pt kt gt it : TypeId} {md : Int} {p : Nat} {x : Ky} {m : Mg} {i : Int}
theorem Cp.keep (h : Cp w MD S KX G I mt pt kt gt it md p x m i) (hb : Below w.heap.size w w') : Cp w' MD S KX G I mt pt kt gt it md p x m i := ⟨h.cm.keep hb, h.cs.keep hb, h.ck.keep hb, h.cg.keep hb, h.ci.keep hb⟩
theorem Cp.alloc (h : Cp w MD S KX G I mt pt kt gt it md p x m i) (u : Obj) : Cp (w.alloc u) MD S KX G I mt pt kt gt it md p x m i := h.keep ((Below.refl _ _).alloc (Nat.le_refl _) _)
theorem Cp.drew (h : Cp w MD S KX G I mt pt kt gt it md p x m i) : Cp w.drew MD S KX G I mt pt kt gt it md p x m i := ⟨h.cm, h.cs, h.ck, h.cg, h.ci⟩
end
section
variable {w : World} {base p : Nat} {A : Option Addr} {cap : Nat} {ps : List Nat} {os : List Oj} {MD S KX G I : Nat} {mt pt kt gt it : TypeId} {md : Int} {x : Ky} {m : Mg} {i : Int}
set_option maxRecDepth 100000 in
set_option maxHeartbeats 4000000 in
theorem ic_mode (hc : Cp w MD S KX G I mt pt kt gt it md p x m i) (hg : goB md = false) : Calls Tryd.prog 35 #[.pointer (some ⟨MD, 0, none⟩), .pointer (some ⟨S, 0, none⟩), .pointer (some ⟨KX, 0, none⟩), .pointer (some ⟨G, 0, none⟩), .pointer (some ⟨I, 0, none⟩)] w fun e w' => e = .panicked (erc 2) ∧ Below w.heap.size w w' := by
  have HGB := Lib.hid hg
  have HC0 := Lib.hid hc
  have HB0 := Lib.hid (Below.refl w.heap.size w)
  clear hg hc
  go_enter Tryd.func35, Tryd.ntmps35
  go_wp2_with fail
  refine wp_region_only (S := fun w' => w'.cell? ⟨MD, 0, none⟩ = some (.int .i64 md)) (by kernel_rfl) (HC0.out.drew.cm.cell 0) (fun hHeld => ?_)
  refine wpAnyH_take (i := 1) (v := ?v1) rfl (by kernel_rfl) (by kernel_rfl) (by kernel_rfl) (fun _ _ _ h => h) (Or.inl ⟨by rfl, ?hy1⟩) hHeld ?rest1
  case hy1 =>
    intro w' hSw
    try dsimp only at hSw
    go_simp
    first | done | with_reducible rfl
  try simp only [Act.put, zq1, zq2, zq3, zq4, zq5, zq6]
  refine wpAnyH_ready (rs := [0]) (by kernel_rfl) (by simp) ?_
  refine AllReadyH.cons (by rfl) (fun K hK => ?_) AllReadyH.nil
  go_simp
  refine (gmmap_any _).mono ?_
  rintro e w1 ⟨rfl, hw1⟩
  have HMP := Lib.hid (show w1.heap[w.heap.size]? = some (.map gmE3 3) by subst hw1; exact heap_alloc_new _ _)
  have HB1 := Lib.hid (show Below w.heap.size w w1 by subst hw1; exact (below_drew HB0.out).alloc (below_drew HB0.out).size _)
  have HC1 := Lib.hid (show Cp w1 MD S KX G I mt pt kt gt it md p x m i by subst hw1; exact HC0.out.drew.alloc _)
  clear hw1 hHeld HB0 HC0
  go_wp2_with fail
  refine hK.out _ _ (HC1.out.cm.cell 0) (fun hHeld => ?_)
  clear hK K
  try simp only [Act.put, zq1, zq3, zq4, zq5, zq6]
  refine wpAnyH_ready (rs := [2]) (by kernel_rfl) (by simp) ?_
  refine AllReadyH.cons (by rfl) (fun K hK => ?_) AllReadyH.nil
  have hlk2 := go_look w1 _ md HMP.out
  rw [HGB.out] at hlk2
  go_simp
  refine hK.out _ _ (HC1.out.cm.cell 0) (fun hHeld => ?_)
  clear hK K
  try simp only [Act.put, zq1, zq2, zq3, zq4, zq5, zq6]
  refine wpAnyH_take (i := 3) (v := ?v2) rfl (by kernel_rfl) (by kernel_rfl) (by kernel_rfl) (fun _ _ _ h => h) (Or.inl ⟨by rfl, ?hy2⟩) hHeld ?rest2
  case hy2 =>
    intro w' hSw
    try dsimp only at hSw
    go_simp
    first | done | with_reducible rfl
  try simp only [Act.put, zq1, zq2, zq3, zq4, zq5, zq6]
  refine wpAnyH_take (i := 4) (v := ?v3) rfl (by kernel_rfl) (by kernel_rfl) (by kernel_rfl) (fun _ _ _ h => h) (Or.inl ⟨by rfl, ?hy3⟩) hHeld ?rest3
  case hy3 =>
    intro w' hSw
    try dsimp only at hSw
    go_simp
    first | done | with_reducible rfl
  try simp only [Act.put, zq1, zq2, zq3, zq4, zq5, zq6]
  refine wpAnyH_take (i := 5) (v := ?v4) rfl (by kernel_rfl) (by kernel_rfl) (by kernel_rfl) (fun _ _ _ h => h) (Or.inl ⟨by rfl, ?hy4⟩) hHeld ?rest4
  case hy4 =>
    intro w' hSw
    try dsimp only at hSw
    go_simp
    first | done | with_reducible rfl
  try simp only [Act.put, zq1, zq2, zq3, zq4, zq5, zq6]
  refine wpAnyH_take (i := 6) (v := ?v5) rfl (by kernel_rfl) (by kernel_rfl) (by kernel_rfl) (fun _ _ _ h => h) (Or.inl ⟨by rfl, ?hy5⟩) hHeld ?rest5
  case hy5 =>
    intro w' hSw
    try dsimp only at hSw
    go_simp
    first | done | with_reducible rfl
  try simp only [Act.put, zq1, zq2, zq3, zq4, zq5, zq6]
  refine wpAnyH_take (i := 7) (v := ?v6) rfl (by kernel_rfl) (by kernel_rfl) (by kernel_rfl) (fun _ _ _ h => h) (Or.inl ⟨by rfl, ?hy6⟩) hHeld ?rest6
  case hy6 =>
    intro w' hSw
    try dsimp only at hSw
    go_simp
    first | done | with_reducible rfl
  try simp only [Act.put, zq1, zq2, zq3, zq4, zq5, zq6]
  refine wpAnyH_done (by kernel_rfl) ?_ _
  refine OnlyN.normal ?_
  clear hHeld
  go_wp2_with fail
  exact ⟨rfl, rfl, HB1.out⟩
set_option maxRecDepth 100000 in
set_option maxHeartbeats 4000000 in
theorem ic_no1 (hc : Cp w MD S KX G I mt pt kt gt it md p x m i) (hg : goB md = true) (n : Int) (hmh : ∀ W, Below w.heap.size w W → Calls Tryd.prog 37 #[pv p, x.val] W fun e w' => e = .panicked (erc n) ∧ Below W.heap.size W w') : Calls Tryd.prog 35 #[.pointer (some ⟨MD, 0, none⟩), .pointer (some ⟨S, 0, none⟩), .pointer (some ⟨KX, 0, none⟩), .pointer (some ⟨G, 0, none⟩), .pointer (some ⟨I, 0, none⟩)] w fun e w' => e = .panicked (erc n) ∧ Below w.heap.size w w' := by
  have hz := zM
  have hz2 := zJ
  have hzl := mz.len
  have hzj := jc_len none 0 oz
  have HGB := Lib.hid hg
  have HC0 := Lib.hid hc
  have HB0 := Lib.hid (Below.refl w.heap.size w)
  have HH1 := Lib.hid hmh
  clear hg hc hmh
  go_enter Tryd.func35, Tryd.ntmps35
  go_wp2_with fail
  refine wp_region_only (S := fun w' => w'.cell? ⟨MD, 0, none⟩ = some (.int .i64 md)) (by kernel_rfl) (HC0.out.drew.cm.cell 0) (fun hHeld => ?_)
  refine wpAnyH_take (i := 1) (v := ?v7) rfl (by kernel_rfl) (by kernel_rfl) (by kernel_rfl) (fun _ _ _ h => h) (Or.inl ⟨by rfl, ?hy7⟩) hHeld ?rest7
  case hy7 =>
    intro w' hSw
    try dsimp only at hSw
    go_simp
    first | done | with_reducible rfl
  try simp only [Act.put, zq1, zq2, zq3, zq4, zq5, zq6]
  refine wpAnyH_ready (rs := [0]) (by kernel_rfl) (by simp) ?_
  refine AllReadyH.cons (by rfl) (fun K hK => ?_) AllReadyH.nil
  go_simp
  refine (gmmap_any _).mono ?_
  rintro e w1 ⟨rfl, hw1⟩
  have HMP := Lib.hid (show w1.heap[w.heap.size]? = some (.map gmE3 3) by subst hw1; exact heap_alloc_new _ _)
  have HB1 := Lib.hid (show Below w.heap.size w w1 by subst hw1; exact (below_drew HB0.out).alloc (below_drew HB0.out).size _)
  have HC1 := Lib.hid (show Cp w1 MD S KX G I mt pt kt gt it md p x m i by subst hw1; exact HC0.out.drew.alloc _)
  clear hw1 hHeld HB0 HC0
  go_wp2_with fail
  refine hK.out _ _ (HC1.out.cm.cell 0) (fun hHeld => ?_)
  clear hK K
  try simp only [Act.put, zq1, zq3, zq4, zq5, zq6]
  refine wpAnyH_ready (rs := [2]) (by kernel_rfl) (by simp) ?_
  refine AllReadyH.cons (by rfl) (fun K hK => ?_) AllReadyH.nil
  have hlk2 := go_look w1 _ md HMP.out
  rw [HGB.out] at hlk2
  go_simp
  refine hK.out _ _ (HC1.out.cm.cell 0) (fun hHeld => ?_)
  clear hK K
  try simp only [Act.put, zq1, zq2, zq3, zq4, zq5, zq6]
  refine wpAnyH_take (i := 3) (v := ?v8) rfl (by kernel_rfl) (by kernel_rfl) (by kernel_rfl) (fun _ _ _ h => h) (Or.inl ⟨by rfl, ?hy8⟩) hHeld ?rest8
  case hy8 =>
    intro w' hSw
    try dsimp only at hSw
    go_simp
    first | done | with_reducible rfl
  try simp only [Act.put, zq1, zq2, zq3, zq4, zq5, zq6]
  refine wpAnyH_take (i := 4) (v := ?v9) rfl (by kernel_rfl) (by kernel_rfl) (by kernel_rfl) (fun _ _ _ h => h) (Or.inl ⟨by rfl, ?hy9⟩) hHeld ?rest9
  case hy9 =>
    intro w' hSw
    try dsimp only at hSw
    go_simp
    first | done | with_reducible rfl
  try simp only [Act.put, zq1, zq2, zq3, zq4, zq5, zq6]
  refine wpAnyH_take (i := 5) (v := ?v10) rfl (by kernel_rfl) (by kernel_rfl) (by kernel_rfl) (fun _ _ _ h => h) (Or.inl ⟨by rfl, ?hy10⟩) hHeld ?rest10
  case hy10 =>
    intro w' hSw
    try dsimp only at hSw
    go_simp
    first | done | with_reducible rfl
  try simp only [Act.put, zq1, zq2, zq3, zq4, zq5, zq6]
  refine wpAnyH_take (i := 6) (v := ?v11) rfl (by kernel_rfl) (by kernel_rfl) (by kernel_rfl) (fun _ _ _ h => h) (Or.inl ⟨by rfl, ?hy11⟩) hHeld ?rest11
  case hy11 =>
    intro w' hSw
    try dsimp only at hSw
    go_simp
    first | done | with_reducible rfl
  try simp only [Act.put, zq1, zq2, zq3, zq4, zq5, zq6]
  refine wpAnyH_take (i := 7) (v := ?v12) rfl (by kernel_rfl) (by kernel_rfl) (by kernel_rfl) (fun _ _ _ h => h) (Or.inl ⟨by rfl, ?hy12⟩) hHeld ?rest12
  case hy12 =>
    intro w' hSw
    try dsimp only at hSw
    go_simp
    first | done | with_reducible rfl
  try simp only [Act.put, zq1, zq2, zq3, zq4, zq5, zq6]
  refine wpAnyH_done (by kernel_rfl) ?_ _
  refine OnlyN.normal ?_
  clear hHeld
  have hs1 := HC1.out.cs.one
  go_wp2_with (first
    | (show wpList _ _ _ (Oper.mk (some 22) (.load _ _) _ _ _ _ :: _) _ _; refine wpList_yields (S := fun w' => KeyAt w' KX 0 x) (y_kyJ (by rfl) (.tmp 2) (by rfl) KX 0 (by rfl) x (fun _ h => h)) HC1.out.ck.kat ?_)
    | (go_at_call 37; refine (HH1.out _ HB1.out).mono ?_; rintro e w2 ⟨rfl, b2⟩; have HB2 := Lib.hid (HB1.out.trans (b2.mono HB1.out.size)); clear b2))
  exact ⟨rfl, rfl, HB2.out⟩
set_option maxRecDepth 100000 in
set_option maxHeartbeats 4000000 in
theorem ic_no2 (hc : Cp w MD S KX G I mt pt kt gt it md p x m i) (hg : goB md = true) (n : Int) (hmh : ∀ W, Below w.heap.size w W → Calls Tryd.prog 37 #[pv p, x.val] W fun e w' => e = .returned (.tuple #[]) ∧ Below W.heap.size W w') (hpr : ∀ W, Below w.heap.size w W → Calls Tryd.prog 38 #[pv p, m.val] W fun e w' => e = .panicked (erc n) ∧ Below W.heap.size W w') : Calls Tryd.prog 35 #[.pointer (some ⟨MD, 0, none⟩), .pointer (some ⟨S, 0, none⟩), .pointer (some ⟨KX, 0, none⟩), .pointer (some ⟨G, 0, none⟩), .pointer (some ⟨I, 0, none⟩)] w fun e w' => e = .panicked (erc n) ∧ Below w.heap.size w w' := by
  have hz := zM
  have hz2 := zJ
  have hzl := mz.len
  have hzj := jc_len none 0 oz
  have HGB := Lib.hid hg
  have HC0 := Lib.hid hc
  have HB0 := Lib.hid (Below.refl w.heap.size w)
  have HH1 := Lib.hid hmh
  have HH2 := Lib.hid hpr
  clear hg hc hmh hpr
  go_enter Tryd.func35, Tryd.ntmps35
  go_wp2_with fail
  refine wp_region_only (S := fun w' => w'.cell? ⟨MD, 0, none⟩ = some (.int .i64 md)) (by kernel_rfl) (HC0.out.drew.cm.cell 0) (fun hHeld => ?_)
  refine wpAnyH_take (i := 1) (v := ?v13) rfl (by kernel_rfl) (by kernel_rfl) (by kernel_rfl) (fun _ _ _ h => h) (Or.inl ⟨by rfl, ?hy13⟩) hHeld ?rest13
  case hy13 =>
    intro w' hSw
    try dsimp only at hSw
    go_simp
    first | done | with_reducible rfl
  try simp only [Act.put, zq1, zq2, zq3, zq4, zq5, zq6]
  refine wpAnyH_ready (rs := [0]) (by kernel_rfl) (by simp) ?_
  refine AllReadyH.cons (by rfl) (fun K hK => ?_) AllReadyH.nil
  go_simp
  refine (gmmap_any _).mono ?_
  rintro e w1 ⟨rfl, hw1⟩
  have HMP := Lib.hid (show w1.heap[w.heap.size]? = some (.map gmE3 3) by subst hw1; exact heap_alloc_new _ _)
  have HB1 := Lib.hid (show Below w.heap.size w w1 by subst hw1; exact (below_drew HB0.out).alloc (below_drew HB0.out).size _)
  have HC1 := Lib.hid (show Cp w1 MD S KX G I mt pt kt gt it md p x m i by subst hw1; exact HC0.out.drew.alloc _)
  clear hw1 hHeld HB0 HC0
  go_wp2_with fail
  refine hK.out _ _ (HC1.out.cm.cell 0) (fun hHeld => ?_)
  clear hK K
  try simp only [Act.put, zq1, zq3, zq4, zq5, zq6]
  refine wpAnyH_ready (rs := [2]) (by kernel_rfl) (by simp) ?_
  refine AllReadyH.cons (by rfl) (fun K hK => ?_) AllReadyH.nil
  have hlk2 := go_look w1 _ md HMP.out
  rw [HGB.out] at hlk2
  go_simp
  refine hK.out _ _ (HC1.out.cm.cell 0) (fun hHeld => ?_)
  clear hK K
  try simp only [Act.put, zq1, zq2, zq3, zq4, zq5, zq6]
  refine wpAnyH_take (i := 3) (v := ?v14) rfl (by kernel_rfl) (by kernel_rfl) (by kernel_rfl) (fun _ _ _ h => h) (Or.inl ⟨by rfl, ?hy14⟩) hHeld ?rest14
  case hy14 =>
    intro w' hSw
    try dsimp only at hSw
    go_simp
    first | done | with_reducible rfl
  try simp only [Act.put, zq1, zq2, zq3, zq4, zq5, zq6]
  refine wpAnyH_take (i := 4) (v := ?v15) rfl (by kernel_rfl) (by kernel_rfl) (by kernel_rfl) (fun _ _ _ h => h) (Or.inl ⟨by rfl, ?hy15⟩) hHeld ?rest15
  case hy15 =>
    intro w' hSw
    try dsimp only at hSw
    go_simp
    first | done | with_reducible rfl
  try simp only [Act.put, zq1, zq2, zq3, zq4, zq5, zq6]
  refine wpAnyH_take (i := 5) (v := ?v16) rfl (by kernel_rfl) (by kernel_rfl) (by kernel_rfl) (fun _ _ _ h => h) (Or.inl ⟨by rfl, ?hy16⟩) hHeld ?rest16
  case hy16 =>
    intro w' hSw
    try dsimp only at hSw
    go_simp
    first | done | with_reducible rfl
  try simp only [Act.put, zq1, zq2, zq3, zq4, zq5, zq6]
  refine wpAnyH_take (i := 6) (v := ?v17) rfl (by kernel_rfl) (by kernel_rfl) (by kernel_rfl) (fun _ _ _ h => h) (Or.inl ⟨by rfl, ?hy17⟩) hHeld ?rest17
  case hy17 =>
    intro w' hSw
    try dsimp only at hSw
    go_simp
    first | done | with_reducible rfl
  try simp only [Act.put, zq1, zq2, zq3, zq4, zq5, zq6]
  refine wpAnyH_take (i := 7) (v := ?v18) rfl (by kernel_rfl) (by kernel_rfl) (by kernel_rfl) (fun _ _ _ h => h) (Or.inl ⟨by rfl, ?hy18⟩) hHeld ?rest18
  case hy18 =>
    intro w' hSw
    try dsimp only at hSw
    go_simp
    first | done | with_reducible rfl
  try simp only [Act.put, zq1, zq2, zq3, zq4, zq5, zq6]
  refine wpAnyH_done (by kernel_rfl) ?_ _
  refine OnlyN.normal ?_
  clear hHeld
  have hs1 := HC1.out.cs.one
  go_wp2_with (first
    | (show wpList _ _ _ (Oper.mk (some 22) (.load _ _) _ _ _ _ :: _) _ _; refine wpList_yields (S := fun w' => KeyAt w' KX 0 x) (y_kyJ (by rfl) (.tmp 2) (by rfl) KX 0 (by rfl) x (fun _ h => h)) HC1.out.ck.kat ?_)
    | (go_at_call 37; refine (HH1.out _ HB1.out).mono ?_; rintro e w2 ⟨rfl, b2⟩; have HB2 := Lib.hid (HB1.out.trans (b2.mono HB1.out.size)); have HC2 := Lib.hid (HC1.out.keep b2); clear b2; have hs1 := HC2.out.cs.one)
    | (show wpList _ _ _ (Oper.mk (some 25) (.load _ _) _ _ _ _ :: _) _ _; refine wpList_yields (S := fun w' => MgAt w' G 0 m) (y_mg (by rfl) (.tmp 3) (by rfl) G 0 (by rfl) m (fun _ h => h)) HC2.out.cg.mg ?_)
    | (go_at_call 38; refine (HH2.out _ HB2.out).mono ?_; rintro e w3 ⟨rfl, b3⟩; have HB3 := Lib.hid (HB2.out.trans (b3.mono HB2.out.size)); clear b3))
  exact ⟨rfl, rfl, HB3.out⟩
set_option maxRecDepth 100000 in
set_option maxHeartbeats 4000000 in
theorem ic_no3 (hc : Cp w MD S KX G I mt pt kt gt it md p x m i) (hg : goB md = true) (n : Int) (hmh : ∀ W, Below w.heap.size w W → Calls Tryd.prog 37 #[pv p, x.val] W fun e w' => e = .returned (.tuple #[]) ∧ Below W.heap.size W w') (m' : Mg) (hpr : ∀ W, Below w.heap.size w W → Calls Tryd.prog 38 #[pv p, m.val] W fun e w' => e = .returned m'.val ∧ Below W.heap.size W w') (hru : ∀ W, Below w.heap.size w W → Calls Tryd.prog 39 #[pv p, .int .i64 i] W fun e w' => e = .panicked (erc n) ∧ Below W.heap.size W w') : Calls Tryd.prog 35 #[.pointer (some ⟨MD, 0, none⟩), .pointer (some ⟨S, 0, none⟩), .pointer (some ⟨KX, 0, none⟩), .pointer (some ⟨G, 0, none⟩), .pointer (some ⟨I, 0, none⟩)] w fun e w' => e = .panicked (erc n) ∧ Below w.heap.size w w' := by
  have hz := zM
  have hz2 := zJ
  have hzl := mz.len
  have hzj := jc_len none 0 oz
  have hml := m'.len
  have HGB := Lib.hid hg
  have HC0 := Lib.hid hc
  have HB0 := Lib.hid (Below.refl w.heap.size w)
  have HH1 := Lib.hid hmh
  have HH2 := Lib.hid hpr
  have HH3 := Lib.hid hru
  clear hg hc hmh hpr hru
  go_enter Tryd.func35, Tryd.ntmps35
  go_wp2_with fail
  refine wp_region_only (S := fun w' => w'.cell? ⟨MD, 0, none⟩ = some (.int .i64 md)) (by kernel_rfl) (HC0.out.drew.cm.cell 0) (fun hHeld => ?_)
  refine wpAnyH_take (i := 1) (v := ?v19) rfl (by kernel_rfl) (by kernel_rfl) (by kernel_rfl) (fun _ _ _ h => h) (Or.inl ⟨by rfl, ?hy19⟩) hHeld ?rest19
  case hy19 =>
    intro w' hSw
    try dsimp only at hSw
    go_simp
    first | done | with_reducible rfl
  try simp only [Act.put, zq1, zq2, zq3, zq4, zq5, zq6]
  refine wpAnyH_ready (rs := [0]) (by kernel_rfl) (by simp) ?_
  refine AllReadyH.cons (by rfl) (fun K hK => ?_) AllReadyH.nil
  go_simp
  refine (gmmap_any _).mono ?_
  rintro e w1 ⟨rfl, hw1⟩
  have HMP := Lib.hid (show w1.heap[w.heap.size]? = some (.map gmE3 3) by subst hw1; exact heap_alloc_new _ _)
  have HB1 := Lib.hid (show Below w.heap.size w w1 by subst hw1; exact (below_drew HB0.out).alloc (below_drew HB0.out).size _)
  have HC1 := Lib.hid (show Cp w1 MD S KX G I mt pt kt gt it md p x m i by subst hw1; exact HC0.out.drew.alloc _)
  clear hw1 hHeld HB0 HC0
  go_wp2_with fail
  refine hK.out _ _ (HC1.out.cm.cell 0) (fun hHeld => ?_)
  clear hK K
  try simp only [Act.put, zq1, zq3, zq4, zq5, zq6]
  refine wpAnyH_ready (rs := [2]) (by kernel_rfl) (by simp) ?_
  refine AllReadyH.cons (by rfl) (fun K hK => ?_) AllReadyH.nil
  have hlk2 := go_look w1 _ md HMP.out
  rw [HGB.out] at hlk2
  go_simp
  refine hK.out _ _ (HC1.out.cm.cell 0) (fun hHeld => ?_)
  clear hK K
  try simp only [Act.put, zq1, zq2, zq3, zq4, zq5, zq6]
  refine wpAnyH_take (i := 3) (v := ?v20) rfl (by kernel_rfl) (by kernel_rfl) (by kernel_rfl) (fun _ _ _ h => h) (Or.inl ⟨by rfl, ?hy20⟩) hHeld ?rest20
  case hy20 =>
    intro w' hSw
    try dsimp only at hSw
    go_simp
    first | done | with_reducible rfl
  try simp only [Act.put, zq1, zq2, zq3, zq4, zq5, zq6]
  refine wpAnyH_take (i := 4) (v := ?v21) rfl (by kernel_rfl) (by kernel_rfl) (by kernel_rfl) (fun _ _ _ h => h) (Or.inl ⟨by rfl, ?hy21⟩) hHeld ?rest21
  case hy21 =>
    intro w' hSw
    try dsimp only at hSw
    go_simp
    first | done | with_reducible rfl
  try simp only [Act.put, zq1, zq2, zq3, zq4, zq5, zq6]
  refine wpAnyH_take (i := 5) (v := ?v22) rfl (by kernel_rfl) (by kernel_rfl) (by kernel_rfl) (fun _ _ _ h => h) (Or.inl ⟨by rfl, ?hy22⟩) hHeld ?rest22
  case hy22 =>
    intro w' hSw
    try dsimp only at hSw
    go_simp
    first | done | with_reducible rfl
  try simp only [Act.put, zq1, zq2, zq3, zq4, zq5, zq6]
  refine wpAnyH_take (i := 6) (v := ?v23) rfl (by kernel_rfl) (by kernel_rfl) (by kernel_rfl) (fun _ _ _ h => h) (Or.inl ⟨by rfl, ?hy23⟩) hHeld ?rest23
  case hy23 =>
    intro w' hSw
    try dsimp only at hSw
    go_simp
    first | done | with_reducible rfl
  try simp only [Act.put, zq1, zq2, zq3, zq4, zq5, zq6]
  refine wpAnyH_take (i := 7) (v := ?v24) rfl (by kernel_rfl) (by kernel_rfl) (by kernel_rfl) (fun _ _ _ h => h) (Or.inl ⟨by rfl, ?hy24⟩) hHeld ?rest24
  case hy24 =>
    intro w' hSw
    try dsimp only at hSw
    go_simp
    first | done | with_reducible rfl
  try simp only [Act.put, zq1, zq2, zq3, zq4, zq5, zq6]
  refine wpAnyH_done (by kernel_rfl) ?_ _
  refine OnlyN.normal ?_
  clear hHeld
  have hs1 := HC1.out.cs.one
  go_wp2_with (first
    | (show wpList _ _ _ (Oper.mk (some 22) (.load _ _) _ _ _ _ :: _) _ _; refine wpList_yields (S := fun w' => KeyAt w' KX 0 x) (y_kyJ (by rfl) (.tmp 2) (by rfl) KX 0 (by rfl) x (fun _ h => h)) HC1.out.ck.kat ?_)
    | (go_at_call 37; refine (HH1.out _ HB1.out).mono ?_; rintro e w2 ⟨rfl, b2⟩; have HB2 := Lib.hid (HB1.out.trans (b2.mono HB1.out.size)); have HC2 := Lib.hid (HC1.out.keep b2); clear b2; have hs1 := HC2.out.cs.one)
    | (show wpList _ _ _ (Oper.mk (some 25) (.load _ _) _ _ _ _ :: _) _ _; refine wpList_yields (S := fun w' => MgAt w' G 0 m) (y_mg (by rfl) (.tmp 3) (by rfl) G 0 (by rfl) m (fun _ h => h)) HC2.out.cg.mg ?_)
    | (go_at_call 38; refine (HH2.out _ HB2.out).mono ?_; rintro e w3 ⟨rfl, b3⟩; have HB3 := Lib.hid (HB2.out.trans (b3.mono HB2.out.size)); have HC3 := Lib.hid (HC2.out.keep b3); have HB4 := Lib.hid (HB3.out.alloc HB3.out.size (.cells m'.cells.toArray 38)); have HC4 := Lib.hid (HC3.out.alloc (.cells m'.cells.toArray 38)); have HM4 := Lib.hid (Blk.new w3 38 m'.cells.toArray); clear b3 hs1; have hs1 := HC4.out.cs.one; have hi1 := HC4.out.ci.one)
    | (show wpList _ _ _ (Oper.mk none (.store _ (.tmp 7) (.tmp 26)) _ _ _ _ :: _) _ _; refine wpList_store_new (l := m'.cells) (l0 := mz.cells) (ty := 38) rfl (.tmp 7) (.tmp 26) (by rfl) w3.heap.size rfl (by rfl) (by rfl) (by rw [Mg.len]; exact sizeM) (by rw [Mg.len, Mg.len]) (Mg.one _) ?_)
    | (go_at_call 39; refine (HH3.out _ HB4.out).mono ?_; rintro e w5 ⟨rfl, b5⟩; have HB5 := Lib.hid (HB4.out.trans (b5.mono HB4.out.size)); clear b5))
  exact ⟨rfl, rfl, HB5.out⟩
set_option maxRecDepth 100000 in
set_option maxHeartbeats 4000000 in
theorem ic_no4 (hc : Cp w MD S KX G I mt pt kt gt it md p x m i) (hg : goB md = true) (n : Int) (hmh : ∀ W, Below w.heap.size w W → Calls Tryd.prog 37 #[pv p, x.val] W fun e w' => e = .returned (.tuple #[]) ∧ Below W.heap.size W w') (m' : Mg) (hpr : ∀ W, Below w.heap.size w W → Calls Tryd.prog 38 #[pv p, m.val] W fun e w' => e = .returned m'.val ∧ Below W.heap.size W w') (u : Oj) (hru : ∀ W, Below w.heap.size w W → Calls Tryd.prog 39 #[pv p, .int .i64 i] W fun e w' => e = .returned (jv (some ⟨p, 0, none⟩) i u) ∧ Below W.heap.size W w') (hct : ∀ W, Below w.heap.size w W → Calls Tryd.prog 40 #[pv p, x.val] W fun e w' => e = .panicked (erc n) ∧ Below W.heap.size W w') : Calls Tryd.prog 35 #[.pointer (some ⟨MD, 0, none⟩), .pointer (some ⟨S, 0, none⟩), .pointer (some ⟨KX, 0, none⟩), .pointer (some ⟨G, 0, none⟩), .pointer (some ⟨I, 0, none⟩)] w fun e w' => e = .panicked (erc n) ∧ Below w.heap.size w w' := by
  have hz := zM
  have hz2 := zJ
  have hzl := mz.len
  have hzj := jc_len none 0 oz
  have hml := m'.len
  have hul := jc_len (some ⟨p, 0, none⟩) i u
  have HGB := Lib.hid hg
  have HC0 := Lib.hid hc
  have HB0 := Lib.hid (Below.refl w.heap.size w)
  have HH1 := Lib.hid hmh
  have HH2 := Lib.hid hpr
  have HH3 := Lib.hid hru
  have HH4 := Lib.hid hct
  clear hg hc hmh hpr hru hct
  go_enter Tryd.func35, Tryd.ntmps35
  go_wp2_with fail
  refine wp_region_only (S := fun w' => w'.cell? ⟨MD, 0, none⟩ = some (.int .i64 md)) (by kernel_rfl) (HC0.out.drew.cm.cell 0) (fun hHeld => ?_)
  refine wpAnyH_take (i := 1) (v := ?v25) rfl (by kernel_rfl) (by kernel_rfl) (by kernel_rfl) (fun _ _ _ h => h) (Or.inl ⟨by rfl, ?hy25⟩) hHeld ?rest25
  case hy25 =>
    intro w' hSw
    try dsimp only at hSw
    go_simp
    first | done | with_reducible rfl
  try simp only [Act.put, zq1, zq2, zq3, zq4, zq5, zq6]
  refine wpAnyH_ready (rs := [0]) (by kernel_rfl) (by simp) ?_
  refine AllReadyH.cons (by rfl) (fun K hK => ?_) AllReadyH.nil
  go_simp
  refine (gmmap_any _).mono ?_
  rintro e w1 ⟨rfl, hw1⟩
  have HMP := Lib.hid (show w1.heap[w.heap.size]? = some (.map gmE3 3) by subst hw1; exact heap_alloc_new _ _)
  have HB1 := Lib.hid (show Below w.heap.size w w1 by subst hw1; exact (below_drew HB0.out).alloc (below_drew HB0.out).size _)
  have HC1 := Lib.hid (show Cp w1 MD S KX G I mt pt kt gt it md p x m i by subst hw1; exact HC0.out.drew.alloc _)
  clear hw1 hHeld HB0 HC0
  go_wp2_with fail
  refine hK.out _ _ (HC1.out.cm.cell 0) (fun hHeld => ?_)
  clear hK K
  try simp only [Act.put, zq1, zq3, zq4, zq5, zq6]
  refine wpAnyH_ready (rs := [2]) (by kernel_rfl) (by simp) ?_
  refine AllReadyH.cons (by rfl) (fun K hK => ?_) AllReadyH.nil
  have hlk2 := go_look w1 _ md HMP.out
  rw [HGB.out] at hlk2
  go_simp
  refine hK.out _ _ (HC1.out.cm.cell 0) (fun hHeld => ?_)
  clear hK K
  try simp only [Act.put, zq1, zq2, zq3, zq4, zq5, zq6]
  refine wpAnyH_take (i := 3) (v := ?v26) rfl (by kernel_rfl) (by kernel_rfl) (by kernel_rfl) (fun _ _ _ h => h) (Or.inl ⟨by rfl, ?hy26⟩) hHeld ?rest26
  case hy26 =>
    intro w' hSw
    try dsimp only at hSw
    go_simp
    first | done | with_reducible rfl
  try simp only [Act.put, zq1, zq2, zq3, zq4, zq5, zq6]
  refine wpAnyH_take (i := 4) (v := ?v27) rfl (by kernel_rfl) (by kernel_rfl) (by kernel_rfl) (fun _ _ _ h => h) (Or.inl ⟨by rfl, ?hy27⟩) hHeld ?rest27
  case hy27 =>
    intro w' hSw
    try dsimp only at hSw
    go_simp
    first | done | with_reducible rfl
  try simp only [Act.put, zq1, zq2, zq3, zq4, zq5, zq6]
  refine wpAnyH_take (i := 5) (v := ?v28) rfl (by kernel_rfl) (by kernel_rfl) (by kernel_rfl) (fun _ _ _ h => h) (Or.inl ⟨by rfl, ?hy28⟩) hHeld ?rest28
  case hy28 =>
    intro w' hSw
    try dsimp only at hSw
    go_simp
    first | done | with_reducible rfl
  try simp only [Act.put, zq1, zq2, zq3, zq4, zq5, zq6]
  refine wpAnyH_take (i := 6) (v := ?v29) rfl (by kernel_rfl) (by kernel_rfl) (by kernel_rfl) (fun _ _ _ h => h) (Or.inl ⟨by rfl, ?hy29⟩) hHeld ?rest29
  case hy29 =>
    intro w' hSw
    try dsimp only at hSw
    go_simp
    first | done | with_reducible rfl
  try simp only [Act.put, zq1, zq2, zq3, zq4, zq5, zq6]
  refine wpAnyH_take (i := 7) (v := ?v30) rfl (by kernel_rfl) (by kernel_rfl) (by kernel_rfl) (fun _ _ _ h => h) (Or.inl ⟨by rfl, ?hy30⟩) hHeld ?rest30
  case hy30 =>
    intro w' hSw
    try dsimp only at hSw
    go_simp
    first | done | with_reducible rfl
  try simp only [Act.put, zq1, zq2, zq3, zq4, zq5, zq6]
  refine wpAnyH_done (by kernel_rfl) ?_ _
  refine OnlyN.normal ?_
  clear hHeld
  have hs1 := HC1.out.cs.one
  go_wp2_with (first
    | (show wpList _ _ _ (Oper.mk (some 22) (.load _ _) _ _ _ _ :: _) _ _; refine wpList_yields (S := fun w' => KeyAt w' KX 0 x) (y_kyJ (by rfl) (.tmp 2) (by rfl) KX 0 (by rfl) x (fun _ h => h)) HC1.out.ck.kat ?_)
    | (go_at_call 37; refine (HH1.out _ HB1.out).mono ?_; rintro e w2 ⟨rfl, b2⟩; have HB2 := Lib.hid (HB1.out.trans (b2.mono HB1.out.size)); have HC2 := Lib.hid (HC1.out.keep b2); clear b2; have hs1 := HC2.out.cs.one)
    | (show wpList _ _ _ (Oper.mk (some 25) (.load _ _) _ _ _ _ :: _) _ _; refine wpList_yields (S := fun w' => MgAt w' G 0 m) (y_mg (by rfl) (.tmp 3) (by rfl) G 0 (by rfl) m (fun _ h => h)) HC2.out.cg.mg ?_)
    | (go_at_call 38; refine (HH2.out _ HB2.out).mono ?_; rintro e w3 ⟨rfl, b3⟩; have HB3 := Lib.hid (HB2.out.trans (b3.mono HB2.out.size)); have HC3 := Lib.hid (HC2.out.keep b3); have HB4 := Lib.hid (HB3.out.alloc HB3.out.size (.cells m'.cells.toArray 38)); have HC4 := Lib.hid (HC3.out.alloc (.cells m'.cells.toArray 38)); have HM4 := Lib.hid (Blk.new w3 38 m'.cells.toArray); clear b3 hs1; have hs1 := HC4.out.cs.one; have hi1 := HC4.out.ci.one)
    | (show wpList _ _ _ (Oper.mk none (.store _ (.tmp 7) (.tmp 26)) _ _ _ _ :: _) _ _; refine wpList_store_new (l := m'.cells) (l0 := mz.cells) (ty := 38) rfl (.tmp 7) (.tmp 26) (by rfl) w3.heap.size rfl (by rfl) (by rfl) (by rw [Mg.len]; exact sizeM) (by rw [Mg.len, Mg.len]) (Mg.one _) ?_)
    | (go_at_call 39; refine (HH3.out _ HB4.out).mono ?_; rintro e w5 ⟨rfl, b5⟩; have HB5 := Lib.hid (HB4.out.trans (b5.mono HB4.out.size)); have HC5 := Lib.hid (HC4.out.keep b5); have HB6 := Lib.hid (HB5.out.alloc HB5.out.size (.cells (jc (some ⟨p, 0, none⟩) i u).toArray 93)); have HC6 := Lib.hid (HC5.out.alloc (.cells (jc (some ⟨p, 0, none⟩) i u).toArray 93)); have HM6 := Lib.hid ((HM4.out.keep b5).alloc (.cells (jc (some ⟨p, 0, none⟩) i u).toArray 93)); have HU6 := Lib.hid (Blk.new w5 93 (jc (some ⟨p, 0, none⟩) i u).toArray); clear b5 hs1 hi1; have hs1 := HC6.out.cs.one)
    | (show wpList _ _ _ (Oper.mk none (.store _ (.tmp 8) (.tmp 29)) _ _ _ _ :: _) _ _; refine wpList_store_new (l := jc (some ⟨p, 0, none⟩) i u) (l0 := jc none 0 oz) (ty := 93) rfl (.tmp 8) (.tmp 29) (by rfl) w5.heap.size rfl (by rfl) (by rfl) (by rw [jc_len]; exact sizeJ) (by rw [jc_len, jc_len]) (jc_one _ _ _) ?_)
    | (show wpList _ _ _ (Oper.mk (some 32) (.load _ _) _ _ _ _ :: _) _ _; refine wpList_yields (S := fun w' => KeyAt w' KX 0 x) (y_kyJ (by rfl) (.tmp 2) (by rfl) KX 0 (by rfl) x (fun _ h => h)) HC6.out.ck.kat ?_)
    | (go_at_call 40; refine (HH4.out _ HB6.out).mono ?_; rintro e w7 ⟨rfl, b7⟩; have HB7 := Lib.hid (HB6.out.trans (b7.mono HB6.out.size)); clear b7))
  exact ⟨rfl, rfl, HB7.out⟩
set_option maxRecDepth 100000 in
set_option maxHeartbeats 4000000 in
theorem ic_com_s_no (hc : Cp w MD S KX G I mt pt kt gt it md p x m i) (hg : goB md = true) (n : Int) (hmh : ∀ W, Below w.heap.size w W → Calls Tryd.prog 37 #[pv p, x.val] W fun e w' => e = .returned (.tuple #[]) ∧ Below W.heap.size W w') (m' : Mg) (hpr : ∀ W, Below w.heap.size w W → Calls Tryd.prog 38 #[pv p, m.val] W fun e w' => e = .returned m'.val ∧ Below W.heap.size W w') (u : Oj) (hru : ∀ W, Below w.heap.size w W → Calls Tryd.prog 39 #[pv p, .int .i64 i] W fun e w' => e = .returned (jv (some ⟨p, 0, none⟩) i u) ∧ Below W.heap.size W w') (v : Oj) (hct : ∀ W, Below w.heap.size w W → Calls Tryd.prog 40 #[pv p, x.val] W fun e w' => e = .returned (.tuple #[jv (some ⟨p, 0, none⟩) x.o v, .func (.func 90) #[] #[]]) ∧ Below W.heap.size W w') (hco : ∀ W g, IvB W g m' md (some ⟨p, 0, none⟩) i u x.o v zk → Calls Tryd.prog 90 #[.pointer (some ⟨g, 0, none⟩)] W fun e w' => e = .panicked (erc n) ∧ Below W.heap.size W w') : Calls Tryd.prog 35 #[.pointer (some ⟨MD, 0, none⟩), .pointer (some ⟨S, 0, none⟩), .pointer (some ⟨KX, 0, none⟩), .pointer (some ⟨G, 0, none⟩), .pointer (some ⟨I, 0, none⟩)] w fun e w' => e = .panicked (erc n) ∧ Below w.heap.size w w' := by
  have hz := zM
  have hz2 := zJ
  have hzl := mz.len
  have hzj := jc_len none 0 oz
  have hml := m'.len
  have hul := jc_len (some ⟨p, 0, none⟩) i u
  have hvl := jc_len (some ⟨p, 0, none⟩) x.o v
  have hil := ivc_len m' md (some ⟨p, 0, none⟩) i u x.o v zk
  have HGB := Lib.hid hg
  have HC0 := Lib.hid hc
  have HB0 := Lib.hid (Below.refl w.heap.size w)
  have HH1 := Lib.hid hmh
  have HH2 := Lib.hid hpr
  have HH3 := Lib.hid hru
  have HH4 := Lib.hid hct
  have HCO := Lib.hid hco
  clear hco
  clear hg hc hmh hpr hru hct
  go_enter Tryd.func35, Tryd.ntmps35
  go_wp2_with fail
  refine wp_region_only (S := fun w' => w'.cell? ⟨MD, 0, none⟩ = some (.int .i64 md)) (by kernel_rfl) (HC0.out.drew.cm.cell 0) (fun hHeld => ?_)
  refine wpAnyH_take (i := 1) (v := ?v31) rfl (by kernel_rfl) (by kernel_rfl) (by kernel_rfl) (fun _ _ _ h => h) (Or.inl ⟨by rfl, ?hy31⟩) hHeld ?rest31
  case hy31 =>
    intro w' hSw
    try dsimp only at hSw
    go_simp
    first | done | with_reducible rfl
  try simp only [Act.put, zq1, zq2, zq3, zq4, zq5, zq6]
  refine wpAnyH_ready (rs := [0]) (by kernel_rfl) (by simp) ?_
  refine AllReadyH.cons (by rfl) (fun K hK => ?_) AllReadyH.nil
  go_simp
  refine (gmmap_any _).mono ?_
  rintro e w1 ⟨rfl, hw1⟩
  have HMP := Lib.hid (show w1.heap[w.heap.size]? = some (.map gmE3 3) by subst hw1; exact heap_alloc_new _ _)
  have HB1 := Lib.hid (show Below w.heap.size w w1 by subst hw1; exact (below_drew HB0.out).alloc (below_drew HB0.out).size _)
  have HC1 := Lib.hid (show Cp w1 MD S KX G I mt pt kt gt it md p x m i by subst hw1; exact HC0.out.drew.alloc _)
  clear hw1 hHeld HB0 HC0
  go_wp2_with fail
  refine hK.out _ _ (HC1.out.cm.cell 0) (fun hHeld => ?_)
  clear hK K
  try simp only [Act.put, zq1, zq3, zq4, zq5, zq6]
  refine wpAnyH_ready (rs := [2]) (by kernel_rfl) (by simp) ?_
  refine AllReadyH.cons (by rfl) (fun K hK => ?_) AllReadyH.nil
  have hlk2 := go_look w1 _ md HMP.out
  rw [HGB.out] at hlk2
  go_simp
  refine hK.out _ _ (HC1.out.cm.cell 0) (fun hHeld => ?_)
  clear hK K
  try simp only [Act.put, zq1, zq2, zq3, zq4, zq5, zq6]
  refine wpAnyH_take (i := 3) (v := ?v32) rfl (by kernel_rfl) (by kernel_rfl) (by kernel_rfl) (fun _ _ _ h => h) (Or.inl ⟨by rfl, ?hy32⟩) hHeld ?rest32
  case hy32 =>
    intro w' hSw
    try dsimp only at hSw
    go_simp
    first | done | with_reducible rfl
  try simp only [Act.put, zq1, zq2, zq3, zq4, zq5, zq6]
  refine wpAnyH_take (i := 4) (v := ?v33) rfl (by kernel_rfl) (by kernel_rfl) (by kernel_rfl) (fun _ _ _ h => h) (Or.inl ⟨by rfl, ?hy33⟩) hHeld ?rest33
  case hy33 =>
    intro w' hSw
    try dsimp only at hSw
    go_simp
    first | done | with_reducible rfl
  try simp only [Act.put, zq1, zq2, zq3, zq4, zq5, zq6]
  refine wpAnyH_take (i := 5) (v := ?v34) rfl (by kernel_rfl) (by kernel_rfl) (by kernel_rfl) (fun _ _ _ h => h) (Or.inl ⟨by rfl, ?hy34⟩) hHeld ?rest34
  case hy34 =>
    intro w' hSw
    try dsimp only at hSw
    go_simp
    first | done | with_reducible rfl
  try simp only [Act.put, zq1, zq2, zq3, zq4, zq5, zq6]
  refine wpAnyH_take (i := 6) (v := ?v35) rfl (by kernel_rfl) (by kernel_rfl) (by kernel_rfl) (fun _ _ _ h => h) (Or.inl ⟨by rfl, ?hy35⟩) hHeld ?rest35
  case hy35 =>
    intro w' hSw
    try dsimp only at hSw
    go_simp
    first | done | with_reducible rfl
  try simp only [Act.put, zq1, zq2, zq3, zq4, zq5, zq6]
  refine wpAnyH_take (i := 7) (v := ?v36) rfl (by kernel_rfl) (by kernel_rfl) (by kernel_rfl) (fun _ _ _ h => h) (Or.inl ⟨by rfl, ?hy36⟩) hHeld ?rest36
  case hy36 =>
    intro w' hSw
    try dsimp only at hSw
    go_simp
    first | done | with_reducible rfl
  try simp only [Act.put, zq1, zq2, zq3, zq4, zq5, zq6]
  refine wpAnyH_done (by kernel_rfl) ?_ _
  refine OnlyN.normal ?_
  clear hHeld
  have hs1 := HC1.out.cs.one
  go_wp2_with (first
    | (show wpList _ _ _ (Oper.mk (some 22) (.load _ _) _ _ _ _ :: _) _ _; refine wpList_yields (S := fun w' => KeyAt w' KX 0 x) (y_kyJ (by rfl) (.tmp 2) (by rfl) KX 0 (by rfl) x (fun _ h => h)) HC1.out.ck.kat ?_)
    | (go_at_call 37; refine (HH1.out _ HB1.out).mono ?_; rintro e w2 ⟨rfl, b2⟩; have HB2 := Lib.hid (HB1.out.trans (b2.mono HB1.out.size)); have HC2 := Lib.hid (HC1.out.keep b2); clear b2; have hs1 := HC2.out.cs.one)
    | (show wpList _ _ _ (Oper.mk (some 25) (.load _ _) _ _ _ _ :: _) _ _; refine wpList_yields (S := fun w' => MgAt w' G 0 m) (y_mg (by rfl) (.tmp 3) (by rfl) G 0 (by rfl) m (fun _ h => h)) HC2.out.cg.mg ?_)
    | (go_at_call 38; refine (HH2.out _ HB2.out).mono ?_; rintro e w3 ⟨rfl, b3⟩; have HB3 := Lib.hid (HB2.out.trans (b3.mono HB2.out.size)); have HC3 := Lib.hid (HC2.out.keep b3); have HB4 := Lib.hid (HB3.out.alloc HB3.out.size (.cells m'.cells.toArray 38)); have HC4 := Lib.hid (HC3.out.alloc (.cells m'.cells.toArray 38)); have HM4 := Lib.hid (Blk.new w3 38 m'.cells.toArray); clear b3 hs1; have hs1 := HC4.out.cs.one; have hi1 := HC4.out.ci.one)
    | (show wpList _ _ _ (Oper.mk none (.store _ (.tmp 7) (.tmp 26)) _ _ _ _ :: _) _ _; refine wpList_store_new (l := m'.cells) (l0 := mz.cells) (ty := 38) rfl (.tmp 7) (.tmp 26) (by rfl) w3.heap.size rfl (by rfl) (by rfl) (by rw [Mg.len]; exact sizeM) (by rw [Mg.len, Mg.len]) (Mg.one _) ?_)
    | (go_at_call 39; refine (HH3.out _ HB4.out).mono ?_; rintro e w5 ⟨rfl, b5⟩; have HB5 := Lib.hid (HB4.out.trans (b5.mono HB4.out.size)); have HC5 := Lib.hid (HC4.out.keep b5); have HB6 := Lib.hid (HB5.out.alloc HB5.out.size (.cells (jc (some ⟨p, 0, none⟩) i u).toArray 93)); have HC6 := Lib.hid (HC5.out.alloc (.cells (jc (some ⟨p, 0, none⟩) i u).toArray 93)); have HM6 := Lib.hid ((HM4.out.keep b5).alloc (.cells (jc (some ⟨p, 0, none⟩) i u).toArray 93)); have HU6 := Lib.hid (Blk.new w5 93 (jc (some ⟨p, 0, none⟩) i u).toArray); clear b5 hs1 hi1; have hs1 := HC6.out.cs.one)
    | (show wpList _ _ _ (Oper.mk none (.store _ (.tmp 8) (.tmp 29)) _ _ _ _ :: _) _ _; refine wpList_store_new (l := jc (some ⟨p, 0, none⟩) i u) (l0 := jc none 0 oz) (ty := 93) rfl (.tmp 8) (.tmp 29) (by rfl) w5.heap.size rfl (by rfl) (by rfl) (by rw [jc_len]; exact sizeJ) (by rw [jc_len, jc_len]) (jc_one _ _ _) ?_)
    | (show wpList _ _ _ (Oper.mk (some 32) (.load _ _) _ _ _ _ :: _) _ _; refine wpList_yields (S := fun w' => KeyAt w' KX 0 x) (y_kyJ (by rfl) (.tmp 2) (by rfl) KX 0 (by rfl) x (fun _ h => h)) HC6.out.ck.kat ?_)
    | (go_at_call 40; refine (HH4.out _ HB6.out).mono ?_; rintro e w7 ⟨rfl, b7⟩; have HB7 := Lib.hid (HB6.out.trans (b7.mono HB6.out.size)); have HC7 := Lib.hid (HC6.out.keep b7); have HB8 := Lib.hid (HB7.out.alloc HB7.out.size (.cells (jc (some ⟨p, 0, none⟩) x.o v).toArray 93)); have HC8 := Lib.hid (HC7.out.alloc (.cells (jc (some ⟨p, 0, none⟩) x.o v).toArray 93)); have HM8 := Lib.hid ((HM6.out.keep b7).alloc (.cells (jc (some ⟨p, 0, none⟩) x.o v).toArray 93)); have HU8 := Lib.hid ((HU6.out.keep b7).alloc (.cells (jc (some ⟨p, 0, none⟩) x.o v).toArray 93)); have HV8 := Lib.hid (Blk.new w7 93 (jc (some ⟨p, 0, none⟩) x.o v).toArray); clear b7 hs1; have hm1 := HC8.out.cm.one)
    | (show wpList _ _ _ (Oper.mk none (.store _ (.tmp 9) (.tmp 34)) _ _ _ _ :: _) _ _; refine wpList_store_new (l := jc (some ⟨p, 0, none⟩) x.o v) (l0 := jc none 0 oz) (ty := 93) rfl (.tmp 9) (.tmp 34) (by rfl) w7.heap.size rfl (by rfl) (by rfl) (by rw [jc_len]; exact sizeJ) (by rw [jc_len, jc_len]) (jc_one _ _ _) ?_)
    | (show wpList _ _ _ (Oper.mk (some 36) (.load _ _) _ _ _ _ :: _) _ _; refine wpList_yields (S := fun w' => MgAt w' w3.heap.size 0 m') (y_mg (by rfl) (.tmp 7) (by rfl) w3.heap.size 0 (by rfl) m' (fun _ h => h)) HM8.out.mg ?_)
    | (show wpList _ _ _ (Oper.mk (some 38) (.load _ _) _ _ _ _ :: _) _ _; refine wpList_yields (S := fun w' => JAt w' w5.heap.size 0 (some ⟨p, 0, none⟩) i u) (y_nd (by rfl) (.tmp 8) (by rfl) w5.heap.size 0 (by rfl) (some ⟨p, 0, none⟩) i u (fun _ h => h)) HU8.out.jx ?_)
    | (show wpList _ _ _ (Oper.mk (some 39) (.load _ _) _ _ _ _ :: _) _ _; refine wpList_yields (S := fun w' => JAt w' w7.heap.size 0 (some ⟨p, 0, none⟩) x.o v) (y_nd (by rfl) (.tmp 9) (by rfl) w7.heap.size 0 (by rfl) (some ⟨p, 0, none⟩) x.o v (fun _ h => h)) HV8.out.jx ?_)
    | (show wpList _ _ _ (Oper.mk (some 40) (.build _ _) _ _ _ _ :: _) _ _; refine wpList_yields (S := fun _ => True) (y_bl4 (by rfl) (.tmp 36) (.tmp 37) (.tmp 38) (.tmp 39) (by rfl) (by rfl) (by rfl) (by rfl) (by rfl) (builtI m' md (some ⟨p, 0, none⟩) i u x.o v)) trivial ?_; have hil := ivc_len m' md (some ⟨p, 0, none⟩) i u x.o v zk)
    | (go_at_call 90; have HB9 := Lib.hid (HB8.out.alloc HB8.out.size (.cells (ivc m' md (some ⟨p, 0, none⟩) i u x.o v zk).toArray 99)); have HI9 := Lib.hid (show IvB ((w7.alloc (.cells (jc (some ⟨p, 0, none⟩) x.o v).toArray 93)).alloc (.cells (ivc m' md (some ⟨p, 0, none⟩) i u x.o v zk).toArray 99)) (w7.heap.size + 1) m' md (some ⟨p, 0, none⟩) i u x.o v zk from Blk.new_of (w7.alloc (.cells (jc (some ⟨p, 0, none⟩) x.o v).toArray 93)) 99 _ (by simp)); refine (HCO.out _ _ HI9.out).mono ?_; rintro e wa ⟨rfl, ba⟩; have HBa := Lib.hid (HB9.out.trans (ba.mono HB9.out.size)); clear ba))
  exact ⟨rfl, rfl, HBa.out⟩
set_option maxRecDepth 100000 in
set_option maxHeartbeats 4000000 in
theorem ic_go_s_no (hc : Cp w MD S KX G I mt pt kt gt it md p x m i) (hg : goB md = true) (hgv : goV md = .func (.func 70) #[] #[]) (n : Int) (hmh : ∀ W, Below w.heap.size w W → Calls Tryd.prog 37 #[pv p, x.val] W fun e w' => e = .returned (.tuple #[]) ∧ Below W.heap.size W w') (m' : Mg) (hpr : ∀ W, Below w.heap.size w W → Calls Tryd.prog 38 #[pv p, m.val] W fun e w' => e = .returned m'.val ∧ Below W.heap.size W w') (u : Oj) (hru : ∀ W, Below w.heap.size w W → Calls Tryd.prog 39 #[pv p, .int .i64 i] W fun e w' => e = .returned (jv (some ⟨p, 0, none⟩) i u) ∧ Below W.heap.size W w') (v : Oj) (hct : ∀ W, Below w.heap.size w W → Calls Tryd.prog 40 #[pv p, x.val] W fun e w' => e = .returned (.tuple #[jv (some ⟨p, 0, none⟩) x.o v, .func (.func 90) #[] #[]]) ∧ Below W.heap.size W w') (v' : Oj) (hco : ∀ W g, IvB W g m' md (some ⟨p, 0, none⟩) i u x.o v zk → Calls Tryd.prog 90 #[.pointer (some ⟨g, 0, none⟩)] W fun e w' => e = .returned (.tuple #[]) ∧ IvB w' g m' md (some ⟨p, 0, none⟩) i u x.o v' zk ∧ Fr (fun k => k = g) W w') (hgo : ∀ W g, IvB W g m' md (some ⟨p, 0, none⟩) i u x.o v' zk → Calls Tryd.prog 70 #[.pointer (some ⟨g, 0, none⟩)] W fun e w' => e = .panicked (erc n) ∧ Below W.heap.size W w') : Calls Tryd.prog 35 #[.pointer (some ⟨MD, 0, none⟩), .pointer (some ⟨S, 0, none⟩), .pointer (some ⟨KX, 0, none⟩), .pointer (some ⟨G, 0, none⟩), .pointer (some ⟨I, 0, none⟩)] w fun e w' => e = .panicked (erc n) ∧ Below w.heap.size w w' := by
  have hz := zM
  have hz2 := zJ
  have hzl := mz.len
  have hzj := jc_len none 0 oz
  have hml := m'.len
  have hul := jc_len (some ⟨p, 0, none⟩) i u
  have hvl := jc_len (some ⟨p, 0, none⟩) x.o v
  have hil := ivc_len m' md (some ⟨p, 0, none⟩) i u x.o v zk
  have HGB := Lib.hid hg
  have HC0 := Lib.hid hc
  have HB0 := Lib.hid (Below.refl w.heap.size w)
  have HH1 := Lib.hid hmh
  have HH2 := Lib.hid hpr
  have HH3 := Lib.hid hru
  have HH4 := Lib.hid hct
  have HCO := Lib.hid hco
  have HGO := Lib.hid hgo
  have HGV := Lib.hid hgv
  clear hco hgo hgv
  clear hg hc hmh hpr hru hct
  go_enter Tryd.func35, Tryd.ntmps35
  go_wp2_with fail
  refine wp_region_only (S := fun w' => w'.cell? ⟨MD, 0, none⟩ = some (.int .i64 md)) (by kernel_rfl) (HC0.out.drew.cm.cell 0) (fun hHeld => ?_)
  refine wpAnyH_take (i := 1) (v := ?v37) rfl (by kernel_rfl) (by kernel_rfl) (by kernel_rfl) (fun _ _ _ h => h) (Or.inl ⟨by rfl, ?hy37⟩) hHeld ?rest37
  case hy37 =>
    intro w' hSw
    try dsimp only at hSw
    go_simp
    first | done | with_reducible rfl
  try simp only [Act.put, zq1, zq2, zq3, zq4, zq5, zq6]
  refine wpAnyH_ready (rs := [0]) (by kernel_rfl) (by simp) ?_
  refine AllReadyH.cons (by rfl) (fun K hK => ?_) AllReadyH.nil
  go_simp
  refine (gmmap_any _).mono ?_
  rintro e w1 ⟨rfl, hw1⟩
  have HMP := Lib.hid (show w1.heap[w.heap.size]? = some (.map gmE3 3) by subst hw1; exact heap_alloc_new _ _)
  have HB1 := Lib.hid (show Below w.heap.size w w1 by subst hw1; exact (below_drew HB0.out).alloc (below_drew HB0.out).size _)
  have HC1 := Lib.hid (show Cp w1 MD S KX G I mt pt kt gt it md p x m i by subst hw1; exact HC0.out.drew.alloc _)
  clear hw1 hHeld HB0 HC0
  go_wp2_with fail
  refine hK.out _ _ (HC1.out.cm.cell 0) (fun hHeld => ?_)
  clear hK K
  try simp only [Act.put, zq1, zq3, zq4, zq5, zq6]
  refine wpAnyH_ready (rs := [2]) (by kernel_rfl) (by simp) ?_
  refine AllReadyH.cons (by rfl) (fun K hK => ?_) AllReadyH.nil
  have hlk2 := go_look w1 _ md HMP.out
  rw [HGV.out, HGB.out] at hlk2
  go_simp
  refine hK.out _ _ (HC1.out.cm.cell 0) (fun hHeld => ?_)
  clear hK K
  try simp only [Act.put, zq1, zq2, zq3, zq4, zq5, zq6]
  refine wpAnyH_take (i := 3) (v := ?v38) rfl (by kernel_rfl) (by kernel_rfl) (by kernel_rfl) (fun _ _ _ h => h) (Or.inl ⟨by rfl, ?hy38⟩) hHeld ?rest38
  case hy38 =>
    intro w' hSw
    try dsimp only at hSw
    go_simp
    first | done | with_reducible rfl
  try simp only [Act.put, zq1, zq2, zq3, zq4, zq5, zq6]
  refine wpAnyH_take (i := 4) (v := ?v39) rfl (by kernel_rfl) (by kernel_rfl) (by kernel_rfl) (fun _ _ _ h => h) (Or.inl ⟨by rfl, ?hy39⟩) hHeld ?rest39
  case hy39 =>
    intro w' hSw
    try dsimp only at hSw
    go_simp
    first | done | with_reducible rfl
  try simp only [Act.put, zq1, zq2, zq3, zq4, zq5, zq6]
  refine wpAnyH_take (i := 5) (v := ?v40) rfl (by kernel_rfl) (by kernel_rfl) (by kernel_rfl) (fun _ _ _ h => h) (Or.inl ⟨by rfl, ?hy40⟩) hHeld ?rest40
  case hy40 =>
    intro w' hSw
    try dsimp only at hSw
    go_simp
    first | done | with_reducible rfl
  try simp only [Act.put, zq1, zq2, zq3, zq4, zq5, zq6]
  refine wpAnyH_take (i := 6) (v := ?v41) rfl (by kernel_rfl) (by kernel_rfl) (by kernel_rfl) (fun _ _ _ h => h) (Or.inl ⟨by rfl, ?hy41⟩) hHeld ?rest41
  case hy41 =>
    intro w' hSw
    try dsimp only at hSw
    go_simp
    first | done | with_reducible rfl
  try simp only [Act.put, zq1, zq2, zq3, zq4, zq5, zq6]
  refine wpAnyH_take (i := 7) (v := ?v42) rfl (by kernel_rfl) (by kernel_rfl) (by kernel_rfl) (fun _ _ _ h => h) (Or.inl ⟨by rfl, ?hy42⟩) hHeld ?rest42
  case hy42 =>
    intro w' hSw
    try dsimp only at hSw
    go_simp
    first | done | with_reducible rfl
  try simp only [Act.put, zq1, zq2, zq3, zq4, zq5, zq6]
  refine wpAnyH_done (by kernel_rfl) ?_ _
  refine OnlyN.normal ?_
  clear hHeld
  have hs1 := HC1.out.cs.one
  go_wp2_with (first
    | (show wpList _ _ _ (Oper.mk (some 22) (.load _ _) _ _ _ _ :: _) _ _; refine wpList_yields (S := fun w' => KeyAt w' KX 0 x) (y_kyJ (by rfl) (.tmp 2) (by rfl) KX 0 (by rfl) x (fun _ h => h)) HC1.out.ck.kat ?_)
    | (go_at_call 37; refine (HH1.out _ HB1.out).mono ?_; rintro e w2 ⟨rfl, b2⟩; have HB2 := Lib.hid (HB1.out.trans (b2.mono HB1.out.size)); have HC2 := Lib.hid (HC1.out.keep b2); clear b2; have hs1 := HC2.out.cs.one)
    | (show wpList _ _ _ (Oper.mk (some 25) (.load _ _) _ _ _ _ :: _) _ _; refine wpList_yields (S := fun w' => MgAt w' G 0 m) (y_mg (by rfl) (.tmp 3) (by rfl) G 0 (by rfl) m (fun _ h => h)) HC2.out.cg.mg ?_)
    | (go_at_call 38; refine (HH2.out _ HB2.out).mono ?_; rintro e w3 ⟨rfl, b3⟩; have HB3 := Lib.hid (HB2.out.trans (b3.mono HB2.out.size)); have HC3 := Lib.hid (HC2.out.keep b3); have HB4 := Lib.hid (HB3.out.alloc HB3.out.size (.cells m'.cells.toArray 38)); have HC4 := Lib.hid (HC3.out.alloc (.cells m'.cells.toArray 38)); have HM4 := Lib.hid (Blk.new w3 38 m'.cells.toArray); clear b3 hs1; have hs1 := HC4.out.cs.one; have hi1 := HC4.out.ci.one)
    | (show wpList _ _ _ (Oper.mk none (.store _ (.tmp 7) (.tmp 26)) _ _ _ _ :: _) _ _; refine wpList_store_new (l := m'.cells) (l0 := mz.cells) (ty := 38) rfl (.tmp 7) (.tmp 26) (by rfl) w3.heap.size rfl (by rfl) (by rfl) (by rw [Mg.len]; exact sizeM) (by rw [Mg.len, Mg.len]) (Mg.one _) ?_)
    | (go_at_call 39; refine (HH3.out _ HB4.out).mono ?_; rintro e w5 ⟨rfl, b5⟩; have HB5 := Lib.hid (HB4.out.trans (b5.mono HB4.out.size)); have HC5 := Lib.hid (HC4.out.keep b5); have HB6 := Lib.hid (HB5.out.alloc HB5.out.size (.cells (jc (some ⟨p, 0, none⟩) i u).toArray 93)); have HC6 := Lib.hid (HC5.out.alloc (.cells (jc (some ⟨p, 0, none⟩) i u).toArray 93)); have HM6 := Lib.hid ((HM4.out.keep b5).alloc (.cells (jc (some ⟨p, 0, none⟩) i u).toArray 93)); have HU6 := Lib.hid (Blk.new w5 93 (jc (some ⟨p, 0, none⟩) i u).toArray); clear b5 hs1 hi1; have hs1 := HC6.out.cs.one)
    | (show wpList _ _ _ (Oper.mk none (.store _ (.tmp 8) (.tmp 29)) _ _ _ _ :: _) _ _; refine wpList_store_new (l := jc (some ⟨p, 0, none⟩) i u) (l0 := jc none 0 oz) (ty := 93) rfl (.tmp 8) (.tmp 29) (by rfl) w5.heap.size rfl (by rfl) (by rfl) (by rw [jc_len]; exact sizeJ) (by rw [jc_len, jc_len]) (jc_one _ _ _) ?_)
    | (show wpList _ _ _ (Oper.mk (some 32) (.load _ _) _ _ _ _ :: _) _ _; refine wpList_yields (S := fun w' => KeyAt w' KX 0 x) (y_kyJ (by rfl) (.tmp 2) (by rfl) KX 0 (by rfl) x (fun _ h => h)) HC6.out.ck.kat ?_)
    | (go_at_call 40; refine (HH4.out _ HB6.out).mono ?_; rintro e w7 ⟨rfl, b7⟩; have HB7 := Lib.hid (HB6.out.trans (b7.mono HB6.out.size)); have HC7 := Lib.hid (HC6.out.keep b7); have HB8 := Lib.hid (HB7.out.alloc HB7.out.size (.cells (jc (some ⟨p, 0, none⟩) x.o v).toArray 93)); have HC8 := Lib.hid (HC7.out.alloc (.cells (jc (some ⟨p, 0, none⟩) x.o v).toArray 93)); have HM8 := Lib.hid ((HM6.out.keep b7).alloc (.cells (jc (some ⟨p, 0, none⟩) x.o v).toArray 93)); have HU8 := Lib.hid ((HU6.out.keep b7).alloc (.cells (jc (some ⟨p, 0, none⟩) x.o v).toArray 93)); have HV8 := Lib.hid (Blk.new w7 93 (jc (some ⟨p, 0, none⟩) x.o v).toArray); clear b7 hs1; have hm1 := HC8.out.cm.one)
    | (show wpList _ _ _ (Oper.mk none (.store _ (.tmp 9) (.tmp 34)) _ _ _ _ :: _) _ _; refine wpList_store_new (l := jc (some ⟨p, 0, none⟩) x.o v) (l0 := jc none 0 oz) (ty := 93) rfl (.tmp 9) (.tmp 34) (by rfl) w7.heap.size rfl (by rfl) (by rfl) (by rw [jc_len]; exact sizeJ) (by rw [jc_len, jc_len]) (jc_one _ _ _) ?_)
    | (show wpList _ _ _ (Oper.mk (some 36) (.load _ _) _ _ _ _ :: _) _ _; refine wpList_yields (S := fun w' => MgAt w' w3.heap.size 0 m') (y_mg (by rfl) (.tmp 7) (by rfl) w3.heap.size 0 (by rfl) m' (fun _ h => h)) HM8.out.mg ?_)
    | (show wpList _ _ _ (Oper.mk (some 38) (.load _ _) _ _ _ _ :: _) _ _; refine wpList_yields (S := fun w' => JAt w' w5.heap.size 0 (some ⟨p, 0, none⟩) i u) (y_nd (by rfl) (.tmp 8) (by rfl) w5.heap.size 0 (by rfl) (some ⟨p, 0, none⟩) i u (fun _ h => h)) HU8.out.jx ?_)
    | (show wpList _ _ _ (Oper.mk (some 39) (.load _ _) _ _ _ _ :: _) _ _; refine wpList_yields (S := fun w' => JAt w' w7.heap.size 0 (some ⟨p, 0, none⟩) x.o v) (y_nd (by rfl) (.tmp 9) (by rfl) w7.heap.size 0 (by rfl) (some ⟨p, 0, none⟩) x.o v (fun _ h => h)) HV8.out.jx ?_)
    | (show wpList _ _ _ (Oper.mk (some 40) (.build _ _) _ _ _ _ :: _) _ _; refine wpList_yields (S := fun _ => True) (y_bl4 (by rfl) (.tmp 36) (.tmp 37) (.tmp 38) (.tmp 39) (by rfl) (by rfl) (by rfl) (by rfl) (by rfl) (builtI m' md (some ⟨p, 0, none⟩) i u x.o v)) trivial ?_; have hil := ivc_len m' md (some ⟨p, 0, none⟩) i u x.o v zk)
    | (go_at_call 90; have HB9 := Lib.hid (HB8.out.alloc HB8.out.size (.cells (ivc m' md (some ⟨p, 0, none⟩) i u x.o v zk).toArray 99)); have HI9 := Lib.hid (show IvB ((w7.alloc (.cells (jc (some ⟨p, 0, none⟩) x.o v).toArray 93)).alloc (.cells (ivc m' md (some ⟨p, 0, none⟩) i u x.o v zk).toArray 99)) (w7.heap.size + 1) m' md (some ⟨p, 0, none⟩) i u x.o v zk from Blk.new_of (w7.alloc (.cells (jc (some ⟨p, 0, none⟩) x.o v).toArray 93)) 99 _ (by simp)); refine (HCO.out _ _ HI9.out).mono ?_; rintro e wa ⟨rfl, ia, fa⟩; have HIa := Lib.hid ia; have HBa := Lib.hid (HB9.out.trans (fr_below fa HB9.out.size (fun j hj e => by have := HB7.out.size; omega))); have HFa := Lib.hid fa; clear ia fa)
    | (go_at_call 70; refine (HGO.out _ _ HIa.out).mono ?_; rintro e wb ⟨rfl, bb⟩; have HBb := Lib.hid (HBa.out.trans (bb.mono HBa.out.size)); clear bb))
  exact ⟨rfl, rfl, HBb.out⟩
set_option maxRecDepth 100000 in
set_option maxHeartbeats 4000000 in
theorem ic_yes_s_ca (h : StAt w base p A cap ps os) (hc : Cp w MD S KX G I mt pt kt gt it md p x m i) (hg : goB md = true) (hgv : goV md = .func (.func 70) #[] #[]) (hmh : ∀ W, Below w.heap.size w W → Calls Tryd.prog 37 #[pv p, x.val] W fun e w' => e = .returned (.tuple #[]) ∧ Below W.heap.size W w') (m' : Mg) (hpr : ∀ W, Below w.heap.size w W → Calls Tryd.prog 38 #[pv p, m.val] W fun e w' => e = .returned m'.val ∧ Below W.heap.size W w') (u : Oj) (hru : ∀ W, Below w.heap.size w W → Calls Tryd.prog 39 #[pv p, .int .i64 i] W fun e w' => e = .returned (jv (some ⟨p, 0, none⟩) i u) ∧ Below W.heap.size W w') (v : Oj) (hct : ∀ W, Below w.heap.size w W → Calls Tryd.prog 40 #[pv p, x.val] W fun e w' => e = .returned (.tuple #[jv (some ⟨p, 0, none⟩) x.o v, .func (.func 90) #[] #[]]) ∧ Below W.heap.size W w') (v' : Oj) (hco : ∀ W g, IvB W g m' md (some ⟨p, 0, none⟩) i u x.o v zk → Calls Tryd.prog 90 #[.pointer (some ⟨g, 0, none⟩)] W fun e w' => e = .returned (.tuple #[]) ∧ IvB w' g m' md (some ⟨p, 0, none⟩) i u x.o v' zk ∧ Fr (fun k => k = g) W w') (u' : Oj) (k' : Ky) (hgo : ∀ W g, IvB W g m' md (some ⟨p, 0, none⟩) i u x.o v' zk → Calls Tryd.prog 70 #[.pointer (some ⟨g, 0, none⟩)] W fun e w' => e = .returned (.tuple #[]) ∧ IvB w' g m' md (some ⟨p, 0, none⟩) i u' x.o v' k' ∧ Fr (fun k => k = g) W w') (L : List Oj) (hdo : ∀ W g, w.heap.size ≤ g → StAt W base p A cap ps os → Below w.heap.size w W → IvB W g m' md (some ⟨p, 0, none⟩) i u' x.o v' k' → Calls Tryd.prog 41 #[.pointer (some ⟨g, 0, none⟩)] W fun e w' => e = .returned (.tuple #[]) ∧ StAt w' base p A cap ps L ∧ Fr (fun k => k = g ∨ k ∈ ps) W w') : Calls Tryd.prog 35 #[.pointer (some ⟨MD, 0, none⟩), .pointer (some ⟨S, 0, none⟩), .pointer (some ⟨KX, 0, none⟩), .pointer (some ⟨G, 0, none⟩), .pointer (some ⟨I, 0, none⟩)] w fun e w' => e = .returned (.tuple #[]) ∧ StAt w' base p A cap ps L ∧ Fr (fun k => k ∈ ps) w w' := by
  have hz := zM
  have hz2 := zJ
  have hzl := mz.len
  have hzj := jc_len none 0 oz
  have hml := m'.len
  have hul := jc_len (some ⟨p, 0, none⟩) i u
  have hvl := jc_len (some ⟨p, 0, none⟩) x.o v
  have hil := ivc_len m' md (some ⟨p, 0, none⟩) i u x.o v zk
  have HGB := Lib.hid hg
  have HC0 := Lib.hid hc
  have HB0 := Lib.hid (Below.refl w.heap.size w)
  have HH1 := Lib.hid hmh
  have HH2 := Lib.hid hpr
  have HH3 := Lib.hid hru
  have HH4 := Lib.hid hct
  have HST := Lib.hid h
  have HCO := Lib.hid hco
  have HGO := Lib.hid hgo
  have HGV := Lib.hid hgv
  have HDO := Lib.hid hdo
  clear h hco hgo hgv hdo
  clear hg hc hmh hpr hru hct
  go_enter Tryd.func35, Tryd.ntmps35
  go_wp2_with fail
  refine wp_region_only (S := fun w' => w'.cell? ⟨MD, 0, none⟩ = some (.int .i64 md)) (by kernel_rfl) (HC0.out.drew.cm.cell 0) (fun hHeld => ?_)
  refine wpAnyH_take (i := 1) (v := ?v43) rfl (by kernel_rfl) (by kernel_rfl) (by kernel_rfl) (fun _ _ _ h => h) (Or.inl ⟨by rfl, ?hy43⟩) hHeld ?rest43
  case hy43 =>
    intro w' hSw
    try dsimp only at hSw
    go_simp
    first | done | with_reducible rfl
  try simp only [Act.put, zq1, zq2, zq3, zq4, zq5, zq6]
  refine wpAnyH_ready (rs := [0]) (by kernel_rfl) (by simp) ?_
  refine AllReadyH.cons (by rfl) (fun K hK => ?_) AllReadyH.nil
  go_simp
  refine (gmmap_any _).mono ?_
  rintro e w1 ⟨rfl, hw1⟩
  have HMP := Lib.hid (show w1.heap[w.heap.size]? = some (.map gmE3 3) by subst hw1; exact heap_alloc_new _ _)
  have HB1 := Lib.hid (show Below w.heap.size w w1 by subst hw1; exact (below_drew HB0.out).alloc (below_drew HB0.out).size _)
  have HC1 := Lib.hid (show Cp w1 MD S KX G I mt pt kt gt it md p x m i by subst hw1; exact HC0.out.drew.alloc _)
  clear hw1 hHeld HB0 HC0
  go_wp2_with fail
  refine hK.out _ _ (HC1.out.cm.cell 0) (fun hHeld => ?_)
  clear hK K
  try simp only [Act.put, zq1, zq3, zq4, zq5, zq6]
  refine wpAnyH_ready (rs := [2]) (by kernel_rfl) (by simp) ?_
  refine AllReadyH.cons (by rfl) (fun K hK => ?_) AllReadyH.nil
  have hlk2 := go_look w1 _ md HMP.out
  rw [HGV.out, HGB.out] at hlk2
  go_simp
  refine hK.out _ _ (HC1.out.cm.cell 0) (fun hHeld => ?_)
  clear hK K
  try simp only [Act.put, zq1, zq2, zq3, zq4, zq5, zq6]
  refine wpAnyH_take (i := 3) (v := ?v44) rfl (by kernel_rfl) (by kernel_rfl) (by kernel_rfl) (fun _ _ _ h => h) (Or.inl ⟨by rfl, ?hy44⟩) hHeld ?rest44
  case hy44 =>
    intro w' hSw
    try dsimp only at hSw
    go_simp
    first | done | with_reducible rfl
  try simp only [Act.put, zq1, zq2, zq3, zq4, zq5, zq6]
  refine wpAnyH_take (i := 4) (v := ?v45) rfl (by kernel_rfl) (by kernel_rfl) (by kernel_rfl) (fun _ _ _ h => h) (Or.inl ⟨by rfl, ?hy45⟩) hHeld ?rest45
  case hy45 =>
    intro w' hSw
    try dsimp only at hSw
    go_simp
    first | done | with_reducible rfl
  try simp only [Act.put, zq1, zq2, zq3, zq4, zq5, zq6]
  refine wpAnyH_take (i := 5) (v := ?v46) rfl (by kernel_rfl) (by kernel_rfl) (by kernel_rfl) (fun _ _ _ h => h) (Or.inl ⟨by rfl, ?hy46⟩) hHeld ?rest46
  case hy46 =>
    intro w' hSw
    try dsimp only at hSw
    go_simp
    first | done | with_reducible rfl
  try simp only [Act.put, zq1, zq2, zq3, zq4, zq5, zq6]
  refine wpAnyH_take (i := 6) (v := ?v47) rfl (by kernel_rfl) (by kernel_rfl) (by kernel_rfl) (fun _ _ _ h => h) (Or.inl ⟨by rfl, ?hy47⟩) hHeld ?rest47
  case hy47 =>
    intro w' hSw
    try dsimp only at hSw
    go_simp
    first | done | with_reducible rfl
  try simp only [Act.put, zq1, zq2, zq3, zq4, zq5, zq6]
  refine wpAnyH_take (i := 7) (v := ?v48) rfl (by kernel_rfl) (by kernel_rfl) (by kernel_rfl) (fun _ _ _ h => h) (Or.inl ⟨by rfl, ?hy48⟩) hHeld ?rest48
  case hy48 =>
    intro w' hSw
    try dsimp only at hSw
    go_simp
    first | done | with_reducible rfl
  try simp only [Act.put, zq1, zq2, zq3, zq4, zq5, zq6]
  refine wpAnyH_done (by kernel_rfl) ?_ _
  refine OnlyN.normal ?_
  clear hHeld
  have hs1 := HC1.out.cs.one
  go_wp2_with (first
    | (show wpList _ _ _ (Oper.mk (some 22) (.load _ _) _ _ _ _ :: _) _ _; refine wpList_yields (S := fun w' => KeyAt w' KX 0 x) (y_kyJ (by rfl) (.tmp 2) (by rfl) KX 0 (by rfl) x (fun _ h => h)) HC1.out.ck.kat ?_)
    | (go_at_call 37; refine (HH1.out _ HB1.out).mono ?_; rintro e w2 ⟨rfl, b2⟩; have HB2 := Lib.hid (HB1.out.trans (b2.mono HB1.out.size)); have HC2 := Lib.hid (HC1.out.keep b2); clear b2; have hs1 := HC2.out.cs.one)
    | (show wpList _ _ _ (Oper.mk (some 25) (.load _ _) _ _ _ _ :: _) _ _; refine wpList_yields (S := fun w' => MgAt w' G 0 m) (y_mg (by rfl) (.tmp 3) (by rfl) G 0 (by rfl) m (fun _ h => h)) HC2.out.cg.mg ?_)
    | (go_at_call 38; refine (HH2.out _ HB2.out).mono ?_; rintro e w3 ⟨rfl, b3⟩; have HB3 := Lib.hid (HB2.out.trans (b3.mono HB2.out.size)); have HC3 := Lib.hid (HC2.out.keep b3); have HB4 := Lib.hid (HB3.out.alloc HB3.out.size (.cells m'.cells.toArray 38)); have HC4 := Lib.hid (HC3.out.alloc (.cells m'.cells.toArray 38)); have HM4 := Lib.hid (Blk.new w3 38 m'.cells.toArray); clear b3 hs1; have hs1 := HC4.out.cs.one; have hi1 := HC4.out.ci.one)
    | (show wpList _ _ _ (Oper.mk none (.store _ (.tmp 7) (.tmp 26)) _ _ _ _ :: _) _ _; refine wpList_store_new (l := m'.cells) (l0 := mz.cells) (ty := 38) rfl (.tmp 7) (.tmp 26) (by rfl) w3.heap.size rfl (by rfl) (by rfl) (by rw [Mg.len]; exact sizeM) (by rw [Mg.len, Mg.len]) (Mg.one _) ?_)
    | (go_at_call 39; refine (HH3.out _ HB4.out).mono ?_; rintro e w5 ⟨rfl, b5⟩; have HB5 := Lib.hid (HB4.out.trans (b5.mono HB4.out.size)); have HC5 := Lib.hid (HC4.out.keep b5); have HB6 := Lib.hid (HB5.out.alloc HB5.out.size (.cells (jc (some ⟨p, 0, none⟩) i u).toArray 93)); have HC6 := Lib.hid (HC5.out.alloc (.cells (jc (some ⟨p, 0, none⟩) i u).toArray 93)); have HM6 := Lib.hid ((HM4.out.keep b5).alloc (.cells (jc (some ⟨p, 0, none⟩) i u).toArray 93)); have HU6 := Lib.hid (Blk.new w5 93 (jc (some ⟨p, 0, none⟩) i u).toArray); clear b5 hs1 hi1; have hs1 := HC6.out.cs.one)
    | (show wpList _ _ _ (Oper.mk none (.store _ (.tmp 8) (.tmp 29)) _ _ _ _ :: _) _ _; refine wpList_store_new (l := jc (some ⟨p, 0, none⟩) i u) (l0 := jc none 0 oz) (ty := 93) rfl (.tmp 8) (.tmp 29) (by rfl) w5.heap.size rfl (by rfl) (by rfl) (by rw [jc_len]; exact sizeJ) (by rw [jc_len, jc_len]) (jc_one _ _ _) ?_)
    | (show wpList _ _ _ (Oper.mk (some 32) (.load _ _) _ _ _ _ :: _) _ _; refine wpList_yields (S := fun w' => KeyAt w' KX 0 x) (y_kyJ (by rfl) (.tmp 2) (by rfl) KX 0 (by rfl) x (fun _ h => h)) HC6.out.ck.kat ?_)
    | (go_at_call 40; refine (HH4.out _ HB6.out).mono ?_; rintro e w7 ⟨rfl, b7⟩; have HB7 := Lib.hid (HB6.out.trans (b7.mono HB6.out.size)); have HC7 := Lib.hid (HC6.out.keep b7); have HB8 := Lib.hid (HB7.out.alloc HB7.out.size (.cells (jc (some ⟨p, 0, none⟩) x.o v).toArray 93)); have HC8 := Lib.hid (HC7.out.alloc (.cells (jc (some ⟨p, 0, none⟩) x.o v).toArray 93)); have HM8 := Lib.hid ((HM6.out.keep b7).alloc (.cells (jc (some ⟨p, 0, none⟩) x.o v).toArray 93)); have HU8 := Lib.hid ((HU6.out.keep b7).alloc (.cells (jc (some ⟨p, 0, none⟩) x.o v).toArray 93)); have HV8 := Lib.hid (Blk.new w7 93 (jc (some ⟨p, 0, none⟩) x.o v).toArray); clear b7 hs1; have hm1 := HC8.out.cm.one)
    | (show wpList _ _ _ (Oper.mk none (.store _ (.tmp 9) (.tmp 34)) _ _ _ _ :: _) _ _; refine wpList_store_new (l := jc (some ⟨p, 0, none⟩) x.o v) (l0 := jc none 0 oz) (ty := 93) rfl (.tmp 9) (.tmp 34) (by rfl) w7.heap.size rfl (by rfl) (by rfl) (by rw [jc_len]; exact sizeJ) (by rw [jc_len, jc_len]) (jc_one _ _ _) ?_)
    | (show wpList _ _ _ (Oper.mk (some 36) (.load _ _) _ _ _ _ :: _) _ _; refine wpList_yields (S := fun w' => MgAt w' w3.heap.size 0 m') (y_mg (by rfl) (.tmp 7) (by rfl) w3.heap.size 0 (by rfl) m' (fun _ h => h)) HM8.out.mg ?_)
    | (show wpList _ _ _ (Oper.mk (some 38) (.load _ _) _ _ _ _ :: _) _ _; refine wpList_yields (S := fun w' => JAt w' w5.heap.size 0 (some ⟨p, 0, none⟩) i u) (y_nd (by rfl) (.tmp 8) (by rfl) w5.heap.size 0 (by rfl) (some ⟨p, 0, none⟩) i u (fun _ h => h)) HU8.out.jx ?_)
    | (show wpList _ _ _ (Oper.mk (some 39) (.load _ _) _ _ _ _ :: _) _ _; refine wpList_yields (S := fun w' => JAt w' w7.heap.size 0 (some ⟨p, 0, none⟩) x.o v) (y_nd (by rfl) (.tmp 9) (by rfl) w7.heap.size 0 (by rfl) (some ⟨p, 0, none⟩) x.o v (fun _ h => h)) HV8.out.jx ?_)
    | (show wpList _ _ _ (Oper.mk (some 40) (.build _ _) _ _ _ _ :: _) _ _; refine wpList_yields (S := fun _ => True) (y_bl4 (by rfl) (.tmp 36) (.tmp 37) (.tmp 38) (.tmp 39) (by rfl) (by rfl) (by rfl) (by rfl) (by rfl) (builtI m' md (some ⟨p, 0, none⟩) i u x.o v)) trivial ?_; have hil := ivc_len m' md (some ⟨p, 0, none⟩) i u x.o v zk)
    | (go_at_call 90; have HB9 := Lib.hid (HB8.out.alloc HB8.out.size (.cells (ivc m' md (some ⟨p, 0, none⟩) i u x.o v zk).toArray 99)); have HI9 := Lib.hid (show IvB ((w7.alloc (.cells (jc (some ⟨p, 0, none⟩) x.o v).toArray 93)).alloc (.cells (ivc m' md (some ⟨p, 0, none⟩) i u x.o v zk).toArray 99)) (w7.heap.size + 1) m' md (some ⟨p, 0, none⟩) i u x.o v zk from Blk.new_of (w7.alloc (.cells (jc (some ⟨p, 0, none⟩) x.o v).toArray 93)) 99 _ (by simp)); refine (HCO.out _ _ HI9.out).mono ?_; rintro e wa ⟨rfl, ia, fa⟩; have HIa := Lib.hid ia; have HBa := Lib.hid (HB9.out.trans (fr_below fa HB9.out.size (fun j hj e => by have := HB7.out.size; omega))); have HFa := Lib.hid fa; clear ia fa)
    | (go_at_call 70; refine (HGO.out _ _ HIa.out).mono ?_; rintro e wb ⟨rfl, ib, fb⟩; have HIb := Lib.hid ib; have HBb := Lib.hid (HBa.out.trans (fr_below fb HBa.out.size (fun j hj e => by have := HB7.out.size; omega))); clear ib fb)
    | (go_at_call 41; refine (HDO.out _ _ (Nat.le_trans HB7.out.size (Nat.le_succ _)) (HST.out.below HBb.out) HBb.out HIb.out).mono ?_; rintro e wc ⟨rfl, sc, fc⟩; have HSc := Lib.hid sc; have HFc := Lib.hid fc; clear sc fc))
  go_end0
  exact ⟨rfl, HSc.out, (Fr.of_below HBb.out : Fr (fun k => k ∈ ps) w _).then_ HFc.out (fun j hj e => e.resolve_left (by have := HB7.out.size; omega))⟩
set_option maxRecDepth 100000 in
set_option maxHeartbeats 4000000 in
theorem ic_yes_s_se (h : StAt w base p A cap ps os) (hc : Cp w MD S KX G I mt pt kt gt it md p x m i) (hg : goB md = true) (hgv : goV md = .func (.func 71) #[] #[]) (hmh : ∀ W, Below w.heap.size w W → Calls Tryd.prog 37 #[pv p, x.val] W fun e w' => e = .returned (.tuple #[]) ∧ Below W.heap.size W w') (m' : Mg) (hpr : ∀ W, Below w.heap.size w W → Calls Tryd.prog 38 #[pv p, m.val] W fun e w' => e = .returned m'.val ∧ Below W.heap.size W w') (u : Oj) (hru : ∀ W, Below w.heap.size w W → Calls Tryd.prog 39 #[pv p, .int .i64 i] W fun e w' => e = .returned (jv (some ⟨p, 0, none⟩) i u) ∧ Below W.heap.size W w') (v : Oj) (hct : ∀ W, Below w.heap.size w W → Calls Tryd.prog 40 #[pv p, x.val] W fun e w' => e = .returned (.tuple #[jv (some ⟨p, 0, none⟩) x.o v, .func (.func 90) #[] #[]]) ∧ Below W.heap.size W w') (v' : Oj) (hco : ∀ W g, IvB W g m' md (some ⟨p, 0, none⟩) i u x.o v zk → Calls Tryd.prog 90 #[.pointer (some ⟨g, 0, none⟩)] W fun e w' => e = .returned (.tuple #[]) ∧ IvB w' g m' md (some ⟨p, 0, none⟩) i u x.o v' zk ∧ Fr (fun k => k = g) W w') (u' : Oj) (k' : Ky) (hgo : ∀ W g, IvB W g m' md (some ⟨p, 0, none⟩) i u x.o v' zk → Calls Tryd.prog 71 #[.pointer (some ⟨g, 0, none⟩)] W fun e w' => e = .returned (.tuple #[]) ∧ IvB w' g m' md (some ⟨p, 0, none⟩) i u' x.o v' k' ∧ Fr (fun k => k = g) W w') (L : List Oj) (hdo : ∀ W g, w.heap.size ≤ g → StAt W base p A cap ps os → Below w.heap.size w W → IvB W g m' md (some ⟨p, 0, none⟩) i u' x.o v' k' → Calls Tryd.prog 41 #[.pointer (some ⟨g, 0, none⟩)] W fun e w' => e = .returned (.tuple #[]) ∧ StAt w' base p A cap ps L ∧ Fr (fun k => k = g ∨ k ∈ ps) W w') : Calls Tryd.prog 35 #[.pointer (some ⟨MD, 0, none⟩), .pointer (some ⟨S, 0, none⟩), .pointer (some ⟨KX, 0, none⟩), .pointer (some ⟨G, 0, none⟩), .pointer (some ⟨I, 0, none⟩)] w fun e w' => e = .returned (.tuple #[]) ∧ StAt w' base p A cap ps L ∧ Fr (fun k => k ∈ ps) w w' := by
  have hz := zM
  have hz2 := zJ
  have hzl := mz.len
  have hzj := jc_len none 0 oz
  have hml := m'.len
  have hul := jc_len (some ⟨p, 0, none⟩) i u
  have hvl := jc_len (some ⟨p, 0, none⟩) x.o v
  have hil := ivc_len m' md (some ⟨p, 0, none⟩) i u x.o v zk
  have HGB := Lib.hid hg
  have HC0 := Lib.hid hc
  have HB0 := Lib.hid (Below.refl w.heap.size w)
  have HH1 := Lib.hid hmh
  have HH2 := Lib.hid hpr
  have HH3 := Lib.hid hru
  have HH4 := Lib.hid hct
  have HST := Lib.hid h
  have HCO := Lib.hid hco
  have HGO := Lib.hid hgo
  have HGV := Lib.hid hgv
  have HDO := Lib.hid hdo
  clear h hco hgo hgv hdo
  clear hg hc hmh hpr hru hct
  go_enter Tryd.func35, Tryd.ntmps35
  go_wp2_with fail
  refine wp_region_only (S := fun w' => w'.cell? ⟨MD, 0, none⟩ = some (.int .i64 md)) (by kernel_rfl) (HC0.out.drew.cm.cell 0) (fun hHeld => ?_)
  refine wpAnyH_take (i := 1) (v := ?v49) rfl (by kernel_rfl) (by kernel_rfl) (by kernel_rfl) (fun _ _ _ h => h) (Or.inl ⟨by rfl, ?hy49⟩) hHeld ?rest49
  case hy49 =>
    intro w' hSw
    try dsimp only at hSw
    go_simp
    first | done | with_reducible rfl
  try simp only [Act.put, zq1, zq2, zq3, zq4, zq5, zq6]
  refine wpAnyH_ready (rs := [0]) (by kernel_rfl) (by simp) ?_
  refine AllReadyH.cons (by rfl) (fun K hK => ?_) AllReadyH.nil
  go_simp
  refine (gmmap_any _).mono ?_
  rintro e w1 ⟨rfl, hw1⟩
  have HMP := Lib.hid (show w1.heap[w.heap.size]? = some (.map gmE3 3) by subst hw1; exact heap_alloc_new _ _)
  have HB1 := Lib.hid (show Below w.heap.size w w1 by subst hw1; exact (below_drew HB0.out).alloc (below_drew HB0.out).size _)
  have HC1 := Lib.hid (show Cp w1 MD S KX G I mt pt kt gt it md p x m i by subst hw1; exact HC0.out.drew.alloc _)
  clear hw1 hHeld HB0 HC0
  go_wp2_with fail
  refine hK.out _ _ (HC1.out.cm.cell 0) (fun hHeld => ?_)
  clear hK K
  try simp only [Act.put, zq1, zq3, zq4, zq5, zq6]
  refine wpAnyH_ready (rs := [2]) (by kernel_rfl) (by simp) ?_
  refine AllReadyH.cons (by rfl) (fun K hK => ?_) AllReadyH.nil
  have hlk2 := go_look w1 _ md HMP.out
  rw [HGV.out, HGB.out] at hlk2
  go_simp
  refine hK.out _ _ (HC1.out.cm.cell 0) (fun hHeld => ?_)
  clear hK K
  try simp only [Act.put, zq1, zq2, zq3, zq4, zq5, zq6]
  refine wpAnyH_take (i := 3) (v := ?v50) rfl (by kernel_rfl) (by kernel_rfl) (by kernel_rfl) (fun _ _ _ h => h) (Or.inl ⟨by rfl, ?hy50⟩) hHeld ?rest50
  case hy50 =>
    intro w' hSw
    try dsimp only at hSw
    go_simp
    first | done | with_reducible rfl
  try simp only [Act.put, zq1, zq2, zq3, zq4, zq5, zq6]
  refine wpAnyH_take (i := 4) (v := ?v51) rfl (by kernel_rfl) (by kernel_rfl) (by kernel_rfl) (fun _ _ _ h => h) (Or.inl ⟨by rfl, ?hy51⟩) hHeld ?rest51
  case hy51 =>
    intro w' hSw
    try dsimp only at hSw
    go_simp
    first | done | with_reducible rfl
  try simp only [Act.put, zq1, zq2, zq3, zq4, zq5, zq6]
  refine wpAnyH_take (i := 5) (v := ?v52) rfl (by kernel_rfl) (by kernel_rfl) (by kernel_rfl) (fun _ _ _ h => h) (Or.inl ⟨by rfl, ?hy52⟩) hHeld ?rest52
  case hy52 =>
    intro w' hSw
    try dsimp only at hSw
    go_simp
    first | done | with_reducible rfl
  try simp only [Act.put, zq1, zq2, zq3, zq4, zq5, zq6]
  refine wpAnyH_take (i := 6) (v := ?v53) rfl (by kernel_rfl) (by kernel_rfl) (by kernel_rfl) (fun _ _ _ h => h) (Or.inl ⟨by rfl, ?hy53⟩) hHeld ?rest53
  case hy53 =>
    intro w' hSw
    try dsimp only at hSw
    go_simp
    first | done | with_reducible rfl
  try simp only [Act.put, zq1, zq2, zq3, zq4, zq5, zq6]
  refine wpAnyH_take (i := 7) (v := ?v54) rfl (by kernel_rfl) (by kernel_rfl) (by kernel_rfl) (fun _ _ _ h => h) (Or.inl ⟨by rfl, ?hy54⟩) hHeld ?rest54
  case hy54 =>
    intro w' hSw
    try dsimp only at hSw
    go_simp
    first | done | with_reducible rfl
  try simp only [Act.put, zq1, zq2, zq3, zq4, zq5, zq6]
  refine wpAnyH_done (by kernel_rfl) ?_ _
  refine OnlyN.normal ?_
  clear hHeld
  have hs1 := HC1.out.cs.one
  go_wp2_with (first
    | (show wpList _ _ _ (Oper.mk (some 22) (.load _ _) _ _ _ _ :: _) _ _; refine wpList_yields (S := fun w' => KeyAt w' KX 0 x) (y_kyJ (by rfl) (.tmp 2) (by rfl) KX 0 (by rfl) x (fun _ h => h)) HC1.out.ck.kat ?_)
    | (go_at_call 37; refine (HH1.out _ HB1.out).mono ?_; rintro e w2 ⟨rfl, b2⟩; have HB2 := Lib.hid (HB1.out.trans (b2.mono HB1.out.size)); have HC2 := Lib.hid (HC1.out.keep b2); clear b2; have hs1 := HC2.out.cs.one)
    | (show wpList _ _ _ (Oper.mk (some 25) (.load _ _) _ _ _ _ :: _) _ _; refine wpList_yields (S := fun w' => MgAt w' G 0 m) (y_mg (by rfl) (.tmp 3) (by rfl) G 0 (by rfl) m (fun _ h => h)) HC2.out.cg.mg ?_)
    | (go_at_call 38; refine (HH2.out _ HB2.out).mono ?_; rintro e w3 ⟨rfl, b3⟩; have HB3 := Lib.hid (HB2.out.trans (b3.mono HB2.out.size)); have HC3 := Lib.hid (HC2.out.keep b3); have HB4 := Lib.hid (HB3.out.alloc HB3.out.size (.cells m'.cells.toArray 38)); have HC4 := Lib.hid (HC3.out.alloc (.cells m'.cells.toArray 38)); have HM4 := Lib.hid (Blk.new w3 38 m'.cells.toArray); clear b3 hs1; have hs1 := HC4.out.cs.one; have hi1 := HC4.out.ci.one)
    | (show wpList _ _ _ (Oper.mk none (.store _ (.tmp 7) (.tmp 26)) _ _ _ _ :: _) _ _; refine wpList_store_new (l := m'.cells) (l0 := mz.cells) (ty := 38) rfl (.tmp 7) (.tmp 26) (by rfl) w3.heap.size rfl (by rfl) (by rfl) (by rw [Mg.len]; exact sizeM) (by rw [Mg.len, Mg.len]) (Mg.one _) ?_)
    | (go_at_call 39; refine (HH3.out _ HB4.out).mono ?_; rintro e w5 ⟨rfl, b5⟩; have HB5 := Lib.hid (HB4.out.trans (b5.mono HB4.out.size)); have HC5 := Lib.hid (HC4.out.keep b5); have HB6 := Lib.hid (HB5.out.alloc HB5.out.size (.cells (jc (some ⟨p, 0, none⟩) i u).toArray 93)); have HC6 := Lib.hid (HC5.out.alloc (.cells (jc (some ⟨p, 0, none⟩) i u).toArray 93)); have HM6 := Lib.hid ((HM4.out.keep b5).alloc (.cells (jc (some ⟨p, 0, none⟩) i u).toArray 93)); have HU6 := Lib.hid (Blk.new w5 93 (jc (some ⟨p, 0, none⟩) i u).toArray); clear b5 hs1 hi1; have hs1 := HC6.out.cs.one)
    | (show wpList _ _ _ (Oper.mk none (.store _ (.tmp 8) (.tmp 29)) _ _ _ _ :: _) _ _; refine wpList_store_new (l := jc (some ⟨p, 0, none⟩) i u) (l0 := jc none 0 oz) (ty := 93) rfl (.tmp 8) (.tmp 29) (by rfl) w5.heap.size rfl (by rfl) (by rfl) (by rw [jc_len]; exact sizeJ) (by rw [jc_len, jc_len]) (jc_one _ _ _) ?_)
    | (show wpList _ _ _ (Oper.mk (some 32) (.load _ _) _ _ _ _ :: _) _ _; refine wpList_yields (S := fun w' => KeyAt w' KX 0 x) (y_kyJ (by rfl) (.tmp 2) (by rfl) KX 0 (by rfl) x (fun _ h => h)) HC6.out.ck.kat ?_)
    | (go_at_call 40; refine (HH4.out _ HB6.out).mono ?_; rintro e w7 ⟨rfl, b7⟩; have HB7 := Lib.hid (HB6.out.trans (b7.mono HB6.out.size)); have HC7 := Lib.hid (HC6.out.keep b7); have HB8 := Lib.hid (HB7.out.alloc HB7.out.size (.cells (jc (some ⟨p, 0, none⟩) x.o v).toArray 93)); have HC8 := Lib.hid (HC7.out.alloc (.cells (jc (some ⟨p, 0, none⟩) x.o v).toArray 93)); have HM8 := Lib.hid ((HM6.out.keep b7).alloc (.cells (jc (some ⟨p, 0, none⟩) x.o v).toArray 93)); have HU8 := Lib.hid ((HU6.out.keep b7).alloc (.cells (jc (some ⟨p, 0, none⟩) x.o v).toArray 93)); have HV8 := Lib.hid (Blk.new w7 93 (jc (some ⟨p, 0, none⟩) x.o v).toArray); clear b7 hs1; have hm1 := HC8.out.cm.one)
    | (show wpList _ _ _ (Oper.mk none (.store _ (.tmp 9) (.tmp 34)) _ _ _ _ :: _) _ _; refine wpList_store_new (l := jc (some ⟨p, 0, none⟩) x.o v) (l0 := jc none 0 oz) (ty := 93) rfl (.tmp 9) (.tmp 34) (by rfl) w7.heap.size rfl (by rfl) (by rfl) (by rw [jc_len]; exact sizeJ) (by rw [jc_len, jc_len]) (jc_one _ _ _) ?_)
    | (show wpList _ _ _ (Oper.mk (some 36) (.load _ _) _ _ _ _ :: _) _ _; refine wpList_yields (S := fun w' => MgAt w' w3.heap.size 0 m') (y_mg (by rfl) (.tmp 7) (by rfl) w3.heap.size 0 (by rfl) m' (fun _ h => h)) HM8.out.mg ?_)
    | (show wpList _ _ _ (Oper.mk (some 38) (.load _ _) _ _ _ _ :: _) _ _; refine wpList_yields (S := fun w' => JAt w' w5.heap.size 0 (some ⟨p, 0, none⟩) i u) (y_nd (by rfl) (.tmp 8) (by rfl) w5.heap.size 0 (by rfl) (some ⟨p, 0, none⟩) i u (fun _ h => h)) HU8.out.jx ?_)
    | (show wpList _ _ _ (Oper.mk (some 39) (.load _ _) _ _ _ _ :: _) _ _; refine wpList_yields (S := fun w' => JAt w' w7.heap.size 0 (some ⟨p, 0, none⟩) x.o v) (y_nd (by rfl) (.tmp 9) (by rfl) w7.heap.size 0 (by rfl) (some ⟨p, 0, none⟩) x.o v (fun _ h => h)) HV8.out.jx ?_)
    | (show wpList _ _ _ (Oper.mk (some 40) (.build _ _) _ _ _ _ :: _) _ _; refine wpList_yields (S := fun _ => True) (y_bl4 (by rfl) (.tmp 36) (.tmp 37) (.tmp 38) (.tmp 39) (by rfl) (by rfl) (by rfl) (by rfl) (by rfl) (builtI m' md (some ⟨p, 0, none⟩) i u x.o v)) trivial ?_; have hil := ivc_len m' md (some ⟨p, 0, none⟩) i u x.o v zk)
    | (go_at_call 90; have HB9 := Lib.hid (HB8.out.alloc HB8.out.size (.cells (ivc m' md (some ⟨p, 0, none⟩) i u x.o v zk).toArray 99)); have HI9 := Lib.hid (show IvB ((w7.alloc (.cells (jc (some ⟨p, 0, none⟩) x.o v).toArray 93)).alloc (.cells (ivc m' md (some ⟨p, 0, none⟩) i u x.o v zk).toArray 99)) (w7.heap.size + 1) m' md (some ⟨p, 0, none⟩) i u x.o v zk from Blk.new_of (w7.alloc (.cells (jc (some ⟨p, 0, none⟩) x.o v).toArray 93)) 99 _ (by simp)); refine (HCO.out _ _ HI9.out).mono ?_; rintro e wa ⟨rfl, ia, fa⟩; have HIa := Lib.hid ia; have HBa := Lib.hid (HB9.out.trans (fr_below fa HB9.out.size (fun j hj e => by have := HB7.out.size; omega))); have HFa := Lib.hid fa; clear ia fa)
    | (go_at_call 71; refine (HGO.out _ _ HIa.out).mono ?_; rintro e wb ⟨rfl, ib, fb⟩; have HIb := Lib.hid ib; have HBb := Lib.hid (HBa.out.trans (fr_below fb HBa.out.size (fun j hj e => by have := HB7.out.size; omega))); clear ib fb)
    | (go_at_call 41; refine (HDO.out _ _ (Nat.le_trans HB7.out.size (Nat.le_succ _)) (HST.out.below HBb.out) HBb.out HIb.out).mono ?_; rintro e wc ⟨rfl, sc, fc⟩; have HSc := Lib.hid sc; have HFc := Lib.hid fc; clear sc fc))
  go_end0
  exact ⟨rfl, HSc.out, (Fr.of_below HBb.out : Fr (fun k => k ∈ ps) w _).then_ HFc.out (fun j hj e => e.resolve_left (by have := HB7.out.size; omega))⟩
set_option maxRecDepth 100000 in
set_option maxHeartbeats 4000000 in
theorem ic_yes_s_le (h : StAt w base p A cap ps os) (hc : Cp w MD S KX G I mt pt kt gt it md p x m i) (hg : goB md = true) (hgv : goV md = .func (.func 72) #[] #[]) (hmh : ∀ W, Below w.heap.size w W → Calls Tryd.prog 37 #[pv p, x.val] W fun e w' => e = .returned (.tuple #[]) ∧ Below W.heap.size W w') (m' : Mg) (hpr : ∀ W, Below w.heap.size w W → Calls Tryd.prog 38 #[pv p, m.val] W fun e w' => e = .returned m'.val ∧ Below W.heap.size W w') (u : Oj) (hru : ∀ W, Below w.heap.size w W → Calls Tryd.prog 39 #[pv p, .int .i64 i] W fun e w' => e = .returned (jv (some ⟨p, 0, none⟩) i u) ∧ Below W.heap.size W w') (v : Oj) (hct : ∀ W, Below w.heap.size w W → Calls Tryd.prog 40 #[pv p, x.val] W fun e w' => e = .returned (.tuple #[jv (some ⟨p, 0, none⟩) x.o v, .func (.func 90) #[] #[]]) ∧ Below W.heap.size W w') (v' : Oj) (hco : ∀ W g, IvB W g m' md (some ⟨p, 0, none⟩) i u x.o v zk → Calls Tryd.prog 90 #[.pointer (some ⟨g, 0, none⟩)] W fun e w' => e = .returned (.tuple #[]) ∧ IvB w' g m' md (some ⟨p, 0, none⟩) i u x.o v' zk ∧ Fr (fun k => k = g) W w') (u' : Oj) (k' : Ky) (hgo : ∀ W g, IvB W g m' md (some ⟨p, 0, none⟩) i u x.o v' zk → Calls Tryd.prog 72 #[.pointer (some ⟨g, 0, none⟩)] W fun e w' => e = .returned (.tuple #[]) ∧ IvB w' g m' md (some ⟨p, 0, none⟩) i u' x.o v' k' ∧ Fr (fun k => k = g) W w') (L : List Oj) (hdo : ∀ W g, w.heap.size ≤ g → StAt W base p A cap ps os → Below w.heap.size w W → IvB W g m' md (some ⟨p, 0, none⟩) i u' x.o v' k' → Calls Tryd.prog 41 #[.pointer (some ⟨g, 0, none⟩)] W fun e w' => e = .returned (.tuple #[]) ∧ StAt w' base p A cap ps L ∧ Fr (fun k => k = g ∨ k ∈ ps) W w') : Calls Tryd.prog 35 #[.pointer (some ⟨MD, 0, none⟩), .pointer (some ⟨S, 0, none⟩), .pointer (some ⟨KX, 0, none⟩), .pointer (some ⟨G, 0, none⟩), .pointer (some ⟨I, 0, none⟩)] w fun e w' => e = .returned (.tuple #[]) ∧ StAt w' base p A cap ps L ∧ Fr (fun k => k ∈ ps) w w' := by
  have hz := zM
  have hz2 := zJ
  have hzl := mz.len
  have hzj := jc_len none 0 oz
  have hml := m'.len
  have hul := jc_len (some ⟨p, 0, none⟩) i u
  have hvl := jc_len (some ⟨p, 0, none⟩) x.o v
  have hil := ivc_len m' md (some ⟨p, 0, none⟩) i u x.o v zk
  have HGB := Lib.hid hg
  have HC0 := Lib.hid hc
  have HB0 := Lib.hid (Below.refl w.heap.size w)
  have HH1 := Lib.hid hmh
  have HH2 := Lib.hid hpr
  have HH3 := Lib.hid hru
  have HH4 := Lib.hid hct
  have HST := Lib.hid h
  have HCO := Lib.hid hco
  have HGO := Lib.hid hgo
  have HGV := Lib.hid hgv
  have HDO := Lib.hid hdo
  clear h hco hgo hgv hdo
  clear hg hc hmh hpr hru hct
  go_enter Tryd.func35, Tryd.ntmps35
  go_wp2_with fail
  refine wp_region_only (S := fun w' => w'.cell? ⟨MD, 0, none⟩ = some (.int .i64 md)) (by kernel_rfl) (HC0.out.drew.cm.cell 0) (fun hHeld => ?_)
  refine wpAnyH_take (i := 1) (v := ?v55) rfl (by kernel_rfl) (by kernel_rfl) (by kernel_rfl) (fun _ _ _ h => h) (Or.inl ⟨by rfl, ?hy55⟩) hHeld ?rest55
  case hy55 =>
    intro w' hSw
    try dsimp only at hSw
    go_simp
    first | done | with_reducible rfl
  try simp only [Act.put, zq1, zq2, zq3, zq4, zq5, zq6]
  refine wpAnyH_ready (rs := [0]) (by kernel_rfl) (by simp) ?_
  refine AllReadyH.cons (by rfl) (fun K hK => ?_) AllReadyH.nil
  go_simp
  refine (gmmap_any _).mono ?_
  rintro e w1 ⟨rfl, hw1⟩
  have HMP := Lib.hid (show w1.heap[w.heap.size]? = some (.map gmE3 3) by subst hw1; exact heap_alloc_new _ _)
  have HB1 := Lib.hid (show Below w.heap.size w w1 by subst hw1; exact (below_drew HB0.out).alloc (below_drew HB0.out).size _)
  have HC1 := Lib.hid (show Cp w1 MD S KX G I mt pt kt gt it md p x m i by subst hw1; exact HC0.out.drew.alloc _)
  clear hw1 hHeld HB0 HC0
  go_wp2_with fail
  refine hK.out _ _ (HC1.out.cm.cell 0) (fun hHeld => ?_)
  clear hK K
  try simp only [Act.put, zq1, zq3, zq4, zq5, zq6]
  refine wpAnyH_ready (rs := [2]) (by kernel_rfl) (by simp) ?_
  refine AllReadyH.cons (by rfl) (fun K hK => ?_) AllReadyH.nil
  have hlk2 := go_look w1 _ md HMP.out
  rw [HGV.out, HGB.out] at hlk2
  go_simp
  refine hK.out _ _ (HC1.out.cm.cell 0) (fun hHeld => ?_)
  clear hK K
  try simp only [Act.put, zq1, zq2, zq3, zq4, zq5, zq6]
  refine wpAnyH_take (i := 3) (v := ?v56) rfl (by kernel_rfl) (by kernel_rfl) (by kernel_rfl) (fun _ _ _ h => h) (Or.inl ⟨by rfl, ?hy56⟩) hHeld ?rest56
  case hy56 =>
    intro w' hSw
    try dsimp only at hSw
    go_simp
    first | done | with_reducible rfl
  try simp only [Act.put, zq1, zq2, zq3, zq4, zq5, zq6]
  refine wpAnyH_take (i := 4) (v := ?v57) rfl (by kernel_rfl) (by kernel_rfl) (by kernel_rfl) (fun _ _ _ h => h) (Or.inl ⟨by rfl, ?hy57⟩) hHeld ?rest57
  case hy57 =>
    intro w' hSw
    try dsimp only at hSw
    go_simp
    first | done | with_reducible rfl
  try simp only [Act.put, zq1, zq2, zq3, zq4, zq5, zq6]
  refine wpAnyH_take (i := 5) (v := ?v58) rfl (by kernel_rfl) (by kernel_rfl) (by kernel_rfl) (fun _ _ _ h => h) (Or.inl ⟨by rfl, ?hy58⟩) hHeld ?rest58
  case hy58 =>
    intro w' hSw
    try dsimp only at hSw
    go_simp
    first | done | with_reducible rfl
  try simp only [Act.put, zq1, zq2, zq3, zq4, zq5, zq6]
  refine wpAnyH_take (i := 6) (v := ?v59) rfl (by kernel_rfl) (by kernel_rfl) (by kernel_rfl) (fun _ _ _ h => h) (Or.inl ⟨by rfl, ?hy59⟩) hHeld ?rest59
  case hy59 =>
    intro w' hSw
    try dsimp only at hSw
    go_simp
    first | done | with_reducible rfl
  try simp only [Act.put, zq1, zq2, zq3, zq4, zq5, zq6]
  refine wpAnyH_take (i := 7) (v := ?v60) rfl (by kernel_rfl) (by kernel_rfl) (by kernel_rfl) (fun _ _ _ h => h) (Or.inl ⟨by rfl, ?hy60⟩) hHeld ?rest60
  case hy60 =>
    intro w' hSw
    try dsimp only at hSw
    go_simp
    first | done | with_reducible rfl
  try simp only [Act.put, zq1, zq2, zq3, zq4, zq5, zq6]
  refine wpAnyH_done (by kernel_rfl) ?_ _
  refine OnlyN.normal ?_
  clear hHeld
  have hs1 := HC1.out.cs.one
  go_wp2_with (first
    | (show wpList _ _ _ (Oper.mk (some 22) (.load _ _) _ _ _ _ :: _) _ _; refine wpList_yields (S := fun w' => KeyAt w' KX 0 x) (y_kyJ (by rfl) (.tmp 2) (by rfl) KX 0 (by rfl) x (fun _ h => h)) HC1.out.ck.kat ?_)
    | (go_at_call 37; refine (HH1.out _ HB1.out).mono ?_; rintro e w2 ⟨rfl, b2⟩; have HB2 := Lib.hid (HB1.out.trans (b2.mono HB1.out.size)); have HC2 := Lib.hid (HC1.out.keep b2); clear b2; have hs1 := HC2.out.cs.one)
    | (show wpList _ _ _ (Oper.mk (some 25) (.load _ _) _ _ _ _ :: _) _ _; refine wpList_yields (S := fun w' => MgAt w' G 0 m) (y_mg (by rfl) (.tmp 3) (by rfl) G 0 (by rfl) m (fun _ h => h)) HC2.out.cg.mg ?_)
    | (go_at_call 38; refine (HH2.out _ HB2.out).mono ?_; rintro e w3 ⟨rfl, b3⟩; have HB3 := Lib.hid (HB2.out.trans (b3.mono HB2.out.size)); have HC3 := Lib.hid (HC2.out.keep b3); have HB4 := Lib.hid (HB3.out.alloc HB3.out.size (.cells m'.cells.toArray 38)); have HC4 := Lib.hid (HC3.out.alloc (.cells m'.cells.toArray 38)); have HM4 := Lib.hid (Blk.new w3 38 m'.cells.toArray); clear b3 hs1; have hs1 := HC4.out.cs.one; have hi1 := HC4.out.ci.one)
    | (show wpList _ _ _ (Oper.mk none (.store _ (.tmp 7) (.tmp 26)) _ _ _ _ :: _) _ _; refine wpList_store_new (l := m'.cells) (l0 := mz.cells) (ty := 38) rfl (.tmp 7) (.tmp 26) (by rfl) w3.heap.size rfl (by rfl) (by rfl) (by rw [Mg.len]; exact sizeM) (by rw [Mg.len, Mg.len]) (Mg.one _) ?_)
    | (go_at_call 39; refine (HH3.out _ HB4.out).mono ?_; rintro e w5 ⟨rfl, b5⟩; have HB5 := Lib.hid (HB4.out.trans (b5.mono HB4.out.size)); have HC5 := Lib.hid (HC4.out.keep b5); have HB6 := Lib.hid (HB5.out.alloc HB5.out.size (.cells (jc (some ⟨p, 0, none⟩) i u).toArray 93)); have HC6 := Lib.hid (HC5.out.alloc (.cells (jc (some ⟨p, 0, none⟩) i u).toArray 93)); have HM6 := Lib.hid ((HM4.out.keep b5).alloc (.cells (jc (some ⟨p, 0, none⟩) i u).toArray 93)); have HU6 := Lib.hid (Blk.new w5 93 (jc (some ⟨p, 0, none⟩) i u).toArray); clear b5 hs1 hi1; have hs1 := HC6.out.cs.one)
    | (show wpList _ _ _ (Oper.mk none (.store _ (.tmp 8) (.tmp 29)) _ _ _ _ :: _) _ _; refine wpList_store_new (l := jc (some ⟨p, 0, none⟩) i u) (l0 := jc none 0 oz) (ty := 93) rfl (.tmp 8) (.tmp 29) (by rfl) w5.heap.size rfl (by rfl) (by rfl) (by rw [jc_len]; exact sizeJ) (by rw [jc_len, jc_len]) (jc_one _ _ _) ?_)
    | (show wpList _ _ _ (Oper.mk (some 32) (.load _ _) _ _ _ _ :: _) _ _; refine wpList_yields (S := fun w' => KeyAt w' KX 0 x) (y_kyJ (by rfl) (.tmp 2) (by rfl) KX 0 (by rfl) x (fun _ h => h)) HC6.out.ck.kat ?_)
    | (go_at_call 40; refine (HH4.out _ HB6.out).mono ?_; rintro e w7 ⟨rfl, b7⟩; have HB7 := Lib.hid (HB6.out.trans (b7.mono HB6.out.size)); have HC7 := Lib.hid (HC6.out.keep b7); have HB8 := Lib.hid (HB7.out.alloc HB7.out.size (.cells (jc (some ⟨p, 0, none⟩) x.o v).toArray 93)); have HC8 := Lib.hid (HC7.out.alloc (.cells (jc (some ⟨p, 0, none⟩) x.o v).toArray 93)); have HM8 := Lib.hid ((HM6.out.keep b7).alloc (.cells (jc (some ⟨p, 0, none⟩) x.o v).toArray 93)); have HU8 := Lib.hid ((HU6.out.keep b7).alloc (.cells (jc (some ⟨p, 0, none⟩) x.o v).toArray 93)); have HV8 := Lib.hid (Blk.new w7 93 (jc (some ⟨p, 0, none⟩) x.o v).toArray); clear b7 hs1; have hm1 := HC8.out.cm.one)
    | (show wpList _ _ _ (Oper.mk none (.store _ (.tmp 9) (.tmp 34)) _ _ _ _ :: _) _ _; refine wpList_store_new (l := jc (some ⟨p, 0, none⟩) x.o v) (l0 := jc none 0 oz) (ty := 93) rfl (.tmp 9) (.tmp 34) (by rfl) w7.heap.size rfl (by rfl) (by rfl) (by rw [jc_len]; exact sizeJ) (by rw [jc_len, jc_len]) (jc_one _ _ _) ?_)
    | (show wpList _ _ _ (Oper.mk (some 36) (.load _ _) _ _ _ _ :: _) _ _; refine wpList_yields (S := fun w' => MgAt w' w3.heap.size 0 m') (y_mg (by rfl) (.tmp 7) (by rfl) w3.heap.size 0 (by rfl) m' (fun _ h => h)) HM8.out.mg ?_)
    | (show wpList _ _ _ (Oper.mk (some 38) (.load _ _) _ _ _ _ :: _) _ _; refine wpList_yields (S := fun w' => JAt w' w5.heap.size 0 (some ⟨p, 0, none⟩) i u) (y_nd (by rfl) (.tmp 8) (by rfl) w5.heap.size 0 (by rfl) (some ⟨p, 0, none⟩) i u (fun _ h => h)) HU8.out.jx ?_)
    | (show wpList _ _ _ (Oper.mk (some 39) (.load _ _) _ _ _ _ :: _) _ _; refine wpList_yields (S := fun w' => JAt w' w7.heap.size 0 (some ⟨p, 0, none⟩) x.o v) (y_nd (by rfl) (.tmp 9) (by rfl) w7.heap.size 0 (by rfl) (some ⟨p, 0, none⟩) x.o v (fun _ h => h)) HV8.out.jx ?_)
    | (show wpList _ _ _ (Oper.mk (some 40) (.build _ _) _ _ _ _ :: _) _ _; refine wpList_yields (S := fun _ => True) (y_bl4 (by rfl) (.tmp 36) (.tmp 37) (.tmp 38) (.tmp 39) (by rfl) (by rfl) (by rfl) (by rfl) (by rfl) (builtI m' md (some ⟨p, 0, none⟩) i u x.o v)) trivial ?_; have hil := ivc_len m' md (some ⟨p, 0, none⟩) i u x.o v zk)
    | (go_at_call 90; have HB9 := Lib.hid (HB8.out.alloc HB8.out.size (.cells (ivc m' md (some ⟨p, 0, none⟩) i u x.o v zk).toArray 99)); have HI9 := Lib.hid (show IvB ((w7.alloc (.cells (jc (some ⟨p, 0, none⟩) x.o v).toArray 93)).alloc (.cells (ivc m' md (some ⟨p, 0, none⟩) i u x.o v zk).toArray 99)) (w7.heap.size + 1) m' md (some ⟨p, 0, none⟩) i u x.o v zk from Blk.new_of (w7.alloc (.cells (jc (some ⟨p, 0, none⟩) x.o v).toArray 93)) 99 _ (by simp)); refine (HCO.out _ _ HI9.out).mono ?_; rintro e wa ⟨rfl, ia, fa⟩; have HIa := Lib.hid ia; have HBa := Lib.hid (HB9.out.trans (fr_below fa HB9.out.size (fun j hj e => by have := HB7.out.size; omega))); have HFa := Lib.hid fa; clear ia fa)
    | (go_at_call 72; refine (HGO.out _ _ HIa.out).mono ?_; rintro e wb ⟨rfl, ib, fb⟩; have HIb := Lib.hid ib; have HBb := Lib.hid (HBa.out.trans (fr_below fb HBa.out.size (fun j hj e => by have := HB7.out.size; omega))); clear ib fb)
    | (go_at_call 41; refine (HDO.out _ _ (Nat.le_trans HB7.out.size (Nat.le_succ _)) (HST.out.below HBb.out) HBb.out HIb.out).mono ?_; rintro e wc ⟨rfl, sc, fc⟩; have HSc := Lib.hid sc; have HFc := Lib.hid fc; clear sc fc))
  go_end0
  exact ⟨rfl, HSc.out, (Fr.of_below HBb.out : Fr (fun k => k ∈ ps) w _).then_ HFc.out (fun j hj e => e.resolve_left (by have := HB7.out.size; omega))⟩
set_option maxRecDepth 100000 in
set_option maxHeartbeats 4000000 in
theorem ic_com_r_no (hc : Cp w MD S KX G I mt pt kt gt it md p x m i) (hg : goB md = true) (n : Int) (hmh : ∀ W, Below w.heap.size w W → Calls Tryd.prog 37 #[pv p, x.val] W fun e w' => e = .returned (.tuple #[]) ∧ Below W.heap.size W w') (m' : Mg) (hpr : ∀ W, Below w.heap.size w W → Calls Tryd.prog 38 #[pv p, m.val] W fun e w' => e = .returned m'.val ∧ Below W.heap.size W w') (u : Oj) (hru : ∀ W, Below w.heap.size w W → Calls Tryd.prog 39 #[pv p, .int .i64 i] W fun e w' => e = .returned (jv (some ⟨p, 0, none⟩) i u) ∧ Below W.heap.size W w') (v : Oj) (hct : ∀ W, Below w.heap.size w W → Calls Tryd.prog 40 #[pv p, x.val] W fun e w' => e = .returned (.tuple #[jv (some ⟨p, 0, none⟩) x.o v, .func (.func 91) #[] #[]]) ∧ Below W.heap.size W w') (hco : ∀ W g, IvB W g m' md (some ⟨p, 0, none⟩) i u x.o v zk → Calls Tryd.prog 91 #[.pointer (some ⟨g, 0, none⟩)] W fun e w' => e = .panicked (erc n) ∧ Below W.heap.size W w') : Calls Tryd.prog 35 #[.pointer (some ⟨MD, 0, none⟩), .pointer (some ⟨S, 0, none⟩), .pointer (some ⟨KX, 0, none⟩), .pointer (some ⟨G, 0, none⟩), .pointer (some ⟨I, 0, none⟩)] w fun e w' => e = .panicked (erc n) ∧ Below w.heap.size w w' := by
  have hz := zM
  have hz2 := zJ
  have hzl := mz.len
  have hzj := jc_len none 0 oz
  have hml := m'.len
  have hul := jc_len (some ⟨p, 0, none⟩) i u
  have hvl := jc_len (some ⟨p, 0, none⟩) x.o v
  have hil := ivc_len m' md (some ⟨p, 0, none⟩) i u x.o v zk
  have HGB := Lib.hid hg
  have HC0 := Lib.hid hc
  have HB0 := Lib.hid (Below.refl w.heap.size w)
  have HH1 := Lib.hid hmh
  have HH2 := Lib.hid hpr
  have HH3 := Lib.hid hru
  have HH4 := Lib.hid hct
  have HCO := Lib.hid hco
  clear hco
  clear hg hc hmh hpr hru hct
  go_enter Tryd.func35, Tryd.ntmps35
  go_wp2_with fail
  refine wp_region_only (S := fun w' => w'.cell? ⟨MD, 0, none⟩ = some (.int .i64 md)) (by kernel_rfl) (HC0.out.drew.cm.cell 0) (fun hHeld => ?_)
  refine wpAnyH_take (i := 1) (v := ?v61) rfl (by kernel_rfl) (by kernel_rfl) (by kernel_rfl) (fun _ _ _ h => h) (Or.inl ⟨by rfl, ?hy61⟩) hHeld ?rest61
  case hy61 =>
    intro w' hSw
    try dsimp only at hSw
    go_simp
    first | done | with_reducible rfl
  try simp only [Act.put, zq1, zq2, zq3, zq4, zq5, zq6]
  refine wpAnyH_ready (rs := [0]) (by kernel_rfl) (by simp) ?_
  refine AllReadyH.cons (by rfl) (fun K hK => ?_) AllReadyH.nil
  go_simp
  refine (gmmap_any _).mono ?_
  rintro e w1 ⟨rfl, hw1⟩
  have HMP := Lib.hid (show w1.heap[w.heap.size]? = some (.map gmE3 3) by subst hw1; exact heap_alloc_new _ _)
  have HB1 := Lib.hid (show Below w.heap.size w w1 by subst hw1; exact (below_drew HB0.out).alloc (below_drew HB0.out).size _)
  have HC1 := Lib.hid (show Cp w1 MD S KX G I mt pt kt gt it md p x m i by subst hw1; exact HC0.out.drew.alloc _)
  clear hw1 hHeld HB0 HC0
  go_wp2_with fail
  refine hK.out _ _ (HC1.out.cm.cell 0) (fun hHeld => ?_)
  clear hK K
  try simp only [Act.put, zq1, zq3, zq4, zq5, zq6]
  refine wpAnyH_ready (rs := [2]) (by kernel_rfl) (by simp) ?_
  refine AllReadyH.cons (by rfl) (fun K hK => ?_) AllReadyH.nil
  have hlk2 := go_look w1 _ md HMP.out
  rw [HGB.out] at hlk2
  go_simp
  refine hK.out _ _ (HC1.out.cm.cell 0) (fun hHeld => ?_)
  clear hK K
  try simp only [Act.put, zq1, zq2, zq3, zq4, zq5, zq6]
  refine wpAnyH_take (i := 3) (v := ?v62) rfl (by kernel_rfl) (by kernel_rfl) (by kernel_rfl) (fun _ _ _ h => h) (Or.inl ⟨by rfl, ?hy62⟩) hHeld ?rest62
  case hy62 =>
    intro w' hSw
    try dsimp only at hSw
    go_simp
    first | done | with_reducible rfl
  try simp only [Act.put, zq1, zq2, zq3, zq4, zq5, zq6]
  refine wpAnyH_take (i := 4) (v := ?v63) rfl (by kernel_rfl) (by kernel_rfl) (by kernel_rfl) (fun _ _ _ h => h) (Or.inl ⟨by rfl, ?hy63⟩) hHeld ?rest63
  case hy63 =>
    intro w' hSw
    try dsimp only at hSw
    go_simp
    first | done | with_reducible rfl
  try simp only [Act.put, zq1, zq2, zq3, zq4, zq5, zq6]
  refine wpAnyH_take (i := 5) (v := ?v64) rfl (by kernel_rfl) (by kernel_rfl) (by kernel_rfl) (fun _ _ _ h => h) (Or.inl ⟨by rfl, ?hy64⟩) hHeld ?rest64
  case hy64 =>
    intro w' hSw
    try dsimp only at hSw
    go_simp
    first | done | with_reducible rfl
  try simp only [Act.put, zq1, zq2, zq3, zq4, zq5, zq6]
  refine wpAnyH_take (i := 6) (v := ?v65) rfl (by kernel_rfl) (by kernel_rfl) (by kernel_rfl) (fun _ _ _ h => h) (Or.inl ⟨by rfl, ?hy65⟩) hHeld ?rest65
  case hy65 =>
    intro w' hSw
    try dsimp only at hSw
    go_simp
    first | done | with_reducible rfl
  try simp only [Act.put, zq1, zq2, zq3, zq4, zq5, zq6]
  refine wpAnyH_take (i := 7) (v := ?v66) rfl (by kernel_rfl) (by kernel_rfl) (by kernel_rfl) (fun _ _ _ h => h) (Or.inl ⟨by rfl, ?hy66⟩) hHeld ?rest66
  case hy66 =>
    intro w' hSw
    try dsimp only at hSw
    go_simp
    first | done | with_reducible rfl
  try simp only [Act.put, zq1, zq2, zq3, zq4, zq5, zq6]
  refine wpAnyH_done (by kernel_rfl) ?_ _
  refine OnlyN.normal ?_
  clear hHeld
  have hs1 := HC1.out.cs.one
  go_wp2_with (first
    | (show wpList _ _ _ (Oper.mk (some 22) (.load _ _) _ _ _ _ :: _) _ _; refine wpList_yields (S := fun w' => KeyAt w' KX 0 x) (y_kyJ (by rfl) (.tmp 2) (by rfl) KX 0 (by rfl) x (fun _ h => h)) HC1.out.ck.kat ?_)
    | (go_at_call 37; refine (HH1.out _ HB1.out).mono ?_; rintro e w2 ⟨rfl, b2⟩; have HB2 := Lib.hid (HB1.out.trans (b2.mono HB1.out.size)); have HC2 := Lib.hid (HC1.out.keep b2); clear b2; have hs1 := HC2.out.cs.one)
    | (show wpList _ _ _ (Oper.mk (some 25) (.load _ _) _ _ _ _ :: _) _ _; refine wpList_yields (S := fun w' => MgAt w' G 0 m) (y_mg (by rfl) (.tmp 3) (by rfl) G 0 (by rfl) m (fun _ h => h)) HC2.out.cg.mg ?_)
    | (go_at_call 38; refine (HH2.out _ HB2.out).mono ?_; rintro e w3 ⟨rfl, b3⟩; have HB3 := Lib.hid (HB2.out.trans (b3.mono HB2.out.size)); have HC3 := Lib.hid (HC2.out.keep b3); have HB4 := Lib.hid (HB3.out.alloc HB3.out.size (.cells m'.cells.toArray 38)); have HC4 := Lib.hid (HC3.out.alloc (.cells m'.cells.toArray 38)); have HM4 := Lib.hid (Blk.new w3 38 m'.cells.toArray); clear b3 hs1; have hs1 := HC4.out.cs.one; have hi1 := HC4.out.ci.one)
    | (show wpList _ _ _ (Oper.mk none (.store _ (.tmp 7) (.tmp 26)) _ _ _ _ :: _) _ _; refine wpList_store_new (l := m'.cells) (l0 := mz.cells) (ty := 38) rfl (.tmp 7) (.tmp 26) (by rfl) w3.heap.size rfl (by rfl) (by rfl) (by rw [Mg.len]; exact sizeM) (by rw [Mg.len, Mg.len]) (Mg.one _) ?_)
    | (go_at_call 39; refine (HH3.out _ HB4.out).mono ?_; rintro e w5 ⟨rfl, b5⟩; have HB5 := Lib.hid (HB4.out.trans (b5.mono HB4.out.size)); have HC5 := Lib.hid (HC4.out.keep b5); have HB6 := Lib.hid (HB5.out.alloc HB5.out.size (.cells (jc (some ⟨p, 0, none⟩) i u).toArray 93)); have HC6 := Lib.hid (HC5.out.alloc (.cells (jc (some ⟨p, 0, none⟩) i u).toArray 93)); have HM6 := Lib.hid ((HM4.out.keep b5).alloc (.cells (jc (some ⟨p, 0, none⟩) i u).toArray 93)); have HU6 := Lib.hid (Blk.new w5 93 (jc (some ⟨p, 0, none⟩) i u).toArray); clear b5 hs1 hi1; have hs1 := HC6.out.cs.one)
    | (show wpList _ _ _ (Oper.mk none (.store _ (.tmp 8) (.tmp 29)) _ _ _ _ :: _) _ _; refine wpList_store_new (l := jc (some ⟨p, 0, none⟩) i u) (l0 := jc none 0 oz) (ty := 93) rfl (.tmp 8) (.tmp 29) (by rfl) w5.heap.size rfl (by rfl) (by rfl) (by rw [jc_len]; exact sizeJ) (by rw [jc_len, jc_len]) (jc_one _ _ _) ?_)
    | (show wpList _ _ _ (Oper.mk (some 32) (.load _ _) _ _ _ _ :: _) _ _; refine wpList_yields (S := fun w' => KeyAt w' KX 0 x) (y_kyJ (by rfl) (.tmp 2) (by rfl) KX 0 (by rfl) x (fun _ h => h)) HC6.out.ck.kat ?_)
    | (go_at_call 40; refine (HH4.out _ HB6.out).mono ?_; rintro e w7 ⟨rfl, b7⟩; have HB7 := Lib.hid (HB6.out.trans (b7.mono HB6.out.size)); have HC7 := Lib.hid (HC6.out.keep b7); have HB8 := Lib.hid (HB7.out.alloc HB7.out.size (.cells (jc (some ⟨p, 0, none⟩) x.o v).toArray 93)); have HC8 := Lib.hid (HC7.out.alloc (.cells (jc (some ⟨p, 0, none⟩) x.o v).toArray 93)); have HM8 := Lib.hid ((HM6.out.keep b7).alloc (.cells (jc (some ⟨p, 0, none⟩) x.o v).toArray 93)); have HU8 := Lib.hid ((HU6.out.keep b7).alloc (.cells (jc (some ⟨p, 0, none⟩) x.o v).toArray 93)); have HV8 := Lib.hid (Blk.new w7 93 (jc (some ⟨p, 0, none⟩) x.o v).toArray); clear b7 hs1; have hm1 := HC8.out.cm.one)
    | (show wpList _ _ _ (Oper.mk none (.store _ (.tmp 9) (.tmp 34)) _ _ _ _ :: _) _ _; refine wpList_store_new (l := jc (some ⟨p, 0, none⟩) x.o v) (l0 := jc none 0 oz) (ty := 93) rfl (.tmp 9) (.tmp 34) (by rfl) w7.heap.size rfl (by rfl) (by rfl) (by rw [jc_len]; exact sizeJ) (by rw [jc_len, jc_len]) (jc_one _ _ _) ?_)
    | (show wpList _ _ _ (Oper.mk (some 36) (.load _ _) _ _ _ _ :: _) _ _; refine wpList_yields (S := fun w' => MgAt w' w3.heap.size 0 m') (y_mg (by rfl) (.tmp 7) (by rfl) w3.heap.size 0 (by rfl) m' (fun _ h => h)) HM8.out.mg ?_)
    | (show wpList _ _ _ (Oper.mk (some 38) (.load _ _) _ _ _ _ :: _) _ _; refine wpList_yields (S := fun w' => JAt w' w5.heap.size 0 (some ⟨p, 0, none⟩) i u) (y_nd (by rfl) (.tmp 8) (by rfl) w5.heap.size 0 (by rfl) (some ⟨p, 0, none⟩) i u (fun _ h => h)) HU8.out.jx ?_)
    | (show wpList _ _ _ (Oper.mk (some 39) (.load _ _) _ _ _ _ :: _) _ _; refine wpList_yields (S := fun w' => JAt w' w7.heap.size 0 (some ⟨p, 0, none⟩) x.o v) (y_nd (by rfl) (.tmp 9) (by rfl) w7.heap.size 0 (by rfl) (some ⟨p, 0, none⟩) x.o v (fun _ h => h)) HV8.out.jx ?_)
    | (show wpList _ _ _ (Oper.mk (some 40) (.build _ _) _ _ _ _ :: _) _ _; refine wpList_yields (S := fun _ => True) (y_bl4 (by rfl) (.tmp 36) (.tmp 37) (.tmp 38) (.tmp 39) (by rfl) (by rfl) (by rfl) (by rfl) (by rfl) (builtI m' md (some ⟨p, 0, none⟩) i u x.o v)) trivial ?_; have hil := ivc_len m' md (some ⟨p, 0, none⟩) i u x.o v zk)
    | (go_at_call 91; have HB9 := Lib.hid (HB8.out.alloc HB8.out.size (.cells (ivc m' md (some ⟨p, 0, none⟩) i u x.o v zk).toArray 99)); have HI9 := Lib.hid (show IvB ((w7.alloc (.cells (jc (some ⟨p, 0, none⟩) x.o v).toArray 93)).alloc (.cells (ivc m' md (some ⟨p, 0, none⟩) i u x.o v zk).toArray 99)) (w7.heap.size + 1) m' md (some ⟨p, 0, none⟩) i u x.o v zk from Blk.new_of (w7.alloc (.cells (jc (some ⟨p, 0, none⟩) x.o v).toArray 93)) 99 _ (by simp)); refine (HCO.out _ _ HI9.out).mono ?_; rintro e wa ⟨rfl, ba⟩; have HBa := Lib.hid (HB9.out.trans (ba.mono HB9.out.size)); clear ba))
  exact ⟨rfl, rfl, HBa.out⟩
set_option maxRecDepth 100000 in
set_option maxHeartbeats 4000000 in
theorem ic_go_r_no (hc : Cp w MD S KX G I mt pt kt gt it md p x m i) (hg : goB md = true) (hgv : goV md = .func (.func 70) #[] #[]) (n : Int) (hmh : ∀ W, Below w.heap.size w W → Calls Tryd.prog 37 #[pv p, x.val] W fun e w' => e = .returned (.tuple #[]) ∧ Below W.heap.size W w') (m' : Mg) (hpr : ∀ W, Below w.heap.size w W → Calls Tryd.prog 38 #[pv p, m.val] W fun e w' => e = .returned m'.val ∧ Below W.heap.size W w') (u : Oj) (hru : ∀ W, Below w.heap.size w W → Calls Tryd.prog 39 #[pv p, .int .i64 i] W fun e w' => e = .returned (jv (some ⟨p, 0, none⟩) i u) ∧ Below W.heap.size W w') (v : Oj) (hct : ∀ W, Below w.heap.size w W → Calls Tryd.prog 40 #[pv p, x.val] W fun e w' => e = .returned (.tuple #[jv (some ⟨p, 0, none⟩) x.o v, .func (.func 91) #[] #[]]) ∧ Below W.heap.size W w') (v' : Oj) (hco : ∀ W g, IvB W g m' md (some ⟨p, 0, none⟩) i u x.o v zk → Calls Tryd.prog 91 #[.pointer (some ⟨g, 0, none⟩)] W fun e w' => e = .returned (.tuple #[]) ∧ IvB w' g m' md (some ⟨p, 0, none⟩) i u x.o v' zk ∧ Fr (fun k => k = g) W w') (hgo : ∀ W g, IvB W g m' md (some ⟨p, 0, none⟩) i u x.o v' zk → Calls Tryd.prog 70 #[.pointer (some ⟨g, 0, none⟩)] W fun e w' => e = .panicked (erc n) ∧ Below W.heap.size W w') : Calls Tryd.prog 35 #[.pointer (some ⟨MD, 0, none⟩), .pointer (some ⟨S, 0, none⟩), .pointer (some ⟨KX, 0, none⟩), .pointer (some ⟨G, 0, none⟩), .pointer (some ⟨I, 0, none⟩)] w fun e w' => e = .panicked (erc n) ∧ Below w.heap.size w w' := by
  have hz := zM
  have hz2 := zJ
  have hzl := mz.len
  have hzj := jc_len none 0 oz
  have hml := m'.len
  have hul := jc_len (some ⟨p, 0, none⟩) i u
  have hvl := jc_len (some ⟨p, 0, none⟩) x.o v
  have hil := ivc_len m' md (some ⟨p, 0, none⟩) i u x.o v zk
  have HGB := Lib.hid hg
  have HC0 := Lib.hid hc
  have HB0 := Lib.hid (Below.refl w.heap.size w)
  have HH1 := Lib.hid hmh
  have HH2 := Lib.hid hpr
  have HH3 := Lib.hid hru
  have HH4 := Lib.hid hct
  have HCO := Lib.hid hco
  have HGO := Lib.hid hgo
  have HGV := Lib.hid hgv
  clear hco hgo hgv
  clear hg hc hmh hpr hru hct
  go_enter Tryd.func35, Tryd.ntmps35
  go_wp2_with fail
  refine wp_region_only (S := fun w' => w'.cell? ⟨MD, 0, none⟩ = some (.int .i64 md)) (by kernel_rfl) (HC0.out.drew.cm.cell 0) (fun hHeld => ?_)
  refine wpAnyH_take (i := 1) (v := ?v67) rfl (by kernel_rfl) (by kernel_rfl) (by kernel_rfl) (fun _ _ _ h => h) (Or.inl ⟨by rfl, ?hy67⟩) hHeld ?rest67
  case hy67 =>
    intro w' hSw
    try dsimp only at hSw
    go_simp
    first | done | with_reducible rfl
  try simp only [Act.put, zq1, zq2, zq3, zq4, zq5, zq6]
  refine wpAnyH_ready (rs := [0]) (by kernel_rfl) (by simp) ?_
  refine AllReadyH.cons (by rfl) (fun K hK => ?_) AllReadyH.nil
  go_simp
  refine (gmmap_any _).mono ?_
  rintro e w1 ⟨rfl, hw1⟩
  have HMP := Lib.hid (show w1.heap[w.heap.size]? = some (.map gmE3 3) by subst hw1; exact heap_alloc_new _ _)
  have HB1 := Lib.hid (show Below w.heap.size w w1 by subst hw1; exact (below_drew HB0.out).alloc (below_drew HB0.out).size _)
  have HC1 := Lib.hid (show Cp w1 MD S KX G I mt pt kt gt it md p x m i by subst hw1; exact HC0.out.drew.alloc _)
  clear hw1 hHeld HB0 HC0
  go_wp2_with fail
  refine hK.out _ _ (HC1.out.cm.cell 0) (fun hHeld => ?_)
  clear hK K
  try simp only [Act.put, zq1, zq3, zq4, zq5, zq6]
  refine wpAnyH_ready (rs := [2]) (by kernel_rfl) (by simp) ?_
  refine AllReadyH.cons (by rfl) (fun K hK => ?_) AllReadyH.nil
  have hlk2 := go_look w1 _ md HMP.out
  rw [HGV.out, HGB.out] at hlk2
  go_simp
  refine hK.out _ _ (HC1.out.cm.cell 0) (fun hHeld => ?_)
  clear hK K
  try simp only [Act.put, zq1, zq2, zq3, zq4, zq5, zq6]
  refine wpAnyH_take (i := 3) (v := ?v68) rfl (by kernel_rfl) (by kernel_rfl) (by kernel_rfl) (fun _ _ _ h => h) (Or.inl ⟨by rfl, ?hy68⟩) hHeld ?rest68
  case hy68 =>
    intro w' hSw
    try dsimp only at hSw
    go_simp
    first | done | with_reducible rfl
  try simp only [Act.put, zq1, zq2, zq3, zq4, zq5, zq6]
  refine wpAnyH_take (i := 4) (v := ?v69) rfl (by kernel_rfl) (by kernel_rfl) (by kernel_rfl) (fun _ _ _ h => h) (Or.inl ⟨by rfl, ?hy69⟩) hHeld ?rest69
  case hy69 =>
    intro w' hSw
    try dsimp only at hSw
    go_simp
    first | done | with_reducible rfl
  try simp only [Act.put, zq1, zq2, zq3, zq4, zq5, zq6]
  refine wpAnyH_take (i := 5) (v := ?v70) rfl (by kernel_rfl) (by kernel_rfl) (by kernel_rfl) (fun _ _ _ h => h) (Or.inl ⟨by rfl, ?hy70⟩) hHeld ?rest70
  case hy70 =>
    intro w' hSw
    try dsimp only at hSw
    go_simp
    first | done | with_reducible rfl
  try simp only [Act.put, zq1, zq2, zq3, zq4, zq5, zq6]
  refine wpAnyH_take (i := 6) (v := ?v71) rfl (by kernel_rfl) (by kernel_rfl) (by kernel_rfl) (fun _ _ _ h => h) (Or.inl ⟨by rfl, ?hy71⟩) hHeld ?rest71
  case hy71 =>
    intro w' hSw
    try dsimp only at hSw
    go_simp
    first | done | with_reducible rfl
  try simp only [Act.put, zq1, zq2, zq3, zq4, zq5, zq6]
  refine wpAnyH_take (i := 7) (v := ?v72) rfl (by kernel_rfl) (by kernel_rfl) (by kernel_rfl) (fun _ _ _ h => h) (Or.inl ⟨by rfl, ?hy72⟩) hHeld ?rest72
  case hy72 =>
    intro w' hSw
    try dsimp only at hSw
    go_simp
    first | done | with_reducible rfl
  try simp only [Act.put, zq1, zq2, zq3, zq4, zq5, zq6]
  refine wpAnyH_done (by kernel_rfl) ?_ _
  refine OnlyN.normal ?_
  clear hHeld
  have hs1 := HC1.out.cs.one
  go_wp2_with (first
    | (show wpList _ _ _ (Oper.mk (some 22) (.load _ _) _ _ _ _ :: _) _ _; refine wpList_yields (S := fun w' => KeyAt w' KX 0 x) (y_kyJ (by rfl) (.tmp 2) (by rfl) KX 0 (by rfl) x (fun _ h => h)) HC1.out.ck.kat ?_)
    | (go_at_call 37; refine (HH1.out _ HB1.out).mono ?_; rintro e w2 ⟨rfl, b2⟩; have HB2 := Lib.hid (HB1.out.trans (b2.mono HB1.out.size)); have HC2 := Lib.hid (HC1.out.keep b2); clear b2; have hs1 := HC2.out.cs.one)
    | (show wpList _ _ _ (Oper.mk (some 25) (.load _ _) _ _ _ _ :: _) _ _; refine wpList_yields (S := fun w' => MgAt w' G 0 m) (y_mg (by rfl) (.tmp 3) (by rfl) G 0 (by rfl) m (fun _ h => h)) HC2.out.cg.mg ?_)
    | (go_at_call 38; refine (HH2.out _ HB2.out).mono ?_; rintro e w3 ⟨rfl, b3⟩; have HB3 := Lib.hid (HB2.out.trans (b3.mono HB2.out.size)); have HC3 := Lib.hid (HC2.out.keep b3); have HB4 := Lib.hid (HB3.out.alloc HB3.out.size (.cells m'.cells.toArray 38)); have HC4 := Lib.hid (HC3.out.alloc (.cells m'.cells.toArray 38)); have HM4 := Lib.hid (Blk.new w3 38 m'.cells.toArray); clear b3 hs1; have hs1 := HC4.out.cs.one; have hi1 := HC4.out.ci.one)
    | (show wpList _ _ _ (Oper.mk none (.store _ (.tmp 7) (.tmp 26)) _ _ _ _ :: _) _ _; refine wpList_store_new (l := m'.cells) (l0 := mz.cells) (ty := 38) rfl (.tmp 7) (.tmp 26) (by rfl) w3.heap.size rfl (by rfl) (by rfl) (by rw [Mg.len]; exact sizeM) (by rw [Mg.len, Mg.len]) (Mg.one _) ?_)
    | (go_at_call 39; refine (HH3.out _ HB4.out).mono ?_; rintro e w5 ⟨rfl, b5⟩; have HB5 := Lib.hid (HB4.out.trans (b5.mono HB4.out.size)); have HC5 := Lib.hid (HC4.out.keep b5); have HB6 := Lib.hid (HB5.out.alloc HB5.out.size (.cells (jc (some ⟨p, 0, none⟩) i u).toArray 93)); have HC6 := Lib.hid (HC5.out.alloc (.cells (jc (some ⟨p, 0, none⟩) i u).toArray 93)); have HM6 := Lib.hid ((HM4.out.keep b5).alloc (.cells (jc (some ⟨p, 0, none⟩) i u).toArray 93)); have HU6 := Lib.hid (Blk.new w5 93 (jc (some ⟨p, 0, none⟩) i u).toArray); clear b5 hs1 hi1; have hs1 := HC6.out.cs.one)
    | (show wpList _ _ _ (Oper.mk none (.store _ (.tmp 8) (.tmp 29)) _ _ _ _ :: _) _ _; refine wpList_store_new (l := jc (some ⟨p, 0, none⟩) i u) (l0 := jc none 0 oz) (ty := 93) rfl (.tmp 8) (.tmp 29) (by rfl) w5.heap.size rfl (by rfl) (by rfl) (by rw [jc_len]; exact sizeJ) (by rw [jc_len, jc_len]) (jc_one _ _ _) ?_)
    | (show wpList _ _ _ (Oper.mk (some 32) (.load _ _) _ _ _ _ :: _) _ _; refine wpList_yields (S := fun w' => KeyAt w' KX 0 x) (y_kyJ (by rfl) (.tmp 2) (by rfl) KX 0 (by rfl) x (fun _ h => h)) HC6.out.ck.kat ?_)
    | (go_at_call 40; refine (HH4.out _ HB6.out).mono ?_; rintro e w7 ⟨rfl, b7⟩; have HB7 := Lib.hid (HB6.out.trans (b7.mono HB6.out.size)); have HC7 := Lib.hid (HC6.out.keep b7); have HB8 := Lib.hid (HB7.out.alloc HB7.out.size (.cells (jc (some ⟨p, 0, none⟩) x.o v).toArray 93)); have HC8 := Lib.hid (HC7.out.alloc (.cells (jc (some ⟨p, 0, none⟩) x.o v).toArray 93)); have HM8 := Lib.hid ((HM6.out.keep b7).alloc (.cells (jc (some ⟨p, 0, none⟩) x.o v).toArray 93)); have HU8 := Lib.hid ((HU6.out.keep b7).alloc (.cells (jc (some ⟨p, 0, none⟩) x.o v).toArray 93)); have HV8 := Lib.hid (Blk.new w7 93 (jc (some ⟨p, 0, none⟩) x.o v).toArray); clear b7 hs1; have hm1 := HC8.out.cm.one)
    | (show wpList _ _ _ (Oper.mk none (.store _ (.tmp 9) (.tmp 34)) _ _ _ _ :: _) _ _; refine wpList_store_new (l := jc (some ⟨p, 0, none⟩) x.o v) (l0 := jc none 0 oz) (ty := 93) rfl (.tmp 9) (.tmp 34) (by rfl) w7.heap.size rfl (by rfl) (by rfl) (by rw [jc_len]; exact sizeJ) (by rw [jc_len, jc_len]) (jc_one _ _ _) ?_)
    | (show wpList _ _ _ (Oper.mk (some 36) (.load _ _) _ _ _ _ :: _) _ _; refine wpList_yields (S := fun w' => MgAt w' w3.heap.size 0 m') (y_mg (by rfl) (.tmp 7) (by rfl) w3.heap.size 0 (by rfl) m' (fun _ h => h)) HM8.out.mg ?_)
    | (show wpList _ _ _ (Oper.mk (some 38) (.load _ _) _ _ _ _ :: _) _ _; refine wpList_yields (S := fun w' => JAt w' w5.heap.size 0 (some ⟨p, 0, none⟩) i u) (y_nd (by rfl) (.tmp 8) (by rfl) w5.heap.size 0 (by rfl) (some ⟨p, 0, none⟩) i u (fun _ h => h)) HU8.out.jx ?_)
    | (show wpList _ _ _ (Oper.mk (some 39) (.load _ _) _ _ _ _ :: _) _ _; refine wpList_yields (S := fun w' => JAt w' w7.heap.size 0 (some ⟨p, 0, none⟩) x.o v) (y_nd (by rfl) (.tmp 9) (by rfl) w7.heap.size 0 (by rfl) (some ⟨p, 0, none⟩) x.o v (fun _ h => h)) HV8.out.jx ?_)
    | (show wpList _ _ _ (Oper.mk (some 40) (.build _ _) _ _ _ _ :: _) _ _; refine wpList_yields (S := fun _ => True) (y_bl4 (by rfl) (.tmp 36) (.tmp 37) (.tmp 38) (.tmp 39) (by rfl) (by rfl) (by rfl) (by rfl) (by rfl) (builtI m' md (some ⟨p, 0, none⟩) i u x.o v)) trivial ?_; have hil := ivc_len m' md (some ⟨p, 0, none⟩) i u x.o v zk)
    | (go_at_call 91; have HB9 := Lib.hid (HB8.out.alloc HB8.out.size (.cells (ivc m' md (some ⟨p, 0, none⟩) i u x.o v zk).toArray 99)); have HI9 := Lib.hid (show IvB ((w7.alloc (.cells (jc (some ⟨p, 0, none⟩) x.o v).toArray 93)).alloc (.cells (ivc m' md (some ⟨p, 0, none⟩) i u x.o v zk).toArray 99)) (w7.heap.size + 1) m' md (some ⟨p, 0, none⟩) i u x.o v zk from Blk.new_of (w7.alloc (.cells (jc (some ⟨p, 0, none⟩) x.o v).toArray 93)) 99 _ (by simp)); refine (HCO.out _ _ HI9.out).mono ?_; rintro e wa ⟨rfl, ia, fa⟩; have HIa := Lib.hid ia; have HBa := Lib.hid (HB9.out.trans (fr_below fa HB9.out.size (fun j hj e => by have := HB7.out.size; omega))); have HFa := Lib.hid fa; clear ia fa)
    | (go_at_call 70; refine (HGO.out _ _ HIa.out).mono ?_; rintro e wb ⟨rfl, bb⟩; have HBb := Lib.hid (HBa.out.trans (bb.mono HBa.out.size)); clear bb))
  exact ⟨rfl, rfl, HBb.out⟩
set_option maxRecDepth 100000 in
set_option maxHeartbeats 4000000 in
theorem ic_yes_r_ca (h : StAt w base p A cap ps os) (hc : Cp w MD S KX G I mt pt kt gt it md p x m i) (hg : goB md = true) (hgv : goV md = .func (.func 70) #[] #[]) (hmh : ∀ W, Below w.heap.size w W → Calls Tryd.prog 37 #[pv p, x.val] W fun e w' => e = .returned (.tuple #[]) ∧ Below W.heap.size W w') (m' : Mg) (hpr : ∀ W, Below w.heap.size w W → Calls Tryd.prog 38 #[pv p, m.val] W fun e w' => e = .returned m'.val ∧ Below W.heap.size W w') (u : Oj) (hru : ∀ W, Below w.heap.size w W → Calls Tryd.prog 39 #[pv p, .int .i64 i] W fun e w' => e = .returned (jv (some ⟨p, 0, none⟩) i u) ∧ Below W.heap.size W w') (v : Oj) (hct : ∀ W, Below w.heap.size w W → Calls Tryd.prog 40 #[pv p, x.val] W fun e w' => e = .returned (.tuple #[jv (some ⟨p, 0, none⟩) x.o v, .func (.func 91) #[] #[]]) ∧ Below W.heap.size W w') (v' : Oj) (hco : ∀ W g, IvB W g m' md (some ⟨p, 0, none⟩) i u x.o v zk → Calls Tryd.prog 91 #[.pointer (some ⟨g, 0, none⟩)] W fun e w' => e = .returned (.tuple #[]) ∧ IvB w' g m' md (some ⟨p, 0, none⟩) i u x.o v' zk ∧ Fr (fun k => k = g) W w') (u' : Oj) (k' : Ky) (hgo : ∀ W g, IvB W g m' md (some ⟨p, 0, none⟩) i u x.o v' zk → Calls Tryd.prog 70 #[.pointer (some ⟨g, 0, none⟩)] W fun e w' => e = .returned (.tuple #[]) ∧ IvB w' g m' md (some ⟨p, 0, none⟩) i u' x.o v' k' ∧ Fr (fun k => k = g) W w') (L : List Oj) (hdo : ∀ W g, w.heap.size ≤ g → StAt W base p A cap ps os → Below w.heap.size w W → IvB W g m' md (some ⟨p, 0, none⟩) i u' x.o v' k' → Calls Tryd.prog 41 #[.pointer (some ⟨g, 0, none⟩)] W fun e w' => e = .returned (.tuple #[]) ∧ StAt w' base p A cap ps L ∧ Fr (fun k => k = g ∨ k ∈ ps) W w') : Calls Tryd.prog 35 #[.pointer (some ⟨MD, 0, none⟩), .pointer (some ⟨S, 0, none⟩), .pointer (some ⟨KX, 0, none⟩), .pointer (some ⟨G, 0, none⟩), .pointer (some ⟨I, 0, none⟩)] w fun e w' => e = .returned (.tuple #[]) ∧ StAt w' base p A cap ps L ∧ Fr (fun k => k ∈ ps) w w' := by
  have hz := zM
  have hz2 := zJ
  have hzl := mz.len
  have hzj := jc_len none 0 oz
  have hml := m'.len
  have hul := jc_len (some ⟨p, 0, none⟩) i u
  have hvl := jc_len (some ⟨p, 0, none⟩) x.o v
  have hil := ivc_len m' md (some ⟨p, 0, none⟩) i u x.o v zk
  have HGB := Lib.hid hg
  have HC0 := Lib.hid hc
  have HB0 := Lib.hid (Below.refl w.heap.size w)
  have HH1 := Lib.hid hmh
  have HH2 := Lib.hid hpr
  have HH3 := Lib.hid hru
  have HH4 := Lib.hid hct
  have HST := Lib.hid h
  have HCO := Lib.hid hco
  have HGO := Lib.hid hgo
  have HGV := Lib.hid hgv
  have HDO := Lib.hid hdo
  clear h hco hgo hgv hdo
  clear hg hc hmh hpr hru hct
  go_enter Tryd.func35, Tryd.ntmps35
  go_wp2_with fail
  refine wp_region_only (S := fun w' => w'.cell? ⟨MD, 0, none⟩ = some (.int .i64 md)) (by kernel_rfl) (HC0.out.drew.cm.cell 0) (fun hHeld => ?_)
  refine wpAnyH_take (i := 1) (v := ?v73) rfl (by kernel_rfl) (by kernel_rfl) (by kernel_rfl) (fun _ _ _ h => h) (Or.inl ⟨by rfl, ?hy73⟩) hHeld ?rest73
  case hy73 =>
    intro w' hSw
    try dsimp only at hSw
    go_simp
    first | done | with_reducible rfl
  try simp only [Act.put, zq1, zq2, zq3, zq4, zq5, zq6]
  refine wpAnyH_ready (rs := [0]) (by kernel_rfl) (by simp) ?_
  refine AllReadyH.cons (by rfl) (fun K hK => ?_) AllReadyH.nil
  go_simp
  refine (gmmap_any _).mono ?_
  rintro e w1 ⟨rfl, hw1⟩
  have HMP := Lib.hid (show w1.heap[w.heap.size]? = some (.map gmE3 3) by subst hw1; exact heap_alloc_new _ _)
  have HB1 := Lib.hid (show Below w.heap.size w w1 by subst hw1; exact (below_drew HB0.out).alloc (below_drew HB0.out).size _)
  have HC1 := Lib.hid (show Cp w1 MD S KX G I mt pt kt gt it md p x m i by subst hw1; exact HC0.out.drew.alloc _)
  clear hw1 hHeld HB0 HC0
  go_wp2_with fail
  refine hK.out _ _ (HC1.out.cm.cell 0) (fun hHeld => ?_)
  clear hK K
  try simp only [Act.put, zq1, zq3, zq4, zq5, zq6]
  refine wpAnyH_ready (rs := [2]) (by kernel_rfl) (by simp) ?_
  refine AllReadyH.cons (by rfl) (fun K hK => ?_) AllReadyH.nil
  have hlk2 := go_look w1 _ md HMP.out
  rw [HGV.out, HGB.out] at hlk2
  go_simp
  refine hK.out _ _ (HC1.out.cm.cell 0) (fun hHeld => ?_)
  clear hK K
  try simp only [Act.put, zq1, zq2, zq3, zq4, zq5, zq6]
  refine wpAnyH_take (i := 3) (v := ?v74) rfl (by kernel_rfl) (by kernel_rfl) (by kernel_rfl) (fun _ _ _ h => h) (Or.inl ⟨by rfl, ?hy74⟩) hHeld ?rest74
  case hy74 =>
    intro w' hSw
    try dsimp only at hSw
    go_simp
    first | done | with_reducible rfl
  try simp only [Act.put, zq1, zq2, zq3, zq4, zq5, zq6]
  refine wpAnyH_take (i := 4) (v := ?v75) rfl (by kernel_rfl) (by kernel_rfl) (by kernel_rfl) (fun _ _ _ h => h) (Or.inl ⟨by rfl, ?hy75⟩) hHeld ?rest75
  case hy75 =>
    intro w' hSw
    try dsimp only at hSw
    go_simp
    first | done | with_reducible rfl
  try simp only [Act.put, zq1, zq2, zq3, zq4, zq5, zq6]
  refine wpAnyH_take (i := 5) (v := ?v76) rfl (by kernel_rfl) (by kernel_rfl) (by kernel_rfl) (fun _ _ _ h => h) (Or.inl ⟨by rfl, ?hy76⟩) hHeld ?rest76
  case hy76 =>
    intro w' hSw
    try dsimp only at hSw
    go_simp
    first | done | with_reducible rfl
  try simp only [Act.put, zq1, zq2, zq3, zq4, zq5, zq6]
  refine wpAnyH_take (i := 6) (v := ?v77) rfl (by kernel_rfl) (by kernel_rfl) (by kernel_rfl) (fun _ _ _ h => h) (Or.inl ⟨by rfl, ?hy77⟩) hHeld ?rest77
  case hy77 =>
    intro w' hSw
    try dsimp only at hSw
    go_simp
    first | done | with_reducible rfl
  try simp only [Act.put, zq1, zq2, zq3, zq4, zq5, zq6]
  refine wpAnyH_take (i := 7) (v := ?v78) rfl (by kernel_rfl) (by kernel_rfl) (by kernel_rfl) (fun _ _ _ h => h) (Or.inl ⟨by rfl, ?hy78⟩) hHeld ?rest78
  case hy78 =>
    intro w' hSw
    try dsimp only at hSw
    go_simp
    first | done | with_reducible rfl
  try simp only [Act.put, zq1, zq2, zq3, zq4, zq5, zq6]
  refine wpAnyH_done (by kernel_rfl) ?_ _
  refine OnlyN.normal ?_
  clear hHeld
  have hs1 := HC1.out.cs.one
  go_wp2_with (first
    | (show wpList _ _ _ (Oper.mk (some 22) (.load _ _) _ _ _ _ :: _) _ _; refine wpList_yields (S := fun w' => KeyAt w' KX 0 x) (y_kyJ (by rfl) (.tmp 2) (by rfl) KX 0 (by rfl) x (fun _ h => h)) HC1.out.ck.kat ?_)
    | (go_at_call 37; refine (HH1.out _ HB1.out).mono ?_; rintro e w2 ⟨rfl, b2⟩; have HB2 := Lib.hid (HB1.out.trans (b2.mono HB1.out.size)); have HC2 := Lib.hid (HC1.out.keep b2); clear b2; have hs1 := HC2.out.cs.one)
    | (show wpList _ _ _ (Oper.mk (some 25) (.load _ _) _ _ _ _ :: _) _ _; refine wpList_yields (S := fun w' => MgAt w' G 0 m) (y_mg (by rfl) (.tmp 3) (by rfl) G 0 (by rfl) m (fun _ h => h)) HC2.out.cg.mg ?_)
    | (go_at_call 38; refine (HH2.out _ HB2.out).mono ?_; rintro e w3 ⟨rfl, b3⟩; have HB3 := Lib.hid (HB2.out.trans (b3.mono HB2.out.size)); have HC3 := Lib.hid (HC2.out.keep b3); have HB4 := Lib.hid (HB3.out.alloc HB3.out.size (.cells m'.cells.toArray 38)); have HC4 := Lib.hid (HC3.out.alloc (.cells m'.cells.toArray 38)); have HM4 := Lib.hid (Blk.new w3 38 m'.cells.toArray); clear b3 hs1; have hs1 := HC4.out.cs.one; have hi1 := HC4.out.ci.one)
    | (show wpList _ _ _ (Oper.mk none (.store _ (.tmp 7) (.tmp 26)) _ _ _ _ :: _) _ _; refine wpList_store_new (l := m'.cells) (l0 := mz.cells) (ty := 38) rfl (.tmp 7) (.tmp 26) (by rfl) w3.heap.size rfl (by rfl) (by rfl) (by rw [Mg.len]; exact sizeM) (by rw [Mg.len, Mg.len]) (Mg.one _) ?_)
    | (go_at_call 39; refine (HH3.out _ HB4.out).mono ?_; rintro e w5 ⟨rfl, b5⟩; have HB5 := Lib.hid (HB4.out.trans (b5.mono HB4.out.size)); have HC5 := Lib.hid (HC4.out.keep b5); have HB6 := Lib.hid (HB5.out.alloc HB5.out.size (.cells (jc (some ⟨p, 0, none⟩) i u).toArray 93)); have HC6 := Lib.hid (HC5.out.alloc (.cells (jc (some ⟨p, 0, none⟩) i u).toArray 93)); have HM6 := Lib.hid ((HM4.out.keep b5).alloc (.cells (jc (some ⟨p, 0, none⟩) i u).toArray 93)); have HU6 := Lib.hid (Blk.new w5 93 (jc (some ⟨p, 0, none⟩) i u).toArray); clear b5 hs1 hi1; have hs1 := HC6.out.cs.one)
    | (show wpList _ _ _ (Oper.mk none (.store _ (.tmp 8) (.tmp 29)) _ _ _ _ :: _) _ _; refine wpList_store_new (l := jc (some ⟨p, 0, none⟩) i u) (l0 := jc none 0 oz) (ty := 93) rfl (.tmp 8) (.tmp 29) (by rfl) w5.heap.size rfl (by rfl) (by rfl) (by rw [jc_len]; exact sizeJ) (by rw [jc_len, jc_len]) (jc_one _ _ _) ?_)
    | (show wpList _ _ _ (Oper.mk (some 32) (.load _ _) _ _ _ _ :: _) _ _; refine wpList_yields (S := fun w' => KeyAt w' KX 0 x) (y_kyJ (by rfl) (.tmp 2) (by rfl) KX 0 (by rfl) x (fun _ h => h)) HC6.out.ck.kat ?_)
    | (go_at_call 40; refine (HH4.out _ HB6.out).mono ?_; rintro e w7 ⟨rfl, b7⟩; have HB7 := Lib.hid (HB6.out.trans (b7.mono HB6.out.size)); have HC7 := Lib.hid (HC6.out.keep b7); have HB8 := Lib.hid (HB7.out.alloc HB7.out.size (.cells (jc (some ⟨p, 0, none⟩) x.o v).toArray 93)); have HC8 := Lib.hid (HC7.out.alloc (.cells (jc (some ⟨p, 0, none⟩) x.o v).toArray 93)); have HM8 := Lib.hid ((HM6.out.keep b7).alloc (.cells (jc (some ⟨p, 0, none⟩) x.o v).toArray 93)); have HU8 := Lib.hid ((HU6.out.keep b7).alloc (.cells (jc (some ⟨p, 0, none⟩) x.o v).toArray 93)); have HV8 := Lib.hid (Blk.new w7 93 (jc (some ⟨p, 0, none⟩) x.o v).toArray); clear b7 hs1; have hm1 := HC8.out.cm.one)
    | (show wpList _ _ _ (Oper.mk none (.store _ (.tmp 9) (.tmp 34)) _ _ _ _ :: _) _ _; refine wpList_store_new (l := jc (some ⟨p, 0, none⟩) x.o v) (l0 := jc none 0 oz) (ty := 93) rfl (.tmp 9) (.tmp 34) (by rfl) w7.heap.size rfl (by rfl) (by rfl) (by rw [jc_len]; exact sizeJ) (by rw [jc_len, jc_len]) (jc_one _ _ _) ?_)
    | (show wpList _ _ _ (Oper.mk (some 36) (.load _ _) _ _ _ _ :: _) _ _; refine wpList_yields (S := fun w' => MgAt w' w3.heap.size 0 m') (y_mg (by rfl) (.tmp 7) (by rfl) w3.heap.size 0 (by rfl) m' (fun _ h => h)) HM8.out.mg ?_)
    | (show wpList _ _ _ (Oper.mk (some 38) (.load _ _) _ _ _ _ :: _) _ _; refine wpList_yields (S := fun w' => JAt w' w5.heap.size 0 (some ⟨p, 0, none⟩) i u) (y_nd (by rfl) (.tmp 8) (by rfl) w5.heap.size 0 (by rfl) (some ⟨p, 0, none⟩) i u (fun _ h => h)) HU8.out.jx ?_)
    | (show wpList _ _ _ (Oper.mk (some 39) (.load _ _) _ _ _ _ :: _) _ _; refine wpList_yields (S := fun w' => JAt w' w7.heap.size 0 (some ⟨p, 0, none⟩) x.o v) (y_nd (by rfl) (.tmp 9) (by rfl) w7.heap.size 0 (by rfl) (some ⟨p, 0, none⟩) x.o v (fun _ h => h)) HV8.out.jx ?_)
    | (show wpList _ _ _ (Oper.mk (some 40) (.build _ _) _ _ _ _ :: _) _ _; refine wpList_yields (S := fun _ => True) (y_bl4 (by rfl) (.tmp 36) (.tmp 37) (.tmp 38) (.tmp 39) (by rfl) (by rfl) (by rfl) (by rfl) (by rfl) (builtI m' md (some ⟨p, 0, none⟩) i u x.o v)) trivial ?_; have hil := ivc_len m' md (some ⟨p, 0, none⟩) i u x.o v zk)
    | (go_at_call 91; have HB9 := Lib.hid (HB8.out.alloc HB8.out.size (.cells (ivc m' md (some ⟨p, 0, none⟩) i u x.o v zk).toArray 99)); have HI9 := Lib.hid (show IvB ((w7.alloc (.cells (jc (some ⟨p, 0, none⟩) x.o v).toArray 93)).alloc (.cells (ivc m' md (some ⟨p, 0, none⟩) i u x.o v zk).toArray 99)) (w7.heap.size + 1) m' md (some ⟨p, 0, none⟩) i u x.o v zk from Blk.new_of (w7.alloc (.cells (jc (some ⟨p, 0, none⟩) x.o v).toArray 93)) 99 _ (by simp)); refine (HCO.out _ _ HI9.out).mono ?_; rintro e wa ⟨rfl, ia, fa⟩; have HIa := Lib.hid ia; have HBa := Lib.hid (HB9.out.trans (fr_below fa HB9.out.size (fun j hj e => by have := HB7.out.size; omega))); have HFa := Lib.hid fa; clear ia fa)
    | (go_at_call 70; refine (HGO.out _ _ HIa.out).mono ?_; rintro e wb ⟨rfl, ib, fb⟩; have HIb := Lib.hid ib; have HBb := Lib.hid (HBa.out.trans (fr_below fb HBa.out.size (fun j hj e => by have := HB7.out.size; omega))); clear ib fb)
    | (go_at_call 41; refine (HDO.out _ _ (Nat.le_trans HB7.out.size (Nat.le_succ _)) (HST.out.below HBb.out) HBb.out HIb.out).mono ?_; rintro e wc ⟨rfl, sc, fc⟩; have HSc := Lib.hid sc; have HFc := Lib.hid fc; clear sc fc))
  go_end0
  exact ⟨rfl, HSc.out, (Fr.of_below HBb.out : Fr (fun k => k ∈ ps) w _).then_ HFc.out (fun j hj e => e.resolve_left (by have := HB7.out.size; omega))⟩
set_option maxRecDepth 100000 in
set_option maxHeartbeats 4000000 in
theorem ic_yes_r_se (h : StAt w base p A cap ps os) (hc : Cp w MD S KX G I mt pt kt gt it md p x m i) (hg : goB md = true) (hgv : goV md = .func (.func 71) #[] #[]) (hmh : ∀ W, Below w.heap.size w W → Calls Tryd.prog 37 #[pv p, x.val] W fun e w' => e = .returned (.tuple #[]) ∧ Below W.heap.size W w') (m' : Mg) (hpr : ∀ W, Below w.heap.size w W → Calls Tryd.prog 38 #[pv p, m.val] W fun e w' => e = .returned m'.val ∧ Below W.heap.size W w') (u : Oj) (hru : ∀ W, Below w.heap.size w W → Calls Tryd.prog 39 #[pv p, .int .i64 i] W fun e w' => e = .returned (jv (some ⟨p, 0, none⟩) i u) ∧ Below W.heap.size W w') (v : Oj) (hct : ∀ W, Below w.heap.size w W → Calls Tryd.prog 40 #[pv p, x.val] W fun e w' => e = .returned (.tuple #[jv (some ⟨p, 0, none⟩) x.o v, .func (.func 91) #[] #[]]) ∧ Below W.heap.size W w') (v' : Oj) (hco : ∀ W g, IvB W g m' md (some ⟨p, 0, none⟩) i u x.o v zk → Calls Tryd.prog 91 #[.pointer (some ⟨g, 0, none⟩)] W fun e w' => e = .returned (.tuple #[]) ∧ IvB w' g m' md (some ⟨p, 0, none⟩) i u x.o v' zk ∧ Fr (fun k => k = g) W w') (u' : Oj) (k' : Ky) (hgo : ∀ W g, IvB W g m' md (some ⟨p, 0, none⟩) i u x.o v' zk → Calls Tryd.prog 71 #[.pointer (some ⟨g, 0, none⟩)] W fun e w' => e = .returned (.tuple #[]) ∧ IvB w' g m' md (some ⟨p, 0, none⟩) i u' x.o v' k' ∧ Fr (fun k => k = g) W w') (L : List Oj) (hdo : ∀ W g, w.heap.size ≤ g → StAt W base p A cap ps os → Below w.heap.size w W → IvB W g m' md (some ⟨p, 0, none⟩) i u' x.o v' k' → Calls Tryd.prog 41 #[.pointer (some ⟨g, 0, none⟩)] W fun e w' => e = .returned (.tuple #[]) ∧ StAt w' base p A cap ps L ∧ Fr (fun k => k = g ∨ k ∈ ps) W w') : Calls Tryd.prog 35 #[.pointer (some ⟨MD, 0, none⟩), .pointer (some ⟨S, 0, none⟩), .pointer (some ⟨KX, 0, none⟩), .pointer (some ⟨G, 0, none⟩), .pointer (some ⟨I, 0, none⟩)] w fun e w' => e = .returned (.tuple #[]) ∧ StAt w' base p A cap ps L ∧ Fr (fun k => k ∈ ps) w w' := by
  have hz := zM
  have hz2 := zJ
  have hzl := mz.len
  have hzj := jc_len none 0 oz
  have hml := m'.len
  have hul := jc_len (some ⟨p, 0, none⟩) i u
  have hvl := jc_len (some ⟨p, 0, none⟩) x.o v
  have hil := ivc_len m' md (some ⟨p, 0, none⟩) i u x.o v zk
  have HGB := Lib.hid hg
  have HC0 := Lib.hid hc
  have HB0 := Lib.hid (Below.refl w.heap.size w)
  have HH1 := Lib.hid hmh
  have HH2 := Lib.hid hpr
  have HH3 := Lib.hid hru
  have HH4 := Lib.hid hct
  have HST := Lib.hid h
  have HCO := Lib.hid hco
  have HGO := Lib.hid hgo
  have HGV := Lib.hid hgv
  have HDO := Lib.hid hdo
  clear h hco hgo hgv hdo
  clear hg hc hmh hpr hru hct
  go_enter Tryd.func35, Tryd.ntmps35
  go_wp2_with fail
  refine wp_region_only (S := fun w' => w'.cell? ⟨MD, 0, none⟩ = some (.int .i64 md)) (by kernel_rfl) (HC0.out.drew.cm.cell 0) (fun hHeld => ?_)
  refine wpAnyH_take (i := 1) (v := ?v79) rfl (by kernel_rfl) (by kernel_rfl) (by kernel_rfl) (fun _ _ _ h => h) (Or.inl ⟨by rfl, ?hy79⟩) hHeld ?rest79
  case hy79 =>
    intro w' hSw
    try dsimp only at hSw
    go_simp
    first | done | with_reducible rfl
  try simp only [Act.put, zq1, zq2, zq3, zq4, zq5, zq6]
  refine wpAnyH_ready (rs := [0]) (by kernel_rfl) (by simp) ?_
  refine AllReadyH.cons (by rfl) (fun K hK => ?_) AllReadyH.nil
  go_simp
  refine (gmmap_any _).mono ?_
  rintro e w1 ⟨rfl, hw1⟩
  have HMP := Lib.hid (show w1.heap[w.heap.size]? = some (.map gmE3 3) by subst hw1; exact heap_alloc_new _ _)
  have HB1 := Lib.hid (show Below w.heap.size w w1 by subst hw1; exact (below_drew HB0.out).alloc (below_drew HB0.out).size _)
  have HC1 := Lib.hid (show Cp w1 MD S KX G I mt pt kt gt it md p x m i by subst hw1; exact HC0.out.drew.alloc _)
  clear hw1 hHeld HB0 HC0
  go_wp2_with fail
  refine hK.out _ _ (HC1.out.cm.cell 0) (fun hHeld => ?_)
  clear hK K
  try simp only [Act.put, zq1, zq3, zq4, zq5, zq6]
  refine wpAnyH_ready (rs := [2]) (by kernel_rfl) (by simp) ?_
  refine AllReadyH.cons (by rfl) (fun K hK => ?_) AllReadyH.nil
  have hlk2 := go_look w1 _ md HMP.out
  rw [HGV.out, HGB.out] at hlk2
  go_simp
  refine hK.out _ _ (HC1.out.cm.cell 0) (fun hHeld => ?_)
  clear hK K
  try simp only [Act.put, zq1, zq2, zq3, zq4, zq5, zq6]
  refine wpAnyH_take (i := 3) (v := ?v80) rfl (by kernel_rfl) (by kernel_rfl) (by kernel_rfl) (fun _ _ _ h => h) (Or.inl ⟨by rfl, ?hy80⟩) hHeld ?rest80
  case hy80 =>
    intro w' hSw
    try dsimp only at hSw
    go_simp
    first | done | with_reducible rfl
  try simp only [Act.put, zq1, zq2, zq3, zq4, zq5, zq6]
  refine wpAnyH_take (i := 4) (v := ?v81) rfl (by kernel_rfl) (by kernel_rfl) (by kernel_rfl) (fun _ _ _ h => h) (Or.inl ⟨by rfl, ?hy81⟩) hHeld ?rest81
  case hy81 =>
    intro w' hSw
    try dsimp only at hSw
    go_simp
    first | done | with_reducible rfl
  try simp only [Act.put, zq1, zq2, zq3, zq4, zq5, zq6]
  refine wpAnyH_take (i := 5) (v := ?v82) rfl (by kernel_rfl) (by kernel_rfl) (by kernel_rfl) (fun _ _ _ h => h) (Or.inl ⟨by rfl, ?hy82⟩) hHeld ?rest82
  case hy82 =>
    intro w' hSw
    try dsimp only at hSw
    go_simp
    first | done | with_reducible rfl
  try simp only [Act.put, zq1, zq2, zq3, zq4, zq5, zq6]
  refine wpAnyH_take (i := 6) (v := ?v83) rfl (by kernel_rfl) (by kernel_rfl) (by kernel_rfl) (fun _ _ _ h => h) (Or.inl ⟨by rfl, ?hy83⟩) hHeld ?rest83
  case hy83 =>
    intro w' hSw
    try dsimp only at hSw
    go_simp
    first | done | with_reducible rfl
  try simp only [Act.put, zq1, zq2, zq3, zq4, zq5, zq6]
  refine wpAnyH_take (i := 7) (v := ?v84) rfl (by kernel_rfl) (by kernel_rfl) (by kernel_rfl) (fun _ _ _ h => h) (Or.inl ⟨by rfl, ?hy84⟩) hHeld ?rest84
  case hy84 =>
    intro w' hSw
    try dsimp only at hSw
    go_simp
    first | done | with_reducible rfl
  try simp only [Act.put, zq1, zq2, zq3, zq4, zq5, zq6]
  refine wpAnyH_done (by kernel_rfl) ?_ _
  refine OnlyN.normal ?_
  clear hHeld
  have hs1 := HC1.out.cs.one
  go_wp2_with (first
    | (show wpList _ _ _ (Oper.mk (some 22) (.load _ _) _ _ _ _ :: _) _ _; refine wpList_yields (S := fun w' => KeyAt w' KX 0 x) (y_kyJ (by rfl) (.tmp 2) (by rfl) KX 0 (by rfl) x (fun _ h => h)) HC1.out.ck.kat ?_)
    | (go_at_call 37; refine (HH1.out _ HB1.out).mono ?_; rintro e w2 ⟨rfl, b2⟩; have HB2 := Lib.hid (HB1.out.trans (b2.mono HB1.out.size)); have HC2 := Lib.hid (HC1.out.keep b2); clear b2; have hs1 := HC2.out.cs.one)
    | (show wpList _ _ _ (Oper.mk (some 25) (.load _ _) _ _ _ _ :: _) _ _; refine wpList_yields (S := fun w' => MgAt w' G 0 m) (y_mg (by rfl) (.tmp 3) (by rfl) G 0 (by rfl) m (fun _ h => h)) HC2.out.cg.mg ?_)
    | (go_at_call 38; refine (HH2.out _ HB2.out).mono ?_; rintro e w3 ⟨rfl, b3⟩; have HB3 := Lib.hid (HB2.out.trans (b3.mono HB2.out.size)); have HC3 := Lib.hid (HC2.out.keep b3); have HB4 := Lib.hid (HB3.out.alloc HB3.out.size (.cells m'.cells.toArray 38)); have HC4 := Lib.hid (HC3.out.alloc (.cells m'.cells.toArray 38)); have HM4 := Lib.hid (Blk.new w3 38 m'.cells.toArray); clear b3 hs1; have hs1 := HC4.out.cs.one; have hi1 := HC4.out.ci.one)
    | (show wpList _ _ _ (Oper.mk none (.store _ (.tmp 7) (.tmp 26)) _ _ _ _ :: _) _ _; refine wpList_store_new (l := m'.cells) (l0 := mz.cells) (ty := 38) rfl (.tmp 7) (.tmp 26) (by rfl) w3.heap.size rfl (by rfl) (by rfl) (by rw [Mg.len]; exact sizeM) (by rw [Mg.len, Mg.len]) (Mg.one _) ?_)
    | (go_at_call 39; refine (HH3.out _ HB4.out).mono ?_; rintro e w5 ⟨rfl, b5⟩; have HB5 := Lib.hid (HB4.out.trans (b5.mono HB4.out.size)); have HC5 := Lib.hid (HC4.out.keep b5); have HB6 := Lib.hid (HB5.out.alloc HB5.out.size (.cells (jc (some ⟨p, 0, none⟩) i u).toArray 93)); have HC6 := Lib.hid (HC5.out.alloc (.cells (jc (some ⟨p, 0, none⟩) i u).toArray 93)); have HM6 := Lib.hid ((HM4.out.keep b5).alloc (.cells (jc (some ⟨p, 0, none⟩) i u).toArray 93)); have HU6 := Lib.hid (Blk.new w5 93 (jc (some ⟨p, 0, none⟩) i u).toArray); clear b5 hs1 hi1; have hs1 := HC6.out.cs.one)
    | (show wpList _ _ _ (Oper.mk none (.store _ (.tmp 8) (.tmp 29)) _ _ _ _ :: _) _ _; refine wpList_store_new (l := jc (some ⟨p, 0, none⟩) i u) (l0 := jc none 0 oz) (ty := 93) rfl (.tmp 8) (.tmp 29) (by rfl) w5.heap.size rfl (by rfl) (by rfl) (by rw [jc_len]; exact sizeJ) (by rw [jc_len, jc_len]) (jc_one _ _ _) ?_)
    | (show wpList _ _ _ (Oper.mk (some 32) (.load _ _) _ _ _ _ :: _) _ _; refine wpList_yields (S := fun w' => KeyAt w' KX 0 x) (y_kyJ (by rfl) (.tmp 2) (by rfl) KX 0 (by rfl) x (fun _ h => h)) HC6.out.ck.kat ?_)
    | (go_at_call 40; refine (HH4.out _ HB6.out).mono ?_; rintro e w7 ⟨rfl, b7⟩; have HB7 := Lib.hid (HB6.out.trans (b7.mono HB6.out.size)); have HC7 := Lib.hid (HC6.out.keep b7); have HB8 := Lib.hid (HB7.out.alloc HB7.out.size (.cells (jc (some ⟨p, 0, none⟩) x.o v).toArray 93)); have HC8 := Lib.hid (HC7.out.alloc (.cells (jc (some ⟨p, 0, none⟩) x.o v).toArray 93)); have HM8 := Lib.hid ((HM6.out.keep b7).alloc (.cells (jc (some ⟨p, 0, none⟩) x.o v).toArray 93)); have HU8 := Lib.hid ((HU6.out.keep b7).alloc (.cells (jc (some ⟨p, 0, none⟩) x.o v).toArray 93)); have HV8 := Lib.hid (Blk.new w7 93 (jc (some ⟨p, 0, none⟩) x.o v).toArray); clear b7 hs1; have hm1 := HC8.out.cm.one)
    | (show wpList _ _ _ (Oper.mk none (.store _ (.tmp 9) (.tmp 34)) _ _ _ _ :: _) _ _; refine wpList_store_new (l := jc (some ⟨p, 0, none⟩) x.o v) (l0 := jc none 0 oz) (ty := 93) rfl (.tmp 9) (.tmp 34) (by rfl) w7.heap.size rfl (by rfl) (by rfl) (by rw [jc_len]; exact sizeJ) (by rw [jc_len, jc_len]) (jc_one _ _ _) ?_)
    | (show wpList _ _ _ (Oper.mk (some 36) (.load _ _) _ _ _ _ :: _) _ _; refine wpList_yields (S := fun w' => MgAt w' w3.heap.size 0 m') (y_mg (by rfl) (.tmp 7) (by rfl) w3.heap.size 0 (by rfl) m' (fun _ h => h)) HM8.out.mg ?_)
    | (show wpList _ _ _ (Oper.mk (some 38) (.load _ _) _ _ _ _ :: _) _ _; refine wpList_yields (S := fun w' => JAt w' w5.heap.size 0 (some ⟨p, 0, none⟩) i u) (y_nd (by rfl) (.tmp 8) (by rfl) w5.heap.size 0 (by rfl) (some ⟨p, 0, none⟩) i u (fun _ h => h)) HU8.out.jx ?_)
    | (show wpList _ _ _ (Oper.mk (some 39) (.load _ _) _ _ _ _ :: _) _ _; refine wpList_yields (S := fun w' => JAt w' w7.heap.size 0 (some ⟨p, 0, none⟩) x.o v) (y_nd (by rfl) (.tmp 9) (by rfl) w7.heap.size 0 (by rfl) (some ⟨p, 0, none⟩) x.o v (fun _ h => h)) HV8.out.jx ?_)
    | (show wpList _ _ _ (Oper.mk (some 40) (.build _ _) _ _ _ _ :: _) _ _; refine wpList_yields (S := fun _ => True) (y_bl4 (by rfl) (.tmp 36) (.tmp 37) (.tmp 38) (.tmp 39) (by rfl) (by rfl) (by rfl) (by rfl) (by rfl) (builtI m' md (some ⟨p, 0, none⟩) i u x.o v)) trivial ?_; have hil := ivc_len m' md (some ⟨p, 0, none⟩) i u x.o v zk)
    | (go_at_call 91; have HB9 := Lib.hid (HB8.out.alloc HB8.out.size (.cells (ivc m' md (some ⟨p, 0, none⟩) i u x.o v zk).toArray 99)); have HI9 := Lib.hid (show IvB ((w7.alloc (.cells (jc (some ⟨p, 0, none⟩) x.o v).toArray 93)).alloc (.cells (ivc m' md (some ⟨p, 0, none⟩) i u x.o v zk).toArray 99)) (w7.heap.size + 1) m' md (some ⟨p, 0, none⟩) i u x.o v zk from Blk.new_of (w7.alloc (.cells (jc (some ⟨p, 0, none⟩) x.o v).toArray 93)) 99 _ (by simp)); refine (HCO.out _ _ HI9.out).mono ?_; rintro e wa ⟨rfl, ia, fa⟩; have HIa := Lib.hid ia; have HBa := Lib.hid (HB9.out.trans (fr_below fa HB9.out.size (fun j hj e => by have := HB7.out.size; omega))); have HFa := Lib.hid fa; clear ia fa)
    | (go_at_call 71; refine (HGO.out _ _ HIa.out).mono ?_; rintro e wb ⟨rfl, ib, fb⟩; have HIb := Lib.hid ib; have HBb := Lib.hid (HBa.out.trans (fr_below fb HBa.out.size (fun j hj e => by have := HB7.out.size; omega))); clear ib fb)
    | (go_at_call 41; refine (HDO.out _ _ (Nat.le_trans HB7.out.size (Nat.le_succ _)) (HST.out.below HBb.out) HBb.out HIb.out).mono ?_; rintro e wc ⟨rfl, sc, fc⟩; have HSc := Lib.hid sc; have HFc := Lib.hid fc; clear sc fc))
  go_end0
  exact ⟨rfl, HSc.out, (Fr.of_below HBb.out : Fr (fun k => k ∈ ps) w _).then_ HFc.out (fun j hj e => e.resolve_left (by have := HB7.out.size; omega))⟩
set_option maxRecDepth 100000 in
set_option maxHeartbeats 4000000 in
theorem ic_yes_r_le (h : StAt w base p A cap ps os) (hc : Cp w MD S KX G I mt pt kt gt it md p x m i) (hg : goB md = true) (hgv : goV md = .func (.func 72) #[] #[]) (hmh : ∀ W, Below w.heap.size w W → Calls Tryd.prog 37 #[pv p, x.val] W fun e w' => e = .returned (.tuple #[]) ∧ Below W.heap.size W w') (m' : Mg) (hpr : ∀ W, Below w.heap.size w W → Calls Tryd.prog 38 #[pv p, m.val] W fun e w' => e = .returned m'.val ∧ Below W.heap.size W w') (u : Oj) (hru : ∀ W, Below w.heap.size w W → Calls Tryd.prog 39 #[pv p, .int .i64 i] W fun e w' => e = .returned (jv (some ⟨p, 0, none⟩) i u) ∧ Below W.heap.size W w') (v : Oj) (hct : ∀ W, Below w.heap.size w W → Calls Tryd.prog 40 #[pv p, x.val] W fun e w' => e = .returned (.tuple #[jv (some ⟨p, 0, none⟩) x.o v, .func (.func 91) #[] #[]]) ∧ Below W.heap.size W w') (v' : Oj) (hco : ∀ W g, IvB W g m' md (some ⟨p, 0, none⟩) i u x.o v zk → Calls Tryd.prog 91 #[.pointer (some ⟨g, 0, none⟩)] W fun e w' => e = .returned (.tuple #[]) ∧ IvB w' g m' md (some ⟨p, 0, none⟩) i u x.o v' zk ∧ Fr (fun k => k = g) W w') (u' : Oj) (k' : Ky) (hgo : ∀ W g, IvB W g m' md (some ⟨p, 0, none⟩) i u x.o v' zk → Calls Tryd.prog 72 #[.pointer (some ⟨g, 0, none⟩)] W fun e w' => e = .returned (.tuple #[]) ∧ IvB w' g m' md (some ⟨p, 0, none⟩) i u' x.o v' k' ∧ Fr (fun k => k = g) W w') (L : List Oj) (hdo : ∀ W g, w.heap.size ≤ g → StAt W base p A cap ps os → Below w.heap.size w W → IvB W g m' md (some ⟨p, 0, none⟩) i u' x.o v' k' → Calls Tryd.prog 41 #[.pointer (some ⟨g, 0, none⟩)] W fun e w' => e = .returned (.tuple #[]) ∧ StAt w' base p A cap ps L ∧ Fr (fun k => k = g ∨ k ∈ ps) W w') : Calls Tryd.prog 35 #[.pointer (some ⟨MD, 0, none⟩), .pointer (some ⟨S, 0, none⟩), .pointer (some ⟨KX, 0, none⟩), .pointer (some ⟨G, 0, none⟩), .pointer (some ⟨I, 0, none⟩)] w fun e w' => e = .returned (.tuple #[]) ∧ StAt w' base p A cap ps L ∧ Fr (fun k => k ∈ ps) w w' := by
  have hz := zM
  have hz2 := zJ
  have hzl := mz.len
  have hzj := jc_len none 0 oz
  have hml := m'.len
  have hul := jc_len (some ⟨p, 0, none⟩) i u
  have hvl := jc_len (some ⟨p, 0, none⟩) x.o v
  have hil := ivc_len m' md (some ⟨p, 0, none⟩) i u x.o v zk
  have HGB := Lib.hid hg
  have HC0 := Lib.hid hc
  have HB0 := Lib.hid (Below.refl w.heap.size w)
  have HH1 := Lib.hid hmh
  have HH2 := Lib.hid hpr
  have HH3 := Lib.hid hru
  have HH4 := Lib.hid hct
  have HST := Lib.hid h
  have HCO := Lib.hid hco
  have HGO := Lib.hid hgo
  have HGV := Lib.hid hgv
  have HDO := Lib.hid hdo
  clear h hco hgo hgv hdo
  clear hg hc hmh hpr hru hct
  go_enter Tryd.func35, Tryd.ntmps35
  go_wp2_with fail
  refine wp_region_only (S := fun w' => w'.cell? ⟨MD, 0, none⟩ = some (.int .i64 md)) (by kernel_rfl) (HC0.out.drew.cm.cell 0) (fun hHeld => ?_)
  refine wpAnyH_take (i := 1) (v := ?v85) rfl (by kernel_rfl) (by kernel_rfl) (by kernel_rfl) (fun _ _ _ h => h) (Or.inl ⟨by rfl, ?hy85⟩) hHeld ?rest85
  case hy85 =>
    intro w' hSw
    try dsimp only at hSw
    go_simp
    first | done | with_reducible rfl
  try simp only [Act.put, zq1, zq2, zq3, zq4, zq5, zq6]
  refine wpAnyH_ready (rs := [0]) (by kernel_rfl) (by simp) ?_
  refine AllReadyH.cons (by rfl) (fun K hK => ?_) AllReadyH.nil
  go_simp
  refine (gmmap_any _).mono ?_
  rintro e w1 ⟨rfl, hw1⟩
  have HMP := Lib.hid (show w1.heap[w.heap.size]? = some (.map gmE3 3) by subst hw1; exact heap_alloc_new _ _)
  have HB1 := Lib.hid (show Below w.heap.size w w1 by subst hw1; exact (below_drew HB0.out).alloc (below_drew HB0.out).size _)
  have HC1 := Lib.hid (show Cp w1 MD S KX G I mt pt kt gt it md p x m i by subst hw1; exact HC0.out.drew.alloc _)
  clear hw1 hHeld HB0 HC0
  go_wp2_with fail
  refine hK.out _ _ (HC1.out.cm.cell 0) (fun hHeld => ?_)
  clear hK K
  try simp only [Act.put, zq1, zq3, zq4, zq5, zq6]
  refine wpAnyH_ready (rs := [2]) (by kernel_rfl) (by simp) ?_
  refine AllReadyH.cons (by rfl) (fun K hK => ?_) AllReadyH.nil
  have hlk2 := go_look w1 _ md HMP.out
  rw [HGV.out, HGB.out] at hlk2
  go_simp
  refine hK.out _ _ (HC1.out.cm.cell 0) (fun hHeld => ?_)
  clear hK K
  try simp only [Act.put, zq1, zq2, zq3, zq4, zq5, zq6]
  refine wpAnyH_take (i := 3) (v := ?v86) rfl (by kernel_rfl) (by kernel_rfl) (by kernel_rfl) (fun _ _ _ h => h) (Or.inl ⟨by rfl, ?hy86⟩) hHeld ?rest86
  case hy86 =>
    intro w' hSw
    try dsimp only at hSw
    go_simp
    first | done | with_reducible rfl
  try simp only [Act.put, zq1, zq2, zq3, zq4, zq5, zq6]
  refine wpAnyH_take (i := 4) (v := ?v87) rfl (by kernel_rfl) (by kernel_rfl) (by kernel_rfl) (fun _ _ _ h => h) (Or.inl ⟨by rfl, ?hy87⟩) hHeld ?rest87
  case hy87 =>
    intro w' hSw
    try dsimp only at hSw
    go_simp
    first | done | with_reducible rfl
  try simp only [Act.put, zq1, zq2, zq3, zq4, zq5, zq6]
  refine wpAnyH_take (i := 5) (v := ?v88) rfl (by kernel_rfl) (by kernel_rfl) (by kernel_rfl) (fun _ _ _ h => h) (Or.inl ⟨by rfl, ?hy88⟩) hHeld ?rest88
  case hy88 =>
    intro w' hSw
    try dsimp only at hSw
    go_simp
    first | done | with_reducible rfl
  try simp only [Act.put, zq1, zq2, zq3, zq4, zq5, zq6]
  refine wpAnyH_take (i := 6) (v := ?v89) rfl (by kernel_rfl) (by kernel_rfl) (by kernel_rfl) (fun _ _ _ h => h) (Or.inl ⟨by rfl, ?hy89⟩) hHeld ?rest89
  case hy89 =>
    intro w' hSw
    try dsimp only at hSw
    go_simp
    first | done | with_reducible rfl
  try simp only [Act.put, zq1, zq2, zq3, zq4, zq5, zq6]
  refine wpAnyH_take (i := 7) (v := ?v90) rfl (by kernel_rfl) (by kernel_rfl) (by kernel_rfl) (fun _ _ _ h => h) (Or.inl ⟨by rfl, ?hy90⟩) hHeld ?rest90
  case hy90 =>
    intro w' hSw
    try dsimp only at hSw
    go_simp
    first | done | with_reducible rfl
  try simp only [Act.put, zq1, zq2, zq3, zq4, zq5, zq6]
  refine wpAnyH_done (by kernel_rfl) ?_ _
  refine OnlyN.normal ?_
  clear hHeld
  have hs1 := HC1.out.cs.one
  go_wp2_with (first
    | (show wpList _ _ _ (Oper.mk (some 22) (.load _ _) _ _ _ _ :: _) _ _; refine wpList_yields (S := fun w' => KeyAt w' KX 0 x) (y_kyJ (by rfl) (.tmp 2) (by rfl) KX 0 (by rfl) x (fun _ h => h)) HC1.out.ck.kat ?_)
    | (go_at_call 37; refine (HH1.out _ HB1.out).mono ?_; rintro e w2 ⟨rfl, b2⟩; have HB2 := Lib.hid (HB1.out.trans (b2.mono HB1.out.size)); have HC2 := Lib.hid (HC1.out.keep b2); clear b2; have hs1 := HC2.out.cs.one)
    | (show wpList _ _ _ (Oper.mk (some 25) (.load _ _) _ _ _ _ :: _) _ _; refine wpList_yields (S := fun w' => MgAt w' G 0 m) (y_mg (by rfl) (.tmp 3) (by rfl) G 0 (by rfl) m (fun _ h => h)) HC2.out.cg.mg ?_)
    | (go_at_call 38; refine (HH2.out _ HB2.out).mono ?_; rintro e w3 ⟨rfl, b3⟩; have HB3 := Lib.hid (HB2.out.trans (b3.mono HB2.out.size)); have HC3 := Lib.hid (HC2.out.keep b3); have HB4 := Lib.hid (HB3.out.alloc HB3.out.size (.cells m'.cells.toArray 38)); have HC4 := Lib.hid (HC3.out.alloc (.cells m'.cells.toArray 38)); have HM4 := Lib.hid (Blk.new w3 38 m'.cells.toArray); clear b3 hs1; have hs1 := HC4.out.cs.one; have hi1 := HC4.out.ci.one)
    | (show wpList _ _ _ (Oper.mk none (.store _ (.tmp 7) (.tmp 26)) _ _ _ _ :: _) _ _; refine wpList_store_new (l := m'.cells) (l0 := mz.cells) (ty := 38) rfl (.tmp 7) (.tmp 26) (by rfl) w3.heap.size rfl (by rfl) (by rfl) (by rw [Mg.len]; exact sizeM) (by rw [Mg.len, Mg.len]) (Mg.one _) ?_)
    | (go_at_call 39; refine (HH3.out _ HB4.out).mono ?_; rintro e w5 ⟨rfl, b5⟩; have HB5 := Lib.hid (HB4.out.trans (b5.mono HB4.out.size)); have HC5 := Lib.hid (HC4.out.keep b5); have HB6 := Lib.hid (HB5.out.alloc HB5.out.size (.cells (jc (some ⟨p, 0, none⟩) i u).toArray 93)); have HC6 := Lib.hid (HC5.out.alloc (.cells (jc (some ⟨p, 0, none⟩) i u).toArray 93)); have HM6 := Lib.hid ((HM4.out.keep b5).alloc (.cells (jc (some ⟨p, 0, none⟩) i u).toArray 93)); have HU6 := Lib.hid (Blk.new w5 93 (jc (some ⟨p, 0, none⟩) i u).toArray); clear b5 hs1 hi1; have hs1 := HC6.out.cs.one)
    | (show wpList _ _ _ (Oper.mk none (.store _ (.tmp 8) (.tmp 29)) _ _ _ _ :: _) _ _; refine wpList_store_new (l := jc (some ⟨p, 0, none⟩) i u) (l0 := jc none 0 oz) (ty := 93) rfl (.tmp 8) (.tmp 29) (by rfl) w5.heap.size rfl (by rfl) (by rfl) (by rw [jc_len]; exact sizeJ) (by rw [jc_len, jc_len]) (jc_one _ _ _) ?_)
    | (show wpList _ _ _ (Oper.mk (some 32) (.load _ _) _ _ _ _ :: _) _ _; refine wpList_yields (S := fun w' => KeyAt w' KX 0 x) (y_kyJ (by rfl) (.tmp 2) (by rfl) KX 0 (by rfl) x (fun _ h => h)) HC6.out.ck.kat ?_)
    | (go_at_call 40; refine (HH4.out _ HB6.out).mono ?_; rintro e w7 ⟨rfl, b7⟩; have HB7 := Lib.hid (HB6.out.trans (b7.mono HB6.out.size)); have HC7 := Lib.hid (HC6.out.keep b7); have HB8 := Lib.hid (HB7.out.alloc HB7.out.size (.cells (jc (some ⟨p, 0, none⟩) x.o v).toArray 93)); have HC8 := Lib.hid (HC7.out.alloc (.cells (jc (some ⟨p, 0, none⟩) x.o v).toArray 93)); have HM8 := Lib.hid ((HM6.out.keep b7).alloc (.cells (jc (some ⟨p, 0, none⟩) x.o v).toArray 93)); have HU8 := Lib.hid ((HU6.out.keep b7).alloc (.cells (jc (some ⟨p, 0, none⟩) x.o v).toArray 93)); have HV8 := Lib.hid (Blk.new w7 93 (jc (some ⟨p, 0, none⟩) x.o v).toArray); clear b7 hs1; have hm1 := HC8.out.cm.one)
    | (show wpList _ _ _ (Oper.mk none (.store _ (.tmp 9) (.tmp 34)) _ _ _ _ :: _) _ _; refine wpList_store_new (l := jc (some ⟨p, 0, none⟩) x.o v) (l0 := jc none 0 oz) (ty := 93) rfl (.tmp 9) (.tmp 34) (by rfl) w7.heap.size rfl (by rfl) (by rfl) (by rw [jc_len]; exact sizeJ) (by rw [jc_len, jc_len]) (jc_one _ _ _) ?_)
    | (show wpList _ _ _ (Oper.mk (some 36) (.load _ _) _ _ _ _ :: _) _ _; refine wpList_yields (S := fun w' => MgAt w' w3.heap.size 0 m') (y_mg (by rfl) (.tmp 7) (by rfl) w3.heap.size 0 (by rfl) m' (fun _ h => h)) HM8.out.mg ?_)
    | (show wpList _ _ _ (Oper.mk (some 38) (.load _ _) _ _ _ _ :: _) _ _; refine wpList_yields (S := fun w' => JAt w' w5.heap.size 0 (some ⟨p, 0, none⟩) i u) (y_nd (by rfl) (.tmp 8) (by rfl) w5.heap.size 0 (by rfl) (some ⟨p, 0, none⟩) i u (fun _ h => h)) HU8.out.jx ?_)
    | (show wpList _ _ _ (Oper.mk (some 39) (.load _ _) _ _ _ _ :: _) _ _; refine wpList_yields (S := fun w' => JAt w' w7.heap.size 0 (some ⟨p, 0, none⟩) x.o v) (y_nd (by rfl) (.tmp 9) (by rfl) w7.heap.size 0 (by rfl) (some ⟨p, 0, none⟩) x.o v (fun _ h => h)) HV8.out.jx ?_)
    | (show wpList _ _ _ (Oper.mk (some 40) (.build _ _) _ _ _ _ :: _) _ _; refine wpList_yields (S := fun _ => True) (y_bl4 (by rfl) (.tmp 36) (.tmp 37) (.tmp 38) (.tmp 39) (by rfl) (by rfl) (by rfl) (by rfl) (by rfl) (builtI m' md (some ⟨p, 0, none⟩) i u x.o v)) trivial ?_; have hil := ivc_len m' md (some ⟨p, 0, none⟩) i u x.o v zk)
    | (go_at_call 91; have HB9 := Lib.hid (HB8.out.alloc HB8.out.size (.cells (ivc m' md (some ⟨p, 0, none⟩) i u x.o v zk).toArray 99)); have HI9 := Lib.hid (show IvB ((w7.alloc (.cells (jc (some ⟨p, 0, none⟩) x.o v).toArray 93)).alloc (.cells (ivc m' md (some ⟨p, 0, none⟩) i u x.o v zk).toArray 99)) (w7.heap.size + 1) m' md (some ⟨p, 0, none⟩) i u x.o v zk from Blk.new_of (w7.alloc (.cells (jc (some ⟨p, 0, none⟩) x.o v).toArray 93)) 99 _ (by simp)); refine (HCO.out _ _ HI9.out).mono ?_; rintro e wa ⟨rfl, ia, fa⟩; have HIa := Lib.hid ia; have HBa := Lib.hid (HB9.out.trans (fr_below fa HB9.out.size (fun j hj e => by have := HB7.out.size; omega))); have HFa := Lib.hid fa; clear ia fa)
    | (go_at_call 72; refine (HGO.out _ _ HIa.out).mono ?_; rintro e wb ⟨rfl, ib, fb⟩; have HIb := Lib.hid ib; have HBb := Lib.hid (HBa.out.trans (fr_below fb HBa.out.size (fun j hj e => by have := HB7.out.size; omega))); clear ib fb)
    | (go_at_call 41; refine (HDO.out _ _ (Nat.le_trans HB7.out.size (Nat.le_succ _)) (HST.out.below HBb.out) HBb.out HIb.out).mono ?_; rintro e wc ⟨rfl, sc, fc⟩; have HSc := Lib.hid sc; have HFc := Lib.hid fc; clear sc fc))
  go_end0
  exact ⟨rfl, HSc.out, (Fr.of_below HBb.out : Fr (fun k => k ∈ ps) w _).then_ HFc.out (fun j hj e => e.resolve_left (by have := HB7.out.size; omega))⟩
end
end Go.Proofs.YtljfddeolapeaaaDoor

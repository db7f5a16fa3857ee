/- objects: Put. -/
import Derived.Test.YtlhlgfehbfankaaDoorOGet
import Derived.Test.YtlhlgfehbfankaaDoorRegU
import Derived.Test.YtlhlgfehbfankaaDoorKCou
namespace Go.Proofs.YtlhlgfehbfankaaDoor
open Go.RowKit
section
variable {ops : Array Oper} {o : Oper} {a : Act} {w : World} {K : Act → World → Prop} {Q : Exit → Act → World → Prop} {E : Prop}
theorem step_store_ob {t : TypeId} {b : Nat} {u0 : Oj} (hb : Blk w b t u0.cells.toArray) (hgd : o.guard = none) (x y : Operand) (ho : o.op = .store 34 x y) (hx : a.eval x = .pointer (some ⟨b, 0, none⟩)) (u : Oj) (hy : a.eval y = u.val)
    (h : K (a.put o.dst undef) (w.setRow b u.cells.toArray)) : if Region.wanted o (yielded ops a.tmps) = true then Oper.wp Tryd.prog o a w K Q else E := by
  rw [if_pos (by simp [Region.wanted, hgd])]
  exact wp_store_row 34 x y ho b u.cells.toArray hx hy t u0.cells.toArray hb (by rw [List.size_toArray, u.len]; exact size34) (by rw [List.size_toArray, List.size_toArray, u.len, u0.len]) u.allOne h
end
section
variable {w : World} {base p : Nat} {A : Option Addr} {cap : Nat} {ps : List Nat} {os : List Oj}
theorem nd_ne {ps : List Nat} (h : ps.Nodup) {i j : Nat} (hi : i < ps.length) (hj : j < ps.length) (hne : i ≠ j) : ps[i] ≠ ps[j] := by
  have hp := List.pairwise_iff_getElem.1 h
  rcases Nat.lt_or_gt_of_ne hne with hl | hl
  · exact hp i j hi hj hl
  · exact (hp j i hj hi hl).symm
theorem setRow_fr (w : World) (b : Nat) (c : Array Value) : Fr (fun k => k = b) w (w.setRow b c) := ⟨rfl, rfl, rfl, by simp [World.setRow], fun k _ hk => setRow_other w b k c hk⟩
theorem StAt.put (h : StAt w base p A cap ps os) (i : Nat) (hi : i < os.length) (hp : i < ps.length) (o : Oj) : StAt (w.setRow ps[i] o.cells.toArray) base p A cap ps (os.set i o) := by
  have hb := h.pps _ (List.getElem_mem hp)
  have hl : (os.set i o).length = os.length := List.length_set
  refine ⟨?_, ?_, by rw [hl]; exact h.len, ?_, h.pge, h.pn, h.pps, h.nd⟩
  · rw [hl]
    exact (setRow_other w _ p _ (Ne.symm hb.2.1)).trans h.blk
  · rw [hl]
    exact own_keep h.own fun k hk => setRow_other w _ k _ (by rintro rfl; exact hb.2.2 hk)
  · intro j h1 h2
    rw [hl] at h1
    by_cases hj : i = j
    · subst hj
      rw [List.getElem_set_self]
      exact setRow_heap w _ _ _ _ (0, 0) (h.obj i hi hp)
    · rw [List.getElem_set_ne hj]
      exact (setRow_other w _ _ _ (nd_ne h.nd hp h2 hj).symm).trans (h.obj j h1 h2)
set_option maxHeartbeats 1000000 in
theorem put_no (x : Value) (n : Int) (o : Oj) (e : Int) (he : e ≠ 0) (ha : ∀ W, Below w.heap.size w W → Calls Tryd.prog 36 #[x, .int .i64 n] W fun e' w' => e' = .returned (.int .i64 e) ∧ W = w') (hx : x = .pointer none ∨ ∃ q, x = pv q) :
    Calls Tryd.prog 18 #[x, .int .i64 n, o.val] w fun e' w' => e' = .returned (.int .i64 e) ∧ Below w.heap.size w w' := by
  have HA := Lib.hid ha
  have HB := Lib.hid ((Below.refl w.heap.size w).alloc (Nat.le_refl _) (.cells o.cells.toArray 34))
  have de : (e != 0) = true := by simpa using he
  clear ha he
  rcases hx with rfl | ⟨q, rfl⟩
  all_goals
    go_enter Tryd.func18, Tryd.ntmps18
    go_wp2_with (go_at_call 36; refine (HA.out _ HB.out).mono ?_; rintro e w1 ⟨rfl, rfl⟩)
    go_ret
    exact ⟨rfl, HB.out⟩
theorem put_nil (n : Int) (o : Oj) : Calls Tryd.prog 18 #[.pointer none, .int .i64 n, o.val] w fun e' w' => e' = .returned (.int .i64 1) ∧ Below w.heap.size w w' :=
  put_no _ n o 1 (by decide) (fun W _ => asked_nil n W) (.inl rfl)
theorem put_none (h : StAt w base p A cap ps []) (n : Int) (o : Oj) : Calls Tryd.prog 18 #[pv p, .int .i64 n, o.val] w fun e' w' => e' = .returned (.int .i64 1) ∧ Below w.heap.size w w' :=
  put_no _ n o 1 (by decide) (fun _ hb => asked_none (h.below hb) n) (.inr ⟨p, rfl⟩)
theorem put_out (h : StAt w base p A cap ps os) (hn : 0 < os.length) (n : Int) (hi : n < 0 ∨ (os.length : Int) ≤ n) (o : Oj) : Calls Tryd.prog 18 #[pv p, .int .i64 n, o.val] w fun e' w' => e' = .returned (.int .i64 4) ∧ Below w.heap.size w w' :=
  put_no _ n o 4 (by decide) (fun _ hb => asked_no (h.below hb) hn n hi) (.inr ⟨p, rfl⟩)
set_option maxRecDepth 100000 in
set_option maxHeartbeats 2000000 in
theorem put_bad (h : StAt w base p A cap ps os) (hT : Tab w) (i : Nat) (hi : i < os.length) (o : Oj) (hc : ¬ o.ok os.length) :
    Calls Tryd.prog 18 #[pv p, .int .i64 (i : Int), o.val] w fun e' w' => e' = .returned (.int .i64 2) ∧ Below w.heap.size w w' := by
  have HT := Lib.hid (hT.alloc (.cells o.cells.toArray 34))
  have HS := Lib.hid (h.alloc (.cells o.cells.toArray 34))
  have HB := Lib.hid ((Below.refl w.heap.size w).alloc (Nat.le_refl _) (.cells o.cells.toArray 34))
  have HG := Lib.hid (Blk.new w 34 o.cells.toArray)
  have HI := Lib.hid hi
  have HL := Lib.hid (fun (k : Nat) (hk : stHas p A ps k) => (h.lt k hk).2)
  have HC := Lib.hid hc
  clear hc
  have hil : (i : Int) < (os.length : Int) := by omega
  have hpi : i < ps.length := by rw [h.len]; exact hi
  obtain ⟨g, rfl, hr⟩ := HS.out.row hi
  have HPI := Lib.hid hpi
  obtain ⟨b, hb⟩ : ∃ b, b = ps[i]'HPI.out := ⟨_, rfl⟩
  have hr' := hr HPI.out
  rw [← hb] at hr'
  have HR := Lib.hid hr'
  have HBI := Lib.hid hb
  clear h hT hi hr hr' hpi hb
  go_enter Tryd.func18, Tryd.ntmps18
  go_wp2_with (go_at_call 36; refine (asked_ok HS.out i HI.out).mono ?_; rintro e w1 ⟨rfl, rfl⟩)
  generalize w.alloc (.cells o.cells.toArray 34) = w0 at HT HS HB HG HR ⊢
  refine wp_region_only (S := fun w' => ObAt w' w.heap.size 0 o ∧ w'.cell? ⟨p, 0, none⟩ = some (.slice (some ⟨g, 0, none⟩) os.length cap)) (by kernel_rfl) ⟨HG.out.drew.ob, HS.out.drew.c0⟩ (fun hHeld => ?_)
  refine wpAnyH_take (i := 0) rfl (by kernel_rfl) (by kernel_rfl) (by kernel_rfl) (fun _ _ _ h => h) (y_ob (by rfl) (.tmp 5) (by rfl) w.heap.size 0 (by rfl) o (fun _ h => h.1)) hHeld ?_
  try simp only [Act.put, List.getElem_toArray, List.getElem_cons_zero, List.setIfInBounds_toArray, List.set_cons_zero, List.set_cons_succ]
  refine wpAnyH_take (i := 1) (v := ?v1) rfl (by kernel_rfl) (by kernel_rfl) (by kernel_rfl) (fun _ _ _ h => h) (Or.inl ⟨by rfl, ?hy1⟩) hHeld ?rest1
  case hy1 =>
    intro w' hSw
    try dsimp only at hSw
    go_simp
    first | done | with_reducible rfl
  try simp only [Act.put, List.getElem_toArray, List.getElem_cons_succ, List.getElem_cons_zero, List.setIfInBounds_toArray, List.set_cons_zero, List.set_cons_succ]
  refine wpAnyH_take (i := 2) (v := ?v2) rfl (by kernel_rfl) (by kernel_rfl) (by kernel_rfl) (fun _ _ _ h => h) (Or.inl ⟨by rfl, ?hy2⟩) hHeld ?rest2
  case hy2 =>
    intro w' hSw
    try dsimp only at hSw
    go_simp
    first | done | with_reducible rfl
  try simp only [Act.put, List.getElem_toArray, List.getElem_cons_succ, List.getElem_cons_zero, List.setIfInBounds_toArray, List.set_cons_zero, List.set_cons_succ]
  refine wpAnyH_take (i := 3) (v := ?v3) rfl (by kernel_rfl) (by kernel_rfl) (by kernel_rfl) (fun _ _ _ h => h) (Or.inl ⟨by rfl, ?hy3⟩) hHeld ?rest3
  case hy3 =>
    intro w' hSw
    try dsimp only at hSw
    go_simp
    first | done | with_reducible rfl
  try simp only [Act.put, List.getElem_toArray, List.getElem_cons_succ, List.getElem_cons_zero, List.setIfInBounds_toArray, List.set_cons_zero, List.set_cons_succ]
  refine wpAnyH_take (i := 4) (v := ?v4) rfl (by kernel_rfl) (by kernel_rfl) (by kernel_rfl) (fun _ _ _ h => h) (Or.inl ⟨by rfl, ?hy4⟩) hHeld ?rest4
  case hy4 =>
    intro w' hSw
    try dsimp only at hSw
    go_simp
    first | done | with_reducible rfl
  try simp only [Act.put, List.getElem_toArray, List.getElem_cons_succ, List.getElem_cons_zero, List.setIfInBounds_toArray, List.set_cons_zero, List.set_cons_succ]
  refine wpAnyH_take (i := 5) (v := ?v5) rfl (by kernel_rfl) (by kernel_rfl) (by kernel_rfl) (fun _ _ _ h => h) (Or.inl ⟨by rfl, ?hy5⟩) hHeld ?rest5
  case hy5 =>
    intro w' hSw
    try dsimp only at hSw
    go_simp
    first | done | with_reducible rfl
  try simp only [Act.put, List.getElem_toArray, List.getElem_cons_succ, List.getElem_cons_zero, List.setIfInBounds_toArray, List.set_cons_zero, List.set_cons_succ]
  refine wpAnyH_ready (rs := [6]) (by kernel_rfl) (by simp) ?_
  refine AllReadyH.cons (by rfl) (fun K hK => ?_) AllReadyH.nil
  go_simp
  refine (Oj.chk_no HC.out ▸ check_any o os.length _ HT.out.drew).mono ?_
  rintro e y1 ⟨rfl, b1⟩
  have HB1 := Lib.hid ((below_drew HB.out).trans (b1.mono HB.out.size))
  have HS1 := Lib.hid (HS.out.drew.below b1)
  have HG1 := Lib.hid (HG.out.drew.keep b1)
  clear b1 hHeld
  go_wp2_with fail
  refine hK.out _ _ ⟨HG1.out.ob, HS1.out.c0⟩ (fun hHeld => ?_)
  clear hK K
  try simp only [Act.put, List.getElem_toArray, List.getElem_cons_succ, List.getElem_cons_zero, List.setIfInBounds_toArray, List.set_cons_zero, List.set_cons_succ]
  refine wpAnyH_take (i := 7) (v := ?v6) rfl (by kernel_rfl) (by kernel_rfl) (by kernel_rfl) (fun _ _ _ h => h) (Or.inl ⟨by rfl, ?hy6⟩) hHeld ?rest6
  case hy6 =>
    intro w' hSw
    try dsimp only at hSw
    go_simp
    first | done | with_reducible rfl
  try simp only [Act.put, List.getElem_toArray, List.getElem_cons_succ, List.getElem_cons_zero, List.setIfInBounds_toArray, List.set_cons_zero, List.set_cons_succ]
  refine wpAnyH_done (by kernel_rfl) ?_ _
  refine OnlyN.normal ?_
  clear hHeld
  go_wp2
  go_ret
  exact ⟨rfl, HB1.out⟩
set_option maxRecDepth 100000 in
set_option maxHeartbeats 2000000 in
theorem put_ok (h : StAt w base p A cap ps os) (hT : Tab w) (i : Nat) (hi : i < os.length) (o : Oj) (hc : o.ok os.length) :
    Calls Tryd.prog 18 #[pv p, .int .i64 (i : Int), o.val] w fun e' w' => e' = .returned (.int .i64 0) ∧ StAt w' base p A cap ps (os.set i o) ∧ Fr (fun k => k ∈ ps) w w' := by
  have HT := Lib.hid (hT.alloc (.cells o.cells.toArray 34))
  have HS := Lib.hid (h.alloc (.cells o.cells.toArray 34))
  have HB := Lib.hid ((Below.refl w.heap.size w).alloc (Nat.le_refl _) (.cells o.cells.toArray 34))
  have HG := Lib.hid (Blk.new w 34 o.cells.toArray)
  have HI := Lib.hid hi
  have HL := Lib.hid (fun (k : Nat) (hk : stHas p A ps k) => (h.lt k hk).2)
  have HC := Lib.hid hc
  clear hc
  have hil : (i : Int) < (os.length : Int) := by omega
  have hpi : i < ps.length := by rw [h.len]; exact hi
  obtain ⟨g, rfl, hr⟩ := HS.out.row hi
  have HPI := Lib.hid hpi
  obtain ⟨b, hb⟩ : ∃ b, b = ps[i]'HPI.out := ⟨_, rfl⟩
  have hr' := hr HPI.out
  rw [← hb] at hr'
  have HR := Lib.hid hr'
  have HBI := Lib.hid hb
  clear h hT hi hr hr' hpi hb
  go_enter Tryd.func18, Tryd.ntmps18
  go_wp2_with (go_at_call 36; refine (asked_ok HS.out i HI.out).mono ?_; rintro e w1 ⟨rfl, rfl⟩)
  generalize w.alloc (.cells o.cells.toArray 34) = w0 at HT HS HB HG HR ⊢
  refine wp_region_only (S := fun w' => ObAt w' w.heap.size 0 o ∧ w'.cell? ⟨p, 0, none⟩ = some (.slice (some ⟨g, 0, none⟩) os.length cap)) (by kernel_rfl) ⟨HG.out.drew.ob, HS.out.drew.c0⟩ (fun hHeld => ?_)
  refine wpAnyH_take (i := 0) rfl (by kernel_rfl) (by kernel_rfl) (by kernel_rfl) (fun _ _ _ h => h) (y_ob (by rfl) (.tmp 5) (by rfl) w.heap.size 0 (by rfl) o (fun _ h => h.1)) hHeld ?_
  try simp only [Act.put, List.getElem_toArray, List.getElem_cons_zero, List.setIfInBounds_toArray, List.set_cons_zero, List.set_cons_succ]
  refine wpAnyH_take (i := 1) (v := ?v7) rfl (by kernel_rfl) (by kernel_rfl) (by kernel_rfl) (fun _ _ _ h => h) (Or.inl ⟨by rfl, ?hy7⟩) hHeld ?rest7
  case hy7 =>
    intro w' hSw
    try dsimp only at hSw
    go_simp
    first | done | with_reducible rfl
  try simp only [Act.put, List.getElem_toArray, List.getElem_cons_succ, List.getElem_cons_zero, List.setIfInBounds_toArray, List.set_cons_zero, List.set_cons_succ]
  refine wpAnyH_take (i := 2) (v := ?v8) rfl (by kernel_rfl) (by kernel_rfl) (by kernel_rfl) (fun _ _ _ h => h) (Or.inl ⟨by rfl, ?hy8⟩) hHeld ?rest8
  case hy8 =>
    intro w' hSw
    try dsimp only at hSw
    go_simp
    first | done | with_reducible rfl
  try simp only [Act.put, List.getElem_toArray, List.getElem_cons_succ, List.getElem_cons_zero, List.setIfInBounds_toArray, List.set_cons_zero, List.set_cons_succ]
  refine wpAnyH_take (i := 3) (v := ?v9) rfl (by kernel_rfl) (by kernel_rfl) (by kernel_rfl) (fun _ _ _ h => h) (Or.inl ⟨by rfl, ?hy9⟩) hHeld ?rest9
  case hy9 =>
    intro w' hSw
    try dsimp only at hSw
    go_simp
    first | done | with_reducible rfl
  try simp only [Act.put, List.getElem_toArray, List.getElem_cons_succ, List.getElem_cons_zero, List.setIfInBounds_toArray, List.set_cons_zero, List.set_cons_succ]
  refine wpAnyH_take (i := 4) (v := ?v10) rfl (by kernel_rfl) (by kernel_rfl) (by kernel_rfl) (fun _ _ _ h => h) (Or.inl ⟨by rfl, ?hy10⟩) hHeld ?rest10
  case hy10 =>
    intro w' hSw
    try dsimp only at hSw
    go_simp
    first | done | with_reducible rfl
  try simp only [Act.put, List.getElem_toArray, List.getElem_cons_succ, List.getElem_cons_zero, List.setIfInBounds_toArray, List.set_cons_zero, List.set_cons_succ]
  refine wpAnyH_take (i := 5) (v := ?v11) rfl (by kernel_rfl) (by kernel_rfl) (by kernel_rfl) (fun _ _ _ h => h) (Or.inl ⟨by rfl, ?hy11⟩) hHeld ?rest11
  case hy11 =>
    intro w' hSw
    try dsimp only at hSw
    go_simp
    first | done | with_reducible rfl
  try simp only [Act.put, List.getElem_toArray, List.getElem_cons_succ, List.getElem_cons_zero, List.setIfInBounds_toArray, List.set_cons_zero, List.set_cons_succ]
  refine wpAnyH_ready (rs := [6]) (by kernel_rfl) (by simp) ?_
  refine AllReadyH.cons (by rfl) (fun K hK => ?_) AllReadyH.nil
  go_simp
  refine (Oj.chk_yes HC.out ▸ check_any o os.length _ HT.out.drew).mono ?_
  rintro e y1 ⟨rfl, b1⟩
  have HB1 := Lib.hid ((below_drew HB.out).trans (b1.mono HB.out.size))
  have HS1 := Lib.hid (HS.out.drew.below b1)
  have HG1 := Lib.hid (HG.out.drew.keep b1)
  clear b1 hHeld
  go_wp2_with fail
  refine hK.out _ _ ⟨HG1.out.ob, HS1.out.c0⟩ (fun hHeld => ?_)
  clear hK K
  try simp only [Act.put, List.getElem_toArray, List.getElem_cons_succ, List.getElem_cons_zero, List.setIfInBounds_toArray, List.set_cons_zero, List.set_cons_succ]
  refine wpAnyH_take (i := 7) (v := ?v12) rfl (by kernel_rfl) (by kernel_rfl) (by kernel_rfl) (fun _ _ _ h => h) (Or.inl ⟨by rfl, ?hy12⟩) hHeld ?rest12
  case hy12 =>
    intro w' hSw
    try dsimp only at hSw
    go_simp
    first | done | with_reducible rfl
  try simp only [Act.put, List.getElem_toArray, List.getElem_cons_succ, List.getElem_cons_zero, List.setIfInBounds_toArray, List.set_cons_zero, List.set_cons_succ]
  refine wpAnyH_done (by kernel_rfl) ?_ _
  refine OnlyN.normal ?_
  clear hHeld
  obtain ⟨g', hg', hr⟩ := HS1.out.row HI.out
  have hg'' : g = g' := by injection hg' with hg'; injection hg' with hg'
  subst hg''
  have hr' := hr HPI.out
  rw [← HBI.out] at hr'
  have HR1 := Lib.hid hr'
  have hbb := HS1.out.obj i HI.out HPI.out
  rw [← HBI.out] at hbb
  have HBB := Lib.hid hbb.drew
  clear hr hr' hbb hg' HR HS HT HG
  go_wp2_with fail
  refine wp_region_U (S := fun w' => ObAt w' w.heap.size 0 o ∧ w'.cell? ⟨p, 0, none⟩ = some (.slice (some ⟨g, 0, none⟩) os.length cap) ∧ w'.cell? ⟨g, i, none⟩ = some (pv b)) 9 (by kernel_rfl) ⟨HG1.out.drew.ob, HS1.out.drew.c0, HR1.out⟩ (fun hHeld => ?_)
  refine wpAnyU_take (i := 0) (v := ?v13) rfl (by kernel_rfl) (by kernel_rfl) (by kernel_rfl) (by kernel_rfl) (fun _ _ _ h => h) (Or.inl ⟨by rfl, ?hy13⟩) hHeld ?rest13
  case hy13 =>
    intro w' hSw
    try dsimp only at hSw
    go_simp
    first | done | with_reducible rfl
  try simp only [Act.put, List.getElem_toArray, List.getElem_cons_zero, List.setIfInBounds_toArray, List.set_cons_zero, List.set_cons_succ]
  refine wpAnyU_take (i := 1) (v := ?v14) rfl (by kernel_rfl) (by kernel_rfl) (by kernel_rfl) (by kernel_rfl) (fun _ _ _ h => h) (Or.inl ⟨by rfl, ?hy14⟩) hHeld ?rest14
  case hy14 =>
    intro w' hSw
    try dsimp only at hSw
    go_simp
    first | done | with_reducible rfl
  try simp only [Act.put, List.getElem_toArray, List.getElem_cons_succ, List.getElem_cons_zero, List.setIfInBounds_toArray, List.set_cons_zero, List.set_cons_succ]
  refine wpAnyU_take (i := 2) (v := ?v15) rfl (by kernel_rfl) (by kernel_rfl) (by kernel_rfl) (by kernel_rfl) (fun _ _ _ h => h) (Or.inl ⟨by rfl, ?hy15⟩) hHeld ?rest15
  case hy15 =>
    intro w' hSw
    try dsimp only at hSw
    go_simp
    first | done | with_reducible rfl
  try simp only [Act.put, List.getElem_toArray, List.getElem_cons_succ, List.getElem_cons_zero, List.setIfInBounds_toArray, List.set_cons_zero, List.set_cons_succ]
  refine wpAnyU_take (i := 3) (v := ?v16) rfl (by kernel_rfl) (by kernel_rfl) (by kernel_rfl) (by kernel_rfl) (fun _ _ _ h => h) (Or.inl ⟨by rfl, ?hy16⟩) hHeld ?rest16
  case hy16 =>
    intro w' hSw
    try dsimp only at hSw
    go_simp
    first | done | with_reducible rfl
  try simp only [Act.put, List.getElem_toArray, List.getElem_cons_succ, List.getElem_cons_zero, List.setIfInBounds_toArray, List.set_cons_zero, List.set_cons_succ]
  refine wpAnyU_take (i := 4) (v := ?v17) rfl (by kernel_rfl) (by kernel_rfl) (by kernel_rfl) (by kernel_rfl) (fun _ _ _ h => h) (Or.inl ⟨by rfl, ?hy17⟩) hHeld ?rest17
  case hy17 =>
    intro w' hSw
    try dsimp only at hSw
    go_simp
    first | done | with_reducible rfl
  try simp only [Act.put, List.getElem_toArray, List.getElem_cons_succ, List.getElem_cons_zero, List.setIfInBounds_toArray, List.set_cons_zero, List.set_cons_succ]
  refine wpAnyU_take (i := 5) (v := ?v18) rfl (by kernel_rfl) (by kernel_rfl) (by kernel_rfl) (by kernel_rfl) (fun _ _ _ h => h) (Or.inl ⟨by rfl, ?hy18⟩) hHeld ?rest18
  case hy18 =>
    intro w' hSw
    try dsimp only at hSw
    go_simp
    first | done | with_reducible rfl
  try simp only [Act.put, List.getElem_toArray, List.getElem_cons_succ, List.getElem_cons_zero, List.setIfInBounds_toArray, List.set_cons_zero, List.set_cons_succ]
  refine wpAnyU_take (i := 6) (v := ?v19) rfl (by kernel_rfl) (by kernel_rfl) (by kernel_rfl) (by kernel_rfl) (fun _ _ _ h => h) (Or.inl ⟨by rfl, ?hy19⟩) hHeld ?rest19
  case hy19 =>
    intro w' hSw
    try dsimp only at hSw
    go_simp
    first | done | with_reducible rfl
  try simp only [Act.put, List.getElem_toArray, List.getElem_cons_succ, List.getElem_cons_zero, List.setIfInBounds_toArray, List.set_cons_zero, List.set_cons_succ]
  refine wpAnyU_take (i := 7) rfl (by kernel_rfl) (by kernel_rfl) (by kernel_rfl) (by kernel_rfl) (fun _ _ _ h => h) (y_ob (by rfl) (.tmp 5) (by rfl) w.heap.size 0 (by rfl) o (fun _ h => h.1)) hHeld ?_
  try simp only [Act.put, List.getElem_toArray, List.getElem_cons_succ, List.getElem_cons_zero, List.setIfInBounds_toArray, List.set_cons_zero, List.set_cons_succ]
  refine wpAnyU_take (i := 8) (v := ?v20) rfl (by kernel_rfl) (by kernel_rfl) (by kernel_rfl) (by kernel_rfl) (fun _ _ _ h => h) (Or.inl ⟨by rfl, ?hy20⟩) hHeld ?rest20
  case hy20 =>
    intro w' hSw
    try dsimp only at hSw
    go_simp
    first | done | with_reducible rfl
  try simp only [Act.put, List.getElem_toArray, List.getElem_cons_succ, List.getElem_cons_zero, List.setIfInBounds_toArray, List.set_cons_zero, List.set_cons_succ]
  refine wpAnyU_one (i := 9) (by kernel_rfl) (by rfl) (fun K hK => ?_)
  refine step_store_ob HBB.out rfl (.tmp 33) (.tmp 32) rfl rfl o rfl ?_
  refine hK.out _ _ (.inl rfl) (fun hHeld => ?_)
  clear hK K
  try simp only [Act.put, List.getElem_toArray, List.getElem_cons_succ, List.getElem_cons_zero]
  refine wpAnyU_done (by kernel_rfl) ?_ _
  refine OnlyN.normal ?_
  clear hHeld
  go_wp2
  go_ret
  have hput := HS1.out.drew.put i HI.out HPI.out o
  rw [← HBI.out] at hput
  refine ⟨rfl, hput, ?_⟩
  have hbm : b ∈ ps := by rw [HBI.out]; exact List.getElem_mem HPI.out
  exact ((Fr.of_below HB1.out).drew.trans ((setRow_fr _ b _).mono fun k _ hk => by rw [hk]; exact hbm))
end
end Go.Proofs.YtlhlgfehbfankaaDoor

/- The law KeysOrder returns true for every input: keys.Order of any three keys is the definition's, turns round with them, and says 0 of the same key alone. No condition but that the listed variables read as the program's own text lays them; the card ties them to it. -/
import Derived.Test.YtmpibbgciajnkaaDoorKAny
import Derived.Test.YtmpibbgciajnkaaDoorKFr
import Derived.Test.YtmpibbgciajnkaaDoorRegIn
import Derived.Test.YtmpibbgciajnkaaDoorKOrd
namespace Go.Proofs.YtmpibbgciajnkaaDoor.keysOrder
open Go.ChangeShapes Go.WideShapes Go.ChangeAt Go.RowKit
attribute [local go_sem] Oper.semAt_some
theorem cmV_cases (a b : Int) : cmV a b = -1 ∨ cmV a b = 0 ∨ cmV a b = 1 := by unfold cmV; split; exact .inl rfl; split; exact .inr (.inr rfl); exact .inr (.inl rfl)
theorem thV_cases {q : Int} (h : q = -1 ∨ q = 0 ∨ q = 1) (a b : Int) : thV q a b = -1 ∨ thV q a b = 0 ∨ thV q a b = 1 := by
  rcases h with rfl | rfl | rfl
  · exact .inl (thV_m _ _)
  · rw [thV_0]; exact cmV_cases a b
  · exact .inr (.inr (thV_p _ _))
theorem kOrd_cases (a b : Ky) : kOrd a b = -1 ∨ kOrd a b = 0 ∨ kOrd a b = 1 := thV_cases (thV_cases (thV_cases (thV_cases (thV_cases (cmV_cases _ _) _ _) _ _) _ _) _ _) _ _
theorem cmV_neg (a b : Int) : cmV b a = -cmV a b := by
  rcases Int.lt_trichotomy a b with h | h | h
  · rw [cmV_lt h, cmV_gt h]; rfl
  · subst h; rw [cmV_eq]; rfl
  · rw [cmV_lt h, cmV_gt h]
theorem thV_neg {p q : Int} (h : p = -q) (a b : Int) : thV p b a = -thV q a b := by
  subst h
  by_cases hq : q = 0
  · subst hq
    show thV 0 b a = -thV 0 a b
    rw [thV_0, thV_0, cmV_neg]
  · unfold thV
    rw [if_neg hq, if_neg (by omega)]
theorem kOrd_neg (a b : Ky) : kOrd b a = -kOrd a b := thV_neg (thV_neg (thV_neg (thV_neg (thV_neg (cmV_neg _ _) _ _) _ _) _ _) _ _) _ _
theorem cmV_zero {a b : Int} (h : cmV a b = 0) : a = b := by
  rcases Int.lt_trichotomy a b with h' | h' | h'
  · rw [cmV_lt h'] at h; cases h
  · exact h'
  · rw [cmV_gt h'] at h; cases h
theorem thV_zero {q a b : Int} (h : thV q a b = 0) : q = 0 ∧ a = b := by
  unfold thV at h
  split at h
  · rename_i hq; exact ⟨hq, cmV_zero h⟩
  · rename_i hq; exact absurd h hq
theorem kOrd_zero {a b : Ky} (h : kOrd a b = 0) : a = b := by
  obtain ⟨h, e5⟩ := thV_zero h
  obtain ⟨h, e4⟩ := thV_zero h
  obtain ⟨h, e3⟩ := thV_zero h
  obtain ⟨h, e2⟩ := thV_zero h
  obtain ⟨h, e1⟩ := thV_zero h
  have e0 := cmV_zero h
  obtain ⟨k, o, c, l, r, v⟩ := a
  simp only at e0 e1 e2 e3 e4 e5
  subst e0 e1 e2 e3 e4 e5
  rfl
theorem kOrd_self (a : Ky) : kOrd a a = 0 := by simp only [kOrd, cmV_eq, thV_0]
theorem first_diff {a b : Ky} (h : a ≠ b) : a.k ≠ b.k ∨ (a.k = b.k ∧ a.o ≠ b.o) ∨ (a.k = b.k ∧ a.o = b.o ∧ a.c ≠ b.c) ∨ (a.k = b.k ∧ a.o = b.o ∧ a.c = b.c ∧ a.l ≠ b.l) ∨ (a.k = b.k ∧ a.o = b.o ∧ a.c = b.c ∧ a.l = b.l ∧ a.r ≠ b.r) ∨ (a.k = b.k ∧ a.o = b.o ∧ a.c = b.c ∧ a.l = b.l ∧ a.r = b.r ∧ a.v ≠ b.v) := by
  by_cases h0 : a.k = b.k
  · by_cases h1 : a.o = b.o
    · by_cases h2 : a.c = b.c
      · by_cases h3 : a.l = b.l
        · by_cases h4 : a.r = b.r
          · by_cases h5 : a.v = b.v
            · refine absurd ?_ h
              obtain ⟨k, o, c, l, r, v⟩ := a
              simp only at h0 h1 h2 h3 h4 h5
              subst h0 h1 h2 h3 h4 h5
              rfl
            · exact .inr (.inr (.inr (.inr (.inr ⟨h0, h1, h2, h3, h4, h5⟩))))
          · exact .inr (.inr (.inr (.inr (.inl ⟨h0, h1, h2, h3, h4⟩))))
        · exact .inr (.inr (.inr (.inl ⟨h0, h1, h2, h3⟩)))
      · exact .inr (.inr (.inl ⟨h0, h1, h2⟩))
    · exact .inr (.inl ⟨h0, h1⟩)
  · exact .inl h0
theorem sgn_any (n : Int) (h : n = -1 ∨ n = 0 ∨ n = 1) (w : World) : Calls Tryd.prog 29 #[.int .i64 n] w fun e w' => e = .returned (.int .i64 n) ∧ Below w.heap.size w w' := by
  rcases h with rfl | rfl | rfl
  · go_enter Tryd.func29, Tryd.ntmps29
    go_wp2
    go_ret
    exact ⟨rfl, Below.refl _ _⟩
  · go_enter Tryd.func29, Tryd.ntmps29
    go_wp2
    go_ret
    exact ⟨rfl, Below.refl _ _⟩
  · go_enter Tryd.func29, Tryd.ntmps29
    go_wp2
    go_ret
    exact ⟨rfl, Below.refl _ _⟩
set_option maxRecDepth 100000 in
set_option maxHeartbeats 2000000 in
theorem walk0 (w : World) (hT : Tab w) (a b c : Ky) :
    Calls Tryd.prog 10 #[a.val, b.val, c.val] w fun e w' => e = .returned (.bool true) ∧ Below w.heap.size w w' := by
  have HT0 := Lib.hid (((hT.alloc (.cells (kc a.k a.o a.c a.l a.r a.v) 25)).alloc (.cells (kc b.k b.o b.c b.l b.r b.v) 25)).alloc (.cells (kc c.k c.o c.c c.l c.r c.v) 25))
  have HB0 := Lib.hid ((((Below.refl w.heap.size w).alloc (Nat.le_refl _) (.cells (kc a.k a.o a.c a.l a.r a.v) 25)).alloc (by simp) (.cells (kc b.k b.o b.c b.l b.r b.v) 25)).alloc (by simp; omega) (.cells (kc c.k c.o c.c c.l c.r c.v) 25))
  have G1 := Lib.hid (((show Blk (w.alloc (.cells (kc a.k a.o a.c a.l a.r a.v) 25)) (w.heap.size) 25 (kc a.k a.o a.c a.l a.r a.v) from (by have := Blk.new w 25 (kc a.k a.o a.c a.l a.r a.v); simpa using this)).alloc (.cells (kc b.k b.o b.c b.l b.r b.v) 25)).alloc (.cells (kc c.k c.o c.c c.l c.r c.v) 25))
  have G2 := Lib.hid ((show Blk ((w.alloc (.cells (kc a.k a.o a.c a.l a.r a.v) 25)).alloc (.cells (kc b.k b.o b.c b.l b.r b.v) 25)) (w.heap.size + 1) 25 (kc b.k b.o b.c b.l b.r b.v) from (by have := Blk.new (w.alloc (.cells (kc a.k a.o a.c a.l a.r a.v) 25)) 25 (kc b.k b.o b.c b.l b.r b.v); simpa using this)).alloc (.cells (kc c.k c.o c.c c.l c.r c.v) 25))
  have G3 := Lib.hid (show Blk (((w.alloc (.cells (kc a.k a.o a.c a.l a.r a.v) 25)).alloc (.cells (kc b.k b.o b.c b.l b.r b.v) 25)).alloc (.cells (kc c.k c.o c.c c.l c.r c.v) 25)) (w.heap.size + 1 + 1) 25 (kc c.k c.o c.c c.l c.r c.v) from (by have := Blk.new ((w.alloc (.cells (kc a.k a.o a.c a.l a.r a.v) 25)).alloc (.cells (kc b.k b.o b.c b.l b.r b.v) 25)) 25 (kc c.k c.o c.c c.l c.r c.v); simpa using this))
  clear hT
  go_enter Tryd.func10, Tryd.ntmps10
  go_wp2
  generalize ((w.alloc (.cells (kc a.k a.o a.c a.l a.r a.v) 25)).alloc (.cells (kc b.k b.o b.c b.l b.r b.v) 25)).alloc (.cells (kc c.k c.o c.c c.l c.r c.v) 25) = w0 at HT0 HB0 G1 G2 G3 ⊢
  refine wp_region_only (S := fun w' => (w'.cell? ⟨w.heap.size, 0, none⟩ = some (.int .i64 a.k) ∧ w'.cell? ⟨w.heap.size, 1, none⟩ = some (.int .i64 a.o) ∧ w'.cell? ⟨w.heap.size, 2, none⟩ = some (.int .i64 a.c) ∧ w'.cell? ⟨w.heap.size, 3, none⟩ = some (.int .i64 a.l) ∧ w'.cell? ⟨w.heap.size, 4, none⟩ = some (.int .i64 a.r) ∧ w'.cell? ⟨w.heap.size, 5, none⟩ = some (.int .i64 a.v)) ∧ (w'.cell? ⟨w.heap.size + 1, 0, none⟩ = some (.int .i64 b.k) ∧ w'.cell? ⟨w.heap.size + 1, 1, none⟩ = some (.int .i64 b.o) ∧ w'.cell? ⟨w.heap.size + 1, 2, none⟩ = some (.int .i64 b.c) ∧ w'.cell? ⟨w.heap.size + 1, 3, none⟩ = some (.int .i64 b.l) ∧ w'.cell? ⟨w.heap.size + 1, 4, none⟩ = some (.int .i64 b.r) ∧ w'.cell? ⟨w.heap.size + 1, 5, none⟩ = some (.int .i64 b.v)) ∧ (w'.cell? ⟨w.heap.size + 1 + 1, 0, none⟩ = some (.int .i64 c.k) ∧ w'.cell? ⟨w.heap.size + 1 + 1, 1, none⟩ = some (.int .i64 c.o) ∧ w'.cell? ⟨w.heap.size + 1 + 1, 2, none⟩ = some (.int .i64 c.c) ∧ w'.cell? ⟨w.heap.size + 1 + 1, 3, none⟩ = some (.int .i64 c.l) ∧ w'.cell? ⟨w.heap.size + 1 + 1, 4, none⟩ = some (.int .i64 c.r) ∧ w'.cell? ⟨w.heap.size + 1 + 1, 5, none⟩ = some (.int .i64 c.v))) (by kernel_rfl) ⟨G1.out.drew.six, G2.out.drew.six, G3.out.drew.six⟩ (fun hHeld => ?_)
  refine wpAnyH_take (i := 0) (v := ?v69) rfl (by kernel_rfl) (by kernel_rfl) (by kernel_rfl) (fun _ _ _ h => h) (Or.inl ⟨by rfl, ?hy69⟩) hHeld ?rest69
  case hy69 =>
    intro w' hSw
    try dsimp only at hSw
    go_simp
    first | done | with_reducible rfl
  try simp only [Act.put, List.getElem_toArray, List.getElem_cons_zero, List.setIfInBounds_toArray, List.set_cons_zero, List.set_cons_succ]
  refine wpAnyH_take (i := 1) (v := ?v70) rfl (by kernel_rfl) (by kernel_rfl) (by kernel_rfl) (fun _ _ _ h => h) (Or.inl ⟨by rfl, ?hy70⟩) hHeld ?rest70
  case hy70 =>
    intro w' hSw
    try dsimp only at hSw
    go_simp
    first | done | with_reducible rfl
  try simp only [Act.put, List.getElem_toArray, List.getElem_cons_succ, List.getElem_cons_zero, List.setIfInBounds_toArray, List.set_cons_zero, List.set_cons_succ]
  refine wpAnyH_take (i := 2) (v := ?v71) rfl (by kernel_rfl) (by kernel_rfl) (by kernel_rfl) (fun _ _ _ h => h) (Or.inl ⟨by rfl, ?hy71⟩) hHeld ?rest71
  case hy71 =>
    intro w' hSw
    try dsimp only at hSw
    go_simp
    first | done | with_reducible rfl
  try simp only [Act.put, List.getElem_toArray, List.getElem_cons_succ, List.getElem_cons_zero, List.setIfInBounds_toArray, List.set_cons_zero, List.set_cons_succ]
  refine wpAnyH_take (i := 5) (v := ?v72) rfl (by kernel_rfl) (by kernel_rfl) (by kernel_rfl) (fun _ _ _ h => h) (Or.inl ⟨by rfl, ?hy72⟩) hHeld ?rest72
  case hy72 =>
    intro w' hSw
    try dsimp only at hSw
    go_simp
    first | done | with_reducible rfl
  try simp only [Act.put, List.getElem_toArray, List.getElem_cons_succ, List.getElem_cons_zero, List.setIfInBounds_toArray, List.set_cons_zero, List.set_cons_succ]
  refine wpAnyH_take (i := 6) (v := ?v73) rfl (by kernel_rfl) (by kernel_rfl) (by kernel_rfl) (fun _ _ _ h => h) (Or.inl ⟨by rfl, ?hy73⟩) hHeld ?rest73
  case hy73 =>
    intro w' hSw
    try dsimp only at hSw
    go_simp
    first | done | with_reducible rfl
  try simp only [Act.put, List.getElem_toArray, List.getElem_cons_succ, List.getElem_cons_zero, List.setIfInBounds_toArray, List.set_cons_zero, List.set_cons_succ]
  refine wpAnyH_take (i := 7) (v := ?v74) rfl (by kernel_rfl) (by kernel_rfl) (by kernel_rfl) (fun _ _ _ h => h) (Or.inl ⟨by rfl, ?hy74⟩) hHeld ?rest74
  case hy74 =>
    intro w' hSw
    try dsimp only at hSw
    go_simp
    first | done | with_reducible rfl
  try simp only [Act.put, List.getElem_toArray, List.getElem_cons_succ, List.getElem_cons_zero, List.setIfInBounds_toArray, List.set_cons_zero, List.set_cons_succ]
  refine wpAnyH_take (i := 10) (v := ?v75) rfl (by kernel_rfl) (by kernel_rfl) (by kernel_rfl) (fun _ _ _ h => h) (Or.inl ⟨by rfl, ?hy75⟩) hHeld ?rest75
  case hy75 =>
    intro w' hSw
    try dsimp only at hSw
    go_simp
    first | done | with_reducible rfl
  try simp only [Act.put, List.getElem_toArray, List.getElem_cons_succ, List.getElem_cons_zero, List.setIfInBounds_toArray, List.set_cons_zero, List.set_cons_succ]
  refine wpAnyH_take (i := 11) (v := ?v76) rfl (by kernel_rfl) (by kernel_rfl) (by kernel_rfl) (fun _ _ _ h => h) (Or.inl ⟨by rfl, ?hy76⟩) hHeld ?rest76
  case hy76 =>
    intro w' hSw
    try dsimp only at hSw
    go_simp
    first | done | with_reducible rfl
  try simp only [Act.put, List.getElem_toArray, List.getElem_cons_succ, List.getElem_cons_zero, List.setIfInBounds_toArray, List.set_cons_zero, List.set_cons_succ]
  refine wpAnyH_take (i := 12) (v := ?v77) rfl (by kernel_rfl) (by kernel_rfl) (by kernel_rfl) (fun _ _ _ h => h) (Or.inl ⟨by rfl, ?hy77⟩) hHeld ?rest77
  case hy77 =>
    intro w' hSw
    try dsimp only at hSw
    go_simp
    first | done | with_reducible rfl
  try simp only [Act.put, List.getElem_toArray, List.getElem_cons_succ, List.getElem_cons_zero, List.setIfInBounds_toArray, List.set_cons_zero, List.set_cons_succ]
  refine wpAnyH_ready (rs := [3]) (by kernel_rfl) (by simp) ?_
  refine AllReadyH.cons (by rfl) (fun K hK => ?_) AllReadyH.nil
  go_simp
  refine (kord_any a b _).mono ?_
  rintro e y1 ⟨rfl, b1⟩
  have HB_1 := Lib.hid ((below_drew HB0.out).trans (b1.mono HB0.out.size))
  have HT_1 := Lib.hid ((HT0.out.drew).below b1)
  have HG0_1 := Lib.hid ((G1.out.drew).keep b1)
  have HG1_1 := Lib.hid ((G2.out.drew).keep b1)
  have HG2_1 := Lib.hid ((G3.out.drew).keep b1)
  clear b1 hHeld
  go_wp2_with fail
  refine hK.out _ _ ⟨HG0_1.out.six, HG1_1.out.six, HG2_1.out.six⟩ (fun hHeld => ?_)
  clear hK K
  try simp only [Act.put, List.getElem_toArray, List.getElem_cons_succ, List.getElem_cons_zero, List.setIfInBounds_toArray, List.set_cons_zero, List.set_cons_succ]
  refine wpAnyH_ready (rs := [4]) (by kernel_rfl) (by simp) ?_
  refine AllReadyH.cons (by rfl) (fun K hK => ?_) AllReadyH.nil
  go_simp
  refine (sgn_any _ (kOrd_cases a b) _).mono ?_
  rintro e y2 ⟨rfl, b2⟩
  have HB_2 := Lib.hid (HB_1.out.trans (b2.mono HB_1.out.size))
  have HT_2 := Lib.hid ((HT_1.out).below b2)
  have HG0_2 := Lib.hid ((HG0_1.out).keep b2)
  have HG1_2 := Lib.hid ((HG1_1.out).keep b2)
  have HG2_2 := Lib.hid ((HG2_1.out).keep b2)
  clear b2 hHeld
  clear HB_1 HT_1 HG0_1 HG1_1 HG2_1
  go_wp2_with fail
  refine hK.out _ _ ⟨HG0_2.out.six, HG1_2.out.six, HG2_2.out.six⟩ (fun hHeld => ?_)
  clear hK K
  try simp only [Act.put, List.getElem_toArray, List.getElem_cons_succ, List.getElem_cons_zero, List.setIfInBounds_toArray, List.set_cons_zero, List.set_cons_succ]
  refine wpAnyH_ready (rs := [8]) (by kernel_rfl) (by simp) ?_
  refine AllReadyH.cons (by rfl) (fun K hK => ?_) AllReadyH.nil
  go_simp
  refine (kord_any b c _).mono ?_
  rintro e y3 ⟨rfl, b3⟩
  have HB_3 := Lib.hid (HB_2.out.trans (b3.mono HB_2.out.size))
  have HT_3 := Lib.hid ((HT_2.out).below b3)
  have HG0_3 := Lib.hid ((HG0_2.out).keep b3)
  have HG1_3 := Lib.hid ((HG1_2.out).keep b3)
  have HG2_3 := Lib.hid ((HG2_2.out).keep b3)
  clear b3 hHeld
  clear HB_2 HT_2 HG0_2 HG1_2 HG2_2
  go_wp2_with fail
  refine hK.out _ _ ⟨HG0_3.out.six, HG1_3.out.six, HG2_3.out.six⟩ (fun hHeld => ?_)
  clear hK K
  try simp only [Act.put, List.getElem_toArray, List.getElem_cons_succ, List.getElem_cons_zero, List.setIfInBounds_toArray, List.set_cons_zero, List.set_cons_succ]
  refine wpAnyH_ready (rs := [9]) (by kernel_rfl) (by simp) ?_
  refine AllReadyH.cons (by rfl) (fun K hK => ?_) AllReadyH.nil
  go_simp
  refine (sgn_any _ (kOrd_cases b c) _).mono ?_
  rintro e y4 ⟨rfl, b4⟩
  have HB_4 := Lib.hid (HB_3.out.trans (b4.mono HB_3.out.size))
  have HT_4 := Lib.hid ((HT_3.out).below b4)
  have HG0_4 := Lib.hid ((HG0_3.out).keep b4)
  have HG1_4 := Lib.hid ((HG1_3.out).keep b4)
  have HG2_4 := Lib.hid ((HG2_3.out).keep b4)
  clear b4 hHeld
  clear HB_3 HT_3 HG0_3 HG1_3 HG2_3
  go_wp2_with fail
  refine hK.out _ _ ⟨HG0_4.out.six, HG1_4.out.six, HG2_4.out.six⟩ (fun hHeld => ?_)
  clear hK K
  try simp only [Act.put, List.getElem_toArray, List.getElem_cons_succ, List.getElem_cons_zero, List.setIfInBounds_toArray, List.set_cons_zero, List.set_cons_succ]
  refine wpAnyH_ready (rs := [13]) (by kernel_rfl) (by simp) ?_
  refine AllReadyH.cons (by rfl) (fun K hK => ?_) AllReadyH.nil
  go_simp
  refine (kord_any a c _).mono ?_
  rintro e y5 ⟨rfl, b5⟩
  have HB_5 := Lib.hid (HB_4.out.trans (b5.mono HB_4.out.size))
  have HT_5 := Lib.hid ((HT_4.out).below b5)
  have HG0_5 := Lib.hid ((HG0_4.out).keep b5)
  have HG1_5 := Lib.hid ((HG1_4.out).keep b5)
  have HG2_5 := Lib.hid ((HG2_4.out).keep b5)
  clear b5 hHeld
  clear HB_4 HT_4 HG0_4 HG1_4 HG2_4
  go_wp2_with fail
  refine hK.out _ _ ⟨HG0_5.out.six, HG1_5.out.six, HG2_5.out.six⟩ (fun hHeld => ?_)
  clear hK K
  try simp only [Act.put, List.getElem_toArray, List.getElem_cons_succ, List.getElem_cons_zero, List.setIfInBounds_toArray, List.set_cons_zero, List.set_cons_succ]
  refine wpAnyH_ready (rs := [14]) (by kernel_rfl) (by simp) ?_
  refine AllReadyH.cons (by rfl) (fun K hK => ?_) AllReadyH.nil
  go_simp
  refine (sgn_any _ (kOrd_cases a c) _).mono ?_
  rintro e y6 ⟨rfl, b6⟩
  have HB_6 := Lib.hid (HB_5.out.trans (b6.mono HB_5.out.size))
  have HT_6 := Lib.hid ((HT_5.out).below b6)
  have HG0_6 := Lib.hid ((HG0_5.out).keep b6)
  have HG1_6 := Lib.hid ((HG1_5.out).keep b6)
  have HG2_6 := Lib.hid ((HG2_5.out).keep b6)
  clear b6 hHeld
  clear HB_5 HT_5 HG0_5 HG1_5 HG2_5
  go_wp2_with fail
  refine hK.out _ _ ⟨HG0_6.out.six, HG1_6.out.six, HG2_6.out.six⟩ (fun hHeld => ?_)
  clear hK K
  try simp only [Act.put, List.getElem_toArray, List.getElem_cons_succ, List.getElem_cons_zero, List.setIfInBounds_toArray, List.set_cons_zero, List.set_cons_succ]
  refine wpAnyH_take (i := 15) (v := ?v78) rfl (by kernel_rfl) (by kernel_rfl) (by kernel_rfl) (fun _ _ _ h => h) (Or.inl ⟨by rfl, ?hy78⟩) hHeld ?rest78
  case hy78 =>
    intro w' hSw
    try dsimp only at hSw
    go_simp
    first | done | with_reducible rfl
  try simp only [Act.put, List.getElem_toArray, List.getElem_cons_succ, List.getElem_cons_zero, List.setIfInBounds_toArray, List.set_cons_zero, List.set_cons_succ]
  refine wpAnyH_take (i := 16) (v := ?v79) rfl (by kernel_rfl) (by kernel_rfl) (by kernel_rfl) (fun _ _ _ h => h) (Or.inl ⟨by rfl, ?hy79⟩) hHeld ?rest79
  case hy79 =>
    intro w' hSw
    try dsimp only at hSw
    go_simp
    first | done | with_reducible rfl
  try simp only [Act.put, List.getElem_toArray, List.getElem_cons_succ, List.getElem_cons_zero, List.setIfInBounds_toArray, List.set_cons_zero, List.set_cons_succ]
  refine wpAnyH_take (i := 17) (v := ?v80) rfl (by kernel_rfl) (by kernel_rfl) (by kernel_rfl) (fun _ _ _ h => h) (Or.inl ⟨by rfl, ?hy80⟩) hHeld ?rest80
  case hy80 =>
    intro w' hSw
    try dsimp only at hSw
    go_simp
    first | done | with_reducible rfl
  try simp only [Act.put, List.getElem_toArray, List.getElem_cons_succ, List.getElem_cons_zero, List.setIfInBounds_toArray, List.set_cons_zero, List.set_cons_succ]
  refine wpAnyH_done (by kernel_rfl) ?_ _
  refine OnlyN.normal ?_
  clear hHeld
  have hng := kOrd_neg a b
  have hcs := kOrd_cases a b
  have hzr := fun h : kOrd a b = 0 => kOrd_zero h
  have hsc := kOrd_cases b a
  obtain ⟨k, o, cc, l, r, v⟩ := a
  obtain ⟨k', o', cc', l', r', v'⟩ := b
  generalize hp : kOrd ⟨k, o, cc, l, r, v⟩ ⟨k', o', cc', l', r', v'⟩ = p at hng hcs hzr ⊢
  generalize hq : kOrd ⟨k', o', cc', l', r', v'⟩ c = q
  generalize hs : kOrd ⟨k, o, cc, l, r, v⟩ c = s
  generalize hn : kOrd ⟨k', o', cc', l', r', v'⟩ ⟨k, o, cc, l, r, v⟩ = n at hng hsc
  have HP := Lib.hid hp
  have HQ := Lib.hid hq
  have HS := Lib.hid hs
  have HN := Lib.hid hn
  have HSC := Lib.hid hsc
  clear hp hq hs hn hsc
  rcases hcs with rfl | rfl | rfl
  · have hne : (⟨k, o, cc, l, r, v⟩ : Ky) ≠ ⟨k', o', cc', l', r', v'⟩ := fun e => by have h := HP.out; rw [e, kOrd_self] at h; cases h
    obtain rfl : n = 1 := by omega
    clear hng hzr HSC
    rcases first_diff hne with h | h | h | h | h | h
    · have hd := h
      simp only at hd
      have dd : (k == k') = false := by simpa using hd
      clear hd hne
      obtain ⟨c0, c1, c2, c3, c4, c5⟩ := HG0_6.out.six
      obtain ⟨d0, d1, d2, d3, d4, d5⟩ := HG1_6.out.six
      obtain ⟨e0, e1, e2, e3, e4, e5⟩ := HG2_6.out.six
      go_wp2_with (first
        | (go_at_call 31; first
          | ((with_reducible refine (HP.out ▸ rord_any ⟨k, o, cc, l, r, v⟩ ⟨k', o', cc', l', r', v'⟩ _).mono ?_); rintro e z1 ⟨rfl, b_⟩; have T_z1 := Lib.hid (HT_6.out.below b_); have B_z1 := Lib.hid (HB_6.out.trans (b_.mono HB_6.out.size)); have HG0_z1 := Lib.hid (HG0_6.out.keep b_); have HG1_z1 := Lib.hid (HG1_6.out.keep b_); have HG2_z1 := Lib.hid (HG2_6.out.keep b_); clear b_ c0 c1 c2 c3 c4 c5 d0 d1 d2 d3 d4 d5 e0 e1 e2 e3 e4 e5; obtain ⟨c0, c1, c2, c3, c4, c5⟩ := HG0_z1.out.six; obtain ⟨d0, d1, d2, d3, d4, d5⟩ := HG1_z1.out.six; obtain ⟨e0, e1, e2, e3, e4, e5⟩ := HG2_z1.out.six)
          | ((with_reducible refine (HQ.out ▸ rord_any ⟨k', o', cc', l', r', v'⟩ c _).mono ?_); rintro e z2 ⟨rfl, b_⟩; have T_z2 := Lib.hid (T_z1.out.below b_); have B_z2 := Lib.hid (B_z1.out.trans (b_.mono B_z1.out.size)); have HG0_z2 := Lib.hid (HG0_z1.out.keep b_); have HG1_z2 := Lib.hid (HG1_z1.out.keep b_); have HG2_z2 := Lib.hid (HG2_z1.out.keep b_); clear b_ c0 c1 c2 c3 c4 c5 d0 d1 d2 d3 d4 d5 e0 e1 e2 e3 e4 e5; obtain ⟨c0, c1, c2, c3, c4, c5⟩ := HG0_z2.out.six; obtain ⟨d0, d1, d2, d3, d4, d5⟩ := HG1_z2.out.six; obtain ⟨e0, e1, e2, e3, e4, e5⟩ := HG2_z2.out.six)
          | ((with_reducible refine (HS.out ▸ rord_any ⟨k, o, cc, l, r, v⟩ c _).mono ?_); rintro e z3 ⟨rfl, b_⟩; have T_z3 := Lib.hid (T_z2.out.below b_); have B_z3 := Lib.hid (B_z2.out.trans (b_.mono B_z2.out.size)); have HG0_z3 := Lib.hid (HG0_z2.out.keep b_); have HG1_z3 := Lib.hid (HG1_z2.out.keep b_); have HG2_z3 := Lib.hid (HG2_z2.out.keep b_); clear b_ c0 c1 c2 c3 c4 c5 d0 d1 d2 d3 d4 d5 e0 e1 e2 e3 e4 e5; obtain ⟨c0, c1, c2, c3, c4, c5⟩ := HG0_z3.out.six; obtain ⟨d0, d1, d2, d3, d4, d5⟩ := HG1_z3.out.six; obtain ⟨e0, e1, e2, e3, e4, e5⟩ := HG2_z3.out.six))
        | (go_at_call 30; first
          | ((with_reducible refine (HN.out ▸ kord_any ⟨k', o', cc', l', r', v'⟩ ⟨k, o, cc, l, r, v⟩ _).mono ?_); rintro e z4 ⟨rfl, b_⟩; have T_z4 := Lib.hid (T_z3.out.below b_); have B_z4 := Lib.hid (B_z3.out.trans (b_.mono B_z3.out.size)); have HG0_z4 := Lib.hid (HG0_z3.out.keep b_); have HG1_z4 := Lib.hid (HG1_z3.out.keep b_); have HG2_z4 := Lib.hid (HG2_z3.out.keep b_); clear b_ c0 c1 c2 c3 c4 c5 d0 d1 d2 d3 d4 d5 e0 e1 e2 e3 e4 e5; obtain ⟨c0, c1, c2, c3, c4, c5⟩ := HG0_z4.out.six; obtain ⟨d0, d1, d2, d3, d4, d5⟩ := HG1_z4.out.six; obtain ⟨e0, e1, e2, e3, e4, e5⟩ := HG2_z4.out.six))
        | (go_at_call 29; first
          | ((with_reducible refine (sgn_any (1) (by decide) _).mono ?_); rintro e z5 ⟨rfl, b_⟩; have T_z5 := Lib.hid (T_z4.out.below b_); have B_z5 := Lib.hid (B_z4.out.trans (b_.mono B_z4.out.size)); have HG0_z5 := Lib.hid (HG0_z4.out.keep b_); have HG1_z5 := Lib.hid (HG1_z4.out.keep b_); have HG2_z5 := Lib.hid (HG2_z4.out.keep b_); clear b_ c0 c1 c2 c3 c4 c5 d0 d1 d2 d3 d4 d5 e0 e1 e2 e3 e4 e5; obtain ⟨c0, c1, c2, c3, c4, c5⟩ := HG0_z5.out.six; obtain ⟨d0, d1, d2, d3, d4, d5⟩ := HG1_z5.out.six; obtain ⟨e0, e1, e2, e3, e4, e5⟩ := HG2_z5.out.six))
        | (go_at_call 18; first
          | ((with_reducible refine (known_any _ T_z5.out).mono ?_); rintro e z6 ⟨rfl, b_⟩; have T_z6 := Lib.hid (T_z5.out.below b_); have B_z6 := Lib.hid (B_z5.out.trans (b_.mono B_z5.out.size)); have HG0_z6 := Lib.hid (HG0_z5.out.keep b_); have HG1_z6 := Lib.hid (HG1_z5.out.keep b_); have HG2_z6 := Lib.hid (HG2_z5.out.keep b_); clear b_ c0 c1 c2 c3 c4 c5 d0 d1 d2 d3 d4 d5 e0 e1 e2 e3 e4 e5; obtain ⟨c0, c1, c2, c3, c4, c5⟩ := HG0_z6.out.six; obtain ⟨d0, d1, d2, d3, d4, d5⟩ := HG1_z6.out.six; obtain ⟨e0, e1, e2, e3, e4, e5⟩ := HG2_z6.out.six)))
      go_ret
      exact ⟨rfl, B_z6.out⟩
    · obtain ⟨e0, hd⟩ := h
      simp only at e0 hd
      subst e0
      have dd : (o == o') = false := by simpa using hd
      clear hd hne
      obtain ⟨c0, c1, c2, c3, c4, c5⟩ := HG0_6.out.six
      obtain ⟨d0, d1, d2, d3, d4, d5⟩ := HG1_6.out.six
      obtain ⟨e0, e1, e2, e3, e4, e5⟩ := HG2_6.out.six
      go_wp2_with (first
        | (go_at_call 31; first
          | ((with_reducible refine (HP.out ▸ rord_any ⟨k, o, cc, l, r, v⟩ ⟨k, o', cc', l', r', v'⟩ _).mono ?_); rintro e z1 ⟨rfl, b_⟩; have T_z1 := Lib.hid (HT_6.out.below b_); have B_z1 := Lib.hid (HB_6.out.trans (b_.mono HB_6.out.size)); have HG0_z1 := Lib.hid (HG0_6.out.keep b_); have HG1_z1 := Lib.hid (HG1_6.out.keep b_); have HG2_z1 := Lib.hid (HG2_6.out.keep b_); clear b_ c0 c1 c2 c3 c4 c5 d0 d1 d2 d3 d4 d5 e0 e1 e2 e3 e4 e5; obtain ⟨c0, c1, c2, c3, c4, c5⟩ := HG0_z1.out.six; obtain ⟨d0, d1, d2, d3, d4, d5⟩ := HG1_z1.out.six; obtain ⟨e0, e1, e2, e3, e4, e5⟩ := HG2_z1.out.six)
          | ((with_reducible refine (HQ.out ▸ rord_any ⟨k, o', cc', l', r', v'⟩ c _).mono ?_); rintro e z2 ⟨rfl, b_⟩; have T_z2 := Lib.hid (T_z1.out.below b_); have B_z2 := Lib.hid (B_z1.out.trans (b_.mono B_z1.out.size)); have HG0_z2 := Lib.hid (HG0_z1.out.keep b_); have HG1_z2 := Lib.hid (HG1_z1.out.keep b_); have HG2_z2 := Lib.hid (HG2_z1.out.keep b_); clear b_ c0 c1 c2 c3 c4 c5 d0 d1 d2 d3 d4 d5 e0 e1 e2 e3 e4 e5; obtain ⟨c0, c1, c2, c3, c4, c5⟩ := HG0_z2.out.six; obtain ⟨d0, d1, d2, d3, d4, d5⟩ := HG1_z2.out.six; obtain ⟨e0, e1, e2, e3, e4, e5⟩ := HG2_z2.out.six)
          | ((with_reducible refine (HS.out ▸ rord_any ⟨k, o, cc, l, r, v⟩ c _).mono ?_); rintro e z3 ⟨rfl, b_⟩; have T_z3 := Lib.hid (T_z2.out.below b_); have B_z3 := Lib.hid (B_z2.out.trans (b_.mono B_z2.out.size)); have HG0_z3 := Lib.hid (HG0_z2.out.keep b_); have HG1_z3 := Lib.hid (HG1_z2.out.keep b_); have HG2_z3 := Lib.hid (HG2_z2.out.keep b_); clear b_ c0 c1 c2 c3 c4 c5 d0 d1 d2 d3 d4 d5 e0 e1 e2 e3 e4 e5; obtain ⟨c0, c1, c2, c3, c4, c5⟩ := HG0_z3.out.six; obtain ⟨d0, d1, d2, d3, d4, d5⟩ := HG1_z3.out.six; obtain ⟨e0, e1, e2, e3, e4, e5⟩ := HG2_z3.out.six))
        | (go_at_call 30; first
          | ((with_reducible refine (HN.out ▸ kord_any ⟨k, o', cc', l', r', v'⟩ ⟨k, o, cc, l, r, v⟩ _).mono ?_); rintro e z4 ⟨rfl, b_⟩; have T_z4 := Lib.hid (T_z3.out.below b_); have B_z4 := Lib.hid (B_z3.out.trans (b_.mono B_z3.out.size)); have HG0_z4 := Lib.hid (HG0_z3.out.keep b_); have HG1_z4 := Lib.hid (HG1_z3.out.keep b_); have HG2_z4 := Lib.hid (HG2_z3.out.keep b_); clear b_ c0 c1 c2 c3 c4 c5 d0 d1 d2 d3 d4 d5 e0 e1 e2 e3 e4 e5; obtain ⟨c0, c1, c2, c3, c4, c5⟩ := HG0_z4.out.six; obtain ⟨d0, d1, d2, d3, d4, d5⟩ := HG1_z4.out.six; obtain ⟨e0, e1, e2, e3, e4, e5⟩ := HG2_z4.out.six))
        | (go_at_call 29; first
          | ((with_reducible refine (sgn_any (1) (by decide) _).mono ?_); rintro e z5 ⟨rfl, b_⟩; have T_z5 := Lib.hid (T_z4.out.below b_); have B_z5 := Lib.hid (B_z4.out.trans (b_.mono B_z4.out.size)); have HG0_z5 := Lib.hid (HG0_z4.out.keep b_); have HG1_z5 := Lib.hid (HG1_z4.out.keep b_); have HG2_z5 := Lib.hid (HG2_z4.out.keep b_); clear b_ c0 c1 c2 c3 c4 c5 d0 d1 d2 d3 d4 d5 e0 e1 e2 e3 e4 e5; obtain ⟨c0, c1, c2, c3, c4, c5⟩ := HG0_z5.out.six; obtain ⟨d0, d1, d2, d3, d4, d5⟩ := HG1_z5.out.six; obtain ⟨e0, e1, e2, e3, e4, e5⟩ := HG2_z5.out.six))
        | (go_at_call 18; first
          | ((with_reducible refine (known_any _ T_z5.out).mono ?_); rintro e z6 ⟨rfl, b_⟩; have T_z6 := Lib.hid (T_z5.out.below b_); have B_z6 := Lib.hid (B_z5.out.trans (b_.mono B_z5.out.size)); have HG0_z6 := Lib.hid (HG0_z5.out.keep b_); have HG1_z6 := Lib.hid (HG1_z5.out.keep b_); have HG2_z6 := Lib.hid (HG2_z5.out.keep b_); clear b_ c0 c1 c2 c3 c4 c5 d0 d1 d2 d3 d4 d5 e0 e1 e2 e3 e4 e5; obtain ⟨c0, c1, c2, c3, c4, c5⟩ := HG0_z6.out.six; obtain ⟨d0, d1, d2, d3, d4, d5⟩ := HG1_z6.out.six; obtain ⟨e0, e1, e2, e3, e4, e5⟩ := HG2_z6.out.six)))
      go_ret
      exact ⟨rfl, B_z6.out⟩
    · obtain ⟨e0, e1, hd⟩ := h
      simp only at e0 e1 hd
      subst e0 e1
      have dd : (cc == cc') = false := by simpa using hd
      clear hd hne
      obtain ⟨c0, c1, c2, c3, c4, c5⟩ := HG0_6.out.six
      obtain ⟨d0, d1, d2, d3, d4, d5⟩ := HG1_6.out.six
      obtain ⟨e0, e1, e2, e3, e4, e5⟩ := HG2_6.out.six
      go_wp2_with (first
        | (go_at_call 31; first
          | ((with_reducible refine (HP.out ▸ rord_any ⟨k, o, cc, l, r, v⟩ ⟨k, o, cc', l', r', v'⟩ _).mono ?_); rintro e z1 ⟨rfl, b_⟩; have T_z1 := Lib.hid (HT_6.out.below b_); have B_z1 := Lib.hid (HB_6.out.trans (b_.mono HB_6.out.size)); have HG0_z1 := Lib.hid (HG0_6.out.keep b_); have HG1_z1 := Lib.hid (HG1_6.out.keep b_); have HG2_z1 := Lib.hid (HG2_6.out.keep b_); clear b_ c0 c1 c2 c3 c4 c5 d0 d1 d2 d3 d4 d5 e0 e1 e2 e3 e4 e5; obtain ⟨c0, c1, c2, c3, c4, c5⟩ := HG0_z1.out.six; obtain ⟨d0, d1, d2, d3, d4, d5⟩ := HG1_z1.out.six; obtain ⟨e0, e1, e2, e3, e4, e5⟩ := HG2_z1.out.six)
          | ((with_reducible refine (HQ.out ▸ rord_any ⟨k, o, cc', l', r', v'⟩ c _).mono ?_); rintro e z2 ⟨rfl, b_⟩; have T_z2 := Lib.hid (T_z1.out.below b_); have B_z2 := Lib.hid (B_z1.out.trans (b_.mono B_z1.out.size)); have HG0_z2 := Lib.hid (HG0_z1.out.keep b_); have HG1_z2 := Lib.hid (HG1_z1.out.keep b_); have HG2_z2 := Lib.hid (HG2_z1.out.keep b_); clear b_ c0 c1 c2 c3 c4 c5 d0 d1 d2 d3 d4 d5 e0 e1 e2 e3 e4 e5; obtain ⟨c0, c1, c2, c3, c4, c5⟩ := HG0_z2.out.six; obtain ⟨d0, d1, d2, d3, d4, d5⟩ := HG1_z2.out.six; obtain ⟨e0, e1, e2, e3, e4, e5⟩ := HG2_z2.out.six)
          | ((with_reducible refine (HS.out ▸ rord_any ⟨k, o, cc, l, r, v⟩ c _).mono ?_); rintro e z3 ⟨rfl, b_⟩; have T_z3 := Lib.hid (T_z2.out.below b_); have B_z3 := Lib.hid (B_z2.out.trans (b_.mono B_z2.out.size)); have HG0_z3 := Lib.hid (HG0_z2.out.keep b_); have HG1_z3 := Lib.hid (HG1_z2.out.keep b_); have HG2_z3 := Lib.hid (HG2_z2.out.keep b_); clear b_ c0 c1 c2 c3 c4 c5 d0 d1 d2 d3 d4 d5 e0 e1 e2 e3 e4 e5; obtain ⟨c0, c1, c2, c3, c4, c5⟩ := HG0_z3.out.six; obtain ⟨d0, d1, d2, d3, d4, d5⟩ := HG1_z3.out.six; obtain ⟨e0, e1, e2, e3, e4, e5⟩ := HG2_z3.out.six))
        | (go_at_call 30; first
          | ((with_reducible refine (HN.out ▸ kord_any ⟨k, o, cc', l', r', v'⟩ ⟨k, o, cc, l, r, v⟩ _).mono ?_); rintro e z4 ⟨rfl, b_⟩; have T_z4 := Lib.hid (T_z3.out.below b_); have B_z4 := Lib.hid (B_z3.out.trans (b_.mono B_z3.out.size)); have HG0_z4 := Lib.hid (HG0_z3.out.keep b_); have HG1_z4 := Lib.hid (HG1_z3.out.keep b_); have HG2_z4 := Lib.hid (HG2_z3.out.keep b_); clear b_ c0 c1 c2 c3 c4 c5 d0 d1 d2 d3 d4 d5 e0 e1 e2 e3 e4 e5; obtain ⟨c0, c1, c2, c3, c4, c5⟩ := HG0_z4.out.six; obtain ⟨d0, d1, d2, d3, d4, d5⟩ := HG1_z4.out.six; obtain ⟨e0, e1, e2, e3, e4, e5⟩ := HG2_z4.out.six))
        | (go_at_call 29; first
          | ((with_reducible refine (sgn_any (1) (by decide) _).mono ?_); rintro e z5 ⟨rfl, b_⟩; have T_z5 := Lib.hid (T_z4.out.below b_); have B_z5 := Lib.hid (B_z4.out.trans (b_.mono B_z4.out.size)); have HG0_z5 := Lib.hid (HG0_z4.out.keep b_); have HG1_z5 := Lib.hid (HG1_z4.out.keep b_); have HG2_z5 := Lib.hid (HG2_z4.out.keep b_); clear b_ c0 c1 c2 c3 c4 c5 d0 d1 d2 d3 d4 d5 e0 e1 e2 e3 e4 e5; obtain ⟨c0, c1, c2, c3, c4, c5⟩ := HG0_z5.out.six; obtain ⟨d0, d1, d2, d3, d4, d5⟩ := HG1_z5.out.six; obtain ⟨e0, e1, e2, e3, e4, e5⟩ := HG2_z5.out.six))
        | (go_at_call 18; first
          | ((with_reducible refine (known_any _ T_z5.out).mono ?_); rintro e z6 ⟨rfl, b_⟩; have T_z6 := Lib.hid (T_z5.out.below b_); have B_z6 := Lib.hid (B_z5.out.trans (b_.mono B_z5.out.size)); have HG0_z6 := Lib.hid (HG0_z5.out.keep b_); have HG1_z6 := Lib.hid (HG1_z5.out.keep b_); have HG2_z6 := Lib.hid (HG2_z5.out.keep b_); clear b_ c0 c1 c2 c3 c4 c5 d0 d1 d2 d3 d4 d5 e0 e1 e2 e3 e4 e5; obtain ⟨c0, c1, c2, c3, c4, c5⟩ := HG0_z6.out.six; obtain ⟨d0, d1, d2, d3, d4, d5⟩ := HG1_z6.out.six; obtain ⟨e0, e1, e2, e3, e4, e5⟩ := HG2_z6.out.six)))
      go_ret
      exact ⟨rfl, B_z6.out⟩
    · obtain ⟨e0, e1, e2, hd⟩ := h
      simp only at e0 e1 e2 hd
      subst e0 e1 e2
      have dd : (l == l') = false := by simpa using hd
      clear hd hne
      obtain ⟨c0, c1, c2, c3, c4, c5⟩ := HG0_6.out.six
      obtain ⟨d0, d1, d2, d3, d4, d5⟩ := HG1_6.out.six
      obtain ⟨e0, e1, e2, e3, e4, e5⟩ := HG2_6.out.six
      go_wp2_with (first
        | (go_at_call 31; first
          | ((with_reducible refine (HP.out ▸ rord_any ⟨k, o, cc, l, r, v⟩ ⟨k, o, cc, l', r', v'⟩ _).mono ?_); rintro e z1 ⟨rfl, b_⟩; have T_z1 := Lib.hid (HT_6.out.below b_); have B_z1 := Lib.hid (HB_6.out.trans (b_.mono HB_6.out.size)); have HG0_z1 := Lib.hid (HG0_6.out.keep b_); have HG1_z1 := Lib.hid (HG1_6.out.keep b_); have HG2_z1 := Lib.hid (HG2_6.out.keep b_); clear b_ c0 c1 c2 c3 c4 c5 d0 d1 d2 d3 d4 d5 e0 e1 e2 e3 e4 e5; obtain ⟨c0, c1, c2, c3, c4, c5⟩ := HG0_z1.out.six; obtain ⟨d0, d1, d2, d3, d4, d5⟩ := HG1_z1.out.six; obtain ⟨e0, e1, e2, e3, e4, e5⟩ := HG2_z1.out.six)
          | ((with_reducible refine (HQ.out ▸ rord_any ⟨k, o, cc, l', r', v'⟩ c _).mono ?_); rintro e z2 ⟨rfl, b_⟩; have T_z2 := Lib.hid (T_z1.out.below b_); have B_z2 := Lib.hid (B_z1.out.trans (b_.mono B_z1.out.size)); have HG0_z2 := Lib.hid (HG0_z1.out.keep b_); have HG1_z2 := Lib.hid (HG1_z1.out.keep b_); have HG2_z2 := Lib.hid (HG2_z1.out.keep b_); clear b_ c0 c1 c2 c3 c4 c5 d0 d1 d2 d3 d4 d5 e0 e1 e2 e3 e4 e5; obtain ⟨c0, c1, c2, c3, c4, c5⟩ := HG0_z2.out.six; obtain ⟨d0, d1, d2, d3, d4, d5⟩ := HG1_z2.out.six; obtain ⟨e0, e1, e2, e3, e4, e5⟩ := HG2_z2.out.six)
          | ((with_reducible refine (HS.out ▸ rord_any ⟨k, o, cc, l, r, v⟩ c _).mono ?_); rintro e z3 ⟨rfl, b_⟩; have T_z3 := Lib.hid (T_z2.out.below b_); have B_z3 := Lib.hid (B_z2.out.trans (b_.mono B_z2.out.size)); have HG0_z3 := Lib.hid (HG0_z2.out.keep b_); have HG1_z3 := Lib.hid (HG1_z2.out.keep b_); have HG2_z3 := Lib.hid (HG2_z2.out.keep b_); clear b_ c0 c1 c2 c3 c4 c5 d0 d1 d2 d3 d4 d5 e0 e1 e2 e3 e4 e5; obtain ⟨c0, c1, c2, c3, c4, c5⟩ := HG0_z3.out.six; obtain ⟨d0, d1, d2, d3, d4, d5⟩ := HG1_z3.out.six; obtain ⟨e0, e1, e2, e3, e4, e5⟩ := HG2_z3.out.six))
        | (go_at_call 30; first
          | ((with_reducible refine (HN.out ▸ kord_any ⟨k, o, cc, l', r', v'⟩ ⟨k, o, cc, l, r, v⟩ _).mono ?_); rintro e z4 ⟨rfl, b_⟩; have T_z4 := Lib.hid (T_z3.out.below b_); have B_z4 := Lib.hid (B_z3.out.trans (b_.mono B_z3.out.size)); have HG0_z4 := Lib.hid (HG0_z3.out.keep b_); have HG1_z4 := Lib.hid (HG1_z3.out.keep b_); have HG2_z4 := Lib.hid (HG2_z3.out.keep b_); clear b_ c0 c1 c2 c3 c4 c5 d0 d1 d2 d3 d4 d5 e0 e1 e2 e3 e4 e5; obtain ⟨c0, c1, c2, c3, c4, c5⟩ := HG0_z4.out.six; obtain ⟨d0, d1, d2, d3, d4, d5⟩ := HG1_z4.out.six; obtain ⟨e0, e1, e2, e3, e4, e5⟩ := HG2_z4.out.six))
        | (go_at_call 29; first
          | ((with_reducible refine (sgn_any (1) (by decide) _).mono ?_); rintro e z5 ⟨rfl, b_⟩; have T_z5 := Lib.hid (T_z4.out.below b_); have B_z5 := Lib.hid (B_z4.out.trans (b_.mono B_z4.out.size)); have HG0_z5 := Lib.hid (HG0_z4.out.keep b_); have HG1_z5 := Lib.hid (HG1_z4.out.keep b_); have HG2_z5 := Lib.hid (HG2_z4.out.keep b_); clear b_ c0 c1 c2 c3 c4 c5 d0 d1 d2 d3 d4 d5 e0 e1 e2 e3 e4 e5; obtain ⟨c0, c1, c2, c3, c4, c5⟩ := HG0_z5.out.six; obtain ⟨d0, d1, d2, d3, d4, d5⟩ := HG1_z5.out.six; obtain ⟨e0, e1, e2, e3, e4, e5⟩ := HG2_z5.out.six))
        | (go_at_call 18; first
          | ((with_reducible refine (known_any _ T_z5.out).mono ?_); rintro e z6 ⟨rfl, b_⟩; have T_z6 := Lib.hid (T_z5.out.below b_); have B_z6 := Lib.hid (B_z5.out.trans (b_.mono B_z5.out.size)); have HG0_z6 := Lib.hid (HG0_z5.out.keep b_); have HG1_z6 := Lib.hid (HG1_z5.out.keep b_); have HG2_z6 := Lib.hid (HG2_z5.out.keep b_); clear b_ c0 c1 c2 c3 c4 c5 d0 d1 d2 d3 d4 d5 e0 e1 e2 e3 e4 e5; obtain ⟨c0, c1, c2, c3, c4, c5⟩ := HG0_z6.out.six; obtain ⟨d0, d1, d2, d3, d4, d5⟩ := HG1_z6.out.six; obtain ⟨e0, e1, e2, e3, e4, e5⟩ := HG2_z6.out.six)))
      go_ret
      exact ⟨rfl, B_z6.out⟩
    · obtain ⟨e0, e1, e2, e3, hd⟩ := h
      simp only at e0 e1 e2 e3 hd
      subst e0 e1 e2 e3
      have dd : (r == r') = false := by simpa using hd
      clear hd hne
      obtain ⟨c0, c1, c2, c3, c4, c5⟩ := HG0_6.out.six
      obtain ⟨d0, d1, d2, d3, d4, d5⟩ := HG1_6.out.six
      obtain ⟨e0, e1, e2, e3, e4, e5⟩ := HG2_6.out.six
      go_wp2_with (first
        | (go_at_call 31; first
          | ((with_reducible refine (HP.out ▸ rord_any ⟨k, o, cc, l, r, v⟩ ⟨k, o, cc, l, r', v'⟩ _).mono ?_); rintro e z1 ⟨rfl, b_⟩; have T_z1 := Lib.hid (HT_6.out.below b_); have B_z1 := Lib.hid (HB_6.out.trans (b_.mono HB_6.out.size)); have HG0_z1 := Lib.hid (HG0_6.out.keep b_); have HG1_z1 := Lib.hid (HG1_6.out.keep b_); have HG2_z1 := Lib.hid (HG2_6.out.keep b_); clear b_ c0 c1 c2 c3 c4 c5 d0 d1 d2 d3 d4 d5 e0 e1 e2 e3 e4 e5; obtain ⟨c0, c1, c2, c3, c4, c5⟩ := HG0_z1.out.six; obtain ⟨d0, d1, d2, d3, d4, d5⟩ := HG1_z1.out.six; obtain ⟨e0, e1, e2, e3, e4, e5⟩ := HG2_z1.out.six)
          | ((with_reducible refine (HQ.out ▸ rord_any ⟨k, o, cc, l, r', v'⟩ c _).mono ?_); rintro e z2 ⟨rfl, b_⟩; have T_z2 := Lib.hid (T_z1.out.below b_); have B_z2 := Lib.hid (B_z1.out.trans (b_.mono B_z1.out.size)); have HG0_z2 := Lib.hid (HG0_z1.out.keep b_); have HG1_z2 := Lib.hid (HG1_z1.out.keep b_); have HG2_z2 := Lib.hid (HG2_z1.out.keep b_); clear b_ c0 c1 c2 c3 c4 c5 d0 d1 d2 d3 d4 d5 e0 e1 e2 e3 e4 e5; obtain ⟨c0, c1, c2, c3, c4, c5⟩ := HG0_z2.out.six; obtain ⟨d0, d1, d2, d3, d4, d5⟩ := HG1_z2.out.six; obtain ⟨e0, e1, e2, e3, e4, e5⟩ := HG2_z2.out.six)
          | ((with_reducible refine (HS.out ▸ rord_any ⟨k, o, cc, l, r, v⟩ c _).mono ?_); rintro e z3 ⟨rfl, b_⟩; have T_z3 := Lib.hid (T_z2.out.below b_); have B_z3 := Lib.hid (B_z2.out.trans (b_.mono B_z2.out.size)); have HG0_z3 := Lib.hid (HG0_z2.out.keep b_); have HG1_z3 := Lib.hid (HG1_z2.out.keep b_); have HG2_z3 := Lib.hid (HG2_z2.out.keep b_); clear b_ c0 c1 c2 c3 c4 c5 d0 d1 d2 d3 d4 d5 e0 e1 e2 e3 e4 e5; obtain ⟨c0, c1, c2, c3, c4, c5⟩ := HG0_z3.out.six; obtain ⟨d0, d1, d2, d3, d4, d5⟩ := HG1_z3.out.six; obtain ⟨e0, e1, e2, e3, e4, e5⟩ := HG2_z3.out.six))
        | (go_at_call 30; first
          | ((with_reducible refine (HN.out ▸ kord_any ⟨k, o, cc, l, r', v'⟩ ⟨k, o, cc, l, r, v⟩ _).mono ?_); rintro e z4 ⟨rfl, b_⟩; have T_z4 := Lib.hid (T_z3.out.below b_); have B_z4 := Lib.hid (B_z3.out.trans (b_.mono B_z3.out.size)); have HG0_z4 := Lib.hid (HG0_z3.out.keep b_); have HG1_z4 := Lib.hid (HG1_z3.out.keep b_); have HG2_z4 := Lib.hid (HG2_z3.out.keep b_); clear b_ c0 c1 c2 c3 c4 c5 d0 d1 d2 d3 d4 d5 e0 e1 e2 e3 e4 e5; obtain ⟨c0, c1, c2, c3, c4, c5⟩ := HG0_z4.out.six; obtain ⟨d0, d1, d2, d3, d4, d5⟩ := HG1_z4.out.six; obtain ⟨e0, e1, e2, e3, e4, e5⟩ := HG2_z4.out.six))
        | (go_at_call 29; first
          | ((with_reducible refine (sgn_any (1) (by decide) _).mono ?_); rintro e z5 ⟨rfl, b_⟩; have T_z5 := Lib.hid (T_z4.out.below b_); have B_z5 := Lib.hid (B_z4.out.trans (b_.mono B_z4.out.size)); have HG0_z5 := Lib.hid (HG0_z4.out.keep b_); have HG1_z5 := Lib.hid (HG1_z4.out.keep b_); have HG2_z5 := Lib.hid (HG2_z4.out.keep b_); clear b_ c0 c1 c2 c3 c4 c5 d0 d1 d2 d3 d4 d5 e0 e1 e2 e3 e4 e5; obtain ⟨c0, c1, c2, c3, c4, c5⟩ := HG0_z5.out.six; obtain ⟨d0, d1, d2, d3, d4, d5⟩ := HG1_z5.out.six; obtain ⟨e0, e1, e2, e3, e4, e5⟩ := HG2_z5.out.six))
        | (go_at_call 18; first
          | ((with_reducible refine (known_any _ T_z5.out).mono ?_); rintro e z6 ⟨rfl, b_⟩; have T_z6 := Lib.hid (T_z5.out.below b_); have B_z6 := Lib.hid (B_z5.out.trans (b_.mono B_z5.out.size)); have HG0_z6 := Lib.hid (HG0_z5.out.keep b_); have HG1_z6 := Lib.hid (HG1_z5.out.keep b_); have HG2_z6 := Lib.hid (HG2_z5.out.keep b_); clear b_ c0 c1 c2 c3 c4 c5 d0 d1 d2 d3 d4 d5 e0 e1 e2 e3 e4 e5; obtain ⟨c0, c1, c2, c3, c4, c5⟩ := HG0_z6.out.six; obtain ⟨d0, d1, d2, d3, d4, d5⟩ := HG1_z6.out.six; obtain ⟨e0, e1, e2, e3, e4, e5⟩ := HG2_z6.out.six)))
      go_ret
      exact ⟨rfl, B_z6.out⟩
    · obtain ⟨e0, e1, e2, e3, e4, hd⟩ := h
      simp only at e0 e1 e2 e3 e4 hd
      subst e0 e1 e2 e3 e4
      have dd : (v == v') = false := by simpa using hd
      clear hd hne
      obtain ⟨c0, c1, c2, c3, c4, c5⟩ := HG0_6.out.six
      obtain ⟨d0, d1, d2, d3, d4, d5⟩ := HG1_6.out.six
      obtain ⟨e0, e1, e2, e3, e4, e5⟩ := HG2_6.out.six
      go_wp2_with (first
        | (go_at_call 31; first
          | ((with_reducible refine (HP.out ▸ rord_any ⟨k, o, cc, l, r, v⟩ ⟨k, o, cc, l, r, v'⟩ _).mono ?_); rintro e z1 ⟨rfl, b_⟩; have T_z1 := Lib.hid (HT_6.out.below b_); have B_z1 := Lib.hid (HB_6.out.trans (b_.mono HB_6.out.size)); have HG0_z1 := Lib.hid (HG0_6.out.keep b_); have HG1_z1 := Lib.hid (HG1_6.out.keep b_); have HG2_z1 := Lib.hid (HG2_6.out.keep b_); clear b_ c0 c1 c2 c3 c4 c5 d0 d1 d2 d3 d4 d5 e0 e1 e2 e3 e4 e5; obtain ⟨c0, c1, c2, c3, c4, c5⟩ := HG0_z1.out.six; obtain ⟨d0, d1, d2, d3, d4, d5⟩ := HG1_z1.out.six; obtain ⟨e0, e1, e2, e3, e4, e5⟩ := HG2_z1.out.six)
          | ((with_reducible refine (HQ.out ▸ rord_any ⟨k, o, cc, l, r, v'⟩ c _).mono ?_); rintro e z2 ⟨rfl, b_⟩; have T_z2 := Lib.hid (T_z1.out.below b_); have B_z2 := Lib.hid (B_z1.out.trans (b_.mono B_z1.out.size)); have HG0_z2 := Lib.hid (HG0_z1.out.keep b_); have HG1_z2 := Lib.hid (HG1_z1.out.keep b_); have HG2_z2 := Lib.hid (HG2_z1.out.keep b_); clear b_ c0 c1 c2 c3 c4 c5 d0 d1 d2 d3 d4 d5 e0 e1 e2 e3 e4 e5; obtain ⟨c0, c1, c2, c3, c4, c5⟩ := HG0_z2.out.six; obtain ⟨d0, d1, d2, d3, d4, d5⟩ := HG1_z2.out.six; obtain ⟨e0, e1, e2, e3, e4, e5⟩ := HG2_z2.out.six)
          | ((with_reducible refine (HS.out ▸ rord_any ⟨k, o, cc, l, r, v⟩ c _).mono ?_); rintro e z3 ⟨rfl, b_⟩; have T_z3 := Lib.hid (T_z2.out.below b_); have B_z3 := Lib.hid (B_z2.out.trans (b_.mono B_z2.out.size)); have HG0_z3 := Lib.hid (HG0_z2.out.keep b_); have HG1_z3 := Lib.hid (HG1_z2.out.keep b_); have HG2_z3 := Lib.hid (HG2_z2.out.keep b_); clear b_ c0 c1 c2 c3 c4 c5 d0 d1 d2 d3 d4 d5 e0 e1 e2 e3 e4 e5; obtain ⟨c0, c1, c2, c3, c4, c5⟩ := HG0_z3.out.six; obtain ⟨d0, d1, d2, d3, d4, d5⟩ := HG1_z3.out.six; obtain ⟨e0, e1, e2, e3, e4, e5⟩ := HG2_z3.out.six))
        | (go_at_call 30; first
          | ((with_reducible refine (HN.out ▸ kord_any ⟨k, o, cc, l, r, v'⟩ ⟨k, o, cc, l, r, v⟩ _).mono ?_); rintro e z4 ⟨rfl, b_⟩; have T_z4 := Lib.hid (T_z3.out.below b_); have B_z4 := Lib.hid (B_z3.out.trans (b_.mono B_z3.out.size)); have HG0_z4 := Lib.hid (HG0_z3.out.keep b_); have HG1_z4 := Lib.hid (HG1_z3.out.keep b_); have HG2_z4 := Lib.hid (HG2_z3.out.keep b_); clear b_ c0 c1 c2 c3 c4 c5 d0 d1 d2 d3 d4 d5 e0 e1 e2 e3 e4 e5; obtain ⟨c0, c1, c2, c3, c4, c5⟩ := HG0_z4.out.six; obtain ⟨d0, d1, d2, d3, d4, d5⟩ := HG1_z4.out.six; obtain ⟨e0, e1, e2, e3, e4, e5⟩ := HG2_z4.out.six))
        | (go_at_call 29; first
          | ((with_reducible refine (sgn_any (1) (by decide) _).mono ?_); rintro e z5 ⟨rfl, b_⟩; have T_z5 := Lib.hid (T_z4.out.below b_); have B_z5 := Lib.hid (B_z4.out.trans (b_.mono B_z4.out.size)); have HG0_z5 := Lib.hid (HG0_z4.out.keep b_); have HG1_z5 := Lib.hid (HG1_z4.out.keep b_); have HG2_z5 := Lib.hid (HG2_z4.out.keep b_); clear b_ c0 c1 c2 c3 c4 c5 d0 d1 d2 d3 d4 d5 e0 e1 e2 e3 e4 e5; obtain ⟨c0, c1, c2, c3, c4, c5⟩ := HG0_z5.out.six; obtain ⟨d0, d1, d2, d3, d4, d5⟩ := HG1_z5.out.six; obtain ⟨e0, e1, e2, e3, e4, e5⟩ := HG2_z5.out.six))
        | (go_at_call 18; first
          | ((with_reducible refine (known_any _ T_z5.out).mono ?_); rintro e z6 ⟨rfl, b_⟩; have T_z6 := Lib.hid (T_z5.out.below b_); have B_z6 := Lib.hid (B_z5.out.trans (b_.mono B_z5.out.size)); have HG0_z6 := Lib.hid (HG0_z5.out.keep b_); have HG1_z6 := Lib.hid (HG1_z5.out.keep b_); have HG2_z6 := Lib.hid (HG2_z5.out.keep b_); clear b_ c0 c1 c2 c3 c4 c5 d0 d1 d2 d3 d4 d5 e0 e1 e2 e3 e4 e5; obtain ⟨c0, c1, c2, c3, c4, c5⟩ := HG0_z6.out.six; obtain ⟨d0, d1, d2, d3, d4, d5⟩ := HG1_z6.out.six; obtain ⟨e0, e1, e2, e3, e4, e5⟩ := HG2_z6.out.six)))
      go_ret
      exact ⟨rfl, B_z6.out⟩
  · have he := hzr rfl
    simp only [Ky.mk.injEq] at he
    obtain ⟨rfl, rfl, rfl, rfl, rfl, rfl⟩ := he
    obtain rfl : n = 0 := by omega
    clear hng hzr HSC
    obtain ⟨c0, c1, c2, c3, c4, c5⟩ := HG0_6.out.six
    obtain ⟨d0, d1, d2, d3, d4, d5⟩ := HG1_6.out.six
    obtain ⟨e0, e1, e2, e3, e4, e5⟩ := HG2_6.out.six
    go_wp2_with (first
      | (go_at_call 31; first
        | ((with_reducible refine (HP.out ▸ rord_any ⟨k, o, cc, l, r, v⟩ ⟨k, o, cc, l, r, v⟩ _).mono ?_); rintro e z1 ⟨rfl, b_⟩; have T_z1 := Lib.hid (HT_6.out.below b_); have B_z1 := Lib.hid (HB_6.out.trans (b_.mono HB_6.out.size)); have HG0_z1 := Lib.hid (HG0_6.out.keep b_); have HG1_z1 := Lib.hid (HG1_6.out.keep b_); have HG2_z1 := Lib.hid (HG2_6.out.keep b_); clear b_ c0 c1 c2 c3 c4 c5 d0 d1 d2 d3 d4 d5 e0 e1 e2 e3 e4 e5; obtain ⟨c0, c1, c2, c3, c4, c5⟩ := HG0_z1.out.six; obtain ⟨d0, d1, d2, d3, d4, d5⟩ := HG1_z1.out.six; obtain ⟨e0, e1, e2, e3, e4, e5⟩ := HG2_z1.out.six)
        | ((with_reducible refine (HQ.out ▸ rord_any ⟨k, o, cc, l, r, v⟩ c _).mono ?_); rintro e z2 ⟨rfl, b_⟩; have T_z2 := Lib.hid (T_z1.out.below b_); have B_z2 := Lib.hid (B_z1.out.trans (b_.mono B_z1.out.size)); have HG0_z2 := Lib.hid (HG0_z1.out.keep b_); have HG1_z2 := Lib.hid (HG1_z1.out.keep b_); have HG2_z2 := Lib.hid (HG2_z1.out.keep b_); clear b_ c0 c1 c2 c3 c4 c5 d0 d1 d2 d3 d4 d5 e0 e1 e2 e3 e4 e5; obtain ⟨c0, c1, c2, c3, c4, c5⟩ := HG0_z2.out.six; obtain ⟨d0, d1, d2, d3, d4, d5⟩ := HG1_z2.out.six; obtain ⟨e0, e1, e2, e3, e4, e5⟩ := HG2_z2.out.six)
        | ((with_reducible refine (HS.out ▸ rord_any ⟨k, o, cc, l, r, v⟩ c _).mono ?_); rintro e z3 ⟨rfl, b_⟩; have T_z3 := Lib.hid (T_z2.out.below b_); have B_z3 := Lib.hid (B_z2.out.trans (b_.mono B_z2.out.size)); have HG0_z3 := Lib.hid (HG0_z2.out.keep b_); have HG1_z3 := Lib.hid (HG1_z2.out.keep b_); have HG2_z3 := Lib.hid (HG2_z2.out.keep b_); clear b_ c0 c1 c2 c3 c4 c5 d0 d1 d2 d3 d4 d5 e0 e1 e2 e3 e4 e5; obtain ⟨c0, c1, c2, c3, c4, c5⟩ := HG0_z3.out.six; obtain ⟨d0, d1, d2, d3, d4, d5⟩ := HG1_z3.out.six; obtain ⟨e0, e1, e2, e3, e4, e5⟩ := HG2_z3.out.six))
      | (go_at_call 30; first
        | ((with_reducible refine (HN.out ▸ kord_any ⟨k, o, cc, l, r, v⟩ ⟨k, o, cc, l, r, v⟩ _).mono ?_); rintro e z4 ⟨rfl, b_⟩; have T_z4 := Lib.hid (T_z3.out.below b_); have B_z4 := Lib.hid (B_z3.out.trans (b_.mono B_z3.out.size)); have HG0_z4 := Lib.hid (HG0_z3.out.keep b_); have HG1_z4 := Lib.hid (HG1_z3.out.keep b_); have HG2_z4 := Lib.hid (HG2_z3.out.keep b_); clear b_ c0 c1 c2 c3 c4 c5 d0 d1 d2 d3 d4 d5 e0 e1 e2 e3 e4 e5; obtain ⟨c0, c1, c2, c3, c4, c5⟩ := HG0_z4.out.six; obtain ⟨d0, d1, d2, d3, d4, d5⟩ := HG1_z4.out.six; obtain ⟨e0, e1, e2, e3, e4, e5⟩ := HG2_z4.out.six))
      | (go_at_call 29; first
        | ((with_reducible refine (sgn_any (0) (by decide) _).mono ?_); rintro e z5 ⟨rfl, b_⟩; have T_z5 := Lib.hid (T_z4.out.below b_); have B_z5 := Lib.hid (B_z4.out.trans (b_.mono B_z4.out.size)); have HG0_z5 := Lib.hid (HG0_z4.out.keep b_); have HG1_z5 := Lib.hid (HG1_z4.out.keep b_); have HG2_z5 := Lib.hid (HG2_z4.out.keep b_); clear b_ c0 c1 c2 c3 c4 c5 d0 d1 d2 d3 d4 d5 e0 e1 e2 e3 e4 e5; obtain ⟨c0, c1, c2, c3, c4, c5⟩ := HG0_z5.out.six; obtain ⟨d0, d1, d2, d3, d4, d5⟩ := HG1_z5.out.six; obtain ⟨e0, e1, e2, e3, e4, e5⟩ := HG2_z5.out.six))
      | (go_at_call 18; first
        | ((with_reducible refine (known_any _ T_z5.out).mono ?_); rintro e z6 ⟨rfl, b_⟩; have T_z6 := Lib.hid (T_z5.out.below b_); have B_z6 := Lib.hid (B_z5.out.trans (b_.mono B_z5.out.size)); have HG0_z6 := Lib.hid (HG0_z5.out.keep b_); have HG1_z6 := Lib.hid (HG1_z5.out.keep b_); have HG2_z6 := Lib.hid (HG2_z5.out.keep b_); clear b_ c0 c1 c2 c3 c4 c5 d0 d1 d2 d3 d4 d5 e0 e1 e2 e3 e4 e5; obtain ⟨c0, c1, c2, c3, c4, c5⟩ := HG0_z6.out.six; obtain ⟨d0, d1, d2, d3, d4, d5⟩ := HG1_z6.out.six; obtain ⟨e0, e1, e2, e3, e4, e5⟩ := HG2_z6.out.six)))
    go_ret
    exact ⟨rfl, B_z6.out⟩
  · have hne : (⟨k, o, cc, l, r, v⟩ : Ky) ≠ ⟨k', o', cc', l', r', v'⟩ := fun e => by have h := HP.out; rw [e, kOrd_self] at h; cases h
    obtain rfl : n = -1 := by omega
    clear hng hzr HSC
    rcases first_diff hne with h | h | h | h | h | h
    · have hd := h
      simp only at hd
      have dd : (k == k') = false := by simpa using hd
      clear hd hne
      obtain ⟨c0, c1, c2, c3, c4, c5⟩ := HG0_6.out.six
      obtain ⟨d0, d1, d2, d3, d4, d5⟩ := HG1_6.out.six
      obtain ⟨e0, e1, e2, e3, e4, e5⟩ := HG2_6.out.six
      go_wp2_with (first
        | (go_at_call 31; first
          | ((with_reducible refine (HP.out ▸ rord_any ⟨k, o, cc, l, r, v⟩ ⟨k', o', cc', l', r', v'⟩ _).mono ?_); rintro e z1 ⟨rfl, b_⟩; have T_z1 := Lib.hid (HT_6.out.below b_); have B_z1 := Lib.hid (HB_6.out.trans (b_.mono HB_6.out.size)); have HG0_z1 := Lib.hid (HG0_6.out.keep b_); have HG1_z1 := Lib.hid (HG1_6.out.keep b_); have HG2_z1 := Lib.hid (HG2_6.out.keep b_); clear b_ c0 c1 c2 c3 c4 c5 d0 d1 d2 d3 d4 d5 e0 e1 e2 e3 e4 e5; obtain ⟨c0, c1, c2, c3, c4, c5⟩ := HG0_z1.out.six; obtain ⟨d0, d1, d2, d3, d4, d5⟩ := HG1_z1.out.six; obtain ⟨e0, e1, e2, e3, e4, e5⟩ := HG2_z1.out.six)
          | ((with_reducible refine (HQ.out ▸ rord_any ⟨k', o', cc', l', r', v'⟩ c _).mono ?_); rintro e z2 ⟨rfl, b_⟩; have T_z2 := Lib.hid (T_z1.out.below b_); have B_z2 := Lib.hid (B_z1.out.trans (b_.mono B_z1.out.size)); have HG0_z2 := Lib.hid (HG0_z1.out.keep b_); have HG1_z2 := Lib.hid (HG1_z1.out.keep b_); have HG2_z2 := Lib.hid (HG2_z1.out.keep b_); clear b_ c0 c1 c2 c3 c4 c5 d0 d1 d2 d3 d4 d5 e0 e1 e2 e3 e4 e5; obtain ⟨c0, c1, c2, c3, c4, c5⟩ := HG0_z2.out.six; obtain ⟨d0, d1, d2, d3, d4, d5⟩ := HG1_z2.out.six; obtain ⟨e0, e1, e2, e3, e4, e5⟩ := HG2_z2.out.six)
          | ((with_reducible refine (HS.out ▸ rord_any ⟨k, o, cc, l, r, v⟩ c _).mono ?_); rintro e z3 ⟨rfl, b_⟩; have T_z3 := Lib.hid (T_z2.out.below b_); have B_z3 := Lib.hid (B_z2.out.trans (b_.mono B_z2.out.size)); have HG0_z3 := Lib.hid (HG0_z2.out.keep b_); have HG1_z3 := Lib.hid (HG1_z2.out.keep b_); have HG2_z3 := Lib.hid (HG2_z2.out.keep b_); clear b_ c0 c1 c2 c3 c4 c5 d0 d1 d2 d3 d4 d5 e0 e1 e2 e3 e4 e5; obtain ⟨c0, c1, c2, c3, c4, c5⟩ := HG0_z3.out.six; obtain ⟨d0, d1, d2, d3, d4, d5⟩ := HG1_z3.out.six; obtain ⟨e0, e1, e2, e3, e4, e5⟩ := HG2_z3.out.six))
        | (go_at_call 30; first
          | ((with_reducible refine (HN.out ▸ kord_any ⟨k', o', cc', l', r', v'⟩ ⟨k, o, cc, l, r, v⟩ _).mono ?_); rintro e z4 ⟨rfl, b_⟩; have T_z4 := Lib.hid (T_z3.out.below b_); have B_z4 := Lib.hid (B_z3.out.trans (b_.mono B_z3.out.size)); have HG0_z4 := Lib.hid (HG0_z3.out.keep b_); have HG1_z4 := Lib.hid (HG1_z3.out.keep b_); have HG2_z4 := Lib.hid (HG2_z3.out.keep b_); clear b_ c0 c1 c2 c3 c4 c5 d0 d1 d2 d3 d4 d5 e0 e1 e2 e3 e4 e5; obtain ⟨c0, c1, c2, c3, c4, c5⟩ := HG0_z4.out.six; obtain ⟨d0, d1, d2, d3, d4, d5⟩ := HG1_z4.out.six; obtain ⟨e0, e1, e2, e3, e4, e5⟩ := HG2_z4.out.six))
        | (go_at_call 29; first
          | ((with_reducible refine (sgn_any (-1) (by decide) _).mono ?_); rintro e z5 ⟨rfl, b_⟩; have T_z5 := Lib.hid (T_z4.out.below b_); have B_z5 := Lib.hid (B_z4.out.trans (b_.mono B_z4.out.size)); have HG0_z5 := Lib.hid (HG0_z4.out.keep b_); have HG1_z5 := Lib.hid (HG1_z4.out.keep b_); have HG2_z5 := Lib.hid (HG2_z4.out.keep b_); clear b_ c0 c1 c2 c3 c4 c5 d0 d1 d2 d3 d4 d5 e0 e1 e2 e3 e4 e5; obtain ⟨c0, c1, c2, c3, c4, c5⟩ := HG0_z5.out.six; obtain ⟨d0, d1, d2, d3, d4, d5⟩ := HG1_z5.out.six; obtain ⟨e0, e1, e2, e3, e4, e5⟩ := HG2_z5.out.six))
        | (go_at_call 18; first
          | ((with_reducible refine (known_any _ T_z5.out).mono ?_); rintro e z6 ⟨rfl, b_⟩; have T_z6 := Lib.hid (T_z5.out.below b_); have B_z6 := Lib.hid (B_z5.out.trans (b_.mono B_z5.out.size)); have HG0_z6 := Lib.hid (HG0_z5.out.keep b_); have HG1_z6 := Lib.hid (HG1_z5.out.keep b_); have HG2_z6 := Lib.hid (HG2_z5.out.keep b_); clear b_ c0 c1 c2 c3 c4 c5 d0 d1 d2 d3 d4 d5 e0 e1 e2 e3 e4 e5; obtain ⟨c0, c1, c2, c3, c4, c5⟩ := HG0_z6.out.six; obtain ⟨d0, d1, d2, d3, d4, d5⟩ := HG1_z6.out.six; obtain ⟨e0, e1, e2, e3, e4, e5⟩ := HG2_z6.out.six)))
      go_ret
      exact ⟨rfl, B_z6.out⟩
    · obtain ⟨e0, hd⟩ := h
      simp only at e0 hd
      subst e0
      have dd : (o == o') = false := by simpa using hd
      clear hd hne
      obtain ⟨c0, c1, c2, c3, c4, c5⟩ := HG0_6.out.six
      obtain ⟨d0, d1, d2, d3, d4, d5⟩ := HG1_6.out.six
      obtain ⟨e0, e1, e2, e3, e4, e5⟩ := HG2_6.out.six
      go_wp2_with (first
        | (go_at_call 31; first
          | ((with_reducible refine (HP.out ▸ rord_any ⟨k, o, cc, l, r, v⟩ ⟨k, o', cc', l', r', v'⟩ _).mono ?_); rintro e z1 ⟨rfl, b_⟩; have T_z1 := Lib.hid (HT_6.out.below b_); have B_z1 := Lib.hid (HB_6.out.trans (b_.mono HB_6.out.size)); have HG0_z1 := Lib.hid (HG0_6.out.keep b_); have HG1_z1 := Lib.hid (HG1_6.out.keep b_); have HG2_z1 := Lib.hid (HG2_6.out.keep b_); clear b_ c0 c1 c2 c3 c4 c5 d0 d1 d2 d3 d4 d5 e0 e1 e2 e3 e4 e5; obtain ⟨c0, c1, c2, c3, c4, c5⟩ := HG0_z1.out.six; obtain ⟨d0, d1, d2, d3, d4, d5⟩ := HG1_z1.out.six; obtain ⟨e0, e1, e2, e3, e4, e5⟩ := HG2_z1.out.six)
          | ((with_reducible refine (HQ.out ▸ rord_any ⟨k, o', cc', l', r', v'⟩ c _).mono ?_); rintro e z2 ⟨rfl, b_⟩; have T_z2 := Lib.hid (T_z1.out.below b_); have B_z2 := Lib.hid (B_z1.out.trans (b_.mono B_z1.out.size)); have HG0_z2 := Lib.hid (HG0_z1.out.keep b_); have HG1_z2 := Lib.hid (HG1_z1.out.keep b_); have HG2_z2 := Lib.hid (HG2_z1.out.keep b_); clear b_ c0 c1 c2 c3 c4 c5 d0 d1 d2 d3 d4 d5 e0 e1 e2 e3 e4 e5; obtain ⟨c0, c1, c2, c3, c4, c5⟩ := HG0_z2.out.six; obtain ⟨d0, d1, d2, d3, d4, d5⟩ := HG1_z2.out.six; obtain ⟨e0, e1, e2, e3, e4, e5⟩ := HG2_z2.out.six)
          | ((with_reducible refine (HS.out ▸ rord_any ⟨k, o, cc, l, r, v⟩ c _).mono ?_); rintro e z3 ⟨rfl, b_⟩; have T_z3 := Lib.hid (T_z2.out.below b_); have B_z3 := Lib.hid (B_z2.out.trans (b_.mono B_z2.out.size)); have HG0_z3 := Lib.hid (HG0_z2.out.keep b_); have HG1_z3 := Lib.hid (HG1_z2.out.keep b_); have HG2_z3 := Lib.hid (HG2_z2.out.keep b_); clear b_ c0 c1 c2 c3 c4 c5 d0 d1 d2 d3 d4 d5 e0 e1 e2 e3 e4 e5; obtain ⟨c0, c1, c2, c3, c4, c5⟩ := HG0_z3.out.six; obtain ⟨d0, d1, d2, d3, d4, d5⟩ := HG1_z3.out.six; obtain ⟨e0, e1, e2, e3, e4, e5⟩ := HG2_z3.out.six))
        | (go_at_call 30; first
          | ((with_reducible refine (HN.out ▸ kord_any ⟨k, o', cc', l', r', v'⟩ ⟨k, o, cc, l, r, v⟩ _).mono ?_); rintro e z4 ⟨rfl, b_⟩; have T_z4 := Lib.hid (T_z3.out.below b_); have B_z4 := Lib.hid (B_z3.out.trans (b_.mono B_z3.out.size)); have HG0_z4 := Lib.hid (HG0_z3.out.keep b_); have HG1_z4 := Lib.hid (HG1_z3.out.keep b_); have HG2_z4 := Lib.hid (HG2_z3.out.keep b_); clear b_ c0 c1 c2 c3 c4 c5 d0 d1 d2 d3 d4 d5 e0 e1 e2 e3 e4 e5; obtain ⟨c0, c1, c2, c3, c4, c5⟩ := HG0_z4.out.six; obtain ⟨d0, d1, d2, d3, d4, d5⟩ := HG1_z4.out.six; obtain ⟨e0, e1, e2, e3, e4, e5⟩ := HG2_z4.out.six))
        | (go_at_call 29; first
          | ((with_reducible refine (sgn_any (-1) (by decide) _).mono ?_); rintro e z5 ⟨rfl, b_⟩; have T_z5 := Lib.hid (T_z4.out.below b_); have B_z5 := Lib.hid (B_z4.out.trans (b_.mono B_z4.out.size)); have HG0_z5 := Lib.hid (HG0_z4.out.keep b_); have HG1_z5 := Lib.hid (HG1_z4.out.keep b_); have HG2_z5 := Lib.hid (HG2_z4.out.keep b_); clear b_ c0 c1 c2 c3 c4 c5 d0 d1 d2 d3 d4 d5 e0 e1 e2 e3 e4 e5; obtain ⟨c0, c1, c2, c3, c4, c5⟩ := HG0_z5.out.six; obtain ⟨d0, d1, d2, d3, d4, d5⟩ := HG1_z5.out.six; obtain ⟨e0, e1, e2, e3, e4, e5⟩ := HG2_z5.out.six))
        | (go_at_call 18; first
          | ((with_reducible refine (known_any _ T_z5.out).mono ?_); rintro e z6 ⟨rfl, b_⟩; have T_z6 := Lib.hid (T_z5.out.below b_); have B_z6 := Lib.hid (B_z5.out.trans (b_.mono B_z5.out.size)); have HG0_z6 := Lib.hid (HG0_z5.out.keep b_); have HG1_z6 := Lib.hid (HG1_z5.out.keep b_); have HG2_z6 := Lib.hid (HG2_z5.out.keep b_); clear b_ c0 c1 c2 c3 c4 c5 d0 d1 d2 d3 d4 d5 e0 e1 e2 e3 e4 e5; obtain ⟨c0, c1, c2, c3, c4, c5⟩ := HG0_z6.out.six; obtain ⟨d0, d1, d2, d3, d4, d5⟩ := HG1_z6.out.six; obtain ⟨e0, e1, e2, e3, e4, e5⟩ := HG2_z6.out.six)))
      go_ret
      exact ⟨rfl, B_z6.out⟩
    · obtain ⟨e0, e1, hd⟩ := h
      simp only at e0 e1 hd
      subst e0 e1
      have dd : (cc == cc') = false := by simpa using hd
      clear hd hne
      obtain ⟨c0, c1, c2, c3, c4, c5⟩ := HG0_6.out.six
      obtain ⟨d0, d1, d2, d3, d4, d5⟩ := HG1_6.out.six
      obtain ⟨e0, e1, e2, e3, e4, e5⟩ := HG2_6.out.six
      go_wp2_with (first
        | (go_at_call 31; first
          | ((with_reducible refine (HP.out ▸ rord_any ⟨k, o, cc, l, r, v⟩ ⟨k, o, cc', l', r', v'⟩ _).mono ?_); rintro e z1 ⟨rfl, b_⟩; have T_z1 := Lib.hid (HT_6.out.below b_); have B_z1 := Lib.hid (HB_6.out.trans (b_.mono HB_6.out.size)); have HG0_z1 := Lib.hid (HG0_6.out.keep b_); have HG1_z1 := Lib.hid (HG1_6.out.keep b_); have HG2_z1 := Lib.hid (HG2_6.out.keep b_); clear b_ c0 c1 c2 c3 c4 c5 d0 d1 d2 d3 d4 d5 e0 e1 e2 e3 e4 e5; obtain ⟨c0, c1, c2, c3, c4, c5⟩ := HG0_z1.out.six; obtain ⟨d0, d1, d2, d3, d4, d5⟩ := HG1_z1.out.six; obtain ⟨e0, e1, e2, e3, e4, e5⟩ := HG2_z1.out.six)
          | ((with_reducible refine (HQ.out ▸ rord_any ⟨k, o, cc', l', r', v'⟩ c _).mono ?_); rintro e z2 ⟨rfl, b_⟩; have T_z2 := Lib.hid (T_z1.out.below b_); have B_z2 := Lib.hid (B_z1.out.trans (b_.mono B_z1.out.size)); have HG0_z2 := Lib.hid (HG0_z1.out.keep b_); have HG1_z2 := Lib.hid (HG1_z1.out.keep b_); have HG2_z2 := Lib.hid (HG2_z1.out.keep b_); clear b_ c0 c1 c2 c3 c4 c5 d0 d1 d2 d3 d4 d5 e0 e1 e2 e3 e4 e5; obtain ⟨c0, c1, c2, c3, c4, c5⟩ := HG0_z2.out.six; obtain ⟨d0, d1, d2, d3, d4, d5⟩ := HG1_z2.out.six; obtain ⟨e0, e1, e2, e3, e4, e5⟩ := HG2_z2.out.six)
          | ((with_reducible refine (HS.out ▸ rord_any ⟨k, o, cc, l, r, v⟩ c _).mono ?_); rintro e z3 ⟨rfl, b_⟩; have T_z3 := Lib.hid (T_z2.out.below b_); have B_z3 := Lib.hid (B_z2.out.trans (b_.mono B_z2.out.size)); have HG0_z3 := Lib.hid (HG0_z2.out.keep b_); have HG1_z3 := Lib.hid (HG1_z2.out.keep b_); have HG2_z3 := Lib.hid (HG2_z2.out.keep b_); clear b_ c0 c1 c2 c3 c4 c5 d0 d1 d2 d3 d4 d5 e0 e1 e2 e3 e4 e5; obtain ⟨c0, c1, c2, c3, c4, c5⟩ := HG0_z3.out.six; obtain ⟨d0, d1, d2, d3, d4, d5⟩ := HG1_z3.out.six; obtain ⟨e0, e1, e2, e3, e4, e5⟩ := HG2_z3.out.six))
        | (go_at_call 30; first
          | ((with_reducible refine (HN.out ▸ kord_any ⟨k, o, cc', l', r', v'⟩ ⟨k, o, cc, l, r, v⟩ _).mono ?_); rintro e z4 ⟨rfl, b_⟩; have T_z4 := Lib.hid (T_z3.out.below b_); have B_z4 := Lib.hid (B_z3.out.trans (b_.mono B_z3.out.size)); have HG0_z4 := Lib.hid (HG0_z3.out.keep b_); have HG1_z4 := Lib.hid (HG1_z3.out.keep b_); have HG2_z4 := Lib.hid (HG2_z3.out.keep b_); clear b_ c0 c1 c2 c3 c4 c5 d0 d1 d2 d3 d4 d5 e0 e1 e2 e3 e4 e5; obtain ⟨c0, c1, c2, c3, c4, c5⟩ := HG0_z4.out.six; obtain ⟨d0, d1, d2, d3, d4, d5⟩ := HG1_z4.out.six; obtain ⟨e0, e1, e2, e3, e4, e5⟩ := HG2_z4.out.six))
        | (go_at_call 29; first
          | ((with_reducible refine (sgn_any (-1) (by decide) _).mono ?_); rintro e z5 ⟨rfl, b_⟩; have T_z5 := Lib.hid (T_z4.out.below b_); have B_z5 := Lib.hid (B_z4.out.trans (b_.mono B_z4.out.size)); have HG0_z5 := Lib.hid (HG0_z4.out.keep b_); have HG1_z5 := Lib.hid (HG1_z4.out.keep b_); have HG2_z5 := Lib.hid (HG2_z4.out.keep b_); clear b_ c0 c1 c2 c3 c4 c5 d0 d1 d2 d3 d4 d5 e0 e1 e2 e3 e4 e5; obtain ⟨c0, c1, c2, c3, c4, c5⟩ := HG0_z5.out.six; obtain ⟨d0, d1, d2, d3, d4, d5⟩ := HG1_z5.out.six; obtain ⟨e0, e1, e2, e3, e4, e5⟩ := HG2_z5.out.six))
        | (go_at_call 18; first
          | ((with_reducible refine (known_any _ T_z5.out).mono ?_); rintro e z6 ⟨rfl, b_⟩; have T_z6 := Lib.hid (T_z5.out.below b_); have B_z6 := Lib.hid (B_z5.out.trans (b_.mono B_z5.out.size)); have HG0_z6 := Lib.hid (HG0_z5.out.keep b_); have HG1_z6 := Lib.hid (HG1_z5.out.keep b_); have HG2_z6 := Lib.hid (HG2_z5.out.keep b_); clear b_ c0 c1 c2 c3 c4 c5 d0 d1 d2 d3 d4 d5 e0 e1 e2 e3 e4 e5; obtain ⟨c0, c1, c2, c3, c4, c5⟩ := HG0_z6.out.six; obtain ⟨d0, d1, d2, d3, d4, d5⟩ := HG1_z6.out.six; obtain ⟨e0, e1, e2, e3, e4, e5⟩ := HG2_z6.out.six)))
      go_ret
      exact ⟨rfl, B_z6.out⟩
    · obtain ⟨e0, e1, e2, hd⟩ := h
      simp only at e0 e1 e2 hd
      subst e0 e1 e2
      have dd : (l == l') = false := by simpa using hd
      clear hd hne
      obtain ⟨c0, c1, c2, c3, c4, c5⟩ := HG0_6.out.six
      obtain ⟨d0, d1, d2, d3, d4, d5⟩ := HG1_6.out.six
      obtain ⟨e0, e1, e2, e3, e4, e5⟩ := HG2_6.out.six
      go_wp2_with (first
        | (go_at_call 31; first
          | ((with_reducible refine (HP.out ▸ rord_any ⟨k, o, cc, l, r, v⟩ ⟨k, o, cc, l', r', v'⟩ _).mono ?_); rintro e z1 ⟨rfl, b_⟩; have T_z1 := Lib.hid (HT_6.out.below b_); have B_z1 := Lib.hid (HB_6.out.trans (b_.mono HB_6.out.size)); have HG0_z1 := Lib.hid (HG0_6.out.keep b_); have HG1_z1 := Lib.hid (HG1_6.out.keep b_); have HG2_z1 := Lib.hid (HG2_6.out.keep b_); clear b_ c0 c1 c2 c3 c4 c5 d0 d1 d2 d3 d4 d5 e0 e1 e2 e3 e4 e5; obtain ⟨c0, c1, c2, c3, c4, c5⟩ := HG0_z1.out.six; obtain ⟨d0, d1, d2, d3, d4, d5⟩ := HG1_z1.out.six; obtain ⟨e0, e1, e2, e3, e4, e5⟩ := HG2_z1.out.six)
          | ((with_reducible refine (HQ.out ▸ rord_any ⟨k, o, cc, l', r', v'⟩ c _).mono ?_); rintro e z2 ⟨rfl, b_⟩; have T_z2 := Lib.hid (T_z1.out.below b_); have B_z2 := Lib.hid (B_z1.out.trans (b_.mono B_z1.out.size)); have HG0_z2 := Lib.hid (HG0_z1.out.keep b_); have HG1_z2 := Lib.hid (HG1_z1.out.keep b_); have HG2_z2 := Lib.hid (HG2_z1.out.keep b_); clear b_ c0 c1 c2 c3 c4 c5 d0 d1 d2 d3 d4 d5 e0 e1 e2 e3 e4 e5; obtain ⟨c0, c1, c2, c3, c4, c5⟩ := HG0_z2.out.six; obtain ⟨d0, d1, d2, d3, d4, d5⟩ := HG1_z2.out.six; obtain ⟨e0, e1, e2, e3, e4, e5⟩ := HG2_z2.out.six)
          | ((with_reducible refine (HS.out ▸ rord_any ⟨k, o, cc, l, r, v⟩ c _).mono ?_); rintro e z3 ⟨rfl, b_⟩; have T_z3 := Lib.hid (T_z2.out.below b_); have B_z3 := Lib.hid (B_z2.out.trans (b_.mono B_z2.out.size)); have HG0_z3 := Lib.hid (HG0_z2.out.keep b_); have HG1_z3 := Lib.hid (HG1_z2.out.keep b_); have HG2_z3 := Lib.hid (HG2_z2.out.keep b_); clear b_ c0 c1 c2 c3 c4 c5 d0 d1 d2 d3 d4 d5 e0 e1 e2 e3 e4 e5; obtain ⟨c0, c1, c2, c3, c4, c5⟩ := HG0_z3.out.six; obtain ⟨d0, d1, d2, d3, d4, d5⟩ := HG1_z3.out.six; obtain ⟨e0, e1, e2, e3, e4, e5⟩ := HG2_z3.out.six))
        | (go_at_call 30; first
          | ((with_reducible refine (HN.out ▸ kord_any ⟨k, o, cc, l', r', v'⟩ ⟨k, o, cc, l, r, v⟩ _).mono ?_); rintro e z4 ⟨rfl, b_⟩; have T_z4 := Lib.hid (T_z3.out.below b_); have B_z4 := Lib.hid (B_z3.out.trans (b_.mono B_z3.out.size)); have HG0_z4 := Lib.hid (HG0_z3.out.keep b_); have HG1_z4 := Lib.hid (HG1_z3.out.keep b_); have HG2_z4 := Lib.hid (HG2_z3.out.keep b_); clear b_ c0 c1 c2 c3 c4 c5 d0 d1 d2 d3 d4 d5 e0 e1 e2 e3 e4 e5; obtain ⟨c0, c1, c2, c3, c4, c5⟩ := HG0_z4.out.six; obtain ⟨d0, d1, d2, d3, d4, d5⟩ := HG1_z4.out.six; obtain ⟨e0, e1, e2, e3, e4, e5⟩ := HG2_z4.out.six))
        | (go_at_call 29; first
          | ((with_reducible refine (sgn_any (-1) (by decide) _).mono ?_); rintro e z5 ⟨rfl, b_⟩; have T_z5 := Lib.hid (T_z4.out.below b_); have B_z5 := Lib.hid (B_z4.out.trans (b_.mono B_z4.out.size)); have HG0_z5 := Lib.hid (HG0_z4.out.keep b_); have HG1_z5 := Lib.hid (HG1_z4.out.keep b_); have HG2_z5 := Lib.hid (HG2_z4.out.keep b_); clear b_ c0 c1 c2 c3 c4 c5 d0 d1 d2 d3 d4 d5 e0 e1 e2 e3 e4 e5; obtain ⟨c0, c1, c2, c3, c4, c5⟩ := HG0_z5.out.six; obtain ⟨d0, d1, d2, d3, d4, d5⟩ := HG1_z5.out.six; obtain ⟨e0, e1, e2, e3, e4, e5⟩ := HG2_z5.out.six))
        | (go_at_call 18; first
          | ((with_reducible refine (known_any _ T_z5.out).mono ?_); rintro e z6 ⟨rfl, b_⟩; have T_z6 := Lib.hid (T_z5.out.below b_); have B_z6 := Lib.hid (B_z5.out.trans (b_.mono B_z5.out.size)); have HG0_z6 := Lib.hid (HG0_z5.out.keep b_); have HG1_z6 := Lib.hid (HG1_z5.out.keep b_); have HG2_z6 := Lib.hid (HG2_z5.out.keep b_); clear b_ c0 c1 c2 c3 c4 c5 d0 d1 d2 d3 d4 d5 e0 e1 e2 e3 e4 e5; obtain ⟨c0, c1, c2, c3, c4, c5⟩ := HG0_z6.out.six; obtain ⟨d0, d1, d2, d3, d4, d5⟩ := HG1_z6.out.six; obtain ⟨e0, e1, e2, e3, e4, e5⟩ := HG2_z6.out.six)))
      go_ret
      exact ⟨rfl, B_z6.out⟩
    · obtain ⟨e0, e1, e2, e3, hd⟩ := h
      simp only at e0 e1 e2 e3 hd
      subst e0 e1 e2 e3
      have dd : (r == r') = false := by simpa using hd
      clear hd hne
      obtain ⟨c0, c1, c2, c3, c4, c5⟩ := HG0_6.out.six
      obtain ⟨d0, d1, d2, d3, d4, d5⟩ := HG1_6.out.six
      obtain ⟨e0, e1, e2, e3, e4, e5⟩ := HG2_6.out.six
      go_wp2_with (first
        | (go_at_call 31; first
          | ((with_reducible refine (HP.out ▸ rord_any ⟨k, o, cc, l, r, v⟩ ⟨k, o, cc, l, r', v'⟩ _).mono ?_); rintro e z1 ⟨rfl, b_⟩; have T_z1 := Lib.hid (HT_6.out.below b_); have B_z1 := Lib.hid (HB_6.out.trans (b_.mono HB_6.out.size)); have HG0_z1 := Lib.hid (HG0_6.out.keep b_); have HG1_z1 := Lib.hid (HG1_6.out.keep b_); have HG2_z1 := Lib.hid (HG2_6.out.keep b_); clear b_ c0 c1 c2 c3 c4 c5 d0 d1 d2 d3 d4 d5 e0 e1 e2 e3 e4 e5; obtain ⟨c0, c1, c2, c3, c4, c5⟩ := HG0_z1.out.six; obtain ⟨d0, d1, d2, d3, d4, d5⟩ := HG1_z1.out.six; obtain ⟨e0, e1, e2, e3, e4, e5⟩ := HG2_z1.out.six)
          | ((with_reducible refine (HQ.out ▸ rord_any ⟨k, o, cc, l, r', v'⟩ c _).mono ?_); rintro e z2 ⟨rfl, b_⟩; have T_z2 := Lib.hid (T_z1.out.below b_); have B_z2 := Lib.hid (B_z1.out.trans (b_.mono B_z1.out.size)); have HG0_z2 := Lib.hid (HG0_z1.out.keep b_); have HG1_z2 := Lib.hid (HG1_z1.out.keep b_); have HG2_z2 := Lib.hid (HG2_z1.out.keep b_); clear b_ c0 c1 c2 c3 c4 c5 d0 d1 d2 d3 d4 d5 e0 e1 e2 e3 e4 e5; obtain ⟨c0, c1, c2, c3, c4, c5⟩ := HG0_z2.out.six; obtain ⟨d0, d1, d2, d3, d4, d5⟩ := HG1_z2.out.six; obtain ⟨e0, e1, e2, e3, e4, e5⟩ := HG2_z2.out.six)
          | ((with_reducible refine (HS.out ▸ rord_any ⟨k, o, cc, l, r, v⟩ c _).mono ?_); rintro e z3 ⟨rfl, b_⟩; have T_z3 := Lib.hid (T_z2.out.below b_); have B_z3 := Lib.hid (B_z2.out.trans (b_.mono B_z2.out.size)); have HG0_z3 := Lib.hid (HG0_z2.out.keep b_); have HG1_z3 := Lib.hid (HG1_z2.out.keep b_); have HG2_z3 := Lib.hid (HG2_z2.out.keep b_); clear b_ c0 c1 c2 c3 c4 c5 d0 d1 d2 d3 d4 d5 e0 e1 e2 e3 e4 e5; obtain ⟨c0, c1, c2, c3, c4, c5⟩ := HG0_z3.out.six; obtain ⟨d0, d1, d2, d3, d4, d5⟩ := HG1_z3.out.six; obtain ⟨e0, e1, e2, e3, e4, e5⟩ := HG2_z3.out.six))
        | (go_at_call 30; first
          | ((with_reducible refine (HN.out ▸ kord_any ⟨k, o, cc, l, r', v'⟩ ⟨k, o, cc, l, r, v⟩ _).mono ?_); rintro e z4 ⟨rfl, b_⟩; have T_z4 := Lib.hid (T_z3.out.below b_); have B_z4 := Lib.hid (B_z3.out.trans (b_.mono B_z3.out.size)); have HG0_z4 := Lib.hid (HG0_z3.out.keep b_); have HG1_z4 := Lib.hid (HG1_z3.out.keep b_); have HG2_z4 := Lib.hid (HG2_z3.out.keep b_); clear b_ c0 c1 c2 c3 c4 c5 d0 d1 d2 d3 d4 d5 e0 e1 e2 e3 e4 e5; obtain ⟨c0, c1, c2, c3, c4, c5⟩ := HG0_z4.out.six; obtain ⟨d0, d1, d2, d3, d4, d5⟩ := HG1_z4.out.six; obtain ⟨e0, e1, e2, e3, e4, e5⟩ := HG2_z4.out.six))
        | (go_at_call 29; first
          | ((with_reducible refine (sgn_any (-1) (by decide) _).mono ?_); rintro e z5 ⟨rfl, b_⟩; have T_z5 := Lib.hid (T_z4.out.below b_); have B_z5 := Lib.hid (B_z4.out.trans (b_.mono B_z4.out.size)); have HG0_z5 := Lib.hid (HG0_z4.out.keep b_); have HG1_z5 := Lib.hid (HG1_z4.out.keep b_); have HG2_z5 := Lib.hid (HG2_z4.out.keep b_); clear b_ c0 c1 c2 c3 c4 c5 d0 d1 d2 d3 d4 d5 e0 e1 e2 e3 e4 e5; obtain ⟨c0, c1, c2, c3, c4, c5⟩ := HG0_z5.out.six; obtain ⟨d0, d1, d2, d3, d4, d5⟩ := HG1_z5.out.six; obtain ⟨e0, e1, e2, e3, e4, e5⟩ := HG2_z5.out.six))
        | (go_at_call 18; first
          | ((with_reducible refine (known_any _ T_z5.out).mono ?_); rintro e z6 ⟨rfl, b_⟩; have T_z6 := Lib.hid (T_z5.out.below b_); have B_z6 := Lib.hid (B_z5.out.trans (b_.mono B_z5.out.size)); have HG0_z6 := Lib.hid (HG0_z5.out.keep b_); have HG1_z6 := Lib.hid (HG1_z5.out.keep b_); have HG2_z6 := Lib.hid (HG2_z5.out.keep b_); clear b_ c0 c1 c2 c3 c4 c5 d0 d1 d2 d3 d4 d5 e0 e1 e2 e3 e4 e5; obtain ⟨c0, c1, c2, c3, c4, c5⟩ := HG0_z6.out.six; obtain ⟨d0, d1, d2, d3, d4, d5⟩ := HG1_z6.out.six; obtain ⟨e0, e1, e2, e3, e4, e5⟩ := HG2_z6.out.six)))
      go_ret
      exact ⟨rfl, B_z6.out⟩
    · obtain ⟨e0, e1, e2, e3, e4, hd⟩ := h
      simp only at e0 e1 e2 e3 e4 hd
      subst e0 e1 e2 e3 e4
      have dd : (v == v') = false := by simpa using hd
      clear hd hne
      obtain ⟨c0, c1, c2, c3, c4, c5⟩ := HG0_6.out.six
      obtain ⟨d0, d1, d2, d3, d4, d5⟩ := HG1_6.out.six
      obtain ⟨e0, e1, e2, e3, e4, e5⟩ := HG2_6.out.six
      go_wp2_with (first
        | (go_at_call 31; first
          | ((with_reducible refine (HP.out ▸ rord_any ⟨k, o, cc, l, r, v⟩ ⟨k, o, cc, l, r, v'⟩ _).mono ?_); rintro e z1 ⟨rfl, b_⟩; have T_z1 := Lib.hid (HT_6.out.below b_); have B_z1 := Lib.hid (HB_6.out.trans (b_.mono HB_6.out.size)); have HG0_z1 := Lib.hid (HG0_6.out.keep b_); have HG1_z1 := Lib.hid (HG1_6.out.keep b_); have HG2_z1 := Lib.hid (HG2_6.out.keep b_); clear b_ c0 c1 c2 c3 c4 c5 d0 d1 d2 d3 d4 d5 e0 e1 e2 e3 e4 e5; obtain ⟨c0, c1, c2, c3, c4, c5⟩ := HG0_z1.out.six; obtain ⟨d0, d1, d2, d3, d4, d5⟩ := HG1_z1.out.six; obtain ⟨e0, e1, e2, e3, e4, e5⟩ := HG2_z1.out.six)
          | ((with_reducible refine (HQ.out ▸ rord_any ⟨k, o, cc, l, r, v'⟩ c _).mono ?_); rintro e z2 ⟨rfl, b_⟩; have T_z2 := Lib.hid (T_z1.out.below b_); have B_z2 := Lib.hid (B_z1.out.trans (b_.mono B_z1.out.size)); have HG0_z2 := Lib.hid (HG0_z1.out.keep b_); have HG1_z2 := Lib.hid (HG1_z1.out.keep b_); have HG2_z2 := Lib.hid (HG2_z1.out.keep b_); clear b_ c0 c1 c2 c3 c4 c5 d0 d1 d2 d3 d4 d5 e0 e1 e2 e3 e4 e5; obtain ⟨c0, c1, c2, c3, c4, c5⟩ := HG0_z2.out.six; obtain ⟨d0, d1, d2, d3, d4, d5⟩ := HG1_z2.out.six; obtain ⟨e0, e1, e2, e3, e4, e5⟩ := HG2_z2.out.six)
          | ((with_reducible refine (HS.out ▸ rord_any ⟨k, o, cc, l, r, v⟩ c _).mono ?_); rintro e z3 ⟨rfl, b_⟩; have T_z3 := Lib.hid (T_z2.out.below b_); have B_z3 := Lib.hid (B_z2.out.trans (b_.mono B_z2.out.size)); have HG0_z3 := Lib.hid (HG0_z2.out.keep b_); have HG1_z3 := Lib.hid (HG1_z2.out.keep b_); have HG2_z3 := Lib.hid (HG2_z2.out.keep b_); clear b_ c0 c1 c2 c3 c4 c5 d0 d1 d2 d3 d4 d5 e0 e1 e2 e3 e4 e5; obtain ⟨c0, c1, c2, c3, c4, c5⟩ := HG0_z3.out.six; obtain ⟨d0, d1, d2, d3, d4, d5⟩ := HG1_z3.out.six; obtain ⟨e0, e1, e2, e3, e4, e5⟩ := HG2_z3.out.six))
        | (go_at_call 30; first
          | ((with_reducible refine (HN.out ▸ kord_any ⟨k, o, cc, l, r, v'⟩ ⟨k, o, cc, l, r, v⟩ _).mono ?_); rintro e z4 ⟨rfl, b_⟩; have T_z4 := Lib.hid (T_z3.out.below b_); have B_z4 := Lib.hid (B_z3.out.trans (b_.mono B_z3.out.size)); have HG0_z4 := Lib.hid (HG0_z3.out.keep b_); have HG1_z4 := Lib.hid (HG1_z3.out.keep b_); have HG2_z4 := Lib.hid (HG2_z3.out.keep b_); clear b_ c0 c1 c2 c3 c4 c5 d0 d1 d2 d3 d4 d5 e0 e1 e2 e3 e4 e5; obtain ⟨c0, c1, c2, c3, c4, c5⟩ := HG0_z4.out.six; obtain ⟨d0, d1, d2, d3, d4, d5⟩ := HG1_z4.out.six; obtain ⟨e0, e1, e2, e3, e4, e5⟩ := HG2_z4.out.six))
        | (go_at_call 29; first
          | ((with_reducible refine (sgn_any (-1) (by decide) _).mono ?_); rintro e z5 ⟨rfl, b_⟩; have T_z5 := Lib.hid (T_z4.out.below b_); have B_z5 := Lib.hid (B_z4.out.trans (b_.mono B_z4.out.size)); have HG0_z5 := Lib.hid (HG0_z4.out.keep b_); have HG1_z5 := Lib.hid (HG1_z4.out.keep b_); have HG2_z5 := Lib.hid (HG2_z4.out.keep b_); clear b_ c0 c1 c2 c3 c4 c5 d0 d1 d2 d3 d4 d5 e0 e1 e2 e3 e4 e5; obtain ⟨c0, c1, c2, c3, c4, c5⟩ := HG0_z5.out.six; obtain ⟨d0, d1, d2, d3, d4, d5⟩ := HG1_z5.out.six; obtain ⟨e0, e1, e2, e3, e4, e5⟩ := HG2_z5.out.six))
        | (go_at_call 18; first
          | ((with_reducible refine (known_any _ T_z5.out).mono ?_); rintro e z6 ⟨rfl, b_⟩; have T_z6 := Lib.hid (T_z5.out.below b_); have B_z6 := Lib.hid (B_z5.out.trans (b_.mono B_z5.out.size)); have HG0_z6 := Lib.hid (HG0_z5.out.keep b_); have HG1_z6 := Lib.hid (HG1_z5.out.keep b_); have HG2_z6 := Lib.hid (HG2_z5.out.keep b_); clear b_ c0 c1 c2 c3 c4 c5 d0 d1 d2 d3 d4 d5 e0 e1 e2 e3 e4 e5; obtain ⟨c0, c1, c2, c3, c4, c5⟩ := HG0_z6.out.six; obtain ⟨d0, d1, d2, d3, d4, d5⟩ := HG1_z6.out.six; obtain ⟨e0, e1, e2, e3, e4, e5⟩ := HG2_z6.out.six)))
      go_ret
      exact ⟨rfl, B_z6.out⟩
theorem walk (w : World) (hL : laidMetH Tryd.prog laidK w) (a b c : Ky) : Calls Tryd.prog 10 #[a.val, b.val, c.val] w fun e w' => e = .returned (.bool true) ∧ Below w.heap.size w w' := walk0 w (tab_of hL) a b c
set_option maxRecDepth 100000 in
theorem lifted (os : Os) (started : os.Started) (H : Type) (enc : TypeId × Value → H) :
    ReturnsInHanded {} Tryd.checked os 10 .any (fun w args => (Rows.keysOrderSpec.pre enc Tryd.prog Tryd.f10 [] false w args ∧ laidMetH Tryd.prog laidK w) ∧ sizedMet enc Tryd.prog Tryd.f10 (OpenSpec.ofChange Rows.keysOrderSpec) false w args) (Rows.keysOrderSpec.post enc Tryd.prog Tryd.f10 false true false false) := by
  refine returnsInHanded_of_change_and (C := Tryd.checked) (X := fun w _ => laidMetH Tryd.prog laidK w) (fun _ _ _ hh h => h.of_heap hh) own started (by kernel_rfl) Tryd.func10
    (ChangeSpec.witness_shaped (enc := enc) (C := Tryd.checked) (os := os) (X := fun w _ => laidMetH Tryd.prog laidK w) false (World.doorLaid Tryd.prog 40 os) #[.agg #[.int .i64 0, .int .i64 0, .int .i64 0, .int .i64 0, .int .i64 0, .int .i64 0], .agg #[.int .i64 0, .int .i64 0, .int .i64 0, .int .i64 0, .int .i64 0, .int .i64 0], .agg #[.int .i64 0, .int .i64 0, .int .i64 0, .int .i64 0, .int .i64 0, .int .i64 0]] 8 rfl (World.shaped_of_RefB (by kernel_rfl) (by kernel_rfl)) (by kernel_rfl) (by kernel_rfl) (by kernel_rfl) (door_met os _)) ?_
  intro W base args ds gs before hval0 hW _ _ hL _
  have hval : ∀ (j : Nat) t v, Tryd.f10.params[j]? = some t → args[j]? = some v → Value.okWide Tryd.prog W .any base t v := hval0
  have hW' := hW
  obtain ⟨p, q, hA0, hV, rfl, hfz, hnd⟩ := hW
  have hA : DataW.TrodAll enc Tryd.prog W 0 (fun _ => true) true Tryd.f10.params.toList args.toList ds p := hA0
  rw [Tryd.params10] at hA hval
  obtain ⟨v0, vs0, d0, ds0, p0, q0, hargs, rfl, rfl, h0, t0⟩ := trodAll_cons hA
  obtain ⟨v1, vs1, d1, ds1, p1, q1, rfl, rfl, rfl, h1, t1⟩ := trodAll_cons t0
  obtain ⟨v2, vs2, d2, ds2, p2, q2, rfl, rfl, rfl, h2, t2⟩ := trodAll_cons t1
  obtain ⟨rfl, rfl, rfl⟩ := trodAll_nil t2
  obtain rfl : args = #[v0, v1, v2] := by cases args; simp_all
  obtain ⟨rfl, rfl⟩ := trodVars_none hV
  have k0 := h0
  have lt0 : ∀ x ∈ p0, x.block < W.heap.size := by obtain ⟨m, hm⟩ := k0; exact DataW.trod_lt m _ _ _ hm
  obtain ⟨x0, rfl⟩ := open_key (hval 0 25 v0 rfl rfl) h0
  have k1 := h1
  have lt1 : ∀ x ∈ p1, x.block < W.heap.size := by obtain ⟨m, hm⟩ := k1; exact DataW.trod_lt m _ _ _ hm
  obtain ⟨x1, rfl⟩ := open_key (hval 1 25 v1 rfl rfl) h1
  have k2 := h2
  have lt2 : ∀ x ∈ p2, x.block < W.heap.size := by obtain ⟨m, hm⟩ := k2; exact DataW.trod_lt m _ _ _ hm
  obtain ⟨x2, rfl⟩ := open_key (hval 2 25 v2 rfl rfl) h2
  clear hA0 hval0
  refine (walk W hL x0 x1 x2).mono fun e W' ⟨he, bel⟩ => ?_
  subst he
  exact ⟨_, rfl, _, _, _, [], _, [], hW', trodAll_mk1 (shut_bool Tryd.underlying4 _), (trodAll_cons_mk (Below.trod laidOut (by kernel_rfl) (of_decide_eq_true (by kernel_rfl)) k0 bel lt0) (trodAll_cons_mk (Below.trod laidOut (by kernel_rfl) (of_decide_eq_true (by kernel_rfl)) k1 bel lt1) (trodAll_cons_mk (Below.trod laidOut (by kernel_rfl) (of_decide_eq_true (by kernel_rfl)) k2 bel lt2) trodAll_mk0))), rfl, bel.frame _, fun h => by cases h⟩
theorem over : Rows.keysOrderRow.holds Tryd.pinned (OpenSpec.ofChange Rows.keysOrderSpec) :=
  OpenClaim.holds_of_wide 10 Tryd.f10 rfl rfl rfl rfl rfl rfl rfl ⟨rfl, rfl, rfl, rfl, rfl⟩ rfl rfl rfl rfl rfl (by kernel_rfl) Tryd.func10 (by kernel_rfl)
    (of_decide_eq_true (by kernel_rfl)) (by unfold Func.isWrapper; first | (rw [if_pos (by decide +kernel)]; kernel_rfl) | (rw [if_neg (by decide +kernel)]; exact ⟨rfl, rfl⟩))
    (fun os started H enc _ => lifted os started H enc)
theorem proved : Rows.KeysOrderCardSaid :=
  Claim7.holds_tied_plain_at .later [] [.data] true Rows.keysOrderCard.stood.harness false
    over (fun _ h => by cases h) (by kernel_rfl) (fun _ h => by cases h) keysOrder_row_tie rfl ⟨rfl, rfl⟩ (by kernel_rfl) rfl
    (fun f fn hf hfn => by
      obtain rfl : f = 10 := Option.some.inj ((show Tryd.prog.funcNamed "chatelaine/chatelainelaw03.KeysOrder" = some 10 by kernel_rfl).symm.trans hf) |>.symm
      obtain rfl : fn = Tryd.f10 := (Option.some.inj (Tryd.func10.symm.trans hfn)).symm
      exact ⟨by kernel_rfl, fun j t ht => by
        rw [Tryd.params10] at ht
        have hm : t ∈ [25, 25, 25] := by simpa using Array.mem_of_getElem? ht
        have hall : ([25, 25, 25].all fun u => !Tryd.prog.wantsStandIn u) = true := by kernel_rfl
        exact (show Tryd.prog.wantsStandIn t = false by simpa using List.all_eq_true.1 hall t hm)⟩)
    (by kernel_rfl)
end Go.Proofs.YtmpibbgciajnkaaDoor.keysOrder

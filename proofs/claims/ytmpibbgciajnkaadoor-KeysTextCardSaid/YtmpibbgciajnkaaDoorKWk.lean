/- keys.Weaken. -/
import Derived.Test.YtmpibbgciajnkaaDoorKMap
import Derived.Test.YtmpibbgciajnkaaDoorKBlk
import Derived.Test.YtmpibbgciajnkaaDoorRegIn
namespace Go.Proofs.YtmpibbgciajnkaaDoor
open Go.RowKit
set_option maxHeartbeats 400000 in
theorem w1_any (k o c l r v : Int) (w : World) :
    Calls Tryd.prog 46 #[.agg (kc k o c l r v)] w fun e w' => e = .returned (.agg (kc k o c l r v)) ∧ Below w.heap.size w w' := by
  go_enter Tryd.func46, Tryd.ntmps46
  go_wp2
  refine bodyPost_ret (v := .agg (kc k o c l r v)) (by simp [results, Tryd.results46, go_sem]) rfl ⟨rfl, ?_⟩
  exact ((Below.refl _ _).alloc (Nat.le_refl _) _).alloc (by simp) _
set_option maxHeartbeats 400000 in
theorem w2_any (k o c l v : Int) (r : Nat) (w : World) (hT : Tab w) (k0 : 0 ≤ k) (k1 : k ≤ 10) (hr : r < 8) :
    Calls Tryd.prog 47 #[.agg (kc k o c l r v)] w fun e w' => e = .returned (.agg (kc k o c l (lsN r 3 (rm k) : Nat) v)) ∧ Below w.heap.size w w' := by
  have HT := Lib.hid hT
  clear hT
  obtain ⟨x, hx⟩ : ∃ x : Int, x = (lsN r 3 (rm k) : Nat) := ⟨_, rfl⟩
  rw [← hx]
  have HX := Lib.hid hx
  clear hx
  go_enter Tryd.func47, Tryd.ntmps47
  go_wp2_with (go_at_call 37; refine (less_any k o c l v r 3 _ ((HT.out.alloc _).alloc _) k0 k1 hr (by decide)).mono ?_; rw [← HX.out]; rintro e w1 ⟨rfl, b1⟩; obtain ⟨B1, B2, b2⟩ := box2 b1; obtain ⟨c0, c1, c2, c3, c4, c5⟩ := B1.six; obtain ⟨d0, d1, d2, d3, d4, d5⟩ := B2.six; have f0 := B2.frozen; have HB := Lib.hid b2; clear b1 b2 B1 B2)
  refine bodyPost_ret (v := .agg (kc k o c l x v)) (by simp [results, Tryd.results47, go_sem, d0, d1, d2, d3, d4, d5]) rfl ⟨rfl, below_set6 HB.out (by omega) _ _ _ _ _ _⟩
set_option maxHeartbeats 1000000 in
theorem weaken_self (k o c l r v : Int) (w : World) (hT : Tab w) (h : OkK k o c l r v) (hk : k = 0 ∨ k = 1 ∨ k = 8) :
    Calls Tryd.prog 21 #[.agg (kc k o c l r v)] w fun e w' => e = .returned (.tuple #[.agg (kc k o c l r v), .int .i64 0]) ∧ Below w.heap.size w w' := by
  have HK := Lib.hid h
  have HT := Lib.hid hT
  have KK := Lib.hid (okK_in h)
  have hlk : ∀ (W : World) (b : Nat), b = W.heap.size → (Instr.lookup 68 (.map (some b)) (.int .i64 k) true).run Tryd.prog ((W.alloc (.map wE5 5)).drew) = .ok (.tuple #[.func (.func 46) #[] #[], .bool true]) ((W.alloc (.map wE5 5)).drew) := by
    rintro W b rfl
    rcases hk with rfl | rfl | rfl
    · exact wlook _ _ _ (some (0, _)) (heap_alloc_new W _) rfl
    · exact wlook _ _ _ (some (1, _)) (heap_alloc_new W _) rfl
    · exact wlook _ _ _ (some (2, _)) (heap_alloc_new W _) rfl
  clear h hT hk
  go_enter Tryd.func21, Tryd.ntmps21
  go_wp2_with (go_at_call 14; refine (chk_ok _ _ _ _ _ _ _ ((HT.out.alloc _).alloc _) HK.out).mono ?_; rintro e w1 ⟨rfl, b1⟩; obtain ⟨B1, B2, b2⟩ := box2 b1; have HB := Lib.hid b2; have HT1 := Lib.hid (HT.out.below b2); have H1 := Lib.hid B1; have H2 := Lib.hid B2; clear b1 b2 B1 B2; have c0 := H1.out.cell 0)
  refine wp_region_only (S := fun w' => w'.cell? ⟨w.heap.size, 0, none⟩ = some (.int .i64 k)) (by kernel_rfl) (H1.out.drew.cell 0) (fun hHeld => ?_)
  refine wpAnyH_take (i := 1) (v := ?v1) rfl (by kernel_rfl) (by kernel_rfl) (by kernel_rfl) (fun _ _ _ h => h) (Or.inl ⟨by rfl, ?hy1⟩) hHeld ?rest1
  case hy1 =>
    intro w' hSw
    try dsimp only at hSw
    go_simp
    first | done | with_reducible rfl
  try simp only [Act.put, List.getElem_toArray, List.getElem_cons_succ, List.getElem_cons_zero, List.setIfInBounds_toArray, List.set_cons_zero, List.set_cons_succ]
  refine wpAnyH_take (i := 2) (v := ?v2) rfl (by kernel_rfl) (by kernel_rfl) (by kernel_rfl) (fun _ _ _ h => h) (Or.inl ⟨by rfl, ?hy2⟩) hHeld ?rest2
  case hy2 =>
    intro w' hSw
    try dsimp only at hSw
    go_simp
    first | done | with_reducible rfl
  try simp only [Act.put, List.getElem_toArray, List.getElem_cons_succ, List.getElem_cons_zero, List.setIfInBounds_toArray, List.set_cons_zero, List.set_cons_succ]
  refine wpAnyH_ready (rs := [0]) (by kernel_rfl) (by simp) ?_
  refine AllReadyH.cons (by rfl) (fun K hK => ?_) AllReadyH.nil
  go_simp
  refine (weakOnes_any _).mono ?_
  rintro e w' ⟨rfl, rfl⟩
  go_wp2_with fail
  refine hK.out _ _ ((H1.out.drew.alloc _).cell 0) (fun hHeld => ?_)
  clear hK K
  try simp only [Act.put, List.getElem_toArray, List.getElem_cons_succ, List.getElem_cons_zero, List.setIfInBounds_toArray, List.set_cons_zero, List.set_cons_succ]
  refine wpAnyH_ready (rs := [3]) (by kernel_rfl) (by simp) ?_
  refine AllReadyH.cons (by rfl) (fun K hK => ?_) AllReadyH.nil
  go_simp
  refine hK.out _ _ ((H1.out.drew.alloc _).cell 0) (fun hHeld => ?_)
  clear hK K
  try simp only [Act.put, List.getElem_toArray, List.getElem_cons_succ, List.getElem_cons_zero, List.setIfInBounds_toArray, List.set_cons_zero, List.set_cons_succ]
  refine wpAnyH_take (i := 4) (v := ?v3) rfl (by kernel_rfl) (by kernel_rfl) (by kernel_rfl) (fun _ _ _ h => h) (Or.inl ⟨by rfl, ?hy3⟩) hHeld ?rest3
  case hy3 =>
    intro w' hSw
    try dsimp only at hSw
    go_simp
    first | done | with_reducible rfl
  try simp only [Act.put, List.getElem_toArray, List.getElem_cons_succ, List.getElem_cons_zero, List.setIfInBounds_toArray, List.set_cons_zero, List.set_cons_succ]
  refine wpAnyH_take (i := 5) (v := ?v4) rfl (by kernel_rfl) (by kernel_rfl) (by kernel_rfl) (fun _ _ _ h => h) (Or.inl ⟨by rfl, ?hy4⟩) hHeld ?rest4
  case hy4 =>
    intro w' hSw
    try dsimp only at hSw
    go_simp
    first | done | with_reducible rfl
  try simp only [Act.put, List.getElem_toArray, List.getElem_cons_succ, List.getElem_cons_zero, List.setIfInBounds_toArray, List.set_cons_zero, List.set_cons_succ]
  refine wpAnyH_take (i := 6) (v := ?v5) rfl (by kernel_rfl) (by kernel_rfl) (by kernel_rfl) (fun _ _ _ h => h) (Or.inl ⟨by rfl, ?hy5⟩) hHeld ?rest5
  case hy5 =>
    intro w' hSw
    try dsimp only at hSw
    go_simp
    first | done | with_reducible rfl
  try simp only [Act.put, List.getElem_toArray, List.getElem_cons_succ, List.getElem_cons_zero, List.setIfInBounds_toArray, List.set_cons_zero, List.set_cons_succ]
  refine wpAnyH_take (i := 7) (v := ?v6) rfl (by kernel_rfl) (by kernel_rfl) (by kernel_rfl) (fun _ _ _ h => h) (Or.inl ⟨by rfl, ?hy6⟩) hHeld ?rest6
  case hy6 =>
    intro w' hSw
    try dsimp only at hSw
    go_simp
    first | done | with_reducible rfl
  try simp only [Act.put, List.getElem_toArray, List.getElem_cons_succ, List.getElem_cons_zero, List.setIfInBounds_toArray, List.set_cons_zero, List.set_cons_succ]
  refine wpAnyH_take (i := 8) (v := ?v7) rfl (by kernel_rfl) (by kernel_rfl) (by kernel_rfl) (fun _ _ _ h => h) (Or.inl ⟨by rfl, ?hy7⟩) hHeld ?rest7
  case hy7 =>
    intro w' hSw
    try dsimp only at hSw
    go_simp
    first | done | with_reducible rfl
  try simp only [Act.put, List.getElem_toArray, List.getElem_cons_succ, List.getElem_cons_zero, List.setIfInBounds_toArray, List.set_cons_zero, List.set_cons_succ]
  refine wpAnyH_done (by kernel_rfl) ?_ _
  refine OnlyN.normal ?_
  clear hHeld hlk
  have G1 := Lib.hid (H1.out.alloc (.map wE5 5)).drew
  have G2 := Lib.hid (H2.out.alloc (.map wE5 5)).drew
  have GB := Lib.hid (below_drew (HB.out.alloc HB.out.size (.map wE5 5)))
  have GT := Lib.hid (HT1.out.alloc (.map wE5 5)).drew
  generalize (w1.alloc (.map wE5 5)).drew = w3 at G1 G2 GB GT ⊢
  clear c0 H1 H2 HB HT1
  obtain ⟨c0, c1, c2, c3, c4, c5⟩ := G1.out.six
  go_wp2_with (go_at_call 46; refine (w1_any k o c l r v _).mono ?_; rintro e w4 ⟨rfl, b4⟩; have HB4 := Lib.hid (GB.out.trans (b4.mono GB.out.size)); have P2 := G2.out.keep b4; obtain ⟨d0, d1, d2, d3, d4, d5⟩ := P2.six; have f0 := P2.frozen; clear b4 P2)
  refine bodyPost_ret (v := .tuple #[.agg (kc k o c l r v), .int .i64 0]) (by simp [results, Tryd.results21, go_sem, d0, d1, d2, d3, d4, d5]) rfl ⟨rfl, below_set6 HB4.out (by omega) _ _ _ _ _ _⟩
set_option maxHeartbeats 1000000 in
theorem weaken_less (k o c l v : Int) (r : Nat) (w : World) (hT : Tab w) (h : OkK k o c l r v) (hk : k = 2 ∨ k = 3) (hr : r < 8) :
    Calls Tryd.prog 21 #[.agg (kc k o c l r v)] w fun e w' => e = .returned (.tuple #[.agg (kc k o c l (lsN r 3 (rm k) : Nat) v), .int .i64 0]) ∧ Below w.heap.size w w' := by
  have HK := Lib.hid h
  have HT := Lib.hid hT
  have KK := Lib.hid (okK_in h)
  have hlk : ∀ (W : World) (b : Nat), b = W.heap.size → (Instr.lookup 68 (.map (some b)) (.int .i64 k) true).run Tryd.prog ((W.alloc (.map wE5 5)).drew) = .ok (.tuple #[.func (.func 47) #[] #[], .bool true]) ((W.alloc (.map wE5 5)).drew) := by
    rintro W b rfl
    rcases hk with rfl | rfl
    · exact wlook _ _ _ (some (3, _)) (heap_alloc_new W _) rfl
    · exact wlook _ _ _ (some (4, _)) (heap_alloc_new W _) rfl
  obtain ⟨x, hx⟩ : ∃ x : Int, x = (lsN r 3 (rm k) : Nat) := ⟨_, rfl⟩
  rw [← hx]
  have HX := Lib.hid hx
  clear hx
  clear h hT hk
  go_enter Tryd.func21, Tryd.ntmps21
  go_wp2_with (go_at_call 14; refine (chk_ok _ _ _ _ _ _ _ ((HT.out.alloc _).alloc _) HK.out).mono ?_; rintro e w1 ⟨rfl, b1⟩; obtain ⟨B1, B2, b2⟩ := box2 b1; have HB := Lib.hid b2; have HT1 := Lib.hid (HT.out.below b2); have H1 := Lib.hid B1; have H2 := Lib.hid B2; clear b1 b2 B1 B2; have c0 := H1.out.cell 0)
  refine wp_region_only (S := fun w' => w'.cell? ⟨w.heap.size, 0, none⟩ = some (.int .i64 k)) (by kernel_rfl) (H1.out.drew.cell 0) (fun hHeld => ?_)
  refine wpAnyH_take (i := 1) (v := ?v8) rfl (by kernel_rfl) (by kernel_rfl) (by kernel_rfl) (fun _ _ _ h => h) (Or.inl ⟨by rfl, ?hy8⟩) hHeld ?rest8
  case hy8 =>
    intro w' hSw
    try dsimp only at hSw
    go_simp
    first | done | with_reducible rfl
  try simp only [Act.put, List.getElem_toArray, List.getElem_cons_succ, List.getElem_cons_zero, List.setIfInBounds_toArray, List.set_cons_zero, List.set_cons_succ]
  refine wpAnyH_take (i := 2) (v := ?v9) rfl (by kernel_rfl) (by kernel_rfl) (by kernel_rfl) (fun _ _ _ h => h) (Or.inl ⟨by rfl, ?hy9⟩) hHeld ?rest9
  case hy9 =>
    intro w' hSw
    try dsimp only at hSw
    go_simp
    first | done | with_reducible rfl
  try simp only [Act.put, List.getElem_toArray, List.getElem_cons_succ, List.getElem_cons_zero, List.setIfInBounds_toArray, List.set_cons_zero, List.set_cons_succ]
  refine wpAnyH_ready (rs := [0]) (by kernel_rfl) (by simp) ?_
  refine AllReadyH.cons (by rfl) (fun K hK => ?_) AllReadyH.nil
  go_simp
  refine (weakOnes_any _).mono ?_
  rintro e w' ⟨rfl, rfl⟩
  go_wp2_with fail
  refine hK.out _ _ ((H1.out.drew.alloc _).cell 0) (fun hHeld => ?_)
  clear hK K
  try simp only [Act.put, List.getElem_toArray, List.getElem_cons_succ, List.getElem_cons_zero, List.setIfInBounds_toArray, List.set_cons_zero, List.set_cons_succ]
  refine wpAnyH_ready (rs := [3]) (by kernel_rfl) (by simp) ?_
  refine AllReadyH.cons (by rfl) (fun K hK => ?_) AllReadyH.nil
  go_simp
  refine hK.out _ _ ((H1.out.drew.alloc _).cell 0) (fun hHeld => ?_)
  clear hK K
  try simp only [Act.put, List.getElem_toArray, List.getElem_cons_succ, List.getElem_cons_zero, List.setIfInBounds_toArray, List.set_cons_zero, List.set_cons_succ]
  refine wpAnyH_take (i := 4) (v := ?v10) rfl (by kernel_rfl) (by kernel_rfl) (by kernel_rfl) (fun _ _ _ h => h) (Or.inl ⟨by rfl, ?hy10⟩) hHeld ?rest10
  case hy10 =>
    intro w' hSw
    try dsimp only at hSw
    go_simp
    first | done | with_reducible rfl
  try simp only [Act.put, List.getElem_toArray, List.getElem_cons_succ, List.getElem_cons_zero, List.setIfInBounds_toArray, List.set_cons_zero, List.set_cons_succ]
  refine wpAnyH_take (i := 5) (v := ?v11) rfl (by kernel_rfl) (by kernel_rfl) (by kernel_rfl) (fun _ _ _ h => h) (Or.inl ⟨by rfl, ?hy11⟩) hHeld ?rest11
  case hy11 =>
    intro w' hSw
    try dsimp only at hSw
    go_simp
    first | done | with_reducible rfl
  try simp only [Act.put, List.getElem_toArray, List.getElem_cons_succ, List.getElem_cons_zero, List.setIfInBounds_toArray, List.set_cons_zero, List.set_cons_succ]
  refine wpAnyH_take (i := 6) (v := ?v12) rfl (by kernel_rfl) (by kernel_rfl) (by kernel_rfl) (fun _ _ _ h => h) (Or.inl ⟨by rfl, ?hy12⟩) hHeld ?rest12
  case hy12 =>
    intro w' hSw
    try dsimp only at hSw
    go_simp
    first | done | with_reducible rfl
  try simp only [Act.put, List.getElem_toArray, List.getElem_cons_succ, List.getElem_cons_zero, List.setIfInBounds_toArray, List.set_cons_zero, List.set_cons_succ]
  refine wpAnyH_take (i := 7) (v := ?v13) rfl (by kernel_rfl) (by kernel_rfl) (by kernel_rfl) (fun _ _ _ h => h) (Or.inl ⟨by rfl, ?hy13⟩) hHeld ?rest13
  case hy13 =>
    intro w' hSw
    try dsimp only at hSw
    go_simp
    first | done | with_reducible rfl
  try simp only [Act.put, List.getElem_toArray, List.getElem_cons_succ, List.getElem_cons_zero, List.setIfInBounds_toArray, List.set_cons_zero, List.set_cons_succ]
  refine wpAnyH_take (i := 8) (v := ?v14) rfl (by kernel_rfl) (by kernel_rfl) (by kernel_rfl) (fun _ _ _ h => h) (Or.inl ⟨by rfl, ?hy14⟩) hHeld ?rest14
  case hy14 =>
    intro w' hSw
    try dsimp only at hSw
    go_simp
    first | done | with_reducible rfl
  try simp only [Act.put, List.getElem_toArray, List.getElem_cons_succ, List.getElem_cons_zero, List.setIfInBounds_toArray, List.set_cons_zero, List.set_cons_succ]
  refine wpAnyH_done (by kernel_rfl) ?_ _
  refine OnlyN.normal ?_
  clear hHeld hlk
  have G1 := Lib.hid (H1.out.alloc (.map wE5 5)).drew
  have G2 := Lib.hid (H2.out.alloc (.map wE5 5)).drew
  have GB := Lib.hid (below_drew (HB.out.alloc HB.out.size (.map wE5 5)))
  have GT := Lib.hid (HT1.out.alloc (.map wE5 5)).drew
  generalize (w1.alloc (.map wE5 5)).drew = w3 at G1 G2 GB GT ⊢
  clear c0 H1 H2 HB HT1
  obtain ⟨c0, c1, c2, c3, c4, c5⟩ := G1.out.six
  go_wp2_with (go_at_call 47; refine (w2_any k o c l v r _ GT.out KK.out.1 KK.out.2 hr).mono ?_; rw [← HX.out]; rintro e w4 ⟨rfl, b4⟩; have HB4 := Lib.hid (GB.out.trans (b4.mono GB.out.size)); have P2 := G2.out.keep b4; obtain ⟨d0, d1, d2, d3, d4, d5⟩ := P2.six; have f0 := P2.frozen; clear b4 P2)
  refine bodyPost_ret (v := .tuple #[.agg (kc k o c l x v), .int .i64 0]) (by simp [results, Tryd.results21, go_sem, d0, d1, d2, d3, d4, d5]) rfl ⟨rfl, below_set6 HB4.out (by omega) _ _ _ _ _ _⟩
set_option maxHeartbeats 1000000 in
theorem weaken_void (k o c l r v : Int) (w : World) (hT : Tab w) (h : OkK k o c l r v) (hk : k ≠ 0 ∧ k ≠ 1 ∧ k ≠ 8 ∧ k ≠ 2 ∧ k ≠ 3) :
    Calls Tryd.prog 21 #[.agg (kc k o c l r v)] w fun e w' => e = .returned (.tuple #[.agg (kc 0 0 0 0 0 0), .int .i64 0]) ∧ Below w.heap.size w w' := by
  have HK := Lib.hid h
  have HT := Lib.hid hT
  have KK := Lib.hid (okK_in h)
  have hlk : ∀ (W : World) (b : Nat), b = W.heap.size → (Instr.lookup 68 (.map (some b)) (.int .i64 k) true).run Tryd.prog ((W.alloc (.map wE5 5)).drew) = .ok (.tuple #[.nilFunc, .bool false]) ((W.alloc (.map wE5 5)).drew) := by
    rintro W b rfl
    exact wlook _ _ _ none (heap_alloc_new W _) (wfind_none (by omega))
  clear h hT hk
  go_enter Tryd.func21, Tryd.ntmps21
  go_wp2_with (go_at_call 14; refine (chk_ok _ _ _ _ _ _ _ ((HT.out.alloc _).alloc _) HK.out).mono ?_; rintro e w1 ⟨rfl, b1⟩; obtain ⟨B1, B2, b2⟩ := box2 b1; have HB := Lib.hid b2; have HT1 := Lib.hid (HT.out.below b2); have H1 := Lib.hid B1; have H2 := Lib.hid B2; clear b1 b2 B1 B2; have c0 := H1.out.cell 0)
  refine wp_region_only (S := fun w' => w'.cell? ⟨w.heap.size, 0, none⟩ = some (.int .i64 k)) (by kernel_rfl) (H1.out.drew.cell 0) (fun hHeld => ?_)
  refine wpAnyH_take (i := 1) (v := ?v15) rfl (by kernel_rfl) (by kernel_rfl) (by kernel_rfl) (fun _ _ _ h => h) (Or.inl ⟨by rfl, ?hy15⟩) hHeld ?rest15
  case hy15 =>
    intro w' hSw
    try dsimp only at hSw
    go_simp
    first | done | with_reducible rfl
  try simp only [Act.put, List.getElem_toArray, List.getElem_cons_succ, List.getElem_cons_zero, List.setIfInBounds_toArray, List.set_cons_zero, List.set_cons_succ]
  refine wpAnyH_take (i := 2) (v := ?v16) rfl (by kernel_rfl) (by kernel_rfl) (by kernel_rfl) (fun _ _ _ h => h) (Or.inl ⟨by rfl, ?hy16⟩) hHeld ?rest16
  case hy16 =>
    intro w' hSw
    try dsimp only at hSw
    go_simp
    first | done | with_reducible rfl
  try simp only [Act.put, List.getElem_toArray, List.getElem_cons_succ, List.getElem_cons_zero, List.setIfInBounds_toArray, List.set_cons_zero, List.set_cons_succ]
  refine wpAnyH_ready (rs := [0]) (by kernel_rfl) (by simp) ?_
  refine AllReadyH.cons (by rfl) (fun K hK => ?_) AllReadyH.nil
  go_simp
  refine (weakOnes_any _).mono ?_
  rintro e w' ⟨rfl, rfl⟩
  go_wp2_with fail
  refine hK.out _ _ ((H1.out.drew.alloc _).cell 0) (fun hHeld => ?_)
  clear hK K
  try simp only [Act.put, List.getElem_toArray, List.getElem_cons_succ, List.getElem_cons_zero, List.setIfInBounds_toArray, List.set_cons_zero, List.set_cons_succ]
  refine wpAnyH_ready (rs := [3]) (by kernel_rfl) (by simp) ?_
  refine AllReadyH.cons (by rfl) (fun K hK => ?_) AllReadyH.nil
  go_simp
  refine hK.out _ _ ((H1.out.drew.alloc _).cell 0) (fun hHeld => ?_)
  clear hK K
  try simp only [Act.put, List.getElem_toArray, List.getElem_cons_succ, List.getElem_cons_zero, List.setIfInBounds_toArray, List.set_cons_zero, List.set_cons_succ]
  refine wpAnyH_take (i := 4) (v := ?v17) rfl (by kernel_rfl) (by kernel_rfl) (by kernel_rfl) (fun _ _ _ h => h) (Or.inl ⟨by rfl, ?hy17⟩) hHeld ?rest17
  case hy17 =>
    intro w' hSw
    try dsimp only at hSw
    go_simp
    first | done | with_reducible rfl
  try simp only [Act.put, List.getElem_toArray, List.getElem_cons_succ, List.getElem_cons_zero, List.setIfInBounds_toArray, List.set_cons_zero, List.set_cons_succ]
  refine wpAnyH_take (i := 5) (v := ?v18) rfl (by kernel_rfl) (by kernel_rfl) (by kernel_rfl) (fun _ _ _ h => h) (Or.inl ⟨by rfl, ?hy18⟩) hHeld ?rest18
  case hy18 =>
    intro w' hSw
    try dsimp only at hSw
    go_simp
    first | done | with_reducible rfl
  try simp only [Act.put, List.getElem_toArray, List.getElem_cons_succ, List.getElem_cons_zero, List.setIfInBounds_toArray, List.set_cons_zero, List.set_cons_succ]
  refine wpAnyH_take (i := 6) (v := ?v19) rfl (by kernel_rfl) (by kernel_rfl) (by kernel_rfl) (fun _ _ _ h => h) (Or.inl ⟨by rfl, ?hy19⟩) hHeld ?rest19
  case hy19 =>
    intro w' hSw
    try dsimp only at hSw
    go_simp
    first | done | with_reducible rfl
  try simp only [Act.put, List.getElem_toArray, List.getElem_cons_succ, List.getElem_cons_zero, List.setIfInBounds_toArray, List.set_cons_zero, List.set_cons_succ]
  refine wpAnyH_take (i := 7) (v := ?v20) rfl (by kernel_rfl) (by kernel_rfl) (by kernel_rfl) (fun _ _ _ h => h) (Or.inl ⟨by rfl, ?hy20⟩) hHeld ?rest20
  case hy20 =>
    intro w' hSw
    try dsimp only at hSw
    go_simp
    first | done | with_reducible rfl
  try simp only [Act.put, List.getElem_toArray, List.getElem_cons_succ, List.getElem_cons_zero, List.setIfInBounds_toArray, List.set_cons_zero, List.set_cons_succ]
  refine wpAnyH_take (i := 8) (v := ?v21) rfl (by kernel_rfl) (by kernel_rfl) (by kernel_rfl) (fun _ _ _ h => h) (Or.inl ⟨by rfl, ?hy21⟩) hHeld ?rest21
  case hy21 =>
    intro w' hSw
    try dsimp only at hSw
    go_simp
    first | done | with_reducible rfl
  try simp only [Act.put, List.getElem_toArray, List.getElem_cons_succ, List.getElem_cons_zero, List.setIfInBounds_toArray, List.set_cons_zero, List.set_cons_succ]
  refine wpAnyH_done (by kernel_rfl) ?_ _
  refine OnlyN.normal ?_
  clear hHeld hlk
  have G1 := Lib.hid (H1.out.alloc (.map wE5 5)).drew
  have G2 := Lib.hid (H2.out.alloc (.map wE5 5)).drew
  have GB := Lib.hid (below_drew (HB.out.alloc HB.out.size (.map wE5 5)))
  have GT := Lib.hid (HT1.out.alloc (.map wE5 5)).drew
  generalize (w1.alloc (.map wE5 5)).drew = w3 at G1 G2 GB GT ⊢
  clear c0 H1 H2 HB HT1
  obtain ⟨c0, c1, c2, c3, c4, c5⟩ := G1.out.six
  obtain ⟨d0, d1, d2, d3, d4, d5⟩ := G2.out.six
  have f0 := G2.out.frozen
  go_wp2_with (fail)
  refine bodyPost_ret (v := .tuple #[.agg (kc 0 0 0 0 0 0), .int .i64 0]) (by simp [results, Tryd.results21, go_sem, d0, d1, d2, d3, d4, d5]) rfl ⟨rfl, below_set6 GB.out (by omega) _ _ _ _ _ _⟩
end Go.Proofs.YtmpibbgciajnkaaDoor

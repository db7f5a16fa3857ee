/- keys: ErrArg of Weaken; Less; Within. -/
import Derived.Test.YtmpibbgciajnkaaDoorKWk
import Derived.Test.YtmpibbgciajnkaaDoorKEq
namespace Go.Proofs.YtmpibbgciajnkaaDoor
open Go.RowKit
theorem yields_keq {ops : Array Oper} {S : World → Prop} {o : Oper} {a : Act} (hw : Region.wanted o (yielded ops a.tmps) = true) (x y : Operand) (ho : o.op = .binOp .eql 25 x y 25)
    (k oo c l r v k' o' c' l' r' v' : Int) (hx : a.eval x = .agg (kc k oo c l r v)) (hy : a.eval y = .agg (kc k' o' c' l' r' v')) : YieldsIf Tryd.prog ops S o (.bool (sameK k oo c l r v k' o' c' l' r' v')) a :=
  .inl ⟨hw, fun w _ => by
    unfold execOp
    simp only [ho, hx, hy, Sem.run_bind, run_eqGuard_agg (P := Tryd.prog) w .eql 25 x y (kc k oo c l r v) (kc k' o' c' l' r' v') (by kernel_rfl), key_eql, Result.andThen_ok, Sem.run_pure]⟩
theorem yields_kneq {ops : Array Oper} {S : World → Prop} {o : Oper} {a : Act} (hw : Region.wanted o (yielded ops a.tmps) = true) (x y : Operand) (ho : o.op = .binOp .neq 25 x y 25)
    (k oo c l r v k' o' c' l' r' v' : Int) (hx : a.eval x = .agg (kc k oo c l r v)) (hy : a.eval y = .agg (kc k' o' c' l' r' v')) : YieldsIf Tryd.prog ops S o (.bool (!sameK k oo c l r v k' o' c' l' r' v')) a :=
  .inl ⟨hw, fun w _ => by
    unfold execOp
    simp only [ho, hx, hy, Sem.run_bind, run_eqGuard_agg (P := Tryd.prog) w .neq 25 x y (kc k oo c l r v) (kc k' o' c' l' r' v') (by kernel_rfl), key_neq, Result.andThen_ok, Sem.run_pure]⟩
set_option maxHeartbeats 1000000 in
theorem weaken_no (k o c l r v : Int) (w : World) (hT : Tab w) (h : ¬ OkK k o c l r v) :
    Calls Tryd.prog 21 #[.agg (kc k o c l r v)] w fun e w' => e = .returned (.tuple #[.agg (kc 0 0 0 0 0 0), .int .i64 2]) ∧ Below w.heap.size w w' := by
  have HK := Lib.hid h
  have HT := Lib.hid hT
  clear h hT
  go_enter Tryd.func21, Tryd.ntmps21
  go_wp2_with (go_at_call 14; refine (chk_no _ _ _ _ _ _ _ ((HT.out.alloc _).alloc _) HK.out).mono ?_; rintro e w1 ⟨rfl, b1⟩; obtain ⟨B1, B2, b2⟩ := box2 b1; have HB := Lib.hid b2; have HT1 := Lib.hid (HT.out.below b2); have H1 := Lib.hid B1; have H2 := Lib.hid B2; clear b1 b2 B1 B2; obtain ⟨c0, c1, c2, c3, c4, c5⟩ := H1.out.six; obtain ⟨d0, d1, d2, d3, d4, d5⟩ := H2.out.six; have f0 := H2.out.frozen)
  refine bodyPost_ret (v := .tuple #[.agg (kc 0 0 0 0 0 0), .int .i64 2]) (by simp [results, Tryd.results21, go_sem, d0, d1, d2, d3, d4, d5]) rfl ⟨rfl, below_set6 HB.out (by omega) _ _ _ _ _ _⟩
set_option maxHeartbeats 1000000 in
theorem lesss_no (k o c l r v q : Int) (w : World) (hT : Tab w) (h : ¬ OkK k o c l r v) :
    Calls Tryd.prog 22 #[.agg (kc k o c l r v), .int .i64 q] w fun e w' => e = .returned (.tuple #[.agg (kc 0 0 0 0 0 0), .int .i64 2]) ∧ Below w.heap.size w w' := by
  have HK := Lib.hid h
  have HT := Lib.hid hT
  clear h hT
  go_enter Tryd.func22, Tryd.ntmps22
  go_wp2_with (go_at_call 14; refine (chk_no _ _ _ _ _ _ _ ((HT.out.alloc _).alloc _) HK.out).mono ?_; rintro e w1 ⟨rfl, b1⟩; obtain ⟨B1, B2, b2⟩ := box2 b1; have HB := Lib.hid b2; have HT1 := Lib.hid (HT.out.below b2); have H1 := Lib.hid B1; have H2 := Lib.hid B2; clear b1 b2 B1 B2; obtain ⟨c0, c1, c2, c3, c4, c5⟩ := H1.out.six; obtain ⟨d0, d1, d2, d3, d4, d5⟩ := H2.out.six; have f0 := H2.out.frozen)
  refine bodyPost_ret (v := .tuple #[.agg (kc 0 0 0 0 0 0), .int .i64 2]) (by simp [results, Tryd.results22, go_sem, d0, d1, d2, d3, d4, d5]) rfl ⟨rfl, below_set6 HB.out (by omega) _ _ _ _ _ _⟩
set_option maxHeartbeats 1000000 in
theorem lesss_bad (k o c l r v q : Int) (w : World) (hT : Tab w) (h : OkK k o c l r v) (hq : q < 0 ∨ 7 < q) :
    Calls Tryd.prog 22 #[.agg (kc k o c l r v), .int .i64 q] w fun e w' => e = .returned (.tuple #[.agg (kc 0 0 0 0 0 0), .int .i64 2]) ∧ Below w.heap.size w w' := by
  have HK := Lib.hid h
  have HT := Lib.hid hT
  have HQ := Lib.hid hq
  clear h hT hq
  go_enter Tryd.func22, Tryd.ntmps22
  go_wp2_with (first
    | (go_at_call 14; refine (chk_ok _ _ _ _ _ _ _ ((HT.out.alloc _).alloc _) HK.out).mono ?_; rintro e w1 ⟨rfl, b1⟩; obtain ⟨B1, B2, b2⟩ := box2 b1; have HB := Lib.hid b2; have HT1 := Lib.hid (HT.out.below b2); have H1 := Lib.hid B1; have H2 := Lib.hid B2; clear b1 b2 B1 B2; obtain ⟨c0, c1, c2, c3, c4, c5⟩ := H1.out.six; obtain ⟨d0, d1, d2, d3, d4, d5⟩ := H2.out.six; have f0 := H2.out.frozen)
    | (go_at_call 35; refine (upR_no _ _ _ HQ.out).mono ?_; rintro e w' ⟨rfl, rfl⟩))
  refine bodyPost_ret (v := .tuple #[.agg (kc 0 0 0 0 0 0), .int .i64 2]) (by simp [results, Tryd.results22, go_sem, d0, d1, d2, d3, d4, d5]) rfl ⟨rfl, below_set6 HB.out (by omega) _ _ _ _ _ _⟩
set_option maxHeartbeats 1000000 in
theorem lesss_ok (k o c l v : Int) (r q : Nat) (w : World) (hT : Tab w) (h : OkK k o c l r v) (hr : r < 8) (hq : q < 8) :
    Calls Tryd.prog 22 #[.agg (kc k o c l r v), .int .i64 q] w fun e w' => e = .returned (.tuple #[.agg (kc k o c l (lsN r q (rm k) : Nat) v), .int .i64 0]) ∧ Below w.heap.size w w' := by
  have HK := Lib.hid h
  have HT := Lib.hid hT
  have KK := Lib.hid (okK_in h)
  obtain ⟨x, hx⟩ : ∃ x : Int, x = (lsN r q (rm k) : Nat) := ⟨_, rfl⟩
  rw [← hx]
  have HX := Lib.hid hx
  clear h hT hx
  go_enter Tryd.func22, Tryd.ntmps22
  go_wp2_with (first
    | (go_at_call 14; refine (chk_ok _ _ _ _ _ _ _ ((HT.out.alloc _).alloc _) HK.out).mono ?_; rintro e w1 ⟨rfl, b1⟩; obtain ⟨B1, B2, b2⟩ := box2 b1; have HB := Lib.hid b2; have HT1 := Lib.hid (HT.out.below b2); have H1 := Lib.hid B1; have H2 := Lib.hid B2; clear b1 b2 B1 B2; obtain ⟨c0, c1, c2, c3, c4, c5⟩ := H1.out.six; obtain ⟨d0, d1, d2, d3, d4, d5⟩ := H2.out.six; have f0 := H2.out.frozen)
    | (go_at_call 35; refine (upR_yes _ _ _ (by omega) (by omega)).mono ?_; rintro e w' ⟨rfl, rfl⟩)
    | (go_at_call 37; refine (less_any k o c l v r q _ HT1.out KK.out.1 KK.out.2 hr hq).mono ?_; rw [← HX.out]; rintro e w4 ⟨rfl, b4⟩; have HB4 := Lib.hid (HB.out.trans (b4.mono HB.out.size)); have P2 := H2.out.keep b4; clear c0 c1 c2 c3 c4 c5 d0 d1 d2 d3 d4 d5 f0; obtain ⟨d0, d1, d2, d3, d4, d5⟩ := P2.six; have f0 := P2.frozen; clear b4 P2))
  refine bodyPost_ret (v := .tuple #[.agg (kc k o c l x v), .int .i64 0]) (by simp [results, Tryd.results22, go_sem, d0, d1, d2, d3, d4, d5]) rfl ⟨rfl, below_set6 HB4.out (by omega) _ _ _ _ _ _⟩
set_option maxHeartbeats 1000000 in
theorem within_no (k o c l r v k' o' c' l' r' v' : Int) (w : World) (hT : Tab w) (h : ¬ OkK k o c l r v ∨ ¬ OkK k' o' c' l' r' v') :
    Calls Tryd.prog 25 #[.agg (kc k o c l r v), .agg (kc k' o' c' l' r' v')] w fun e w' => e = .returned (.bool false) ∧ Below w.heap.size w w' := by
  have HT := Lib.hid hT
  clear hT
  by_cases h1 : OkK k o c l r v
  · have HK := Lib.hid h1
    have HK' := Lib.hid (h.resolve_left (fun x => x h1))
    clear h h1
    go_enter Tryd.func25, Tryd.ntmps25
    go_wp2_with (go_at_call 14; first
      | ((with_reducible refine (chk_ok k o c l r v _ ((HT.out.alloc _).alloc _) HK.out).mono ?_); rintro e w1 ⟨rfl, b1⟩; obtain ⟨B1, B2, b2⟩ := box2 b1; have HB := Lib.hid b2; have HT1 := Lib.hid (HT.out.below b2); have H1 := Lib.hid B1; have H2 := Lib.hid B2; clear b1 b2 B1 B2; obtain ⟨c0, c1, c2, c3, c4, c5⟩ := H1.out.six; obtain ⟨d0, d1, d2, d3, d4, d5⟩ := H2.out.six; have f0 := H2.out.frozen)
      | ((with_reducible refine (chk_no k' o' c' l' r' v' _ HT1.out HK'.out).mono ?_); rintro e w2 ⟨rfl, b2⟩; have HB2 := Lib.hid (HB.out.trans (b2.mono HB.out.size)); clear b2))
    go_ret
    exact ⟨rfl, HB2.out⟩
  · have HK := Lib.hid h1
    clear h h1
    go_enter Tryd.func25, Tryd.ntmps25
    go_wp2_with (go_at_call 14; refine (chk_no k o c l r v _ ((HT.out.alloc _).alloc _) HK.out).mono ?_; rintro e w1 ⟨rfl, b1⟩; obtain ⟨B1, B2, b2⟩ := box2 b1; have HB := Lib.hid b2; have HT1 := Lib.hid (HT.out.below b2); have H1 := Lib.hid B1; have H2 := Lib.hid B2; clear b1 b2 B1 B2; obtain ⟨c0, c1, c2, c3, c4, c5⟩ := H1.out.six; obtain ⟨d0, d1, d2, d3, d4, d5⟩ := H2.out.six; have f0 := H2.out.frozen)
    go_ret
    exact ⟨rfl, HB.out⟩
set_option maxHeartbeats 1000000 in
theorem within_void (o c l r v k' o' c' l' r' v' : Int) (w : World) (hT : Tab w) (h : OkK 0 o c l r v) (h' : OkK k' o' c' l' r' v') :
    Calls Tryd.prog 25 #[.agg (kc 0 o c l r v), .agg (kc k' o' c' l' r' v')] w fun e w' => e = .returned (.bool true) ∧ Below w.heap.size w w' := by
  have HT := Lib.hid hT
  have HK := Lib.hid h
  have HK' := Lib.hid h'
  clear hT h h'
  go_enter Tryd.func25, Tryd.ntmps25
  go_wp2_with (go_at_call 14; first
    | ((with_reducible refine (chk_ok 0 o c l r v _ ((HT.out.alloc _).alloc _) HK.out).mono ?_); rintro e w1 ⟨rfl, b1⟩; obtain ⟨B1, B2, b2⟩ := box2 b1; have HB := Lib.hid b2; have HT1 := Lib.hid (HT.out.below b2); have H1 := Lib.hid B1; have H2 := Lib.hid B2; clear b1 b2 B1 B2; obtain ⟨c0, c1, c2, c3, c4, c5⟩ := H1.out.six; obtain ⟨d0, d1, d2, d3, d4, d5⟩ := H2.out.six; have f0 := H2.out.frozen)
    | ((with_reducible refine (chk_ok k' o' c' l' r' v' _ HT1.out HK'.out).mono ?_); rintro e w2 ⟨rfl, b2⟩; have HB2 := Lib.hid (HB.out.trans (b2.mono HB.out.size)); have G1 := Lib.hid (H1.out.keep b2); have G2 := Lib.hid (H2.out.keep b2); have GT := Lib.hid (HT1.out.below b2); clear b2 HB HT1 H1 H2 c0 c1 c2 c3 c4 c5 d0 d1 d2 d3 d4 d5 f0))
  refine wp_region_only (S := fun w' => (w'.cell? ⟨w.heap.size, 0, none⟩ = some (.int .i64 0) ∧ w'.cell? ⟨w.heap.size, 1, none⟩ = some (.int .i64 o) ∧ w'.cell? ⟨w.heap.size, 2, none⟩ = some (.int .i64 c) ∧ w'.cell? ⟨w.heap.size, 3, none⟩ = some (.int .i64 l) ∧ w'.cell? ⟨w.heap.size, 4, none⟩ = some (.int .i64 r) ∧ w'.cell? ⟨w.heap.size, 5, none⟩ = some (.int .i64 v)) ∧ (w'.cell? ⟨w.heap.size + 1, 0, none⟩ = some (.int .i64 k') ∧ w'.cell? ⟨w.heap.size + 1, 1, none⟩ = some (.int .i64 o') ∧ w'.cell? ⟨w.heap.size + 1, 2, none⟩ = some (.int .i64 c') ∧ w'.cell? ⟨w.heap.size + 1, 3, none⟩ = some (.int .i64 l') ∧ w'.cell? ⟨w.heap.size + 1, 4, none⟩ = some (.int .i64 r') ∧ w'.cell? ⟨w.heap.size + 1, 5, none⟩ = some (.int .i64 v'))) (by kernel_rfl) ⟨G1.out.drew.six, G2.out.drew.six⟩ (fun hHeld => ?_)
  refine wpAnyH_take (i := 0) (v := ?v1) rfl (by kernel_rfl) (by kernel_rfl) (by kernel_rfl) (fun _ _ _ h => h) (Or.inl ⟨by rfl, ?hy1⟩) hHeld ?rest1
  case hy1 =>
    intro w' hSw
    try dsimp only at hSw
    go_simp
    first | done | with_reducible rfl
  try simp only [Act.put, List.getElem_toArray, List.getElem_cons_zero, List.setIfInBounds_toArray, List.set_cons_zero, List.set_cons_succ]
  refine wpAnyH_take (i := 1) (v := ?v2) rfl (by kernel_rfl) (by kernel_rfl) (by kernel_rfl) (fun _ _ _ h => h) (Or.inl ⟨by rfl, ?hy2⟩) hHeld ?rest2
  case hy2 =>
    intro w' hSw
    try dsimp only at hSw
    go_simp
    first | done | with_reducible rfl
  try simp only [Act.put, List.getElem_toArray, List.getElem_cons_succ, List.getElem_cons_zero, List.setIfInBounds_toArray, List.set_cons_zero, List.set_cons_succ]
  refine wpAnyH_take (i := 2) (v := ?v3) rfl (by kernel_rfl) (by kernel_rfl) (by kernel_rfl) (fun _ _ _ h => h) (Or.inl ⟨by rfl, ?hy3⟩) hHeld ?rest3
  case hy3 =>
    intro w' hSw
    try dsimp only at hSw
    go_simp
    first | done | with_reducible rfl
  try simp only [Act.put, List.getElem_toArray, List.getElem_cons_succ, List.getElem_cons_zero, List.setIfInBounds_toArray, List.set_cons_zero, List.set_cons_succ]
  refine wpAnyH_take (i := 3) (v := ?v4) rfl (by kernel_rfl) (by kernel_rfl) (by kernel_rfl) (fun _ _ _ h => h) (Or.inl ⟨by rfl, ?hy4⟩) hHeld ?rest4
  case hy4 =>
    intro w' hSw
    try dsimp only at hSw
    go_simp
    first | done | with_reducible rfl
  try simp only [Act.put, List.getElem_toArray, List.getElem_cons_succ, List.getElem_cons_zero, List.setIfInBounds_toArray, List.set_cons_zero, List.set_cons_succ]
  refine wpAnyH_take (i := 4) (v := undef) rfl (by kernel_rfl) (by kernel_rfl) (by kernel_rfl) (fun _ _ _ h => h) (Or.inr ⟨by rfl, rfl⟩) hHeld ?_
  try simp only [Act.put, List.getElem_toArray, List.getElem_cons_succ, List.getElem_cons_zero, List.setIfInBounds_toArray, List.set_cons_zero, List.set_cons_succ]
  refine wpAnyH_take (i := 5) (v := undef) rfl (by kernel_rfl) (by kernel_rfl) (by kernel_rfl) (fun _ _ _ h => h) (Or.inr ⟨by rfl, rfl⟩) hHeld ?_
  try simp only [Act.put, List.getElem_toArray, List.getElem_cons_succ, List.getElem_cons_zero, List.setIfInBounds_toArray, List.set_cons_zero, List.set_cons_succ]
  refine wpAnyH_take (i := 6) (v := undef) rfl (by kernel_rfl) (by kernel_rfl) (by kernel_rfl) (fun _ _ _ h => h) (Or.inr ⟨by rfl, rfl⟩) hHeld ?_
  try simp only [Act.put, List.getElem_toArray, List.getElem_cons_succ, List.getElem_cons_zero, List.setIfInBounds_toArray, List.set_cons_zero, List.set_cons_succ]
  refine wpAnyH_take (i := 7) (v := undef) rfl (by kernel_rfl) (by kernel_rfl) (by kernel_rfl) (fun _ _ _ h => h) (Or.inr ⟨by rfl, rfl⟩) hHeld ?_
  try simp only [Act.put, List.getElem_toArray, List.getElem_cons_succ, List.getElem_cons_zero, List.setIfInBounds_toArray, List.set_cons_zero, List.set_cons_succ]
  refine wpAnyH_take (i := 8) (v := undef) rfl (by kernel_rfl) (by kernel_rfl) (by kernel_rfl) (fun _ _ _ h => h) (Or.inr ⟨by rfl, rfl⟩) hHeld ?_
  try simp only [Act.put, List.getElem_toArray, List.getElem_cons_succ, List.getElem_cons_zero, List.setIfInBounds_toArray, List.set_cons_zero, List.set_cons_succ]
  refine wpAnyH_take (i := 9) (v := undef) rfl (by kernel_rfl) (by kernel_rfl) (by kernel_rfl) (fun _ _ _ h => h) (Or.inr ⟨by rfl, rfl⟩) hHeld ?_
  try simp only [Act.put, List.getElem_toArray, List.getElem_cons_succ, List.getElem_cons_zero, List.setIfInBounds_toArray, List.set_cons_zero, List.set_cons_succ]
  refine wpAnyH_take (i := 10) (v := ?v5) rfl (by kernel_rfl) (by kernel_rfl) (by kernel_rfl) (fun _ _ _ h => h) (Or.inl ⟨by rfl, ?hy5⟩) hHeld ?rest5
  case hy5 =>
    intro w' hSw
    try dsimp only at hSw
    go_simp
    first | done | with_reducible rfl
  try simp only [Act.put, List.getElem_toArray, List.getElem_cons_succ, List.getElem_cons_zero, List.setIfInBounds_toArray, List.set_cons_zero, List.set_cons_succ]
  refine wpAnyH_take (i := 11) (v := ?v6) rfl (by kernel_rfl) (by kernel_rfl) (by kernel_rfl) (fun _ _ _ h => h) (Or.inl ⟨by rfl, ?hy6⟩) hHeld ?rest6
  case hy6 =>
    intro w' hSw
    try dsimp only at hSw
    go_simp
    first | done | with_reducible rfl
  try simp only [Act.put, List.getElem_toArray, List.getElem_cons_succ, List.getElem_cons_zero, List.setIfInBounds_toArray, List.set_cons_zero, List.set_cons_succ]
  refine wpAnyH_done (by kernel_rfl) ?_ _
  refine OnlyN.normal ?_
  clear hHeld
  go_wp2
  go_ret
  exact ⟨rfl, below_drew HB2.out⟩
set_option maxHeartbeats 1000000 in
theorem within_eq (k o c l v k' o' c' l' v' : Int) (r r' : Nat) (w : World) (hT : Tab w) (h : OkK k o c l r v) (h' : OkK k' o' c' l' r' v') (k0 : k ≠ 0) (hr : r < 8) (hr' : r' < 8) :
    Calls Tryd.prog 25 #[.agg (kc k o c l r v), .agg (kc k' o' c' l' r' v')] w fun e w' => e = .returned (.bool (sameK k o c l r v k' o' c' l' (lsN r' r (rm k') : Nat) v')) ∧ Below w.heap.size w w' := by
  have HT := Lib.hid hT
  have HK := Lib.hid h
  have HK' := Lib.hid h'
  have KK := Lib.hid (okK_in h')
  have dk : (k == 0) = false := by simpa using k0
  obtain ⟨x, hx⟩ : ∃ x : Int, x = (lsN r' r (rm k') : Nat) := ⟨_, rfl⟩
  rw [← hx]
  have HX := Lib.hid hx
  obtain ⟨b, hb⟩ : ∃ b, b = sameK k o c l r v k' o' c' l' x v' := ⟨_, rfl⟩
  rw [← hb]
  have HBB := Lib.hid hb
  clear hT h h' hx k0 hb
  go_enter Tryd.func25, Tryd.ntmps25
  go_wp2_with (go_at_call 14; first
    | ((with_reducible refine (chk_ok k o c l r v _ ((HT.out.alloc _).alloc _) HK.out).mono ?_); rintro e w1 ⟨rfl, b1⟩; obtain ⟨B1, B2, b2⟩ := box2 b1; have HB := Lib.hid b2; have HT1 := Lib.hid (HT.out.below b2); have H1 := Lib.hid B1; have H2 := Lib.hid B2; clear b1 b2 B1 B2; obtain ⟨c0, c1, c2, c3, c4, c5⟩ := H1.out.six; obtain ⟨d0, d1, d2, d3, d4, d5⟩ := H2.out.six; have f0 := H2.out.frozen)
    | ((with_reducible refine (chk_ok k' o' c' l' r' v' _ HT1.out HK'.out).mono ?_); rintro e w2 ⟨rfl, b2⟩; have HB2 := Lib.hid (HB.out.trans (b2.mono HB.out.size)); have G1 := Lib.hid (H1.out.keep b2); have G2 := Lib.hid (H2.out.keep b2); have GT := Lib.hid (HT1.out.below b2); clear b2 HB HT1 H1 H2 c0 c1 c2 c3 c4 c5 d0 d1 d2 d3 d4 d5 f0))
  refine wp_region_only (S := fun w' => (w'.cell? ⟨w.heap.size, 0, none⟩ = some (.int .i64 k) ∧ w'.cell? ⟨w.heap.size, 1, none⟩ = some (.int .i64 o) ∧ w'.cell? ⟨w.heap.size, 2, none⟩ = some (.int .i64 c) ∧ w'.cell? ⟨w.heap.size, 3, none⟩ = some (.int .i64 l) ∧ w'.cell? ⟨w.heap.size, 4, none⟩ = some (.int .i64 r) ∧ w'.cell? ⟨w.heap.size, 5, none⟩ = some (.int .i64 v)) ∧ (w'.cell? ⟨w.heap.size + 1, 0, none⟩ = some (.int .i64 k') ∧ w'.cell? ⟨w.heap.size + 1, 1, none⟩ = some (.int .i64 o') ∧ w'.cell? ⟨w.heap.size + 1, 2, none⟩ = some (.int .i64 c') ∧ w'.cell? ⟨w.heap.size + 1, 3, none⟩ = some (.int .i64 l') ∧ w'.cell? ⟨w.heap.size + 1, 4, none⟩ = some (.int .i64 r') ∧ w'.cell? ⟨w.heap.size + 1, 5, none⟩ = some (.int .i64 v'))) (by kernel_rfl) ⟨G1.out.drew.six, G2.out.drew.six⟩ (fun hHeld => ?_)
  refine wpAnyH_take (i := 0) (v := ?v7) rfl (by kernel_rfl) (by kernel_rfl) (by kernel_rfl) (fun _ _ _ h => h) (Or.inl ⟨by rfl, ?hy7⟩) hHeld ?rest7
  case hy7 =>
    intro w' hSw
    try dsimp only at hSw
    go_simp
    first | done | with_reducible rfl
  try simp only [Act.put, List.getElem_toArray, List.getElem_cons_zero, List.setIfInBounds_toArray, List.set_cons_zero, List.set_cons_succ]
  refine wpAnyH_take (i := 1) (v := ?v8) rfl (by kernel_rfl) (by kernel_rfl) (by kernel_rfl) (fun _ _ _ h => h) (Or.inl ⟨by rfl, ?hy8⟩) hHeld ?rest8
  case hy8 =>
    intro w' hSw
    try dsimp only at hSw
    go_simp
    first | done | with_reducible rfl
  try simp only [Act.put, List.getElem_toArray, List.getElem_cons_succ, List.getElem_cons_zero, List.setIfInBounds_toArray, List.set_cons_zero, List.set_cons_succ]
  refine wpAnyH_take (i := 2) (v := ?v9) rfl (by kernel_rfl) (by kernel_rfl) (by kernel_rfl) (fun _ _ _ h => h) (Or.inl ⟨by rfl, ?hy9⟩) hHeld ?rest9
  case hy9 =>
    intro w' hSw
    try dsimp only at hSw
    go_simp
    first | done | with_reducible rfl
  try simp only [Act.put, List.getElem_toArray, List.getElem_cons_succ, List.getElem_cons_zero, List.setIfInBounds_toArray, List.set_cons_zero, List.set_cons_succ]
  refine wpAnyH_take (i := 3) (v := ?v10) rfl (by kernel_rfl) (by kernel_rfl) (by kernel_rfl) (fun _ _ _ h => h) (Or.inl ⟨by rfl, ?hy10⟩) hHeld ?rest10
  case hy10 =>
    intro w' hSw
    try dsimp only at hSw
    go_simp
    first | done | with_reducible rfl
  try simp only [Act.put, List.getElem_toArray, List.getElem_cons_succ, List.getElem_cons_zero, List.setIfInBounds_toArray, List.set_cons_zero, List.set_cons_succ]
  refine wpAnyH_take (i := 4) (v := ?v11) rfl (by kernel_rfl) (by kernel_rfl) (by kernel_rfl) (fun _ _ _ h => h) (Or.inl ⟨by rfl, ?hy11⟩) hHeld ?rest11
  case hy11 =>
    intro w' hSw
    try dsimp only at hSw
    go_simp
    first | done | with_reducible rfl
  try simp only [Act.put, List.getElem_toArray, List.getElem_cons_succ, List.getElem_cons_zero, List.setIfInBounds_toArray, List.set_cons_zero, List.set_cons_succ]
  refine wpAnyH_take (i := 5) (v := ?v12) rfl (by kernel_rfl) (by kernel_rfl) (by kernel_rfl) (fun _ _ _ h => h) (Or.inl ⟨by rfl, ?hy12⟩) hHeld ?rest12
  case hy12 =>
    intro w' hSw
    try dsimp only at hSw
    go_simp
    first | done | with_reducible rfl
  try simp only [Act.put, List.getElem_toArray, List.getElem_cons_succ, List.getElem_cons_zero, List.setIfInBounds_toArray, List.set_cons_zero, List.set_cons_succ]
  refine wpAnyH_take (i := 6) (v := ?v13) rfl (by kernel_rfl) (by kernel_rfl) (by kernel_rfl) (fun _ _ _ h => h) (Or.inl ⟨by rfl, ?hy13⟩) hHeld ?rest13
  case hy13 =>
    intro w' hSw
    try dsimp only at hSw
    go_simp
    first | done | with_reducible rfl
  try simp only [Act.put, List.getElem_toArray, List.getElem_cons_succ, List.getElem_cons_zero, List.setIfInBounds_toArray, List.set_cons_zero, List.set_cons_succ]
  refine wpAnyH_take (i := 7) (v := ?v14) rfl (by kernel_rfl) (by kernel_rfl) (by kernel_rfl) (fun _ _ _ h => h) (Or.inl ⟨by rfl, ?hy14⟩) hHeld ?rest14
  case hy14 =>
    intro w' hSw
    try dsimp only at hSw
    go_simp
    first | done | with_reducible rfl
  try simp only [Act.put, List.getElem_toArray, List.getElem_cons_succ, List.getElem_cons_zero, List.setIfInBounds_toArray, List.set_cons_zero, List.set_cons_succ]
  refine wpAnyH_ready (rs := [8]) (by kernel_rfl) (by simp) ?_
  refine AllReadyH.cons (by rfl) (fun K hK => ?_) AllReadyH.nil
  go_simp
  refine (less_any k' o' c' l' v' r' r _ GT.out.drew KK.out.1 KK.out.2 hr' hr).mono ?_
  rw [← HX.out]
  rintro e w3 ⟨rfl, b3⟩
  have G1' := Lib.hid (G1.out.drew.keep b3)
  have G2' := Lib.hid (G2.out.drew.keep b3)
  have HB3 := Lib.hid ((below_drew HB2.out).trans (b3.mono HB2.out.size))
  clear b3
  go_wp2_with fail
  refine hK.out _ _ ⟨G1'.out.six, G2'.out.six⟩ (fun hHeld => ?_)
  clear hK K
  try simp only [Act.put, List.getElem_toArray, List.getElem_cons_succ, List.getElem_cons_zero, List.setIfInBounds_toArray, List.set_cons_zero, List.set_cons_succ]
  refine wpAnyH_take (i := 9) rfl (by kernel_rfl) (by kernel_rfl) (by kernel_rfl) (fun _ _ _ h => h) (HBB.out ▸ yields_keq (by rfl) _ _ (by rfl) k o c l r v k' o' c' l' x v' (by rfl) (by rfl)) hHeld ?_
  try simp only [Act.put, List.getElem_toArray, List.getElem_cons_succ, List.getElem_cons_zero, List.setIfInBounds_toArray, List.set_cons_zero, List.set_cons_succ]
  refine wpAnyH_take (i := 10) (v := ?v15) rfl (by kernel_rfl) (by kernel_rfl) (by kernel_rfl) (fun _ _ _ h => h) (Or.inl ⟨by rfl, ?hy15⟩) hHeld ?rest15
  case hy15 =>
    intro w' hSw
    try dsimp only at hSw
    go_simp
    first | done | with_reducible rfl
  try simp only [Act.put, List.getElem_toArray, List.getElem_cons_succ, List.getElem_cons_zero, List.setIfInBounds_toArray, List.set_cons_zero, List.set_cons_succ]
  refine wpAnyH_take (i := 11) (v := ?v16) rfl (by kernel_rfl) (by kernel_rfl) (by kernel_rfl) (fun _ _ _ h => h) (Or.inl ⟨by rfl, ?hy16⟩) hHeld ?rest16
  case hy16 =>
    intro w' hSw
    try dsimp only at hSw
    go_simp
    first | done | with_reducible rfl
  try simp only [Act.put, List.getElem_toArray, List.getElem_cons_succ, List.getElem_cons_zero, List.setIfInBounds_toArray, List.set_cons_zero, List.set_cons_succ]
  refine wpAnyH_done (by kernel_rfl) ?_ _
  refine OnlyN.normal ?_
  clear hHeld
  go_wp2
  go_ret
  exact ⟨rfl, HB3.out⟩
end Go.Proofs.YtmpibbgciajnkaaDoor

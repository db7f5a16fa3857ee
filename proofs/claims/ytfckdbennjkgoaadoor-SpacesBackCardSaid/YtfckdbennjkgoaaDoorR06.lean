/- keys: ErrArg of Weaken; Less; Within. -/
import Derived.Test.YtfckdbennjkgoaaDoorR05
import Derived.Test.YtfckdbennjkgoaaDoorR04
import Derived.Test.YtfckdbennjkgoaaDoorChecked
import Derived.Test.YtfckdbennjkgoaaDoorRows
import Derived.Test.YtfckdbennjkgoaaDoorTie
import Derived.Test.YtfckdbennjkgoaaDoorCards
import Derived.ProofKit
import Derived.LaidMore
import Derived.OpenShut
import Derived.ChangeOld
import Derived.Deep.Slices
import Derived.Stop.Joined
import Derived.SevenTiedAt
namespace Go.Proofs.YtfckdbennjkgoaaDoor
open Go.RowKit
theorem yields_keq {ops : Array Oper} {S : World → Prop} {o : Oper} {a : Act} (hw : Region.wanted o (yielded ops a.tmps) = true) (x y : Operand) (ho : o.op = .binOp .eql 31 x y 31)
    (k oo c l r v k' o' c' l' r' v' : Int) (hx : a.eval x = .agg (kc k oo c l r v)) (hy : a.eval y = .agg (kc k' o' c' l' r' v')) : YieldsIf Tryd.prog ops S o (.bool (sameK k oo c l r v k' o' c' l' r' v')) a :=
  .inl ⟨hw, fun w _ => by
    unfold execOp
    simp only [ho, hx, hy, Sem.run_bind, run_eqGuard_agg (P := Tryd.prog) w .eql 31 x y (kc k oo c l r v) (kc k' o' c' l' r' v') (by kernel_rfl), key_eql, Result.andThen_ok, Sem.run_pure]⟩
theorem yields_kneq {ops : Array Oper} {S : World → Prop} {o : Oper} {a : Act} (hw : Region.wanted o (yielded ops a.tmps) = true) (x y : Operand) (ho : o.op = .binOp .neq 31 x y 31)
    (k oo c l r v k' o' c' l' r' v' : Int) (hx : a.eval x = .agg (kc k oo c l r v)) (hy : a.eval y = .agg (kc k' o' c' l' r' v')) : YieldsIf Tryd.prog ops S o (.bool (!sameK k oo c l r v k' o' c' l' r' v')) a :=
  .inl ⟨hw, fun w _ => by
    unfold execOp
    simp only [ho, hx, hy, Sem.run_bind, run_eqGuard_agg (P := Tryd.prog) w .neq 31 x y (kc k oo c l r v) (kc k' o' c' l' r' v') (by kernel_rfl), key_neq, Result.andThen_ok, Sem.run_pure]⟩
set_option maxRecDepth 8000 in
set_option maxHeartbeats 1000000 in
theorem weaken_no (k o c l r v : Int) (w : World) (hT : Tab w) (h : ¬ OkK k o c l r v) :
    Calls Tryd.prog 87 #[.agg (kc k o c l r v)] w fun e w' => e = .returned (.tuple #[.agg (kc 0 0 0 0 0 0), .int .i64 2]) ∧ Below w.heap.size w w' := by
  have HK := Lib.hid h
  have HT := Lib.hid hT
  clear h hT
  go_enter Tryd.func87, Tryd.ntmps87
  go_wp2_with (go_at_call 76; refine (chk_no _ _ _ _ _ _ _ ((HT.out.alloc _).alloc _) HK.out).mono ?_; rintro e w1 ⟨rfl, b1⟩; obtain ⟨B1, B2, b2⟩ := box2 b1; have HB := Lib.hid b2; have HT1 := Lib.hid (HT.out.below b2); have H1 := Lib.hid B1; have H2 := Lib.hid B2; clear b1 b2 B1 B2; obtain ⟨c0, c1, c2, c3, c4, c5⟩ := H1.out.six; obtain ⟨d0, d1, d2, d3, d4, d5⟩ := H2.out.six; have f0 := H2.out.frozen)
  refine bodyPost_ret (v := .tuple #[.agg (kc 0 0 0 0 0 0), .int .i64 2]) (by simp [results, Tryd.results87, go_sem, d0, d1, d2, d3, d4, d5]) rfl ⟨rfl, below_set6 HB.out (by omega) _ _ _ _ _ _⟩
set_option maxRecDepth 8000 in
set_option maxHeartbeats 1000000 in
theorem lesss_no (k o c l r v q : Int) (w : World) (hT : Tab w) (h : ¬ OkK k o c l r v) :
    Calls Tryd.prog 101 #[.agg (kc k o c l r v), .int .i64 q] w fun e w' => e = .returned (.tuple #[.agg (kc 0 0 0 0 0 0), .int .i64 2]) ∧ Below w.heap.size w w' := by
  have HK := Lib.hid h
  have HT := Lib.hid hT
  clear h hT
  go_enter Tryd.func101, Tryd.ntmps101
  go_wp2_with (go_at_call 76; refine (chk_no _ _ _ _ _ _ _ ((HT.out.alloc _).alloc _) HK.out).mono ?_; rintro e w1 ⟨rfl, b1⟩; obtain ⟨B1, B2, b2⟩ := box2 b1; have HB := Lib.hid b2; have HT1 := Lib.hid (HT.out.below b2); have H1 := Lib.hid B1; have H2 := Lib.hid B2; clear b1 b2 B1 B2; obtain ⟨c0, c1, c2, c3, c4, c5⟩ := H1.out.six; obtain ⟨d0, d1, d2, d3, d4, d5⟩ := H2.out.six; have f0 := H2.out.frozen)
  refine bodyPost_ret (v := .tuple #[.agg (kc 0 0 0 0 0 0), .int .i64 2]) (by simp [results, Tryd.results101, go_sem, d0, d1, d2, d3, d4, d5]) rfl ⟨rfl, below_set6 HB.out (by omega) _ _ _ _ _ _⟩
set_option maxRecDepth 8000 in
set_option maxHeartbeats 1000000 in
theorem lesss_bad (k o c l r v q : Int) (w : World) (hT : Tab w) (h : OkK k o c l r v) (hq : q < 0 ∨ 7 < q) :
    Calls Tryd.prog 101 #[.agg (kc k o c l r v), .int .i64 q] w fun e w' => e = .returned (.tuple #[.agg (kc 0 0 0 0 0 0), .int .i64 2]) ∧ Below w.heap.size w w' := by
  have HK := Lib.hid h
  have HT := Lib.hid hT
  have HQ := Lib.hid hq
  clear h hT hq
  go_enter Tryd.func101, Tryd.ntmps101
  go_wp2_with (first
    | (go_at_call 76; refine (chk_ok _ _ _ _ _ _ _ ((HT.out.alloc _).alloc _) HK.out).mono ?_; rintro e w1 ⟨rfl, b1⟩; obtain ⟨B1, B2, b2⟩ := box2 b1; have HB := Lib.hid b2; have HT1 := Lib.hid (HT.out.below b2); have H1 := Lib.hid B1; have H2 := Lib.hid B2; clear b1 b2 B1 B2; obtain ⟨c0, c1, c2, c3, c4, c5⟩ := H1.out.six; obtain ⟨d0, d1, d2, d3, d4, d5⟩ := H2.out.six; have f0 := H2.out.frozen)
    | (go_at_call 93; refine (upR_no _ _ _ HQ.out).mono ?_; rintro e w' ⟨rfl, rfl⟩))
  refine bodyPost_ret (v := .tuple #[.agg (kc 0 0 0 0 0 0), .int .i64 2]) (by simp [results, Tryd.results101, go_sem, d0, d1, d2, d3, d4, d5]) rfl ⟨rfl, below_set6 HB.out (by omega) _ _ _ _ _ _⟩
set_option maxRecDepth 8000 in
set_option maxHeartbeats 1000000 in
theorem lesss_ok (k o c l v : Int) (r q : Nat) (w : World) (hT : Tab w) (h : OkK k o c l r v) (hr : r < 8) (hq : q < 8) :
    Calls Tryd.prog 101 #[.agg (kc k o c l r v), .int .i64 q] w fun e w' => e = .returned (.tuple #[.agg (kc k o c l (lsN r q (rm k) : Nat) v), .int .i64 0]) ∧ Below w.heap.size w w' := by
  have HK := Lib.hid h
  have HT := Lib.hid hT
  have KK := Lib.hid (okK_in h)
  obtain ⟨x, hx⟩ : ∃ x : Int, x = (lsN r q (rm k) : Nat) := ⟨_, rfl⟩
  rw [← hx]
  have HX := Lib.hid hx
  clear h hT hx
  go_enter Tryd.func101, Tryd.ntmps101
  go_wp2_with (first
    | (go_at_call 76; refine (chk_ok _ _ _ _ _ _ _ ((HT.out.alloc _).alloc _) HK.out).mono ?_; rintro e w1 ⟨rfl, b1⟩; obtain ⟨B1, B2, b2⟩ := box2 b1; have HB := Lib.hid b2; have HT1 := Lib.hid (HT.out.below b2); have H1 := Lib.hid B1; have H2 := Lib.hid B2; clear b1 b2 B1 B2; obtain ⟨c0, c1, c2, c3, c4, c5⟩ := H1.out.six; obtain ⟨d0, d1, d2, d3, d4, d5⟩ := H2.out.six; have f0 := H2.out.frozen)
    | (go_at_call 93; refine (upR_yes _ _ _ (by omega) (by omega)).mono ?_; rintro e w' ⟨rfl, rfl⟩)
    | (go_at_call 104; refine (less_any k o c l v r q _ HT1.out KK.out.1 KK.out.2 hr hq).mono ?_; rw [← HX.out]; rintro e w4 ⟨rfl, b4⟩; have HB4 := Lib.hid (HB.out.trans (b4.mono HB.out.size)); have P2 := H2.out.keep b4; clear c0 c1 c2 c3 c4 c5 d0 d1 d2 d3 d4 d5 f0; obtain ⟨d0, d1, d2, d3, d4, d5⟩ := P2.six; have f0 := P2.frozen; clear b4 P2))
  refine bodyPost_ret (v := .tuple #[.agg (kc k o c l x v), .int .i64 0]) (by simp [results, Tryd.results101, go_sem, d0, d1, d2, d3, d4, d5]) rfl ⟨rfl, below_set6 HB4.out (by omega) _ _ _ _ _ _⟩
end Go.Proofs.YtfckdbennjkgoaaDoor
namespace Go.Proofs.YtfckdbennjkgoaaDoor
open Go.RowKit
def b1 (r q b : Nat) : Nat := if r / b % 2 = 1 ∨ q / b % 2 = 1 then b else 0
def wiN (r q k : Nat) : Nat := (if 1 ≤ k then b1 r q 1 else 0) + (if 2 ≤ k then b1 r q 2 else 0) + (if 3 ≤ k then b1 r q 4 else 0)
set_option maxRecDepth 8000 in
theorem wiN_or : ∀ r, r < 8 → ∀ q, q < 8 → wiN r q 3 = r ||| q := by decide
set_option maxRecDepth 8000 in
theorem wiN_le : ∀ r, r < 8 → ∀ q, q < 8 → ∀ k, k < 4 → wiN r q k ≤ 7 := by decide
set_option maxRecDepth 8000 in
theorem wiN_step (r q k b : Nat) (hk : k < 3) (hb : b = 2 ^ k) : wiN r q (k + 1) = wiN r q k + (if r / b % 2 = 1 ∨ q / b % 2 = 1 then b else 0) := by
  subst hb
  have : k = 0 ∨ k = 1 ∨ k = 2 := by omega
  rcases this with rfl | rfl | rfl <;> simp [wiN, b1] <;> omega
set_option maxRecDepth 8000 in
theorem ret_i {a b : Int} (h : a = b) : Ending.returned (.int .i64 a) = .returned (.int .i64 b) := by rw [h]
theorem b1_yes {r q b : Nat} (h : r / b % 2 = 1 ∨ q / b % 2 = 1) : (if r / b % 2 = 1 ∨ q / b % 2 = 1 then b else 0) = b := if_pos h
theorem b1_no {r q b : Nat} (h : ¬ (r / b % 2 = 1 ∨ q / b % 2 = 1)) : (if r / b % 2 = 1 ∨ q / b % 2 = 1 then b else 0) = 0 := if_neg h
set_option maxRecDepth 8000 in
set_option maxHeartbeats 1000000 in
theorem with_any (r q : Nat) (w : World) (hr : r < 8) (hq : q < 8) :
    Calls Tryd.prog 81 #[.int .i64 r, .int .i64 q] w fun e w' => e = .returned (.int .i64 ((r ||| q : Nat) : Int)) ∧ w = w' := by
  have HO := Lib.hid (wiN_or r hr q hq)
  have HL := Lib.hid (fun k hk => wiN_le r hr q hq k hk)
  go_enter Tryd.func81, Tryd.ntmps81
  go_wp2
  go_loop [5, 6] (fun n i => ∃ k b : Nat, k ≤ 3 ∧ b = 2 ^ k ∧ i = .int .i64 b ∧ n = .int .i64 (wiN r q k)) (fun _ i => 8 - (intOf i).toNat)
  case atStart => exact ⟨0, 1, by omega, rfl, rfl, rfl⟩
  case round =>
    obtain ⟨k, b, hk, hb, rfl, rfl⟩ := hrel
    have hcase : k = 0 ∨ k = 1 ∨ k = 2 ∨ k = 3 := by omega
    obtain ⟨n, hn⟩ : ∃ n, n = wiN r q k := ⟨_, rfl⟩
    have hn7 : n ≤ 7 := by rw [hn]; exact HL.out k (by omega)
    have HN := Lib.hid hn
    rw [← hn]
    clear hn
    rcases hcase with rfl | rfl | rfl | rfl
    · obtain rfl : b = 1 := hb
      have HS := Lib.hid (wiN_step r q 0 1 (by omega) rfl)
      by_cases h1 : r / 1 % 2 = 1
      · have d1 : (((r : Nat) : Int) % 2 == 1) = true := by simp; omega
        go_wp2
        go_round
        case rel => exact ⟨0 + 1, 2, by omega, rfl, rfl, by rw [HS.out, b1_yes (.inl h1), ← HN.out]; rfl⟩
        case measure => simp [intOf]
      · by_cases h2 : q / 1 % 2 = 1
        · have d1 : (((r : Nat) : Int) % 2 == 1) = false := by simp; omega
          have d2 : (((q : Nat) : Int) % 2 == 1) = true := by simp; omega
          go_wp2
          go_round
          case rel => exact ⟨0 + 1, 2, by omega, rfl, rfl, by rw [HS.out, b1_yes (.inr h2), ← HN.out]; rfl⟩
          case measure => simp [intOf]
        · have d1 : (((r : Nat) : Int) % 2 == 1) = false := by simp; omega
          have d2 : (((q : Nat) : Int) % 2 == 1) = false := by simp; omega
          go_wp2
          go_round
          case rel => exact ⟨0 + 1, 2, by omega, rfl, rfl, by rw [HS.out, b1_no (by omega), ← HN.out]; rfl⟩
          case measure => simp [intOf]
    · obtain rfl : b = 2 := hb
      have HS := Lib.hid (wiN_step r q 1 2 (by omega) rfl)
      by_cases h1 : r / 2 % 2 = 1
      · have d1 : (((r : Nat) : Int) / 2 % 2 == 1) = true := by simp; omega
        go_wp2
        go_round
        case rel => exact ⟨1 + 1, 4, by omega, rfl, rfl, by rw [HS.out, b1_yes (.inl h1), ← HN.out]; rfl⟩
        case measure => simp [intOf]
      · by_cases h2 : q / 2 % 2 = 1
        · have d1 : (((r : Nat) : Int) / 2 % 2 == 1) = false := by simp; omega
          have d2 : (((q : Nat) : Int) / 2 % 2 == 1) = true := by simp; omega
          go_wp2
          go_round
          case rel => exact ⟨1 + 1, 4, by omega, rfl, rfl, by rw [HS.out, b1_yes (.inr h2), ← HN.out]; rfl⟩
          case measure => simp [intOf]
        · have d1 : (((r : Nat) : Int) / 2 % 2 == 1) = false := by simp; omega
          have d2 : (((q : Nat) : Int) / 2 % 2 == 1) = false := by simp; omega
          go_wp2
          go_round
          case rel => exact ⟨1 + 1, 4, by omega, rfl, rfl, by rw [HS.out, b1_no (by omega), ← HN.out]; rfl⟩
          case measure => simp [intOf]
    · obtain rfl : b = 4 := hb
      have HS := Lib.hid (wiN_step r q 2 4 (by omega) rfl)
      by_cases h1 : r / 4 % 2 = 1
      · have d1 : (((r : Nat) : Int) / 4 % 2 == 1) = true := by simp; omega
        go_wp2
        go_round
        case rel => exact ⟨2 + 1, 8, by omega, rfl, rfl, by rw [HS.out, b1_yes (.inl h1), ← HN.out]; rfl⟩
        case measure => simp [intOf]
      · by_cases h2 : q / 4 % 2 = 1
        · have d1 : (((r : Nat) : Int) / 4 % 2 == 1) = false := by simp; omega
          have d2 : (((q : Nat) : Int) / 4 % 2 == 1) = true := by simp; omega
          go_wp2
          go_round
          case rel => exact ⟨2 + 1, 8, by omega, rfl, rfl, by rw [HS.out, b1_yes (.inr h2), ← HN.out]; rfl⟩
          case measure => simp [intOf]
        · have d1 : (((r : Nat) : Int) / 4 % 2 == 1) = false := by simp; omega
          have d2 : (((q : Nat) : Int) / 4 % 2 == 1) = false := by simp; omega
          go_wp2
          go_round
          case rel => exact ⟨2 + 1, 8, by omega, rfl, rfl, by rw [HS.out, b1_no (by omega), ← HN.out]; rfl⟩
          case measure => simp [intOf]
    · obtain rfl : b = 8 := hb
      go_wp2
      go_ret
      exact ⟨ret_i (by rw [HN.out, HO.out]), rfl⟩
end Go.Proofs.YtfckdbennjkgoaaDoor
namespace Go.Proofs.YtfckdbennjkgoaaDoor
open Go.RowKit
set_option maxRecDepth 8000 in
set_option maxHeartbeats 1000000 in
theorem rwk_2 (o c l v : Int) (r : Nat) (w : World) (hr : r < 8) :
    Calls Tryd.prog 55 #[.agg (kc 2 o c l r v)] w fun e w' => e = .returned (.agg (kc 2 o c l ((r ||| 3 : Nat) : Int) v)) ∧ Below w.heap.size w w' := by
  go_enter Tryd.func55, Tryd.ntmps55
  go_wp2_with (go_at_call 81; refine (with_any r 3 _ hr (by decide)).mono ?_; rintro e w' ⟨rfl, rfl⟩)
  refine bodyPost_ret (v := .agg (kc 2 o c l ((r ||| 3 : Nat) : Int) v)) (by simp [results, Tryd.results55, go_sem]) rfl ⟨rfl, ?_⟩
  exact ((Below.refl _ _).alloc (Nat.le_refl _) _).alloc (by simp) _
set_option maxRecDepth 8000 in
set_option maxHeartbeats 1000000 in
theorem rwk_3 (o c l r v : Int) (w : World) :
    Calls Tryd.prog 55 #[.agg (kc 3 o c l r v)] w fun e w' => e = .returned (.agg (kc 3 o c l 1 v)) ∧ Below w.heap.size w w' := by
  go_enter Tryd.func55, Tryd.ntmps55
  go_wp2_with (fail)
  refine bodyPost_ret (v := .agg (kc 3 o c l 1 v)) (by simp [results, Tryd.results55, go_sem]) rfl ⟨rfl, ?_⟩
  exact ((Below.refl _ _).alloc (Nat.le_refl _) _).alloc (by simp) _
set_option maxRecDepth 8000 in
set_option maxHeartbeats 1000000 in
theorem rwk_1 (o c l r v : Int) (w : World) :
    Calls Tryd.prog 55 #[.agg (kc 1 o c l r v)] w fun e w' => e = .returned (.agg (kc 1 o c l r v)) ∧ Below w.heap.size w w' := by
  go_enter Tryd.func55, Tryd.ntmps55
  go_wp2_with (fail)
  refine bodyPost_ret (v := .agg (kc 1 o c l r v)) (by simp [results, Tryd.results55, go_sem]) rfl ⟨rfl, ?_⟩
  exact ((Below.refl _ _).alloc (Nat.le_refl _) _).alloc (by simp) _
set_option maxRecDepth 8000 in
set_option maxHeartbeats 1000000 in
theorem rwk_8 (o c l r v : Int) (w : World) :
    Calls Tryd.prog 55 #[.agg (kc 8 o c l r v)] w fun e w' => e = .returned (.agg (kc 8 o c l r v)) ∧ Below w.heap.size w w' := by
  go_enter Tryd.func55, Tryd.ntmps55
  go_wp2_with (fail)
  refine bodyPost_ret (v := .agg (kc 8 o c l r v)) (by simp [results, Tryd.results55, go_sem]) rfl ⟨rfl, ?_⟩
  exact ((Below.refl _ _).alloc (Nat.le_refl _) _).alloc (by simp) _
set_option maxRecDepth 8000 in
set_option maxHeartbeats 1000000 in
theorem rwk_v (k o c l r v : Int) (w : World) (h : k ≠ 2 ∧ k ≠ 3 ∧ k ≠ 1 ∧ k ≠ 8) :
    Calls Tryd.prog 55 #[.agg (kc k o c l r v)] w fun e w' => e = .returned (.agg (kc 0 0 0 0 0 0)) ∧ Below w.heap.size w w' := by
  obtain ⟨h2, h3, h1, h8⟩ := h
  have e2 : (k == 2) = false := by simpa using h2
  have e3 : (k == 3) = false := by simpa using h3
  have e1 : (k == 1) = false := by simpa using h1
  have e8 : (k == 8) = false := by simpa using h8
  clear h2 h3 h1 h8
  go_enter Tryd.func55, Tryd.ntmps55
  go_wp2_with (fail)
  refine bodyPost_ret (v := .agg (kc 0 0 0 0 0 0)) (by simp [results, Tryd.results55, go_sem]) rfl ⟨rfl, ?_⟩
  exact ((Below.refl _ _).alloc (Nat.le_refl _) _).alloc (by simp) _
end Go.Proofs.YtfckdbennjkgoaaDoor
namespace Go.Proofs.YtfckdbennjkgoaaDoor
open Go.ChangeShapes Go.WideShapes Go.ChangeAt Go.RowKit
set_option maxRecDepth 8000 in
theorem own : ownKnob Tryd.prog.godebug = none := by kernel_rfl
set_option maxRecDepth 8000 in
theorem laidOut : laidOutB Tryd.prog = true := by kernel_rfl
set_option maxRecDepth 8000 in
theorem gKinds : Tryd.prog.globalNamed "chatelaine/keys.kinds" = some 0 := by kernel_rfl
set_option maxRecDepth 8000 in
theorem tKinds : (Tryd.prog.globals[0]?).map (·.type) = some 161 := by kernel_rfl
abbrev laidK : List (String × DataW Unit) := [("chatelaine/keys.kinds", Rows.laid_chatelaine_keys_kinds)]
set_option maxRecDepth 100000 in
theorem door_met (os : Os) (args : Array Value) : laidMetH Tryd.prog laidK ((World.doorLaid Tryd.prog 40 os).forCall (fun _ _ => 0) ⟨#[], args, []⟩).memory :=
  laidMetH_of_parts3 (fuel := 8) (laidMet_of_run' 8 (by kernel_rfl) (by kernel_rfl)) (by kernel_rfl) (by kernel_rfl)
section
variable {H : Type} {enc : TypeId × Value → H} {W : World} {base : Nat} {spare : Nat → Bool} {held : Bool} {fuel : Nat}
set_option maxRecDepth 8000 in
theorem bool_of {cs : List Value} {x : DataW H × List MemPlace} {n : Nat} (h : DataW.trod enc Tryd.prog W base spare held n 4 cs = some x) : ∃ b : Bool, cs = [.bool b] ∧ x.1 = .lit (.bool b) := by
  obtain ⟨b, h1, h2⟩ := DataW.trod_bool Tryd.underlying4 h
  exact ⟨b, h1, by rw [h2]⟩
set_option maxRecDepth 100000 in
/-- one kind's row of the table, off its datum -/
theorem kind_cells {cs : List Value} {x : DataW H × List MemPlace} (h : DataW.trod enc Tryd.prog W base spare held fuel 160 cs = some x) (nm : List UInt8) (a b c d e : Int) (q : Bool)
    (hx : x.1 = .agg [.lit (.string nm), .lit (.int .i64 a), .lit (.int .i64 b), .lit (.int .i64 c), .lit (.int .i64 d), .lit (.int .i64 e), .lit (.bool q)]) :
    cs = [.string (st nm), .int .i64 a, .int .i64 b, .int .i64 c, .int .i64 d, .int .i64 e, .bool q] := by
  obtain ⟨xs, n, _, hx1, hl, hn, hel⟩ := DataW.trod_struct Tryd.underlying160 h
  have hl7 : cs.length = 7 := hl.trans (by kernel_rfl)
  match cs, hl7 with
  | [c0, c1, c2, c3, c4, c5, c6], _ =>
    match xs, hn with
    | [y0, y1, y2, y3, y4, y5, y6], _ =>
      rw [hx1] at hx
      simp only [List.map_cons, List.map_nil, DataW.agg.injEq, List.cons.injEq, and_true] at hx
      obtain ⟨e0, e1, e2, e3, e4, e5, e6⟩ := hx
      obtain ⟨s, r0, q0, _⟩ := DataW.trod_string Tryd.underlying9 (show DataW.trod enc Tryd.prog W base spare held n 9 [c0] = some y0 from hel 0 _ rfl)
      obtain ⟨n1, r1, q1, _⟩ := DataW.trod_int Tryd.underlying48 (show DataW.trod enc Tryd.prog W base spare held n 48 [c1] = some y1 from hel 1 _ rfl)
      obtain ⟨n2, r2, q2, _⟩ := DataW.trod_int Tryd.underlying3 (show DataW.trod enc Tryd.prog W base spare held n 3 [c2] = some y2 from hel 2 _ rfl)
      obtain ⟨n3, r3, q3, _⟩ := DataW.trod_int Tryd.underlying2 (show DataW.trod enc Tryd.prog W base spare held n 2 [c3] = some y3 from hel 3 _ rfl)
      obtain ⟨n4, r4, q4, _⟩ := DataW.trod_int Tryd.underlying2 (show DataW.trod enc Tryd.prog W base spare held n 2 [c4] = some y4 from hel 4 _ rfl)
      obtain ⟨n5, r5, q5, _⟩ := DataW.trod_int Tryd.underlying29 (show DataW.trod enc Tryd.prog W base spare held n 29 [c5] = some y5 from hel 5 _ rfl)
      obtain ⟨n6, r6, q6⟩ := bool_of (show DataW.trod enc Tryd.prog W base spare held n 4 [c6] = some y6 from hel 6 _ rfl)
      simp only [List.cons.injEq, and_true] at r0 r1 r2 r3 r4 r5 r6
      subst r0 r1 r2 r3 r4 r5 r6
      rw [q0] at e0; rw [q1] at e1; rw [q2] at e2; rw [q3] at e3; rw [q4] at e4; rw [q5] at e5; rw [q6] at e6
      simp only [DataW.lit.injEq, Lit.string.injEq, Lit.int.injEq, Lit.bool.injEq, true_and] at e0 e1 e2 e3 e4 e5 e6
      subst e1 e2 e3 e4 e5 e6
      have : s = st nm := by
        unfold st
        rw [← e0]
      rw [this]
set_option maxRecDepth 100000 in
/-- a key, off its cells -/
theorem key_cells {cs : List Value} {x : DataW H × List MemPlace} (h : DataW.trod enc Tryd.prog W base spare held fuel 31 cs = some x) : ∃ y : Ky, cs = [.int .i64 y.k, .int .i64 y.o, .int .i64 y.c, .int .i64 y.l, .int .i64 y.r, .int .i64 y.v] := by
  obtain ⟨xs, n, _, hx1, hl, hn, hel⟩ := DataW.trod_struct Tryd.underlying31 h
  have hl6 : cs.length = 6 := hl.trans (by kernel_rfl)
  match cs, hl6 with
  | [c0, c1, c2, c3, c4, c5], _ =>
    match xs, hn with
    | [y0, y1, y2, y3, y4, y5], _ =>
      obtain ⟨n0, r0, _, _⟩ := DataW.trod_int Tryd.underlying28 (show DataW.trod enc Tryd.prog W base spare held n 28 [c0] = some y0 from hel 0 _ rfl)
      obtain ⟨n1, r1, _, _⟩ := DataW.trod_int Tryd.underlying3 (show DataW.trod enc Tryd.prog W base spare held n 3 [c1] = some y1 from hel 1 _ rfl)
      obtain ⟨n2, r2, _, _⟩ := DataW.trod_int Tryd.underlying2 (show DataW.trod enc Tryd.prog W base spare held n 2 [c2] = some y2 from hel 2 _ rfl)
      obtain ⟨n3, r3, _, _⟩ := DataW.trod_int Tryd.underlying2 (show DataW.trod enc Tryd.prog W base spare held n 2 [c3] = some y3 from hel 3 _ rfl)
      obtain ⟨n4, r4, _, _⟩ := DataW.trod_int Tryd.underlying29 (show DataW.trod enc Tryd.prog W base spare held n 29 [c4] = some y4 from hel 4 _ rfl)
      obtain ⟨n5, r5, _, _⟩ := DataW.trod_int Tryd.underlying2 (show DataW.trod enc Tryd.prog W base spare held n 2 [c5] = some y5 from hel 5 _ rfl)
      simp only [List.cons.injEq, and_true] at r0 r1 r2 r3 r4 r5
      subst r0 r1 r2 r3 r4 r5
      exact ⟨⟨n0, n1, n2, n3, n4, n5⟩, rfl⟩
set_option maxRecDepth 8000 in
/-- a key that came in -/
theorem open_key {r : Reach} {b0 : Nat} {v : Value} {d : DataW H} {p : List MemPlace} (hv : Value.okWide Tryd.prog W r b0 31 v) (h : DataW.Trod enc Tryd.prog W base spare held 31 v d p) : ∃ y : Ky, v = y.val := by
  obtain ⟨cs, rfl, _⟩ := okWide_struct Tryd.underlying31 hv
  obtain ⟨f, hf⟩ := h
  obtain ⟨y, hy⟩ := key_cells hf
  refine ⟨y, ?_⟩
  obtain ⟨l⟩ := cs
  simp only [Value.cells] at hy
  subst hy
  rfl
end
set_option maxRecDepth 8000 in
/-- the condition gives the table -/
theorem tab_of {W : World} (h : laidMetH Tryd.prog laidK W) : Tab W := by
  rw [MakeChecks.laidMetH_plain _ _ _ (by kernel_rfl)] at h
  obtain ⟨ps, ⟨g0, t0, cs0, f0, p0, q0, hg0, ht0, hv0, hd0, _, _⟩, _, _⟩ := h
  obtain rfl := Option.some.inj (gKinds.symm.trans hg0)
  obtain rfl := Option.some.inj (tKinds.symm.trans ht0)
  obtain ⟨xs, m, _, hx, hl, hn, hel⟩ := DataW.trod_array Tryd.underlying161 hd0
  have c7 : Tryd.prog.cellsOf 160 = 7 := by kernel_rfl
  simp only [c7] at hel
  simp only [Prod.mk.injEq] at hx
  have hx1 := hx.1
  have row : ∀ k, k ≤ 10 → (cs0.toList.drop (k * 7)).take 7 = kCells k := by
    match xs, hn with
    | [x0, x1, x2, x3, x4, x5, x6, x7, x8, x9, x10], _ =>
      unfold Rows.laid_chatelaine_keys_kinds at hx1
      simp only [List.map_cons, List.map_nil, DataW.agg.injEq, List.cons.injEq, and_true] at hx1
      obtain ⟨e0, e1, e2, e3, e4, e5, e6, e7, e8, e9, e10⟩ := hx1
      intro k hk
      have hcase : k = 0 ∨ k = 1 ∨ k = 2 ∨ k = 3 ∨ k = 4 ∨ k = 5 ∨ k = 6 ∨ k = 7 ∨ k = 8 ∨ k = 9 ∨ k = 10 := by omega
      rcases hcase with rfl | rfl | rfl | rfl | rfl | rfl | rfl | rfl | rfl | rfl | rfl
      · exact kind_cells (hel 0 (by decide)) _ _ _ _ _ _ _ e0.symm
      · exact kind_cells (hel 1 (by decide)) _ _ _ _ _ _ _ e1.symm
      · exact kind_cells (hel 2 (by decide)) _ _ _ _ _ _ _ e2.symm
      · exact kind_cells (hel 3 (by decide)) _ _ _ _ _ _ _ e3.symm
      · exact kind_cells (hel 4 (by decide)) _ _ _ _ _ _ _ e4.symm
      · exact kind_cells (hel 5 (by decide)) _ _ _ _ _ _ _ e5.symm
      · exact kind_cells (hel 6 (by decide)) _ _ _ _ _ _ _ e6.symm
      · exact kind_cells (hel 7 (by decide)) _ _ _ _ _ _ _ e7.symm
      · exact kind_cells (hel 8 (by decide)) _ _ _ _ _ _ _ e8.symm
      · exact kind_cells (hel 9 (by decide)) _ _ _ _ _ _ _ e9.symm
      · exact kind_cells (hel 10 (by decide)) _ _ _ _ _ _ _ e10.symm
  intro k hk j u hu
  rw [World.var?_cell hg0 hv0]
  have hj : j < 7 := by
    have := (List.getElem?_eq_some_iff.1 hu).1
    simpa [kCells] using this
  rw [← row k hk, List.getElem?_take, if_pos hj, List.getElem?_drop] at hu
  simpa using hu
end Go.Proofs.YtfckdbennjkgoaaDoor

/- keys.Wants, keys.Names; the definition's. -/
import Derived.Test.YtlhlgfehbfankaaDoorKRef
namespace Go.Proofs.YtlhlgfehbfankaaDoor
open Go.RowKit
/-- what the walk wants behind a call that makes memory -/
theorem bcell {W w1 : World} (hb : Below W.heap.size W w1) : (∀ b o, b < W.heap.size → w1.cell? ⟨b, o, none⟩ = W.cell? ⟨b, o, none⟩) ∧ (∀ b o, b < W.heap.size → w1.frozen? ⟨b, o, none⟩ = W.frozen? ⟨b, o, none⟩) :=
  ⟨fun b o h => hb.cell (p := ⟨b, o, none⟩) h, fun b o h => hb.frozen (p := ⟨b, o, none⟩) h⟩
theorem below_box {w w1 : World} {x : Obj} (hb : Below (w.alloc x).heap.size (w.alloc x) w1) : Below w.heap.size w w1 := ((Below.refl _ _).alloc (Nat.le_refl _) _).trans (hb.mono (by simp))
theorem nA_wants {n : Nat} (h : n ≤ 10) : kWants n = if nA n then (if n = 3 then 2 else 1) else 0 := by
  have hcase : n = 0 ∨ n = 1 ∨ n = 2 ∨ n = 3 ∨ n = 4 ∨ n = 5 ∨ n = 6 ∨ n = 7 ∨ n = 8 ∨ n = 9 ∨ n = 10 := by omega
  rcases hcase with rfl | rfl | rfl | rfl | rfl | rfl | rfl | rfl | rfl | rfl | rfl <;> rfl
set_option maxHeartbeats 1000000 in
theorem wants_no (k o c l r v : Int) (w : World) (hT : Tab w) (h : ¬ OkK k o c l r v) :
    Calls Tryd.prog 45 #[.agg #[.int .i64 k, .int .i64 o, .int .i64 c, .int .i64 l, .int .i64 r, .int .i64 v]] w fun e w' => e = .returned (.int .i64 0) ∧ Below w.heap.size w w' := by
  have HK := Lib.hid h
  have HT := Lib.hid hT
  clear h hT
  go_enter Tryd.func45, Tryd.ntmps45
  go_wp2_with (go_at_call 46; refine (chk_no _ _ _ _ _ _ _ (HT.out.alloc _) HK.out).mono ?_; rintro e w1 ⟨rfl, b1⟩; have HB := Lib.hid b1; clear b1)
  go_ret
  exact ⟨rfl, below_box HB.out⟩
set_option maxHeartbeats 1000000 in
theorem wants_ok (k : Nat) (o c l r v : Int) (w : World) (hT : Tab w) (h : OkK k o c l r v) :
    Calls Tryd.prog 45 #[.agg #[.int .i64 k, .int .i64 o, .int .i64 c, .int .i64 l, .int .i64 r, .int .i64 v]] w fun e w' => e = .returned (.int .i64 (kWants k)) ∧ Below w.heap.size w w' := by
  have hk : k ≤ 10 := by have := okK_in h; omega
  have z1 := (hT.row hk).z1
  have hg := hT.lt
  have HK := Lib.hid h
  have HT := Lib.hid hT
  clear h hT
  go_enter Tryd.func45, Tryd.ntmps45
  go_wp2_with (go_at_call 46; refine (chk_ok _ _ _ _ _ _ _ (HT.out.alloc _) HK.out).mono ?_; rintro e w1 ⟨rfl, b1⟩; obtain ⟨hc, hf⟩ := bcell b1; have HB := Lib.hid b1; clear b1)
  go_ret
  exact ⟨rfl, below_box HB.out⟩
theorem wants_any (k o c l r v : Int) (w : World) (hT : Tab w) (h : OkK k o c l r v) :
    Calls Tryd.prog 45 #[.agg #[.int .i64 k, .int .i64 o, .int .i64 c, .int .i64 l, .int .i64 r, .int .i64 v]] w fun e w' => e = .returned (.int .i64 (kWants k.toNat)) ∧ Below w.heap.size w w' := by
  obtain ⟨n, rfl⟩ := Int.eq_ofNat_of_zero_le (okK_in h).1
  exact wants_ok n o c l r v w hT h
set_option maxHeartbeats 1000000 in
theorem kn_no (k o c l r v : Int) (w : World) (hT : Tab w) (h : ¬ OkK k o c l r v) :
    Calls Tryd.prog 37 #[.agg #[.int .i64 k, .int .i64 o, .int .i64 c, .int .i64 l, .int .i64 r, .int .i64 v]] w fun e w' => e = .returned (.tuple #[.int .i64 0, .bool false]) ∧ Below w.heap.size w w' := by
  have HK := Lib.hid h
  have HT := Lib.hid hT
  clear h hT
  go_enter Tryd.func37, Tryd.ntmps37
  go_wp2_with (go_at_call 45; refine (wants_no _ _ _ _ _ _ _ (HT.out.alloc _) HK.out).mono ?_; rintro e w1 ⟨rfl, b1⟩; have HB := Lib.hid b1; clear b1)
  go_ret2
  exact ⟨rfl, below_box HB.out⟩
set_option maxHeartbeats 1000000 in
theorem kn_none (k o c l r v : Int) (w : World) (hT : Tab w) (h : OkK k o c l r v) (ha : kWants k.toNat = 0) :
    Calls Tryd.prog 37 #[.agg #[.int .i64 k, .int .i64 o, .int .i64 c, .int .i64 l, .int .i64 r, .int .i64 v]] w fun e w' => e = .returned (.tuple #[.int .i64 0, .bool false]) ∧ Below w.heap.size w w' := by
  have HK := Lib.hid h
  have HT := Lib.hid hT
  have HA := Lib.hid ha
  clear h hT ha
  go_enter Tryd.func37, Tryd.ntmps37
  go_wp2_with (go_at_call 45; refine (wants_any _ _ _ _ _ _ _ (HT.out.alloc _) HK.out).mono ?_; rw [HA.out]; rintro e w1 ⟨rfl, b1⟩; have HB := Lib.hid b1; clear b1)
  go_ret2
  exact ⟨rfl, below_box HB.out⟩
set_option maxHeartbeats 1000000 in
theorem kn_some (k o c l r v : Int) (w : World) (hT : Tab w) (h : OkK k o c l r v) (ha : kWants k.toNat ≠ 0) :
    Calls Tryd.prog 37 #[.agg #[.int .i64 k, .int .i64 o, .int .i64 c, .int .i64 l, .int .i64 r, .int .i64 v]] w fun e w' => e = .returned (.tuple #[.int .i64 o, .bool true]) ∧ Below w.heap.size w w' := by
  have HK := Lib.hid h
  have HT := Lib.hid hT
  obtain ⟨n, hn⟩ : ∃ n, n = kWants k.toNat := ⟨_, rfl⟩
  have d1 : (n == 0) = false := by rw [hn]; simpa using ha
  have HA := Lib.hid hn
  clear h hT ha hn
  go_enter Tryd.func37, Tryd.ntmps37
  go_wp2_with (go_at_call 45; refine (wants_any _ _ _ _ _ _ _ (HT.out.alloc _) HK.out).mono ?_; rw [← HA.out]; rintro e w1 ⟨rfl, b1⟩; obtain ⟨hc, hf⟩ := bcell b1; have HB := Lib.hid b1; clear b1)
  go_ret2
  exact ⟨rfl, below_box HB.out⟩
set_option maxHeartbeats 1000000 in
theorem rn_no (k o c l r v : Int) (w : World) (h : ¬ OkK k o c l r v) :
    Calls Tryd.prog 23 #[.agg #[.int .i64 k, .int .i64 o, .int .i64 c, .int .i64 l, .int .i64 r, .int .i64 v]] w fun e w' => e = .returned (.int .i64 (-1)) ∧ Below w.heap.size w w' := by
  have HK := Lib.hid h
  clear h
  go_enter Tryd.func23, Tryd.ntmps23
  go_wp2_with (first
    | (go_at_call 41; refine (names_any _ _).mono ?_; rintro e w' ⟨rfl, rfl⟩)
    | (go_at_call 34; refine (rchk_no _ _ _ _ _ _ _ HK.out).mono ?_; rintro e w1 ⟨rfl, b1⟩; have HB := Lib.hid b1; clear b1))
  go_ret
  exact ⟨rfl, below_box HB.out⟩
set_option maxHeartbeats 1000000 in
theorem rn_none (k o c l r v : Int) (w : World) (h : OkK k o c l r v) (ha : nA k = false) :
    Calls Tryd.prog 23 #[.agg #[.int .i64 k, .int .i64 o, .int .i64 c, .int .i64 l, .int .i64 r, .int .i64 v]] w fun e w' => e = .returned (.int .i64 (-1)) ∧ Below w.heap.size w w' := by
  have HK := Lib.hid h
  have HA := Lib.hid ha
  clear h ha
  go_enter Tryd.func23, Tryd.ntmps23
  go_wp2_with (first
    | (go_at_call 41; refine (names_any _ _).mono ?_; rw [HA.out]; rintro e w' ⟨rfl, rfl⟩)
    | (go_at_call 34; refine (rchk_ok _ _ _ _ _ _ _ HK.out).mono ?_; rintro e w1 ⟨rfl, b1⟩; obtain ⟨hc, hf⟩ := bcell b1; have HB := Lib.hid b1; clear b1))
  go_ret
  exact ⟨rfl, below_box HB.out⟩
set_option maxHeartbeats 1000000 in
theorem rn_some (k o c l r v : Int) (w : World) (h : OkK k o c l r v) (ha : nA k = true) :
    Calls Tryd.prog 23 #[.agg #[.int .i64 k, .int .i64 o, .int .i64 c, .int .i64 l, .int .i64 r, .int .i64 v]] w fun e w' => e = .returned (.int .i64 o) ∧ Below w.heap.size w w' := by
  have HK := Lib.hid h
  have HA := Lib.hid ha
  clear h ha
  go_enter Tryd.func23, Tryd.ntmps23
  go_wp2_with (first
    | (go_at_call 41; refine (names_any _ _).mono ?_; rw [HA.out]; rintro e w' ⟨rfl, rfl⟩)
    | (go_at_call 34; refine (rchk_ok _ _ _ _ _ _ _ HK.out).mono ?_; rintro e w1 ⟨rfl, b1⟩; obtain ⟨hc, hf⟩ := bcell b1; have HB := Lib.hid b1; clear b1))
  go_ret
  exact ⟨rfl, below_box HB.out⟩
set_option maxHeartbeats 1000000 in
theorem rw_no (k o c l r v : Int) (w : World) (h : ¬ OkK k o c l r v) :
    Calls Tryd.prog 47 #[.agg #[.int .i64 k, .int .i64 o, .int .i64 c, .int .i64 l, .int .i64 r, .int .i64 v]] w fun e w' => e = .returned (.int .i64 0) ∧ Below w.heap.size w w' := by
  have HK := Lib.hid h
  clear h
  go_enter Tryd.func47, Tryd.ntmps47
  go_wp2_with (go_at_call 23; refine (rn_no _ _ _ _ _ _ _ HK.out).mono ?_; rintro e w1 ⟨rfl, b1⟩; have HB := Lib.hid b1; clear b1)
  go_ret
  exact ⟨rfl, below_box HB.out⟩
set_option maxHeartbeats 1000000 in
theorem rw_none (k o c l r v : Int) (w : World) (h : OkK k o c l r v) (ha : nA k = false) :
    Calls Tryd.prog 47 #[.agg #[.int .i64 k, .int .i64 o, .int .i64 c, .int .i64 l, .int .i64 r, .int .i64 v]] w fun e w' => e = .returned (.int .i64 0) ∧ Below w.heap.size w w' := by
  have HK := Lib.hid h
  have HA := Lib.hid ha
  clear h ha
  go_enter Tryd.func47, Tryd.ntmps47
  go_wp2_with (go_at_call 23; refine (rn_none _ _ _ _ _ _ _ HK.out HA.out).mono ?_; rintro e w1 ⟨rfl, b1⟩; have HB := Lib.hid b1; clear b1)
  go_ret
  exact ⟨rfl, below_box HB.out⟩
set_option maxHeartbeats 1000000 in
theorem rw_3 (k o c l r v : Int) (w : World) (h : OkK k o c l r v) (ha : nA k = true) (h3 : k = 3) :
    Calls Tryd.prog 47 #[.agg #[.int .i64 k, .int .i64 o, .int .i64 c, .int .i64 l, .int .i64 r, .int .i64 v]] w fun e w' => e = .returned (.int .i64 2) ∧ Below w.heap.size w w' := by
  have HK := Lib.hid h
  have HA := Lib.hid ha
  have h0 : 0 ≤ o := by obtain ⟨n, _, _, h0, _⟩ := h; exact h0
  have d0 : decide (o < 0) = false := by simpa using h0
  have d3 : (k == 3) = true := by simpa using h3
  clear h ha h3
  go_enter Tryd.func47, Tryd.ntmps47
  go_wp2_with (go_at_call 23; refine (rn_some _ _ _ _ _ _ _ HK.out HA.out).mono ?_; rintro e w1 ⟨rfl, b1⟩; obtain ⟨hc, hf⟩ := bcell b1; have HB := Lib.hid b1; clear b1)
  go_ret
  exact ⟨rfl, below_box HB.out⟩
set_option maxHeartbeats 1000000 in
theorem rw_1 (k o c l r v : Int) (w : World) (h : OkK k o c l r v) (ha : nA k = true) (h3 : k ≠ 3) :
    Calls Tryd.prog 47 #[.agg #[.int .i64 k, .int .i64 o, .int .i64 c, .int .i64 l, .int .i64 r, .int .i64 v]] w fun e w' => e = .returned (.int .i64 1) ∧ Below w.heap.size w w' := by
  have HK := Lib.hid h
  have HA := Lib.hid ha
  have h0 : 0 ≤ o := by obtain ⟨n, _, _, h0, _⟩ := h; exact h0
  have d0 : decide (o < 0) = false := by simpa using h0
  have d3 : (k == 3) = false := by simpa using h3
  clear h ha h3
  go_enter Tryd.func47, Tryd.ntmps47
  go_wp2_with (go_at_call 23; refine (rn_some _ _ _ _ _ _ _ HK.out HA.out).mono ?_; rintro e w1 ⟨rfl, b1⟩; obtain ⟨hc, hf⟩ := bcell b1; have HB := Lib.hid b1; clear b1)
  go_ret
  exact ⟨rfl, below_box HB.out⟩
end Go.Proofs.YtlhlgfehbfankaaDoor

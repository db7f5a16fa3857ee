/- the definition's Check: by what a kind names. -/
import Derived.Test.YtjolojomgfcfbaaDoorR02
namespace Go.Proofs.YtjolojomgfcfbaaDoor
open Go.RowKit
set_option maxRecDepth 8000 in
set_option maxHeartbeats 1000000 in
theorem rchk_v2 (k o c l r v : Int) (w : World) (k0 : 0 ≤ k) (k1 : k ≤ 10) (h3 : k ≠ 3) (ha : nA k = true) (hb : nB k = true) (hc : nC k = false) (hd : nD k = false) :
    Calls Tryd.prog 32 #[.agg #[.int .i64 k, .int .i64 o, .int .i64 c, .int .i64 l, .int .i64 r, .int .i64 v]] w fun e w' => e = .returned (.int .i64 (verdict true true false false 7 o c l r v)) ∧ Below w.heap.size w w' := by
  have HN : Hid (∀ w : World, Calls Tryd.prog 43 #[.int .i64 k] w fun e w' => e = .returned (.tuple #[.bool true, .bool true, .bool false, .bool false]) ∧ w = w') := by
    refine Lib.hid fun w => ?_
    have := names_any k w
    rw [ha, hb, hc, hd] at this
    exact this
  clear ha hb hc hd
  have d3 : (k == 3) = false := by simpa using h3
  clear h3
  go_enter Tryd.func32, Tryd.ntmps32
  go_wp2_with (go_at_call 43; refine (HN.out _).mono ?_; rintro e w' ⟨rfl, rfl⟩)
  all_goals
    go_ret
    refine ⟨ret_v ?_, (Below.refl _ _).alloc (Nat.le_refl _) _⟩
    clear HN
    try simp only [bne_iff_ne, bne_eq_false_iff_eq, ne_eq] at *
    first
      | (refine verdict_ok ?_; unfold Keeps; simp; omega)
      | (refine verdict_ok ?_; unfold Keeps; simp; done)
      | (refine verdict_no ?_; unfold Keeps; simp; omega)
set_option maxRecDepth 8000 in
set_option maxHeartbeats 1000000 in
theorem rchk_v1 (k o c l r v : Int) (w : World) (k0 : 0 ≤ k) (k1 : k ≤ 10) (h3 : k ≠ 3) (ha : nA k = false) (hb : nB k = false) (hc : nC k = false) (hd : nD k = true) :
    Calls Tryd.prog 32 #[.agg #[.int .i64 k, .int .i64 o, .int .i64 c, .int .i64 l, .int .i64 r, .int .i64 v]] w fun e w' => e = .returned (.int .i64 (verdict false false false true 0 o c l r v)) ∧ Below w.heap.size w w' := by
  have HN : Hid (∀ w : World, Calls Tryd.prog 43 #[.int .i64 k] w fun e w' => e = .returned (.tuple #[.bool false, .bool false, .bool false, .bool true]) ∧ w = w') := by
    refine Lib.hid fun w => ?_
    have := names_any k w
    rw [ha, hb, hc, hd] at this
    exact this
  clear ha hb hc hd
  have d3 : (k == 3) = false := by simpa using h3
  clear h3
  go_enter Tryd.func32, Tryd.ntmps32
  go_wp2_with (go_at_call 43; refine (HN.out _).mono ?_; rintro e w' ⟨rfl, rfl⟩)
  all_goals
    go_ret
    refine ⟨ret_v ?_, (Below.refl _ _).alloc (Nat.le_refl _) _⟩
    clear HN
    try simp only [bne_iff_ne, bne_eq_false_iff_eq, ne_eq] at *
    first
      | (refine verdict_ok ?_; unfold Keeps; simp; omega)
      | (refine verdict_ok ?_; unfold Keeps; simp; done)
      | (refine verdict_no ?_; unfold Keeps; simp; omega)
set_option maxRecDepth 8000 in
set_option maxHeartbeats 1000000 in
theorem rchk_v3 (k o c l r v : Int) (w : World) (k0 : 0 ≤ k) (k1 : k ≤ 10) (h3 : k = 3) (ha : nA k = true) (hb : nB k = true) (hc : nC k = false) (hd : nD k = false) :
    Calls Tryd.prog 32 #[.agg #[.int .i64 k, .int .i64 o, .int .i64 c, .int .i64 l, .int .i64 r, .int .i64 v]] w fun e w' => e = .returned (.int .i64 (verdict true true false false 1 o c l r v)) ∧ Below w.heap.size w w' := by
  have HN : Hid (∀ w : World, Calls Tryd.prog 43 #[.int .i64 k] w fun e w' => e = .returned (.tuple #[.bool true, .bool true, .bool false, .bool false]) ∧ w = w') := by
    refine Lib.hid fun w => ?_
    have := names_any k w
    rw [ha, hb, hc, hd] at this
    exact this
  clear ha hb hc hd
  have d3 : (k == 3) = true := by simpa using h3
  clear h3
  go_enter Tryd.func32, Tryd.ntmps32
  go_wp2_with (go_at_call 43; refine (HN.out _).mono ?_; rintro e w' ⟨rfl, rfl⟩)
  all_goals
    go_ret
    refine ⟨ret_v ?_, (Below.refl _ _).alloc (Nat.le_refl _) _⟩
    clear HN
    try simp only [bne_iff_ne, bne_eq_false_iff_eq, ne_eq] at *
    first
      | (refine verdict_ok ?_; unfold Keeps; simp; omega)
      | (refine verdict_ok ?_; unfold Keeps; simp; done)
      | (refine verdict_no ?_; unfold Keeps; simp; omega)
end Go.Proofs.YtjolojomgfcfbaaDoor
namespace Go.Proofs.YtjolojomgfcfbaaDoor
open Go.RowKit
set_option maxRecDepth 8000 in
set_option maxHeartbeats 1000000 in
theorem rchk_v4 (k o c l r v : Int) (w : World) (k0 : 0 ≤ k) (k1 : k ≤ 10) (h3 : k ≠ 3) (ha : nA k = true) (hb : nB k = false) (hc : nC k = false) (hd : nD k = false) :
    Calls Tryd.prog 32 #[.agg #[.int .i64 k, .int .i64 o, .int .i64 c, .int .i64 l, .int .i64 r, .int .i64 v]] w fun e w' => e = .returned (.int .i64 (verdict true false false false 0 o c l r v)) ∧ Below w.heap.size w w' := by
  have HN : Hid (∀ w : World, Calls Tryd.prog 43 #[.int .i64 k] w fun e w' => e = .returned (.tuple #[.bool true, .bool false, .bool false, .bool false]) ∧ w = w') := by
    refine Lib.hid fun w => ?_
    have := names_any k w
    rw [ha, hb, hc, hd] at this
    exact this
  clear ha hb hc hd
  have d3 : (k == 3) = false := by simpa using h3
  clear h3
  go_enter Tryd.func32, Tryd.ntmps32
  go_wp2_with (go_at_call 43; refine (HN.out _).mono ?_; rintro e w' ⟨rfl, rfl⟩)
  all_goals
    go_ret
    refine ⟨ret_v ?_, (Below.refl _ _).alloc (Nat.le_refl _) _⟩
    clear HN
    try simp only [bne_iff_ne, bne_eq_false_iff_eq, ne_eq] at *
    first
      | (refine verdict_ok ?_; unfold Keeps; simp; omega)
      | (refine verdict_ok ?_; unfold Keeps; simp; done)
      | (refine verdict_no ?_; unfold Keeps; simp; omega)
set_option maxRecDepth 8000 in
set_option maxHeartbeats 1000000 in
theorem rchk_v6 (k o c l r v : Int) (w : World) (k0 : 0 ≤ k) (k1 : k ≤ 10) (h3 : k ≠ 3) (ha : nA k = true) (hb : nB k = false) (hc : nC k = false) (hd : nD k = true) :
    Calls Tryd.prog 32 #[.agg #[.int .i64 k, .int .i64 o, .int .i64 c, .int .i64 l, .int .i64 r, .int .i64 v]] w fun e w' => e = .returned (.int .i64 (verdict true false false true 0 o c l r v)) ∧ Below w.heap.size w w' := by
  have HN : Hid (∀ w : World, Calls Tryd.prog 43 #[.int .i64 k] w fun e w' => e = .returned (.tuple #[.bool true, .bool false, .bool false, .bool true]) ∧ w = w') := by
    refine Lib.hid fun w => ?_
    have := names_any k w
    rw [ha, hb, hc, hd] at this
    exact this
  clear ha hb hc hd
  have d3 : (k == 3) = false := by simpa using h3
  clear h3
  go_enter Tryd.func32, Tryd.ntmps32
  go_wp2_with (go_at_call 43; refine (HN.out _).mono ?_; rintro e w' ⟨rfl, rfl⟩)
  all_goals
    go_ret
    refine ⟨ret_v ?_, (Below.refl _ _).alloc (Nat.le_refl _) _⟩
    clear HN
    try simp only [bne_iff_ne, bne_eq_false_iff_eq, ne_eq] at *
    first
      | (refine verdict_ok ?_; unfold Keeps; simp; omega)
      | (refine verdict_ok ?_; unfold Keeps; simp; done)
      | (refine verdict_no ?_; unfold Keeps; simp; omega)
end Go.Proofs.YtjolojomgfcfbaaDoor
namespace Go.Proofs.YtjolojomgfcfbaaDoor
open Go.RowKit
set_option maxRecDepth 8000 in
/-- what a kind's row says of a key, and what the definition says of it, are the same -/
theorem okK_iff {k o c l r v : Int} (k0 : 0 ≤ k) (k1 : k ≤ 10) (A B C D : Bool) (m : Int) (ha : nA k = A) (hb : nB k = B) (hc : nC k = C) (hd : nD k = D) (hm : B = true → kRts k.toNat = m) : OkK k o c l r v ↔ Keeps A B C D m o c l r v := by
  subst ha hb hc hd
  obtain ⟨n, rfl⟩ := Int.eq_ofNat_of_zero_le k0
  have e : OkK (n : Int) o c l r v ↔ (0 ≤ o ∧ o ≤ kOid n ∧ 0 ≤ c ∧ c ≤ kCnt n ∧ 0 ≤ l ∧ l ≤ kCall n ∧ 0 ≤ r ∧ r ≤ kRts n ∧ (v = 0 ∨ kVal n = true)) := by
    constructor
    · rintro ⟨n', h, h0, h'⟩
      have : n' = n := by omega
      subst this
      exact h'
    · intro h
      exact ⟨n, rfl, by omega, h⟩
  rw [e]
  have hn : n ≤ 10 := by omega
  have hcase : n = 0 ∨ n = 1 ∨ n = 2 ∨ n = 3 ∨ n = 4 ∨ n = 5 ∨ n = 6 ∨ n = 7 ∨ n = 8 ∨ n = 9 ∨ n = 10 := by omega
  unfold Keeps
  rcases hcase with rfl | rfl | rfl | rfl | rfl | rfl | rfl | rfl | rfl | rfl | rfl <;> simp [nA, nB, nC, nD, kOid, kCnt, kCall, kRts, kVal] at hm ⊢ <;> omega
set_option maxRecDepth 8000 in
set_option maxHeartbeats 1000000 in
theorem rchk_noK (k o c l r v : Int) (w : World) (hk : k < 0 ∨ 10 < k) :
    Calls Tryd.prog 32 #[.agg #[.int .i64 k, .int .i64 o, .int .i64 c, .int .i64 l, .int .i64 r, .int .i64 v]] w fun e w' => e = .returned (.int .i64 2) ∧ Below w.heap.size w w' := by
  have HN : Hid (∀ w : World, Calls Tryd.prog 43 #[.int .i64 k] w fun e w' => e = .returned (.tuple #[.bool false, .bool false, .bool false, .bool false]) ∧ w = w') := by
    refine Lib.hid fun w => ?_
    have := names_any k w
    rw [show nA k = false by unfold nA; simp; omega, show nB k = false by unfold nB; simp; omega, show nC k = false by unfold nC; simp; omega, show nD k = false by unfold nD; simp; omega] at this
    exact this
  have d3 : (k == 3) = false := by simp; omega
  rcases hk with hk | hk
  · go_enter Tryd.func32, Tryd.ntmps32
    go_wp2_with (go_at_call 43; refine (HN.out _).mono ?_; rintro e w' ⟨rfl, rfl⟩)
    go_ret
    exact ⟨rfl, (Below.refl _ _).alloc (Nat.le_refl _) _⟩
  · have hk0 : ¬ k < 0 := by omega
    have d0 : decide (k < 0) = false := by simpa using hk0
    go_enter Tryd.func32, Tryd.ntmps32
    go_wp2_with (go_at_call 43; refine (HN.out _).mono ?_; rintro e w' ⟨rfl, rfl⟩)
    go_ret
    exact ⟨rfl, (Below.refl _ _).alloc (Nat.le_refl _) _⟩
set_option maxRecDepth 8000 in
theorem rchk_in (k o c l r v : Int) (w : World) (k0 : 0 ≤ k) (k1 : k ≤ 10) : ∃ n : Int, (OkK k o c l r v → n = 0) ∧ (¬ OkK k o c l r v → n = 2) ∧
    Calls Tryd.prog 32 #[.agg #[.int .i64 k, .int .i64 o, .int .i64 c, .int .i64 l, .int .i64 r, .int .i64 v]] w fun e w' => e = .returned (.int .i64 n) ∧ Below w.heap.size w w' := by
  have fin : ∀ (A B C D : Bool) (m : Int), nA k = A → nB k = B → nC k = C → nD k = D → (B = true → kRts k.toNat = m) → (Calls Tryd.prog 32 #[.agg #[.int .i64 k, .int .i64 o, .int .i64 c, .int .i64 l, .int .i64 r, .int .i64 v]] w fun e w' => e = .returned (.int .i64 (verdict A B C D m o c l r v)) ∧ Below w.heap.size w w') →
      ∃ n : Int, (OkK k o c l r v → n = 0) ∧ (¬ OkK k o c l r v → n = 2) ∧ Calls Tryd.prog 32 #[.agg #[.int .i64 k, .int .i64 o, .int .i64 c, .int .i64 l, .int .i64 r, .int .i64 v]] w fun e w' => e = .returned (.int .i64 n) ∧ Below w.heap.size w w' := by
    intro A B C D m ha hb hc hd hm hC
    have e := okK_iff (o := o) (c := c) (l := l) (r := r) (v := v) k0 k1 A B C D m ha hb hc hd hm
    exact ⟨_, fun h => (verdict_ok (e.1 h)).symm, fun h => (verdict_no (fun h' => h (e.2 h'))).symm, hC⟩
  have hcase : (k = 0 ∨ k = 8 ∨ k = 9 ∨ k = 10) ∨ k = 1 ∨ k = 2 ∨ k = 3 ∨ (k = 4 ∨ k = 5) ∨ k = 6 ∨ k = 7 := by omega
  rcases hcase with h | rfl | rfl | rfl | h | rfl | rfl
  · have ha : nA k = false := by unfold nA; simp; omega
    have hb : nB k = false := by unfold nB; simp; omega
    have hc : nC k = false := by unfold nC; simp; omega
    have hd : nD k = false := by unfold nD; simp; omega
    exact fin false false false false 0 ha hb hc hd (fun e => by cases e) (rchk_v0 k o c l r v w k0 k1 (by omega) ha hb hc hd)
  · exact fin false false false true 0 rfl rfl rfl rfl (fun e => by cases e) (rchk_v1 1 o c l r v w k0 k1 (by omega) rfl rfl rfl rfl)
  · exact fin true true false false 7 rfl rfl rfl rfl (fun _ => rfl) (rchk_v2 2 o c l r v w k0 k1 (by omega) rfl rfl rfl rfl)
  · exact fin true true false false 1 rfl rfl rfl rfl (fun _ => rfl) (rchk_v3 3 o c l r v w k0 k1 (by omega) rfl rfl rfl rfl)
  · have ha : nA k = true := by unfold nA; simp; omega
    have hb : nB k = false := by unfold nB; simp; omega
    have hc : nC k = false := by unfold nC; simp; omega
    have hd : nD k = false := by unfold nD; simp; omega
    exact fin true false false false 0 ha hb hc hd (fun e => by cases e) (rchk_v4 k o c l r v w k0 k1 (by omega) ha hb hc hd)
  · exact fin true false false true 0 rfl rfl rfl rfl (fun e => by cases e) (rchk_v6 6 o c l r v w k0 k1 (by omega) rfl rfl rfl rfl)
  · exact fin true false true false 0 rfl rfl rfl rfl (fun e => by cases e) (rchk_v7 7 o c l r v w k0 k1 (by omega) rfl rfl rfl rfl)
set_option maxRecDepth 8000 in
theorem okK_in {k o c l r v : Int} (h : OkK k o c l r v) : 0 ≤ k ∧ k ≤ 10 := by
  obtain ⟨n, rfl, h, _⟩ := h
  omega
set_option maxRecDepth 8000 in
theorem rchk_ok (k o c l r v : Int) (w : World) (h : OkK k o c l r v) :
    Calls Tryd.prog 32 #[.agg #[.int .i64 k, .int .i64 o, .int .i64 c, .int .i64 l, .int .i64 r, .int .i64 v]] w fun e w' => e = .returned (.int .i64 0) ∧ Below w.heap.size w w' := by
  obtain ⟨n, h1, _, h2⟩ := rchk_in k o c l r v w (okK_in h).1 (okK_in h).2
  rw [h1 h] at h2
  exact h2
set_option maxRecDepth 8000 in
theorem rchk_no (k o c l r v : Int) (w : World) (h : ¬ OkK k o c l r v) :
    Calls Tryd.prog 32 #[.agg #[.int .i64 k, .int .i64 o, .int .i64 c, .int .i64 l, .int .i64 r, .int .i64 v]] w fun e w' => e = .returned (.int .i64 2) ∧ Below w.heap.size w w' := by
  by_cases hk : k < 0 ∨ 10 < k
  · exact rchk_noK k o c l r v w hk
  · obtain ⟨n, _, h1, h2⟩ := rchk_in k o c l r v w (by omega) (by omega)
    rw [h1 h] at h2
    exact h2
end Go.Proofs.YtjolojomgfcfbaaDoor
namespace Go.Proofs.YtjolojomgfcfbaaDoor
open Go.RowKit
/-- what the walk wants behind a call that makes memory -/
theorem bcell {W w1 : World} (hb : Below W.heap.size W w1) : (∀ b o, b < W.heap.size → w1.cell? ⟨b, o, none⟩ = W.cell? ⟨b, o, none⟩) ∧ (∀ b o, b < W.heap.size → w1.frozen? ⟨b, o, none⟩ = W.frozen? ⟨b, o, none⟩) :=
  ⟨fun b o h => hb.cell (p := ⟨b, o, none⟩) h, fun b o h => hb.frozen (p := ⟨b, o, none⟩) h⟩
theorem below_box {w w1 : World} {x : Obj} (hb : Below (w.alloc x).heap.size (w.alloc x) w1) : Below w.heap.size w w1 := ((Below.refl _ _).alloc (Nat.le_refl _) _).trans (hb.mono (by simp))
set_option maxRecDepth 8000 in
set_option maxHeartbeats 1000000 in
theorem wants_no (k o c l r v : Int) (w : World) (hT : Tab w) (h : ¬ OkK k o c l r v) :
    Calls Tryd.prog 44 #[.agg #[.int .i64 k, .int .i64 o, .int .i64 c, .int .i64 l, .int .i64 r, .int .i64 v]] w fun e w' => e = .returned (.int .i64 0) ∧ Below w.heap.size w w' := by
  have HK := Lib.hid h
  have HT := Lib.hid hT
  clear h hT
  go_enter Tryd.func44, Tryd.ntmps44
  go_wp2_with (go_at_call 36; refine (chk_no _ _ _ _ _ _ _ (HT.out.alloc _) HK.out).mono ?_; rintro e w1 ⟨rfl, b1⟩; have HB := Lib.hid b1; clear b1)
  go_ret
  exact ⟨rfl, below_box HB.out⟩
set_option maxRecDepth 8000 in
set_option maxHeartbeats 1000000 in
theorem wants_ok (k : Nat) (o c l r v : Int) (w : World) (hT : Tab w) (h : OkK k o c l r v) :
    Calls Tryd.prog 44 #[.agg #[.int .i64 k, .int .i64 o, .int .i64 c, .int .i64 l, .int .i64 r, .int .i64 v]] w fun e w' => e = .returned (.int .i64 (kWants k)) ∧ Below w.heap.size w w' := by
  have hk : k ≤ 10 := by have := okK_in h; omega
  have z1 := (hT.row hk).z1
  have hg := hT.lt
  have HK := Lib.hid h
  have HT := Lib.hid hT
  clear h hT
  go_enter Tryd.func44, Tryd.ntmps44
  go_wp2_with (go_at_call 36; refine (chk_ok _ _ _ _ _ _ _ (HT.out.alloc _) HK.out).mono ?_; rintro e w1 ⟨rfl, b1⟩; obtain ⟨hc, hf⟩ := bcell b1; have HB := Lib.hid b1; clear b1)
  go_ret
  exact ⟨rfl, below_box HB.out⟩
set_option maxRecDepth 8000 in
theorem wants_any (k o c l r v : Int) (w : World) (hT : Tab w) (h : OkK k o c l r v) :
    Calls Tryd.prog 44 #[.agg #[.int .i64 k, .int .i64 o, .int .i64 c, .int .i64 l, .int .i64 r, .int .i64 v]] w fun e w' => e = .returned (.int .i64 (kWants k.toNat)) ∧ Below w.heap.size w w' := by
  obtain ⟨n, rfl⟩ := Int.eq_ofNat_of_zero_le (okK_in h).1
  exact wants_ok n o c l r v w hT h
set_option maxRecDepth 8000 in
set_option maxHeartbeats 1000000 in
theorem kn_no (k o c l r v : Int) (w : World) (hT : Tab w) (h : ¬ OkK k o c l r v) :
    Calls Tryd.prog 34 #[.agg #[.int .i64 k, .int .i64 o, .int .i64 c, .int .i64 l, .int .i64 r, .int .i64 v]] w fun e w' => e = .returned (.tuple #[.int .i64 0, .bool false]) ∧ Below w.heap.size w w' := by
  have HK := Lib.hid h
  have HT := Lib.hid hT
  clear h hT
  go_enter Tryd.func34, Tryd.ntmps34
  go_wp2_with (go_at_call 44; refine (wants_no _ _ _ _ _ _ _ (HT.out.alloc _) HK.out).mono ?_; rintro e w1 ⟨rfl, b1⟩; have HB := Lib.hid b1; clear b1)
  go_ret2
  exact ⟨rfl, below_box HB.out⟩
set_option maxRecDepth 8000 in
set_option maxHeartbeats 1000000 in
theorem kn_none (k o c l r v : Int) (w : World) (hT : Tab w) (h : OkK k o c l r v) (ha : kWants k.toNat = 0) :
    Calls Tryd.prog 34 #[.agg #[.int .i64 k, .int .i64 o, .int .i64 c, .int .i64 l, .int .i64 r, .int .i64 v]] w fun e w' => e = .returned (.tuple #[.int .i64 0, .bool false]) ∧ Below w.heap.size w w' := by
  have HK := Lib.hid h
  have HT := Lib.hid hT
  have HA := Lib.hid ha
  clear h hT ha
  go_enter Tryd.func34, Tryd.ntmps34
  go_wp2_with (go_at_call 44; refine (wants_any _ _ _ _ _ _ _ (HT.out.alloc _) HK.out).mono ?_; rw [HA.out]; rintro e w1 ⟨rfl, b1⟩; have HB := Lib.hid b1; clear b1)
  go_ret2
  exact ⟨rfl, below_box HB.out⟩
set_option maxRecDepth 8000 in
set_option maxHeartbeats 1000000 in
theorem kn_some (k o c l r v : Int) (w : World) (hT : Tab w) (h : OkK k o c l r v) (ha : kWants k.toNat ≠ 0) :
    Calls Tryd.prog 34 #[.agg #[.int .i64 k, .int .i64 o, .int .i64 c, .int .i64 l, .int .i64 r, .int .i64 v]] w fun e w' => e = .returned (.tuple #[.int .i64 o, .bool true]) ∧ Below w.heap.size w w' := by
  have HK := Lib.hid h
  have HT := Lib.hid hT
  obtain ⟨n, hn⟩ : ∃ n, n = kWants k.toNat := ⟨_, rfl⟩
  have d1 : (n == 0) = false := by rw [hn]; simpa using ha
  have HA := Lib.hid hn
  clear h hT ha hn
  go_enter Tryd.func34, Tryd.ntmps34
  go_wp2_with (go_at_call 44; refine (wants_any _ _ _ _ _ _ _ (HT.out.alloc _) HK.out).mono ?_; rw [← HA.out]; rintro e w1 ⟨rfl, b1⟩; obtain ⟨hc, hf⟩ := bcell b1; have HB := Lib.hid b1; clear b1)
  go_ret2
  exact ⟨rfl, below_box HB.out⟩
set_option maxRecDepth 8000 in
set_option maxHeartbeats 1000000 in
theorem rn_no (k o c l r v : Int) (w : World) (h : ¬ OkK k o c l r v) :
    Calls Tryd.prog 33 #[.agg #[.int .i64 k, .int .i64 o, .int .i64 c, .int .i64 l, .int .i64 r, .int .i64 v]] w fun e w' => e = .returned (.int .i64 (-1)) ∧ Below w.heap.size w w' := by
  have HK := Lib.hid h
  clear h
  go_enter Tryd.func33, Tryd.ntmps33
  go_wp2_with (first
    | (go_at_call 43; refine (names_any _ _).mono ?_; rintro e w' ⟨rfl, rfl⟩)
    | (go_at_call 32; refine (rchk_no _ _ _ _ _ _ _ HK.out).mono ?_; rintro e w1 ⟨rfl, b1⟩; have HB := Lib.hid b1; clear b1))
  go_ret
  exact ⟨rfl, below_box HB.out⟩
set_option maxRecDepth 8000 in
set_option maxHeartbeats 1000000 in
theorem rn_none (k o c l r v : Int) (w : World) (h : OkK k o c l r v) (ha : nA k = false) :
    Calls Tryd.prog 33 #[.agg #[.int .i64 k, .int .i64 o, .int .i64 c, .int .i64 l, .int .i64 r, .int .i64 v]] w fun e w' => e = .returned (.int .i64 (-1)) ∧ Below w.heap.size w w' := by
  have HK := Lib.hid h
  have HA := Lib.hid ha
  clear h ha
  go_enter Tryd.func33, Tryd.ntmps33
  go_wp2_with (first
    | (go_at_call 43; refine (names_any _ _).mono ?_; rw [HA.out]; rintro e w' ⟨rfl, rfl⟩)
    | (go_at_call 32; refine (rchk_ok _ _ _ _ _ _ _ HK.out).mono ?_; rintro e w1 ⟨rfl, b1⟩; obtain ⟨hc, hf⟩ := bcell b1; have HB := Lib.hid b1; clear b1))
  go_ret
  exact ⟨rfl, below_box HB.out⟩
set_option maxRecDepth 8000 in
set_option maxHeartbeats 1000000 in
theorem rn_some (k o c l r v : Int) (w : World) (h : OkK k o c l r v) (ha : nA k = true) :
    Calls Tryd.prog 33 #[.agg #[.int .i64 k, .int .i64 o, .int .i64 c, .int .i64 l, .int .i64 r, .int .i64 v]] w fun e w' => e = .returned (.int .i64 o) ∧ Below w.heap.size w w' := by
  have HK := Lib.hid h
  have HA := Lib.hid ha
  clear h ha
  go_enter Tryd.func33, Tryd.ntmps33
  go_wp2_with (first
    | (go_at_call 43; refine (names_any _ _).mono ?_; rw [HA.out]; rintro e w' ⟨rfl, rfl⟩)
    | (go_at_call 32; refine (rchk_ok _ _ _ _ _ _ _ HK.out).mono ?_; rintro e w1 ⟨rfl, b1⟩; obtain ⟨hc, hf⟩ := bcell b1; have HB := Lib.hid b1; clear b1))
  go_ret
  exact ⟨rfl, below_box HB.out⟩
end Go.Proofs.YtjolojomgfcfbaaDoor

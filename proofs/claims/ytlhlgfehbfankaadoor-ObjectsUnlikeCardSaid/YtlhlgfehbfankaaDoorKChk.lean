/- keys.Check: for every key. -/
import Derived.Test.YtlhlgfehbfankaaDoorKUp
import Derived.Test.YtlhlgfehbfankaaDoorKDef
namespace Go.Proofs.YtlhlgfehbfankaaDoor
open Go.RowKit
/-- the cells of one kind -/
structure Row7 (w : World) (k : Nat) (nm : ByteArray) (W O C L R : Int) (V : Bool) : Prop where
  z0 : w.cell? ⟨0, k * 7, none⟩ = some (.string nm)
  z1 : w.cell? ⟨0, k * 7 + 1, none⟩ = some (.int .i64 W)
  z2 : w.cell? ⟨0, k * 7 + 2, none⟩ = some (.int .i64 O)
  z3 : w.cell? ⟨0, k * 7 + 3, none⟩ = some (.int .i64 C)
  z4 : w.cell? ⟨0, k * 7 + 4, none⟩ = some (.int .i64 L)
  z5 : w.cell? ⟨0, k * 7 + 5, none⟩ = some (.int .i64 R)
  z6 : w.cell? ⟨0, k * 7 + 6, none⟩ = some (.bool V)
  lt : 0 < w.heap.size
theorem Tab.row {w : World} (h : Tab w) {k : Nat} (hk : k ≤ 10) : Row7 w k (st (kName k)) (kWants k) (kOid k) (kCnt k) (kCall k) (kRts k) (kVal k) :=
  ⟨h k hk 0 _ rfl, h k hk 1 _ rfl, h k hk 2 _ rfl, h k hk 3 _ rfl, h k hk 4 _ rfl, h k hk 5 _ rfl, h k hk 6 _ rfl, h.lt⟩
abbrev ky (k o c l r v : Int) : Value := .agg #[.int .i64 k, .int .i64 o, .int .i64 c, .int .i64 l, .int .i64 r, .int .i64 v]
set_option maxHeartbeats 1000000 in
theorem chk_ok0 (k : Nat) (o c l r v : Int) (w : World) (hk : k ≤ 10) (W O C L R : Int) (V : Bool) (nm : ByteArray) (z : Row7 w k nm W O C L R V) (ho : 0 ≤ o) (ho' : o ≤ O) (hc : 0 ≤ c) (hc' : c ≤ C) (hl : 0 ≤ l) (hl' : l ≤ L) (hr : 0 ≤ r) (hr' : r ≤ R) (hv : v = 0) :
    Calls Tryd.prog 46 #[.agg #[.int .i64 k, .int .i64 o, .int .i64 c, .int .i64 l, .int .i64 r, .int .i64 v]] w fun e w' => e = .returned (.int .i64 0) ∧ Below w.heap.size w w' := by
  obtain ⟨z0, z1, z2, z3, z4, z5, z6, hg⟩ := z
  subst hv
  go_enter Tryd.func46, Tryd.ntmps46
  go_wp2_with (first
    | (go_at_call 48; refine (upI_yes _ _ _ (by omega) (by omega)).mono ?_; rintro e w' ⟨rfl, rfl⟩)
    | (go_at_call 49; refine (upJ_yes _ _ _ (by omega) (by omega)).mono ?_; rintro e w' ⟨rfl, rfl⟩)
    | (go_at_call 50; refine (upR_yes _ _ _ (by omega) (by omega)).mono ?_; rintro e w' ⟨rfl, rfl⟩))
  go_ret
  exact ⟨rfl, ((Below.refl _ _).alloc (Nat.le_refl _) _).alloc (by simp) _⟩
set_option maxHeartbeats 1000000 in
theorem chk_okV (k : Nat) (o c l r v : Int) (w : World) (hk : k ≤ 10) (W O C L R : Int) (V : Bool) (nm : ByteArray) (z : Row7 w k nm W O C L R V) (ho : 0 ≤ o) (ho' : o ≤ O) (hc : 0 ≤ c) (hc' : c ≤ C) (hl : 0 ≤ l) (hl' : l ≤ L) (hr : 0 ≤ r) (hr' : r ≤ R) (hv : V = true) :
    Calls Tryd.prog 46 #[.agg #[.int .i64 k, .int .i64 o, .int .i64 c, .int .i64 l, .int .i64 r, .int .i64 v]] w fun e w' => e = .returned (.int .i64 0) ∧ Below w.heap.size w w' := by
  obtain ⟨z0, z1, z2, z3, z4, z5, z6, hg⟩ := z
  subst hv
  by_cases hv : v = 0
  · exact chk_ok0 k o c l r v w hk W O C L R true nm ⟨z0, z1, z2, z3, z4, z5, z6, hg⟩ ho ho' hc hc' hl hl' hr hr' hv
  have d1 : (v != 0) = true := by simpa using hv
  go_enter Tryd.func46, Tryd.ntmps46
  go_wp2_with (first
    | (go_at_call 48; refine (upI_yes _ _ _ (by omega) (by omega)).mono ?_; rintro e w' ⟨rfl, rfl⟩)
    | (go_at_call 49; refine (upJ_yes _ _ _ (by omega) (by omega)).mono ?_; rintro e w' ⟨rfl, rfl⟩)
    | (go_at_call 50; refine (upR_yes _ _ _ (by omega) (by omega)).mono ?_; rintro e w' ⟨rfl, rfl⟩))
  go_ret
  exact ⟨rfl, ((Below.refl _ _).alloc (Nat.le_refl _) _).alloc (by simp) _⟩
set_option maxHeartbeats 1000000 in
theorem chk_noV (k : Nat) (o c l r v : Int) (w : World) (hk : k ≤ 10) (W O C L R : Int) (V : Bool) (nm : ByteArray) (z : Row7 w k nm W O C L R V) (ho : 0 ≤ o) (ho' : o ≤ O) (hc : 0 ≤ c) (hc' : c ≤ C) (hl : 0 ≤ l) (hl' : l ≤ L) (hr : 0 ≤ r) (hr' : r ≤ R) (hv : v ≠ 0) (hV : V = false) :
    Calls Tryd.prog 46 #[.agg #[.int .i64 k, .int .i64 o, .int .i64 c, .int .i64 l, .int .i64 r, .int .i64 v]] w fun e w' => e = .returned (.int .i64 2) ∧ Below w.heap.size w w' := by
  obtain ⟨z0, z1, z2, z3, z4, z5, z6, hg⟩ := z
  subst hV
  have d1 : (v != 0) = true := by simpa using hv
  go_enter Tryd.func46, Tryd.ntmps46
  go_wp2_with (first
    | (go_at_call 48; refine (upI_yes _ _ _ (by omega) (by omega)).mono ?_; rintro e w' ⟨rfl, rfl⟩)
    | (go_at_call 49; refine (upJ_yes _ _ _ (by omega) (by omega)).mono ?_; rintro e w' ⟨rfl, rfl⟩)
    | (go_at_call 50; refine (upR_yes _ _ _ (by omega) (by omega)).mono ?_; rintro e w' ⟨rfl, rfl⟩))
  go_ret
  exact ⟨rfl, ((Below.refl _ _).alloc (Nat.le_refl _) _).alloc (by simp) _⟩
set_option maxHeartbeats 1000000 in
theorem chk_noR (k : Nat) (o c l r v : Int) (w : World) (hk : k ≤ 10) (W O C L R : Int) (V : Bool) (nm : ByteArray) (z : Row7 w k nm W O C L R V) (ho : 0 ≤ o) (ho' : o ≤ O) (hc : 0 ≤ c) (hc' : c ≤ C) (hl : 0 ≤ l) (hl' : l ≤ L) (hr : r < 0 ∨ R < r) :
    Calls Tryd.prog 46 #[.agg #[.int .i64 k, .int .i64 o, .int .i64 c, .int .i64 l, .int .i64 r, .int .i64 v]] w fun e w' => e = .returned (.int .i64 2) ∧ Below w.heap.size w w' := by
  obtain ⟨z0, z1, z2, z3, z4, z5, z6, hg⟩ := z
  go_enter Tryd.func46, Tryd.ntmps46
  go_wp2_with (first
    | (go_at_call 48; refine (upI_yes _ _ _ (by omega) (by omega)).mono ?_; rintro e w' ⟨rfl, rfl⟩)
    | (go_at_call 49; refine (upJ_yes _ _ _ (by omega) (by omega)).mono ?_; rintro e w' ⟨rfl, rfl⟩)
    | (go_at_call 50; refine (upR_no _ _ _ (by omega)).mono ?_; rintro e w' ⟨rfl, rfl⟩))
  go_ret
  exact ⟨rfl, ((Below.refl _ _).alloc (Nat.le_refl _) _).alloc (by simp) _⟩
set_option maxHeartbeats 1000000 in
theorem chk_noL (k : Nat) (o c l r v : Int) (w : World) (hk : k ≤ 10) (W O C L R : Int) (V : Bool) (nm : ByteArray) (z : Row7 w k nm W O C L R V) (ho : 0 ≤ o) (ho' : o ≤ O) (hc : 0 ≤ c) (hc' : c ≤ C) (hl : l < 0 ∨ L < l) :
    Calls Tryd.prog 46 #[.agg #[.int .i64 k, .int .i64 o, .int .i64 c, .int .i64 l, .int .i64 r, .int .i64 v]] w fun e w' => e = .returned (.int .i64 2) ∧ Below w.heap.size w w' := by
  obtain ⟨z0, z1, z2, z3, z4, z5, z6, hg⟩ := z
  go_enter Tryd.func46, Tryd.ntmps46
  go_wp2_with (first
    | (go_at_call 48; refine (upI_yes _ _ _ (by omega) (by omega)).mono ?_; rintro e w' ⟨rfl, rfl⟩)
    | (first | (go_at_call 49; refine (upJ_yes _ _ _ (by omega) (by omega)).mono ?_; rintro e w' ⟨rfl, rfl⟩) | (go_at_call 49; refine (upJ_no _ _ _ (by omega)).mono ?_; rintro e w' ⟨rfl, rfl⟩)))
  go_ret
  exact ⟨rfl, ((Below.refl _ _).alloc (Nat.le_refl _) _).alloc (by simp) _⟩
set_option maxHeartbeats 1000000 in
theorem chk_noC (k : Nat) (o c l r v : Int) (w : World) (hk : k ≤ 10) (W O C L R : Int) (V : Bool) (nm : ByteArray) (z : Row7 w k nm W O C L R V) (ho : 0 ≤ o) (ho' : o ≤ O) (hc : c < 0 ∨ C < c) :
    Calls Tryd.prog 46 #[.agg #[.int .i64 k, .int .i64 o, .int .i64 c, .int .i64 l, .int .i64 r, .int .i64 v]] w fun e w' => e = .returned (.int .i64 2) ∧ Below w.heap.size w w' := by
  obtain ⟨z0, z1, z2, z3, z4, z5, z6, hg⟩ := z
  go_enter Tryd.func46, Tryd.ntmps46
  go_wp2_with (first
    | (go_at_call 48; refine (upI_yes _ _ _ (by omega) (by omega)).mono ?_; rintro e w' ⟨rfl, rfl⟩)
    | (go_at_call 49; refine (upJ_no _ _ _ (by omega)).mono ?_; rintro e w' ⟨rfl, rfl⟩))
  go_ret
  exact ⟨rfl, ((Below.refl _ _).alloc (Nat.le_refl _) _).alloc (by simp) _⟩
set_option maxHeartbeats 1000000 in
theorem chk_noO (k : Nat) (o c l r v : Int) (w : World) (hk : k ≤ 10) (W O C L R : Int) (V : Bool) (nm : ByteArray) (z : Row7 w k nm W O C L R V) (ho : o < 0 ∨ O < o) :
    Calls Tryd.prog 46 #[.agg #[.int .i64 k, .int .i64 o, .int .i64 c, .int .i64 l, .int .i64 r, .int .i64 v]] w fun e w' => e = .returned (.int .i64 2) ∧ Below w.heap.size w w' := by
  obtain ⟨z0, z1, z2, z3, z4, z5, z6, hg⟩ := z
  go_enter Tryd.func46, Tryd.ntmps46
  go_wp2_with (first
    | (first | (go_at_call 48; refine (upI_yes _ _ _ (by omega) (by omega)).mono ?_; rintro e w' ⟨rfl, rfl⟩) | (go_at_call 48; refine (upI_no _ _ _ (by omega)).mono ?_; rintro e w' ⟨rfl, rfl⟩)))
  go_ret
  exact ⟨rfl, ((Below.refl _ _).alloc (Nat.le_refl _) _).alloc (by simp) _⟩
set_option maxHeartbeats 1000000 in
theorem chk_noK (k o c l r v : Int) (w : World) (hk : k < 0 ∨ 10 < k) :
    Calls Tryd.prog 46 #[.agg #[.int .i64 k, .int .i64 o, .int .i64 c, .int .i64 l, .int .i64 r, .int .i64 v]] w fun e w' => e = .returned (.int .i64 2) ∧ Below w.heap.size w w' := by
  go_enter Tryd.func46, Tryd.ntmps46
  go_wp2_with (go_at_call 48; refine (upI_no _ _ _ (by omega)).mono ?_; rintro e w' ⟨rfl, rfl⟩)
  go_ret
  exact ⟨rfl, (Below.refl _ _).alloc (Nat.le_refl _) _⟩
/-- a key may be -/
def OkK (k o c l r v : Int) : Prop := ∃ n : Nat, k = n ∧ n ≤ 10 ∧ 0 ≤ o ∧ o ≤ kOid n ∧ 0 ≤ c ∧ c ≤ kCnt n ∧ 0 ≤ l ∧ l ≤ kCall n ∧ 0 ≤ r ∧ r ≤ kRts n ∧ (v = 0 ∨ kVal n = true)
theorem chk_ok (k o c l r v : Int) (w : World) (hT : Tab w) (h : OkK k o c l r v) :
    Calls Tryd.prog 46 #[.agg #[.int .i64 k, .int .i64 o, .int .i64 c, .int .i64 l, .int .i64 r, .int .i64 v]] w fun e w' => e = .returned (.int .i64 0) ∧ Below w.heap.size w w' := by
  obtain ⟨n, rfl, hn, h1, h2, h3, h4, h5, h6, h7, h8, h9⟩ := h
  rcases h9 with h9 | h9
  · exact chk_ok0 n o c l r v w hn _ _ _ _ _ _ _ (hT.row hn) h1 h2 h3 h4 h5 h6 h7 h8 h9
  · exact chk_okV n o c l r v w hn _ _ _ _ _ _ _ (hT.row hn) h1 h2 h3 h4 h5 h6 h7 h8 h9
theorem chk_no (k o c l r v : Int) (w : World) (hT : Tab w) (h : ¬ OkK k o c l r v) :
    Calls Tryd.prog 46 #[.agg #[.int .i64 k, .int .i64 o, .int .i64 c, .int .i64 l, .int .i64 r, .int .i64 v]] w fun e w' => e = .returned (.int .i64 2) ∧ Below w.heap.size w w' := by
  by_cases hk : k < 0 ∨ 10 < k
  · exact chk_noK k o c l r v w hk
  obtain ⟨n, rfl⟩ := Int.eq_ofNat_of_zero_le (show 0 ≤ k by omega)
  have hn : n ≤ 10 := by omega
  by_cases ho : 0 ≤ o ∧ o ≤ kOid n
  · by_cases hc : 0 ≤ c ∧ c ≤ kCnt n
    · by_cases hl : 0 ≤ l ∧ l ≤ kCall n
      · by_cases hr : 0 ≤ r ∧ r ≤ kRts n
        · by_cases hv : v = 0 ∨ kVal n = true
          · exact absurd ⟨n, rfl, hn, ho.1, ho.2, hc.1, hc.2, hl.1, hl.2, hr.1, hr.2, hv⟩ h
          · exact chk_noV n o c l r v w hn _ _ _ _ _ _ _ (hT.row hn) ho.1 ho.2 hc.1 hc.2 hl.1 hl.2 hr.1 hr.2 (fun e => hv (.inl e)) (by cases hV : kVal n; rfl; exact absurd (.inr hV) hv)
        · exact chk_noR n o c l r v w hn _ _ _ _ _ _ _ (hT.row hn) ho.1 ho.2 hc.1 hc.2 hl.1 hl.2 (by omega)
      · exact chk_noL n o c l r v w hn _ _ _ _ _ _ _ (hT.row hn) ho.1 ho.2 hc.1 hc.2 (by omega)
    · exact chk_noC n o c l r v w hn _ _ _ _ _ _ _ (hT.row hn) ho.1 ho.2 (by omega)
  · exact chk_noO n o c l r v w hn _ _ _ _ _ _ _ (hT.row hn) (by omega)
end Go.Proofs.YtlhlgfehbfankaaDoor

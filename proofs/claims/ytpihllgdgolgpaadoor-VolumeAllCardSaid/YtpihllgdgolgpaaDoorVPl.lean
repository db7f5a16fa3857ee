/- volume: which place is which sector: plain words. -/
import Derived.Test.YtpihllgdgolgpaaDoorVEq
import Derived.Test.YtpihllgdgolgpaaDoorVTab
namespace Go.Proofs.YtpihllgdgolgpaaDoor
open Go.RowKit
def sptF : List Pt → Int → Sp × Int
  | [], _ => (⟨0, 0, 0⟩, 4)
  | r :: l, s => if s < r.f then (⟨0, 0, 0⟩, 4) else if s < r.t then (⟨r.k, r.a, s - r.f⟩, 0) else sptF l s
theorem sptF_eq : ∀ (l : List Pt) (s : Int), (pofF l s = none → sptF l s = (⟨0, 0, 0⟩, 4)) ∧ ∀ r, pofF l s = some r → sptF l s = (⟨r.k, r.a, s - r.f⟩, 0)
  | [], s => ⟨fun _ => rfl, fun r h => by cases h⟩
  | q :: l, s => by
    rw [pofF, sptF]
    by_cases h1 : s < q.f
    · rw [if_pos h1, if_pos h1]
      exact ⟨fun _ => rfl, fun r h => (by cases h)⟩
    · rw [if_neg h1, if_neg h1]
      by_cases h2 : s < q.t
      · rw [if_pos h2, if_pos h2]
        exact ⟨fun h => (by cases h), fun r h => (by cases h; rfl)⟩
      · rw [if_neg h2, if_neg h2]
        exact sptF_eq l s
set_option maxRecDepth 8000 in
theorem sptP_F (n s : Int) (h : 1 ≤ n ∧ n ≤ 64) : sptP n s = sptF (partsL n) s := by
  unfold sptP
  rw [if_pos h]
  cases hp : pofF (partsL n) s with
  | none => exact ((sptF_eq _ _).1 hp).symm
  | some r => exact ((sptF_eq _ _).2 r hp).symm
set_option maxRecDepth 8000 in
theorem plc_head (n m : Nat) (h : m < 2) : plc n m = ⟨1, 0, m⟩ := by
  unfold plc
  rw [if_pos h]
set_option maxRecDepth 8000 in
theorem sptF_skip {r : Pt} {l : List Pt} {s : Int} (h1 : ¬ s < r.f) (h2 : ¬ s < r.t) : sptF (r :: l) s = sptF l s := by rw [sptF, if_neg h1, if_neg h2]
set_option maxRecDepth 8000 in
theorem sptF_hit {r : Pt} {l : List Pt} {s : Int} (h1 : ¬ s < r.f) (h2 : s < r.t) : sptF (r :: l) s = (⟨r.k, r.a, s - r.f⟩, 0) := by rw [sptF, if_neg h1, if_pos h2]
set_option maxRecDepth 8000 in
theorem sptF_low {r : Pt} {l : List Pt} {s : Int} (h1 : s < r.f) : sptF (r :: l) s = (⟨0, 0, 0⟩, 4) := by rw [sptF, if_pos h1]
set_option maxRecDepth 8000 in
/-- the answer of Spot is the document's place -/
theorem sptP_in (n i : Nat) (h : 1 ≤ n ∧ n ≤ 64) (hi : i < 20 + 3 * n) : sptP n i = (plc n i, 0) := by
  rw [sptP_F _ _ (show 1 ≤ (n : Int) ∧ (n : Int) ≤ 64 by omega), partsL]
  rcases Nat.lt_or_ge i (2) with h0 | h0
  · rw [sptF_hit (show ¬ (i : Int) < 0 by omega) (show (i : Int) < 2 by omega), plc_head n i h0]
    exact Prod.ext (Sp.ext ⟨rfl, rfl, by simp only; omega⟩) rfl
  rcases Nat.lt_or_ge i (3) with h1 | h1
  · rw [sptF_skip (show ¬ (i : Int) < 0 by omega) (show ¬ (i : Int) < 2 by omega), sptF_hit (show ¬ (i : Int) < 2 by omega) (show (i : Int) < 3 by omega), plc_log0 n i (by omega)]
    exact Prod.ext (Sp.ext ⟨rfl, rfl, by simp only; omega⟩) rfl
  rcases Nat.lt_or_ge i (11) with h2 | h2
  · rw [sptF_skip (show ¬ (i : Int) < 0 by omega) (show ¬ (i : Int) < 2 by omega), sptF_skip (show ¬ (i : Int) < 2 by omega) (show ¬ (i : Int) < 3 by omega), sptF_hit (show ¬ (i : Int) < 3 by omega) (show (i : Int) < 11 by omega), plc_st0 n i (i - 3) (by omega) (by omega)]
    exact Prod.ext (Sp.ext ⟨rfl, rfl, by simp only; omega⟩) rfl
  rcases Nat.lt_or_ge i (11 + n) with h3 | h3
  · rw [sptF_skip (show ¬ (i : Int) < 0 by omega) (show ¬ (i : Int) < 2 by omega), sptF_skip (show ¬ (i : Int) < 2 by omega) (show ¬ (i : Int) < 3 by omega), sptF_skip (show ¬ (i : Int) < 3 by omega) (show ¬ (i : Int) < 11 by omega), sptF_hit (show ¬ (i : Int) < 11 by omega) (show (i : Int) < 11 + (n : Int) by omega), plc_fr0 n i (i - 11) (by omega) (by omega)]
    exact Prod.ext (Sp.ext ⟨rfl, rfl, by simp only; omega⟩) rfl
  rcases Nat.lt_or_ge i (12 + n) with h4 | h4
  · rw [sptF_skip (show ¬ (i : Int) < 0 by omega) (show ¬ (i : Int) < 2 by omega), sptF_skip (show ¬ (i : Int) < 2 by omega) (show ¬ (i : Int) < 3 by omega), sptF_skip (show ¬ (i : Int) < 3 by omega) (show ¬ (i : Int) < 11 by omega), sptF_skip (show ¬ (i : Int) < 11 by omega) (show ¬ (i : Int) < 11 + (n : Int) by omega), sptF_hit (show ¬ (i : Int) < 11 + (n : Int) by omega) (show (i : Int) < 12 + (n : Int) by omega), plc_log1 n i (by omega)]
    exact Prod.ext (Sp.ext ⟨rfl, rfl, by simp only; omega⟩) rfl
  rcases Nat.lt_or_ge i (20 + n) with h5 | h5
  · rw [sptF_skip (show ¬ (i : Int) < 0 by omega) (show ¬ (i : Int) < 2 by omega), sptF_skip (show ¬ (i : Int) < 2 by omega) (show ¬ (i : Int) < 3 by omega), sptF_skip (show ¬ (i : Int) < 3 by omega) (show ¬ (i : Int) < 11 by omega), sptF_skip (show ¬ (i : Int) < 11 by omega) (show ¬ (i : Int) < 11 + (n : Int) by omega), sptF_skip (show ¬ (i : Int) < 11 + (n : Int) by omega) (show ¬ (i : Int) < 12 + (n : Int) by omega), sptF_hit (show ¬ (i : Int) < 12 + (n : Int) by omega) (show (i : Int) < 20 + (n : Int) by omega), plc_st1 n i (i - 12 - n) (by omega) (by omega)]
    exact Prod.ext (Sp.ext ⟨rfl, rfl, by simp only; omega⟩) rfl
  rcases Nat.lt_or_ge i (20 + 2 * n) with h6 | h6
  · rw [sptF_skip (show ¬ (i : Int) < 0 by omega) (show ¬ (i : Int) < 2 by omega), sptF_skip (show ¬ (i : Int) < 2 by omega) (show ¬ (i : Int) < 3 by omega), sptF_skip (show ¬ (i : Int) < 3 by omega) (show ¬ (i : Int) < 11 by omega), sptF_skip (show ¬ (i : Int) < 11 by omega) (show ¬ (i : Int) < 11 + (n : Int) by omega), sptF_skip (show ¬ (i : Int) < 11 + (n : Int) by omega) (show ¬ (i : Int) < 12 + (n : Int) by omega), sptF_skip (show ¬ (i : Int) < 12 + (n : Int) by omega) (show ¬ (i : Int) < 20 + (n : Int) by omega), sptF_hit (show ¬ (i : Int) < 20 + (n : Int) by omega) (show (i : Int) < 20 + 2 * (n : Int) by omega), plc_fr1 n i (i - 20 - n) (by omega) (by omega)]
    exact Prod.ext (Sp.ext ⟨rfl, rfl, by simp only; omega⟩) rfl
  · rw [sptF_skip (show ¬ (i : Int) < 0 by omega) (show ¬ (i : Int) < 2 by omega), sptF_skip (show ¬ (i : Int) < 2 by omega) (show ¬ (i : Int) < 3 by omega), sptF_skip (show ¬ (i : Int) < 3 by omega) (show ¬ (i : Int) < 11 by omega), sptF_skip (show ¬ (i : Int) < 11 by omega) (show ¬ (i : Int) < 11 + (n : Int) by omega), sptF_skip (show ¬ (i : Int) < 11 + (n : Int) by omega) (show ¬ (i : Int) < 12 + (n : Int) by omega), sptF_skip (show ¬ (i : Int) < 12 + (n : Int) by omega) (show ¬ (i : Int) < 20 + (n : Int) by omega), sptF_skip (show ¬ (i : Int) < 20 + (n : Int) by omega) (show ¬ (i : Int) < 20 + 2 * (n : Int) by omega), sptF_hit (show ¬ (i : Int) < 20 + 2 * (n : Int) by omega) (show (i : Int) < 20 + 3 * (n : Int) by omega), plc_home n i (i - 20 - 2 * n) (by omega) (by omega)]
    exact Prod.ext (Sp.ext ⟨rfl, rfl, by simp only; omega⟩) rfl
set_option maxRecDepth 8000 in
theorem sptP_out (n : Nat) (s : Int) (h : 1 ≤ n ∧ n ≤ 64) (hs : s < 0 ∨ 20 + 3 * (n : Int) ≤ s) : sptP n s = (⟨0, 0, 0⟩, 4) := by
  rw [sptP_F _ _ (show 1 ≤ (n : Int) ∧ (n : Int) ≤ 64 by omega), partsL]
  rcases hs with hs | hs
  · exact sptF_low hs
  · rw [sptF_skip (show ¬ s < 0 by omega) (show ¬ s < 2 by omega), sptF_skip (show ¬ s < 2 by omega) (show ¬ s < 3 by omega), sptF_skip (show ¬ s < 3 by omega) (show ¬ s < 11 by omega), sptF_skip (show ¬ s < 11 by omega) (show ¬ s < 11 + (n : Int) by omega), sptF_skip (show ¬ s < 11 + (n : Int) by omega) (show ¬ s < 12 + (n : Int) by omega), sptF_skip (show ¬ s < 12 + (n : Int) by omega) (show ¬ s < 20 + (n : Int) by omega), sptF_skip (show ¬ s < 20 + (n : Int) by omega) (show ¬ s < 20 + 2 * (n : Int) by omega), sptF_skip (show ¬ s < 20 + 2 * (n : Int) by omega) (show ¬ s < 20 + 3 * (n : Int) by omega)]
    rfl
set_option maxRecDepth 8000 in
theorem sptP_no (n s : Int) (h : ¬ (1 ≤ n ∧ n ≤ 64)) : sptP n s = (⟨0, 0, 0⟩, 2) := by
  unfold sptP
  rw [if_neg h]
set_option maxRecDepth 8000 in
theorem may_cases {k a t : Int} (h : mayP ⟨k, a, t⟩) : (k = 1 ∧ a = 0) ∨ (k = 2 ∧ a = 0 ∧ t = 0) ∨ (k = 2 ∧ a = 1 ∧ t = 0) ∨ (k = 3 ∧ a = 0) ∨ (k = 3 ∧ a = 1) ∨ (k = 4 ∧ a = 0) ∨ (k = 4 ∧ a = 1) ∨ (k = 5 ∧ a = 0) := by
  have := (mayP_mk _ _ _).1 h
  omega
set_option maxRecDepth 8000 in
theorem b10 (n t : Int) : bndF (partsL n) ⟨1, 0, t⟩ = (0, 2) := by simp [bndF, partsL]
set_option maxRecDepth 8000 in
theorem b20 (n t : Int) : bndF (partsL n) ⟨2, 0, t⟩ = (2, 3) := by simp [bndF, partsL]
set_option maxRecDepth 8000 in
theorem b30 (n t : Int) : bndF (partsL n) ⟨3, 0, t⟩ = (3, 11) := by simp [bndF, partsL]
set_option maxRecDepth 8000 in
theorem b40 (n t : Int) : bndF (partsL n) ⟨4, 0, t⟩ = (11, 11 + n) := by simp [bndF, partsL]
set_option maxRecDepth 8000 in
theorem b21 (n t : Int) : bndF (partsL n) ⟨2, 1, t⟩ = (11 + n, 12 + n) := by simp [bndF, partsL]
set_option maxRecDepth 8000 in
theorem b31 (n t : Int) : bndF (partsL n) ⟨3, 1, t⟩ = (12 + n, 20 + n) := by simp [bndF, partsL]
set_option maxRecDepth 8000 in
theorem b41 (n t : Int) : bndF (partsL n) ⟨4, 1, t⟩ = (20 + n, 20 + 2 * n) := by simp [bndF, partsL]
set_option maxRecDepth 8000 in
theorem b50 (n t : Int) : bndF (partsL n) ⟨5, 0, t⟩ = (20 + 2 * n, 20 + 3 * n) := by simp [bndF, partsL]
set_option maxRecDepth 8000 in
theorem secP_of (n : Nat) (h : 1 ≤ n ∧ n ≤ 64) (k a t f q : Int) (hm : mayP ⟨k, a, t⟩) (hb : bndF (partsL n) ⟨k, a, t⟩ = (f, q)) (ht : 0 ≤ t) (ht2 : t < q - f) : secP n ⟨k, a, t⟩ = (f + t, 0) := by
  rw [secP_in ⟨show 1 ≤ (n : Int) ∧ (n : Int) ≤ 64 by omega, hm⟩ (by rw [hb]; simp only; omega), hb]
set_option maxRecDepth 8000 in
/-- Sector of a place of the document is its number -/
theorem secP_plc (n i : Nat) (h : 1 ≤ n ∧ n ≤ 64) (hi : i < 20 + 3 * n) : mayP (plc n i) ∧ secP n (plc n i) = ((i : Int), 0) := by
  have go : ∀ (k a t f q : Int), plc n i = ⟨k, a, t⟩ → mayP ⟨k, a, t⟩ → bndF (partsL n) ⟨k, a, t⟩ = (f, q) → 0 ≤ t → t < q - f → f + t = i → mayP (plc n i) ∧ secP n (plc n i) = ((i : Int), 0) := by
    intro k a t f q e hm hb ht ht2 hft
    rw [e]
    exact ⟨hm, by rw [secP_of n h k a t f q hm hb ht ht2, hft]⟩
  rcases Nat.lt_or_ge i 2 with h1 | h1
  · exact go _ _ _ _ _ (plc_head n i h1) ((mayP_mk _ _ _).2 (by omega)) (b10 _ _) (by omega) (by omega) (by omega)
  rcases Nat.lt_or_ge i 3 with h2 | h2
  · exact go _ _ _ _ _ (plc_log0 n i (by omega)) ((mayP_mk _ _ _).2 (by omega)) (b20 _ _) (by omega) (by omega) (by omega)
  rcases Nat.lt_or_ge i 11 with h3 | h3
  · exact go _ _ _ _ _ (plc_st0 n i (i - 3) (by omega) (by omega)) ((mayP_mk _ _ _).2 (by omega)) (b30 _ _) (by omega) (by omega) (by omega)
  rcases Nat.lt_or_ge i (11 + n) with h4 | h4
  · exact go _ _ _ _ _ (plc_fr0 n i (i - 11) (by omega) (by omega)) ((mayP_mk _ _ _).2 (by omega)) (b40 _ _) (by omega) (by omega) (by omega)
  rcases Nat.lt_or_ge i (12 + n) with h5 | h5
  · exact go _ _ _ _ _ (plc_log1 n i (by omega)) ((mayP_mk _ _ _).2 (by omega)) (b21 _ _) (by omega) (by omega) (by omega)
  rcases Nat.lt_or_ge i (20 + n) with h6 | h6
  · exact go _ _ _ _ _ (plc_st1 n i (i - 12 - n) (by omega) (by omega)) ((mayP_mk _ _ _).2 (by omega)) (b31 _ _) (by omega) (by omega) (by omega)
  rcases Nat.lt_or_ge i (20 + 2 * n) with h7 | h7
  · exact go _ _ _ _ _ (plc_fr1 n i (i - 20 - n) (by omega) (by omega)) ((mayP_mk _ _ _).2 (by omega)) (b41 _ _) (by omega) (by omega) (by omega)
  · exact go _ _ _ _ _ (plc_home n i (i - 20 - 2 * n) (by omega) (by omega)) ((mayP_mk _ _ _).2 (by omega)) (b50 _ _) (by omega) (by omega) (by omega)
set_option maxRecDepth 8000 in
/-- a place that may be is a sector's, or the plan has it not -/
theorem secP_has (n : Nat) (h : 1 ≤ n ∧ n ≤ 64) (x : Sp) (hm : mayP x) : (∃ i, i < 20 + 3 * n ∧ plc n i = x ∧ secP n x = ((i : Int), 0)) ∨ secP n x = (0, 4) := by
  by_cases hc : x.t < 0 ∨ (bndF (partsL n) x).2 - (bndF (partsL n) x).1 ≤ x.t
  · exact .inr (secP_out ⟨show 1 ≤ (n : Int) ∧ (n : Int) ≤ 64 by omega, hm⟩ hc)
  · left
    have fin : ∀ i, i < 20 + 3 * n → plc n i = x → ∃ i, i < 20 + 3 * n ∧ plc n i = x ∧ secP n x = ((i : Int), 0) := fun i hi e => ⟨i, hi, e, by rw [← e]; exact (secP_plc n i h hi).2⟩
    obtain ⟨k, a, t⟩ := x
    rcases may_cases hm with ⟨rfl, rfl⟩ | ⟨rfl, rfl, rfl⟩ | ⟨rfl, rfl, rfl⟩ | ⟨rfl, rfl⟩ | ⟨rfl, rfl⟩ | ⟨rfl, rfl⟩ | ⟨rfl, rfl⟩ | ⟨rfl, rfl⟩
    · rw [b10] at hc
      simp only at hc
      obtain ⟨j, rfl⟩ := Int.eq_ofNat_of_zero_le (show 0 ≤ t by omega)
      exact fin j (by omega) (plc_head n j (by omega))
    · exact fin 2 (by omega) (plc_log0 n 2 rfl)
    · exact fin (11 + n) (by omega) (plc_log1 n _ rfl)
    · rw [b30] at hc
      simp only at hc
      obtain ⟨j, rfl⟩ := Int.eq_ofNat_of_zero_le (show 0 ≤ t by omega)
      exact fin (3 + j) (by omega) (plc_st0 n _ j (by omega) rfl)
    · rw [b31] at hc
      simp only at hc
      obtain ⟨j, rfl⟩ := Int.eq_ofNat_of_zero_le (show 0 ≤ t by omega)
      exact fin (12 + n + j) (by omega) (plc_st1 n _ j (by omega) rfl)
    · rw [b40] at hc
      simp only at hc
      obtain ⟨j, rfl⟩ := Int.eq_ofNat_of_zero_le (show 0 ≤ t by omega)
      exact fin (11 + j) (by omega) (plc_fr0 n _ j (by omega) rfl)
    · rw [b41] at hc
      simp only at hc
      obtain ⟨j, rfl⟩ := Int.eq_ofNat_of_zero_le (show 0 ≤ t by omega)
      exact fin (20 + n + j) (by omega) (plc_fr1 n _ j (by omega) rfl)
    · rw [b50] at hc
      simp only at hc
      obtain ⟨j, rfl⟩ := Int.eq_ofNat_of_zero_le (show 0 ≤ t by omega)
      exact fin (20 + 2 * n + j) (by omega) (plc_home n _ j (by omega) rfl)
end Go.Proofs.YtpihllgdgolgpaaDoor

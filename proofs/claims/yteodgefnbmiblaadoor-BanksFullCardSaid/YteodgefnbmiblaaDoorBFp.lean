/- law 12: a bank of so many free objects, and what its Makes leave: plain. -/
import Derived.Test.YteodgefnbmiblaaDoorBRow
namespace Go.Proofs.YteodgefnbmiblaaDoor
open Go.RowKit
/-- the bank's node -/
def fB (n : Nat) : Oj := bnkO (oKC 1 1) 1 (n : Int)
/-- the bank's key -/
def fX : Ky := ⟨4, 0, 1, 0, 0, 0⟩
/-- what is made of a free object, when its turn comes -/
def mkd (c : Int) : Oj := if c < 4294967295 then oKC 2 (c + 1) else oKC 3 c
/-- so many have a count below the largest -/
def gc (cs : List Int) (p : Nat) : Nat := (cs.take p).countP fun c => decide (c < 4294967295)
/-- the first p have had their turn -/
def Lp (cs : List Int) (p : Nat) : List Oj := fB cs.length :: cs.mapIdx fun i c => if i < p then mkd c else oKC 0 c
section
variable {cs : List Int}
set_option maxRecDepth 8000 in
theorem gc_succ {p : Nat} (h : p < cs.length) : gc cs (p + 1) = gc cs p + (if cs[p] < 4294967295 then 1 else 0) := by
  unfold gc
  rw [List.take_succ_eq_append_getElem h, List.countP_append, List.countP_singleton]
  simp only [decide_eq_true_eq]
theorem gc_mono (p : Nat) : ∀ d, p + d ≤ cs.length → gc cs p ≤ gc cs (p + d)
  | 0, _ => Nat.le_refl _
  | d + 1, h => by
    have := gc_mono p d (by omega)
    rw [← Nat.add_assoc, gc_succ (by omega)]
    omega
set_option maxRecDepth 8000 in
theorem gc_all : gc cs cs.length = cs.countP fun c => decide (c < 4294967295) := by unfold gc; rw [List.take_length]
set_option maxRecDepth 8000 in
/-- the next one -/
theorem gc_next : ∀ (d p : Nat), p + d = cs.length → gc cs p < gc cs cs.length → ∃ j, ∃ h : j < cs.length, p ≤ j ∧ cs[j] < 4294967295 ∧ gc cs (j + 1) = gc cs p + 1 ∧ ∀ i (h : i < cs.length), p ≤ i → i < j → ¬ cs[i] < 4294967295
  | 0, p, h, hg => by
    rw [Nat.add_zero] at h
    subst h
    omega
  | d + 1, p, h, hg => by
    have hs := gc_succ (cs := cs) (p := p) (by omega)
    by_cases hc : cs[p]'(by omega) < 4294967295
    · rw [if_pos hc] at hs
      exact ⟨p, by omega, Nat.le_refl _, hc, hs, fun i _ h1 h2 => absurd h1 (by omega)⟩
    · rw [if_neg hc, Nat.add_zero] at hs
      obtain ⟨j, hj, h1, h2, h3, h4⟩ := gc_next d (p + 1) (by omega) (by omega)
      refine ⟨j, hj, by omega, h2, by omega, fun i hi h5 h6 => ?_⟩
      rcases Nat.lt_or_ge p i with h7 | h7
      · exact h4 i hi h7 h6
      · obtain rfl : i = p := by omega
        exact hc
/-- none is left -/
theorem gc_done {p : Nat} (h : gc cs p = gc cs cs.length) (i : Nat) (hi : i < cs.length) (hpi : p ≤ i) : ¬ cs[i] < 4294967295 := fun hc => by
  have h1 := gc_mono (cs := cs) p (i - p) (by omega)
  have h2 := gc_succ (cs := cs) hi
  have h3 := gc_mono (cs := cs) (i + 1) (cs.length - (i + 1)) (by omega)
  rw [show p + (i - p) = i by omega] at h1
  rw [show i + 1 + (cs.length - (i + 1)) = cs.length by omega] at h3
  rw [if_pos hc] at h2
  omega
set_option maxRecDepth 8000 in
theorem Lp_len (p : Nat) : (Lp cs p).length = cs.length + 1 := by simp [Lp]
theorem Lp_0 (p : Nat) : (Lp cs p)[0]? = some (fB cs.length) := rfl
set_option maxRecDepth 8000 in
theorem Lp_s (p i : Nat) (h : i < cs.length) : (Lp cs p)[1 + i]? = some (if i < p then mkd cs[i] else oKC 0 cs[i]) := by
  rw [Nat.add_comm, Lp, List.getElem?_cons_succ, List.getElem?_mapIdx, List.getElem?_eq_getElem h]
  rfl
set_option maxRecDepth 8000 in
theorem mkd_k (c : Int) : (mkd c).k ≠ 0 := by
  unfold mkd
  split
  · exact (by decide : (2 : Int) ≠ 0)
  · exact (by decide : (3 : Int) ≠ 0)
set_option maxRecDepth 8000 in
theorem Lp_good (p i : Nat) (h : i < cs.length) : good (((Lp cs p)[1 + i]?).getD oz) ↔ p ≤ i ∧ cs[i] < 4294967295 := by
  rw [Lp_s p i h, Option.getD_some]
  split
  · exact ⟨fun g => absurd g.1 (mkd_k _), fun g => by omega⟩
  · next hp => exact ⟨fun g => ⟨by omega, g.2⟩, fun g => ⟨rfl, g.2⟩⟩
set_option maxRecDepth 8000 in
theorem Lp_ret (p i : Nat) (h : i < cs.length) (hg : ¬ (p ≤ i ∧ cs[i] < 4294967295)) (q : Nat) (hq : i < q) : ((Lp cs p)[1 + i]?).map retO = (Lp cs q)[1 + i]? := by
  rw [Lp_s p i h, Lp_s q i h, if_pos hq, Option.map_some]
  congr 1
  split
  · exact if_neg (mkd_k _)
  · next hp =>
    have hc : ¬ cs[i] < 4294967295 := fun hc => hg ⟨by omega, hc⟩
    unfold mkd
    rw [if_neg hc]
    exact if_pos rfl
set_option maxRecDepth 8000 in
theorem lt_cases {i n : Nat} (h : i < n + 1) : i = 0 ∨ ∃ k, i = 1 + k ∧ k < n := by
  cases i with
  | zero => exact .inl rfl
  | succ i => exact .inr ⟨i, by omega, by omega⟩
set_option maxRecDepth 8000 in
/-- one more is made -/
theorem Lp_make {p j : Nat} (hj : j < cs.length) (hp : p ≤ j) (hc : cs[j] < 4294967295) (hn : ∀ i (h : i < cs.length), p ≤ i → i < j → ¬ cs[i] < 4294967295) :
    fnd (Lp cs p) 1 (cs.length + 1 - 1) = some j ∧ mkL (Lp cs p) 1 cs.length 2 = Lp cs (j + 1) ∧ mkK (Lp cs p) (1 + j) 3 = ⟨3, ((1 + j : Nat) : Int), cs[j] + 1, 0, 0, 0⟩ := by
  have hf : fnd (Lp cs p) 1 (cs.length + 1 - 1) = some j := fnd_is (by omega) ((Lp_good p j hj).2 ⟨hp, hc⟩) fun i hi hg => by
    have h1 := (Lp_good p i (by omega)).1 hg
    exact hn i (by omega) h1.1 hi h1.2
  have hcj : (((Lp cs p)[1 + j]?).getD oz).c = cs[j] := by
    rw [Lp_s p j hj, if_neg (by omega)]
    rfl
  refine ⟨hf, ?_, ?_⟩
  · unfold mkL
    rw [hf]
    apply List.ext_getElem?
    intro i
    show ((retN (Lp cs p) 1 j).set (1 + j) (oKC 2 ((((Lp cs p)[1 + j]?).getD oz).c + 1)))[i]? = _
    rw [hcj]
    rcases Nat.lt_or_ge i (cs.length + 1) with hi | hi
    · rcases lt_cases hi with rfl | ⟨k, rfl, hk⟩
      · rw [List.getElem?_set_ne (by omega), retN_out _ _ _ _ (by omega), Lp_0, Lp_0]
      · rcases Nat.lt_trichotomy k j with h | rfl | h
        · rw [List.getElem?_set_ne (by omega), retN_in _ _ _ _ (by omega) (by omega)]
          exact Lp_ret p k hk (fun g => hn k hk g.1 h g.2) _ (by omega)
        · rw [List.getElem?_set_self (by rw [retN_len, Lp_len]; omega), Lp_s _ k hk, if_pos (by omega)]
          unfold mkd
          rw [if_pos hc]
        · rw [List.getElem?_set_ne (by omega), retN_out _ _ _ _ (by omega), Lp_s _ k hk, Lp_s _ k hk, if_neg (by omega), if_neg (by omega)]
    · rw [List.getElem?_eq_none (by rw [List.length_set, retN_len, Lp_len]; exact hi), List.getElem?_eq_none (by rw [Lp_len]; exact hi)]
  · unfold mkK
    rw [hcj]
set_option maxRecDepth 8000 in
/-- none is left to be made -/
theorem Lp_full {p : Nat} (hn : ∀ i (h : i < cs.length), p ≤ i → ¬ cs[i] < 4294967295) (kind : Int) :
    fnd (Lp cs p) 1 (cs.length + 1 - 1) = none ∧ mkL (Lp cs p) 1 cs.length kind = Lp cs cs.length := by
  have hf : fnd (Lp cs p) 1 (cs.length + 1 - 1) = none := fnd_no fun i hi hg => by
    have h1 := (Lp_good p i (by omega)).1 hg
    exact hn i (by omega) h1.1 h1.2
  refine ⟨hf, ?_⟩
  unfold mkL
  rw [hf]
  apply List.ext_getElem?
  intro i
  show (retN (Lp cs p) 1 (cs.length + 1 - 1))[i]? = _
  rcases Nat.lt_or_ge i (cs.length + 1) with hi | hi
  · rcases lt_cases hi with rfl | ⟨k, rfl, hk⟩
    · rw [retN_out _ _ _ _ (by omega), Lp_0, Lp_0]
    · rw [retN_in _ _ _ _ (by omega) (by omega)]
      exact Lp_ret p k hk (fun g => hn k hk g.1 g.2) _ hk
  · rw [List.getElem?_eq_none (by rw [retN_len, Lp_len]; exact hi), List.getElem?_eq_none (by rw [Lp_len]; exact hi)]
/-- as many are razed as were made -/
theorem Lp_razC : ∀ m, m ≤ cs.length → razC (Lp cs cs.length) 1 0 m = gc cs m
  | 0, _ => by simp [razC, gc]
  | m + 1, h => by
    rw [razC, Lp_razC m (by omega), gc_succ (by omega), Lp_s _ m (by omega), if_pos (show m < cs.length by omega), Option.getD_some]
    congr 1
    unfold mkd
    by_cases hc : cs[m]'(by omega) < 4294967295
    · rw [if_pos hc, if_pos hc, if_neg (by
        rintro (h1 | h1 | h1)
        · omega
        · exact absurd h1 (by decide : ¬ (2 : Int) = 0)
        · exact absurd h1 (by decide : ¬ (2 : Int) = 3))]
    · rw [if_neg hc, if_neg hc, if_pos (.inr (.inr rfl))]
set_option maxRecDepth 8000 in
theorem fB_ok {n : Nat} (h : 1 ≤ n ∧ n ≤ 63) : (fB n).ok ((n + 1 : Nat) : Int) := by
  have h1 : okAll (([oKC 1 1] : List Oj) ++ List.replicate n (oKC 0 0)).length (([oKC 1 1] : List Oj) ++ List.replicate n (oKC 0 0)) := by
    have hl : (([oKC 1 1] : List Oj) ++ List.replicate n (oKC 0 0)).length = n + 1 := by simp
    rw [hl]
    intro o ho
    rcases List.mem_append.1 ho with h2 | h2
    · rw [List.mem_singleton.1 h2]; exact oKC_ok (by omega) (.inr (.inl rfl)) (by decide)
    · rw [List.eq_of_mem_replicate h2]; exact oKC_ok (by omega) (.inl rfl) (by decide)
  have hnm : named (([oKC 1 1] : List Oj) ++ List.replicate n (oKC 0 0)) ⟨2, 0, 1, 0, 0, 0⟩ = some (oKC 1 1) :=
    named_mk (j := 0) (key_ok (o := 0) (.inl rfl) (by decide) (by decide)) ⟨(by decide : (2 : Int) ≤ 2), (by decide : (2 : Int) ≤ 7)⟩ rfl rfl rfl rfl (.inl (by decide : (2 : Int) ≠ 7))
  obtain ⟨j, d⟩ := nm_d hnm
  obtain rfl : 0 = j := by have h2 := d.o; have h3 : (⟨2, 0, 1, 0, 0, 0⟩ : Ky).o = 0 := rfl; omega
  have hg := gvA_nk d rfl rfl 1 (n : Int)
  have h2 := gvA_ok h1 ⟨2, 0, 1, 0, 0, 0⟩ 1 (n : Int)
  rw [hg] at h2
  have h3 := h2 (fB n) (List.mem_of_getElem? (i := 0) rfl)
  rw [show (([oKC 1 1] : List Oj) ++ List.replicate n (oKC 0 0)).length = n + 1 by simp] at h3
  exact h3
set_option maxRecDepth 8000 in
theorem Lp_ok (p : Nat) (hn : 1 ≤ cs.length ∧ cs.length ≤ 63) (hc : ∀ c ∈ cs, 0 ≤ c ∧ c ≤ 4294967295) : okAll (Lp cs p).length (Lp cs p) := by
  rw [Lp_len]
  intro o ho
  obtain ⟨i, hi, rfl⟩ := List.mem_iff_getElem.1 ho
  have hi2 : i < cs.length + 1 := by rw [Lp_len] at hi; exact hi
  have hx := List.getElem?_eq_getElem hi
  rcases lt_cases hi2 with rfl | ⟨k, rfl, hk⟩
  · rw [Lp_0] at hx
    rw [← Option.some.inj hx]
    exact fB_ok hn
  · rw [Lp_s _ k hk] at hx
    rw [← Option.some.inj hx]
    have hck := hc _ (List.getElem_mem hk)
    split
    · unfold mkd
      split
      · exact oKC_ok (by omega) (.inr (.inr (.inl rfl))) (by omega)
      · exact oKC_ok (by omega) (.inr (.inr (.inr rfl))) hck
    · exact oKC_ok (by omega) (.inl rfl) hck
theorem fX_d {os : List Oj} {n : Nat} (hl : os.length = n + 1) (h0 : os[0]? = some (fB n)) (hn : 1 ≤ n) : BkD os fX 0 (fB n) 1 n :=
  bnkO_d (u := oKC 1 1) (a := 1) (b := n) (named_mk (j := 0) (key_ok (o := 0) (.inr (.inr rfl)) (by decide) (by decide)) ⟨(by decide : (2 : Int) ≤ 4), (by decide : (4 : Int) ≤ 7)⟩ rfl h0 rfl rfl (.inl (by decide : (4 : Int) ≠ 7))) rfl rfl rfl hn (by omega)
theorem razN_ok {os : List Oj} (ho : okAll os.length os) (a : Nat) (x : Int) : ∀ n, okAll os.length (razN os a x n)
  | 0 => ho
  | n + 1 => by
    rw [razN]
    cases hq : os[a + n]? with
    | none =>
      rw [List.set_eq_of_length_le (by rw [razN_len]; simpa using hq)]
      exact razN_ok ho a x n
    | some o =>
      have hoo := ho o (List.mem_of_getElem? hq)
      refine okAll_set (razN_ok ho a x n) _ ?_
      show (razH x (a + n) o).ok os.length
      unfold razH
      split
      · exact hoo
      · exact oKC_ok hoo.1 (.inl rfl) hoo.2.1
set_option maxRecDepth 8000 in
/-- behind a Make that finds none, none is free with a count below the largest -/
theorem mkL_none {os : List Oj} {n : Nat} (hl : os.length = n + 1) (h0 : ∀ o, os[0]? = some o → o.k ≠ 0) (hf : fnd os 1 (n + 1 - 1) = none) (kind : Int) : ∀ o ∈ mkL os 1 n kind, ¬ good o := by
  intro o ho hg
  unfold mkL at ho
  rw [hf] at ho
  have ho : o ∈ retN os 1 (n + 1 - 1) := ho
  obtain ⟨i, hi, rfl⟩ := List.mem_iff_getElem.1 ho
  have hx := List.getElem?_eq_getElem hi
  have hi2 : i < n + 1 := by rw [retN_len, hl] at hi; exact hi
  rcases lt_cases hi2 with rfl | ⟨k, rfl, hk⟩
  · rw [retN_out _ _ _ _ (by omega)] at hx
    exact h0 _ hx hg.1
  · rw [retN_in _ _ _ _ (by omega) (by omega)] at hx
    obtain ⟨u, hu, he⟩ := Option.map_eq_some_iff.1 hx
    have hb := fnd_none hf k (by omega)
    rw [hu, Option.getD_some] at hb
    rw [← he] at hg
    unfold retO at hg
    split at hg
    · exact absurd hg.1 (by decide : ¬ (3 : Int) = 0)
    · next hk0 => exact hk0 hg.1
end
end Go.Proofs.YteodgefnbmiblaaDoor

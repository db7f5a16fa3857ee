/- nodes: all, prepared, change. -/
import Derived.Test.YtedlacdijkggjaaDoorNGot
namespace Go.Proofs.YtedlacdijkggjaaDoor
open Go.RowKit
/-- a node with other slots -/
def slotsAs (o : Oj) (s : List Ky) (hs : s.length = 16) : Oj := { o with s := s, hs := hs }
/-- what is got of each slot -/
noncomputable def gots (os : List Oj) (x : Ky) (u : Oj) : List Ky := u.s.map (gotK os x)
set_option maxRecDepth 8000 in
theorem gots_len (os : List Oj) (x : Ky) (u : Oj) : (gots os x u).length = 16 := by rw [gots, List.length_map, u.hs]
set_option maxRecDepth 8000 in
theorem weak_ok {x : Ky} (h : x.ok) : x.weak.ok := by
  by_cases h1 : x.k = 0 ∨ x.k = 1 ∨ x.k = 8
  · rw [weak_self h1]
    exact h
  · by_cases h2 : x.k = 2 ∨ x.k = 3
    · rw [weak_less h2]
      obtain ⟨n, hk, hn, o0, o1, c0, c1, l0, l1, r0, r1, hv⟩ := h
      have e8 : x.r.toNat < 8 := by
        have : kRts n ≤ 7 := by unfold kRts; split <;> (try split) <;> omega
        omega
      refine ⟨n, hk, hn, o0, o1, c0, c1, l0, l1, by simp, ?_, hv⟩
      rcases h2 with h2 | h2
      · have hn2 : n = 2 := by omega
        subst hn2
        rw [h2]
        have : ∀ r, r < 8 → lsN r 3 (rm 2) ≤ 7 := by decide
        have h7 := this _ e8
        have e7 : kRts 2 = 7 := rfl
        show ((lsN x.r.toNat 3 (rm 2) : Nat) : Int) ≤ kRts 2
        omega
      · have hn3 : n = 3 := by omega
        subst hn3
        rw [h2]
        have e1 : kRts 3 = 1 := rfl
        have : ∀ r, r < 2 → lsN r 3 (rm 3) ≤ 1 := by decide
        have h7 := this x.r.toNat (by omega)
        show ((lsN x.r.toNat 3 (rm 3) : Nat) : Int) ≤ kRts 3
        omega
    · rw [weak_void (by omega)]
      exact zk_ok
set_option maxRecDepth 8000 in
theorem gotK_ok (os : List Oj) (x y : Ky) : (gotK os x y).ok := by
  unfold gotK
  by_cases h : x.r / 2 % 2 = 1
  · rw [if_pos h]
    exact weak_ok (prepd_ok os y)
  · rw [if_neg h]
    exact prepd_ok os y
set_option maxRecDepth 8000 in
theorem kcs_snoc (n : Nat) (l : List Ky) (hl : l.length = n) (hn : n < 16) (z : Ky) : (kcs (l ++ List.replicate (16 - n) zk)).take (n * 6) ++ kl z ++ (kcs (l ++ List.replicate (16 - n) zk)).drop (n * 6 + (kl z).length) = kcs (l ++ [z] ++ List.replicate (16 - (n + 1)) zk) := by
  rw [kl_len, kcs_set _ n (by simp; omega)]
  congr 1
  rw [List.set_append_right _ _ (by omega), hl, Nat.sub_self, show 16 - n = (16 - (n + 1)) + 1 by omega, List.replicate_succ, List.set_cons_zero, List.append_assoc]
  rfl
set_option maxRecDepth 8000 in
theorem take_map_snoc (os : List Oj) (x : Ky) (u : Oj) (n : Nat) (hn : n < u.s.length) : (u.s.take n).map (gotK os x) ++ [gotK os x u.s[n]] = (u.s.take (n + 1)).map (gotK os x) := by
  rw [List.take_succ_eq_append_getElem hn, List.map_append]
  rfl
section
variable {w : World} {base p : Nat} {A : Option Addr} {cap : Nat} {ps : List Nat} {os : List Oj}
end
end Go.Proofs.YtedlacdijkggjaaDoor

/- banks: which node is a bank, what is made, retired, destroyed: plain. -/
import Derived.Test.YtaoailohihoclaaDoorBDef
import Derived.Test.YtaoailohihoclaaDoorR17
namespace Go.Proofs.YtaoailohihoclaaDoor
open Go.RowKit
def sl0 (u : Oj) : Ky := (u.s[0]?).getD zk
def sl1 (u : Oj) : Ky := (u.s[1]?).getD zk
/-- a node whose slots say Oids of a store of so many -/
def BkP (n : Nat) (u : Oj) : Prop := (sl0 u).k = 1 ∧ (sl1 u).k = 1 ∧ 0 ≤ (sl0 u).v ∧ (sl0 u).v ≤ (sl1 u).v ∧ (sl1 u).v < (n : Int)
instance (n : Nat) (u : Oj) : Decidable (BkP n u) := by unfold BkP; infer_instance
/-- it is the key of a bank's node that counts -/
def bnkN (os : List Oj) (x : Ky) : Prop := (named os x).isSome = true ∧ x.k = 4
/-- a bank that is asked: its Oids are a to b -/
structure BkD (os : List Oj) (x : Ky) (j : Nat) (u : Oj) (a b : Nat) : Prop where
  nm : named os x = some u
  k : x.k = 4
  ok : x.ok
  o : x.o = (j : Int)
  lt : j < os.length
  at_ : os[j] = u
  uk : u.k = 1
  k0 : (sl0 u).k = 1
  k1 : (sl1 u).k = 1
  v0 : (sl0 u).v = (a : Int)
  v1 : (sl1 u).v = (b : Int)
  ab : a ≤ b
  bl : b < os.length
/-- the key counts, and names a node -/
structure NmD (os : List Oj) (x : Ky) (j : Nat) (u : Oj) : Prop where
  nm : named os x = some u
  ok : x.ok
  o : x.o = (j : Int)
  lt : j < os.length
  at_ : os[j] = u
  want : x.want = u.k
  cc : x.c = u.c
  ll : x.k ≠ 7 ∨ x.l = u.l
set_option maxRecDepth 8000 in
theorem nm_d {os : List Oj} {x : Ky} {u : Oj} (h : named os x = some u) : ∃ j, NmD os x j u := by
  have hof := named_of (os := os) (x := x) (by rw [h]; rfl)
  have h3 := named_is (os := os) hof
  rw [h] at h3
  obtain ⟨h5, h6⟩ := Option.filter_eq_some_iff.1 h3.symm
  obtain ⟨hlt, hat⟩ := List.getElem?_eq_some_iff.1 h5
  have ho : 0 ≤ x.o := by
    obtain ⟨n, hk, hn, o0, _⟩ := hof.1
    exact o0
  have h7 : x.ok ∧ (x.of → x.want = u.k ∧ x.c = u.c ∧ (x.k ≠ 7 ∨ x.l = u.l)) := by
    have : x.cnt u.k u.c u.l = true := h6
    unfold Ky.cnt at this
    simpa using this
  obtain ⟨h8, h9, h10⟩ := h7.2 hof
  exact ⟨x.o.toNat, h, hof.1, by omega, hlt, hat, h8, h9, h10⟩
set_option maxRecDepth 8000 in
theorem bnkN_d {os : List Oj} {x : Ky} (h : bnkN os x) : ∃ j u, NmD os x j u ∧ x.k = 4 ∧ u.k = 1 := by
  obtain ⟨u, hu⟩ := Option.isSome_iff_exists.1 h.1
  obtain ⟨j, d⟩ := nm_d hu
  refine ⟨j, u, d, h.2, ?_⟩
  have hof := named_of (os := os) (x := x) h.1
  have := d.want
  unfold Ky.want at this
  rw [if_pos hof, if_neg (by have := h.2; omega)] at this
  exact this.symm
set_option maxRecDepth 8000 in
theorem bk_d {os : List Oj} {x : Ky} {j : Nat} {u : Oj} (d : NmD os x j u) (hk : x.k = 4) (hu : u.k = 1) (h : BkP os.length u) : ∃ a b, BkD os x j u a b := by
  obtain ⟨h1, h2, h3, h4, h5⟩ := h
  exact ⟨(sl0 u).v.toNat, (sl1 u).v.toNat, d.nm, hk, d.ok, d.o, d.lt, d.at_, hu, h1, h2, by omega, by omega, by omega, by omega⟩
theorem BkD.p {os : List Oj} {x : Ky} {j : Nat} {u : Oj} {a b : Nat} (d : BkD os x j u a b) : BkP os.length u := ⟨d.k0, d.k1, by have := d.v0; omega, by have := d.v0; have := d.v1; have := d.ab; omega, by have := d.v1; have := d.bl; omega⟩
theorem BkD.is {os : List Oj} {x : Ky} {j : Nat} {u : Oj} {a b : Nat} (d : BkD os x j u a b) : bnkN os x := ⟨by rw [d.nm]; rfl, d.k⟩
/-- free, and to be had -/
def good (o : Oj) : Prop := o.k = 0 ∧ o.c < 4294967295
instance (o : Oj) : Decidable (good o) := by unfold good; infer_instance
/-- what is left of one on the way -/
def retO (o : Oj) : Oj := if o.k = 0 then oKC 3 o.c else o
/-- behind the first n on the way from a on -/
def retN (os : List Oj) (a : Nat) : Nat → List Oj
  | 0 => os
  | n + 1 => (retN os a n).set (a + n) (retO ((os[a + n]?).getD oz))
theorem retN_len (os : List Oj) (a : Nat) : ∀ n, (retN os a n).length = os.length
  | 0 => rfl
  | n + 1 => by rw [retN, List.length_set, retN_len os a n]
theorem retN_out (os : List Oj) (a : Nat) : ∀ (n i : Nat), i < a ∨ a + n ≤ i → (retN os a n)[i]? = os[i]?
  | 0, _, _ => rfl
  | n + 1, i, h => by rw [retN, List.getElem?_set_ne (by omega), retN_out os a n i (by omega)]
theorem retN_in (os : List Oj) (a : Nat) : ∀ (n i : Nat), a ≤ i → i < a + n → (retN os a n)[i]? = os[i]?.map retO
  | 0, _, _, _ => by omega
  | n + 1, i, h1, h2 => by
    rw [retN]
    by_cases hi : i = a + n
    · subst hi
      by_cases hl : a + n < os.length
      · rw [List.getElem?_set_self (by rw [retN_len]; exact hl), List.getElem?_eq_getElem hl]
        rfl
      · rw [List.getElem?_eq_none (by rw [List.length_set, retN_len]; omega), List.getElem?_eq_none (by omega)]
        rfl
    · rw [List.getElem?_set_ne (by omega), retN_in os a n i h1 (by omega)]
set_option maxRecDepth 8000 in
theorem set_same_at {α : Type} (l : List α) (i : Nat) (x : α) (h : l[i]? = some x) : l.set i x = l := by
  apply List.ext_getElem?
  intro k
  by_cases hk : i = k
  · subst hk
    rw [List.getElem?_set_self (List.getElem?_eq_some_iff.1 h).1, h]
  · rw [List.getElem?_set_ne hk]
set_option maxRecDepth 8000 in
/-- one that is not free is left as it is -/
theorem retN_keep (os : List Oj) (a n : Nat) (o : Oj) (h : os[a + n]? = some o) (hk : o.k ≠ 0) : retN os a (n + 1) = retN os a n := by
  rw [retN, h]
  exact set_same_at _ _ _ (by rw [retN_out os a n _ (by omega), h]; unfold retO; rw [Option.getD_some, if_neg hk])
set_option maxRecDepth 8000 in
theorem retN_ret (os : List Oj) (a n : Nat) (o : Oj) (h : os[a + n]? = some o) (hk : o.k = 0) : retN os a (n + 1) = (retN os a n).set (a + n) (oKC 3 o.c) := by
  rw [retN, h]
  unfold retO
  rw [Option.getD_some, if_pos hk]
/-- which of n from a on is the first to be had -/
def fnd (os : List Oj) (a n : Nat) : Option Nat := (List.range n).find? fun j => decide (good ((os[a + j]?).getD oz))
set_option maxRecDepth 8000 in
theorem fnd_some {os : List Oj} {a n j : Nat} (h : fnd os a n = some j) : j < n ∧ good ((os[a + j]?).getD oz) ∧ ∀ i, i < j → ¬ good ((os[a + i]?).getD oz) := by
  unfold fnd at h
  rw [List.find?_range_eq_some] at h
  obtain ⟨h1, h2, h3⟩ := h
  exact ⟨by simpa using h2, by simpa using h1, fun i hi => by simpa using h3 i hi⟩
theorem fnd_none {os : List Oj} {a n : Nat} (h : fnd os a n = none) : ∀ i, i < n → ¬ good ((os[a + i]?).getD oz) := fun i hi => by
  unfold fnd at h
  rw [List.find?_eq_none] at h
  simpa using h i (List.mem_range.2 hi)
set_option maxRecDepth 8000 in
theorem fnd_is {os : List Oj} {a n j : Nat} (hj : j < n) (h : good ((os[a + j]?).getD oz)) (hn : ∀ i, i < j → ¬ good ((os[a + i]?).getD oz)) : fnd os a n = some j := by
  unfold fnd
  rw [List.find?_range_eq_some]
  exact ⟨by simpa using h, List.mem_range.2 hj, fun i hi => by simpa using hn i hi⟩
set_option maxRecDepth 8000 in
theorem fnd_no {os : List Oj} {a n : Nat} (h : ∀ i, i < n → ¬ good ((os[a + i]?).getD oz)) : fnd os a n = none := by
  unfold fnd
  rw [List.find?_eq_none]
  intro i hi
  simpa using h i (List.mem_range.1 hi)
/-- the store behind a making out of a to b; which one it is, if one -/
def mkL (os : List Oj) (a b : Nat) (kind : Int) : List Oj := match fnd os a (b + 1 - a) with
  | some j => (retN os a j).set (a + j) (oKC kind (((os[a + j]?).getD oz).c + 1))
  | none => retN os a (b + 1 - a)
def mkI (os : List Oj) (a b : Nat) : Option Nat := (fnd os a (b + 1 - a)).map (a + ·)
set_option maxRecDepth 8000 in
theorem mkL_len (os : List Oj) (a b : Nat) (kind : Int) : (mkL os a b kind).length = os.length := by
  unfold mkL
  split
  · rw [List.length_set, retN_len]
  · rw [retN_len]
set_option maxRecDepth 8000 in
theorem oKC_ok {n k c : Int} (hn : 1 ≤ n ∧ n ≤ 64) (hk : k = 0 ∨ k = 1 ∨ k = 2 ∨ k = 3) (hc : 0 ≤ c ∧ c ≤ 4294967295) : (oKC k c).ok n := by
  refine ⟨hn, hc, ⟨(by decide : (0 : Int) ≤ 0), (by decide : (0 : Int) ≤ 4294967295)⟩, ?_⟩
  rcases hk with rfl | rfl | rfl | rfl
  · exact .inr (.inr ⟨.inl rfl, rfl, rfl, rfl⟩)
  · exact .inl ⟨rfl, zks_may n⟩
  · exact .inr (.inl ⟨rfl, rfl, rfl⟩)
  · exact .inr (.inr ⟨.inr rfl, rfl, rfl, rfl⟩)
end Go.Proofs.YtaoailohihoclaaDoor

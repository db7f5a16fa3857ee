/- pages: what each call answers, of any store: plain. -/
import Derived.Test.YtedlacdijkggjaaDoorGFun
namespace Go.Proofs.YtedlacdijkggjaaDoor
open Go.RowKit
/-- it is the key of a page that counts -/
def pgN (os : List Oj) (x : Ky) : Prop := (named os x).isSome = true ∧ x.k = 3
structure PgD (os : List Oj) (x : Ky) (j : Nat) (u : Oj) : Prop where
  nm : named os x = some u
  k : x.k = 3
  ok : x.ok
  o : x.o = (j : Int)
  lt : j < os.length
  at_ : os[j] = u
  uk : u.k = 2
  r : x.r = 0 ∨ x.r = 1
set_option maxRecDepth 8000 in
theorem pgN_d {os : List Oj} {x : Ky} (h : pgN os x) : ∃ j u, PgD os x j u := by
  obtain ⟨h1, h2⟩ := h
  have hof := named_of h1
  have hok := hof.1
  have h3 := named_is (os := os) hof
  obtain ⟨u, hu⟩ := Option.isSome_iff_exists.1 h1
  rw [hu] at h3
  have h4 := Option.filter_eq_some_iff.1 h3.symm
  obtain ⟨h5, h6⟩ := h4
  obtain ⟨hlt, hat⟩ := List.getElem?_eq_some_iff.1 h5
  have ho : 0 ≤ x.o := by
    obtain ⟨n, hk, hn, o0, _⟩ := hok
    exact o0
  have hr : x.r = 0 ∨ x.r = 1 := by
    obtain ⟨_, r, hr, hm, _⟩ := ok_of hok
    rw [h2] at hm
    have : rm 3 = 1 := rfl
    omega
  refine ⟨x.o.toNat, u, hu, h2, hok, by omega, hlt, hat, ?_, hr⟩
  have h7 : x.ok ∧ (x.of → x.want = u.k ∧ x.c = u.c ∧ (x.k ≠ 7 ∨ x.l = u.l)) := by
    have : x.cnt u.k u.c u.l = true := h6
    unfold Ky.cnt at this
    simpa using this
  have h8 := (h7.2 hof).1
  unfold Ky.want at h8
  rw [if_pos hof, if_pos h2] at h8
  exact h8.symm
theorem PgD.is {os : List Oj} {x : Ky} {j : Nat} {u : Oj} (h : PgD os x j u) : pgN os x := ⟨by rw [h.nm]; rfl, h.k⟩
set_option maxRecDepth 8000 in
theorem PgD.eq {os : List Oj} {x : Ky} {j : Nat} {u : Oj} (h : PgD os x j u) : (named os x).getD oz = u := by rw [h.nm]; rfl
set_option maxRecDepth 8000 in
theorem PgD.jn {os : List Oj} {x : Ky} {j : Nat} {u : Oj} (h : PgD os x j u) : x.o.toNat = j := by have := h.o; omega
theorem PgD.okU {os : List Oj} {x : Ky} {j : Nat} {u : Oj} (h : PgD os x j u) (ho : okAll os.length os) : u.ok os.length := ho u (h.at_ ▸ List.getElem_mem h.lt)
set_option maxRecDepth 8000 in
theorem layO_ok {m : Int} {u : Oj} (h : u.ok m) (hk : u.k = 2) (a : Nat) (s : List UInt8) : (layO u a s).ok m := by
  unfold layO
  split
  · exact bAs_ok h hk _ _
  · exact h
-- the answers
open Classical in
noncomputable def pgA (os : List Oj) (x : Ky) (ch : Bool) : Int := if pgN os x then (if ch = true ∧ x.r ≠ 0 then 191 else 0) else 190
noncomputable def spE (os : List Oj) (x : Ky) (ch : Bool) (a n : Int) : Int := if pgA os x ch = 0 then (if inB a n then 0 else 4) else pgA os x ch
noncomputable def rdA (os : List Oj) (x : Ky) (a n : Int) : List UInt8 × Int := if spE os x false a n = 0 then ((((named os x).getD oz).b.drop a.toNat).take n.toNat, 0) else ([], spE os x false a n)
noncomputable def wrA (os : List Oj) (x : Ky) (a : Int) (s : List UInt8) : List Oj × Int := if spE os x true a s.length = 0 then (os.set x.o.toNat (layO ((named os x).getD oz) a.toNat s), 0) else (os, spE os x true a s.length)
noncomputable def wpA (os : List Oj) (x : Ky) : List Oj × Int := if pgA os x true = 0 then (os.set x.o.toNat (bAs ((named os x).getD oz) zbs rfl), 0) else (os, pgA os x true)
noncomputable def cpE (os : List Oj) (x y : Ky) : Int := if pgA os x true = 0 then pgA os y false else pgA os x true
noncomputable def cpA (os : List Oj) (x y : Ky) : List Oj × Int := if cpE os x y = 0 then (os.set x.o.toNat (bAs ((named os x).getD oz) ((named os y).getD oz).b ((named os y).getD oz).hb), 0) else (os, cpE os x y)
theorem pgA_no {os : List Oj} {x : Ky} {ch : Bool} (h : ¬ pgN os x) : pgA os x ch = 190 := if_neg h
set_option maxRecDepth 8000 in
theorem pgA_r {os : List Oj} {x : Ky} {ch : Bool} (h : pgN os x) (hc : ch = true) (hr : x.r ≠ 0) : pgA os x ch = 191 := by unfold pgA; rw [if_pos h, if_pos ⟨hc, hr⟩]
set_option maxRecDepth 8000 in
theorem pgA_y {os : List Oj} {x : Ky} {ch : Bool} (h : pgN os x) (hr : ch = false ∨ x.r = 0) : pgA os x ch = 0 := by
  unfold pgA
  rw [if_pos h, if_neg]
  rintro ⟨h1, h2⟩
  rcases hr with h3 | h3
  · rw [h3] at h1; cases h1
  · exact h2 h3
set_option maxRecDepth 8000 in
theorem pgA_0 {os : List Oj} {x : Ky} {ch : Bool} (h : pgA os x ch = 0) : pgN os x ∧ (ch = false ∨ x.r = 0) := by
  unfold pgA at h
  split at h
  · next hp =>
    split at h
    · cases h
    · next hq =>
      refine ⟨hp, ?_⟩
      by_cases hc : ch = true
      · right
        exact Classical.byContradiction fun hr => hq ⟨hc, hr⟩
      · left
        simpa using hc
  · cases h
set_option maxRecDepth 8000 in
theorem spE_0 {os : List Oj} {x : Ky} {ch : Bool} {a n : Int} (h : spE os x ch a n = 0) : pgA os x ch = 0 ∧ inB a n := by
  unfold spE at h
  split at h
  · next h1 =>
    split at h
    · next h2 => exact ⟨h1, h2⟩
    · cases h
  · next h1 => exact absurd h h1
set_option maxRecDepth 8000 in
theorem wrA_len (os : List Oj) (x : Ky) (a : Int) (s : List UInt8) : (wrA os x a s).1.length = os.length := by unfold wrA; split <;> simp
set_option maxRecDepth 8000 in
theorem wpA_len (os : List Oj) (x : Ky) : (wpA os x).1.length = os.length := by unfold wpA; split <;> simp
set_option maxRecDepth 8000 in
theorem cpA_len (os : List Oj) (x y : Ky) : (cpA os x y).1.length = os.length := by unfold cpA; split <;> simp
set_option maxRecDepth 8000 in
theorem wrA_ok {os : List Oj} (ho : okAll os.length os) (x : Ky) (a : Int) (s : List UInt8) : okAll os.length (wrA os x a s).1 := by
  unfold wrA
  split
  · next h =>
    obtain ⟨j, u, d⟩ := pgN_d (pgA_0 (spE_0 h).1).1
    rw [d.eq]
    exact okAll_set ho _ (layO_ok (d.okU ho) d.uk _ _)
  · exact ho
set_option maxRecDepth 8000 in
theorem wpA_ok {os : List Oj} (ho : okAll os.length os) (x : Ky) : okAll os.length (wpA os x).1 := by
  unfold wpA
  split
  · next h =>
    obtain ⟨j, u, d⟩ := pgN_d (pgA_0 h).1
    rw [d.eq]
    exact okAll_set ho _ (bAs_ok (d.okU ho) d.uk _ _)
  · exact ho
set_option maxRecDepth 8000 in
theorem cpA_ok {os : List Oj} (ho : okAll os.length os) (x y : Ky) : okAll os.length (cpA os x y).1 := by
  unfold cpA
  split
  · next h =>
    have h1 : pgA os x true = 0 := by
      unfold cpE at h
      split at h
      · next h1 => exact h1
      · next h1 => exact absurd h h1
    obtain ⟨j, u, d⟩ := pgN_d (pgA_0 h1).1
    simp only [d.eq]
    exact okAll_set ho _ (bAs_ok (d.okU ho) d.uk _ _)
  · exact ho
end Go.Proofs.YtedlacdijkggjaaDoor

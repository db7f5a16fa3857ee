/- pages: what each call answers, of any store: plain. -/
import Derived.Test.YtjolojomgfcfbaaDoorR24
import Derived.Test.YtjolojomgfcfbaaDoorR21
import Derived.Laws.Strings2
import Derived.Laws.Concat
import Derived.WalkSpells
namespace Go.Proofs.YtjolojomgfcfbaaDoor
open Go.RowKit
/-- it is the key of a page that counts -/
def pgN (os : List Oj) (x : Ky) : Prop := (named os x).isSome = true ∧ x.k = 3
structure PgD (os : List Oj) (x : Ky) (j : Nat) (u : Oj) : Prop where
  nm : named os x = some u
  k : x.k = 3
  ok : x.ok
  o : x.o = (j : Int)
  lt : j < os.length
  at_ : os[j] = u
  uk : u.k = 2
  r : x.r = 0 ∨ x.r = 1
set_option maxRecDepth 8000 in
theorem pgN_d {os : List Oj} {x : Ky} (h : pgN os x) : ∃ j u, PgD os x j u := by
  obtain ⟨h1, h2⟩ := h
  have hof := named_of h1
  have hok := hof.1
  have h3 := named_is (os := os) hof
  obtain ⟨u, hu⟩ := Option.isSome_iff_exists.1 h1
  rw [hu] at h3
  have h4 := Option.filter_eq_some_iff.1 h3.symm
  obtain ⟨h5, h6⟩ := h4
  obtain ⟨hlt, hat⟩ := List.getElem?_eq_some_iff.1 h5
  have ho : 0 ≤ x.o := by
    obtain ⟨n, hk, hn, o0, _⟩ := hok
    exact o0
  have hr : x.r = 0 ∨ x.r = 1 := by
    obtain ⟨_, r, hr, hm, _⟩ := ok_of hok
    rw [h2] at hm
    have : rm 3 = 1 := rfl
    omega
  refine ⟨x.o.toNat, u, hu, h2, hok, by omega, hlt, hat, ?_, hr⟩
  have h7 : x.ok ∧ (x.of → x.want = u.k ∧ x.c = u.c ∧ (x.k ≠ 7 ∨ x.l = u.l)) := by
    have : x.cnt u.k u.c u.l = true := h6
    unfold Ky.cnt at this
    simpa using this
  have h8 := (h7.2 hof).1
  unfold Ky.want at h8
  rw [if_pos hof, if_pos h2] at h8
  exact h8.symm
theorem PgD.is {os : List Oj} {x : Ky} {j : Nat} {u : Oj} (h : PgD os x j u) : pgN os x := ⟨by rw [h.nm]; rfl, h.k⟩
set_option maxRecDepth 8000 in
theorem PgD.eq {os : List Oj} {x : Ky} {j : Nat} {u : Oj} (h : PgD os x j u) : (named os x).getD oz = u := by rw [h.nm]; rfl
set_option maxRecDepth 8000 in
theorem PgD.jn {os : List Oj} {x : Ky} {j : Nat} {u : Oj} (h : PgD os x j u) : x.o.toNat = j := by have := h.o; omega
theorem PgD.okU {os : List Oj} {x : Ky} {j : Nat} {u : Oj} (h : PgD os x j u) (ho : okAll os.length os) : u.ok os.length := ho u (h.at_ ▸ List.getElem_mem h.lt)
set_option maxRecDepth 8000 in
theorem layO_ok {m : Int} {u : Oj} (h : u.ok m) (hk : u.k = 2) (a : Nat) (s : List UInt8) : (layO u a s).ok m := by
  unfold layO
  split
  · exact bAs_ok h hk _ _
  · exact h
-- the answers
open Classical in
noncomputable def pgA (os : List Oj) (x : Ky) (ch : Bool) : Int := if pgN os x then (if ch = true ∧ x.r ≠ 0 then 191 else 0) else 190
noncomputable def spE (os : List Oj) (x : Ky) (ch : Bool) (a n : Int) : Int := if pgA os x ch = 0 then (if inB a n then 0 else 4) else pgA os x ch
noncomputable def rdA (os : List Oj) (x : Ky) (a n : Int) : List UInt8 × Int := if spE os x false a n = 0 then ((((named os x).getD oz).b.drop a.toNat).take n.toNat, 0) else ([], spE os x false a n)
noncomputable def wrA (os : List Oj) (x : Ky) (a : Int) (s : List UInt8) : List Oj × Int := if spE os x true a s.length = 0 then (os.set x.o.toNat (layO ((named os x).getD oz) a.toNat s), 0) else (os, spE os x true a s.length)
theorem pgA_no {os : List Oj} {x : Ky} {ch : Bool} (h : ¬ pgN os x) : pgA os x ch = 190 := if_neg h
set_option maxRecDepth 8000 in
theorem pgA_r {os : List Oj} {x : Ky} {ch : Bool} (h : pgN os x) (hc : ch = true) (hr : x.r ≠ 0) : pgA os x ch = 191 := by unfold pgA; rw [if_pos h, if_pos ⟨hc, hr⟩]
set_option maxRecDepth 8000 in
theorem pgA_y {os : List Oj} {x : Ky} {ch : Bool} (h : pgN os x) (hr : ch = false ∨ x.r = 0) : pgA os x ch = 0 := by
  unfold pgA
  rw [if_pos h, if_neg]
  rintro ⟨h1, h2⟩
  rcases hr with h3 | h3
  · rw [h3] at h1; cases h1
  · exact h2 h3
set_option maxRecDepth 8000 in
theorem pgA_0 {os : List Oj} {x : Ky} {ch : Bool} (h : pgA os x ch = 0) : pgN os x ∧ (ch = false ∨ x.r = 0) := by
  unfold pgA at h
  split at h
  · next hp =>
    split at h
    · cases h
    · next hq =>
      refine ⟨hp, ?_⟩
      by_cases hc : ch = true
      · right
        exact Classical.byContradiction fun hr => hq ⟨hc, hr⟩
      · left
        simpa using hc
  · cases h
set_option maxRecDepth 8000 in
theorem spE_0 {os : List Oj} {x : Ky} {ch : Bool} {a n : Int} (h : spE os x ch a n = 0) : pgA os x ch = 0 ∧ inB a n := by
  unfold spE at h
  split at h
  · next h1 =>
    split at h
    · next h2 => exact ⟨h1, h2⟩
    · cases h
  · next h1 => exact absurd h h1
set_option maxRecDepth 8000 in
theorem wrA_len (os : List Oj) (x : Ky) (a : Int) (s : List UInt8) : (wrA os x a s).1.length = os.length := by unfold wrA; split <;> simp
set_option maxRecDepth 8000 in
theorem wrA_ok {os : List Oj} (ho : okAll os.length os) (x : Ky) (a : Int) (s : List UInt8) : okAll os.length (wrA os x a s).1 := by
  unfold wrA
  split
  · next h =>
    obtain ⟨j, u, d⟩ := pgN_d (pgA_0 (spE_0 h).1).1
    rw [d.eq]
    exact okAll_set ho _ (layO_ok (d.okU ho) d.uk _ _)
  · exact ho
end Go.Proofs.YtjolojomgfcfbaaDoor
namespace Go.Proofs.YtjolojomgfcfbaaDoor
open Go.RowKit
set_option maxRecDepth 8000 in
theorem inB_nat {a n : Int} (h : inB a n) : ∃ i k : Nat, a = (i : Int) ∧ n = (k : Int) ∧ i + k ≤ 64 := by
  obtain ⟨h0, h1, h2⟩ := h
  exact ⟨a.toNat, n.toNat, by omega, by omega, by omega⟩
section
variable {w : World} {base p : Nat} {A : Option Addr} {cap : Nat} {ps : List Nat} {os : List Oj}
set_option maxRecDepth 8000 in
theorem spE_n {x : Ky} {ch : Bool} {a n : Int} (h : ¬ pgN os x) : spE os x ch a n = 190 := by
  unfold spE
  rw [pgA_no h, if_neg (by decide)]
set_option maxRecDepth 8000 in
theorem ask_bad (h : StAt w base p A cap ps os) (hn : 0 < os.length) (hT : Tab w) (x : Ky) (ch : Bool) (a n : Int) (ha : a ≤ 9223372036854775807) {m : Int} (hm : spE os x ch a n = m) (h0 : m ≠ 0) :
    Calls Tryd.prog 27 #[pv p, x.val, .bool ch, .agg (spn a n)] w fun e w' => e = .returned (.tuple #[.agg zpgc.toArray, .int .i64 m]) ∧ Below w.heap.size w w' := by
  have hL : (os.length : Int) ≠ 0 := by omega
  have hsz : ∀ W, Below w.heap.size w W → Calls Tryd.prog 35 #[pv p] W fun e w' => e = .returned (.int .i64 (os.length : Int)) ∧ W = w' := fun W hW => size_m (h.below hW) hn rfl
  subst hm
  by_cases hp : pgN os x
  · obtain ⟨j, u, d⟩ := pgN_d hp
    have hnm : ∀ W, Below w.heap.size w W → Calls Tryd.prog 39 #[pv p, x.val] W fun e w' => e = .returned (.tuple #[u.val, .bool true]) ∧ Below W.heap.size W w' := fun W hW => nm_some (h.below hW) hn (hT.below hW) d.nm
    cases ch with
    | true =>
      by_cases hr : x.r = 0
      · have e0 : pgA os x true = 0 := pgA_y hp (.inr hr)
        have e1 : ¬ inB a n := fun hi => h0 (by unfold spE; rw [if_pos e0, if_pos hi])
        have e2 : spE os x true a n = 4 := by unfold spE; rw [if_pos e0, if_neg e1]
        rw [e2]
        exact ask_range_t x true a n _ hL d.k rfl hr ha e1 hnm hsz
      · have e0 : pgA os x true = 191 := pgA_r hp rfl hr
        have e2 : spE os x true a n = 191 := by unfold spE; rw [e0, if_neg (by decide)]
        rw [e2]
        exact ask_right x true a n _ hL d.k rfl (d.r.resolve_left hr) hnm hsz
    | false =>
      have e0 : pgA os x false = 0 := pgA_y hp (.inl rfl)
      have e1 : ¬ inB a n := fun hi => h0 (by unfold spE; rw [if_pos e0, if_pos hi])
      have e2 : spE os x false a n = 4 := by unfold spE; rw [if_pos e0, if_neg e1]
      rw [e2]
      exact ask_range_f x false a n _ hL d.k rfl ha e1 hnm hsz
  · rw [spE_n hp]
    by_cases hs : (named os x).isSome = true
    · obtain ⟨u, hu⟩ := Option.isSome_iff_exists.1 hs
      exact ask_kindG (u := u) x ch a n _ hL (fun hk => hp ⟨hs, hk⟩) (fun W hW => nm_some (h.below hW) hn (hT.below hW) hu) hsz
    · exact ask_unG (u := oz) x ch a n _ hL (fun W hW => nm_none (h.below hW) hn (hT.below hW) (by simpa using hs)) hsz
set_option maxRecDepth 8000 in
theorem ask_good (h : StAt w base p A cap ps os) (hn : 0 < os.length) (hT : Tab w) (x : Ky) (ch : Bool) (a n : Int) (ha : a ≤ 9223372036854775807) (h0 : spE os x ch a n = 0) {j : Nat} {u : Oj} (d : PgD os x j u) :
    Calls Tryd.prog 27 #[pv p, x.val, .bool ch, .agg (spn a n)] w fun e w' => e = .returned (.tuple #[.agg (pgc p x.o u).toArray, .int .i64 0]) ∧ Below w.heap.size w w' := by
  have hL : (os.length : Int) ≠ 0 := by omega
  have hsz : ∀ W, Below w.heap.size w W → Calls Tryd.prog 35 #[pv p] W fun e w' => e = .returned (.int .i64 (os.length : Int)) ∧ W = w' := fun W hW => size_m (h.below hW) hn rfl
  have hnm : ∀ W, Below w.heap.size w W → Calls Tryd.prog 39 #[pv p, x.val] W fun e w' => e = .returned (.tuple #[u.val, .bool true]) ∧ Below W.heap.size W w' := fun W hW => nm_some (h.below hW) hn (hT.below hW) d.nm
  obtain ⟨hp, hi⟩ := spE_0 h0
  have hr := (pgA_0 hp).2
  cases ch with
  | true => exact ask_yes_t x true a n _ hL d.k rfl (hr.resolve_left (by decide)) ha hi hnm hsz
  | false => exact ask_yes_f x false a n _ hL d.k rfl ha hi hnm hsz
set_option maxRecDepth 8000 in
theorem write_all (h : StAt w base p A cap ps os) (ho : okAll os.length os) (hn : 0 < os.length) (hT : Tab w) (x : Ky) (a : Int) (ha : a ≤ 9223372036854775807) (s : List UInt8) :
    Calls Tryd.prog 16 #[pv p, x.val, .int .i64 a, .string (st s)] w fun e w' => e = .returned (.int .i64 (wrA os x a s).2) ∧ StAt w' base p A cap ps (wrA os x a s).1 ∧ Fr (fun k => k ∈ ps) w w' := by
  unfold wrA
  split
  · next h0 =>
    obtain ⟨j, u, d⟩ := pgN_d (pgA_0 (spE_0 h0).1).1
    obtain ⟨i, k, rfl, hk, hik⟩ := inB_nat (spE_0 h0).2
    rw [d.eq, Int.toNat_natCast, d.jn]
    exact nwrite_yes h hT x j d.lt d.o i s (by omega) (layO_ok (d.okU ho) d.uk _ _) fun W hW => ask_good (h.below hW) hn (hT.below hW) x true _ _ ha h0 d
  · next h0 => exact (nwrite_err x a s _ h0 fun W hW => ask_bad (h.below hW) hn (hT.below hW) x true a _ ha rfl h0).mono fun e w' hb => ⟨hb.1, h.below hb.2, Fr.of_below hb.2⟩
end
section
variable {w : World} {A : Option Addr} {l : List Oj} {n cap : Nat}
end
end Go.Proofs.YtjolojomgfcfbaaDoor
namespace Go.Proofs.YtjolojomgfcfbaaDoor
open Go.RowKit
section
variable {os : List Oj} {j : Nat} {u U : Oj}
end
/-- a page that was given once, its key -/
def kn10 : Oj := ⟨2, 1, 0, zks, zbs, rfl, rfl⟩
def knk10 : Ky := ⟨3, 0, 1, 0, 0, 0⟩
set_option maxRecDepth 8000 in
theorem built10 : Tryd.prog.built 33 [(0, .int .i64 2), (1, .int .i64 1)] = some kn10.cells.toArray := by kernel_rfl
set_option maxRecDepth 8000 in
theorem builtK10 : Tryd.prog.built 29 [(0, .int .i64 3), (2, .int .i64 1)] = some (kl knk10).toArray := by kernel_rfl
theorem kn10_ok : kn10.ok 1 := ⟨by decide, by decide, by decide, .inr (.inl ⟨rfl, by decide⟩)⟩
theorem knk10_ok : knk10.ok := ⟨3, rfl, by decide, by decide, by decide, by decide, by decide, by decide, by decide, by decide, by decide, .inl rfl⟩
theorem knk10_of : knk10.of := ⟨knk10_ok, by decide, by decide⟩
set_option maxRecDepth 8000 in
theorem knk10_cn : knk10.cn kn10 = true := by
  unfold Ky.cn
  refine cnt_yes ⟨knk10_ok, fun h => ⟨?_, rfl, .inl (by decide)⟩⟩
  unfold Ky.want
  rw [if_pos h]
  rfl
theorem kn10_d : PgD [kn10] knk10 0 kn10 := ⟨by
  rw [named_is knk10_of]
  have e : ([kn10] : List Oj)[knk10.o.toNat]? = some kn10 := rfl
  rw [e, Option.filter_some, knk10_cn]
  rfl, rfl, knk10_ok, rfl, by decide, rfl, rfl, .inl rfl⟩
theorem kn10_all : okAll ([kn10] : List Oj).length [kn10] := fun x hx => by
  rw [List.mem_singleton.1 hx]
  exact kn10_ok
theorem kn10_right : rightP [kn10] := ⟨by decide, by decide, kn10_all⟩
end Go.Proofs.YtjolojomgfcfbaaDoor
namespace Go.Proofs.YtjolojomgfcfbaaDoor
open Go.RowKit
theorem Kb.fr {w W W' : World} {bs : List (Nat × TypeId × Array Value)} {N1 : Nat} (h : Kb w bs N1 W) {ps : List Nat} (hf : Fr (fun i => i ∈ ps) W W') (hp : ∀ i ∈ ps, N1 ≤ i) : Kb w bs N1 W' :=
  ⟨h.bel.trans (hf.to_below (fun i hi => Nat.le_trans h.n0 (hp i hi)) h.bel.size), h.n0, Nat.le_trans h.sz hf.size, fun b hm => ⟨(h.blk b hm).1, (hf.block b.1 (h.blk b hm).2.lt (fun hi => by have := hp _ hi; have := (h.blk b hm).1; omega)).trans (h.blk b hm).2⟩⟩
end Go.Proofs.YtjolojomgfcfbaaDoor

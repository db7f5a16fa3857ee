/- pages: what each call answers, of any store: plain. -/
import Derived.Test.YtfckdbennjkgoaaDoorR24
import Derived.Test.YtfckdbennjkgoaaDoorR21
import Derived.Laws.Strings2
import Derived.Laws.Concat
import Derived.WalkSpells
namespace Go.Proofs.YtfckdbennjkgoaaDoor
open Go.RowKit
/-- it is the key of a page that counts -/
def pgN (os : List Oj) (x : Ky) : Prop := (named os x).isSome = true ∧ x.k = 3
structure PgD (os : List Oj) (x : Ky) (j : Nat) (u : Oj) : Prop where
  nm : named os x = some u
  k : x.k = 3
  ok : x.ok
  o : x.o = (j : Int)
  lt : j < os.length
  at_ : os[j] = u
  uk : u.k = 2
  r : x.r = 0 ∨ x.r = 1
set_option maxRecDepth 8000 in
theorem pgN_d {os : List Oj} {x : Ky} (h : pgN os x) : ∃ j u, PgD os x j u := by
  obtain ⟨h1, h2⟩ := h
  have hof := named_of h1
  have hok := hof.1
  have h3 := named_is (os := os) hof
  obtain ⟨u, hu⟩ := Option.isSome_iff_exists.1 h1
  rw [hu] at h3
  have h4 := Option.filter_eq_some_iff.1 h3.symm
  obtain ⟨h5, h6⟩ := h4
  obtain ⟨hlt, hat⟩ := List.getElem?_eq_some_iff.1 h5
  have ho : 0 ≤ x.o := by
    obtain ⟨n, hk, hn, o0, _⟩ := hok
    exact o0
  have hr : x.r = 0 ∨ x.r = 1 := by
    obtain ⟨_, r, hr, hm, _⟩ := ok_of hok
    rw [h2] at hm
    have : rm 3 = 1 := rfl
    omega
  refine ⟨x.o.toNat, u, hu, h2, hok, by omega, hlt, hat, ?_, hr⟩
  have h7 : x.ok ∧ (x.of → x.want = u.k ∧ x.c = u.c ∧ (x.k ≠ 7 ∨ x.l = u.l)) := by
    have : x.cnt u.k u.c u.l = true := h6
    unfold Ky.cnt at this
    simpa using this
  have h8 := (h7.2 hof).1
  unfold Ky.want at h8
  rw [if_pos hof, if_pos h2] at h8
  exact h8.symm
theorem PgD.is {os : List Oj} {x : Ky} {j : Nat} {u : Oj} (h : PgD os x j u) : pgN os x := ⟨by rw [h.nm]; rfl, h.k⟩
set_option maxRecDepth 8000 in
theorem PgD.eq {os : List Oj} {x : Ky} {j : Nat} {u : Oj} (h : PgD os x j u) : (named os x).getD oz = u := by rw [h.nm]; rfl
set_option maxRecDepth 8000 in
theorem PgD.jn {os : List Oj} {x : Ky} {j : Nat} {u : Oj} (h : PgD os x j u) : x.o.toNat = j := by have := h.o; omega
theorem PgD.okU {os : List Oj} {x : Ky} {j : Nat} {u : Oj} (h : PgD os x j u) (ho : okAll os.length os) : u.ok os.length := ho u (h.at_ ▸ List.getElem_mem h.lt)
set_option maxRecDepth 8000 in
theorem layO_ok {m : Int} {u : Oj} (h : u.ok m) (hk : u.k = 2) (a : Nat) (s : List UInt8) : (layO u a s).ok m := by
  unfold layO
  split
  · exact bAs_ok h hk _ _
  · exact h
-- the answers
open Classical in
noncomputable def pgA (os : List Oj) (x : Ky) (ch : Bool) : Int := if pgN os x then (if ch = true ∧ x.r ≠ 0 then 191 else 0) else 190
noncomputable def spE (os : List Oj) (x : Ky) (ch : Bool) (a n : Int) : Int := if pgA os x ch = 0 then (if inB a n then 0 else 4) else pgA os x ch
noncomputable def rdA (os : List Oj) (x : Ky) (a n : Int) : List UInt8 × Int := if spE os x false a n = 0 then ((((named os x).getD oz).b.drop a.toNat).take n.toNat, 0) else ([], spE os x false a n)
noncomputable def wrA (os : List Oj) (x : Ky) (a : Int) (s : List UInt8) : List Oj × Int := if spE os x true a s.length = 0 then (os.set x.o.toNat (layO ((named os x).getD oz) a.toNat s), 0) else (os, spE os x true a s.length)
noncomputable def wpA (os : List Oj) (x : Ky) : List Oj × Int := if pgA os x true = 0 then (os.set x.o.toNat (bAs ((named os x).getD oz) zbs rfl), 0) else (os, pgA os x true)
noncomputable def cpE (os : List Oj) (x y : Ky) : Int := if pgA os x true = 0 then pgA os y false else pgA os x true
noncomputable def cpA (os : List Oj) (x y : Ky) : List Oj × Int := if cpE os x y = 0 then (os.set x.o.toNat (bAs ((named os x).getD oz) ((named os y).getD oz).b ((named os y).getD oz).hb), 0) else (os, cpE os x y)
theorem pgA_no {os : List Oj} {x : Ky} {ch : Bool} (h : ¬ pgN os x) : pgA os x ch = 190 := if_neg h
set_option maxRecDepth 8000 in
theorem pgA_r {os : List Oj} {x : Ky} {ch : Bool} (h : pgN os x) (hc : ch = true) (hr : x.r ≠ 0) : pgA os x ch = 191 := by unfold pgA; rw [if_pos h, if_pos ⟨hc, hr⟩]
set_option maxRecDepth 8000 in
theorem pgA_y {os : List Oj} {x : Ky} {ch : Bool} (h : pgN os x) (hr : ch = false ∨ x.r = 0) : pgA os x ch = 0 := by
  unfold pgA
  rw [if_pos h, if_neg]
  rintro ⟨h1, h2⟩
  rcases hr with h3 | h3
  · rw [h3] at h1; cases h1
  · exact h2 h3
set_option maxRecDepth 8000 in
theorem pgA_0 {os : List Oj} {x : Ky} {ch : Bool} (h : pgA os x ch = 0) : pgN os x ∧ (ch = false ∨ x.r = 0) := by
  unfold pgA at h
  split at h
  · next hp =>
    split at h
    · cases h
    · next hq =>
      refine ⟨hp, ?_⟩
      by_cases hc : ch = true
      · right
        exact Classical.byContradiction fun hr => hq ⟨hc, hr⟩
      · left
        simpa using hc
  · cases h
set_option maxRecDepth 8000 in
theorem spE_0 {os : List Oj} {x : Ky} {ch : Bool} {a n : Int} (h : spE os x ch a n = 0) : pgA os x ch = 0 ∧ inB a n := by
  unfold spE at h
  split at h
  · next h1 =>
    split at h
    · next h2 => exact ⟨h1, h2⟩
    · cases h
  · next h1 => exact absurd h h1
set_option maxRecDepth 8000 in
theorem wrA_len (os : List Oj) (x : Ky) (a : Int) (s : List UInt8) : (wrA os x a s).1.length = os.length := by unfold wrA; split <;> simp
set_option maxRecDepth 8000 in
theorem wpA_len (os : List Oj) (x : Ky) : (wpA os x).1.length = os.length := by unfold wpA; split <;> simp
set_option maxRecDepth 8000 in
theorem cpA_len (os : List Oj) (x y : Ky) : (cpA os x y).1.length = os.length := by unfold cpA; split <;> simp
set_option maxRecDepth 8000 in
theorem wrA_ok {os : List Oj} (ho : okAll os.length os) (x : Ky) (a : Int) (s : List UInt8) : okAll os.length (wrA os x a s).1 := by
  unfold wrA
  split
  · next h =>
    obtain ⟨j, u, d⟩ := pgN_d (pgA_0 (spE_0 h).1).1
    rw [d.eq]
    exact okAll_set ho _ (layO_ok (d.okU ho) d.uk _ _)
  · exact ho
set_option maxRecDepth 8000 in
theorem wpA_ok {os : List Oj} (ho : okAll os.length os) (x : Ky) : okAll os.length (wpA os x).1 := by
  unfold wpA
  split
  · next h =>
    obtain ⟨j, u, d⟩ := pgN_d (pgA_0 h).1
    rw [d.eq]
    exact okAll_set ho _ (bAs_ok (d.okU ho) d.uk _ _)
  · exact ho
set_option maxRecDepth 8000 in
theorem cpA_ok {os : List Oj} (ho : okAll os.length os) (x y : Ky) : okAll os.length (cpA os x y).1 := by
  unfold cpA
  split
  · next h =>
    have h1 : pgA os x true = 0 := by
      unfold cpE at h
      split at h
      · next h1 => exact h1
      · next h1 => exact absurd h h1
    obtain ⟨j, u, d⟩ := pgN_d (pgA_0 h1).1
    simp only [d.eq]
    exact okAll_set ho _ (bAs_ok (d.okU ho) d.uk _ _)
  · exact ho
end Go.Proofs.YtfckdbennjkgoaaDoor
namespace Go.Proofs.YtfckdbennjkgoaaDoor
open Go.RowKit
set_option maxRecDepth 8000 in
theorem inB_nat {a n : Int} (h : inB a n) : ∃ i k : Nat, a = (i : Int) ∧ n = (k : Int) ∧ i + k ≤ 64 := by
  obtain ⟨h0, h1, h2⟩ := h
  exact ⟨a.toNat, n.toNat, by omega, by omega, by omega⟩
section
variable {w : World} {base p : Nat} {A : Option Addr} {cap : Nat} {ps : List Nat} {os : List Oj}
set_option maxRecDepth 8000 in
theorem spE_n {x : Ky} {ch : Bool} {a n : Int} (h : ¬ pgN os x) : spE os x ch a n = 190 := by
  unfold spE
  rw [pgA_no h, if_neg (by decide)]
set_option maxRecDepth 8000 in
theorem ask_bad (h : StAt w base p A cap ps os) (hn : 0 < os.length) (hT : Tab w) (x : Ky) (ch : Bool) (a n : Int) (ha : a ≤ 9223372036854775807) {m : Int} (hm : spE os x ch a n = m) (h0 : m ≠ 0) :
    Calls Tryd.prog 59 #[pv p, x.val, .bool ch, .agg (spn a n)] w fun e w' => e = .returned (.tuple #[.agg zpgc.toArray, .int .i64 m]) ∧ Below w.heap.size w w' := by
  have hL : (os.length : Int) ≠ 0 := by omega
  have hsz : ∀ W, Below w.heap.size w W → Calls Tryd.prog 41 #[pv p] W fun e w' => e = .returned (.int .i64 (os.length : Int)) ∧ W = w' := fun W hW => size_m (h.below hW) hn rfl
  subst hm
  by_cases hp : pgN os x
  · obtain ⟨j, u, d⟩ := pgN_d hp
    have hnm : ∀ W, Below w.heap.size w W → Calls Tryd.prog 82 #[pv p, x.val] W fun e w' => e = .returned (.tuple #[u.val, .bool true]) ∧ Below W.heap.size W w' := fun W hW => nm_some (h.below hW) hn (hT.below hW) d.nm
    cases ch with
    | true =>
      by_cases hr : x.r = 0
      · have e0 : pgA os x true = 0 := pgA_y hp (.inr hr)
        have e1 : ¬ inB a n := fun hi => h0 (by unfold spE; rw [if_pos e0, if_pos hi])
        have e2 : spE os x true a n = 4 := by unfold spE; rw [if_pos e0, if_neg e1]
        rw [e2]
        exact ask_range_t x true a n _ hL d.k rfl hr ha e1 hnm hsz
      · have e0 : pgA os x true = 191 := pgA_r hp rfl hr
        have e2 : spE os x true a n = 191 := by unfold spE; rw [e0, if_neg (by decide)]
        rw [e2]
        exact ask_right x true a n _ hL d.k rfl (d.r.resolve_left hr) hnm hsz
    | false =>
      have e0 : pgA os x false = 0 := pgA_y hp (.inl rfl)
      have e1 : ¬ inB a n := fun hi => h0 (by unfold spE; rw [if_pos e0, if_pos hi])
      have e2 : spE os x false a n = 4 := by unfold spE; rw [if_pos e0, if_neg e1]
      rw [e2]
      exact ask_range_f x false a n _ hL d.k rfl ha e1 hnm hsz
  · rw [spE_n hp]
    by_cases hs : (named os x).isSome = true
    · obtain ⟨u, hu⟩ := Option.isSome_iff_exists.1 hs
      exact ask_kindG (u := u) x ch a n _ hL (fun hk => hp ⟨hs, hk⟩) (fun W hW => nm_some (h.below hW) hn (hT.below hW) hu) hsz
    · exact ask_unG (u := oz) x ch a n _ hL (fun W hW => nm_none (h.below hW) hn (hT.below hW) (by simpa using hs)) hsz
set_option maxRecDepth 8000 in
theorem ask_good (h : StAt w base p A cap ps os) (hn : 0 < os.length) (hT : Tab w) (x : Ky) (ch : Bool) (a n : Int) (ha : a ≤ 9223372036854775807) (h0 : spE os x ch a n = 0) {j : Nat} {u : Oj} (d : PgD os x j u) :
    Calls Tryd.prog 59 #[pv p, x.val, .bool ch, .agg (spn a n)] w fun e w' => e = .returned (.tuple #[.agg (pgc p x.o u).toArray, .int .i64 0]) ∧ Below w.heap.size w w' := by
  have hL : (os.length : Int) ≠ 0 := by omega
  have hsz : ∀ W, Below w.heap.size w W → Calls Tryd.prog 41 #[pv p] W fun e w' => e = .returned (.int .i64 (os.length : Int)) ∧ W = w' := fun W hW => size_m (h.below hW) hn rfl
  have hnm : ∀ W, Below w.heap.size w W → Calls Tryd.prog 82 #[pv p, x.val] W fun e w' => e = .returned (.tuple #[u.val, .bool true]) ∧ Below W.heap.size W w' := fun W hW => nm_some (h.below hW) hn (hT.below hW) d.nm
  obtain ⟨hp, hi⟩ := spE_0 h0
  have hr := (pgA_0 hp).2
  cases ch with
  | true => exact ask_yes_t x true a n _ hL d.k rfl (hr.resolve_left (by decide)) ha hi hnm hsz
  | false => exact ask_yes_f x false a n _ hL d.k rfl ha hi hnm hsz
set_option maxRecDepth 8000 in
theorem read_all (h : StAt w base p A cap ps os) (hn : 0 < os.length) (hT : Tab w) (x : Ky) (a n : Int) (ha : a ≤ 9223372036854775807) :
    Calls Tryd.prog 38 #[pv p, x.val, .int .i64 a, .int .i64 n] w fun e w' => e = .returned (.tuple #[.string (st (rdA os x a n).1), .int .i64 (rdA os x a n).2]) ∧ Below w.heap.size w w' := by
  unfold rdA
  split
  · next h0 =>
    obtain ⟨j, u, d⟩ := pgN_d (pgA_0 (spE_0 h0).1).1
    obtain ⟨i, k, rfl, rfl, hik⟩ := inB_nat (spE_0 h0).2
    rw [d.eq, Int.toNat_natCast, Int.toNat_natCast]
    exact nread_yes x i k hik fun W hW => ask_good (h.below hW) hn (hT.below hW) x false _ _ ha h0 d
  · next h0 => exact nread_err x a n _ h0 fun W hW => ask_bad (h.below hW) hn (hT.below hW) x false a n ha rfl h0
set_option maxRecDepth 8000 in
theorem write_all (h : StAt w base p A cap ps os) (ho : okAll os.length os) (hn : 0 < os.length) (hT : Tab w) (x : Ky) (a : Int) (ha : a ≤ 9223372036854775807) (s : List UInt8) :
    Calls Tryd.prog 35 #[pv p, x.val, .int .i64 a, .string (st s)] w fun e w' => e = .returned (.int .i64 (wrA os x a s).2) ∧ StAt w' base p A cap ps (wrA os x a s).1 ∧ Fr (fun k => k ∈ ps) w w' := by
  unfold wrA
  split
  · next h0 =>
    obtain ⟨j, u, d⟩ := pgN_d (pgA_0 (spE_0 h0).1).1
    obtain ⟨i, k, rfl, hk, hik⟩ := inB_nat (spE_0 h0).2
    rw [d.eq, Int.toNat_natCast, d.jn]
    exact nwrite_yes h hT x j d.lt d.o i s (by omega) (layO_ok (d.okU ho) d.uk _ _) fun W hW => ask_good (h.below hW) hn (hT.below hW) x true _ _ ha h0 d
  · next h0 => exact (nwrite_err x a s _ h0 fun W hW => ask_bad (h.below hW) hn (hT.below hW) x true a _ ha rfl h0).mono fun e w' hb => ⟨hb.1, h.below hb.2, Fr.of_below hb.2⟩
theorem in64 : inB 0 64 := ⟨by decide, by decide, by decide⟩
set_option maxRecDepth 8000 in
theorem spE_w {x : Ky} {ch : Bool} : spE os x ch 0 64 = pgA os x ch := by
  unfold spE
  split
  · next h => rw [if_pos in64, h]
  · rfl
end
section
variable {w : World} {A : Option Addr} {l : List Oj} {n cap : Nat}
set_option maxRecDepth 8000 in
theorem rpage_any (hr : RdO w A l) (hn : l.length = n) (hl : n ≤ 1000) (h0 : 0 < n) (x : Ky) (ch : Bool) :
    Calls Tryd.prog 70 #[.slice A n cap, x.val, .bool ch] w fun e w' => e = .returned (.int .i64 (pgA l x ch)) ∧ Below w.heap.size w w' := by
  by_cases hp : pgN l x
  · have ha : ∀ W, Below w.heap.size w W → Calls Tryd.prog 88 #[.slice A n cap, x.val, .int .i64 3, .bool false] W fun e w' => e = .returned (.int .i64 0) ∧ Below W.heap.size W w' := fun W hW => rask3_yes (hr.below hW) hn hl h0 x hp.1 hp.2
    cases ch with
    | true =>
      by_cases hr0 : x.r = 0
      · rw [pgA_y hp (.inr hr0)]
        exact rpage_y x true rfl hr0 ha
      · rw [pgA_r hp rfl hr0]
        exact rpage_r x true rfl hr0 ha
    | false =>
      rw [pgA_y hp (.inl rfl)]
      exact rpage_f x false rfl ha
  · rw [pgA_no hp]
    refine rpage_err x ch 190 (by decide) fun W hW => ?_
    by_cases hs : (named l x).isSome = true
    · exact rask3_kind (hr.below hW) hn hl h0 x hs fun hk => hp ⟨hs, hk⟩
    · exact rask3_un (hr.below hW) hn hl h0 x (by simpa using hs)
theorem rpage_is (hr : RdO w A l) (hn : l.length = n) (hl : n ≤ 1000) (h0 : 0 < n) (x : Ky) (ch : Bool) {m : Int} (hm : pgA l x ch = m) :
    ∀ W, Below w.heap.size w W → Calls Tryd.prog 70 #[.slice A n cap, x.val, .bool ch] W fun e w' => e = .returned (.int .i64 m) ∧ Below W.heap.size W w' := fun _ hW => hm ▸ rpage_any (hr.below hW) hn hl h0 x ch
set_option maxRecDepth 8000 in
theorem rwrite_all (hr : RdO w A l) (hn : l.length = n) (hl : n ≤ 1000) (h0 : 0 < n) (x : Ky) (a : Int) (s : List UInt8) :
    Calls Tryd.prog 44 #[.slice A n cap, x.val, .int .i64 a, .string (st s)] w fun e w' => ∃ A' c', e = .returned (.tuple #[.slice A' n c', .int .i64 (wrA l x a s).2]) ∧ (A' = A ∨ ∃ g, A' = some ⟨g, 0, none⟩ ∧ w.heap.size ≤ g) ∧ RdO w' A' (wrA l x a s).1 ∧ Below w.heap.size w w' := by
  have fin : ∀ {m : Int}, Calls Tryd.prog 44 #[.slice A n cap, x.val, .int .i64 a, .string (st s)] w (fun e w' => e = .returned (.tuple #[.slice A n cap, .int .i64 m]) ∧ Below w.heap.size w w') → Calls Tryd.prog 44 #[.slice A n cap, x.val, .int .i64 a, .string (st s)] w fun e w' => ∃ A' c', e = .returned (.tuple #[.slice A' n c', .int .i64 m]) ∧ (A' = A ∨ ∃ g, A' = some ⟨g, 0, none⟩ ∧ w.heap.size ≤ g) ∧ RdO w' A' l ∧ Below w.heap.size w w' :=
    fun hc => hc.mono fun e w' hb => ⟨A, cap, hb.1, .inl rfl, hr.below hb.2, hb.2⟩
  unfold wrA spE
  by_cases hp : pgA l x true = 0
  · rw [if_pos hp]
    by_cases hi : inB a s.length
    · rw [if_pos hi, if_pos rfl]
      obtain ⟨j, u, d⟩ := pgN_d (pgA_0 hp).1
      obtain ⟨i, m, rfl, hm, him⟩ := inB_nat hi
      rw [d.eq, Int.toNat_natCast, d.jn]
      refine (rwrite_yes hr hn hl x j d.lt d.o u d.at_ i s (by omega) (rpage_is hr hn hl h0 x true hp)).mono ?_
      rintro e w' ⟨g', c', h1, h2, h3, h5⟩
      exact ⟨_, c', h1, .inr ⟨g', rfl, h2⟩, h3, h5⟩
    · rw [if_neg hi, if_neg (by decide)]
      exact fin (rwrite_range x a s hi (rpage_is hr hn hl h0 x true hp))
  · rw [if_neg hp, if_neg hp]
    exact fin (rwrite_err x a s _ hp (rpage_is hr hn hl h0 x true rfl))
end
end Go.Proofs.YtfckdbennjkgoaaDoor
namespace Go.Proofs.YtfckdbennjkgoaaDoor
open Go.RowKit
section
variable {os : List Oj} {j : Nat} {u U : Oj}
theorem cn_bAs (y : Ky) (u : Oj) (l : List UInt8) (hl : l.length = 64) : y.cn (bAs u l hl) = y.cn u := rfl
set_option maxRecDepth 8000 in
theorem cn_layO (y : Ky) (u : Oj) (a : Nat) (s : List UInt8) : y.cn (layO u a s) = y.cn u := by
  unfold layO
  split <;> rfl
set_option maxRecDepth 8000 in
theorem layO_k (u : Oj) (a : Nat) (s : List UInt8) : (layO u a s).k = u.k := by
  unfold layO
  split <;> rfl
set_option maxRecDepth 8000 in
theorem named_setO (hj : j < os.length) (hu : os[j] = u) (hU : ∀ y : Ky, y.cn U = y.cn u) (y : Ky) : named (os.set j U) y = if y.o.toNat = j then (named os y).map (fun _ => U) else named os y := by
  by_cases hy : y.of
  · rw [named_is hy, named_is hy]
    by_cases e : y.o.toNat = j
    · subst e
      rw [if_pos rfl, List.getElem?_set_self hj, List.getElem?_eq_getElem hj, hu]
      have hcs := hU y
      simp only [Option.filter_some]
      by_cases hc : y.cn u = true
      · rw [if_pos hc, if_pos (hcs.trans hc)]
        rfl
      · rw [if_neg hc, if_neg (fun h => hc (hcs.symm.trans h))]
        rfl
    · rw [if_neg e, List.getElem?_set_ne (fun h => e h.symm)]
  · rw [named_not hy, named_not hy]
    split <;> rfl
theorem PgD.setO {x : Ky} (d : PgD os x j u) (hU : ∀ y : Ky, y.cn U = y.cn u) (hk : U.k = 2) : PgD (os.set j U) x j U :=
  ⟨by rw [named_setO d.lt d.at_ hU, if_pos d.jn, d.nm]; rfl, d.k, d.ok, d.o, by rw [List.length_set]; exact d.lt, by rw [List.getElem_set_self], hk, d.r⟩
theorem pgA_d {x : Ky} (d : PgD os x j u) {ch : Bool} (hr : ch = false ∨ x.r = 0) : pgA os x ch = 0 := pgA_y d.is hr
set_option maxRecDepth 8000 in
theorem rdA_d {x : Ky} (d : PgD os x j u) {a n : Nat} (h : a + n ≤ 64) : rdA os x (a : Int) (n : Int) = ((u.b.drop a).take n, 0) := by
  have e : spE os x false (a : Int) (n : Int) = 0 := by
    unfold spE
    rw [pgA_d d (.inl rfl), if_pos rfl, if_pos ⟨by omega, by omega, by omega⟩]
  unfold rdA
  rw [if_pos e, d.eq, Int.toNat_natCast, Int.toNat_natCast]
set_option maxRecDepth 8000 in
theorem wrA_d {x : Ky} (d : PgD os x j u) (hr : x.r = 0) {a : Nat} {s : List UInt8} (h : a + s.length ≤ 64) : wrA os x (a : Int) s = (os.set j (layO u a s), 0) := by
  have e : spE os x true (a : Int) (s.length : Int) = 0 := by
    unfold spE
    rw [pgA_d d (.inr hr), if_pos rfl, if_pos ⟨by omega, by omega, by omega⟩]
  unfold wrA
  rw [if_pos e, d.eq, Int.toNat_natCast, d.jn]
end
/-- a page that was given once, its key -/
def kn10 : Oj := ⟨2, 1, 0, zks, zbs, rfl, rfl⟩
def knk10 : Ky := ⟨3, 0, 1, 0, 0, 0⟩
set_option maxRecDepth 8000 in
theorem built10 : Tryd.prog.built 52 [(0, .int .i64 2), (1, .int .i64 1)] = some kn10.cells.toArray := by kernel_rfl
set_option maxRecDepth 8000 in
theorem builtK10 : Tryd.prog.built 31 [(0, .int .i64 3), (2, .int .i64 1)] = some (kl knk10).toArray := by kernel_rfl
theorem kn10_ok : kn10.ok 1 := ⟨by decide, by decide, by decide, .inr (.inl ⟨rfl, by decide⟩)⟩
theorem knk10_ok : knk10.ok := ⟨3, rfl, by decide, by decide, by decide, by decide, by decide, by decide, by decide, by decide, by decide, .inl rfl⟩
theorem knk10_of : knk10.of := ⟨knk10_ok, by decide, by decide⟩
set_option maxRecDepth 8000 in
theorem knk10_cn : knk10.cn kn10 = true := by
  unfold Ky.cn
  refine cnt_yes ⟨knk10_ok, fun h => ⟨?_, rfl, .inl (by decide)⟩⟩
  unfold Ky.want
  rw [if_pos h]
  rfl
theorem kn10_d : PgD [kn10] knk10 0 kn10 := ⟨by
  rw [named_is knk10_of]
  have e : ([kn10] : List Oj)[knk10.o.toNat]? = some kn10 := rfl
  rw [e, Option.filter_some, knk10_cn]
  rfl, rfl, knk10_ok, rfl, by decide, rfl, rfl, .inl rfl⟩
theorem kn10_all : okAll ([kn10] : List Oj).length [kn10] := fun x hx => by
  rw [List.mem_singleton.1 hx]
  exact kn10_ok
theorem kn10_right : rightP [kn10] := ⟨by decide, by decide, kn10_all⟩
def kn10' : Oj := layO kn10 62 [97, 98]
theorem kn10_write : wrA [kn10] knk10 62 [97, 98] = ([kn10'], 0) := wrA_d kn10_d rfl (a := 62) (by decide)
set_option maxRecDepth 8000 in
theorem kn10_read : rdA [kn10'] knk10 61 3 = ([0, 97, 98], 0) := by
  have d : PgD [kn10'] knk10 0 kn10' := kn10_d.setO (fun y => cn_layO y _ _ _) (layO_k _ _ _)
  have e : ((kn10'.b.drop 61).take 3) = [0, 97, 98] := by
    unfold kn10'
    rw [layO_b (by decide)]
    rfl
  have := rdA_d d (a := 61) (n := 3) (by decide)
  rw [e] at this
  exact this
end Go.Proofs.YtfckdbennjkgoaaDoor
namespace Go.Proofs.YtfckdbennjkgoaaDoor
open Go.RowKit
set_option maxRecDepth 8000 in
theorem st_add (a b : List UInt8) : st a ++ st b = st (a ++ b) := by
  apply ByteArray.ext
  simp [st]
set_option maxRecDepth 8000 in
theorem y_addst {ops : Array Oper} {S : World → Prop} {o : Oper} {a : Act} (hw : Region.wanted o (yielded ops a.tmps) = true) (x y : Operand) (ho : o.op = .binOp .add 9 x y 9)
    (u v r : List UInt8) (hx : a.eval x = .string (st u)) (hy : a.eval y = .string (st v)) (hr : u ++ v = r) (hs : r.length ≤ 1000) : YieldsIf Tryd.prog ops S o (.string (st r)) a :=
  .inl ⟨hw, fun w _ => by
    have h1 : (st u).size + (st v).size ≤ 9223372036854775807 := by
      rw [st_size, st_size]
      have := congrArg List.length hr
      rw [List.length_append] at this
      omega
    unfold execOp
    simp only [ho, hx, hy, Sem.run_bind, binOp_string_add, run_string_add_sum w (st u) (st v) h1, Result.andThen_ok, Sem.run_pure, eqGuard, Bool.not_false, if_true, st_add, hr]⟩
theorem st_extract (l : List UInt8) (a b : Nat) : (st l).extract a b = st ((l.drop a).take (b - a)) := ByteArray.extract_mk l a b
set_option maxRecDepth 8000 in
theorem run_st_hi (t : TypeId) (h : Tryd.prog.underlying t = some .string) (l : List UInt8) (a : Nat) (ha : a ≤ l.length) (W : World) : (Instr.slice t (.string (st l)) none (some (.int .i64 (a : Int))) none).run Tryd.prog W = .ok (.string (st (l.take a))) W := by
  have h1 : (a : Int) ≤ ((st l).size : Int) := by rw [st_size]; omega
  have h2 : ((a : Int) ≤ (l.length : Int)) := by omega
  have e := st_extract l 0 a
  rw [List.drop_zero, Nat.sub_zero] at e
  simp [Instr.slice, Instr.sliceBounds, Instr.sliceBound, asIntOf, run_underlying h, st_size, ha, e]
set_option maxRecDepth 8000 in
theorem run_st_lo (t : TypeId) (h : Tryd.prog.underlying t = some .string) (l : List UInt8) (a : Nat) (ha : a ≤ l.length) (W : World) : (Instr.slice t (.string (st l)) (some (.int .i64 (a : Int))) none none).run Tryd.prog W = .ok (.string (st (l.drop a))) W := by
  have h1 : (a : Int) ≤ ((st l).size : Int) := by rw [st_size]; omega
  have h2 : ((a : Int) ≤ (l.length : Int)) := by omega
  have e := st_extract l a l.length
  rw [List.take_of_length_le (by simp)] at e
  simp [Instr.slice, Instr.sliceBounds, Instr.sliceBound, asIntOf, run_underlying h, st_size, ha, e]
set_option maxRecDepth 8000 in
theorem wrA_bad {os : List Oj} {x : Ky} {a : Int} {s : List UInt8} (h : (wrA os x a s).2 ≠ 0) : (wrA os x a s).1 = os := by
  unfold wrA at h ⊢
  split at h
  · exact absurd rfl h
  · next h1 => rw [if_neg h1]
set_option maxRecDepth 8000 in
theorem wrA_good {os : List Oj} {x : Ky} {a : Int} {s : List UInt8} (h : (wrA os x a s).2 = 0) : ∃ (j : Nat) (u : Oj) (i : Nat), PgD os x j u ∧ x.r = 0 ∧ a = (i : Int) ∧ i + s.length ≤ 64 := by
  have h0 : spE os x true a s.length = 0 := by
    unfold wrA at h
    split at h
    · next h1 => exact h1
    · exact h
  obtain ⟨h1, h2⟩ := spE_0 h0
  obtain ⟨hp, hr⟩ := pgA_0 h1
  obtain ⟨j, u, d⟩ := pgN_d hp
  obtain ⟨i, k, rfl, hk, hik⟩ := inB_nat h2
  exact ⟨j, u, i, d, hr.resolve_left (by decide), rfl, by omega⟩
set_option maxRecDepth 8000 in
theorem lay_mid {b : List UInt8} {a : Nat} {s : List UInt8} (h : a + s.length ≤ b.length) : ((lay b a s).drop a).take s.length = s := by
  have hl : (b.take a).length = a := by simp; omega
  unfold lay
  rw [List.append_assoc, List.drop_append, hl, Nat.sub_self, List.drop_zero, List.drop_eq_nil_of_le (by omega), List.nil_append, List.take_left]
set_option maxRecDepth 8000 in
theorem cut_all {b : List UInt8} (h : b.length = 64) : (b.drop 0).take 64 = b := by
  rw [List.drop_zero, List.take_of_length_le (by omega)]
theorem Kb.fr {w W W' : World} {bs : List (Nat × TypeId × Array Value)} {N1 : Nat} (h : Kb w bs N1 W) {ps : List Nat} (hf : Fr (fun i => i ∈ ps) W W') (hp : ∀ i ∈ ps, N1 ≤ i) : Kb w bs N1 W' :=
  ⟨h.bel.trans (hf.to_below (fun i hi => Nat.le_trans h.n0 (hp i hi)) h.bel.size), h.n0, Nat.le_trans h.sz hf.size, fun b hm => ⟨(h.blk b hm).1, (hf.block b.1 (h.blk b hm).2.lt (fun hi => by have := hp _ hi; have := (h.blk b hm).1; omega)).trans (h.blk b hm).2⟩⟩
end Go.Proofs.YtfckdbennjkgoaaDoor

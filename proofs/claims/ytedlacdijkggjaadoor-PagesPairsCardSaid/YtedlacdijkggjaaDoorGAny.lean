/- pages: what each call does, of any store, by the program and by the document. -/
import Derived.Test.YtedlacdijkggjaaDoorGAns
namespace Go.Proofs.YtedlacdijkggjaaDoor
open Go.RowKit
set_option maxRecDepth 8000 in
theorem inB_nat {a n : Int} (h : inB a n) : ∃ i k : Nat, a = (i : Int) ∧ n = (k : Int) ∧ i + k ≤ 64 := by
  obtain ⟨h0, h1, h2⟩ := h
  exact ⟨a.toNat, n.toNat, by omega, by omega, by omega⟩
section
variable {w : World} {base p : Nat} {A : Option Addr} {cap : Nat} {ps : List Nat} {os : List Oj}
set_option maxRecDepth 8000 in
theorem spE_n {x : Ky} {ch : Bool} {a n : Int} (h : ¬ pgN os x) : spE os x ch a n = 190 := by
  unfold spE
  rw [pgA_no h, if_neg (by decide)]
set_option maxRecDepth 8000 in
theorem ask_bad (h : StAt w base p A cap ps os) (hn : 0 < os.length) (hT : Tab w) (x : Ky) (ch : Bool) (a n : Int) (ha : a ≤ 9223372036854775807) {m : Int} (hm : spE os x ch a n = m) (h0 : m ≠ 0) :
    Calls Tryd.prog 23 #[pv p, x.val, .bool ch, .agg (spn a n)] w fun e w' => e = .returned (.tuple #[.agg zpgc.toArray, .int .i64 m]) ∧ Below w.heap.size w w' := by
  have hL : (os.length : Int) ≠ 0 := by omega
  have hsz : ∀ W, Below w.heap.size w W → Calls Tryd.prog 39 #[pv p] W fun e w' => e = .returned (.int .i64 (os.length : Int)) ∧ W = w' := fun W hW => size_m (h.below hW) hn rfl
  subst hm
  by_cases hp : pgN os x
  · obtain ⟨j, u, d⟩ := pgN_d hp
    have hnm : ∀ W, Below w.heap.size w W → Calls Tryd.prog 38 #[pv p, x.val] W fun e w' => e = .returned (.tuple #[u.val, .bool true]) ∧ Below W.heap.size W w' := fun W hW => nm_some (h.below hW) hn (hT.below hW) d.nm
    cases ch with
    | true =>
      by_cases hr : x.r = 0
      · have e0 : pgA os x true = 0 := pgA_y hp (.inr hr)
        have e1 : ¬ inB a n := fun hi => h0 (by unfold spE; rw [if_pos e0, if_pos hi])
        have e2 : spE os x true a n = 4 := by unfold spE; rw [if_pos e0, if_neg e1]
        rw [e2]
        exact ask_range_t x true a n _ hL d.k rfl hr ha e1 hnm hsz
      · have e0 : pgA os x true = 191 := pgA_r hp rfl hr
        have e2 : spE os x true a n = 191 := by unfold spE; rw [e0, if_neg (by decide)]
        rw [e2]
        exact ask_right x true a n _ hL d.k rfl (d.r.resolve_left hr) hnm hsz
    | false =>
      have e0 : pgA os x false = 0 := pgA_y hp (.inl rfl)
      have e1 : ¬ inB a n := fun hi => h0 (by unfold spE; rw [if_pos e0, if_pos hi])
      have e2 : spE os x false a n = 4 := by unfold spE; rw [if_pos e0, if_neg e1]
      rw [e2]
      exact ask_range_f x false a n _ hL d.k rfl ha e1 hnm hsz
  · rw [spE_n hp]
    by_cases hs : (named os x).isSome = true
    · obtain ⟨u, hu⟩ := Option.isSome_iff_exists.1 hs
      exact ask_kind (u := u) x ch a n _ hL (fun hk => hp ⟨hs, hk⟩) (fun W hW => nm_some (h.below hW) hn (hT.below hW) hu) hsz
    · exact ask_un (u := oz) x ch a n _ hL (fun W hW => nm_none (h.below hW) hn (hT.below hW) (by simpa using hs)) hsz
set_option maxRecDepth 8000 in
theorem ask_good (h : StAt w base p A cap ps os) (hn : 0 < os.length) (hT : Tab w) (x : Ky) (ch : Bool) (a n : Int) (ha : a ≤ 9223372036854775807) (h0 : spE os x ch a n = 0) {j : Nat} {u : Oj} (d : PgD os x j u) :
    Calls Tryd.prog 23 #[pv p, x.val, .bool ch, .agg (spn a n)] w fun e w' => e = .returned (.tuple #[.agg (pgc p x.o u).toArray, .int .i64 0]) ∧ Below w.heap.size w w' := by
  have hL : (os.length : Int) ≠ 0 := by omega
  have hsz : ∀ W, Below w.heap.size w W → Calls Tryd.prog 39 #[pv p] W fun e w' => e = .returned (.int .i64 (os.length : Int)) ∧ W = w' := fun W hW => size_m (h.below hW) hn rfl
  have hnm : ∀ W, Below w.heap.size w W → Calls Tryd.prog 38 #[pv p, x.val] W fun e w' => e = .returned (.tuple #[u.val, .bool true]) ∧ Below W.heap.size W w' := fun W hW => nm_some (h.below hW) hn (hT.below hW) d.nm
  obtain ⟨hp, hi⟩ := spE_0 h0
  have hr := (pgA_0 hp).2
  cases ch with
  | true => exact ask_yes_t x true a n _ hL d.k rfl (hr.resolve_left (by decide)) ha hi hnm hsz
  | false => exact ask_yes_f x false a n _ hL d.k rfl ha hi hnm hsz
set_option maxRecDepth 8000 in
theorem read_all (h : StAt w base p A cap ps os) (hn : 0 < os.length) (hT : Tab w) (x : Ky) (a n : Int) (ha : a ≤ 9223372036854775807) :
    Calls Tryd.prog 12 #[pv p, x.val, .int .i64 a, .int .i64 n] w fun e w' => e = .returned (.tuple #[.string (st (rdA os x a n).1), .int .i64 (rdA os x a n).2]) ∧ Below w.heap.size w w' := by
  unfold rdA
  split
  · next h0 =>
    obtain ⟨j, u, d⟩ := pgN_d (pgA_0 (spE_0 h0).1).1
    obtain ⟨i, k, rfl, rfl, hik⟩ := inB_nat (spE_0 h0).2
    rw [d.eq, Int.toNat_natCast, Int.toNat_natCast]
    exact nread_yes x i k hik fun W hW => ask_good (h.below hW) hn (hT.below hW) x false _ _ ha h0 d
  · next h0 => exact nread_err x a n _ h0 fun W hW => ask_bad (h.below hW) hn (hT.below hW) x false a n ha rfl h0
set_option maxRecDepth 8000 in
theorem write_all (h : StAt w base p A cap ps os) (ho : okAll os.length os) (hn : 0 < os.length) (hT : Tab w) (x : Ky) (a : Int) (ha : a ≤ 9223372036854775807) (s : List UInt8) :
    Calls Tryd.prog 13 #[pv p, x.val, .int .i64 a, .string (st s)] w fun e w' => e = .returned (.int .i64 (wrA os x a s).2) ∧ StAt w' base p A cap ps (wrA os x a s).1 ∧ Fr (fun k => k ∈ ps) w w' := by
  unfold wrA
  split
  · next h0 =>
    obtain ⟨j, u, d⟩ := pgN_d (pgA_0 (spE_0 h0).1).1
    obtain ⟨i, k, rfl, hk, hik⟩ := inB_nat (spE_0 h0).2
    rw [d.eq, Int.toNat_natCast, d.jn]
    exact nwrite_yes h hT x j d.lt d.o i s (by omega) (layO_ok (d.okU ho) d.uk _ _) fun W hW => ask_good (h.below hW) hn (hT.below hW) x true _ _ ha h0 d
  · next h0 => exact (nwrite_err x a s _ h0 fun W hW => ask_bad (h.below hW) hn (hT.below hW) x true a _ ha rfl h0).mono fun e w' hb => ⟨hb.1, h.below hb.2, Fr.of_below hb.2⟩
theorem in64 : inB 0 64 := ⟨by decide, by decide, by decide⟩
set_option maxRecDepth 8000 in
theorem spE_w {x : Ky} {ch : Bool} : spE os x ch 0 64 = pgA os x ch := by
  unfold spE
  split
  · next h => rw [if_pos in64, h]
  · rfl
set_option maxRecDepth 8000 in
theorem wipe_all (h : StAt w base p A cap ps os) (ho : okAll os.length os) (hn : 0 < os.length) (hT : Tab w) (x : Ky) :
    Calls Tryd.prog 14 #[pv p, x.val] w fun e w' => e = .returned (.int .i64 (wpA os x).2) ∧ StAt w' base p A cap ps (wpA os x).1 ∧ Fr (fun k => k ∈ ps) w w' := by
  unfold wpA
  split
  · next h0 =>
    obtain ⟨j, u, d⟩ := pgN_d (pgA_0 h0).1
    rw [d.eq, d.jn]
    exact nclear_yes h hT x j d.lt d.o (bAs_ok (d.okU ho) d.uk _ _) fun W hW => ask_good (h.below hW) hn (hT.below hW) x true 0 64 (by decide) (spE_w.trans h0) d
  · next h0 => exact (nclear_err x _ h0 fun W hW => ask_bad (h.below hW) hn (hT.below hW) x true 0 64 (by decide) spE_w h0).mono fun e w' hb => ⟨hb.1, h.below hb.2, Fr.of_below hb.2⟩
set_option maxRecDepth 8000 in
theorem copy_all (h : StAt w base p A cap ps os) (ho : okAll os.length os) (hn : 0 < os.length) (hT : Tab w) (x y : Ky) :
    Calls Tryd.prog 15 #[pv p, x.val, y.val] w fun e w' => e = .returned (.int .i64 (cpA os x y).2) ∧ StAt w' base p A cap ps (cpA os x y).1 ∧ Fr (fun k => k ∈ ps) w w' := by
  by_cases h0 : pgA os x true = 0
  · obtain ⟨j, u, d⟩ := pgN_d (pgA_0 h0).1
    by_cases h1 : pgA os y false = 0
    · obtain ⟨m, v, q⟩ := pgN_d (pgA_0 h1).1
      have e0 : cpE os x y = 0 := by unfold cpE; rw [if_pos h0, h1]
      unfold cpA
      rw [if_pos e0]
      simp only [d.eq, q.eq, d.jn]
      exact ncopy_yes h hT x y j d.lt d.o (bAs_ok (d.okU ho) d.uk _ _) (fun W hW => ask_good (h.below hW) hn (hT.below hW) x true 0 64 (by decide) (spE_w.trans h0) d) (fun W hW => ask_good (h.below hW) hn (hT.below hW) y false 0 64 (by decide) (spE_w.trans h1) q)
    · have e0 : cpE os x y = pgA os y false := by unfold cpE; rw [if_pos h0]
      unfold cpA
      rw [e0, if_neg h1]
      exact (ncopy_from x y _ h1 (fun W hW => ask_good (h.below hW) hn (hT.below hW) x true 0 64 (by decide) (spE_w.trans h0) d) (fun W hW => ask_bad (h.below hW) hn (hT.below hW) y false 0 64 (by decide) spE_w h1)).mono fun e w' hb => ⟨hb.1, h.below hb.2, Fr.of_below hb.2⟩
  · have e0 : cpE os x y = pgA os x true := by unfold cpE; rw [if_neg h0]
    unfold cpA
    rw [e0, if_neg h0]
    exact (ncopy_err x y _ h0 fun W hW => ask_bad (h.below hW) hn (hT.below hW) x true 0 64 (by decide) spE_w h0).mono fun e w' hb => ⟨hb.1, h.below hb.2, Fr.of_below hb.2⟩
end
section
variable {w : World} {A : Option Addr} {l : List Oj} {n cap : Nat}
set_option maxRecDepth 8000 in
theorem rpage_any (hr : RdO w A l) (hn : l.length = n) (hl : n ≤ 1000) (h0 : 0 < n) (x : Ky) (ch : Bool) :
    Calls Tryd.prog 33 #[.slice A n cap, x.val, .bool ch] w fun e w' => e = .returned (.int .i64 (pgA l x ch)) ∧ Below w.heap.size w w' := by
  by_cases hp : pgN l x
  · have ha : ∀ W, Below w.heap.size w W → Calls Tryd.prog 46 #[.slice A n cap, x.val, .int .i64 3, .bool false] W fun e w' => e = .returned (.int .i64 0) ∧ Below W.heap.size W w' := fun W hW => rask3_yes (hr.below hW) hn hl h0 x hp.1 hp.2
    cases ch with
    | true =>
      by_cases hr0 : x.r = 0
      · rw [pgA_y hp (.inr hr0)]
        exact rpage_y x true rfl hr0 ha
      · rw [pgA_r hp rfl hr0]
        exact rpage_r x true rfl hr0 ha
    | false =>
      rw [pgA_y hp (.inl rfl)]
      exact rpage_f x false rfl ha
  · rw [pgA_no hp]
    refine rpage_err x ch 190 (by decide) fun W hW => ?_
    by_cases hs : (named l x).isSome = true
    · exact rask3_kind (hr.below hW) hn hl h0 x hs fun hk => hp ⟨hs, hk⟩
    · exact rask3_un (hr.below hW) hn hl h0 x (by simpa using hs)
theorem rpage_is (hr : RdO w A l) (hn : l.length = n) (hl : n ≤ 1000) (h0 : 0 < n) (x : Ky) (ch : Bool) {m : Int} (hm : pgA l x ch = m) :
    ∀ W, Below w.heap.size w W → Calls Tryd.prog 33 #[.slice A n cap, x.val, .bool ch] W fun e w' => e = .returned (.int .i64 m) ∧ Below W.heap.size W w' := fun _ hW => hm ▸ rpage_any (hr.below hW) hn hl h0 x ch
set_option maxRecDepth 8000 in
theorem rread_all (hr : RdO w A l) (hn : l.length = n) (hl : n ≤ 1000) (h0 : 0 < n) (x : Ky) (a k : Int) :
    Calls Tryd.prog 18 #[.slice A n cap, x.val, .int .i64 a, .int .i64 k] w fun e w' => e = .returned (.tuple #[.string (st (rdA l x a k).1), .int .i64 (rdA l x a k).2]) ∧ Below w.heap.size w w' := by
  unfold rdA spE
  by_cases hp : pgA l x false = 0
  · rw [if_pos hp]
    by_cases hi : inB a k
    · rw [if_pos hi, if_pos rfl]
      obtain ⟨j, u, d⟩ := pgN_d (pgA_0 hp).1
      obtain ⟨i, m, rfl, rfl, him⟩ := inB_nat hi
      rw [d.eq, Int.toNat_natCast, Int.toNat_natCast]
      exact rread_yes hr hn x j d.lt d.o u d.at_ i m him (rpage_is hr hn hl h0 x false hp)
    · rw [if_neg hi, if_neg (by decide)]
      exact rread_range x a k hi (rpage_is hr hn hl h0 x false hp)
  · rw [if_neg hp, if_neg hp]
    exact rread_err x a k _ hp (rpage_is hr hn hl h0 x false rfl)
set_option maxRecDepth 8000 in
theorem rwrite_all (hr : RdO w A l) (hn : l.length = n) (hl : n ≤ 1000) (h0 : 0 < n) (x : Ky) (a : Int) (s : List UInt8) :
    Calls Tryd.prog 19 #[.slice A n cap, x.val, .int .i64 a, .string (st s)] w fun e w' => ∃ A' c', e = .returned (.tuple #[.slice A' n c', .int .i64 (wrA l x a s).2]) ∧ (A' = A ∨ ∃ g, A' = some ⟨g, 0, none⟩ ∧ w.heap.size ≤ g) ∧ RdO w' A' (wrA l x a s).1 ∧ Below w.heap.size w w' := by
  have fin : ∀ {m : Int}, Calls Tryd.prog 19 #[.slice A n cap, x.val, .int .i64 a, .string (st s)] w (fun e w' => e = .returned (.tuple #[.slice A n cap, .int .i64 m]) ∧ Below w.heap.size w w') → Calls Tryd.prog 19 #[.slice A n cap, x.val, .int .i64 a, .string (st s)] w fun e w' => ∃ A' c', e = .returned (.tuple #[.slice A' n c', .int .i64 m]) ∧ (A' = A ∨ ∃ g, A' = some ⟨g, 0, none⟩ ∧ w.heap.size ≤ g) ∧ RdO w' A' l ∧ Below w.heap.size w w' :=
    fun hc => hc.mono fun e w' hb => ⟨A, cap, hb.1, .inl rfl, hr.below hb.2, hb.2⟩
  unfold wrA spE
  by_cases hp : pgA l x true = 0
  · rw [if_pos hp]
    by_cases hi : inB a s.length
    · rw [if_pos hi, if_pos rfl]
      obtain ⟨j, u, d⟩ := pgN_d (pgA_0 hp).1
      obtain ⟨i, m, rfl, hm, him⟩ := inB_nat hi
      rw [d.eq, Int.toNat_natCast, d.jn]
      refine (rwrite_yes hr hn hl x j d.lt d.o u d.at_ i s (by omega) (rpage_is hr hn hl h0 x true hp)).mono ?_
      rintro e w' ⟨g', c', h1, h2, h3, h5⟩
      exact ⟨_, c', h1, .inr ⟨g', rfl, h2⟩, h3, h5⟩
    · rw [if_neg hi, if_neg (by decide)]
      exact fin (rwrite_range x a s hi (rpage_is hr hn hl h0 x true hp))
  · rw [if_neg hp, if_neg hp]
    exact fin (rwrite_err x a s _ hp (rpage_is hr hn hl h0 x true rfl))
set_option maxRecDepth 8000 in
theorem rwipe_all (hr : RdO w A l) (hn : l.length = n) (hl : n ≤ 1000) (h0 : 0 < n) (x : Ky) :
    Calls Tryd.prog 20 #[.slice A n cap, x.val] w fun e w' => ∃ A' c', e = .returned (.tuple #[.slice A' n c', .int .i64 (wpA l x).2]) ∧ (A' = A ∨ ∃ g, A' = some ⟨g, 0, none⟩ ∧ w.heap.size ≤ g) ∧ RdO w' A' (wpA l x).1 ∧ Below w.heap.size w w' := by
  unfold wpA
  by_cases hp : pgA l x true = 0
  · rw [if_pos hp]
    obtain ⟨j, u, d⟩ := pgN_d (pgA_0 hp).1
    rw [d.eq, d.jn]
    refine (rwipe_yes hr hn hl x j d.lt d.o u d.at_ (rpage_is hr hn hl h0 x true hp)).mono ?_
    rintro e w' ⟨g', c', h1, h2, h3, h5⟩
    exact ⟨_, c', h1, .inr ⟨g', rfl, h2⟩, h3, h5⟩
  · rw [if_neg hp]
    exact (rwipe_err x _ hp (rpage_is hr hn hl h0 x true rfl)).mono fun e w' hb => ⟨A, cap, hb.1, .inl rfl, hr.below hb.2, hb.2⟩
set_option maxRecDepth 8000 in
theorem rcopy_all (hr : RdO w A l) (hn : l.length = n) (hl : n ≤ 1000) (h0 : 0 < n) (x y : Ky) :
    Calls Tryd.prog 21 #[.slice A n cap, x.val, y.val] w fun e w' => ∃ A' c', e = .returned (.tuple #[.slice A' n c', .int .i64 (cpA l x y).2]) ∧ (A' = A ∨ ∃ g, A' = some ⟨g, 0, none⟩ ∧ w.heap.size ≤ g) ∧ RdO w' A' (cpA l x y).1 ∧ Below w.heap.size w w' := by
  unfold cpA cpE
  by_cases hp : pgA l x true = 0
  · rw [if_pos hp]
    obtain ⟨j, u, d⟩ := pgN_d (pgA_0 hp).1
    by_cases hq : pgA l y false = 0
    · rw [if_pos hq]
      obtain ⟨m, v, q⟩ := pgN_d (pgA_0 hq).1
      simp only [d.eq, q.eq, d.jn]
      refine (rcopy_yes hr hn hl x y j d.lt d.o u d.at_ m q.lt q.o v q.at_ (rpage_is hr hn hl h0 x true hp) (rpage_is hr hn hl h0 y false hq)).mono ?_
      rintro e w' ⟨g', c', h1, h2, h3, h5⟩
      exact ⟨_, c', h1, .inr ⟨g', rfl, h2⟩, h3, h5⟩
    · rw [if_neg hq]
      exact (rcopy_from x y _ hq (rpage_is hr hn hl h0 x true hp) (rpage_is hr hn hl h0 y false rfl)).mono fun e w' hb => ⟨A, cap, hb.1, .inl rfl, hr.below hb.2, hb.2⟩
  · rw [if_neg hp, if_neg hp]
    exact (rcopy_err x y _ hp (rpage_is hr hn hl h0 x true rfl)).mono fun e w' hb => ⟨A, cap, hb.1, .inl rfl, hr.below hb.2, hb.2⟩
end
end Go.Proofs.YtedlacdijkggjaaDoor

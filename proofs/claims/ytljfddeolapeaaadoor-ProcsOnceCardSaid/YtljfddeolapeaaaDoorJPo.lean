/- law 13: plain: what an invocation leaves of objects, of keys, of who runs. -/
import Derived.Test.YtljfddeolapeaaaDoorJKp
namespace Go.Proofs.YtljfddeolapeaaaDoor
open Go.RowKit
/-- an object of the same kind and Count, whose Calls are no fewer -/
def Ri (u v : Oj) : Prop := v.k = u.k ∧ v.c = u.c ∧ u.l ≤ v.l
def Stay (os os' : List Oj) : Prop := ∀ (j : Nat) (u : Oj), os[j]? = some u → ∃ v : Oj, os'[j]? = some v ∧ Ri u v
theorem Stay.refl (os : List Oj) : Stay os os := fun _ u h => ⟨u, h, rfl, rfl, Int.le_refl _⟩
theorem Stay.set {os os' : List Oj} (h : Stay os os') {b : Nat} {o : Oj} (hb : ∀ u, os[b]? = some u → Ri u o) : Stay os (os'.set b o) := fun j u hu => by
  obtain ⟨v, hv, r⟩ := h j u hu
  by_cases e : b = j
  · subst e
    exact ⟨o, List.getElem?_set_self (List.getElem?_eq_some_iff.1 hv).1, hb u hu⟩
  · exact ⟨v, by rw [List.getElem?_set_ne e]; exact hv, r⟩
set_option maxRecDepth 8000 in
theorem goO_ri (md : Int) (u : Oj) : Ri u (goO md u) := by
  unfold goO
  split
  · exact ⟨rfl, rfl, Int.le_refl _⟩
  · split <;> exact ⟨rfl, rfl, Int.le_refl _⟩
theorem handO_ri {u v : Oj} (h : Ri u v) (m : Mg) (k : Ky) : Ri u (handO v m k) := h
set_option maxRecDepth 8000 in
theorem toO_ri (k : Int) (u : Oj) : Ri u (toO k u) := by
  unfold toO
  split
  · exact ⟨rfl, rfl, by show u.l ≤ u.l + 1; omega⟩
  · exact ⟨rfl, rfl, Int.le_refl _⟩
section
variable {os os' : List Oj} {i : Int} {x : Ky} {md : Int} {m : Mg} {a b : Nat} {s : Int}
set_option maxRecDepth 8000 in
theorem objA_get {j : Nat} {u : Oj} (h : os[j]? = some u) : objA os (j : Int) = u := by
  obtain ⟨hj, e⟩ := List.getElem?_eq_some_iff.1 h
  rw [objA_in os j hj, e]
set_option maxRecDepth 8000 in
theorem InvD.stay (d : InvD os i x md m a b s) : Stay os (invA os i x md m).1 := by
  rw [d.eq]
  refine Stay.set (Stay.set (Stay.refl os) fun u hu => ?_) fun u hu => ?_
  · rw [d.hi, objA_get hu]
    exact goO_ri md u
  · rw [d.ho, objA_get hu]
    exact handO_ri (toO_ri _ u) _ _
set_option maxRecDepth 8000 in
theorem cn_iff {o : Oj} (h : x.of) : x.cn o = true ↔ x.want = o.k ∧ x.c = o.c ∧ (x.k ≠ 7 ∨ x.l = o.l) := by
  unfold Ky.cn Ky.cnt
  exact ⟨fun q => (@of_decide_eq_true _ (Classical.propDecidable _) q).2 h, fun q => @decide_eq_true _ (Classical.propDecidable _) ⟨h.1, fun _ => q⟩⟩
set_option maxRecDepth 8000 in
theorem named_iff {o : Oj} : named os x = some o ↔ x.of ∧ os[x.o.toNat]? = some o ∧ x.cn o = true := by
  by_cases hf : x.of
  · rw [named_is hf]
    rw [Option.filter_eq_some_iff]
    exact ⟨fun q => ⟨hf, q.1, q.2⟩, fun q => ⟨q.2.1, q.2.2⟩⟩
  · rw [named_not hf]
    exact ⟨fun q => (nomatch q), fun q => absurd q.1 hf⟩
/-- a resume key that was used -/
def Dd (os : List Oj) (x : Ky) : Prop := x.of ∧ x.k = 7 ∧ ∃ o, os[x.o.toNat]? = some o ∧ x.l < o.l
set_option maxRecDepth 8000 in
theorem Dd.stay (h : Dd os x) (hs : Stay os os') : Dd os' x := by
  obtain ⟨h1, h2, o, h3, h4⟩ := h
  obtain ⟨v, hv, _, _, hl⟩ := hs _ _ h3
  exact ⟨h1, h2, v, hv, by omega⟩
set_option maxRecDepth 8000 in
theorem Dd.none (h : Dd os x) : named os x = none := by
  cases hn : named os x with
  | none => rfl
  | some o =>
    obtain ⟨h1, h2, h3⟩ := named_iff.1 hn
    obtain ⟨_, hk, o', ho, hl⟩ := h
    rw [h2] at ho
    injection ho with ho
    subst ho
    rcases ((cn_iff h1).1 h3).2.2 with q | q
    · exact absurd hk q
    · omega
set_option maxRecDepth 8000 in
theorem dies (hs : Stay os os') (h1 : (named os x).isSome = true) (h2 : (named os' x).isSome = false) : Dd os' x := by
  obtain ⟨o, ho⟩ := Option.isSome_iff_exists.1 h1
  obtain ⟨hf, hg, hc⟩ := named_iff.1 ho
  obtain ⟨v, hv, hk, hcc, hl⟩ := hs _ _ hg
  obtain ⟨c1, c2, c3⟩ := (cn_iff hf).1 hc
  have hno : ¬ x.cn v = true := fun q => by
    rw [named_iff.2 ⟨hf, hv, q⟩] at h2
    cases h2
  rw [cn_iff hf] at hno
  have h7 : x.k = 7 ∧ x.l ≠ v.l := Classical.byContradiction fun q => hno ⟨by rw [hk]; exact c1, by rw [hcc]; exact c2, by
    by_cases e : x.k = 7
    · exact .inr (Classical.byContradiction fun r => q ⟨e, r⟩)
    · exact .inl e⟩
  have hl0 : x.l = o.l := by
    rcases c3 with q | q
    · exact absurd h7.1 q
    · exact q
  exact ⟨hf, h7.1, v, hv, by have := h7.2; omega⟩
set_option maxRecDepth 8000 in
theorem InvD.gone (d : InvD os i x md m a b s) (hk : x.k = 7) : prepd (invA os i x md m).1 x = zk := by
  obtain ⟨o, ho⟩ := Option.isSome_iff_exists.1 d.nm
  obtain ⟨hf, hg, hc⟩ := named_iff.1 ho
  have hxb : x.o.toNat = b := by have := d.ho; omega
  rw [hxb] at hg
  have hl : x.l = o.l := by
    rcases ((cn_iff hf).1 hc).2.2 with q | q
    · exact absurd hk q
    · exact q
  have hD : Dd (invA os i x md m).1 x := by
    refine ⟨hf, hk, handO (toO x.k (objA os x.o)) (cntM os m) (ansK md i (objA os i)), ?_, ?_⟩
    · rw [d.eq, hxb]
      exact List.getElem?_set_self (by rw [List.length_set]; exact d.hb)
    · rw [d.ho, objA_get hg, hl]
      show o.l < (toO x.k o).l
      unfold toO
      rw [if_pos hk]
      show o.l < o.l + 1
      omega
  have hz : x.cn oz = false := by
    cases h : x.cn oz with
    | false => rfl
    | true =>
      have := ((cn_iff hf).1 h).1
      rw [want_of' hf (by omega)] at this
      exact absurd (show (1 : Int) = 0 from this) (by decide)
  unfold prepd
  rw [hD.none, hz]
  rfl
set_option maxRecDepth 8000 in
theorem filt_step (p : Nat → Bool) (n : Nat) : ((List.range (n + 1)).filter p).length = ((List.range n).filter p).length + if p n = true then 1 else 0 := by
  rw [List.range_succ, List.filter_append, List.length_append]
  cases h : p n <;> simp [h]
set_option maxRecDepth 8000 in
theorem cnt_more {p q : Nat → Bool} {b : Nat} (h : ∀ j, j ≠ b → q j = true → p j = true) (n : Nat) : ((List.range n).filter q).length ≤ ((List.range n).filter p).length + if b < n then 1 else 0 := by
  induction n with
  | zero => simp
  | succ n ih =>
    rw [filt_step, filt_step]
    by_cases e : n = b
    · subst e
      rw [if_neg (Nat.lt_irrefl _)] at ih
      rw [if_pos (Nat.lt_succ_self n)]
      split <;> split <;> omega
    · have hq := h n e
      have e2 : (if b < n + 1 then 1 else 0) = (if b < n then 1 else 0) := by
        by_cases h3 : b < n
        · rw [if_pos h3, if_pos (by omega)]
        · rw [if_neg h3, if_neg (by omega)]
      rw [e2]
      by_cases h1 : q n = true
      · rw [if_pos h1, if_pos (hq h1)]
        omega
      · rw [if_neg h1]
        omega
set_option maxRecDepth 8000 in
theorem cnt_same {p q : Nat → Bool} {a b : Nat} (hab : a ≠ b) (h : ∀ j, j ≠ b → q j = true → p j = true) (hp : p a = true) (hq : q a = false) (n : Nat) : ((List.range n).filter q).length + (if a < n then 1 else 0) ≤ ((List.range n).filter p).length + if b < n then 1 else 0 := by
  induction n with
  | zero => simp
  | succ n ih =>
    rw [filt_step, filt_step]
    by_cases ea : n = a
    · subst ea
      rw [if_neg (Nat.lt_irrefl _)] at ih
      have e2 : (if b < n + 1 then 1 else 0) = (if b < n then 1 else 0) := by
        by_cases h3 : b < n
        · rw [if_pos h3, if_pos (by omega)]
        · rw [if_neg h3, if_neg (by omega)]
      rw [e2, if_pos (Nat.lt_succ_self n), if_pos hp, hq]
      simp only [Bool.false_eq_true, if_false]
      omega
    · have e3 : (if a < n + 1 then 1 else 0) = (if a < n then 1 else 0) := by
        by_cases h3 : a < n
        · rw [if_pos h3, if_pos (by omega)]
        · rw [if_neg h3, if_neg (by omega)]
      rw [e3]
      by_cases e : n = b
      · subst e
        rw [if_neg (Nat.lt_irrefl n)] at ih
        rw [if_pos (Nat.lt_succ_self n)]
        split <;> split <;> split <;> simp_all <;> omega
      · have e2 : (if b < n + 1 then 1 else 0) = (if b < n then 1 else 0) := by
          by_cases h3 : b < n
          · rw [if_pos h3, if_pos (by omega)]
          · rw [if_neg h3, if_neg (by omega)]
        rw [e2]
        by_cases h1 : q n = true
        · rw [if_pos h1, if_pos (h n e h1)]
          omega
        · rw [if_neg h1]
          omega
set_option maxRecDepth 8000 in
/-- who runs behind it: nobody else but who was come to -/
theorem InvD.run_of (d : InvD os i x md m a b s) (j : Nat) (hj : j ≠ b) (h : stA (invA os i x md m).1 (j : Int) = some 1) : stA os (j : Int) = some 1 := by
  rw [d.eq] at h
  unfold stA at h ⊢
  rw [objA_set _ _ (by rw [List.length_set]; exact d.hb), if_neg (by omega), objA_set _ _ d.ha] at h
  by_cases e : (j : Int) = (a : Int)
  · rw [e]
    have := d.run
    unfold stA at this
    rw [← d.hi]
    exact this
  · rwa [if_neg e] at h
set_option maxRecDepth 8000 in
theorem InvD.more (d : InvD os i x md m a b s) : (runA (invA os i x md m).1).length ≤ (runA os).length + 1 := by
  unfold runA
  rw [invA_len]
  have := cnt_more (p := fun j : Nat => decide (stA os (j : Int) = some 1)) (q := fun j : Nat => decide (stA (invA os i x md m).1 (j : Int) = some 1)) (b := b) (fun j hj hq => decide_eq_true (d.run_of j hj (of_decide_eq_true hq))) os.length
  split at this <;> omega
set_option maxRecDepth 8000 in
theorem InvD.same (d : InvD os i x md m a b s) (hm2 : md ≠ 2) : (runA (invA os i x md m).1).length ≤ (runA os).length := by
  unfold runA
  rw [invA_len]
  have hpa : stA os (a : Int) = some 1 := by rw [← d.hi]; exact d.run
  by_cases hab : a = b
  · have := cnt_more (p := fun j : Nat => decide (stA os (j : Int) = some 1)) (q := fun j : Nat => decide (stA (invA os i x md m).1 (j : Int) = some 1)) (b := os.length) (fun j _ hq => by
      by_cases e : j = b
      · rw [e, ← hab]
        exact decide_eq_true hpa
      · exact decide_eq_true (d.run_of j e (of_decide_eq_true hq))) os.length
    rw [if_neg (Nat.lt_irrefl _)] at this
    omega
  · have := cnt_same (p := fun j : Nat => decide (stA os (j : Int) = some 1)) (q := fun j : Nat => decide (stA (invA os i x md m).1 (j : Int) = some 1)) hab (fun j hj hq => decide_eq_true (d.run_of j hj (of_decide_eq_true hq))) (decide_eq_true hpa) (by
      refine decide_eq_false ?_
      rw [d.eq]
      unfold stA
      rw [objA_set _ _ (by rw [List.length_set]; exact d.hb), if_neg (by omega), objA_set _ _ d.ha, if_pos rfl]
      have hk : (objA os i).k = 1 := stN_k (u := objA os i) (by have := d.run; unfold stA at this; rw [this]; simp)
      unfold goO
      split
      · rw [stN_slot hk 2 (by decide)]
        decide
      · split
        · rw [stN_slot hk 0 (by decide)]
          decide
        · have := d.hmd
          omega) os.length
    rw [if_pos d.ha, if_pos d.hb] at this
    omega
set_option maxRecDepth 8000 in
theorem runA_le (os : List Oj) : (runA os).length ≤ os.length := by
  have := List.length_filter_le (fun (i : Nat) => decide (stA os (i : Int) = some 1)) (List.range os.length)
  rwa [List.length_range] at this
end
end Go.Proofs.YtljfddeolapeaaaDoor

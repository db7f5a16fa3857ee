/- spaces: what stays behind a Store, plain. -/
import Derived.Test.YtfckdbennjkgoaaDoorWSt
import Derived.Test.YtfckdbennjkgoaaDoorR25
namespace Go.Proofs.YtfckdbennjkgoaaDoor
open Go.RowKit
section
variable {os : List Oj} {j : Nat} {u U : Oj}
set_option maxRecDepth 8000 in
theorem isSome_setO (hj : j < os.length) (hu : os[j] = u) (hU : ∀ y : Ky, y.cn U = y.cn u) (y : Ky) : (named (os.set j U) y).isSome = (named os y).isSome := by
  rw [named_setO hj hu hU]
  split
  · cases named os y <;> rfl
  · rfl
set_option maxRecDepth 8000 in
theorem prepd_setO (hj : j < os.length) (hu : os[j] = u) (hU : ∀ y : Ky, y.cn U = y.cn u) (y : Ky) : prepd (os.set j U) y = prepd os y := by
  unfold prepd
  rw [isSome_setO hj hu hU]
set_option maxRecDepth 8000 in
theorem named_cell {x : Ky} {v : Oj} (h : named os x = some v) : os[x.o.toNat]? = some v := by
  unfold named at h
  split at h
  · rw [Option.filter_eq_some_iff] at h
    exact h.1
  · cases h
set_option maxRecDepth 8000 in
theorem sl_setO (hj : j < os.length) (hu : os[j] = u) (hU : ∀ y : Ky, y.cn U = y.cn u) (hs : U.s = u.s) (y : Ky) (i : Nat) : sl ((named (os.set j U) y).getD oz) i = sl ((named os y).getD oz) i := by
  rw [named_setO hj hu hU]
  split
  · next e =>
    cases h : named os y with
    | none => rfl
    | some v =>
      have h1 := named_cell h
      rw [e, List.getElem?_eq_getElem hj, hu] at h1
      injection h1 with h1
      subst h1
      show sl U i = sl u i
      unfold sl
      rw [hs]
  · rfl
set_option maxRecDepth 8000 in
theorem stepW_setO (hj : j < os.length) (hu : os[j] = u) (hU : ∀ y : Ky, y.cn U = y.cn u) (hs : U.s = u.s) (s : Ws) : stepW (os.set j U) s = stepW os s := by
  have e1 := fun y => prepd_setO hj hu hU y
  have e2 : ∀ x, pgN (os.set j U) x = pgN os x := fun x => by unfold pgN; rw [isSome_setO hj hu hU]
  have e3 : ∀ x, askN (os.set j U) x = askN os x := fun x => by unfold askN; rw [isSome_setO hj hu hU]
  have e4 := fun y i => sl_setO hj hu hU hs y i
  have e5 : ∀ x y, gotK (os.set j U) x y = gotK os x y := fun x y => by unfold gotK; rw [e1]
  have ek : ∀ (x : Ky) (r : Nat) (kp : Ky), keep (os.set j U) ((named (os.set j U) x).getD oz) r kp = keep os ((named os x).getD oz) r kp := fun x r kp => by
    unfold keep
    rw [e4, e1]
  unfold stepW
  by_cases hp : pgN os s.x
  · rw [if_pos hp, if_pos ((e2 s.x).symm ▸ hp)]
  · rw [if_neg hp, if_neg (fun h => hp ((e2 s.x) ▸ h))]
    by_cases ha : askN os s.x
    · rw [if_pos ha, if_pos ((e3 s.x).symm ▸ ha)]
      by_cases hd : s.d = 8
      · rw [if_pos hd, if_pos hd]
      · rw [if_neg hd, if_neg hd]
        by_cases hh : hOk (sl ((named os s.x).getD oz) 15) s.high
        · rw [if_pos hh, if_pos (by rw [e4]; exact hh), ek]
          simp only [e4, e5]
        · rw [if_neg hh, if_neg (by rw [e4]; exact hh)]
    · rw [if_neg ha, if_neg (fun h => ha ((e3 s.x) ▸ h))]
theorem runW_setO (hj : j < os.length) (hu : os[j] = u) (hU : ∀ y : Ky, y.cn U = y.cn u) (hs : U.s = u.s) : ∀ (n : Nat) (s : Ws), runW (os.set j U) n s = runW os n s
  | 0, s => rfl
  | n + 1, s => by
    rw [run_succ, run_succ, stepW_setO hj hu hU hs]
    cases stepW os s with
    | inl o => rfl
    | inr t => exact runW_setO hj hu hU hs n t
theorem goneW_setO (hj : j < os.length) (hu : os[j] = u) (hU : ∀ y : Ky, y.cn U = y.cn u) (hs : U.s = u.s) (x : Ky) (a : Int) : goneW (os.set j U) x a = goneW os x a := runW_setO hj hu hU hs _ _
set_option maxRecDepth 8000 in
theorem layO_s (u : Oj) (a : Nat) (s : List UInt8) : (layO u a s).s = u.s := by
  unfold layO
  split <;> rfl
/-- bytes written into a page leave every walk as it was -/
theorem goneW_lay {y : Ky} (d : PgD os y j u) (b : Nat) (t : List UInt8) (x : Ky) (a : Int) : goneW (os.set j (layO u b t)) x a = goneW os x a := goneW_setO d.lt d.at_ (fun y => cn_layO y u b t) (layO_s u b t) x a
set_option maxRecDepth 8000 in
theorem refA_set (U : Oj) (x : Ky) (a n : Int) : refA (os.set j U) x a n = refA os x a n := by
  unfold refA
  rw [List.length_set]
set_option maxRecDepth 8000 in
theorem stepW_fault {s : Ws} {k : Int} {kp : Ky} (h : stepW os s = .inl (.fault k kp)) : k ≠ 0 := by
  unfold stepW at h
  split at h
  · split at h
    · injection h with h; injection h with h; omega
    · cases h
  · split at h
    · split at h
      · injection h with h; injection h with h; omega
      · split at h
        · split at h
          · injection h with h; injection h with h; omega
          · cases h
        · injection h with h; injection h with h; omega
    · injection h with h; injection h with h; omega
theorem runW_fault : ∀ {n : Nat} {s : Ws} {k : Int} {kp : Ky}, runW os n s = .fault k kp → k ≠ 0
  | 0, s, k, kp, h => by injection h with h; omega
  | n + 1, s, k, kp, h => by
    rw [run_succ] at h
    cases hs : stepW os s with
    | inr t => rw [hs] at h; exact runW_fault h
    | inl o =>
      rw [hs] at h
      simp only at h
      subst h
      exact stepW_fault hs
/-- what is found, where the way there leaves all to be done, is a page -/
theorem runW_page : ∀ {n : Nat} {s : Ws} {y : Ky} {a : Nat} {kp : Ky} {d : Nat}, runW os n s = .found y a kp d → y.r = 0 → pgN os y ∧ a < 64
  | 0, s, y, a, kp, d, h, h0 => by cases h
  | n + 1, s, y, a, kp, d, h, h0 => by
    rw [run_succ] at h
    cases hs : stepW os s with
    | inr t => rw [hs] at h; exact runW_page h h0
    | inl o =>
      rw [hs] at h
      simp only at h
      subst h
      unfold stepW at hs
      split at hs
      · next hp =>
        split at hs
        · cases hs
        · next hl =>
          injection hs with hs
          injection hs with h1 h2 h3 h4
          unfold pgK at h1
          split at h1
          · exact ⟨h1 ▸ hp, by omega⟩
          · subst h1
            exact absurd h0 (by show (1 : Int) ≠ 0; decide)
      · split at hs
        · split at hs
          · cases hs
          · split at hs
            · split at hs
              · cases hs
              · cases hs
            · cases hs
        · cases hs
set_option maxRecDepth 8000 in
/-- a Store that goes: the place, and what it leaves -/
theorem storeA_goes {x : Ky} {a : Int} {t : List UInt8} (h1 : (storeA os x a t).2.1.k = 0) (h2 : (storeA os x a t).2.2 = 0) :
    ∃ (y : Ky) (b : Nat) (kp : Ky) (d j : Nat) (u : Oj), refA os x a t.length = 0 ∧ goneW os x a = .found y b kp d ∧ y.r = 0 ∧ b + t.length ≤ 64 ∧ PgD os y j u ∧ (storeA os x a t).1 = os.set j (layO u b t) := by
  unfold storeA at h1 h2 ⊢
  split at h2
  · next hr =>
    rw [if_pos hr] at h1 ⊢
    cases hO : goneW os x a with
    | fault k kp => rw [hO] at h1; exact absurd h1 (runW_fault hO)
    | found y b kp d =>
      rw [hO] at h1
      by_cases hc : 64 < (b : Int) + (t.length : Int)
      · rw [show (Wo.found y b kp d).hold (t.length : Int) = .fault 5 kp from if_pos hc] at h1
        exact absurd h1 (by show (5 : Int) ≠ 0; decide)
      · rw [show (Wo.found y b kp d).hold (t.length : Int) = .found y b kp d from if_neg hc] at h1 ⊢
        by_cases h0 : y.r = 0
        · rw [show (Wo.found y b kp d).wr = .found y b kp d from if_pos h0]
          obtain ⟨j, u, hd⟩ := pgN_d (runW_page hO h0).1
          refine ⟨y, b, kp, d, j, u, hr, rfl, h0, by omega, hd, ?_⟩
          show (wrA os y (b : Int) t).1 = _
          rw [wrA_d hd h0 (by omega)]
        · rw [show (Wo.found y b kp d).wr = .fault 6 kp from if_neg h0] at h1
          exact absurd h1 (by show (6 : Int) ≠ 0; decide)
  · next hr => exact absurd h2 hr
end
end Go.Proofs.YtfckdbennjkgoaaDoor

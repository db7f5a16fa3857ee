/- nodes: what stays behind a change of one node's slots: plain. -/
import Derived.Test.YtedlacdijkggjaaDoorNAny
namespace Go.Proofs.YtedlacdijkggjaaDoor
open Go.RowKit
section
variable {os : List Oj} {j : Nat} {u : Oj}
theorem cn_slots (y : Ky) (u : Oj) (s : List Ky) (hs : s.length = 16) : y.cn (slotsAs u s hs) = y.cn u := rfl
set_option maxRecDepth 8000 in
theorem named_set (hj : j < os.length) (hu : os[j] = u) (s : List Ky) (hs : s.length = 16) (y : Ky) : named (os.set j (slotsAs u s hs)) y = if y.o.toNat = j then (named os y).map (fun _ => slotsAs u s hs) else named os y := by
  by_cases hy : y.of
  · rw [named_is hy, named_is hy]
    by_cases e : y.o.toNat = j
    · subst e
      rw [if_pos rfl, List.getElem?_set_self hj, List.getElem?_eq_getElem hj, hu]
      have hcs := cn_slots y u s hs
      simp only [Option.filter_some]
      by_cases hc : y.cn u = true
      · rw [if_pos hc, if_pos (hcs.trans hc)]
        rfl
      · rw [if_neg hc, if_neg (fun h => hc (hcs.symm.trans h))]
        rfl
    · rw [if_neg e, List.getElem?_set_ne (fun h => e h.symm)]
  · rw [named_not hy, named_not hy]
    split <;> rfl
set_option maxRecDepth 8000 in
theorem named_some (hj : j < os.length) (hu : os[j] = u) (s : List Ky) (hs : s.length = 16) (y : Ky) : (named (os.set j (slotsAs u s hs)) y).isSome = (named os y).isSome := by
  rw [named_set hj hu]
  split
  · rw [Option.isSome_map]
  · rfl
set_option maxRecDepth 8000 in
theorem prepd_set (hj : j < os.length) (hu : os[j] = u) (s : List Ky) (hs : s.length = 16) (y : Ky) : prepd (os.set j (slotsAs u s hs)) y = prepd os y := by
  unfold prepd
  rw [named_some hj hu]
set_option maxRecDepth 8000 in
theorem gotK_set (hj : j < os.length) (hu : os[j] = u) (s : List Ky) (hs : s.length = 16) (x y : Ky) : gotK (os.set j (slotsAs u s hs)) x y = gotK os x y := by
  unfold gotK
  rw [prepd_set hj hu]
theorem AskD.set {x : Ky} (d : AskD os x j u) (s : List Ky) (hs : s.length = 16) : AskD (os.set j (slotsAs u s hs)) x j (slotsAs u s hs) :=
  ⟨by rw [named_set d.lt d.at_, if_pos d.jn, d.nm]; rfl, d.k, d.ok, d.o, by rw [List.length_set]; exact d.lt, by rw [List.getElem_set_self], d.uk⟩
theorem slotAs_as (u : Oj) (i : Nat) (v : Ky) : slotAs u i v = slotsAs u (u.s.set i v) (by rw [List.length_set]; exact u.hs) := rfl
set_option maxRecDepth 8000 in
theorem getA_d {x : Ky} (d : AskD os x j u) {i : Nat} (hi : i < 16) : getA os x (i : Int) = (gotK os x (u.s[i]'(by rw [u.hs]; exact hi)), 0) := by
  unfold getA
  rw [if_pos d.is, if_pos (by omega), d.eq, Int.toNat_natCast, List.getElem?_eq_getElem (by rw [u.hs]; exact hi)]
  rfl
set_option maxRecDepth 8000 in
theorem putA_d {x v : Ky} (d : AskD os x j u) (hr : x.r % 4 = 0) {i : Nat} (hi : i < 16) (hv : v.may os.length) : putA os x (i : Int) v = (os.set j (slotAs u i (prepd os v)), gotK os x (u.s[i]'(by rw [u.hs]; exact hi)), 0) := by
  unfold putA
  rw [if_pos d.is, if_pos hr, if_pos (by omega), if_pos hv, d.eq, Int.toNat_natCast, List.getElem?_eq_getElem (by rw [u.hs]; exact hi), d.jn]
  rfl
set_option maxRecDepth 8000 in
/-- it was put: so it may be -/
theorem putA_ok0 {x v : Ky} {i : Int} (h : (putA os x i v).2.2 = 0) : ∃ j u k, AskD os x j u ∧ x.r % 4 = 0 ∧ i = (k : Int) ∧ k < 16 ∧ v.may os.length := by
  unfold putA at h
  split at h
  · next ha =>
    obtain ⟨j, u, d⟩ := askN_d ha
    split at h
    · next hr =>
      split at h
      · next hi =>
        split at h
        · next hv =>
          obtain ⟨k, rfl⟩ := Int.eq_ofNat_of_zero_le hi.1
          exact ⟨j, u, k, d, hr, rfl, by omega, hv⟩
        · simp at h
      · simp at h
    · simp at h
  · simp at h
set_option maxRecDepth 8000 in
theorem putA_bad {x v : Ky} {i : Int} (h : (putA os x i v).2.2 ≠ 0) : (putA os x i v).1 = os := by
  unfold putA at h ⊢
  split
  · next ha =>
    split
    · next hr =>
      split
      · next hi =>
        split
        · next hv => rw [if_pos ha, if_pos hr, if_pos hi, if_pos hv] at h; exact absurd rfl h
        · rfl
      · rfl
    · rfl
  · rfl
end
/-- a node that was given once, its key, and a number -/
def kn9 : Oj := ⟨1, 1, 0, zks, zbs, rfl, rfl⟩
def knk9 : Ky := ⟨2, 0, 1, 0, 0, 0⟩
def knv9 : Ky := ⟨1, 0, 0, 0, 0, 7⟩
set_option maxRecDepth 8000 in
theorem built9 : Tryd.prog.built 49 [(0, .int .i64 1), (1, .int .i64 1)] = some kn9.cells.toArray := by kernel_rfl
set_option maxRecDepth 8000 in
theorem builtK9 : Tryd.prog.built 30 [(0, .int .i64 2), (2, .int .i64 1)] = some (kl knk9).toArray := by kernel_rfl
set_option maxRecDepth 8000 in
theorem builtV9 : Tryd.prog.built 30 [(0, .int .i64 1), (5, .int .i64 7)] = some (kl knv9).toArray := by kernel_rfl
theorem kn9_ok : kn9.ok 1 := ⟨by decide, by decide, by decide, .inl ⟨rfl, zks_may 1⟩⟩
theorem knk9_ok : knk9.ok := ⟨2, rfl, by decide, by decide, by decide, by decide, by decide, by decide, by decide, by decide, by decide, .inl rfl⟩
theorem knk9_of : knk9.of := ⟨knk9_ok, by decide, by decide⟩
theorem knv9_ok : knv9.ok := ⟨1, rfl, by decide, by decide, by decide, by decide, by decide, by decide, by decide, by decide, by decide, .inr rfl⟩
theorem knv9_not : ¬ knv9.of := fun h => absurd h.2.1 (by decide)
theorem knv9_may : knv9.may 1 := ⟨knv9_ok, fun h => absurd h knv9_not⟩
set_option maxRecDepth 8000 in
theorem knk9_cn : knk9.cn kn9 = true := by
  unfold Ky.cn
  refine cnt_yes ⟨knk9_ok, fun h => ⟨?_, rfl, .inl (by decide)⟩⟩
  unfold Ky.want
  rw [if_pos h]
  rfl
theorem kn9_d : AskD [kn9] knk9 0 kn9 := ⟨by
  rw [named_is knk9_of]
  have e : ([kn9] : List Oj)[knk9.o.toNat]? = some kn9 := rfl
  rw [e, Option.filter_some, knk9_cn]
  rfl, rfl, knk9_ok, rfl, by decide, rfl, rfl⟩
set_option maxRecDepth 8000 in
theorem prepd_knv (os : List Oj) : prepd os knv9 = knv9 := by
  unfold prepd
  rw [cn_oz.2 ⟨knv9_ok, knv9_not⟩, Bool.or_true, if_pos rfl]
set_option maxRecDepth 8000 in
theorem prepd_zk (os : List Oj) : prepd os zk = zk := by
  unfold prepd
  split <;> rfl
theorem kn9_all : okAll ([kn9] : List Oj).length [kn9] := fun x hx => by
  rw [List.mem_singleton.1 hx]
  exact kn9_ok
theorem kn9_right : rightP [kn9] := ⟨by decide, by decide, kn9_all⟩
def kn9' : Oj := slotAs kn9 3 knv9
set_option maxRecDepth 8000 in
theorem kn9_put : putA [kn9] knk9 3 knv9 = ([kn9'], zk, 0) := by
  have := putA_d (v := knv9) kn9_d (by decide) (i := 3) (by decide) knv9_may
  rw [prepd_knv] at this
  have e : gotK [kn9] knk9 zk = zk := by unfold gotK; rw [if_neg (by decide), prepd_zk]
  exact this.trans (congrArg (fun z => ([kn9'], z, (0 : Int))) e)
set_option maxRecDepth 8000 in
theorem kn9_get : getA [kn9'] knk9 3 = (knv9, 0) := by
  have d := kn9_d.set (kn9.s.set 3 knv9) (by rw [List.length_set]; exact kn9.hs)
  have := getA_d d (i := 3) (by decide)
  have e : gotK [kn9'] knk9 knv9 = knv9 := by unfold gotK; rw [if_neg (by decide), prepd_knv]
  exact this.trans (congrArg (fun z => (z, (0 : Int))) e)
end Go.Proofs.YtedlacdijkggjaaDoor

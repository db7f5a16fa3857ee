/- pages: what stays behind a change of one page's bytes; the page that known asks: plain. -/
import Derived.Test.YtedlacdijkggjaaDoorGAny
namespace Go.Proofs.YtedlacdijkggjaaDoor
open Go.RowKit
section
variable {os : List Oj} {j : Nat} {u U : Oj}
theorem cn_bAs (y : Ky) (u : Oj) (l : List UInt8) (hl : l.length = 64) : y.cn (bAs u l hl) = y.cn u := rfl
set_option maxRecDepth 8000 in
theorem cn_layO (y : Ky) (u : Oj) (a : Nat) (s : List UInt8) : y.cn (layO u a s) = y.cn u := by
  unfold layO
  split <;> rfl
set_option maxRecDepth 8000 in
theorem layO_k (u : Oj) (a : Nat) (s : List UInt8) : (layO u a s).k = u.k := by
  unfold layO
  split <;> rfl
set_option maxRecDepth 8000 in
theorem named_setO (hj : j < os.length) (hu : os[j] = u) (hU : ∀ y : Ky, y.cn U = y.cn u) (y : Ky) : named (os.set j U) y = if y.o.toNat = j then (named os y).map (fun _ => U) else named os y := by
  by_cases hy : y.of
  · rw [named_is hy, named_is hy]
    by_cases e : y.o.toNat = j
    · subst e
      rw [if_pos rfl, List.getElem?_set_self hj, List.getElem?_eq_getElem hj, hu]
      have hcs := hU y
      simp only [Option.filter_some]
      by_cases hc : y.cn u = true
      · rw [if_pos hc, if_pos (hcs.trans hc)]
        rfl
      · rw [if_neg hc, if_neg (fun h => hc (hcs.symm.trans h))]
        rfl
    · rw [if_neg e, List.getElem?_set_ne (fun h => e h.symm)]
  · rw [named_not hy, named_not hy]
    split <;> rfl
theorem PgD.setO {x : Ky} (d : PgD os x j u) (hU : ∀ y : Ky, y.cn U = y.cn u) (hk : U.k = 2) : PgD (os.set j U) x j U :=
  ⟨by rw [named_setO d.lt d.at_ hU, if_pos d.jn, d.nm]; rfl, d.k, d.ok, d.o, by rw [List.length_set]; exact d.lt, by rw [List.getElem_set_self], hk, d.r⟩
theorem pgA_d {x : Ky} (d : PgD os x j u) {ch : Bool} (hr : ch = false ∨ x.r = 0) : pgA os x ch = 0 := pgA_y d.is hr
set_option maxRecDepth 8000 in
theorem rdA_d {x : Ky} (d : PgD os x j u) {a n : Nat} (h : a + n ≤ 64) : rdA os x (a : Int) (n : Int) = ((u.b.drop a).take n, 0) := by
  have e : spE os x false (a : Int) (n : Int) = 0 := by
    unfold spE
    rw [pgA_d d (.inl rfl), if_pos rfl, if_pos ⟨by omega, by omega, by omega⟩]
  unfold rdA
  rw [if_pos e, d.eq, Int.toNat_natCast, Int.toNat_natCast]
set_option maxRecDepth 8000 in
theorem wrA_d {x : Ky} (d : PgD os x j u) (hr : x.r = 0) {a : Nat} {s : List UInt8} (h : a + s.length ≤ 64) : wrA os x (a : Int) s = (os.set j (layO u a s), 0) := by
  have e : spE os x true (a : Int) (s.length : Int) = 0 := by
    unfold spE
    rw [pgA_d d (.inr hr), if_pos rfl, if_pos ⟨by omega, by omega, by omega⟩]
  unfold wrA
  rw [if_pos e, d.eq, Int.toNat_natCast, d.jn]
end
/-- a page that was given once, its key -/
def kn10 : Oj := ⟨2, 1, 0, zks, zbs, rfl, rfl⟩
def knk10 : Ky := ⟨3, 0, 1, 0, 0, 0⟩
set_option maxRecDepth 8000 in
theorem built10 : Tryd.prog.built 49 [(0, .int .i64 2), (1, .int .i64 1)] = some kn10.cells.toArray := by kernel_rfl
set_option maxRecDepth 8000 in
theorem builtK10 : Tryd.prog.built 30 [(0, .int .i64 3), (2, .int .i64 1)] = some (kl knk10).toArray := by kernel_rfl
theorem kn10_ok : kn10.ok 1 := ⟨by decide, by decide, by decide, .inr (.inl ⟨rfl, by decide⟩)⟩
theorem knk10_ok : knk10.ok := ⟨3, rfl, by decide, by decide, by decide, by decide, by decide, by decide, by decide, by decide, by decide, .inl rfl⟩
theorem knk10_of : knk10.of := ⟨knk10_ok, by decide, by decide⟩
set_option maxRecDepth 8000 in
theorem knk10_cn : knk10.cn kn10 = true := by
  unfold Ky.cn
  refine cnt_yes ⟨knk10_ok, fun h => ⟨?_, rfl, .inl (by decide)⟩⟩
  unfold Ky.want
  rw [if_pos h]
  rfl
theorem kn10_d : PgD [kn10] knk10 0 kn10 := ⟨by
  rw [named_is knk10_of]
  have e : ([kn10] : List Oj)[knk10.o.toNat]? = some kn10 := rfl
  rw [e, Option.filter_some, knk10_cn]
  rfl, rfl, knk10_ok, rfl, by decide, rfl, rfl, .inl rfl⟩
theorem kn10_all : okAll ([kn10] : List Oj).length [kn10] := fun x hx => by
  rw [List.mem_singleton.1 hx]
  exact kn10_ok
theorem kn10_right : rightP [kn10] := ⟨by decide, by decide, kn10_all⟩
def kn10' : Oj := layO kn10 62 [97, 98]
theorem kn10_write : wrA [kn10] knk10 62 [97, 98] = ([kn10'], 0) := wrA_d kn10_d rfl (a := 62) (by decide)
set_option maxRecDepth 8000 in
theorem kn10_read : rdA [kn10'] knk10 61 3 = ([0, 97, 98], 0) := by
  have d : PgD [kn10'] knk10 0 kn10' := kn10_d.setO (fun y => cn_layO y _ _ _) (layO_k _ _ _)
  have e : ((kn10'.b.drop 61).take 3) = [0, 97, 98] := by
    unfold kn10'
    rw [layO_b (by decide)]
    rfl
  have := rdA_d d (a := 61) (n := 3) (by decide)
  rw [e] at this
  exact this
end Go.Proofs.YtedlacdijkggjaaDoor

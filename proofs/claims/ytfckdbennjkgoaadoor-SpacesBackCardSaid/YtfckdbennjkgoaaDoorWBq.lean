/- spaces: what is loaded behind a Store, plain. -/
import Derived.Test.YtfckdbennjkgoaaDoorWBp
import Derived.Test.YtfckdbennjkgoaaDoorWLo
namespace Go.Proofs.YtfckdbennjkgoaaDoor
open Go.RowKit
section
variable {os : List Oj} {j : Nat} {u U : Oj}
set_option maxRecDepth 8000 in
theorem page_r1 {x : Ky} (hk : x.k = 3) (h : x.ok) : ({ x with r := 1 } : Ky).ok := by
  obtain ⟨n, hn, h0, h1, h2, h3, h4, h5, h6, _, _, h9⟩ := h
  have h3n : n = 3 := by omega
  subst h3n
  exact ⟨3, hn, h0, h1, h2, h3, h4, h5, h6, (by decide : (0 : Int) ≤ 1), (by decide : (1 : Int) ≤ kRts 3), h9⟩
set_option maxRecDepth 8000 in
theorem cn_r1 {x : Ky} (hk : x.k = 3) (h : x.ok) (o : Oj) : ({ x with r := 1 } : Ky).cn o = x.cn o := by
  have o1 : x.of := ⟨h, by omega, by omega⟩
  have o2 : ({ x with r := 1 } : Ky).of := ⟨page_r1 hk h, by show 2 ≤ x.k; omega, by show x.k ≤ 7; omega⟩
  have w1 : x.want = 2 := by unfold Ky.want; rw [if_pos o1, if_pos hk]
  have w2 : ({ x with r := 1 } : Ky).want = 2 := by unfold Ky.want; rw [if_pos o2, if_pos hk]
  unfold Ky.cn Ky.cnt
  rw [decide_eq_decide]
  constructor
  · intro hh
    refine ⟨h, fun _ => ?_⟩
    have := hh.2 o2
    rw [w2] at this
    rw [w1]
    exact this
  · intro hh
    refine ⟨page_r1 hk h, fun _ => ?_⟩
    have := hh.2 o1
    rw [w1] at this
    rw [w2]
    exact this
set_option maxRecDepth 8000 in
theorem PgD.ro {x : Ky} (d : PgD os x j u) : PgD os { x with r := 1 } j u := by
  have o1 : x.of := ⟨d.ok, by have := d.k; omega, by have := d.k; omega⟩
  have o2 : ({ x with r := 1 } : Ky).of := ⟨page_r1 d.k d.ok, by have := d.k; show 2 ≤ x.k; omega, by have := d.k; show x.k ≤ 7; omega⟩
  refine ⟨?_, d.k, page_r1 d.k d.ok, d.o, d.lt, d.at_, d.uk, .inr rfl⟩
  rw [named_is o2, ← d.nm, named_is o1]
  have : (fun o => ({ x with r := 1 } : Ky).cn o) = fun o => x.cn o := funext fun o => cn_r1 d.k d.ok o
  rw [this]
set_option maxRecDepth 8000 in
theorem pgK_D {x : Ky} (d : PgD os x j u) (r : Nat) : PgD os (pgK x r) j u := by
  unfold pgK
  split
  · exact d
  · exact d.ro
set_option maxRecDepth 8000 in
theorem found_D {n : Nat} {s : Ws} {y : Ky} {a : Nat} {kp : Ky} {d : Nat} (h : runW os n s = .found y a kp d) : a < 64 ∧ ∃ j u, PgD os y j u := by
  obtain ⟨ha, x, hp, r, rfl⟩ := stepW_at h
  obtain ⟨j, u, hd⟩ := pgN_d hp
  exact ⟨ha, j, u, pgK_D hd r⟩
set_option maxRecDepth 8000 in
theorem lay_back {b : List UInt8} {a : Nat} {s : List UInt8} (h : a + s.length ≤ b.length) : ((lay b a s).drop a).take s.length = s := by
  unfold lay
  rw [List.append_assoc, List.drop_left' (by rw [List.length_take]; omega), List.take_left' rfl]
set_option maxRecDepth 8000 in
/-- what was stored is loaded, by each key of that page -/
theorem loadA_back {x y y2 : Ky} {a : Int} {b d : Nat} {kp : Ky} {t : List UInt8} (D : PgD os y j u) (hr : refA os x a t.length = 0) (hO : goneW os x a = .found y2 b kp d) (D2 : PgD os y2 j u) (hb : b + t.length ≤ 64) :
    loadA (os.set j (layO u b t)) x a t.length = (t, zfa, 0) := by
  unfold loadA
  rw [refA_set, if_pos hr, goneW_lay D, hO, show (Wo.found y2 b kp d).hold (t.length : Int) = .found y2 b kp d from if_neg (by omega)]
  show ((rdA (os.set j (layO u b t)) y2 (b : Int) (t.length : Int)).1, zfa, 0) = _
  rw [rdA_d (D2.setO (fun z => cn_layO z u b t) (by rw [layO_k]; exact D2.uk)) hb, layO_b hb, lay_back (by rw [u.hb]; exact hb)]
set_option maxRecDepth 8000 in
theorem refA_n {x : Ky} {a n : Int} (h : refA os x a 0 = 0) (h0 : 0 ≤ n) (h1 : n ≤ 64) : refA os x a n = 0 := by
  unfold refA at h ⊢
  split at h
  · next hm =>
    split at h
    · next ha => rw [if_pos hm, if_pos ⟨ha.1, h0, h1⟩]
    · omega
  · omega
set_option maxRecDepth 8000 in
theorem walkA_goes {x : Ky} {a : Int} (h1 : (walkA os x a).2.1.k = 0) (h2 : (walkA os x a).2.2 = 0) :
    ∃ (y : Ky) (b : Nat) (kp : Ky) (d : Nat), refA os x a 0 = 0 ∧ goneW os x a = .found y b kp d ∧ (walkA os x a).1 = ⟨y, b, kp, d⟩ := by
  unfold walkA at h1 h2 ⊢
  split at h2
  · next hr =>
    rw [if_pos hr] at h1 ⊢
    cases hO : goneW os x a with
    | fault k kp => rw [hO] at h1; exact absurd h1 (runW_fault hO)
    | found y b kp d => exact ⟨y, b, kp, d, hr, rfl, rfl⟩
  · next hr => exact absurd h2 hr
set_option maxRecDepth 8000 in
theorem storeA_stays {x : Ky} {a : Int} {t : List UInt8} (h : (storeA os x a t).2.1.k ≠ 0 ∨ (storeA os x a t).2.2 ≠ 0) : (storeA os x a t).1 = os := by
  unfold storeA at h ⊢
  split at h
  · next hr =>
    rw [if_pos hr]
    cases hW : ((goneW os x a).hold (t.length : Int)).wr with
    | fault k kp => rfl
    | found y b kp d =>
      rw [hW] at h
      rcases h with h | h
      · exact absurd rfl h
      · exact absurd rfl h
  · next hr => rw [if_neg hr]
set_option maxRecDepth 8000 in
/-- a Store that goes: the Walk there, what it leaves, the Load there -/
theorem storeA_back {x : Ky} {a : Int} {t : List UInt8} (h1 : (storeA os x a t).2.1.k = 0) (h2 : (storeA os x a t).2.2 = 0) :
    ∃ (y : Ky) (b : Nat) (kp : Ky) (d j : Nat) (u : Oj), walkA os x a = (⟨y, b, kp, d⟩, zfa, 0) ∧ y.r = 0 ∧ y.o = (j : Int) ∧ j < os.length ∧ (storeA os x a t).1 = os.set j (layO u b t) ∧ loadA (storeA os x a t).1 x a t.length = (t, zfa, 0) ∧
      ∀ (x2 : Ky) (a2 : Int), (walkA os x2 a2).2.1.k = 0 → (walkA os x2 a2).2.2 = 0 → (walkA os x2 a2).1.x.o = (j : Int) → (walkA os x2 a2).1.a = (b : Int) → t.length ≤ 64 → loadA (storeA os x a t).1 x2 a2 t.length = (t, zfa, 0) := by
  obtain ⟨y, b, kp, d, j, u, hr, hO, h0, hb, D, e⟩ := storeA_goes h1 h2
  have hr0 : refA os x a 0 = 0 := by
    unfold refA at hr ⊢
    split at hr
    · next hm =>
      split at hr
      · next ha => rw [if_pos hm, if_pos ⟨ha.1, by omega, by omega⟩]
      · omega
    · omega
  refine ⟨y, b, kp, d, j, u, ?_, h0, D.o, D.lt, e, ?_, ?_⟩
  · unfold walkA
    rw [if_pos hr0, hO]
    rfl
  · rw [e]
    exact loadA_back D hr hO D hb
  · intro x2 a2 g1 g2 g3 g4 ht
    obtain ⟨y2, b2, kp2, d2, hr2, hO2, ew⟩ := walkA_goes g1 g2
    rw [ew] at g3 g4
    obtain ⟨_, j2, u2, D2⟩ := found_D hO2
    have hb2 : b2 = b := by have : (b2 : Int) = b := g4; omega
    have hj : j2 = j := by have h3 : y2.o = (j : Int) := g3; have := D2.o; omega
    subst hj hb2
    have hu : u2 = u := D2.at_.symm.trans D.at_
    subst hu
    rw [e]
    exact loadA_back D (refA_n hr2 (by omega) (by omega)) hO2 D2 hb
end
end Go.Proofs.YtfckdbennjkgoaaDoor

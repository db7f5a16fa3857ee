/- procs: what each call answers, of any store: plain. -/
import Derived.Test.YtljfddeolapeaaaDoorJIv
namespace Go.Proofs.YtljfddeolapeaaaDoor
open Go.RowKit
def goO (md : Int) (u : Oj) : Oj := if md = 1 then slotAs u 2 (nmk 2) else if md = 3 then slotAs u 2 (nmk 0) else u
def toO (k : Int) (v : Oj) : Oj := if k = 7 then callsAs v (v.l + 1) else v
def ansK (md i : Int) (u : Oj) : Ky := if md = 1 then ⟨7, i, u.c, u.l, 0, 0⟩ else zk
open Classical in
noncomputable def invA (os : List Oj) (i : Int) (x : Ky) (md : Int) (m : Mg) : List Oj × Int :=
  if ¬ (1 ≤ md ∧ md ≤ 3) ∨ ¬ x.may os.length ∨ ¬ mayM os m then (os, 2)
  else if stA os i ≠ some 1 then (os, 230)
  else if ¬ ((named os x).isSome = true ∧ (x.k = 6 ∨ x.k = 7) ∧ stA os x.o ≠ none) then (os, 231)
  else if x.k = 6 ∧ ¬ mayS_ md i x.o (objA os x.o) ∨ x.k = 7 ∧ stA os x.o ≠ some 2 then (os, 232)
  else if x.k = 7 ∧ (objA os x.o).l = 4294967295 ∨ md = 1 ∧ (objA os i).l = 4294967295 then (os, 233)
  else ((os.set i.toNat (goO md (objA os i))).set x.o.toNat (handO (toO x.k (objA os x.o)) (cntM os m) (ansK md i (objA os i))), 0)
open Classical in
noncomputable def ansA (os : List Oj) (i : Int) (m : Mg) : List Oj × Int :=
  if ¬ mayM os m then (os, 2) else if stA os i ≠ some 1 then (os, 230) else (os.set i.toNat (handO (objA os i) (cntM os m) zk), 0)
/-- the data of a node's bytes -/
def datB (b : List UInt8) : List UInt8 := if ((b[0]?).getD 0).toNat ≤ 32 then (b.drop 1).take ((b[0]?).getD 0).toNat else []
def codK (k : Ky) : Int := if k.k = 1 then k.v else 0
def K3 (u : Oj) : List Ky := [slt u 12, slt u 13, slt u 14]
noncomputable def tolM (os : List Oj) (u : Oj) : Mg := ⟨codK (slt u 3), datB u.b, (K3 u).map (prepd os), rfl⟩
noncomputable def tolA (os : List Oj) (i : Int) : Mg × Int := if stA os i = none then (mz, 230) else (tolM os (objA os i), 0)
theorem nmk_not (n : Int) : ¬ (nmk n).of := fun h => absurd (show (2 : Int) ≤ 1 from h.2.1) (by decide)
theorem nmk_may (n s : Int) : (nmk s).may n := ⟨nmk_ok s, fun h => absurd h (nmk_not s)⟩
theorem slotAs_ok {n : Int} {u : Oj} (h : u.ok n) (hk : u.k = 1) (i : Nat) {y : Ky} (hy : y.may n) : (slotAs u i y).ok n := ⟨h.1, h.2.1, h.2.2.1, .inl ⟨hk, set_may (node_may h hk) i hy⟩⟩
theorem handO_ok {n : Int} {u : Oj} (h : u.ok n) (hk : u.k = 1) {m : Mg} (hm : mayS n m.k) {k : Ky} (hy : k.may n) : (handO u m k).ok n := ⟨h.1, h.2.1, h.2.2.1, .inl ⟨hk, fun y hy' => by
  rcases hand_slots u m k y hy' with h1 | h1 | h1 | h1 | h1
  · exact node_may h hk y h1
  · exact hm y h1
  · exact h1 ▸ hy
  · exact h1 ▸ nmk_may n _
  · exact h1 ▸ nmk_may n _⟩⟩
set_option maxRecDepth 8000 in
theorem goO_ok {n : Int} {u : Oj} (h : u.ok n) (hk : u.k = 1) (md : Int) : (goO md u).ok n := by
  unfold goO
  split
  · exact slotAs_ok h hk 2 (nmk_may n _)
  · split
    · exact slotAs_ok h hk 2 (nmk_may n _)
    · exact h
theorem callsAs_ok {n : Int} {u : Oj} (h : u.ok n) (hk : u.k = 1) (q : Int) (hq : 0 ≤ q ∧ q ≤ 4294967295) : (callsAs u q).ok n := ⟨h.1, h.2.1, hq, .inl ⟨hk, (node_may h hk : mayS n u.s)⟩⟩
set_option maxRecDepth 8000 in
theorem toO_ok {n : Int} {u : Oj} (h : u.ok n) (hu : u.k = 1) (k : Int) (hl : ¬ (k = 7 ∧ u.l = 4294967295)) : (toO k u).ok n := by
  unfold toO
  split
  · next hk => exact callsAs_ok h hu _ (by have := h.2.2.1; have : u.l ≠ 4294967295 := fun e => hl ⟨hk, e⟩; omega)
  · exact h
set_option maxRecDepth 8000 in
theorem toO_k (k : Int) (u : Oj) : (toO k u).k = u.k := by
  unfold toO
  split <;> rfl
set_option maxRecDepth 8000 in
theorem ansK_may {n : Nat} {u : Oj} (h : u.ok n) (md : Int) (j : Nat) (hj : j < n) (hn : n ≤ 64) : (ansK md (j : Int) u).may n := by
  unfold ansK
  split
  · refine ⟨⟨7, rfl, by decide, Int.natCast_nonneg j, ?_, h.2.1.1, ?_, h.2.2.1.1, ?_, Int.le_refl 0, (by decide : (0 : Int) ≤ kRts 7), .inl rfl⟩, fun _ => ?_⟩
    · show (j : Int) ≤ 63
      omega
    · exact h.2.1.2
    · exact h.2.2.1.2
    · show (j : Int) < n
      omega
  · exact zk_may _
theorem cntM_may (os : List Oj) (m : Mg) : mayS os.length (cntM os m).k := fun y hy => by
  obtain ⟨z, _, rfl⟩ := List.mem_map.1 hy
  exact prepd_may os z
set_option maxRecDepth 8000 in
theorem objA_ok {n : Int} {os : List Oj} (h : okAll n os) (j : Nat) (hj : j < os.length) : (objA os (j : Int)).ok n := by
  rw [objA_in os j hj]
  exact h _ (List.getElem_mem hj)
set_option maxRecDepth 8000 in
theorem invA_len (os : List Oj) (i : Int) (x : Ky) (md : Int) (m : Mg) : (invA os i x md m).1.length = os.length := by
  unfold invA
  split <;> (try split) <;> (try split) <;> (try split) <;> (try split) <;> simp
set_option maxRecDepth 8000 in
theorem ansA_len (os : List Oj) (i : Int) (m : Mg) : (ansA os i m).1.length = os.length := by
  unfold ansA
  split <;> (try split) <;> simp
set_option maxRecDepth 8000 in
theorem becA_len (os : List Oj) (i s : Int) : (becA os i s).1.length = os.length := by
  unfold becA
  split <;> (try split) <;> simp
/-- where an invocation goes -/
structure InvD (os : List Oj) (i : Int) (x : Ky) (md : Int) (m : Mg) (a b : Nat) (s : Int) : Prop where
  hmd : 1 ≤ md ∧ md ≤ 3
  hx : x.may os.length
  hm : mayM os m
  hi : i = (a : Int)
  ha : a < os.length
  run : stA os i = some 1
  nm : (named os x).isSome = true
  k : x.k = 6 ∨ x.k = 7
  ho : x.o = (b : Int)
  hb : b < os.length
  st : stA os x.o = some s
  start : x.k = 6 → mayS_ md i x.o (objA os x.o)
  res : x.k = 7 → s = 2 ∧ (objA os x.o).l ≠ 4294967295
  call : md = 1 → (objA os i).l ≠ 4294967295
set_option maxRecDepth 8000 in
theorem invA_ok0 {os : List Oj} {i : Int} {x : Ky} {md : Int} {m : Mg} (h : (invA os i x md m).2 = 0) : ∃ a b s, InvD os i x md m a b s := by
  unfold invA at h
  split at h
  · cases h
  next h1 =>
    split at h
    · cases h
    next h2 =>
      split at h
      · cases h
      next h3 =>
        split at h
        · cases h
        next h4 =>
          split at h
          · cases h
          next h5 =>
            have g2 : stA os i = some 1 := Classical.byContradiction h2
            have g3 := Classical.byContradiction h3
            obtain ⟨a, ha, hal⟩ := stA_in (os := os) (i := i) (by rw [g2]; simp)
            obtain ⟨b, hb, hbl⟩ := stA_in g3.2.2
            obtain ⟨s, hs⟩ := Option.ne_none_iff_exists'.1 g3.2.2
            refine ⟨a, b, s, Classical.byContradiction fun q => h1 (.inl q), Classical.byContradiction fun q => h1 (.inr (.inl q)), Classical.byContradiction fun q => h1 (.inr (.inr q)), ha, hal, g2, g3.1, g3.2.1, hb, hbl, hs, fun hk => Classical.byContradiction fun q => h4 (.inl ⟨hk, q⟩), fun hk => ⟨?_, fun q => h5 (.inl ⟨hk, q⟩)⟩, fun hk q => h5 (.inr ⟨hk, q⟩)⟩
            have : stA os x.o = some 2 := Classical.byContradiction fun q => h4 (.inr ⟨hk, q⟩)
            rw [hs] at this
            exact Option.some.inj this
set_option maxRecDepth 8000 in
theorem InvD.eq {os : List Oj} {i : Int} {x : Ky} {md : Int} {m : Mg} {a b : Nat} {s : Int} (d : InvD os i x md m a b s) : invA os i x md m = ((os.set a (goO md (objA os i))).set b (handO (toO x.k (objA os x.o)) (cntM os m) (ansK md i (objA os i))), 0) := by
  unfold invA
  rw [if_neg, if_neg, if_neg, if_neg, if_neg]
  · rw [show i.toNat = a by have := d.hi; omega, show x.o.toNat = b by have := d.ho; omega]
  · rintro (⟨h1, h2⟩ | ⟨h1, h2⟩)
    · exact (d.res h1).2 h2
    · exact d.call h1 h2
  · rintro (⟨h1, h2⟩ | ⟨h1, h2⟩)
    · exact h2 (d.start h1)
    · exact h2 (by rw [d.st, (d.res h1).1])
  · intro h
    exact h ⟨d.nm, d.k, by rw [d.st]; simp⟩
  · intro h
    exact h d.run
  · rintro (h | h | h)
    · exact h d.hmd
    · exact h d.hx
    · exact h d.hm
theorem InvD.okI {os : List Oj} {i : Int} {x : Ky} {md : Int} {m : Mg} {a b : Nat} {s : Int} (d : InvD os i x md m a b s) (ho : okAll os.length os) : (goO md (objA os i)).ok os.length := goO_ok (d.hi ▸ objA_ok ho a d.ha) (stN_k (u := objA os i) (by have := d.run; unfold stA at this; rw [this]; simp)) md
theorem InvD.okT {os : List Oj} {i : Int} {x : Ky} {md : Int} {m : Mg} {a b : Nat} {s : Int} (d : InvD os i x md m a b s) (ho : okAll os.length os) (hN : os.length ≤ 64) : (handO (toO x.k (objA os x.o)) (cntM os m) (ansK md i (objA os i))).ok os.length :=
  have hk1 : (objA os x.o).k = 1 := stN_k (u := objA os x.o) (by have := d.st; unfold stA at this; rw [this]; simp)
  handO_ok (toO_ok (d.ho ▸ objA_ok ho b d.hb) hk1 _ fun q => (d.res q.1).2 q.2) (by rw [toO_k]; exact hk1) (cntM_may os m) (by
    have := ansK_may (u := objA os i) (d.hi ▸ objA_ok ho a d.ha) md a d.ha hN
    rw [← d.hi] at this
    exact this)
set_option maxRecDepth 8000 in
theorem invA_bad {os : List Oj} {i : Int} {x : Ky} {md : Int} {m : Mg} (h : (invA os i x md m).2 ≠ 0) : (invA os i x md m).1 = os := by
  revert h
  unfold invA
  split <;> (try split) <;> (try split) <;> (try split) <;> (try split) <;> simp
set_option maxRecDepth 8000 in
theorem invA_ok {os : List Oj} (ho : okAll os.length os) (hN : os.length ≤ 64) (i : Int) (x : Ky) (md : Int) (m : Mg) : okAll os.length (invA os i x md m).1 := by
  by_cases h : (invA os i x md m).2 = 0
  · obtain ⟨a, b, s, d⟩ := invA_ok0 h
    rw [d.eq]
    exact okAll_set (okAll_set ho a (d.okI ho)) b (d.okT ho hN)
  · rw [invA_bad h]
    exact ho
set_option maxRecDepth 8000 in
theorem ansA_ok {os : List Oj} (ho : okAll os.length os) (i : Int) (m : Mg) : okAll os.length (ansA os i m).1 := by
  unfold ansA
  split
  · exact ho
  · split
    · exact ho
    · next h =>
      have h : stA os i = some 1 := Classical.byContradiction h
      obtain ⟨j, rfl, hj⟩ := stA_in (os := os) (i := i) (by rw [h]; simp)
      rw [Int.toNat_natCast]
      exact okAll_set ho j (handO_ok (objA_ok ho j hj) (stN_k (u := objA os (j : Int)) (by unfold stA at h; rw [h]; simp)) (cntM_may os m) (zk_may _))
set_option maxRecDepth 8000 in
theorem becA_ok {os : List Oj} (ho : okAll os.length os) (i s : Int) : okAll os.length (becA os i s).1 := by
  unfold becA
  split
  · next h =>
    split
    · obtain ⟨j, rfl, hj⟩ := objA_node (os := os) (i := i) (by rw [h]; decide)
      rw [Int.toNat_natCast]
      exact okAll_set ho j (slotAs_ok (objA_ok ho j hj) h 2 (nmk_may _ _))
    · exact ho
  · exact ho
end Go.Proofs.YtljfddeolapeaaaDoor

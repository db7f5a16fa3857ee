/- spaces: where an address lies, or which fault it is: plain. -/
import Derived.Test.YtjolojomgfcfbaaDoorR25
namespace Go.Proofs.YtjolojomgfcfbaaDoor
open Go.RowKit
/-- how far a walk has come: the key, the address in its space, the height ahead, the rights gathered, the keeper, how deep -/
structure Ws where
  x : Ky
  left : Nat
  high : Int
  r : Nat
  kp : Ky
  d : Nat
/-- what a walk ends with -/
inductive Wo where
  | fault (k : Int) (kp : Ky)
  | found (x : Ky) (a : Nat) (kp : Ky) (d : Nat)
/-- how many addresses a slot has -/
def part (h : Nat) : Nat := 64 * 16 ^ (h - 1)
theorem part_pos (h : Nat) : 0 < part h := Nat.mul_pos (by decide) (Nat.pow_pos (by decide))
theorem part_le {h : Nat} (h8 : h ≤ 8) : part h ≤ 17179869184 := Nat.mul_le_mul (Nat.le_refl 64) (Nat.pow_le_pow_right (by decide) (show h - 1 ≤ 7 by omega))
def pgK (x : Ky) (r : Nat) : Ky := if r % 4 = 0 then x else { x with r := 1 }
def sl (u : Oj) (i : Nat) : Ky := (u.s[i]?).getD zk
/-- the key gives a node a height that may follow -/
def hOk (h : Ky) (high : Int) : Prop := h.k = 1 ∧ 1 ≤ h.v ∧ h.v ≤ 8 ∧ h.v < high
open Classical in
noncomputable def keep (os : List Oj) (u : Oj) (r : Nat) (kp : Ky) : Ky := if (prepd os (sl u 14)).k = 6 ∧ r < 4 then sl u 14 else kp
open Classical in
noncomputable def stepW (os : List Oj) (s : Ws) : Wo ⊕ Ws :=
  if pgN os s.x then (if 64 ≤ s.left then .inl (.fault 2 s.kp) else .inl (.found (pgK s.x s.r) s.left s.kp s.d))
  else if askN os s.x then
    (if s.d = 8 then .inl (.fault 3 s.kp)
     else if hOk (sl ((named os s.x).getD oz) 15) s.high then
      (if 14 ≤ s.left / part (sl ((named os s.x).getD oz) 15).v.toNat then .inl (.fault 2 (keep os ((named os s.x).getD oz) (s.r ||| s.x.r.toNat) s.kp))
       else .inr ⟨gotK os s.x (sl ((named os s.x).getD oz) (s.left / part (sl ((named os s.x).getD oz) 15).v.toNat)), s.left % part (sl ((named os s.x).getD oz) 15).v.toNat, (sl ((named os s.x).getD oz) 15).v, s.r ||| s.x.r.toNat, keep os ((named os s.x).getD oz) (s.r ||| s.x.r.toNat) s.kp, s.d + 1⟩)
     else .inl (.fault 4 s.kp))
  else .inl (.fault 1 s.kp)
noncomputable def runW (os : List Oj) : Nat → Ws → Wo
  | 0, s => .fault 3 s.kp
  | n + 1, s => match stepW os s with
    | .inl o => o
    | .inr t => runW os n t
def ws0 (x : Ky) (a : Nat) : Ws := ⟨x, a, 9, 0, zk, 0⟩
/-- a place as it is told -/
structure Fo where
  x : Ky
  a : Int
  kp : Ky
  d : Int
/-- a fault as it is told -/
structure Fa where
  k : Int
  kp : Ky
  a : Int
def Fo.cells (f : Fo) : List Value := kl f.x ++ (.int .i64 f.a :: (kl f.kp ++ [.int .i64 f.d]))
def Fa.cells (f : Fa) : List Value := .int .i64 f.k :: (kl f.kp ++ [.int .i64 f.a])
abbrev Fo.val (f : Fo) : Value := .agg f.cells.toArray
abbrev Fa.val (f : Fa) : Value := .agg f.cells.toArray
def zfo : Fo := ⟨zk, 0, zk, 0⟩
def zfa : Fa := ⟨0, zk, 0⟩
def Wo.fo : Wo → Fo
  | .fault _ _ => zfo
  | .found x a kp d => ⟨x, a, kp, d⟩
def Wo.fa (ad : Int) : Wo → Fa
  | .fault k kp => ⟨k, kp, ad⟩
  | .found _ _ _ _ => zfa
-- what refuses a root, an address, a number of bytes
open Classical in
noncomputable def refA (os : List Oj) (x : Ky) (a n : Int) : Int := if x.may os.length then (if 0 ≤ a ∧ 0 ≤ n ∧ n ≤ 64 then 0 else 4) else 2
noncomputable def goneW (os : List Oj) (x : Ky) (a : Int) : Wo := runW os 9 (ws0 x a.toNat)
noncomputable def walkA (os : List Oj) (x : Ky) (a : Int) : Fo × Fa × Int :=
  if refA os x a 0 = 0 then ((goneW os x a).fo, (goneW os x a).fa a, 0) else (zfo, zfa, refA os x a 0)
/-- so many bytes from a place on: what of it is a fault -/
def Wo.hold (n : Int) : Wo → Wo
  | .fault k kp => .fault k kp
  | .found x a kp d => if 64 < (a : Int) + n then .fault 5 kp else .found x a kp d
def Wo.wr : Wo → Wo
  | .fault k kp => .fault k kp
  | .found x a kp d => if x.r = 0 then .found x a kp d else .fault 6 kp
noncomputable def Wo.bytes (os : List Oj) (n : Int) : Wo → List UInt8
  | .fault _ _ => []
  | .found x a _ _ => (rdA os x a n).1
noncomputable def Wo.put (os : List Oj) (s : List UInt8) : Wo → List Oj
  | .fault _ _ => os
  | .found x a _ _ => (wrA os x a s).1
noncomputable def storeA (os : List Oj) (x : Ky) (a : Int) (s : List UInt8) : List Oj × Fa × Int :=
  if refA os x a s.length = 0 then ((((goneW os x a).hold s.length).wr).put os s, (((goneW os x a).hold s.length).wr).fa a, 0) else (os, zfa, refA os x a s.length)
def spanA (h : Int) : Int := if h = 0 then 64 else if 1 ≤ h ∧ h ≤ 8 then 14 * (part h.toNat : Int) else 0
theorem Fo.len (f : Fo) : f.cells.length = 14 := rfl
theorem Fa.len (f : Fa) : f.cells.length = 8 := rfl
set_option maxRecDepth 8000 in
theorem Fo.one (f : Fo) : ∀ u ∈ f.cells, u.oneCell' = true := by
  intro u h
  simp only [Fo.cells, List.mem_append, List.mem_cons, List.not_mem_nil, or_false] at h
  rcases h with h | rfl | h | rfl
  · exact kl_one _ u h
  · rfl
  · exact kl_one _ u h
  · rfl
set_option maxRecDepth 8000 in
theorem Fa.one (f : Fa) : ∀ u ∈ f.cells, u.oneCell' = true := by
  intro u h
  simp only [Fa.cells, List.mem_append, List.mem_cons, List.not_mem_nil, or_false] at h
  rcases h with rfl | h | rfl
  · rfl
  · exact kl_one _ u h
  · rfl
-- what a step does
section
variable {os : List Oj} {s : Ws}
theorem not_both {x : Ky} (h : pgN os x) : ¬ askN os x := fun q => by have h1 := h.2; have h2 := q.2; omega
set_option maxRecDepth 8000 in
theorem stepW_far (h : pgN os s.x) (hl : 64 ≤ s.left) : stepW os s = .inl (.fault 2 s.kp) := by unfold stepW; rw [if_pos h, if_pos hl]
set_option maxRecDepth 8000 in
theorem stepW_page (h : pgN os s.x) (hl : ¬ 64 ≤ s.left) : stepW os s = .inl (.found (pgK s.x s.r) s.left s.kp s.d) := by unfold stepW; rw [if_pos h, if_neg hl]
set_option maxRecDepth 8000 in
theorem stepW_void (h : ¬ pgN os s.x) (h2 : ¬ askN os s.x) : stepW os s = .inl (.fault 1 s.kp) := by unfold stepW; rw [if_neg h, if_neg h2]
set_option maxRecDepth 8000 in
theorem stepW_deep (h : askN os s.x) (hd : s.d = 8) : stepW os s = .inl (.fault 3 s.kp) := by unfold stepW; rw [if_neg (fun q => not_both q h), if_pos h, if_pos hd]
variable {u : Oj} {j : Nat}
set_option maxRecDepth 8000 in
theorem stepW_form (h : AskD os s.x j u) (hd : s.d ≠ 8) (hh : ¬ hOk (sl u 15) s.high) : stepW os s = .inl (.fault 4 s.kp) := by
  unfold stepW
  rw [if_neg (fun q => not_both q h.is), if_pos h.is, if_neg hd, h.eq, if_neg hh]
set_option maxRecDepth 8000 in
theorem stepW_range (h : AskD os s.x j u) (hd : s.d ≠ 8) (hh : hOk (sl u 15) s.high) {m : Nat} (hm : (sl u 15).v = (m : Int)) (hs : 14 ≤ s.left / part m) : stepW os s = .inl (.fault 2 (keep os u (s.r ||| s.x.r.toNat) s.kp)) := by
  unfold stepW
  rw [if_neg (fun q => not_both q h.is), if_pos h.is, if_neg hd, h.eq, if_pos hh, hm, Int.toNat_natCast, if_pos hs]
set_option maxRecDepth 8000 in
theorem stepW_on (h : AskD os s.x j u) (hd : s.d ≠ 8) (hh : hOk (sl u 15) s.high) {m : Nat} (hm : (sl u 15).v = (m : Int)) (hs : ¬ 14 ≤ s.left / part m) :
    stepW os s = .inr ⟨gotK os s.x (sl u (s.left / part m)), s.left % part m, (m : Int), s.r ||| s.x.r.toNat, keep os u (s.r ||| s.x.r.toNat) s.kp, s.d + 1⟩ := by
  unfold stepW
  rw [if_neg (fun q => not_both q h.is), if_pos h.is, if_neg hd, h.eq, if_pos hh, hm, Int.toNat_natCast, if_neg hs]
end
end Go.Proofs.YtjolojomgfcfbaaDoor

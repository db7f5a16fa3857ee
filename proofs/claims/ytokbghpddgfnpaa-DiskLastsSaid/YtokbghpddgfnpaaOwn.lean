/- rows of the call's own: small words. -/
import Derived.Test.YtokbghpddgfnpaaApp
import Derived.Test.YtokbghpddgfnpaaStr
import Derived.Deep.RegionWith
namespace Go.Proofs.Ytokbghpddgfnpaa
open Go.RowKit
theorem lit0 (w : World) : (w.alloc (.cells #[] 5)).ownsRow w.heap.size 5 1 (.slice (some ⟨w.heap.size, 0, none⟩) 0 0) 0 (bv []) := World.ownsRow_lit w #[] 0 (Nat.le_refl _) (Nat.zero_le _) rfl
theorem below_lit0 (w : World) : Below w.heap.size w (w.alloc (.cells #[] 5)) := (Below.refl _ _).alloc (Nat.le_refl _) _
set_option maxRecDepth 8000 in
theorem take_snoc {α : Type} (l : List α) (k : Nat) (h : k < l.length) : l.take (k + 1) = l.take k ++ [l[k]] := by
  rw [List.take_succ_eq_append_getElem h]
set_option maxRecDepth 8000 in
theorem own_some {w : World} {base n : Nat} {e : TypeId} {v : Value} {xs : List Value} (h : w.ownsRow base e 1 v n xs) (hn : 0 < n) : ∃ g cap, v = .slice (some ⟨g, 0, none⟩) n cap ∧ n ≤ cap := by
  rcases h.2 with ⟨_, h0⟩ | ⟨g, cap, cur, h1, _, _, h2, _⟩
  · omega
  · exact ⟨g, cap, h1, h2⟩
set_option maxRecDepth 8000 in
theorem own_below {w w' : World} {base n : Nat} {e : TypeId} {v : Value} {xs : List Value} (h : w.ownsRow base e 1 v n xs) (hb : Below w.heap.size w w') : w'.ownsRow base e 1 v n xs := by
  refine h.kept (row := none) ⟨hb.os, hb.tape, hb.output, hb.size, fun k hk _ => hb.block k hk⟩ ?_
  cases hv : v.ownBlock with
  | none => exact .inl rfl
  | some k => exact .inr (by simp)
set_option maxRecDepth 8000 in
theorem own_cap {w : World} {base n cap : Nat} {e : TypeId} {C : Option Addr} {xs : List Value} (h : w.ownsRow base e 1 (.slice C n cap) n xs) : n ≤ cap := by
  rcases h.2 with ⟨h', h0⟩ | ⟨g, cap', cur, h', _, _, h1, _⟩
  · omega
  · injection h' with _ _ h'
    omega
/-- the first k bytes turned by one -/
def bump (k : Nat) (l : List UInt8) : List UInt8 := (l.take k).map (fun x => x + 1) ++ l.drop k
set_option maxRecDepth 8000 in
theorem bump_zero (l : List UInt8) : bump 0 l = l := by simp [bump]
set_option maxRecDepth 8000 in
theorem bump_length (k : Nat) (l : List UInt8) : (bump k l).length = l.length := by simp [bump]; omega
set_option maxRecDepth 8000 in
theorem bump_get (k : Nat) (l : List UInt8) (j : Nat) (hj : k ≤ j) (h : j < l.length) : (bump k l)[j]? = some l[j] := by
  unfold bump
  rw [List.getElem?_append_right (by simp; omega), List.length_map, List.length_take, List.getElem?_drop, Nat.min_eq_left (by omega), show k + (j - k) = j by omega, List.getElem?_eq_getElem h]
set_option maxRecDepth 8000 in
theorem bump_set (k : Nat) (l : List UInt8) (h : k < l.length) : (bv (bump k l)).set k (.int .u8 ((l[k] + 1).toNat : Int)) = bv (bump (k + 1) l) := by
  have e : (bump k l).set k (l[k] + 1) = bump (k + 1) l := by
    unfold bump
    rw [List.set_append_right _ _ (by simp; omega), List.length_map, List.length_take, Nat.min_eq_left (by omega), Nat.sub_self, List.drop_eq_getElem_cons h, take_snoc l k h, List.set_cons_zero, List.map_append, List.map_cons, List.map_nil, List.append_assoc]
    rfl
  rw [← e]
  simp [bv, List.map_set]
set_option maxRecDepth 8000 in
theorem u8_succ (x : UInt8) : ((x.toNat : Int) + 1) % 256 = ((x + 1).toNat : Int) := by
  rw [UInt8.toNat_add]
  simp
theorem grow_trans {a b c : World} {r : Option Nat} (h : a.grownBy b r) (k : b.grownBy c r) : a.grownBy c r :=
  ⟨k.os.trans h.os, k.tape.trans h.tape, k.output.trans h.output, Nat.le_trans h.size k.size, fun i hi hr => (k.block i (Nat.lt_of_lt_of_le hi h.size) hr).trans (h.block i hi hr)⟩
theorem below_grow {B : Nat} {a b c : World} {g : Nat} (h : Below B a b) (k : b.grownBy c (some g)) (hB : B ≤ g) (hb : B ≤ b.heap.size) : Below B a c := h.grown k hb fun i hi => by injection hi with hi; omega
end Go.Proofs.Ytokbghpddgfnpaa

/- disk: comparing of sectors and of writes. -/
import Derived.Test.YtokbghpddgfnpaaCrash
import Derived.ChangeKeysEq
import Derived.Laws.StructEq
namespace Go.Proofs.Ytokbghpddgfnpaa
open Go.RowKit
section
variable (w : World)
set_option maxRecDepth 8000 in
theorem eq5 (d : Nat) (a b : UInt8) : (Op.equalIn (d + 1) 5 (.int .u8 (a.toNat : Int)) (.int .u8 (b.toNat : Int))).run Try.prog w = .ok (a == b) w := by
  have e : (((a.toNat : Nat) : Int) == ((b.toNat : Nat) : Int)) = (a == b) := by
    rcases Decidable.em (a = b) with rfl | h
    · simp
    · have h2 : a.toNat ≠ b.toNat := fun e => h (UInt8.toNat_inj.1 e)
      have h3 : ((a.toNat : Nat) : Int) ≠ ((b.toNat : Nat) : Int) := by omega
      rw [beq_eq_false_iff_ne.2 h, beq_eq_false_iff_ne.2 h3]
  simp [Op.equalIn, run_underlying Try.underlying5, e]
set_option maxRecDepth 8000 in
theorem part5 (l : List UInt8) (i : Nat) (hi : i < l.length) : (part 5 (bv l).toArray i).run Try.prog w = .ok (.int .u8 ((l[i]'hi).toNat : Int)) w := by
  have hg : (bv l).toArray[i]? = some (.int .u8 ((l[i]'hi).toNat : Int)) := by
    simp [bv, hi]
  exact run_part_plain w (by kernel_rfl) hg
set_option maxRecDepth 8000 in
theorem eqItems_bv (d : Nat) (l l' : List UInt8) : ∀ is : List Nat, (∀ i ∈ is, i < l.length ∧ i < l'.length) →
    (Op.eqItems (d + 1) 5 1 (bv l).toArray (bv l').toArray is).run Try.prog w = .ok (is.all fun i => l[i]? == l'[i]?) w
  | [], _ => by simp [Op.eqItems]
  | i :: is, h => by
    obtain ⟨h1, h2⟩ := h i (by simp)
    simp only [Op.eqItems, Sem.run_bind, Nat.mul_one, part5 w l i h1, part5 w l' i h2, Result.andThen_ok, eq5]
    have e : ((l[i]? == l'[i]?) : Bool) = (l[i] == l'[i]) := by simp [h1, h2]
    rw [List.all_cons, e]
    cases hq : (l[i] == l'[i]) with
    | false => simp
    | true => simpa using eqItems_bv d l l' is (fun j hj => h j (by simp [hj]))
set_option maxRecDepth 8000 in
theorem all_range (l l' : List UInt8) (n : Nat) (h : l.length = n) (h' : l'.length = n) : ((List.range n).all fun i => l[i]? == l'[i]?) = (l == l') := by
  rcases Decidable.em (l = l') with rfl | hne
  · simp
  · rw [beq_eq_false_iff_ne.2 hne]
    refine Bool.eq_false_iff.2 (fun hall => hne (List.ext_getElem? (fun i => ?_)))
    rcases Nat.lt_or_ge i n with hi | hi
    · have := List.all_eq_true.1 hall i (List.mem_range.2 hi)
      simpa using this
    · rw [List.getElem?_eq_none (by omega), List.getElem?_eq_none (by omega)]
set_option maxRecDepth 8000 in
theorem info5 : ∃ i, Try.prog.info? 5 = some i := by
  cases h : Try.prog.info? 5 with
  | none => exact absurd (show (Try.prog.info? 5).isSome = true by kernel_rfl) (by simp [h])
  | some i => exact ⟨i, rfl⟩
set_option maxRecDepth 8000 in
theorem equalIn47 (d : Nat) (l l' : List UInt8) (h : l.length = 512) (h' : l'.length = 512) : (Op.equalIn (d + 2) 38 (sec l) (sec l')).run Try.prog w = .ok (l == l') w := by
  obtain ⟨i, hi⟩ := info5
  have hc : Try.prog.cellsOf 5 = 1 := by kernel_rfl
  rw [show d + 2 = (d + 1) + 1 from rfl, run_equalIn_array w (d + 1) _ _ Try.underlying38 hi, hc, eqItems_bv w d l l' _ (fun j hj => by have := List.mem_range.1 hj; omega), all_range l l' 512 h h']
set_option maxRecDepth 8000 in
theorem run_eql47 (l l' : List UInt8) (h : l.length = 512) (h' : l'.length = 512) : (binOp .eql 38 (sec l) (sec l')).run Try.prog w = .ok (.bool (l == l')) w := by
  have := equalIn47 w 9998 l l' h h'
  simp only [binOp]
  simp [show Op.equal 38 (sec l) (sec l') = Op.equalIn (9998 + 2) 38 (sec l) (sec l') from rfl, this]
set_option maxRecDepth 8000 in
theorem run_neq47 (l l' : List UInt8) (h : l.length = 512) (h' : l'.length = 512) : (binOp .neq 38 (sec l) (sec l')).run Try.prog w = .ok (.bool (!(l == l'))) w := by
  have := equalIn47 w 9998 l l' h h'
  simp only [binOp]
  simp [show Op.equal 38 (sec l) (sec l') = Op.equalIn (9998 + 2) 38 (sec l) (sec l') from rfl, this]
end
end Go.Proofs.Ytokbghpddgfnpaa

/- law 10: strings cut and joined; what is written and read: words. -/
import Derived.Test.YtedlacdijkggjaaDoorGDo
import Derived.Laws.Strings2
import Derived.Laws.Concat
import Derived.WalkSpells
namespace Go.Proofs.YtedlacdijkggjaaDoor
open Go.RowKit
set_option maxRecDepth 8000 in
theorem st_add (a b : List UInt8) : st a ++ st b = st (a ++ b) := by
  apply ByteArray.ext
  simp [st]
set_option maxRecDepth 8000 in
theorem y_addst {ops : Array Oper} {S : World → Prop} {o : Oper} {a : Act} (hw : Region.wanted o (yielded ops a.tmps) = true) (x y : Operand) (ho : o.op = .binOp .add 9 x y 9)
    (u v r : List UInt8) (hx : a.eval x = .string (st u)) (hy : a.eval y = .string (st v)) (hr : u ++ v = r) (hs : r.length ≤ 1000) : YieldsIf Tryd.prog ops S o (.string (st r)) a :=
  .inl ⟨hw, fun w _ => by
    have h1 : (st u).size + (st v).size ≤ 9223372036854775807 := by
      rw [st_size, st_size]
      have := congrArg List.length hr
      rw [List.length_append] at this
      omega
    unfold execOp
    simp only [ho, hx, hy, Sem.run_bind, binOp_string_add, run_string_add_sum w (st u) (st v) h1, Result.andThen_ok, Sem.run_pure, eqGuard, Bool.not_false, if_true, st_add, hr]⟩
theorem st_extract (l : List UInt8) (a b : Nat) : (st l).extract a b = st ((l.drop a).take (b - a)) := ByteArray.extract_mk l a b
set_option maxRecDepth 8000 in
theorem run_st_hi (t : TypeId) (h : Tryd.prog.underlying t = some .string) (l : List UInt8) (a : Nat) (ha : a ≤ l.length) (W : World) : (Instr.slice t (.string (st l)) none (some (.int .i64 (a : Int))) none).run Tryd.prog W = .ok (.string (st (l.take a))) W := by
  have h1 : (a : Int) ≤ ((st l).size : Int) := by rw [st_size]; omega
  have h2 : ((a : Int) ≤ (l.length : Int)) := by omega
  have e := st_extract l 0 a
  rw [List.drop_zero, Nat.sub_zero] at e
  simp [Instr.slice, Instr.sliceBounds, Instr.sliceBound, asIntOf, run_underlying h, st_size, ha, e]
set_option maxRecDepth 8000 in
theorem run_st_lo (t : TypeId) (h : Tryd.prog.underlying t = some .string) (l : List UInt8) (a : Nat) (ha : a ≤ l.length) (W : World) : (Instr.slice t (.string (st l)) (some (.int .i64 (a : Int))) none none).run Tryd.prog W = .ok (.string (st (l.drop a))) W := by
  have h1 : (a : Int) ≤ ((st l).size : Int) := by rw [st_size]; omega
  have h2 : ((a : Int) ≤ (l.length : Int)) := by omega
  have e := st_extract l a l.length
  rw [List.take_of_length_le (by simp)] at e
  simp [Instr.slice, Instr.sliceBounds, Instr.sliceBound, asIntOf, run_underlying h, st_size, ha, e]
set_option maxRecDepth 8000 in
theorem wrA_bad {os : List Oj} {x : Ky} {a : Int} {s : List UInt8} (h : (wrA os x a s).2 ≠ 0) : (wrA os x a s).1 = os := by
  unfold wrA at h ⊢
  split at h
  · exact absurd rfl h
  · next h1 => rw [if_neg h1]
set_option maxRecDepth 8000 in
theorem wrA_good {os : List Oj} {x : Ky} {a : Int} {s : List UInt8} (h : (wrA os x a s).2 = 0) : ∃ (j : Nat) (u : Oj) (i : Nat), PgD os x j u ∧ x.r = 0 ∧ a = (i : Int) ∧ i + s.length ≤ 64 := by
  have h0 : spE os x true a s.length = 0 := by
    unfold wrA at h
    split at h
    · next h1 => exact h1
    · exact h
  obtain ⟨h1, h2⟩ := spE_0 h0
  obtain ⟨hp, hr⟩ := pgA_0 h1
  obtain ⟨j, u, d⟩ := pgN_d hp
  obtain ⟨i, k, rfl, hk, hik⟩ := inB_nat h2
  exact ⟨j, u, i, d, hr.resolve_left (by decide), rfl, by omega⟩
set_option maxRecDepth 8000 in
theorem lay_mid {b : List UInt8} {a : Nat} {s : List UInt8} (h : a + s.length ≤ b.length) : ((lay b a s).drop a).take s.length = s := by
  have hl : (b.take a).length = a := by simp; omega
  unfold lay
  rw [List.append_assoc, List.drop_append, hl, Nat.sub_self, List.drop_zero, List.drop_eq_nil_of_le (by omega), List.nil_append, List.take_left]
set_option maxRecDepth 8000 in
theorem cut_all {b : List UInt8} (h : b.length = 64) : (b.drop 0).take 64 = b := by
  rw [List.drop_zero, List.take_of_length_le (by omega)]
theorem Kb.fr {w W W' : World} {bs : List (Nat × TypeId × Array Value)} {N1 : Nat} (h : Kb w bs N1 W) {ps : List Nat} (hf : Fr (fun i => i ∈ ps) W W') (hp : ∀ i ∈ ps, N1 ≤ i) : Kb w bs N1 W' :=
  ⟨h.bel.trans (hf.to_below (fun i hi => Nat.le_trans h.n0 (hp i hi)) h.bel.size), h.n0, Nat.le_trans h.sz hf.size, fun b hm => ⟨(h.blk b hm).1, (hf.block b.1 (h.blk b hm).2.lt (fun hi => by have := hp _ hi; have := (h.blk b hm).1; omega)).trans (h.blk b hm).2⟩⟩
end Go.Proofs.YtedlacdijkggjaaDoor

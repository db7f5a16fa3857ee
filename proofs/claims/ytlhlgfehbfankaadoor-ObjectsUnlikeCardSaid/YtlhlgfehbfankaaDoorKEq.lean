/- keys: comparing of keys. -/
import Derived.Test.YtlhlgfehbfankaaDoorKBlk
import Derived.ChangeKeysEq
import Derived.Laws.StructEq
namespace Go.Proofs.YtlhlgfehbfankaaDoor
open Go.RowKit
theorem fields25 : (Tryd.prog.fieldsOf 30).toList.map (fun f => (f.name == "_", f.type, f.offset)) = [(false, 27, 0), (false, 3, 1), (false, 2, 2), (false, 2, 3), (false, 28, 4), (false, 2, 5)] := by kernel_rfl
theorem eq_head {d : Nat} {xs ys : Array Value} {t : TypeId} {i : Nat} {q : IntKind} {a b : Int} (w : World) (f : Field) (fs : List Field) (hn : (f.name == "_") = false) (ht : f.type = t) (ho : f.offset = i) (hu : Tryd.prog.underlying t = some (.int q))
    (hp : ∀ w, (part t xs i).run Tryd.prog w = .ok (.int q a) w) (hq : ∀ w, (part t ys i).run Tryd.prog w = .ok (.int q b) w) (b' : Bool) (hr : a = b → (Op.eqFields (d + 1) xs ys fs).run Tryd.prog w = .ok b' w) :
    (Op.eqFields (d + 1) xs ys (f :: fs)).run Tryd.prog w = .ok (decide (a = b) && b') w := by
  have hn' : f.name ≠ "_" := by simpa using hn
  subst ht ho
  simp only [Op.eqFields, hn', ne_eq, not_false_eq_true, if_true, Sem.run_bind, hp, hq, Result.andThen_ok, run_equalIn_int _ d f.type q q a b hu]
  by_cases h : a = b
  · subst h
    simp [hr rfl]
  · simp [h]
theorem eqFields_nil (d : Nat) (xs ys : Array Value) (w : World) : (Op.eqFields d xs ys []).run Tryd.prog w = .ok true w := by simp [Op.eqFields]
theorem key_eqFields (k o c l r v k' o' c' l' r' v' : Int) (w : World) :
    (Op.eqFields 9999 (kc k o c l r v) (kc k' o' c' l' r' v') (Tryd.prog.fieldsOf 30).toList).run Tryd.prog w =
      .ok (decide (k = k') && (decide (o = o') && (decide (c = c') && (decide (l = l') && (decide (r = r') && (decide (v = v') && true)))))) w := by
  have hf := fields25
  generalize (Tryd.prog.fieldsOf 30).toList = fs at hf ⊢
  have hl : fs.length = 6 := by have := congrArg List.length hf; simpa using this
  match fs, hl, hf with
  | [f0, f1, f2, f3, f4, f5], _, hf =>
    simp only [List.map_cons, List.map_nil, List.cons.injEq, Prod.mk.injEq, and_true] at hf
    obtain ⟨⟨n0, t0, o0⟩, ⟨n1, t1, o1⟩, ⟨n2, t2, o2⟩, ⟨n3, t3, o3⟩, ⟨n4, t4, o4⟩, ⟨n5, t5, o5⟩⟩ := hf
    exact eq_head w f0 _ n0 t0 o0 Tryd.underlying27 (fun w => run_part_plain w (by kernel_rfl) rfl) (fun w => run_part_plain w (by kernel_rfl) rfl) _ fun _ =>
      eq_head w f1 _ n1 t1 o1 Tryd.underlying3 (fun w => run_part_plain w (by kernel_rfl) rfl) (fun w => run_part_plain w (by kernel_rfl) rfl) _ fun _ =>
      eq_head w f2 _ n2 t2 o2 Tryd.underlying2 (fun w => run_part_plain w (by kernel_rfl) rfl) (fun w => run_part_plain w (by kernel_rfl) rfl) _ fun _ =>
      eq_head w f3 _ n3 t3 o3 Tryd.underlying2 (fun w => run_part_plain w (by kernel_rfl) rfl) (fun w => run_part_plain w (by kernel_rfl) rfl) _ fun _ =>
      eq_head w f4 _ n4 t4 o4 Tryd.underlying28 (fun w => run_part_plain w (by kernel_rfl) rfl) (fun w => run_part_plain w (by kernel_rfl) rfl) _ fun _ =>
      eq_head w f5 _ n5 t5 o5 Tryd.underlying2 (fun w => run_part_plain w (by kernel_rfl) rfl) (fun w => run_part_plain w (by kernel_rfl) rfl) _ fun _ => eqFields_nil _ _ _ w
/-- are two keys the same -/
def sameK (k o c l r v k' o' c' l' r' v' : Int) : Bool := decide (k = k' ∧ o = o' ∧ c = c' ∧ l = l' ∧ r = r' ∧ v = v')
theorem sameK_eq (k o c l r v k' o' c' l' r' v' : Int) : (decide (k = k') && (decide (o = o') && (decide (c = c') && (decide (l = l') && (decide (r = r') && (decide (v = v') && true)))))) = sameK k o c l r v k' o' c' l' r' v' := by
  unfold sameK
  rw [Bool.eq_iff_iff]
  simp
theorem key_eql (w : World) (k o c l r v k' o' c' l' r' v' : Int) : (binOp .eql 30 (.agg (kc k o c l r v)) (.agg (kc k' o' c' l' r' v'))).run Tryd.prog w = .ok (.bool (sameK k o c l r v k' o' c' l' r' v')) w := by
  rw [run_eql_struct, run_equalIn_agg w 9999 30 _ _ (by kernel_rfl) (by kernel_rfl), key_eqFields, sameK_eq]
  rfl
theorem key_neq (w : World) (k o c l r v k' o' c' l' r' v' : Int) : (binOp .neq 30 (.agg (kc k o c l r v)) (.agg (kc k' o' c' l' r' v'))).run Tryd.prog w = .ok (.bool (!sameK k o c l r v k' o' c' l' r' v')) w := by
  rw [run_neq_struct, run_equalIn_agg w 9999 30 _ _ (by kernel_rfl) (by kernel_rfl), key_eqFields, sameK_eq]
  rfl
end Go.Proofs.YtlhlgfehbfankaaDoor

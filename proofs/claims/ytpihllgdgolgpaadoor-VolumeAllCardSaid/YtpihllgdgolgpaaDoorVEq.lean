/- volume: comparing of places; what they are, by the plan. -/
import Derived.Test.YtpihllgdgolgpaaDoorVAll
import Derived.Test.YtpihllgdgolgpaaDoorVSpt
import Derived.Test.YtpihllgdgolgpaaDoorRegIn
import Derived.ChangeKeysEq
import Derived.Laws.StructEq
namespace Go.Proofs.YtpihllgdgolgpaaDoor
open Go.RowKit
theorem RdS.drew {w : World} {g : Nat} {s : List Sp} (h : RdS w g s) : RdS w.drew g s := h
theorem RdP.drew {w : World} {g : Nat} {l : List Pt} (h : RdP w g l) : RdP w.drew g l := h
set_option maxRecDepth 8000 in
theorem fieldsS : (Tryd.prog.fieldsOf 30).toList.map (fun f => (f.name == "_", f.type, f.offset)) = [(false, 28, 0), (false, 3, 1), (false, 3, 2)] := by kernel_rfl
set_option maxRecDepth 8000 in
theorem eq_head {d : Nat} {xs ys : Array Value} {t : TypeId} {i : Nat} {q : IntKind} {a b : Int} (w : World) (f : Field) (fs : List Field) (hn : (f.name == "_") = false) (ht : f.type = t) (ho : f.offset = i) (hu : Tryd.prog.underlying t = some (.int q))
    (hp : ∀ w, (part t xs i).run Tryd.prog w = .ok (.int q a) w) (hq : ∀ w, (part t ys i).run Tryd.prog w = .ok (.int q b) w) (b' : Bool) (hr : a = b → (Op.eqFields (d + 1) xs ys fs).run Tryd.prog w = .ok b' w) :
    (Op.eqFields (d + 1) xs ys (f :: fs)).run Tryd.prog w = .ok (decide (a = b) && b') w := by
  have hn' : f.name ≠ "_" := by simpa using hn
  subst ht ho
  simp only [Op.eqFields, hn', ne_eq, not_false_eq_true, if_true, Sem.run_bind, hp, hq, Result.andThen_ok, run_equalIn_int _ d f.type q q a b hu]
  by_cases h : a = b
  · subst h
    simp [hr rfl]
  · simp [h]
set_option maxRecDepth 8000 in
theorem eqFields_nil (d : Nat) (xs ys : Array Value) (w : World) : (Op.eqFields d xs ys []).run Tryd.prog w = .ok true w := by simp [Op.eqFields]
set_option maxRecDepth 8000 in
theorem sp_eqFields (x y : Sp) (w : World) : (Op.eqFields 9999 x.cs.toArray y.cs.toArray (Tryd.prog.fieldsOf 30).toList).run Tryd.prog w = .ok (decide (x.k = y.k) && (decide (x.a = y.a) && (decide (x.t = y.t) && true))) w := by
  have hf := fieldsS
  generalize (Tryd.prog.fieldsOf 30).toList = fs at hf ⊢
  have hl : fs.length = 3 := by have := congrArg List.length hf; simpa using this
  match fs, hl, hf with
  | [f0, f1, f2], _, hf =>
    simp only [List.map_cons, List.map_nil, List.cons.injEq, Prod.mk.injEq, and_true] at hf
    obtain ⟨⟨n0, t0, o0⟩, ⟨n1, t1, o1⟩, ⟨n2, t2, o2⟩⟩ := hf
    exact eq_head w f0 _ n0 t0 o0 Tryd.underlying28 (fun w => run_part_plain w (by kernel_rfl) rfl) (fun w => run_part_plain w (by kernel_rfl) rfl) _ fun _ =>
      eq_head w f1 _ n1 t1 o1 Tryd.underlying3 (fun w => run_part_plain w (by kernel_rfl) rfl) (fun w => run_part_plain w (by kernel_rfl) rfl) _ fun _ =>
      eq_head w f2 _ n2 t2 o2 Tryd.underlying3 (fun w => run_part_plain w (by kernel_rfl) rfl) (fun w => run_part_plain w (by kernel_rfl) rfl) _ fun _ => eqFields_nil _ _ _ w
set_option maxRecDepth 8000 in
theorem sp_same (x y : Sp) : (decide (x.k = y.k) && (decide (x.a = y.a) && (decide (x.t = y.t) && true))) = decide (x = y) := by
  rw [Bool.eq_iff_iff]
  simp only [Bool.and_eq_true, decide_eq_true_eq, and_true]
  exact ⟨Sp.ext, fun h => by subst h; exact ⟨rfl, rfl, rfl⟩⟩
set_option maxRecDepth 8000 in
theorem sp_eql (w : World) (x y : Sp) : (binOp .eql 30 x.val y.val).run Tryd.prog w = .ok (.bool (decide (x = y))) w := by
  rw [run_eql_struct, run_equalIn_agg w 9999 30 _ _ (by kernel_rfl) (by kernel_rfl), sp_eqFields, sp_same]
  rfl
set_option maxRecDepth 8000 in
theorem sp_neq (w : World) (x y : Sp) : (binOp .neq 30 x.val y.val).run Tryd.prog w = .ok (.bool (!decide (x = y))) w := by
  rw [run_neq_struct, run_equalIn_agg w 9999 30 _ _ (by kernel_rfl) (by kernel_rfl), sp_eqFields, sp_same]
  rfl
theorem yields_seq {ops : Array Oper} {S : World → Prop} {o : Oper} {a : Act} (hw : Region.wanted o (yielded ops a.tmps) = true) (p q : Operand) (ho : o.op = .binOp .eql 30 p q 30)
    (x y : Sp) (b : Bool) (hb : decide (x = y) = b) (hx : a.eval p = x.val) (hy : a.eval q = y.val) : YieldsIf Tryd.prog ops S o (.bool b) a :=
  .inl ⟨hw, fun w _ => by
    unfold execOp
    simp only [ho, hx, hy, Sem.run_bind, run_eqGuard_agg (P := Tryd.prog) w .eql 30 p q x.cs.toArray y.cs.toArray (by kernel_rfl), Result.andThen_ok]
    rw [← hb, sp_eql]
    rfl⟩
theorem yields_sne {ops : Array Oper} {S : World → Prop} {o : Oper} {a : Act} (hw : Region.wanted o (yielded ops a.tmps) = true) (p q : Operand) (ho : o.op = .binOp .neq 30 p q 30)
    (x y : Sp) (b : Bool) (hb : (!decide (x = y)) = b) (hx : a.eval p = x.val) (hy : a.eval q = y.val) : YieldsIf Tryd.prog ops S o (.bool b) a :=
  .inl ⟨hw, fun w _ => by
    unfold execOp
    simp only [ho, hx, hy, Sem.run_bind, run_eqGuard_agg (P := Tryd.prog) w .neq 30 p q x.cs.toArray y.cs.toArray (by kernel_rfl), Result.andThen_ok]
    rw [← hb, sp_neq]
    rfl⟩
end Go.Proofs.YtpihllgdgolgpaaDoor

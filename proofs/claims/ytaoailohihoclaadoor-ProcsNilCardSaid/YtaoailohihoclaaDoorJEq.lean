/- procs: messages that are the same: == and !=. -/
import Derived.Test.YtaoailohihoclaaDoorJArgs
import Derived.Test.YtaoailohihoclaaDoorR06
namespace Go.Proofs.YtaoailohihoclaaDoor
open Go.RowKit
set_option maxRecDepth 8000 in
theorem fieldsM : (Tryd.prog.fieldsOf 38).toList.map (fun f => (f.name == "_", f.type, f.offset)) = [(false, 2, 0), (false, 9, 1), (false, 36, 2)] := by kernel_rfl
set_option maxRecDepth 8000 in
theorem keys3_equalIn (w : World) (d : Nat) (l l' : List Ky) (h : l.length = 3) (h' : l'.length = 3) : (Op.equalIn (d + 3) 36 (.agg (kcs l).toArray) (.agg (kcs l').toArray)).run Tryd.prog w = .ok (decide (l = l')) w := by
  obtain ⟨i, hi⟩ := info_some size30
  have hc : Tryd.prog.cellsOf 33 = 6 := by kernel_rfl
  rw [show d + 3 = (d + 2) + 1 from rfl, run_equalIn_array w (d + 2) _ _ Tryd.underlying36 hi, hc, ob_itemsK w d l l' _ (fun j hj => by have := List.mem_range.1 hj; omega), all_range_of l l' 3 h h']
set_option maxRecDepth 8000 in
theorem mg_keysAt (x : Mg) : (x.cells.drop 2).take 18 = kcs x.k := by
  show (kcs x.k).take 18 = kcs x.k
  rw [List.take_of_length_le (by rw [kcs3 x.hk]; decide)]
set_option maxRecDepth 8000 in
theorem mg_fields (w : World) (d : Nat) (x : Mg) : (Op.eqFields (d + 3) x.cells.toArray x.cells.toArray (Tryd.prog.fieldsOf 38).toList).run Tryd.prog w = .ok true w := by
  have hf := fieldsM
  generalize (Tryd.prog.fieldsOf 38).toList = fs at hf ⊢
  have hl : fs.length = 3 := by have := congrArg List.length hf; simpa using this
  match fs, hl, hf with
  | [f0, f1, f2], _, hf =>
    simp only [List.map_cons, List.map_nil, List.cons.injEq, Prod.mk.injEq, and_true] at hf
    obtain ⟨⟨n0, t0, o0⟩, ⟨n1, t1, o1⟩, ⟨n2, t2, o2⟩⟩ := hf
    have hb : (decide (x.c = x.c) && (decide (x.d = x.d) && (decide (x.k = x.k) && true))) = true := by simp
    rw [← hb]
    have i0 : ∀ a b : Int, (Op.equalIn (d + 3) 2 (.int .i64 a) (.int .i64 b)).run Tryd.prog w = .ok (decide (a = b)) w := fun a b => by
      rw [run_equalIn_int w (d + 2) 2 .i64 .i64 a b Tryd.underlying2]
      congr 1
    have i1 : (Op.equalIn (d + 3) 9 (.string (st x.d)) (.string (st x.d))).run Tryd.prog w = .ok (decide (x.d = x.d)) w := by
      rw [run_equalIn_string w (d + 2) 9 _ _ Tryd.underlying9]
      simp
    exact eq_headG w f0 _ n0 t0 o0 (run_part_plain w (by kernel_rfl) rfl) (run_part_plain w (by kernel_rfl) rfl) (i0 _ _) _ <|
      eq_headG w f1 _ n1 t1 o1 (run_part_plain w (by kernel_rfl) rfl) (run_part_plain w (by kernel_rfl) rfl) i1 _ <|
      eq_headG w f2 _ n2 t2 o2 (part_agg w Tryd.underlying36 rfl size3k (mg_keysAt x)) (part_agg w Tryd.underlying36 rfl size3k (mg_keysAt x)) (keys3_equalIn w d _ _ x.hk x.hk) _ <| eqFields_nil _ _ _ w
set_option maxRecDepth 8000 in
theorem mg_neq (w : World) (x : Mg) : (binOp .neq 38 x.val x.val).run Tryd.prog w = .ok (.bool false) w := by
  rw [run_neq_struct, run_equalIn_agg w 9999 38 _ _ (by kernel_rfl) (by kernel_rfl), mg_fields w 9996 x]
  rfl
set_option maxRecDepth 8000 in
theorem mg_eql (w : World) (x : Mg) : (binOp .eql 38 x.val x.val).run Tryd.prog w = .ok (.bool true) w := by
  rw [run_eql_struct, run_equalIn_agg w 9999 38 _ _ (by kernel_rfl) (by kernel_rfl), mg_fields w 9996 x]
  rfl
section
variable {ops : Array Oper} {o : Oper} {a : Act} {S : World → Prop} {p q : Operand}
theorem y_mgne (hw : Region.wanted o (yielded ops a.tmps) = true) (ho : o.op = .binOp .neq 38 p q 38) (x : Mg) (hx : a.eval p = x.val) (hy : a.eval q = x.val) : YieldsIf Tryd.prog ops S o (.bool false) a := y_bin hw ho hx hy (by kernel_rfl) (fun w => mg_neq w x)
theorem y_mgeq (hw : Region.wanted o (yielded ops a.tmps) = true) (ho : o.op = .binOp .eql 38 p q 38) (x : Mg) (hx : a.eval p = x.val) (hy : a.eval q = x.val) : YieldsIf Tryd.prog ops S o (.bool true) a := y_bin hw ho hx hy (by kernel_rfl) (fun w => mg_eql w x)
set_option maxRecDepth 8000 in
theorem y_kyeqJ (hw : Region.wanted o (yielded ops a.tmps) = true) (ho : o.op = .binOp .eql 33 p q 33) (x : Ky) (hx : a.eval p = x.val) (hy : a.eval q = x.val) : YieldsIf Tryd.prog ops S o (.bool true) a := by
  have := y_kyeq (S := S) hw ho x x hx hy
  rwa [decide_eq_true rfl] at this
end
end Go.Proofs.YtaoailohihoclaaDoor

/- spaces: what the laws want beside: != of Found and Fault, their allocs, blocks of a law's own. -/
import Derived.Test.YtfckdbennjkgoaaDoorWRq
namespace Go.Proofs.YtfckdbennjkgoaaDoor
open Go.RowKit
set_option maxRecDepth 8000 in
theorem fieldsFo : (Tryd.prog.fieldsOf 33).toList.map (fun f => (f.name == "_", f.type, f.offset)) = [(false, 31, 0), (false, 3, 6), (false, 31, 7), (false, 3, 13)] := by kernel_rfl
set_option maxRecDepth 8000 in
theorem fieldsFa : (Tryd.prog.fieldsOf 36).toList.map (fun f => (f.name == "_", f.type, f.offset)) = [(false, 34, 0), (false, 31, 1), (false, 2, 7)] := by kernel_rfl
set_option maxRecDepth 8000 in
theorem fo_fields (w : World) (d : Nat) (x : Fo) : (Op.eqFields (d + 3) x.cells.toArray x.cells.toArray (Tryd.prog.fieldsOf 33).toList).run Tryd.prog w = .ok true w := by
  have hf := fieldsFo
  generalize (Tryd.prog.fieldsOf 33).toList = fs at hf ⊢
  have hl : fs.length = 4 := by have := congrArg List.length hf; simpa using this
  match fs, hl, hf with
  | [f0, f1, f2, f3], _, hf =>
    simp only [List.map_cons, List.map_nil, List.cons.injEq, Prod.mk.injEq, and_true] at hf
    obtain ⟨⟨n0, t0, o0⟩, ⟨n1, t1, o1⟩, ⟨n2, t2, o2⟩, ⟨n3, t3, o3⟩⟩ := hf
    have hb : (decide (x.x = x.x) && (decide (x.a = x.a) && (decide (x.kp = x.kp) && (decide (x.d = x.d) && true)))) = true := by simp
    rw [← hb]
    have i0 : ∀ t, Tryd.prog.underlying t = some (.int .i64) → ∀ a b : Int, (Op.equalIn (d + 3) t (.int .i64 a) (.int .i64 b)).run Tryd.prog w = .ok (decide (a = b)) w := fun t ht a b => by
      rw [run_equalIn_int w (d + 2) t .i64 .i64 a b ht]
      congr 1
    exact eq_headG w f0 _ n0 t0 o0 (part_agg w Tryd.underlying31 rfl size30 (ys := kl x.x) rfl) (part_agg w Tryd.underlying31 rfl size30 (ys := kl x.x) rfl) (key_equalIn w (d + 1) x.x x.x) _ <|
      eq_headG w f1 _ n1 t1 o1 (run_part_plain w (by kernel_rfl) rfl) (run_part_plain w (by kernel_rfl) rfl) (i0 _ Tryd.underlying3 _ _) _ <|
      eq_headG w f2 _ n2 t2 o2 (part_agg w Tryd.underlying31 rfl size30 (ys := kl x.kp) rfl) (part_agg w Tryd.underlying31 rfl size30 (ys := kl x.kp) rfl) (key_equalIn w (d + 1) x.kp x.kp) _ <|
      eq_headG w f3 _ n3 t3 o3 (run_part_plain w (by kernel_rfl) rfl) (run_part_plain w (by kernel_rfl) rfl) (i0 _ Tryd.underlying3 _ _) _ <| eqFields_nil _ _ _ w
set_option maxRecDepth 8000 in
theorem fa_fields (w : World) (d : Nat) (x : Fa) : (Op.eqFields (d + 3) x.cells.toArray x.cells.toArray (Tryd.prog.fieldsOf 36).toList).run Tryd.prog w = .ok true w := by
  have hf := fieldsFa
  generalize (Tryd.prog.fieldsOf 36).toList = fs at hf ⊢
  have hl : fs.length = 3 := by have := congrArg List.length hf; simpa using this
  match fs, hl, hf with
  | [f0, f1, f2], _, hf =>
    simp only [List.map_cons, List.map_nil, List.cons.injEq, Prod.mk.injEq, and_true] at hf
    obtain ⟨⟨n0, t0, o0⟩, ⟨n1, t1, o1⟩, ⟨n2, t2, o2⟩⟩ := hf
    have hb : (decide (x.k = x.k) && (decide (x.kp = x.kp) && (decide (x.a = x.a) && true))) = true := by simp
    rw [← hb]
    have i0 : ∀ t, Tryd.prog.underlying t = some (.int .i64) → ∀ a b : Int, (Op.equalIn (d + 3) t (.int .i64 a) (.int .i64 b)).run Tryd.prog w = .ok (decide (a = b)) w := fun t ht a b => by
      rw [run_equalIn_int w (d + 2) t .i64 .i64 a b ht]
      congr 1
    exact eq_headG w f0 _ n0 t0 o0 (run_part_plain w (by kernel_rfl) rfl) (run_part_plain w (by kernel_rfl) rfl) (i0 _ Tryd.underlying34 _ _) _ <|
      eq_headG w f1 _ n1 t1 o1 (part_agg w Tryd.underlying31 rfl size30 (ys := kl x.kp) rfl) (part_agg w Tryd.underlying31 rfl size30 (ys := kl x.kp) rfl) (key_equalIn w (d + 1) x.kp x.kp) _ <|
      eq_headG w f2 _ n2 t2 o2 (run_part_plain w (by kernel_rfl) rfl) (run_part_plain w (by kernel_rfl) rfl) (i0 _ Tryd.underlying2 _ _) _ <| eqFields_nil _ _ _ w
set_option maxRecDepth 8000 in
theorem fo_neq (w : World) (x : Fo) : (binOp .neq 33 x.val x.val).run Tryd.prog w = .ok (.bool false) w := by
  rw [run_neq_struct, run_equalIn_agg w 9999 33 _ _ (by kernel_rfl) (by kernel_rfl), fo_fields w 9996 x]
  rfl
set_option maxRecDepth 8000 in
theorem fa_neq (w : World) (x : Fa) : (binOp .neq 36 x.val x.val).run Tryd.prog w = .ok (.bool false) w := by
  rw [run_neq_struct, run_equalIn_agg w 9999 36 _ _ (by kernel_rfl) (by kernel_rfl), fa_fields w 9996 x]
  rfl
section
variable {ops : Array Oper} {o : Oper} {a : Act} {S : World → Prop} {p q : Operand}
theorem y_fone (hw : Region.wanted o (yielded ops a.tmps) = true) (ho : o.op = .binOp .neq 33 p q 33) (x : Fo) (hx : a.eval p = x.val) (hy : a.eval q = x.val) : YieldsIf Tryd.prog ops S o (.bool false) a := y_bin hw ho hx hy (by kernel_rfl) (fun w => fo_neq w x)
theorem y_fane (hw : Region.wanted o (yielded ops a.tmps) = true) (ho : o.op = .binOp .neq 36 p q 36) (x : Fa) (hx : a.eval p = x.val) (hy : a.eval q = x.val) : YieldsIf Tryd.prog ops S o (.bool false) a := y_bin hw ho hx hy (by kernel_rfl) (fun w => fa_neq w x)
end
section
variable {ops : Array Oper} {o : Oper} {a : Act} {w : World} {K : Act → World → Prop} {Q : Exit → Act → World → Prop} {E : Prop}
set_option maxRecDepth 8000 in
theorem step_allocFo (hgd : o.guard = none) (ho : o.op = .alloc 33)
    (h : ∀ g w', g = w.heap.size → w' = w.alloc (.cells zfo.cells.toArray 33) → K (a.put o.dst (.pointer (some ⟨g, 0, none⟩))) w') :
    if Region.wanted o (yielded ops a.tmps) = true then Oper.wp Tryd.prog o a w K Q else E := by
  have hw : Region.wanted o (yielded ops a.tmps) = true := by simp [Region.wanted, hgd]
  have hz := z59
  rw [if_pos hw]
  unfold Oper.wp
  simp [execOp, ho, Instr.alloc, hz, Result.andThen]
  exact h _ _ rfl rfl
set_option maxRecDepth 8000 in
theorem step_allocFa (hgd : o.guard = none) (ho : o.op = .alloc 36)
    (h : ∀ g w', g = w.heap.size → w' = w.alloc (.cells zfa.cells.toArray 36) → K (a.put o.dst (.pointer (some ⟨g, 0, none⟩))) w') :
    if Region.wanted o (yielded ops a.tmps) = true then Oper.wp Tryd.prog o a w K Q else E := by
  have hw : Region.wanted o (yielded ops a.tmps) = true := by simp [Region.wanted, hgd]
  have hz := z35
  rw [if_pos hw]
  unfold Oper.wp
  simp [execOp, ho, Instr.alloc, hz, Result.andThen]
  exact h _ _ rfl rfl
end
/-- a drawn region that makes two blocks: what follows is said once -/
theorem region_two11 {P : Program} {id : Nat} {ops : Array Oper} {Q : Exit → Act → World → Prop} {a : Act} {w : World} (F : Act → Nat → Nat → Act) (Fx : Nat → Nat → World → Prop) (H : (Code.region id ops true).wp P (fun e a' w' => ∃ g h, e = .normal ∧ a' = F a g h ∧ Fx g h w') a w) (K : ∀ g h W, Fx g h W → Q .normal (F a g h) W) : (Code.region id ops true).wp P Q a w :=
  Code.wp_mono (fun e a' w' ⟨g, h, e1, e2, e3⟩ => by subst e1 e2; exact K g h w' e3) H
structure Nx (N1 : Nat) (W : World) (g : Nat) (t : TypeId) (c : Array Value) : Prop where
  ge : N1 ≤ g
  blk : Blk W g t c
section
variable {W W' : World} {N1 g g' : Nat} {t : TypeId} {c : Array Value}
theorem Nx.below (h : Nx N1 W g t c) (hb : Below W.heap.size W W') : Nx N1 W' g t c := ⟨h.ge, h.blk.keep hb⟩
theorem Nx.alloc (h : Nx N1 W g t c) (o : Obj) : Nx N1 (W.alloc o) g t c := ⟨h.ge, h.blk.alloc o⟩
theorem Nx.drew (h : Nx N1 W g t c) : Nx N1 W.drew g t c := h.below (below_drew (Below.refl _ _))
theorem Nx.set (h : Nx N1 W g t c) (hg : g ≠ g') (c' : Array Value) : Nx N1 (W.setRow g' c') g t c := ⟨h.ge, Blk.row_far h.blk hg c'⟩
theorem Nx.put {c' : Array Value} (h : Nx N1 W g t c') (c : Array Value) : Nx N1 (W.setRow g c) g t c := ⟨h.ge, h.blk.setRow c⟩
end
end Go.Proofs.YtfckdbennjkgoaaDoor

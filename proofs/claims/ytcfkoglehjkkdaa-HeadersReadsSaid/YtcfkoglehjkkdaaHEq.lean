/- headers: comparing of arrays of bytes. -/
import Derived.Test.YtcfkoglehjkkdaaHFld
import Derived.Test.YtcfkoglehjkkdaaP12
namespace Go.Proofs.Ytcfkoglehjkkdaa
open Go.RowKit
set_option maxRecDepth 8000 in
theorem size144 : (Try.prog.info? 137).map (·.size) = some 484 := by kernel_rfl
set_option maxRecDepth 8000 in
theorem size145 : (Try.prog.info? 138).map (·.size) = some 8 := by kernel_rfl
set_option maxRecDepth 8000 in
theorem build144 (w : World) : (Instr.build 137 #[]).run Try.prog w = .ok (sec (List.replicate 484 0)) w := by kernel_rfl
set_option maxRecDepth 8000 in
theorem equalIn144 (w : World) (d : Nat) (l l' : List UInt8) (h : l.length = 484) (h' : l'.length = 484) : (Op.equalIn (d + 2) 137 (sec l) (sec l')).run Try.prog w = .ok (l == l') w := by
  obtain ⟨i, hi⟩ := info5
  have hc : Try.prog.cellsOf 5 = 1 := by kernel_rfl
  rw [show d + 2 = (d + 1) + 1 from rfl, run_equalIn_array w (d + 1) _ _ Try.underlying137 hi, hc, eqItems_bv w d l l' _ (fun j hj => by have := List.mem_range.1 hj; omega), all_range l l' 484 h h']
set_option maxRecDepth 8000 in
theorem run_neq144 (w : World) (l l' : List UInt8) (h : l.length = 484) (h' : l'.length = 484) : (binOp .neq 137 (sec l) (sec l')).run Try.prog w = .ok (.bool (!(l == l'))) w := by
  have := equalIn144 w 9998 l l' h h'
  simp only [binOp]
  simp [show Op.equal 137 (sec l) (sec l') = Op.equalIn (9998 + 2) 137 (sec l) (sec l') from rfl, this]
set_option maxRecDepth 8000 in
theorem equalIn145 (w : World) (d : Nat) (l l' : List UInt8) (h : l.length = 8) (h' : l'.length = 8) : (Op.equalIn (d + 2) 138 (sec l) (sec l')).run Try.prog w = .ok (l == l') w := by
  obtain ⟨i, hi⟩ := info5
  have hc : Try.prog.cellsOf 5 = 1 := by kernel_rfl
  rw [show d + 2 = (d + 1) + 1 from rfl, run_equalIn_array w (d + 1) _ _ Try.underlying138 hi, hc, eqItems_bv w d l l' _ (fun j hj => by have := List.mem_range.1 hj; omega), all_range l l' 8 h h']
set_option maxRecDepth 8000 in
theorem run_neq145 (w : World) (l l' : List UInt8) (h : l.length = 8) (h' : l'.length = 8) : (binOp .neq 138 (sec l) (sec l')).run Try.prog w = .ok (.bool (!(l == l'))) w := by
  have := equalIn145 w 9998 l l' h h'
  simp only [binOp]
  simp [show Op.equal 138 (sec l) (sec l') = Op.equalIn (9998 + 2) 138 (sec l) (sec l') from rfl, this]
section
variable {ops : Array Oper} {S : World → Prop} {o : Oper} {a : Act}
theorem yields_neq144 (hw : Region.wanted o (yielded ops a.tmps) = true) (x y : Operand) (ho : o.op = .binOp .neq 137 x y 137) (l l' : List UInt8) (hx : a.eval x = sec l) (hy : a.eval y = sec l') (h : l.length = 484) (h' : l'.length = 484) : YieldsIf Try.prog ops S o (.bool (!(l == l'))) a :=
  .inl ⟨hw, fun w _ => by
    unfold execOp
    simp only [ho, hx, hy, Sem.run_bind, run_eqGuard_agg (P := Try.prog) w .neq 137 x y (bv l).toArray (bv l').toArray (by kernel_rfl), run_neq144 w l l' h h', Result.andThen_ok, Sem.run_pure]⟩
theorem yields_neq145 (hw : Region.wanted o (yielded ops a.tmps) = true) (x y : Operand) (ho : o.op = .binOp .neq 138 x y 138) (l l' : List UInt8) (hx : a.eval x = sec l) (hy : a.eval y = sec l') (h : l.length = 8) (h' : l'.length = 8) : YieldsIf Try.prog ops S o (.bool (!(l == l'))) a :=
  .inl ⟨hw, fun w _ => by
    unfold execOp
    simp only [ho, hx, hy, Sem.run_bind, run_eqGuard_agg (P := Try.prog) w .neq 138 x y (bv l).toArray (bv l').toArray (by kernel_rfl), run_neq145 w l l' h h', Result.andThen_ok, Sem.run_pure]⟩
theorem yields_build144 (zz : List UInt8) (hz : zz = List.replicate 484 0) (hw : Region.wanted o (yielded ops a.tmps) = true) (ho : o.op = .build 137 #[]) : YieldsIf Try.prog ops S o (sec zz) a :=
  .inl ⟨hw, fun w _ => by
    have hb : (Instr.build 137 #[]).run Try.prog w = .ok (sec zz) w := hz ▸ build144 w
    clear hz
    unfold execOp
    simp only [ho]
    simp [hb, Result.andThen]⟩
end
theorem wpList_y8 {P : Program} {ops : Array Oper} {rest : List Oper} {o : Oper} {a : Act} {w : World} {Q : Exit → Act → World → Prop} {S : World → Prop} {v : Value} (hy : YieldsIf P ops S o v a) (hS : S w) (h : wpList P ops Q rest (a.put o.dst v) w) : wpList P ops Q (o :: rest) a w :=
  wpList_step fun K hK => by
    rcases hy with ⟨hw, hrun⟩ | ⟨hw, rfl⟩
    · rw [if_pos hw]
      unfold Oper.wp
      rw [hrun w hS]
      exact hK _ _ h
    · rw [if_neg (by rw [hw]; decide)]
      exact hK _ _ h
section
variable {P : Program} {w : World} {b off : Nat} {t : TypeId} {l ys : List Value}
set_option maxRecDepth 8000 in
theorem run_storeVar_mid8 (ty : TypeId) (hb : Blk w b t l.toArray) (hfit : off + ys.length ≤ l.length) (hi : (P.info? ty).map (·.size) = some ys.length) (h1 : ∀ u ∈ ys, u.oneCell' = true) :
    (storeVar ty ⟨b, off, none⟩ (.agg ys.toArray)).run P w = .ok () (w.setRow b (l.take off ++ ys ++ l.drop (off + ys.length)).toArray) := by
  have := run_storeCells_at P b off t ys 0 l.toArray w hb (by simpa using hfit) h1
  cases hq : P.info? ty with
  | none => simp [hq] at hi
  | some i =>
    have hs : ys.length = i.size := by simp [hq] at hi; omega
    simp only [Nat.add_zero] at this
    simp [storeVar, sizeOf, typeInfo, hq, Value.cells, hs, this]
theorem wpList_store_mid8 {ops : Array Oper} {rest : List Oper} {o : Oper} {a : Act} {Q : Exit → Act → World → Prop} (hgd : o.guard = none) (ty : TypeId) (x y : Operand) (ho : o.op = .store ty x y) (hb : Blk w b t l.toArray) (hx : a.eval x = .pointer (some ⟨b, off, none⟩)) (hy : a.eval y = .agg ys.toArray)
    (hfit : off + ys.length ≤ l.length) (hi : (P.info? ty).map (·.size) = some ys.length) (h1 : ∀ u ∈ ys, u.oneCell' = true) (h : wpList P ops Q rest (a.put o.dst undef) (w.setRow b (l.take off ++ ys ++ l.drop (off + ys.length)).toArray)) : wpList P ops Q (o :: rest) a w :=
  wpList_plain hgd fun _ hK => by
    unfold Oper.wp execOp
    simp only [ho, hx, hy, Instr.storeAt, Instr.sureAddr, Sem.run_bind, Sem.run_pure, Result.andThen_ok, run_storeVar_mid8 ty hb hfit hi h1]
    exact hK _ _ h
end
theorem setRow_fr8 (w : World) (b : Nat) (c : Array Value) : Fr (fun k => k = b) w (w.setRow b c) := ⟨rfl, rfl, rfl, by simp [World.setRow], fun k _ hk => setRow_other w b k c hk⟩
set_option maxRecDepth 8000 in
theorem step_store8 {ops : Array Oper} {o : Oper} {a : Act} {w : World} {K : Act → World → Prop} {Q : Exit → Act → World → Prop} {E : Prop} (hgd : o.guard = none) (ty : TypeId) (x y : Operand) (ho : o.op = .store ty x y) {g : Nat} (hx : a.eval x = .pointer (some ⟨g, 0, none⟩))
    (cells old : Array Value) (t : TypeId) (hy : a.eval y = .agg cells) (hb : Blk w g t old) (hi : (Try.prog.info? ty).map (·.size) = some cells.size) (hold : old.size = cells.size) (h1 : cells.all (·.oneCell') = true)
    (h : ∀ w', Blk w' g t cells → Fr (fun k => k = g) w w' → K (a.put o.dst undef) w') : if Region.wanted o (yielded ops a.tmps) = true then Oper.wp Try.prog o a w K Q else E := by
  rw [if_pos (by simp [Region.wanted, hgd])]
  refine wp_store_row ty x y ho g cells hx hy t old hb hi hold h1 ?_
  exact h _ (setRow_heap w g _ _ t (0, 0) hb) (setRow_fr8 w g cells)
set_option maxRecDepth 8000 in
theorem arr_run {T : TypeId} {n : Nat} {e : TypeId} (hu : Try.prog.underlying T = some (.array n e)) (w : World) (a : Option Addr) (k c : Nat) (h : n ≤ k) : (Instr.arrayAt T (.slice a k c)).run Try.prog w = .ok (.pointer a) w := by
  have hu := run_underlying (P := Try.prog) hu w
  simp only [Instr.arrayAt, Sem.run_bind, hu, Result.andThen_ok]
  rw [if_neg (by omega)]
  rfl
end Go.Proofs.Ytcfkoglehjkkdaa

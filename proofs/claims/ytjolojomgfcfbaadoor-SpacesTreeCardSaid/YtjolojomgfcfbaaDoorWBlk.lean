/- spaces: a walk as it lies: words. -/
import Derived.Test.YtjolojomgfcfbaaDoorWPl
namespace Go.Proofs.YtjolojomgfcfbaaDoor
open Go.RowKit
/-- a walk's cells: store, address, key, what is left of the address, the height ahead, rights, place -/
abbrev wkc (p : Nat) (ad : Int) (x : Ky) (l h r : Int) (g : Ky) (a : Int) (kp : Ky) (d : Int) : Array Value :=
  #[pv p, .int .i64 ad, .int .i64 x.k, .int .i64 x.o, .int .i64 x.c, .int .i64 x.l, .int .i64 x.r, .int .i64 x.v, .int .i64 l, .int .i64 h, .int .i64 r,
    .int .i64 g.k, .int .i64 g.o, .int .i64 g.c, .int .i64 g.l, .int .i64 g.r, .int .i64 g.v, .int .i64 a, .int .i64 kp.k, .int .i64 kp.o, .int .i64 kp.c, .int .i64 kp.l, .int .i64 kp.r, .int .i64 kp.v, .int .i64 d]
theorem wk_cells {w : World} {g p : Nat} {ad : Int} {x : Ky} {l h r : Int} {y : Ky} {a : Int} {kp : Ky} {d : Int} (H : Blk w g 55 (wkc p ad x l h r y a kp d)) :
    w.cell? ⟨g, 0, none⟩ = some (pv p) ∧ w.cell? ⟨g, 1, none⟩ = some (.int .i64 ad) ∧ w.cell? ⟨g, 2, none⟩ = some (.int .i64 x.k) ∧ w.cell? ⟨g, 3, none⟩ = some (.int .i64 x.o) ∧ w.cell? ⟨g, 4, none⟩ = some (.int .i64 x.c) ∧ w.cell? ⟨g, 5, none⟩ = some (.int .i64 x.l) ∧ w.cell? ⟨g, 6, none⟩ = some (.int .i64 x.r) ∧ w.cell? ⟨g, 7, none⟩ = some (.int .i64 x.v) ∧
    w.cell? ⟨g, 8, none⟩ = some (.int .i64 l) ∧ w.cell? ⟨g, 9, none⟩ = some (.int .i64 h) ∧ w.cell? ⟨g, 10, none⟩ = some (.int .i64 r) ∧
    w.cell? ⟨g, 11, none⟩ = some (.int .i64 y.k) ∧ w.cell? ⟨g, 12, none⟩ = some (.int .i64 y.o) ∧ w.cell? ⟨g, 13, none⟩ = some (.int .i64 y.c) ∧ w.cell? ⟨g, 14, none⟩ = some (.int .i64 y.l) ∧ w.cell? ⟨g, 15, none⟩ = some (.int .i64 y.r) ∧ w.cell? ⟨g, 16, none⟩ = some (.int .i64 y.v) ∧
    w.cell? ⟨g, 17, none⟩ = some (.int .i64 a) ∧ w.cell? ⟨g, 18, none⟩ = some (.int .i64 kp.k) ∧ w.cell? ⟨g, 19, none⟩ = some (.int .i64 kp.o) ∧ w.cell? ⟨g, 20, none⟩ = some (.int .i64 kp.c) ∧ w.cell? ⟨g, 21, none⟩ = some (.int .i64 kp.l) ∧ w.cell? ⟨g, 22, none⟩ = some (.int .i64 kp.r) ∧ w.cell? ⟨g, 23, none⟩ = some (.int .i64 kp.v) ∧ w.cell? ⟨g, 24, none⟩ = some (.int .i64 d) :=
  ⟨H.cell 0, H.cell 1, H.cell 2, H.cell 3, H.cell 4, H.cell 5, H.cell 6, H.cell 7, H.cell 8, H.cell 9, H.cell 10, H.cell 11, H.cell 12, H.cell 13, H.cell 14, H.cell 15, H.cell 16, H.cell 17, H.cell 18, H.cell 19, H.cell 20, H.cell 21, H.cell 22, H.cell 23, H.cell 24⟩
/-- a panic with a fault -/
abbrev faP (f : Fa) : List PanicEntry := [{ v := .iface 41 f.val, recovered := false }]
set_option maxRecDepth 8000 in
theorem sizeFa : (Tryd.prog.info? 41).map (·.size) = some 8 := by kernel_rfl
set_option maxRecDepth 8000 in
theorem sizeFo : (Tryd.prog.info? 38).map (·.size) = some 14 := by kernel_rfl
set_option maxRecDepth 8000 in
theorem builtFa0 : Tryd.prog.built 41 [] = some zfa.cells.toArray := by kernel_rfl
set_option maxRecDepth 8000 in
theorem zeroFa : (Tryd.prog.info? 41).map (fun i => (i.zero, i.size)) = some (some (.agg zfa.cells.toArray), 8) := by kernel_rfl
set_option maxRecDepth 8000 in
theorem zeroFo : (Tryd.prog.info? 38).map (fun i => (i.zero, i.size)) = some (some (.agg zfo.cells.toArray), 14) := by kernel_rfl
set_option maxRecDepth 8000 in
/-- a fault of all its parts -/
theorem builtFa3 (f : Fa) : Tryd.prog.built 41 [(0, .int .i64 f.k), (1, f.kp.val), (2, .int .i64 f.a)] = some f.cells.toArray := by
  obtain ⟨k, ⟨k0, k1, k2, k3, k4, k5⟩, a⟩ := f
  kernel_rfl
set_option maxRecDepth 8000 in
theorem builtWk (p : Nat) (ad : Int) (x : Ky) (l h : Int) : Tryd.prog.built 55 [(0, pv p), (1, .int .i64 ad), (2, x.val), (3, .int .i64 l), (4, .int .i64 h)] = some (wkc p ad x l h 0 zk 0 zk 0) := by
  obtain ⟨k0, k1, k2, k3, k4, k5⟩ := x
  kernel_rfl
section
variable {ops : Array Oper} {o : Oper} {a : Act} {S : World → Prop}
/-- what is built of four parts -/
theorem y_build4 {t : TypeId} {q1 q2 q3 q4 : Operand} {v1 v2 v3 v4 : Value} {i1 i2 i3 i4 : Nat} {c : Array Value} (hw : Region.wanted o (yielded ops a.tmps) = true) (ho : o.op = .build t #[(i1, q1), (i2, q2), (i3, q3), (i4, q4)]) (h1 : a.eval q1 = v1) (h2 : a.eval q2 = v2) (h3 : a.eval q3 = v3) (h4 : a.eval q4 = v4) (hb : Tryd.prog.built t [(i1, v1), (i2, v2), (i3, v3), (i4, v4)] = some c) : YieldsIf Tryd.prog ops S o (.agg c) a := .inl ⟨hw, fun w _ => by
  have := run_build w t #[(i1, v1), (i2, v2), (i3, v3), (i4, v4)] c hb
  unfold execOp
  simp only [ho, Sem.run_bind, List.map_toArray, List.map_cons, List.map_nil, h1, h2, h3, h4, this, Result.andThen_ok, Sem.run_pure]⟩
theorem y_build5 {t : TypeId} {q1 q2 q3 q4 q5 : Operand} {v1 v2 v3 v4 v5 : Value} {i1 i2 i3 i4 i5 : Nat} {c : Array Value} (hw : Region.wanted o (yielded ops a.tmps) = true) (ho : o.op = .build t #[(i1, q1), (i2, q2), (i3, q3), (i4, q4), (i5, q5)]) (h1 : a.eval q1 = v1) (h2 : a.eval q2 = v2) (h3 : a.eval q3 = v3) (h4 : a.eval q4 = v4) (h5 : a.eval q5 = v5) (hb : Tryd.prog.built t [(i1, v1), (i2, v2), (i3, v3), (i4, v4), (i5, v5)] = some c) : YieldsIf Tryd.prog ops S o (.agg c) a := .inl ⟨hw, fun w _ => by
  have := run_build w t #[(i1, v1), (i2, v2), (i3, v3), (i4, v4), (i5, v5)] c hb
  unfold execOp
  simp only [ho, Sem.run_bind, List.map_toArray, List.map_cons, List.map_nil, h1, h2, h3, h4, h5, this, Result.andThen_ok, Sem.run_pure]⟩
theorem y_build3 {t : TypeId} {q1 q2 q3 : Operand} {v1 v2 v3 : Value} {i1 i2 i3 : Nat} {c : Array Value} (hw : Region.wanted o (yielded ops a.tmps) = true) (ho : o.op = .build t #[(i1, q1), (i2, q2), (i3, q3)]) (h1 : a.eval q1 = v1) (h2 : a.eval q2 = v2) (h3 : a.eval q3 = v3) (hb : Tryd.prog.built t [(i1, v1), (i2, v2), (i3, v3)] = some c) : YieldsIf Tryd.prog ops S o (.agg c) a := .inl ⟨hw, fun w _ => by
  have := run_build w t #[(i1, v1), (i2, v2), (i3, v3)] c hb
  unfold execOp
  simp only [ho, Sem.run_bind, List.map_toArray, List.map_cons, List.map_nil, h1, h2, h3, this, Result.andThen_ok, Sem.run_pure]⟩
theorem y_fo (hw : Region.wanted o (yielded ops a.tmps) = true) (p : Operand) (ho : o.op = .load 38 p) (g off : Nat) (hx : a.eval p = .pointer (some ⟨g, off, none⟩)) (u : Fo) (hS : ∀ w, S w → w.rangeAt g off u.cells) : YieldsIf Tryd.prog ops S o u.val a :=
  yieldsIf_load_mid hw 38 p ho g off hx u.cells _ hS Tryd.underlying38 rfl (by rw [u.len]; exact sizeFo)
theorem y_fa (hw : Region.wanted o (yielded ops a.tmps) = true) (p : Operand) (ho : o.op = .load 41 p) (g off : Nat) (hx : a.eval p = .pointer (some ⟨g, off, none⟩)) (u : Fa) (hS : ∀ w, S w → w.rangeAt g off u.cells) : YieldsIf Tryd.prog ops S o u.val a :=
  yieldsIf_load_mid hw 41 p ho g off hx u.cells _ hS Tryd.underlying41 rfl (by rw [u.len]; exact sizeFa)
end
section
variable {w : World} {g : Nat} {t : TypeId}
theorem load_fa (f : Fa) (h : Blk w g t f.cells.toArray) : (loadVar 41 ⟨g, 0, none⟩).run Tryd.prog w = .ok f.val w :=
  run_loadVar_row w g t 41 f.cells.toArray (0, 0) _ h Tryd.underlying41 rfl sizeFa
theorem load_fo (f : Fo) (h : Blk w g t f.cells.toArray) : (loadVar 38 ⟨g, 0, none⟩).run Tryd.prog w = .ok f.val w :=
  run_loadVar_row w g t 38 f.cells.toArray (0, 0) _ h Tryd.underlying38 rfl sizeFo
end
end Go.Proofs.YtjolojomgfcfbaaDoor

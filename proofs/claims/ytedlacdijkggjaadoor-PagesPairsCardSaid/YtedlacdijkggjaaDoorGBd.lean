/- law 10: composite literals, rows of noughts, strings: words. -/
import Derived.Test.YtedlacdijkggjaaDoorGDo
import Derived.Deep.OwnRows
namespace Go.Proofs.YtedlacdijkggjaaDoor
open Go.RowKit
section
variable {ops : Array Oper} {o : Oper} {a : Act} {S : World → Prop}
theorem y_b3 {t : TypeId} {i0 i1 i2 : Nat} {v0 v1 v2 : Value} {cs : Array Value} (hw : Region.wanted o (yielded ops a.tmps) = true) (p0 p1 p2 : Operand) (ho : o.op = .build t #[(i0, p0), (i1, p1), (i2, p2)]) (h0 : a.eval p0 = v0) (h1 : a.eval p1 = v1) (h2 : a.eval p2 = v2) (hb : Tryd.prog.built t [(i0, v0), (i1, v1), (i2, v2)] = some cs) : YieldsIf Tryd.prog ops S o (.agg cs) a := .inl ⟨hw, fun w _ => by
  have := run_build w t #[(i0, v0), (i1, v1), (i2, v2)] cs hb
  unfold execOp
  simp only [ho, Sem.run_bind, List.map_toArray, List.map_cons, List.map_nil, h0, h1, h2, this, Result.andThen_ok, Sem.run_pure]⟩
theorem y_b4 {t : TypeId} {i0 i1 i2 i3 : Nat} {v0 v1 v2 v3 : Value} {cs : Array Value} (hw : Region.wanted o (yielded ops a.tmps) = true) (p0 p1 p2 p3 : Operand) (ho : o.op = .build t #[(i0, p0), (i1, p1), (i2, p2), (i3, p3)]) (h0 : a.eval p0 = v0) (h1 : a.eval p1 = v1) (h2 : a.eval p2 = v2) (h3 : a.eval p3 = v3) (hb : Tryd.prog.built t [(i0, v0), (i1, v1), (i2, v2), (i3, v3)] = some cs) : YieldsIf Tryd.prog ops S o (.agg cs) a := .inl ⟨hw, fun w _ => by
  have := run_build w t #[(i0, v0), (i1, v1), (i2, v2), (i3, v3)] cs hb
  unfold execOp
  simp only [ho, Sem.run_bind, List.map_toArray, List.map_cons, List.map_nil, h0, h1, h2, h3, this, Result.andThen_ok, Sem.run_pure]⟩
/-- bytes as a string, in each world where they lie there -/
theorem y_cstr (hw : Region.wanted o (yielded ops a.tmps) = true) (x : Operand) (ho : o.op = .convert 50 9 x) (A : Option Addr) (n c : Nat) (l : List UInt8) (hx : a.eval x = .slice A n c) (hn : l.length = n) (hS : ∀ w, S w → Rd w A l) : YieldsIf Tryd.prog ops S o (.string (st l)) a := .inl ⟨hw, fun w h => by
  have := run_str (P := Tryd.prog) w Tryd.underlying50 Tryd.underlying5 Tryd.underlying9 (A := A) (c := c) hn (hS w h)
  unfold execOp
  simp only [ho, Sem.run_bind, hx, this, Result.andThen_ok, Sem.run_pure]⟩
end
set_option maxRecDepth 8000 in
theorem infoU8G : (Tryd.prog.info? 5).map (fun i => (i.zero, i.size, i.bytes)) = some (some (.int .u8 0), 1, 1) := by kernel_rfl
set_option maxRecDepth 8000 in
theorem made0G (n : Nat) : madeCells #[.int .u8 0] n = (bv (List.replicate n 0)).toArray := by
  apply Array.ext
  · simp [madeCells, bv]
  · intro i h1 h2
    simp [madeCells, bv, Nat.mod_one]
set_option maxRecDepth 8000 in
theorem run_mk0G (n : Nat) (h : n ≤ 100000) (W : World) : (Instr.makeSlice 50 (.int .i64 (n : Int)) (.int .i64 (n : Int))).run Tryd.prog W = .ok (.slice (some ⟨W.heap.size, 0, none⟩) n n) (W.alloc (.cells (bv (List.replicate n 0)).toArray 5)) := by
  rw [← made0G]
  exact run_make_row' 50 5 (.int .u8 0) 1 Tryd.underlying50 infoU8G rfl .i64 .i64 n (by omega) (by omega) W
set_option maxRecDepth 8000 in
theorem rd_blkG {w : World} {D : Nat} {t : TypeId} {l : List UInt8} (h : Blk w D t (bv l).toArray) : Rd w (some ⟨D, 0, none⟩) l := by
  intro j hj
  refine ⟨D, 0, rfl, ?_⟩
  rw [h.cell, Nat.zero_add, List.getElem?_toArray, bv_get, List.getElem?_eq_getElem hj]
  rfl
theorem Blk.klat {w : World} {g : Nat} {t : TypeId} {x : Ky} (h : Blk w g t (kl x).toArray) : KeyAt w g 0 x := ⟨h.cell 0, h.cell 1, h.cell 2, h.cell 3, h.cell 4, h.cell 5⟩
set_option maxRecDepth 8000 in
theorem does_rd {w : World} {base p : Nat} {A : Option Addr} {cap : Nat} {ps : List Nat} {os : List Oj} {L : Option Addr} {n c : Nat} (h : StAt w base p A cap ps os) (hl : os.length = n) (h0 : 0 < n) (hN : n ≤ 1000) (hT : Tab w) (hr : RdO w L os) (i m : Int) (hi : i ≤ 9223372036854775807) (x y : Ky) (s : List UInt8) :
    Calls Tryd.prog 10 #[pv p, .slice L n c, .agg (pa 1 i m x y s)] w fun e w' => e = .returned (.tuple #[.slice L n c, .bool true]) ∧ Below w.heap.size w w' := by
  subst hl
  exact does_1 i m _ x y s _ (fun W hW => read_all (h.below hW) h0 (hT.below hW) x i m hi) (fun W hW => rread_all (hr.below hW) rfl hN h0 x i m)
end Go.Proofs.YtedlacdijkggjaaDoor

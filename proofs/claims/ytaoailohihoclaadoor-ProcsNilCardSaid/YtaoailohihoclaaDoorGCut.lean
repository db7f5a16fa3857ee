/- pages: bytes that are cut out of a page, laid over, cleared; a string as bytes: words. -/
import Derived.Test.YtaoailohihoclaaDoorGDef
import Derived.Test.YtaoailohihoclaaDoorR01
namespace Go.Proofs.YtaoailohihoclaaDoor
open Go.RowKit
/-- where a page's bytes lie from a place on (at the end: where they begin) -/
abbrev cutP (g off a : Nat) : Addr := if 64 = a then ⟨g, off, none⟩ else ⟨g, off + a, none⟩
set_option maxRecDepth 8000 in
theorem und47 : Tryd.prog.underlying 54 = some (.array (Tryd.prog.arrayLen 54) (Tryd.prog.elem 54)) := by kernel_rfl
set_option maxRecDepth 8000 in
theorem alen47 : Tryd.prog.arrayLen 54 = 64 := by kernel_rfl
theorem run_size5 (W : World) : (sizeOf (Tryd.prog.elem 54)).run Tryd.prog W = .ok 1 W := run_sizeOf (by kernel_rfl) W
set_option maxRecDepth 8000 in
theorem run_cut (g off a n : Nat) (h : a + n ≤ 64) (W : World) : (Instr.sliceAt 54 (.pointer (some ⟨g, off, none⟩)) (some (.int .i64 (a : Int))) (some (.int .i64 ((a : Int) + (n : Int)))) none).run Tryd.prog W = .ok (.slice (some (cutP g off a)) n (64 - a)) W := by
  rw [run_sliceAt_array_lh W 54 ⟨g, off, none⟩ und47 .i64 .i64 (a : Int) ((a : Int) + (n : Int)) (by omega) (by omega) (by rw [alen47]; omega), run_size5]
  simp only [Result.andThen_ok, slicedAt, alen47]
  have e1 : ((a : Int) + (n : Int)).toNat - (a : Int).toNat = n := by omega
  have e2 : (a : Int).toNat = a := by omega
  rw [e1, e2]
  by_cases ha : 64 = a
  · simp [cutP, ha]
  · simp [cutP, ha, Addr.add]
set_option maxRecDepth 8000 in
theorem run_cut_lo (g off a : Nat) (h : a ≤ 64) (W : World) : (Instr.sliceAt 54 (.pointer (some ⟨g, off, none⟩)) (some (.int .i64 (a : Int))) none none).run Tryd.prog W = .ok (.slice (some (cutP g off a)) (64 - a) (64 - a)) W := by
  rw [run_sliceAt_array_l W 54 ⟨g, off, none⟩ und47 .i64 (a : Int) (by omega) (by rw [alen47]; omega), run_size5]
  simp only [Result.andThen_ok, slicedAt, alen47]
  have e2 : (a : Int).toNat = a := by omega
  rw [e2]
  by_cases ha : 64 = a
  · simp [cutP, ha]
  · simp [cutP, ha, Addr.add]
set_option maxRecDepth 8000 in
theorem run_cut_all (g off : Nat) (W : World) : (Instr.sliceAt 54 (.pointer (some ⟨g, off, none⟩)) none none none).run Tryd.prog W = .ok (.slice (some ⟨g, off, none⟩) 64 64) W := by
  rw [run_sliceAt_array_all W 54 ⟨g, off, none⟩ und47, run_size5]
  simp only [Result.andThen_ok, slicedAt, alen47]
  simp [Addr.add]
set_option maxRecDepth 8000 in
theorem rd_cut {w : World} {g off : Nat} {b : List UInt8} (h : w.rangeAt g off (bv b)) (hb : b.length = 64) (a n : Nat) (hn : a + n ≤ 64) : Rd w (some (cutP g off a)) ((b.drop a).take n) := fun j hj => by
  have hj' : j < n := by simp at hj; omega
  have ha : ¬ 64 = a := by omega
  refine ⟨g, off + a, by simp [cutP, ha], ?_⟩
  have := byte_of_range h (a + j) (by omega)
  rw [show off + a + j = off + (a + j) by omega, this]
  simp
set_option maxRecDepth 8000 in
theorem cut_len {b : List UInt8} (hb : b.length = 64) {a n : Nat} (hn : a + n ≤ 64) : ((b.drop a).take n).length = n := by simp; omega
set_option maxRecDepth 8000 in
theorem st_size (l : List UInt8) : (st l).size = l.length := by simp [st, ByteArray.size]
set_option maxRecDepth 8000 in
theorem st_all (l : List UInt8) : (st l).extract 0 l.length = st l := by
  rw [← st_size l]
  exact ByteArray.extract_zero_size
theorem st_of (s : ByteArray) : ∃ l, s = st l := ⟨s.data.toList, by simp [st]⟩
set_option maxRecDepth 8000 in
theorem st_data (l : List UInt8) : ((st l).data.map fun b => Value.int .u8 (b.toNat : Int)) = (bv l).toArray := by simp [st, bv]
set_option maxRecDepth 8000 in
theorem run_index_st (t : TypeId) (hu : Tryd.prog.underlying t = some .string) (l : List UInt8) (i : Nat) (h : i < l.length) (W : World) : (Instr.index t (.string (st l)) (.int .i64 (i : Int))).run Tryd.prog W = .ok (.int .u8 ((l[i]).toNat : Int)) W := by
  have h1 : (st l)[i]? = some l[i] := by
    have hs : i < (st l).size := by rw [st_size]; exact h
    rw [getElem?_pos (st l) i hs]
    simp [st, ByteArray.getElem_eq_getElem_data]
  simp [Instr.index, run_underlying hu, asIntOf, h1]
set_option maxRecDepth 8000 in
theorem size5 : (Tryd.prog.info? 5).map (·.size) = some 1 := by kernel_rfl
set_option maxRecDepth 8000 in
/-- an object's cells with other bytes -/
theorem cells_bytes (u : Oj) (l : List UInt8) (h : l.length = 64) : u.cells.take 99 ++ bv l ++ u.cells.drop (99 + (bv l).length) = (bAs u l h).cells := by
  have e : u.cells = [.int .i64 u.k, .int .i64 u.c, .int .i64 u.l] ++ kcs u.s ++ bv u.b := by simp [Oj.cells]
  have e2 : (bAs u l h).cells = [.int .i64 u.k, .int .i64 u.c, .int .i64 u.l] ++ kcs u.s ++ bv l := by simp [Oj.cells, bAs]
  rw [e, e2]
  obtain ⟨H, hH⟩ : ∃ H, H = [Value.int .i64 u.k, .int .i64 u.c, .int .i64 u.l] ++ kcs u.s := ⟨_, rfl⟩
  have hHl : H.length = 99 := by rw [hH, List.length_append, kcs_length, u.hs]; rfl
  have hbl : (bv u.b).length = 64 := by rw [bv_length, u.hb]
  rw [← hH, ← hHl, List.drop_length_add_append, List.take_left, bv_length, h, List.drop_eq_nil_of_le (by omega), List.append_nil]
section
variable {w : World} {g p : Nat} {n : Int} {u : Oj} {t : TypeId}
set_option maxRecDepth 8000 in
theorem run_copy_pg (ty : TypeId) (a : Nat) (l : List UInt8) (h : a + l.length ≤ 64) (hl : (lay u.b a l).length = 64) (hg : Blk w g t (pgc p n u).toArray) :
    (Builtin.copy_ #[132, 9] ty #[.slice (some (cutP g 99 a)) (64 - a) (64 - a), .string (st l)]).run Tryd.prog w = .ok (.int .i64 (l.length : Int)) (w.setRow g (pgc p n (bAs u (lay u.b a l) hl)).toArray) := by
  have hmin : Nat.min l.length (64 - a) = l.length := Nat.min_eq_left (by omega)
  have key : ∀ o, o + l.length ≤ 165 → (storeCells ⟨g, o, none⟩ (bv l)).run Tryd.prog w = .ok () (w.setRow g ((pgc p n u).take o ++ bv l ++ (pgc p n u).drop (o + l.length)).toArray) := fun o ho => by
    have := run_storeCells_at Tryd.prog g o t (bv l) 0 (pgc p n u).toArray w hg (by rw [bv_length, List.size_toArray, pgc_len]; omega) (bv_one l)
    simpa [bv_length] using this
  have hst : (storeCells (cutP g 99 a) (bv l)).run Tryd.prog w = .ok () (w.setRow g (pgc p n (bAs u (lay u.b a l) hl)).toArray) := by
    rw [← pgc_bytes p n u a l h hl]
    by_cases ha : 64 = a
    · have hnil : l = [] := List.eq_nil_of_length_eq_zero (by omega)
      subst hnil
      rw [show cutP g 99 a = ⟨g, 99, none⟩ by simp [cutP, ha], key 99 (by simp)]
      simp [bv]
    · rw [show cutP g 99 a = ⟨g, 99 + a, none⟩ by simp [cutP, ha], key (99 + a) (by omega)]
  obtain ⟨i, hi⟩ : ∃ i, Tryd.prog.info? 5 = some i := by
    have := size5
    cases hq : Tryd.prog.info? 5 with
    | none => simp [hq] at this
    | some i => exact ⟨i, rfl⟩
  have hs1 : i.size = 1 := by have := size5; simpa [hi] using this
  have hcells : List.take l.length (List.map (fun b => Value.int .u8 (b.toNat : Int)) (st l).data.toList) = bv l := by
    rw [List.take_of_length_le (by simp [st])]
    simp [st, bv]
  have hmin2 : min (st l).size (64 - a) = l.length := by rw [st_size]; exact hmin
  simp [Builtin.copy_, Builtin.lenOf, Builtin.firstCells, sizeOf, typeInfo, hi, run_underlying Tryd.underlying132, hmin2, hcells, hst, goInt]
set_option maxRecDepth 8000 in
theorem run_clear_pg (ty : TypeId) (hg : Blk w g t (pgc p n u).toArray) :
    (Builtin.clear_ #[132] ty #[.slice (some ⟨g, 99, none⟩) 64 64]).run Tryd.prog w = .ok (.tuple #[]) (w.setRow g (pgc p n (bAs u zbs rfl)).toArray) := by
  have hst : (storeCells ⟨g, 99, none⟩ (bv zbs)).run Tryd.prog w = .ok () (w.setRow g (pgc p n (bAs u zbs rfl)).toArray) := by
    have := run_storeCells_at Tryd.prog g 99 t (bv zbs) 0 (pgc p n u).toArray w hg (by rw [bv_length, List.size_toArray, pgc_len]; decide) (bv_one zbs)
    have e := pgc_bytes p n u 0 zbs (by decide) (by rw [lay_len (by rw [u.hb]; decide)]; exact u.hb)
    have e2 : lay u.b 0 zbs = zbs := by
      have : u.b.drop 64 = [] := List.drop_eq_nil_of_le (by rw [u.hb]; exact Nat.le_refl _)
      simp [lay, this, zbs]
    have e3 : bAs u (lay u.b 0 zbs) (by rw [lay_len (by rw [u.hb]; decide)]; exact u.hb) = bAs u zbs rfl := by
      unfold bAs
      simp only [e2]
    rw [e3] at e
    rw [← e]
    simpa [bv_length] using this
  have hz : (zeroValue 5).run Tryd.prog w = .ok (.int .u8 0) w := by kernel_rfl
  have hc : (Builtin.zeroCells (Value.int .u8 0).cells 64).toList = bv zbs := by simp [Builtin.zeroCells, Value.cells, bv, zbs, List.range_succ]
  simp [Builtin.clear_, run_underlying Tryd.underlying132, hz, hc, hst]
end
end Go.Proofs.YtaoailohihoclaaDoor

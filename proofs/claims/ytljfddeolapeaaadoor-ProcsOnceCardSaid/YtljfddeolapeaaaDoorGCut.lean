/- pages: bytes that are cut out of a page, laid over, cleared; a string as bytes: words. -/
import Derived.Test.YtljfddeolapeaaaDoorGDef
import Derived.Test.YtljfddeolapeaaaDoorR01
namespace Go.Proofs.YtljfddeolapeaaaDoor
open Go.RowKit
/-- where a page's bytes lie from a place on (at the end: where they begin) -/
abbrev cutP (g off a : Nat) : Addr := if 64 = a then ⟨g, off, none⟩ else ⟨g, off + a, none⟩
set_option maxRecDepth 8000 in
theorem und47 : Tryd.prog.underlying 54 = some (.array (Tryd.prog.arrayLen 54) (Tryd.prog.elem 54)) := by kernel_rfl
set_option maxRecDepth 8000 in
theorem alen47 : Tryd.prog.arrayLen 54 = 64 := by kernel_rfl
theorem run_size5 (W : World) : (sizeOf (Tryd.prog.elem 54)).run Tryd.prog W = .ok 1 W := run_sizeOf (by kernel_rfl) W
set_option maxRecDepth 8000 in
theorem run_cut (g off a n : Nat) (h : a + n ≤ 64) (W : World) : (Instr.sliceAt 54 (.pointer (some ⟨g, off, none⟩)) (some (.int .i64 (a : Int))) (some (.int .i64 ((a : Int) + (n : Int)))) none).run Tryd.prog W = .ok (.slice (some (cutP g off a)) n (64 - a)) W := by
  rw [run_sliceAt_array_lh W 54 ⟨g, off, none⟩ und47 .i64 .i64 (a : Int) ((a : Int) + (n : Int)) (by omega) (by omega) (by rw [alen47]; omega), run_size5]
  simp only [Result.andThen_ok, slicedAt, alen47]
  have e1 : ((a : Int) + (n : Int)).toNat - (a : Int).toNat = n := by omega
  have e2 : (a : Int).toNat = a := by omega
  rw [e1, e2]
  by_cases ha : 64 = a
  · simp [cutP, ha]
  · simp [cutP, ha, Addr.add]
set_option maxRecDepth 8000 in
theorem run_cut_lo (g off a : Nat) (h : a ≤ 64) (W : World) : (Instr.sliceAt 54 (.pointer (some ⟨g, off, none⟩)) (some (.int .i64 (a : Int))) none none).run Tryd.prog W = .ok (.slice (some (cutP g off a)) (64 - a) (64 - a)) W := by
  rw [run_sliceAt_array_l W 54 ⟨g, off, none⟩ und47 .i64 (a : Int) (by omega) (by rw [alen47]; omega), run_size5]
  simp only [Result.andThen_ok, slicedAt, alen47]
  have e2 : (a : Int).toNat = a := by omega
  rw [e2]
  by_cases ha : 64 = a
  · simp [cutP, ha]
  · simp [cutP, ha, Addr.add]
set_option maxRecDepth 8000 in
theorem st_size (l : List UInt8) : (st l).size = l.length := by simp [st, ByteArray.size]
theorem st_of (s : ByteArray) : ∃ l, s = st l := ⟨s.data.toList, by simp [st]⟩
set_option maxRecDepth 8000 in
theorem run_index_st (t : TypeId) (hu : Tryd.prog.underlying t = some .string) (l : List UInt8) (i : Nat) (h : i < l.length) (W : World) : (Instr.index t (.string (st l)) (.int .i64 (i : Int))).run Tryd.prog W = .ok (.int .u8 ((l[i]).toNat : Int)) W := by
  have h1 : (st l)[i]? = some l[i] := by
    have hs : i < (st l).size := by rw [st_size]; exact h
    rw [getElem?_pos (st l) i hs]
    simp [st, ByteArray.getElem_eq_getElem_data]
  simp [Instr.index, run_underlying hu, asIntOf, h1]
set_option maxRecDepth 8000 in
theorem size5 : (Tryd.prog.info? 5).map (·.size) = some 1 := by kernel_rfl
set_option maxRecDepth 8000 in
/-- an object's cells with other bytes -/
theorem cells_bytes (u : Oj) (l : List UInt8) (h : l.length = 64) : u.cells.take 99 ++ bv l ++ u.cells.drop (99 + (bv l).length) = (bAs u l h).cells := by
  have e : u.cells = [.int .i64 u.k, .int .i64 u.c, .int .i64 u.l] ++ kcs u.s ++ bv u.b := by simp [Oj.cells]
  have e2 : (bAs u l h).cells = [.int .i64 u.k, .int .i64 u.c, .int .i64 u.l] ++ kcs u.s ++ bv l := by simp [Oj.cells, bAs]
  rw [e, e2]
  obtain ⟨H, hH⟩ : ∃ H, H = [Value.int .i64 u.k, .int .i64 u.c, .int .i64 u.l] ++ kcs u.s := ⟨_, rfl⟩
  have hHl : H.length = 99 := by rw [hH, List.length_append, kcs_length, u.hs]; rfl
  have hbl : (bv u.b).length = 64 := by rw [bv_length, u.hb]
  rw [← hH, ← hHl, List.drop_length_add_append, List.take_left, bv_length, h, List.drop_eq_nil_of_le (by omega), List.append_nil]
section
variable {w : World} {g p : Nat} {n : Int} {u : Oj} {t : TypeId}
end
end Go.Proofs.YtljfddeolapeaaaDoor

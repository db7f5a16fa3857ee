/- objects: New. -/
import Derived.Test.YtlhlgfehbfankaaDoorOOf
namespace Go.Proofs.YtlhlgfehbfankaaDoor
open Go.RowKit
theorem infoOb : (Tryd.prog.info? 34).map (fun i => (i.zero, i.size, i.bytes)) = some (some oz.val, 163, 856) := by kernel_rfl
/-- n free ones, as they lie -/
def mkO (n : Nat) : List Value := (madeCells oz.cells.toArray (n * 163)).toList
theorem made_get (z : List Value) (hl : z.length = 163) (n i j : Nat) (hi : i < n) (hj : j < 163) : (madeCells z.toArray (n * 163)).toList[i * 163 + j]? = z[j]? := by
  unfold madeCells
  rw [Array.getElem?_toList, Array.getElem?_map, Array.getElem?_range, if_pos (by
    have : (i + 1) * 163 ≤ n * 163 := Nat.mul_le_mul_right _ hi
    omega)]
  have e : (i * 163 + j) % 163 = j := by rw [Nat.mul_comm, Nat.mul_add_mod]; exact Nat.mod_eq_of_lt hj
  have hj' : j < z.length := by omega
  simp only [Option.map_some, List.size_toArray, hl, e]
  rw [List.getElem?_eq_getElem hj']
  congr 1
  rw [getElem!_pos z.toArray j (by simpa using hj')]
  simp
theorem mkO_get (n i j : Nat) (hi : i < n) (hj : j < 163) : (mkO n)[i * 163 + j]? = oz.cells[j]? := made_get oz.cells oz_len n i j hi hj
theorem mk_rdo {w : World} {g : Nat} {t : TypeId} (n : Nat) (h : Blk w g t (mkO n).toArray) : RdO w (some ⟨g, 0, none⟩) (List.replicate n oz) := fun i hi => by
  have hi' : i < n := by simpa using hi
  refine ⟨g, 0, rfl, fun j v hv => ?_⟩
  rw [List.getElem_replicate] at hv
  have hj : j < 163 := by have := (List.getElem?_eq_some_iff.1 hv).1; have := oz_len; omega
  rw [Nat.zero_add, h.cell, ← hv, ← mkO_get n i j hi' hj]
  simp
theorem run_mk (n : Nat) (hn : n ≤ 64) (w : World) : (Instr.makeSlice 22 (.int .i64 (n : Int)) (.int .i64 (n : Int))).run Tryd.prog w = .ok (.slice (some ⟨w.heap.size, 0, none⟩) n n) (w.alloc (.cells (mkO n).toArray 34)) := by
  obtain ⟨i, hi, hz, hs, hb⟩ := info_parts infoOb
  have hr := run_make (P := Tryd.prog) w 22 34 i oz.val Tryd.underlying22 hi hz .i64 .i64 n n (by omega) (Int.le_refl _) (by rw [hb]; omega) (by omega)
  rw [hs, Int.toNat_natCast] at hr
  rw [hr]
  rfl
theorem oz_ok {n : Int} (h1 : 1 ≤ n) (h2 : n ≤ 64) : oz.ok n := ⟨⟨h1, h2⟩, by decide, by decide, .inr (.inr ⟨.inl rfl, rfl, rfl, rfl⟩)⟩
theorem okAll_oz {n : Nat} (h1 : 1 ≤ n) (h2 : n ≤ 64) : okAll (n : Int) (List.replicate n oz) := fun x hx => by
  obtain rfl := (List.mem_replicate.1 hx).2
  exact oz_ok (by omega) (by omega)
theorem new_no (n : Int) (w : World) (hn : ¬ (1 ≤ n ∧ n ≤ 64)) :
    Calls Tryd.prog 17 #[.int .i64 n] w fun e w' => e = .returned (.tuple #[.pointer none, .int .i64 2]) ∧ w = w' := by
  have DM := Lib.hid (show decide (1 ≤ n ∧ n ≤ 64) = false from decide_eq_false hn)
  clear hn
  go_enter Tryd.func17, Tryd.ntmps17
  go_wp2_with (go_at_call 31; refine (DM.out ▸ many_any n _).mono ?_; rintro e w1 ⟨rfl, rfl⟩)
  go_ret2
  exact ⟨rfl, rfl⟩
theorem ofN (g n : Nat) (w : World) (hT : Tab w) (hr : RdO w (some ⟨g, 0, none⟩) (List.replicate n oz)) (h1 : 1 ≤ n) (h2 : n ≤ 64) :
    Calls Tryd.prog 14 #[.slice (some ⟨g, 0, none⟩) n n] w fun e w' => e = .returned (.tuple #[pv w.heap.size, .int .i64 0]) ∧ (∃ A' cap' ps, StAt w' w.heap.size w.heap.size A' cap' ps (List.replicate n oz)) ∧ Below w.heap.size w w' := by
  have hl : (List.replicate n oz).length = n := List.length_replicate
  have := of_any (some ⟨g, 0, none⟩) (List.replicate n oz) n w hT hr (by omega) (by omega)
  rw [hl] at this
  refine this.mono ?_
  rintro e w' ⟨⟨A', cap', ps, he, hs, _⟩ | ⟨_, hno⟩, hb⟩
  · exact ⟨he, ⟨_, _, _, hs⟩, hb⟩
  · exact absurd (okAll_oz h1 h2) hno
set_option maxHeartbeats 1000000 in
theorem new_ok (n : Nat) (w : World) (hT : Tab w) (h1 : 1 ≤ n) (h2 : n ≤ 64) :
    Calls Tryd.prog 17 #[.int .i64 (n : Int)] w fun e w' => e = .returned (.tuple #[pv (w.heap.size + 1), .int .i64 0]) ∧ (∃ A' cap' ps, StAt w' (w.heap.size + 1) (w.heap.size + 1) A' cap' ps (List.replicate n oz)) ∧ Below w.heap.size w w' := by
  have DM := Lib.hid (show decide (1 ≤ (n : Int) ∧ (n : Int) ≤ 64) = true from decide_eq_true (by omega))
  have hmk := fun W : World => run_mk n h2 W
  have HT := Lib.hid (hT.alloc (.cells (mkO n).toArray 34))
  have HR := Lib.hid (mk_rdo n (Blk.new w 34 (mkO n).toArray))
  have H1 := Lib.hid h1
  have H2 := Lib.hid h2
  have HB := Lib.hid ((Below.refl w.heap.size w).alloc (Nat.le_refl _) (.cells (mkO n).toArray 34))
  clear hT h1 h2
  go_enter Tryd.func17, Tryd.ntmps17
  go_wp2_with (first
    | (go_at_call 31; refine (DM.out ▸ many_any (n : Int) _).mono ?_; rintro e w1 ⟨rfl, rfl⟩)
    | (go_at_call 14; refine (ofN w.heap.size n _ HT.out HR.out H1.out H2.out).mono ?_; rintro e w1 ⟨rfl, hs, b1⟩; have HS := Lib.hid hs; have HB1 := Lib.hid (HB.out.trans (b1.mono HB.out.size)); clear hs b1))
  go_ret2
  refine ⟨?_, ?_, HB1.out⟩
  · simp
  · have := HS.out
    simpa using this
end Go.Proofs.YtlhlgfehbfankaaDoor

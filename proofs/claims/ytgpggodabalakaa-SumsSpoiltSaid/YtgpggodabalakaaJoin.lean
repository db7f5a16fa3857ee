/- The walk: joined. -/
import Derived.Test.YtgpggodabalakaaUpd
import Derived.Laws.MakeOwn
namespace Go.Proofs.Ytgpggodabalakaa
open Go.RowKit
/-- the lists one behind the other -/
def flat (ls : List (List UInt8)) : List UInt8 := ls.flatten
theorem flat_take (ls : List (List UInt8)) (k : Nat) (h : k < ls.length) : flat (ls.take (k + 1)) = flat (ls.take k) ++ ls[k] := by
  rw [take_snoc ls k h]
  unfold flat
  rw [List.flatten_append]
  simp only [List.flatten_cons, List.flatten_nil, List.append_nil]
theorem flat_take_le (ls : List (List UInt8)) (k : Nat) : (flat (ls.take k)).length ≤ (flat ls).length := by
  have h : flat ls = flat (ls.take k) ++ flat (ls.drop k) := by
    unfold flat
    rw [← List.flatten_append, List.take_append_drop]
  rw [h, List.length_append]
  omega
/-- The cells from block B on hold slices that read as the lists. -/
def Rds (w : World) (B : Nat) (ls : List (List UInt8)) : Prop :=
  ∀ j (h : j < ls.length), ∃ A c, w.cell? ⟨B, j, none⟩ = some (.slice A ls[j].length c) ∧ Rd w A ls[j]
theorem Rds.below {w w' : World} {B : Nat} {ls : List (List UInt8)} (h : Rds w B ls) (hb : Below w.heap.size w w') : Rds w' B ls := by
  intro j hj
  obtain ⟨A, c, hc, hr⟩ := h j hj
  exact ⟨A, c, (hb.cell (p := ⟨B, j, none⟩) (cell_lt hc)).trans hc, hr.below hb⟩
set_option maxHeartbeats 800000 in
theorem joined_any (B m c : Nat) (ls : List (List UInt8)) (w : World) (hm : ls.length = m) (hr : Rds w B ls) (hbig : (flat ls).length ≤ 1000000) (hm1 : m ≤ 1000) :
    Calls Try.prog 29 #[.slice (some ⟨B, 0, none⟩) m c] w fun e w' => ∃ v, e = .returned v ∧ w'.ownsRow w.heap.size 5 1 v (flat ls).length (bv (flat ls)) ∧ Below w.heap.size w w' := by
  obtain ⟨i0, hi, hz0, hz1, hz2⟩ := info_parts infoU8
  have HR := Lib.hid hr
  have HM := Lib.hid hm
  clear hr hm
  go_enter Try.func29, Try.ntmps29
  go_wp2_with fail
  go_loop [3, 5, 11] (fun s _ i => ∃ k : Nat, k ≤ m ∧ i = .int .i64 k ∧ s = .int .i64 ((flat (ls.take k)).length : Int)) (fun _ _ i => m - (intOf i).toNat)
  case atStart => exact ⟨0, by omega, rfl, rfl⟩
  case round =>
    obtain ⟨k, hk, rfl, rfl⟩ := hrel
    by_cases hlt : k < m
    · obtain ⟨A, c1, hc, _⟩ := HR.out k (by have := HM.out; omega)
      have hft := flat_take ls k (by have := HM.out; omega)
      have hle := flat_take_le ls (k + 1)
      rw [hft, List.length_append] at hle
      have HF := Lib.hid hft
      generalize hx : (ls[k]'(by have := HM.out; omega)).length = x at *
      generalize hy : (flat (ls.take k)).length = y at *
      have HX := Lib.hid hx
      have HY := Lib.hid hy
      clear hx hy hft
      go_wp2
      go_round
      case rel => exact ⟨k + 1, by omega, by go_num, by rw [HF.out, List.length_append, HX.out, HY.out]; go_num⟩
      case measure => simp [intOf]; omega
    · obtain rfl : k = m := by omega
      have hl : ls.take k = ls := List.take_of_length_le (by have := HM.out; omega)
      rw [hl]
      obtain ⟨t, ht⟩ : ∃ t, t = (flat ls).length := ⟨_, rfl⟩
      rw [← ht] at hbig ⊢
      have hmk : ∀ W : World, (Instr.makeSlice 22 (.int .i64 0) (.int .i64 (t : Int))).run Try.prog W = .ok (.slice (some ⟨W.heap.size, 0, none⟩) 0 t) (W.alloc (.cells (madeCells #[.int .u8 0] t) 5)) := by
        intro W
        have := run_make (P := Try.prog) W 22 5 i0 (.int .u8 0) Try.underlying22 hi hz0 .i64 .i64 0 t (by omega) (by omega) (by rw [hz2]; omega) (by omega)
        rw [hz1, show (Value.int .u8 0).cells = #[.int .u8 0] from rfl] at this
        simpa using this
      have HT := Lib.hid ht
      have HL := Lib.hid hl
      clear ht hl hk
      go_wp2_with fail
      go_loopw [6, 8, 24] (fun v _ i wr => ∃ j : Nat, j ≤ k ∧ i = .int .i64 j ∧ wr.ownsRow w.heap.size 5 1 v (flat (ls.take j)).length (bv (flat (ls.take j))) ∧ Below w.heap.size w wr) (fun _ _ i _ => k - (intOf i).toNat)
      case atStart => exact ⟨0, by omega, rfl, World.ownsRow_made w _ t (Nat.le_refl _) (by simp only [maxLen]; omega) (by simp [madeCells]), (Below.refl _ _).alloc (Nat.le_refl _) _⟩
      case round =>
        obtain ⟨j, hj, rfl, hown, hbel⟩ := hrel
        by_cases hlt2 : j < k
        · have hjl : j < ls.length := by have := HM.out; omega
          obtain ⟨A, c1, hc, hrd⟩ := (HR.out.below hbel) j hjl
          have hft := flat_take ls j hjl
          have hle := flat_take_le ls (j + 1)
          rw [hft, List.length_append, ← HT.out] at hle
          have HF := Lib.hid hft
          have hsz := hbel.size
          have HB := Lib.hid hbel
          have HO := Lib.hid hown
          generalize hx : (ls[j]'hjl).length = x at *
          have HX := Lib.hid hx
          clear hx hft hbel hown
          go_wp2_with (at_builtin; refine wpList_append_bytes _ rfl _ _ _ rfl Try.underlying22 infoU8 rfl HO.out rfl hrd HX.out (by omega) hsz ?_; intro v' w1 hown1 hg1 hat1)
          have hb1 := below_append HB.out HO.out hg1 (Nat.le_refl _) hsz
          rw [← HX.out, ← List.length_append, ← HF.out] at hown1
          go_roundw
          case rel => exact ⟨j + 1, by omega, by go_num, hown1, hb1⟩
          case measure => simp [intOf]; omega
        · obtain rfl : j = k := by omega
          go_wp2
          go_ret
          rw [HL.out] at hown
          exact ⟨_, rfl, hown, hbel⟩
end Go.Proofs.Ytgpggodabalakaa

/- volume: the document's places, one behind the other: All, as XVAll of stage 6. -/
import Derived.Test.YtcfkoglehjkkdaaP11
namespace Go.Proofs.Ytcfkoglehjkkdaa.V
open Go.RowKit
attribute [local go_sem] Oper.semAt_some
/-- the place of a sector -/
def plc (n i : Nat) : Sp :=
  if i < 2 then ⟨1, 0, i⟩ else if i < 3 then ⟨2, 0, 0⟩ else if i < 11 then ⟨3, 0, i - 3⟩ else if i < 11 + n then ⟨4, 0, i - 11⟩ else if i < 12 + n then ⟨2, 1, 0⟩ else if i < 20 + n then ⟨3, 1, i - 12 - n⟩ else if i < 20 + 2 * n then ⟨4, 1, i - 20 - n⟩ else ⟨5, 0, i - 20 - 2 * n⟩
def preS (n m : Nat) : List Sp := (List.range m).map (plc n)
set_option maxRecDepth 8000 in
theorem preS_length (n m : Nat) : (preS n m).length = m := by simp [preS]
set_option maxRecDepth 8000 in
theorem preS_snoc (n m : Nat) (x : Sp) (h : plc n m = x) : preS n m ++ [x] = preS n (m + 1) := by simp [preS, List.range_succ, h]
set_option maxRecDepth 8000 in
theorem preS_get (n m i : Nat) (h : i < m) : (preS n m)[i]? = some (plc n i) := by simp [preS, h]
set_option maxRecDepth 8000 in
theorem plc_log0 (n m : Nat) (h : m = 2) : plc n m = ⟨2, 0, 0⟩ := by
  unfold plc
  repeat' split
  all_goals first | omega | rfl | exact Sp.ext ⟨rfl, rfl, by simp only; omega⟩
set_option maxRecDepth 8000 in
theorem plc_st0 (n m : Nat) (j : Nat) (hj : j < 8) (h : m = 3 + j) : plc n m = ⟨3, 0, j⟩ := by
  unfold plc
  repeat' split
  all_goals first | omega | rfl | exact Sp.ext ⟨rfl, rfl, by simp only; omega⟩
set_option maxRecDepth 8000 in
theorem plc_fr0 (n m : Nat) (j : Nat) (hj : j < n) (h : m = 11 + j) : plc n m = ⟨4, 0, j⟩ := by
  unfold plc
  repeat' split
  all_goals first | omega | rfl | exact Sp.ext ⟨rfl, rfl, by simp only; omega⟩
set_option maxRecDepth 8000 in
theorem plc_log1 (n m : Nat) (h : m = 11 + n) : plc n m = ⟨2, 1, 0⟩ := by
  unfold plc
  repeat' split
  all_goals first | omega | rfl | exact Sp.ext ⟨rfl, rfl, by simp only; omega⟩
set_option maxRecDepth 8000 in
theorem plc_st1 (n m : Nat) (j : Nat) (hj : j < 8) (h : m = 12 + n + j) : plc n m = ⟨3, 1, j⟩ := by
  unfold plc
  repeat' split
  all_goals first | omega | rfl | exact Sp.ext ⟨rfl, rfl, by simp only; omega⟩
set_option maxRecDepth 8000 in
theorem plc_fr1 (n m : Nat) (j : Nat) (hj : j < n) (h : m = 20 + n + j) : plc n m = ⟨4, 1, j⟩ := by
  unfold plc
  repeat' split
  all_goals first | omega | rfl | exact Sp.ext ⟨rfl, rfl, by simp only; omega⟩
set_option maxRecDepth 8000 in
theorem plc_home (n m : Nat) (j : Nat) (hj : j < n) (h : m = 20 + 2 * n + j) : plc n m = ⟨5, 0, j⟩ := by
  unfold plc
  repeat' split
  all_goals first | omega | rfl | exact Sp.ext ⟨rfl, rfl, by simp only; omega⟩
/-- what holds while the places come up -/
structure SA (w0 w : World) (b : Nat) (n : Int) (v : Value) (nn m : Nat) : Prop where
  box : Blk w b 80 #[.int .i64 n]
  own : w.ownsRow (b + 1) 121 3 v m (scs (preS nn m))
  size : b + 1 ≤ w.heap.size
  below : Below b w0 w
theorem SA.next {w0 w w' : World} {b : Nat} {n : Int} {v : Value} {nn m : Nat} (h : SA w0 w b n v nn m) (hb : Below (b + 1) w w') {u : Value} {x : Sp} (ho : w'.ownsRow (b + 1) 121 3 u (m + 1) (scs (preS nn m ++ [x]))) (hx : plc nn m = x) : SA w0 w' b n u nn (m + 1) :=
  ⟨h.box.below hb (Nat.lt_succ_self _), by rw [← preS_snoc nn m x hx]; exact ho, Nat.le_trans h.size hb.size, h.below.trans (hb.mono (Nat.le_succ _))⟩
set_option maxRecDepth 8000 in
set_option maxHeartbeats 8000000 in
theorem refall_yes (nn : Nat) (w : World) (h : 1 ≤ nn ∧ nn ≤ 64) :
    Calls Try.prog 31 #[plan nn] w fun e w' => (∃ g c, e = .returned (.slice (some ⟨g, 0, none⟩) (20 + 3 * nn) c) ∧ RdS w' g (preS nn (20 + 3 * nn))) ∧ Below w.heap.size w w' := by
  have HA := Lib.hid (show SA w ((w.alloc (.cells #[.int .i64 nn] 80)).alloc (.cells #[.int .i64 1, .int .i64 0, .int .i64 0, .int .i64 1, .int .i64 0, .int .i64 1] 121)) w.heap.size nn (.slice (some ⟨w.heap.size + 1, 0, none⟩) 2 2) nn 2 from
    ⟨(Blk.new w 80 #[.int .i64 nn]).alloc _, by
      have := World.ownsRow_lit (base := w.heap.size + 1) (w.alloc (.cells #[.int .i64 nn] 80)) (e := 121) (size := 3) #[.int .i64 1, .int .i64 0, .int .i64 0, .int .i64 1, .int .i64 0, .int .i64 1] 2 (by simp) (by simp only [maxLen]; omega) rfl
      rw [show (w.alloc (.cells #[.int .i64 (nn : Int)] 80)).heap.size = w.heap.size + 1 by simp] at this
      exact this, by simp, ((Below.refl _ _).alloc (Nat.le_refl _) _).alloc (by simp) _⟩)
  have H := Lib.hid h
  go_enter Try.func31, Try.ntmps31
  go_wp2
  refine wp_loop_rounds 3 ?_
  rw [rounds_succ]
  go_wp2_with (refine wpList_append_sp rfl (.tmp 15) (.tmp 18) rfl (by rfl) HA.out.own ⟨2, 0, 0⟩ (by first | rfl | (simp; rfl)) (by omega) HA.out.size ?_; intro g' c' w1 ho hb; have HL0 := Lib.hid (HA.out.next hb ho (plc_log0 nn _ (by omega))); have c0 := HL0.out.box.one; clear ho hb HA)
  go_loopw [3, 5] (fun v i wr => ∃ j : Nat, j ≤ 8 ∧ i = .int .i64 j ∧ SA w wr w.heap.size nn v nn (3 + j)) (fun _ i _ => 8 + 1 - (intOf i).toNat)
  case atStart => exact ⟨0, by omega, rfl, HL0.out⟩
  case round =>
    clear HL0
    obtain ⟨j, hj, rfl, ha⟩ := hrel
    have HL := Lib.hid ha
    have c0 := HL.out.box.one
    clear ha
    by_cases hlt : j < 8
    · have d0 : decide ((j : Int) < 8) = true := decide_eq_true (by omega)
      go_wp2_with (refine wpList_append_sp rfl (.tmp 24) (.tmp 28) rfl (by rfl) HL.out.own ⟨3, 0, j⟩ (by first | rfl | (simp; rfl)) (by omega) HL.out.size ?_; intro g' c' w1 ho hb; have HN := Lib.hid (HL.out.next hb ho (plc_st0 nn _ j hlt (by omega))); have c0 := HN.out.box.one; clear ho hb HL)
      go_roundw
      case rel => exact ⟨j + 1, by omega, by go_num, HN.out⟩
      case measure => simp [intOf]; omega
    · obtain rfl : j = 8 := by omega
      rw [show ((8 : Nat) : Int) = 8 from rfl]
      have HS0 := Lib.hid HL.out
      clear HL
      go_wp2
      go_loopw [3, 6] (fun v i wr => ∃ j : Nat, j ≤ nn ∧ i = .int .i64 j ∧ SA w wr w.heap.size nn v nn (11 + j)) (fun _ i _ => nn + 1 - (intOf i).toNat)
      case atStart => exact ⟨0, by omega, rfl, HS0.out⟩
      case round =>
        clear HS0
        obtain ⟨j, hj, rfl, ha⟩ := hrel
        have HL := Lib.hid ha
        have c0 := HL.out.box.one
        clear ha
        by_cases hlt : j < nn
        · have d0 : decide ((j : Int) < (nn : Int)) = true := decide_eq_true (by omega)
          go_wp2_with (refine wpList_append_sp rfl (.tmp 36) (.tmp 40) rfl (by rfl) HL.out.own ⟨4, 0, j⟩ (by first | rfl | (simp; rfl)) (by omega) HL.out.size ?_; intro g' c' w1 ho hb; have HN := Lib.hid (HL.out.next hb ho (plc_fr0 nn _ j hlt (by omega))); have c0 := HN.out.box.one; clear ho hb HL)
          go_roundw
          case rel => exact ⟨j + 1, by omega, by go_num, HN.out⟩
          case measure => simp [intOf]; omega
        · obtain rfl : nn = j := by omega
          have d0 : decide (((nn : Int) : Int) < (nn : Int)) = false := decide_eq_false (by omega)
          have HF0 := Lib.hid HL.out
          clear HL
          go_wp2
          rw [rounds_succ]
          go_wp2_with (refine wpList_append_sp rfl (.tmp 15) (.tmp 18) rfl (by rfl) HF0.out.own ⟨2, 1, 0⟩ (by first | rfl | (simp; rfl)) (by omega) HF0.out.size ?_; intro g' c' w1 ho hb; have HL1 := Lib.hid (HF0.out.next hb ho (plc_log1 nn _ (by omega))); have c0 := HL1.out.box.one; clear ho hb HF0)
          go_loopw [3, 5] (fun v i wr => ∃ j : Nat, j ≤ 8 ∧ i = .int .i64 j ∧ SA w wr w.heap.size nn v nn (11 + nn + 1 + j)) (fun _ i _ => 8 + 1 - (intOf i).toNat)
          case atStart => exact ⟨0, by omega, rfl, HL1.out⟩
          case round =>
            clear HL1
            obtain ⟨j, hj, rfl, ha⟩ := hrel
            have HL := Lib.hid ha
            have c0 := HL.out.box.one
            clear ha
            by_cases hlt : j < 8
            · have d0 : decide ((j : Int) < 8) = true := decide_eq_true (by omega)
              go_wp2_with (refine wpList_append_sp rfl (.tmp 24) (.tmp 28) rfl (by rfl) HL.out.own ⟨3, 1, j⟩ (by first | rfl | (simp; rfl)) (by omega) HL.out.size ?_; intro g' c' w1 ho hb; have HN := Lib.hid (HL.out.next hb ho (plc_st1 nn _ j hlt (by omega))); have c0 := HN.out.box.one; clear ho hb HL)
              go_roundw
              case rel => exact ⟨j + 1, by omega, by go_num, HN.out⟩
              case measure => simp [intOf]; omega
            · obtain rfl : j = 8 := by omega
              rw [show ((8 : Nat) : Int) = 8 from rfl]
              have HS1 := Lib.hid HL.out
              clear HL
              go_wp2
              go_loopw [3, 6] (fun v i wr => ∃ j : Nat, j ≤ nn ∧ i = .int .i64 j ∧ SA w wr w.heap.size nn v nn (11 + nn + 1 + 8 + j)) (fun _ i _ => nn + 1 - (intOf i).toNat)
              case atStart => exact ⟨0, by omega, rfl, HS1.out⟩
              case round =>
                clear HS1
                obtain ⟨j, hj, rfl, ha⟩ := hrel
                have HL := Lib.hid ha
                have c0 := HL.out.box.one
                clear ha
                by_cases hlt : j < nn
                · have d0 : decide ((j : Int) < (nn : Int)) = true := decide_eq_true (by omega)
                  go_wp2_with (refine wpList_append_sp rfl (.tmp 36) (.tmp 40) rfl (by rfl) HL.out.own ⟨4, 1, j⟩ (by first | rfl | (simp; rfl)) (by omega) HL.out.size ?_; intro g' c' w1 ho hb; have HN := Lib.hid (HL.out.next hb ho (plc_fr1 nn _ j hlt (by omega))); have c0 := HN.out.box.one; clear ho hb HL)
                  go_roundw
                  case rel => exact ⟨j + 1, by omega, by go_num, HN.out⟩
                  case measure => simp [intOf]; omega
                · obtain rfl : nn = j := by omega
                  have d0 : decide (((nn : Int) : Int) < (nn : Int)) = false := decide_eq_false (by omega)
                  have HF1 := Lib.hid HL.out
                  clear HL
                  go_wp2
                  rw [rounds_succ]
                  go_wp2
                  go_loopw [3, 7] (fun v i wr => ∃ j : Nat, j ≤ nn ∧ i = .int .i64 j ∧ SA w wr w.heap.size nn v nn (11 + nn + 1 + 8 + nn + j)) (fun _ i _ => nn + 1 - (intOf i).toNat)
                  case atStart => exact ⟨0, by omega, rfl, HF1.out⟩
                  case round =>
                    clear HF1
                    obtain ⟨j, hj, rfl, ha⟩ := hrel
                    have HL := Lib.hid ha
                    have c0 := HL.out.box.one
                    clear ha
                    by_cases hlt : j < nn
                    · have d0 : decide ((j : Int) < (nn : Int)) = true := decide_eq_true (by omega)
                      go_wp2_with (refine wpList_append_sp rfl (.tmp 48) (.tmp 51) rfl (by rfl) HL.out.own ⟨5, 0, j⟩ (by first | rfl | (simp; rfl)) (by omega) HL.out.size ?_; intro g' c' w1 ho hb; have HN := Lib.hid (HL.out.next hb ho (plc_home nn _ j hlt (by omega))); have c0 := HN.out.box.one; clear ho hb HL)
                      go_roundw
                      case rel => exact ⟨j + 1, by omega, by go_num, HN.out⟩
                      case measure => simp [intOf]; omega
                    · obtain rfl : nn = j := by omega
                      have d0 : decide (((nn : Int) : Int) < (nn : Int)) = false := decide_eq_false (by omega)
                      have HH := Lib.hid HL.out
                      clear HL
                      have HH := Lib.hid (show SA w _ w.heap.size nn _ nn (20 + 3 * nn) from (show 11 + nn + 1 + 8 + nn + nn = 20 + 3 * nn by omega) ▸ HH.out)
                      go_wp2
                      go_ret
                      obtain ⟨g, c, rfl, -, hr⟩ := RdS.of_own HH.out.own (by omega)
                      exact ⟨⟨g, c, rfl, hr⟩, HH.out.below⟩
end Go.Proofs.Ytcfkoglehjkkdaa.V

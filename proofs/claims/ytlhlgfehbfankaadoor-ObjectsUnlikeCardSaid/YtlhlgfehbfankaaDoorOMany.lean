/- objects: many, counted, mayHold. -/
import Derived.Test.YtlhlgfehbfankaaDoorOEq
namespace Go.Proofs.YtlhlgfehbfankaaDoor
open Go.RowKit
theorem many_any (n : Int) (w : World) : Calls Tryd.prog 31 #[.int .i64 n] w fun e w' => e = .returned (.bool (decide (1 ≤ n ∧ n ≤ 64))) ∧ w = w' := by
  by_cases h0 : 1 ≤ n
  · have d0 : decide (1 ≤ n) = true := by simpa using h0
    by_cases h1 : n ≤ 64
    · rw [show decide (1 ≤ n ∧ n ≤ 64) = true by simp; omega]
      go_enter Tryd.func31, Tryd.ntmps31
      go_wp2
      go_ret
      exact ⟨rfl, rfl⟩
    · rw [show decide (1 ≤ n ∧ n ≤ 64) = false by simp; omega]
      have d1 : decide (n ≤ 64) = false := by simpa using h1
      go_enter Tryd.func31, Tryd.ntmps31
      go_wp2
      go_ret
      exact ⟨rfl, rfl⟩
  · rw [show decide (1 ≤ n ∧ n ≤ 64) = false by simp; omega]
    have d0 : decide (1 ≤ n) = false := by simpa using h0
    go_enter Tryd.func31, Tryd.ntmps31
    go_wp2
    go_ret
    exact ⟨rfl, rfl⟩
theorem counted_any (n : Int) (w : World) : Calls Tryd.prog 32 #[.int .i64 n] w fun e w' => e = .returned (.bool (decide (0 ≤ n ∧ n ≤ 4294967295))) ∧ w = w' := by
  by_cases h0 : 0 ≤ n
  · have d0 : decide (0 ≤ n) = true := by simpa using h0
    by_cases h1 : n ≤ 4294967295
    · rw [show decide (0 ≤ n ∧ n ≤ 4294967295) = true by simp; omega]
      go_enter Tryd.func32, Tryd.ntmps32
      go_wp2
      go_ret
      exact ⟨rfl, rfl⟩
    · rw [show decide (0 ≤ n ∧ n ≤ 4294967295) = false by simp; omega]
      have d1 : decide (n ≤ 4294967295) = false := by simpa using h1
      go_enter Tryd.func32, Tryd.ntmps32
      go_wp2
      go_ret
      exact ⟨rfl, rfl⟩
  · rw [show decide (0 ≤ n ∧ n ≤ 4294967295) = false by simp; omega]
    have d0 : decide (0 ≤ n) = false := by simpa using h0
    go_enter Tryd.func32, Tryd.ntmps32
    go_wp2
    go_ret
    exact ⟨rfl, rfl⟩
/-- may a node have this key, in a store of n -/
def Ky.may (n : Int) (x : Ky) : Prop := x.ok ∧ (x.of → x.o < n)
def mayS (n : Int) (s : List Ky) : Prop := ∀ x ∈ s, x.may n
noncomputable def mayB (n : Int) (s : List Ky) : Bool := @decide (mayS n s) (Classical.propDecidable _)
theorem mayB_yes {n : Int} {s : List Ky} (h : mayS n s) : mayB n s = true := by unfold mayB; simpa using h
theorem mayB_no {n : Int} {s : List Ky} {x : Ky} (hx : x ∈ s) (h : ¬ x.may n) : mayB n s = false := by
  unfold mayB
  simp only [decide_eq_false_iff_not]
  exact fun hh => h (hh x hx)
theorem mayS_snoc {n : Int} {s : List Ky} {k : Nat} (hk : k < s.length) (h : mayS n (s.take k)) (hx : s[k].may n) : mayS n (s.take (k + 1)) := by
  rw [List.take_succ_eq_append_getElem hk]
  intro y hy
  rcases List.mem_append.1 hy with h' | h'
  · exact h y h'
  · obtain rfl : y = s[k] := by simpa using h'
    exact hx
set_option maxHeartbeats 1000000 in
theorem mayHold_any (s : List Ky) (hs : s.length = 16) (n : Int) (w : World) (hT : Tab w) :
    Calls Tryd.prog 44 #[.agg (kcs s).toArray, .int .i64 n] w fun e w' => e = .returned (.bool (mayB n s)) ∧ Below w.heap.size w w' := by
  have HT := Lib.hid (hT.alloc (.cells (kcs s).toArray 31))
  have HB := Lib.hid (((Below.refl w.heap.size w).alloc (Nat.le_refl _) (.cells (kcs s).toArray 31)))
  have HG := Lib.hid (Blk.new w 31 (kcs s).toArray)
  have HS := Lib.hid hs
  clear hT
  go_enter Tryd.func44, Tryd.ntmps44
  go_wp2_with (refine wpList_yields (S := fun w' => w'.rangeAt w.heap.size 0 (kcs s)) (y_ks (by rfl) (.tmp 2) (by rfl) w.heap.size 0 (by rfl) s HS.out (fun _ h => h)) HG.out.kx ?_)
  generalize w.alloc (.cells (kcs s).toArray 31) = w0 at HT HB HG ⊢
  go_loopw [6, 7, 8, 10] (fun _ _ _ i wr => ∃ k : Nat, k ≤ 16 ∧ i = .int .i64 k ∧ Below w.heap.size w wr ∧ Tab wr ∧ mayS n (s.take k)) (fun _ _ _ i _ => 17 - (intOf i).toNat)
  case atStart => exact ⟨0, by omega, rfl, HB.out, HT.out, fun x hx => by simp at hx⟩
  case round =>
    obtain ⟨k, hk, rfl, hb, ht, hm⟩ := hrel
    clear HT HB HG
    have HB0 := Lib.hid hb
    have HT0 := Lib.hid ht
    have HM := Lib.hid hm
    clear hb ht hm
    by_cases hlt : k < 16
    · have hks : k < s.length := by omega
      have HKS := Lib.hid hks
      obtain ⟨x, hx⟩ : ∃ x, x = s[k] := ⟨_, rfl⟩
      have HX := Lib.hid hx
      clear hs hx
      by_cases hof : x.of
      · have HOF := Lib.hid hof
        clear hof
        by_cases hq : x.o < n
        · have dq : decide (n ≤ x.o) = false := by simpa using hq
          have HQ := Lib.hid hq
          clear hq
          go_wp2_with (first
        | (refine wpList_yields (S := fun _ => True) (HX.out ▸ y_index (by rfl) (.tmp 9) (.tmp 10) (by rfl) s HS.out k HKS.out (by rfl) (by rfl)) trivial ?_)
        | (go_at_call 37; refine (kname_yes x _ (HT0.out.alloc _) HOF.out).mono ?_; rintro e w1 ⟨rfl, b1⟩; obtain ⟨B1, b2⟩ := box1 b1; have HT1 := Lib.hid (HT0.out.below b2); have HB1 := Lib.hid (HB0.out.trans (b2.mono HB0.out.size)); have G1 := Lib.hid B1; obtain ⟨c0, c1, c2, c3, c4, c5⟩ := B1.six; clear b1 b2 B1)
        | (go_at_call 46; refine (kchk_yes x _ HT1.out HOF.out.1).mono ?_; rintro e w2 ⟨rfl, b2⟩; have HT2 := Lib.hid (HT1.out.below b2); have HB2 := Lib.hid (HB1.out.trans (b2.mono HB1.out.size)); clear b2 c0 c1 c2 c3 c4 c5))
          go_roundw
          case rel => exact ⟨k + 1, by omega, by go_num, HB2.out, HT2.out, mayS_snoc HKS.out HM.out (HX.out ▸ ⟨HOF.out.1, fun _ => HQ.out⟩)⟩
          case measure => simp [intOf]; omega
        · have dq : decide (n ≤ x.o) = true := by simpa using hq
          have HQ := Lib.hid hq
          clear hq
          go_wp2_with (first
        | (refine wpList_yields (S := fun _ => True) (HX.out ▸ y_index (by rfl) (.tmp 9) (.tmp 10) (by rfl) s HS.out k HKS.out (by rfl) (by rfl)) trivial ?_)
        | (go_at_call 37; refine (kname_yes x _ (HT0.out.alloc _) HOF.out).mono ?_; rintro e w1 ⟨rfl, b1⟩; obtain ⟨B1, b2⟩ := box1 b1; have HT1 := Lib.hid (HT0.out.below b2); have HB1 := Lib.hid (HB0.out.trans (b2.mono HB0.out.size)); have G1 := Lib.hid B1; obtain ⟨c0, c1, c2, c3, c4, c5⟩ := B1.six; clear b1 b2 B1)
        | (go_at_call 46; refine (kchk_yes x _ HT1.out HOF.out.1).mono ?_; rintro e w2 ⟨rfl, b2⟩; have HT2 := Lib.hid (HT1.out.below b2); have HB2 := Lib.hid (HB1.out.trans (b2.mono HB1.out.size)); clear b2 c0 c1 c2 c3 c4 c5))
          go_ret
          exact ⟨by rw [mayB_no (List.getElem_mem HKS.out) (HX.out ▸ fun h => by have h1 := HQ.out; have h2 := h.2 HOF.out; omega)]; rfl, HB2.out⟩
      · have HOF := Lib.hid hof
        clear hof
        by_cases hok : x.ok
        · have HOK := Lib.hid hok
          clear hok
          go_wp2_with (first
        | (refine wpList_yields (S := fun _ => True) (HX.out ▸ y_index (by rfl) (.tmp 9) (.tmp 10) (by rfl) s HS.out k HKS.out (by rfl) (by rfl)) trivial ?_)
        | (go_at_call 37; refine (kname_no x _ (HT0.out.alloc _) HOF.out).mono ?_; rintro e w1 ⟨rfl, b1⟩; obtain ⟨B1, b2⟩ := box1 b1; have HT1 := Lib.hid (HT0.out.below b2); have HB1 := Lib.hid (HB0.out.trans (b2.mono HB0.out.size)); have G1 := Lib.hid B1; obtain ⟨c0, c1, c2, c3, c4, c5⟩ := B1.six; clear b1 b2 B1)
        | (go_at_call 46; refine (kchk_yes x _ HT1.out HOK.out).mono ?_; rintro e w2 ⟨rfl, b2⟩; have HT2 := Lib.hid (HT1.out.below b2); have HB2 := Lib.hid (HB1.out.trans (b2.mono HB1.out.size)); clear b2 c0 c1 c2 c3 c4 c5))
          go_roundw
          case rel => exact ⟨k + 1, by omega, by go_num, HB2.out, HT2.out, mayS_snoc HKS.out HM.out (HX.out ▸ ⟨HOK.out, fun h => absurd h HOF.out⟩)⟩
          case measure => simp [intOf]; omega
        · have HOK := Lib.hid hok
          clear hok
          go_wp2_with (first
        | (refine wpList_yields (S := fun _ => True) (HX.out ▸ y_index (by rfl) (.tmp 9) (.tmp 10) (by rfl) s HS.out k HKS.out (by rfl) (by rfl)) trivial ?_)
        | (go_at_call 37; refine (kname_no x _ (HT0.out.alloc _) HOF.out).mono ?_; rintro e w1 ⟨rfl, b1⟩; obtain ⟨B1, b2⟩ := box1 b1; have HT1 := Lib.hid (HT0.out.below b2); have HB1 := Lib.hid (HB0.out.trans (b2.mono HB0.out.size)); have G1 := Lib.hid B1; obtain ⟨c0, c1, c2, c3, c4, c5⟩ := B1.six; clear b1 b2 B1)
        | (go_at_call 46; refine (kchk_no x _ HT1.out HOK.out).mono ?_; rintro e w2 ⟨rfl, b2⟩; have HT2 := Lib.hid (HT1.out.below b2); have HB2 := Lib.hid (HB1.out.trans (b2.mono HB1.out.size)); clear b2 c0 c1 c2 c3 c4 c5))
          go_ret
          exact ⟨by rw [mayB_no (List.getElem_mem HKS.out) (HX.out ▸ fun h => HOK.out h.1)]; rfl, HB2.out⟩
    · obtain rfl : k = 16 := by omega
      go_wp2
      go_ret
      exact ⟨by rw [mayB_yes (by have h := HM.out; rwa [List.take_of_length_le (by have := HS.out; omega)] at h)]; rfl, HB0.out⟩
end Go.Proofs.YtlhlgfehbfankaaDoor

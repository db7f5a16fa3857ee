/- objects: the definition's Right. -/
import Derived.Test.YtlhlgfehbfankaaDoorOOf
namespace Go.Proofs.YtlhlgfehbfankaaDoor
open Go.RowKit
/-- may these be a store -/
def rightP (l : List Oj) : Prop := 1 ≤ l.length ∧ l.length ≤ 64 ∧ okAll l.length l
section
variable {w : World} {A : Option Addr} {l : List Oj} {cap : Nat}
theorem right_len (hn : ¬ (1 ≤ l.length ∧ l.length ≤ 64)) : Calls Tryd.prog 15 #[.slice A l.length cap] w fun e w' => e = .returned (.bool false) ∧ Below w.heap.size w w' := by
  by_cases h1 : l.length < 1
  · have d0 : decide (l.length < 1) = true := decide_eq_true h1
    have d0' : decide ((l.length : Int) < 1) = true := decide_eq_true (by omega)
    clear hn
    obtain ⟨n, hn⟩ : ∃ n, l.length = n := ⟨_, rfl⟩
    rw [hn] at d0 d0' ⊢
    obtain rfl : n = 0 := by omega
    go_enter Tryd.func15, Tryd.ntmps15
    go_wp2
    go_ret
    exact ⟨rfl, Below.refl _ _⟩
  · obtain ⟨n, hn'⟩ : ∃ n, l.length = n := ⟨_, rfl⟩
    rw [hn'] at hn h1 ⊢
    have d0 : decide ((n : Int) < 1) = false := decide_eq_false (by omega)
    have d1 : decide ((64 : Int) < (n : Int)) = true := decide_eq_true (by omega)
    go_enter Tryd.func15, Tryd.ntmps15
    go_wp2
    go_ret
    exact ⟨rfl, Below.refl _ _⟩
set_option maxRecDepth 100000 in
set_option maxHeartbeats 2000000 in
theorem right_in (hr : RdO w A l) (h1 : 1 ≤ l.length) (h2 : l.length ≤ 64) : Calls Tryd.prog 15 #[.slice A l.length cap] w fun e w' => ((e = .returned (.bool true) ∧ okAll l.length l) ∨ (e = .returned (.bool false) ∧ ¬ okAll l.length l)) ∧ Below w.heap.size w w' := by
  have HRW := Lib.hid hr
  have d0 : decide ((l.length : Int) < 1) = false := decide_eq_false (by omega)
  have d1 : decide ((64 : Int) < (l.length : Int)) = false := decide_eq_false (by omega)
  clear hr
  go_enter Tryd.func15, Tryd.ntmps15
  go_wp2
  go_loopw [3] (fun i wr => ∃ k : Nat, k ≤ l.length ∧ i = .int .i64 k ∧ Below w.heap.size w wr ∧ okAll l.length (l.take k)) (fun i _ => l.length + 1 - (intOf i).toNat)
  case atStart => exact ⟨0, by omega, rfl, Below.refl _ _, fun x hx => by simp at hx⟩
  case round =>
    obtain ⟨k, hk, rfl, hb, hok⟩ := hrel
    by_cases hlt : k < l.length
    · obtain ⟨b, off, rfl, hob⟩ := HRW.out k hlt
      obtain ⟨x, hx⟩ : ∃ x, l[k] = x := ⟨_, rfl⟩
      rw [hx] at hob
      have HO := Lib.hid (hob.below hb)
      have HB := Lib.hid hb
      have HK := Lib.hid hok
      have HX := Lib.hid hx
      have HLT := Lib.hid hlt
      clear hob hb hok hx
      by_cases hxo : x.ok l.length
      · have HXO := Lib.hid hxo
        clear hxo
        go_wp2_with (first
          | (refine wpList_yields (S := fun w' => ObAt w' b (off + k * 163) x) (y_ob (by rfl) (.tmp 20) (by rfl) b (off + k * 163) (by rfl) x (fun _ h => h)) HO.out ?_)
          | (go_at_call 13; refine (Oj.chk_yes HXO.out ▸ rcheck_any x l.length _).mono ?_; rintro e w1 ⟨rfl, b1⟩; have HB1 := Lib.hid (HB.out.trans (b1.mono HB.out.size)); clear b1))
        go_roundw
        case rel => exact ⟨k + 1, by omega, by go_num, HB1.out, take_snoc_x HLT.out HX.out HK.out HXO.out⟩
        case measure => simp [intOf]; omega
      · have HXO := Lib.hid hxo
        clear hxo
        go_wp2_with (first
          | (refine wpList_yields (S := fun w' => ObAt w' b (off + k * 163) x) (y_ob (by rfl) (.tmp 20) (by rfl) b (off + k * 163) (by rfl) x (fun _ h => h)) HO.out ?_)
          | (go_at_call 13; refine (Oj.chk_no HXO.out ▸ rcheck_any x l.length _).mono ?_; rintro e w1 ⟨rfl, b1⟩; have HB1 := Lib.hid (HB.out.trans (b1.mono HB.out.size)); clear b1))
        go_ret
        exact ⟨.inr ⟨rfl, fun h => HXO.out (ok_x h HLT.out HX.out)⟩, HB1.out⟩
    · obtain rfl : k = l.length := by omega
      rw [List.take_length] at hok
      go_wp2
      go_ret
      exact ⟨.inl ⟨rfl, hok⟩, hb⟩
theorem right_yes (hr : RdO w A l) (h : rightP l) : Calls Tryd.prog 15 #[.slice A l.length cap] w fun e w' => e = .returned (.bool true) ∧ Below w.heap.size w w' := by
  refine (right_in hr h.1 h.2.1).mono ?_
  rintro e w' ⟨⟨he, _⟩ | ⟨_, hno⟩, hb⟩
  · exact ⟨he, hb⟩
  · exact absurd h.2.2 hno
theorem right_no (hr : RdO w A l) (h : ¬ rightP l) : Calls Tryd.prog 15 #[.slice A l.length cap] w fun e w' => e = .returned (.bool false) ∧ Below w.heap.size w w' := by
  by_cases hn : 1 ≤ l.length ∧ l.length ≤ 64
  · refine (right_in hr hn.1 hn.2).mono ?_
    rintro e w' ⟨⟨_, hok⟩ | ⟨he, _⟩, hb⟩
    · exact absurd ⟨hn.1, hn.2, hok⟩ h
    · exact ⟨he, hb⟩
  · exact right_len hn
/-- a store of these, or none -/
theorem of_yes (hT : Tab w) (hr : RdO w A l) (h : rightP l) : Calls Tryd.prog 14 #[.slice A l.length cap] w fun e w' => e = .returned (.tuple #[pv w.heap.size, .int .i64 0]) ∧ (∃ A' cap' ps, StAt w' w.heap.size w.heap.size A' cap' ps l) ∧ Below w.heap.size w w' := by
  refine (of_any A l cap w hT hr h.1 h.2.1).mono ?_
  rintro e w' ⟨⟨A', cap', ps, he, hs, _⟩ | ⟨_, hno⟩, hb⟩
  · exact ⟨he, ⟨_, _, _, hs⟩, hb⟩
  · exact absurd h.2.2 hno
theorem of_no (hT : Tab w) (hr : RdO w A l) (h : ¬ rightP l) : Calls Tryd.prog 14 #[.slice A l.length cap] w fun e w' => e = .returned (.tuple #[.pointer none, .int .i64 2]) ∧ Below w.heap.size w w' := by
  by_cases hn : 1 ≤ l.length ∧ l.length ≤ 64
  · refine (of_any A l cap w hT hr hn.1 hn.2).mono ?_
    rintro e w' ⟨⟨A', cap', ps, _, _, hok⟩ | ⟨he, _⟩, hb⟩
    · exact absurd ⟨hn.1, hn.2, hok⟩ h
    · exact ⟨he, hb⟩
  · refine (of_many A l.length cap w hn).mono ?_
    rintro e w' ⟨he, rfl⟩
    exact ⟨he, Below.refl _ _⟩
end
end Go.Proofs.YtlhlgfehbfankaaDoor

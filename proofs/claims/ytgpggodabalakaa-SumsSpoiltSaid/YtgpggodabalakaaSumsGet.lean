/- The law SumsGet holds for every slice of bytes: sums.Get tells the number that the definition tells, or ErrArg. No condition. -/
import Derived.Test.YtgpggodabalakaaSumsPut
namespace Go.Proofs.Ytgpggodabalakaa.sumsGet
open Go.ChangeShapes Go.WideShapes Go.ChangeAt Go.RowKit
open Go.Proofs.Ytgpggodabalakaa.sumsPut (wide_of not_wide_of)
theorem top8 (l : List UInt8) (h : l.length = 8) : numLE l = numLE (l.take 7) + 72057594037927936 * (l[7]'(by omega)).toNat := by
  have := numLE_take l 7 (by omega)
  rw [List.take_of_length_le (by omega)] at this
  exact this
theorem top8_lt (l : List UInt8) (h : l.length = 8) : numLE (l.take 7) < 72057594037927936 := by
  have := numLE_lt (l.take 7)
  rw [List.length_take_of_le (by omega)] at this
  exact this
theorem fits (l : List UInt8) (g : Int) (h : greatestN l.length = some g) (h7 : ∀ h : l.length = 8, (l[7]'(by omega)).toNat ≤ 127) : (numLE l : Int) ≤ g ∧ numLE l ≤ 9223372036854775807 := by
  have hl := numLE_lt l
  unfold greatestN at h
  split at h
  · injection h with h
    rw [show l.length = 2 by omega] at hl
    omega
  · split at h
    · injection h with h
      rw [show l.length = 4 by omega] at hl
      omega
    · split at h
      · injection h with h
        have h8 : l.length = 8 := by omega
        have := h7 h8
        have := top8 l h8
        have := top8_lt l h8
        omega
      · cases h
theorem wide_some {b : Int} (h : Wide b) : ∃ g, greatestN b = some g := by
  rcases h with rfl | rfl | rfl
  · exact ⟨_, rfl⟩
  · exact ⟨_, rfl⟩
  · exact ⟨_, rfl⟩
set_option maxHeartbeats 800000 in
theorem walk_long (A : Option Addr) (n c : Nat) (w : World) (h : 3000 < n) :
    Calls Try.prog 6 #[.slice A n c] w fun e w' => e = .returned (.bool true) ∧ Below w.heap.size w w' := by
  go_enter Try.func6, Try.ntmps6
  go_wp2_with (first | (go_at_call 17; refine (num_any _ _).mono ?_; rintro e w' ⟨rfl, rfl⟩) | (go_at_call 11; refine (works_any _).mono ?_; rintro e w3 ⟨rfl, hb3⟩))
  go_ret
  exact ⟨rfl, hb3⟩
set_option maxHeartbeats 800000 in
theorem walk_none (A : Option Addr) (n c : Nat) (w : World) (hs : n ≤ 3000) (h : greatestN n = none) :
    Calls Try.prog 6 #[.slice A n c] w fun e w' => e = .returned (.bool true) ∧ Below w.heap.size w w' := by
  have HP := Lib.hid (get_none A n c w h)
  have HW := Lib.hid (not_wide_of h)
  clear h
  go_enter Try.func6, Try.ntmps6
  go_wp2_with fail
  refine HP.out.mono ?_
  rintro e w1 ⟨rfl, hb1⟩
  go_wp2_with fail
  refine (rget_none A n c w1 HW.out).mono ?_
  rintro e w2 ⟨rfl, rfl⟩
  have HB := Lib.hid hb1
  clear hb1
  go_wp2_with (first | (go_at_call 17; refine (num_any _ _).mono ?_; rintro e w' ⟨rfl, rfl⟩) | (go_at_call 11; refine (works_any _).mono ?_; rintro e w3 ⟨rfl, hb3⟩))
  go_ret
  exact ⟨rfl, HB.out.trans (hb3.mono HB.out.size)⟩
set_option maxHeartbeats 800000 in
theorem walk_big (A : Option Addr) (c : Nat) (l : List UInt8) (w : World) (hn : l.length = 8) (hr : Rd w A l) (h : 127 < (l[7]'(by omega)).toNat) :
    Calls Try.prog 6 #[.slice A (8 : Nat) c] w fun e w' => e = .returned (.bool true) ∧ Below w.heap.size w w' := by
  have HP := get_some A 8 c l 9223372036854775807 w hn hr rfl
  have := top8 l hn
  rw [if_neg (by omega)] at HP
  have HP := Lib.hid HP
  have HN := Lib.hid hn
  have HH := Lib.hid h
  have HR := Lib.hid hr
  clear this h hr
  go_enter Try.func6, Try.ntmps6
  go_wp2_with fail
  refine HP.out.mono ?_
  rintro e w1 ⟨rfl, hb1⟩
  have HR1 := Lib.hid (HR.out.below hb1)
  have HB := Lib.hid hb1
  clear hb1
  go_wp2_with fail
  refine (rget_big A c l w1 hn HR1.out HH.out).mono ?_
  rintro e w2 ⟨rfl, rfl⟩
  go_wp2_with (first | (go_at_call 17; refine (num_any _ _).mono ?_; rintro e w' ⟨rfl, rfl⟩) | (go_at_call 11; refine (works_any _).mono ?_; rintro e w3 ⟨rfl, hb3⟩))
  go_ret
  exact ⟨rfl, HB.out.trans (hb3.mono HB.out.size)⟩
set_option maxHeartbeats 800000 in
theorem walk_yes (A : Option Addr) (n c : Nat) (l : List UInt8) (g : Int) (w : World) (hs : n ≤ 3000) (hn : l.length = n) (hr : Rd w A l) (hg : greatestN n = some g) (h7 : ∀ h : n = 8, (l[7]'(by omega)).toNat ≤ 127) :
    Calls Try.prog 6 #[.slice A n c] w fun e w' => e = .returned (.bool true) ∧ Below w.heap.size w w' := by
  have hf := fits l g (by rw [hn]; exact hg) (fun h => h7 (by omega))
  have HP := get_some A n c l g w hn hr hg
  rw [if_pos hf.1] at HP
  have HP := Lib.hid HP
  have HG := Lib.hid (fun w1 h => rget_yes A n c l w1 hn h (wide_of hg) hf.2 h7)
  have HR := Lib.hid hr
  clear hf hg hn hr h7
  go_enter Try.func6, Try.ntmps6
  go_wp2_with fail
  refine HP.out.mono ?_
  rintro e w1 ⟨rfl, hb1⟩
  have HR1 := Lib.hid (HR.out.below hb1)
  have HB := Lib.hid hb1
  clear hb1
  go_wp2_with fail
  refine (HG.out w1 HR1.out).mono ?_
  rintro e w2 ⟨rfl, rfl⟩
  go_wp2_with (first | (go_at_call 17; refine (num_any _ _).mono ?_; rintro e w' ⟨rfl, rfl⟩) | (go_at_call 11; refine (works_any _).mono ?_; rintro e w3 ⟨rfl, hb3⟩))
  go_ret
  exact ⟨rfl, HB.out.trans (hb3.mono HB.out.size)⟩
theorem walk (w : World) (A : Option Addr) (n c : Nat) (zs : List Int) (r0 : IsRow .u8 w A n c zs) :
    Calls Try.prog 6 #[.slice A n c] w fun e w' => e = .returned (.bool true) ∧ Below w.heap.size w w' := by
  obtain ⟨l, hn, hc, hr⟩ := row_bytes r0
  by_cases hs : 3000 < n
  · exact walk_long A n c w hs
  · cases hg : greatestN n with
    | none => exact walk_none A n c w (by omega) hg
    | some g =>
      by_cases h8 : ∃ h : n = 8, 127 < (l[7]'(by omega)).toNat
      · obtain ⟨rfl, h⟩ := h8
        exact walk_big A c l w hn hr h
      · exact walk_yes A n c l g w (by omega) hn hr hg (fun h => Nat.le_of_not_lt fun h' => h8 ⟨h, h'⟩)
set_option maxRecDepth 100000 in
theorem lifted (os : Os) (started : os.Started) (H : Type) (enc : TypeId × Value → H) :
    ReturnsInHanded {} Try.checked os 6 .any (Rows.sumsGetSpec.pre6 enc Try.prog Try.f6 Rows.sumsGetRow.domain false) (Rows.sumsGetSpec.post enc Try.prog Try.f6 false true false false) := by
  refine returnsInHanded_of_change (C := Try.checked) own started (by kernel_rfl) Try.func6
    (ChangeSpec.witness6 (enc := enc) (C := Try.checked) false ⟨#[], #[.slice none 0 0], []⟩ 8 (by kernel_rfl) (by kernel_rfl) (by kernel_rfl) (by kernel_rfl)) ?_
  intro W base args ds gs before hval0 hW hcnd _
  have hval : ∀ (j : Nat) t v, Try.f6.params[j]? = some t → args[j]? = some v → Value.okWide Try.prog W .any base t v := hval0
  have hW' := hW
  obtain ⟨p, q, hA0, hV, rfl, hfz, hnd⟩ := hW
  have hA : DataW.TrodAll enc Try.prog W 0 (fun _ => true) true Try.f6.params.toList args.toList ds p := hA0
  rw [Try.params6] at hA hval
  obtain ⟨v0, vs0, d0, ds0, p0, q0, hargs, rfl, rfl, h0, t0⟩ := trodAll_cons hA
  obtain ⟨rfl, rfl, rfl⟩ := trodAll_nil t0
  obtain rfl : args = #[v0] := by cases args; simp_all
  obtain ⟨rfl, rfl⟩ := trodVars_none hV
  obtain ⟨a0, len0, cap0, rfl⟩ := okWide_slice Try.underlying22 (hval 0 22 v0 rfl rfl)
  have k0 := h0
  have lt0 : ∀ x ∈ p0, x.block < W.heap.size := by obtain ⟨m, hm⟩ := k0; exact DataW.trod_lt m _ _ _ hm
  obtain ⟨z0, r0⟩ : ∃ zs, IsRow .u8 W a0 len0 cap0 zs := by
    obtain ⟨fuel, hf⟩ := h0
    rcases open_ints Try.underlying22 Try.underlying5 (by kernel_rfl) hf with ⟨hcs, _⟩ | ⟨x, l, c, zs, hcs, _, hl, hm, hz, _, hcell, hwz⟩
    · simp [Value.cells] at hcs
      obtain ⟨rfl, rfl, rfl⟩ := hcs
      exact ⟨[], .inl ⟨rfl, rfl, rfl, rfl⟩⟩
    · simp [Value.cells] at hcs
      obtain ⟨rfl, rfl, rfl⟩ := hcs
      exact ⟨zs, .inr ⟨_, rfl, hl, hm, by simpa using hz, hcell, hwz⟩⟩
  clear hA0 hval0
  refine (walk W a0 len0 cap0 z0 r0).mono fun e W' ⟨he, bel⟩ => ?_
  subst he
  exact ⟨_, rfl, _, _, _, [], _, [], hW', trodAll_mk1 (shut_bool Try.underlying4 _), (trodAll_cons_mk (Below.trod laidOut (by kernel_rfl) (of_decide_eq_true (by kernel_rfl)) k0 bel lt0) trodAll_mk0), rfl, bel.frame _, fun h => by cases h⟩
theorem over : Rows.sumsGetRow.holds Try.pinned (OpenSpec.ofChange Rows.sumsGetSpec) :=
  OpenClaim.holds_of_wide 6 Try.f6 rfl rfl rfl rfl rfl rfl rfl ⟨rfl, rfl, rfl, rfl, rfl⟩ rfl rfl rfl rfl rfl (by kernel_rfl) Try.func6 (by kernel_rfl)
    (of_decide_eq_true (by kernel_rfl)) (by unfold Func.isWrapper; first | (rw [if_pos (by decide +kernel)]; kernel_rfl) | (rw [if_neg (by decide +kernel)]; exact ⟨rfl, rfl⟩))
    (fun os started H enc _ => lifted os started H enc)
theorem proved : Rows.SumsGetSaid := over
end Go.Proofs.Ytgpggodabalakaa.sumsGet

/- The law SumsPut holds for every number and every number of bytes: sums.Put tells the bytes that the definition tells, or ErrArg. No condition. -/
import Derived.Test.YtgpggodabalakaaFrame
namespace Go.Proofs.Ytgpggodabalakaa.sumsPut
open Go.ChangeShapes Go.WideShapes Go.ChangeAt Go.RowKit
theorem wide_of {b g : Int} (h : greatestN b = some g) : Wide b := by
  unfold greatestN at h
  unfold Wide
  split at h
  · exact .inl ‹_›
  · split at h
    · exact .inr (.inl ‹_›)
    · split at h
      · exact .inr (.inr ‹_›)
      · cases h
theorem not_wide_of {b : Int} (h : greatestN b = none) : ¬ Wide b := by
  unfold greatestN at h
  unfold Wide
  split at h
  · cases h
  · split at h
    · cases h
    · split at h
      · cases h
      · rintro (e | e | e) <;> contradiction
theorem div_zero_iff {k N : Nat} {g : Int} (h : greatestN k = some g) (hN : (N : Int) ≤ 9223372036854775807) : (N / 256 ^ k == 0) = decide ((N : Int) ≤ g) := by
  rw [Bool.eq_iff_iff]
  simp only [beq_iff_eq, decide_eq_true_eq]
  unfold greatestN at h
  split at h
  · injection h with h
    have : k = 2 := by omega
    subst this
    simp only [Nat.reducePow]
    omega
  · split at h
    · injection h with h
      have : k = 4 := by omega
      subst this
      simp only [Nat.reducePow]
      omega
    · split at h
      · injection h with h
        have : k = 8 := by omega
        subst this
        simp only [Nat.reducePow]
        omega
      · cases h
set_option maxHeartbeats 800000 in
theorem walk_yes (N k : Nat) (g : Int) (w : World) (hg : greatestN k = some g) (h1 : (N : Int) ≤ g) (hN : (N : Int) ≤ 9223372036854775807) :
    Calls Try.prog 5 #[.int .i64 (N : Int), .int .i64 (k : Int)] w fun e w' => e = .returned (.bool true) ∧ Below w.heap.size w w' := by
  have HP := Lib.hid (put_yes N k g w hg h1)
  have hd := div_zero_iff hg hN
  rw [decide_eq_true h1] at hd
  have HW := Lib.hid (wide_of hg)
  have HG := Lib.hid hg
  clear hg
  go_enter Try.func5, Try.ntmps5
  go_wp2_with fail
  refine HP.out.mono ?_
  rintro e w1 ⟨v1, rfl, hown1, hb1⟩
  go_wp2_with fail
  refine (rput_yes N k w1 HW.out hN).mono ?_
  rintro e w2 ⟨v2, rfl, hown2, hb2⟩
  obtain ⟨A1, c1, rfl, _⟩ := own_slice hown1
  obtain ⟨A2, c2, rfl, _⟩ := own_slice hown2
  have hs1 := run_str (P := Try.prog) w2 Try.underlying22 Try.underlying5 Try.underlying9 (c := c1) (bytesLE_length k N) ((Rd.of_own hown1).below hb2)
  have hs2 := run_str (P := Try.prog) w2 Try.underlying22 Try.underlying5 Try.underlying9 (c := c2) (bytesLE_length k N) (Rd.of_own hown2)
  have HB := Lib.hid (hb1.trans (hb2.mono hb1.size))
  clear hown1 hown2 hb1 hb2
  go_wp2_with (first | (go_at_call 17; refine (num_any _ _).mono ?_; rintro e w' ⟨rfl, rfl⟩) | (go_at_call 11; refine (works_any _).mono ?_; rintro e w3 ⟨rfl, hb3⟩))
  go_ret
  exact ⟨rfl, HB.out.trans (hb3.mono HB.out.size)⟩
set_option maxHeartbeats 800000 in
theorem walk_no (n b : Int) (w : World) (h : greatestN b = none ∨ n < 0) :
    Calls Try.prog 5 #[.int .i64 n, .int .i64 b] w fun e w' => e = .returned (.bool true) ∧ Below w.heap.size w w' := by
  have HP := Lib.hid (put_no n b w (by rcases h with h | h; exact .inl h; exact .inr (.inl h)))
  have HW := Lib.hid (show ¬ Wide b ∨ n < 0 by rcases h with h | h; exact .inl (not_wide_of h); exact .inr h)
  clear h
  go_enter Try.func5, Try.ntmps5
  go_wp2_with fail
  refine HP.out.mono ?_
  rintro e w1 ⟨rfl, hb1⟩
  go_wp2_with fail
  refine (rput_no n b w1 HW.out).mono ?_
  rintro e w2 ⟨rfl, rfl⟩
  have HB := Lib.hid hb1
  clear hb1
  go_wp2_with (first | (go_at_call 17; refine (num_any _ _).mono ?_; rintro e w' ⟨rfl, rfl⟩) | (go_at_call 11; refine (works_any _).mono ?_; rintro e w3 ⟨rfl, hb3⟩))
  go_ret
  exact ⟨rfl, HB.out.trans (hb3.mono HB.out.size)⟩
set_option maxHeartbeats 800000 in
theorem walk_big (N k : Nat) (g : Int) (w : World) (hg : greatestN k = some g) (h1 : g < (N : Int)) (hN : (N : Int) ≤ 9223372036854775807) :
    Calls Try.prog 5 #[.int .i64 (N : Int), .int .i64 (k : Int)] w fun e w' => e = .returned (.bool true) ∧ Below w.heap.size w w' := by
  have HP := Lib.hid (put_no N k w (.inr (.inr ⟨g, hg, h1⟩)))
  have hd := div_zero_iff hg hN
  rw [decide_eq_false (by omega)] at hd
  have HW := Lib.hid (wide_of hg)
  clear hg
  go_enter Try.func5, Try.ntmps5
  go_wp2_with fail
  refine HP.out.mono ?_
  rintro e w1 ⟨rfl, hb1⟩
  go_wp2_with fail
  refine (rput_yes N k w1 HW.out hN).mono ?_
  rintro e w2 ⟨v2, rfl, hown2, hb2⟩
  have HB := Lib.hid (hb1.trans (hb2.mono hb1.size))
  clear hown2 hb1 hb2
  go_wp2_with (first | (go_at_call 17; refine (num_any _ _).mono ?_; rintro e w' ⟨rfl, rfl⟩) | (go_at_call 11; refine (works_any _).mono ?_; rintro e w3 ⟨rfl, hb3⟩))
  go_ret
  exact ⟨rfl, HB.out.trans (hb3.mono HB.out.size)⟩
theorem walk (w : World) (a0 : Int) (f0 : (Lit.int .i64 a0).wf = true) (a1 : Int) (f1 : (Lit.int .i64 a1).wf = true) :
    Calls Try.prog 5 #[.int .i64 a0, .int .i64 a1] w fun e w' => e = .returned (.bool true) ∧ Below w.heap.size w w' := by
  have hb := wf_i64 f0
  cases hg : greatestN a1 with
  | none => exact walk_no a0 a1 w (.inl hg)
  | some g =>
    by_cases h0 : a0 < 0
    · exact walk_no a0 a1 w (.inr h0)
    · obtain ⟨N, rfl⟩ := Int.eq_ofNat_of_zero_le (show 0 ≤ a0 by omega)
      obtain ⟨k, rfl, _⟩ := greatestN_some hg
      by_cases h1 : (N : Int) ≤ g
      · exact walk_yes N k g w hg h1 hb.2
      · exact walk_big N k g w hg (by omega) hb.2
set_option maxRecDepth 100000 in
theorem lifted (os : Os) (started : os.Started) (H : Type) (enc : TypeId × Value → H) :
    ReturnsInHanded {} Try.checked os 5 .any (Rows.sumsPutSpec.pre6 enc Try.prog Try.f5 Rows.sumsPutRow.domain false) (Rows.sumsPutSpec.post enc Try.prog Try.f5 false true false false) := by
  refine returnsInHanded_of_change (C := Try.checked) own started (by kernel_rfl) Try.func5
    (ChangeSpec.witness6 (enc := enc) (C := Try.checked) false ⟨#[], #[.int .i64 0, .int .i64 0], []⟩ 8 (by kernel_rfl) (by kernel_rfl) (by kernel_rfl) (by kernel_rfl)) ?_
  intro W base args ds gs before hval0 hW hcnd _
  have hval : ∀ (j : Nat) t v, Try.f5.params[j]? = some t → args[j]? = some v → Value.okWide Try.prog W .any base t v := hval0
  have hW' := hW
  obtain ⟨p, q, hA0, hV, rfl, hfz, hnd⟩ := hW
  have hA : DataW.TrodAll enc Try.prog W 0 (fun _ => true) true Try.f5.params.toList args.toList ds p := hA0
  rw [Try.params5] at hA hval
  obtain ⟨v0, vs0, d0, ds0, p0, q0, hargs, rfl, rfl, h0, t0⟩ := trodAll_cons hA
  obtain ⟨v1, vs1, d1, ds1, p1, q1, rfl, rfl, rfl, h1, t1⟩ := trodAll_cons t0
  obtain ⟨rfl, rfl, rfl⟩ := trodAll_nil t1
  obtain rfl : args = #[v0, v1] := by cases args; simp_all
  obtain ⟨rfl, rfl⟩ := trodVars_none hV
  obtain ⟨a0, rfl, rfl, rfl, f0⟩ := open_int Try.underlying2 (hval 0 2 v0 rfl rfl) h0
  obtain ⟨a1, rfl, rfl, rfl, f1⟩ := open_int Try.underlying3 (hval 1 3 v1 rfl rfl) h1
  clear hA0 hval0
  refine (walk W a0 f0 a1 f1).mono fun e W' ⟨he, bel⟩ => ?_
  subst he
  exact ⟨_, rfl, _, _, _, [], _, [], hW', trodAll_mk1 (shut_bool Try.underlying4 _), (trodAll_cons_mk (shut_int Try.underlying2 f0) (trodAll_cons_mk (shut_int Try.underlying3 f1) trodAll_mk0)), rfl, bel.frame _, fun h => by cases h⟩
theorem over : Rows.sumsPutRow.holds Try.pinned (OpenSpec.ofChange Rows.sumsPutSpec) :=
  OpenClaim.holds_of_wide 5 Try.f5 rfl rfl rfl rfl rfl rfl rfl ⟨rfl, rfl, rfl, rfl, rfl⟩ rfl rfl rfl rfl rfl (by kernel_rfl) Try.func5 (by kernel_rfl)
    (of_decide_eq_true (by kernel_rfl)) (by unfold Func.isWrapper; first | (rw [if_pos (by decide +kernel)]; kernel_rfl) | (rw [if_neg (by decide +kernel)]; exact ⟨rfl, rfl⟩))
    (fun os started H enc _ => lifted os started H enc)
theorem proved : Rows.SumsPutSaid := over
end Go.Proofs.Ytgpggodabalakaa.sumsPut

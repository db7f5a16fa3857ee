/- The law SumsCrc holds for every slice of bytes: sums.Crc tells the sum that the definition tells bit by bit, and the bytes stay. No condition. -/
import Derived.Test.YtgpggodabalakaaLawT
import Derived.Deep.DeepMust
namespace Go.Proofs.Ytgpggodabalakaa.sumsCrc
open Go.ChangeShapes Go.WideShapes Go.ChangeAt Go.RowKit
set_option maxHeartbeats 800000 in
theorem walk_long (A : Option Addr) (n c : Nat) (w : World) (h : 3000 < n) :
    Calls Try.prog 3 #[.slice A n c] w fun e w' => e = .returned (.bool true) ∧ Below w.heap.size w w' := by
  go_enter Try.func3, Try.ntmps3
  go_wp2_with (go_at_call 11; refine (works_any _).mono ?_; rintro e w9 ⟨rfl, hb9⟩)
  go_ret
  exact ⟨rfl, hb9⟩
set_option maxHeartbeats 800000 in
theorem walk_short (A : Option Addr) (n c : Nat) (l : List UInt8) (w : World) (hs : n ≤ 3000) (hn : l.length = n) (hr : Rd w A l) :
    Calls Try.prog 3 #[.slice A n c] w fun e w' => e = .returned (.bool true) ∧ Below w.heap.size w w' := by
  have HR := Lib.hid hr
  have HN := Lib.hid hn
  have HR0 := Lib.hid (hr.below (below_lit0 w))
  clear hr hn
  go_enter Try.func3, Try.ntmps3
  go_wp2_with (first
    | (at_builtin; refine wpList_append_bytes _ rfl (.tmp 9) (.tmp 10) _ rfl Try.underlying22 infoU8 rfl (lit0 w) rfl HR0.out HN.out (by omega) (by simp) ?_; intro v1 w1 hown1 hg1 hat1; simp only [Nat.zero_add, List.nil_append] at hown1; have HO1 := Lib.hid hown1; have HB1 := Lib.hid (below_append (below_lit0 w) (lit0 w) hg1 (Nat.le_refl _) (by simp)); have hz1 := HB1.out.size; clear hown1 hg1 hat1)
    | (at_builtin; refine wpList_append_bytes _ rfl (.tmp 11) (.tmp 12) _ rfl Try.underlying22 infoU8 rfl (HO1.out.alloc _) rfl (rd77 _ _) rfl (by omega) (by simp; omega) ?_; intro v2 w2 hown2 hg2 hat2; have HB2 := Lib.hid (below_append (HB1.out.alloc hz1 _) (HO1.out.alloc _) hg2 (Nat.le_refl _) (by simp; omega)); obtain ⟨g, cap, rfl, hcap⟩ := own_some hown2 (by omega); have HR2 := Lib.hid (Rd.of_own hown2); have hi1 := cast_nonneg n; have hi2 := cast_le_of (Nat.le_of_succ_le hcap); have hi3 := cast_le_of hcap; clear hown2 hg2 hat2)
    | (go_at_call 12; refine (crc_any _ n _ l _ HN.out (by have := HR2.out.take n; rw [List.take_left' HN.out] at this; exact this) (by omega)).mono ?_; rintro e w3 ⟨rfl, hb3⟩; have HR3 := Lib.hid (HR2.out.below hb3); have HB3 := Lib.hid (HB2.out.trans (hb3.mono HB2.out.size)); clear hb3))
  refine (rcrc_any A n c l w3 HN.out (HR.out.below HB3.out) (by omega)).mono ?_
  rintro e w4 ⟨rfl, rfl⟩
  have hs1 := run_str (P := Try.prog) w3 Try.underlying22 Try.underlying5 Try.underlying9 (c := cap) HN.out (show Rd w3 (some ⟨g, 0, none⟩) l by have := HR3.out.take n; rw [List.take_left' HN.out] at this; exact this)
  have hs2 := run_str (P := Try.prog) w3 Try.underlying22 Try.underlying5 Try.underlying9 (c := c) HN.out (HR.out.below HB3.out)
  have hcell : w3.cell? ⟨g, n, none⟩ = some (.int .u8 77) := HR3.out.at0 n 77 (by rw [List.getElem?_append_right (by have := HN.out; omega), HN.out, Nat.sub_self]; rfl)
  go_wp2_with (go_at_call 11; refine (works_any _).mono ?_; rintro e w9 ⟨rfl, hb9⟩)
  go_ret
  exact ⟨rfl, HB3.out.trans (hb9.mono HB3.out.size)⟩
theorem walk (w : World) (A : Option Addr) (n c : Nat) (zs : List Int) (r0 : IsRow .u8 w A n c zs) :
    Calls Try.prog 3 #[.slice A n c] w fun e w' => e = .returned (.bool true) ∧ Below w.heap.size w w' := by
  obtain ⟨l, hn, hc, hr⟩ := row_bytes r0
  by_cases hs : 3000 < n
  · exact walk_long A n c w hs
  · exact walk_short A n c l w (by omega) hn hr
set_option maxRecDepth 100000 in
theorem lifted (os : Os) (started : os.Started) (H : Type) (enc : TypeId × Value → H) :
    ReturnsInHanded {} Try.checked os 3 .any (Rows.sumsCrcSpec.pre6 enc Try.prog Try.f3 Rows.sumsCrcRow.domain false) (Rows.sumsCrcSpec.post enc Try.prog Try.f3 false true false false) := by
  refine returnsInHanded_of_change (C := Try.checked) own started (by kernel_rfl) Try.func3
    (ChangeSpec.witness6 (enc := enc) (C := Try.checked) false ⟨#[], #[.slice none 0 0], []⟩ 8 (by kernel_rfl) (by kernel_rfl) (by kernel_rfl) (by kernel_rfl)) ?_
  intro W base args ds gs before hval0 hW hcnd _
  have hval : ∀ (j : Nat) t v, Try.f3.params[j]? = some t → args[j]? = some v → Value.okWide Try.prog W .any base t v := hval0
  have hW' := hW
  obtain ⟨p, q, hA0, hV, rfl, hfz, hnd⟩ := hW
  have hA : DataW.TrodAll enc Try.prog W 0 (fun _ => true) true Try.f3.params.toList args.toList ds p := hA0
  rw [Try.params3] at hA hval
  obtain ⟨v0, vs0, d0, ds0, p0, q0, hargs, rfl, rfl, h0, t0⟩ := trodAll_cons hA
  obtain ⟨rfl, rfl, rfl⟩ := trodAll_nil t0
  obtain rfl : args = #[v0] := by cases args; simp_all
  obtain ⟨rfl, rfl⟩ := trodVars_none hV
  obtain ⟨a0, len0, cap0, rfl⟩ := okWide_slice Try.underlying22 (hval 0 22 v0 rfl rfl)
  have k0 := h0
  have lt0 : ∀ x ∈ p0, x.block < W.heap.size := by obtain ⟨m, hm⟩ := k0; exact DataW.trod_lt m _ _ _ hm
  obtain ⟨z0, r0⟩ : ∃ zs, IsRow .u8 W a0 len0 cap0 zs := by
    obtain ⟨fuel, hf⟩ := h0
    rcases open_ints Try.underlying22 Try.underlying5 (by kernel_rfl) hf with ⟨hcs, _⟩ | ⟨x, l, c, zs, hcs, _, hl, hm, hz, _, hcell, hwz⟩
    · simp [Value.cells] at hcs
      obtain ⟨rfl, rfl, rfl⟩ := hcs
      exact ⟨[], .inl ⟨rfl, rfl, rfl, rfl⟩⟩
    · simp [Value.cells] at hcs
      obtain ⟨rfl, rfl, rfl⟩ := hcs
      exact ⟨zs, .inr ⟨_, rfl, hl, hm, by simpa using hz, hcell, hwz⟩⟩
  clear hA0 hval0
  refine (walk W a0 len0 cap0 z0 r0).mono fun e W' ⟨he, bel⟩ => ?_
  subst he
  exact ⟨_, rfl, _, _, _, [], _, [], hW', trodAll_mk1 (shut_bool Try.underlying4 _), (trodAll_cons_mk (Below.trod laidOut (by kernel_rfl) (of_decide_eq_true (by kernel_rfl)) k0 bel lt0) trodAll_mk0), rfl, bel.frame _, fun h => by cases h⟩
theorem over : Rows.sumsCrcRow.holds Try.pinned (OpenSpec.ofChange Rows.sumsCrcSpec) :=
  OpenClaim.holds_of_wide 3 Try.f3 rfl rfl rfl rfl rfl rfl rfl ⟨rfl, rfl, rfl, rfl, rfl⟩ rfl rfl rfl rfl rfl (by kernel_rfl) Try.func3 (by kernel_rfl)
    (of_decide_eq_true (by kernel_rfl)) (by unfold Func.isWrapper; first | (rw [if_pos (by decide +kernel)]; kernel_rfl) | (rw [if_neg (by decide +kernel)]; exact ⟨rfl, rfl⟩))
    (fun os started H enc _ => lifted os started H enc)
theorem proved : Rows.SumsCrcSaid := over
end Go.Proofs.Ytgpggodabalakaa.sumsCrc

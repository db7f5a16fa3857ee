/- The law SumsUpdate holds for every two slices of bytes: sums.Update goes on with the sum of the first to that of both. No condition. -/
import Derived.Test.YtgpggodabalakaaLawT
namespace Go.Proofs.Ytgpggodabalakaa.sumsUpdate
open Go.ChangeShapes Go.WideShapes Go.ChangeAt Go.RowKit
theorem upd_crc (a b : List UInt8) : 4294967295 - rawN (4294967295 - crcN a) b = crcN (a ++ b) := by
  have := rawN_lt (s := 4294967295) a (by omega)
  unfold crcN
  rw [rawN_append, show 4294967295 - (4294967295 - rawN 4294967295 a) = rawN 4294967295 a by omega]
set_option maxHeartbeats 800000 in
theorem walk_long1 (A B : Option Addr) (n c m d : Nat) (w : World) (h : 3000 < n) :
    Calls Try.prog 4 #[.slice A n c, .slice B m d] w fun e w' => e = .returned (.bool true) ∧ Below w.heap.size w w' := by
  go_enter Try.func4, Try.ntmps4
  go_wp2_with (go_at_call 11; refine (works_any _).mono ?_; rintro e w9 ⟨rfl, hb9⟩)
  go_ret
  exact ⟨rfl, hb9⟩
set_option maxHeartbeats 800000 in
theorem walk_long2 (A B : Option Addr) (n c m d : Nat) (w : World) (h : n ≤ 3000) (h2 : 3000 < m) :
    Calls Try.prog 4 #[.slice A n c, .slice B m d] w fun e w' => e = .returned (.bool true) ∧ Below w.heap.size w w' := by
  go_enter Try.func4, Try.ntmps4
  go_wp2_with (go_at_call 11; refine (works_any _).mono ?_; rintro e w9 ⟨rfl, hb9⟩)
  go_ret
  exact ⟨rfl, hb9⟩
set_option maxHeartbeats 1600000 in
theorem walk_short (A B : Option Addr) (n c m d : Nat) (a b : List UInt8) (w : World) (hs : n ≤ 3000) (hs2 : m ≤ 3000) (hn : a.length = n) (hm : b.length = m) (hr : Rd w A a) (hr2 : Rd w B b) :
    Calls Try.prog 4 #[.slice A n c, .slice B m d] w fun e w' => e = .returned (.bool true) ∧ Below w.heap.size w w' := by
  have RA := Lib.hid hr
  have NA := Lib.hid hn
  have RB := Lib.hid hr2
  have NB := Lib.hid hm
  have RA0 := Lib.hid (hr.below (below_lit0 w))
  have NAB := Lib.hid (show (a ++ b).length = n + m by rw [List.length_append]; omega)
  have UC := Lib.hid (upd_crc a b)
  clear hr hn hr2 hm
  go_enter Try.func4, Try.ntmps4
  go_wp2_with (first
    | (at_builtin; refine wpList_append_bytes _ rfl (.tmp 15) (.tmp 16) _ rfl Try.underlying22 infoU8 rfl (lit0 w) rfl RA0.out NA.out (by omega) (by simp) ?_; intro v1 w1 hown1 hg1 hat1; simp only [Nat.zero_add, List.nil_append] at hown1; have HO1 := Lib.hid hown1; have HB1 := Lib.hid (below_append (below_lit0 w) (lit0 w) hg1 (Nat.le_refl _) (by simp)); have hz1 := HB1.out.size; clear hown1 hg1 hat1)
    | (at_builtin; refine wpList_append_bytes _ rfl (.tmp 17) (.tmp 18) _ rfl Try.underlying22 infoU8 rfl HO1.out rfl (RB.out.below HB1.out) NB.out (by omega) hz1 ?_; intro v2 w2 hown2 hg2 hat2; have HB2 := Lib.hid (below_append HB1.out HO1.out hg2 (Nat.le_refl _) hz1); obtain ⟨C, cap, rfl, _⟩ := own_slice hown2; have RC := Lib.hid (Rd.of_own hown2); clear hown2 hg2 hat2)
    | fail)
  refine (rcrc_any A n c a w2 NA.out (RA.out.below HB2.out) (by omega)).mono ?_
  rintro e w3 ⟨rfl, rfl⟩
  go_wp2_with fail
  refine (update_any (crcN a) B m d b w2 (crcN_lt a) NB.out (RB.out.below HB2.out) (by omega)).mono ?_
  rintro e w4 ⟨rfl, hb4⟩
  have HB4 := Lib.hid (HB2.out.trans (hb4.mono HB2.out.size))
  have RC4 := Lib.hid (RC.out.below hb4)
  clear hb4
  rw [UC.out]
  go_wp2_with fail
  refine (rcrc_any C (n + m) cap (a ++ b) w4 NAB.out RC4.out (by omega)).mono ?_
  rintro e w5 ⟨rfl, rfl⟩
  go_wp2_with fail
  refine (crc_any A n c a w4 NA.out (RA.out.below HB4.out) (by omega)).mono ?_
  rintro e w6 ⟨rfl, hb6⟩
  have HB6 := Lib.hid (HB4.out.trans (hb6.mono HB4.out.size))
  have RC6 := Lib.hid (RC4.out.below hb6)
  clear hb6
  go_wp2_with fail
  refine (update_any (crcN a) B m d b w6 (crcN_lt a) NB.out (RB.out.below HB6.out) (by omega)).mono ?_
  rintro e w7 ⟨rfl, hb7⟩
  have HB7 := Lib.hid (HB6.out.trans (hb7.mono HB6.out.size))
  have RC7 := Lib.hid (RC6.out.below hb7)
  clear hb7
  rw [UC.out]
  go_wp2_with fail
  refine (crc_any C (n + m) cap (a ++ b) w7 NAB.out RC7.out (by omega)).mono ?_
  rintro e w8 ⟨rfl, hb8⟩
  have HB8 := Lib.hid (HB7.out.trans (hb8.mono HB7.out.size))
  clear hb8
  go_wp2_with (go_at_call 11; refine (works_any _).mono ?_; rintro e w9 ⟨rfl, hb9⟩)
  go_ret
  exact ⟨rfl, HB8.out.trans (hb9.mono HB8.out.size)⟩
theorem walk (w : World) (A : Option Addr) (n c : Nat) (zs : List Int) (r0 : IsRow .u8 w A n c zs) (B : Option Addr) (m d : Nat) (ys : List Int) (r1 : IsRow .u8 w B m d ys) :
    Calls Try.prog 4 #[.slice A n c, .slice B m d] w fun e w' => e = .returned (.bool true) ∧ Below w.heap.size w w' := by
  obtain ⟨a, hn, _, hr⟩ := row_bytes r0
  obtain ⟨b, hm, _, hr2⟩ := row_bytes r1
  by_cases hs : 3000 < n
  · exact walk_long1 A B n c m d w hs
  · by_cases hs2 : 3000 < m
    · exact walk_long2 A B n c m d w (by omega) hs2
    · exact walk_short A B n c m d a b w (by omega) (by omega) hn hm hr hr2
set_option maxRecDepth 100000 in
theorem lifted (os : Os) (started : os.Started) (H : Type) (enc : TypeId × Value → H) :
    ReturnsInHanded {} Try.checked os 4 .any (Rows.sumsUpdateSpec.pre6 enc Try.prog Try.f4 Rows.sumsUpdateRow.domain false) (Rows.sumsUpdateSpec.post enc Try.prog Try.f4 false true false false) := by
  refine returnsInHanded_of_change (C := Try.checked) own started (by kernel_rfl) Try.func4
    (ChangeSpec.witness6 (enc := enc) (C := Try.checked) false ⟨#[], #[.slice none 0 0, .slice none 0 0], []⟩ 8 (by kernel_rfl) (by kernel_rfl) (by kernel_rfl) (by kernel_rfl)) ?_
  intro W base args ds gs before hval0 hW hcnd _
  have hval : ∀ (j : Nat) t v, Try.f4.params[j]? = some t → args[j]? = some v → Value.okWide Try.prog W .any base t v := hval0
  have hW' := hW
  obtain ⟨p, q, hA0, hV, rfl, hfz, hnd⟩ := hW
  have hA : DataW.TrodAll enc Try.prog W 0 (fun _ => true) true Try.f4.params.toList args.toList ds p := hA0
  rw [Try.params4] at hA hval
  obtain ⟨v0, vs0, d0, ds0, p0, q0, hargs, rfl, rfl, h0, t0⟩ := trodAll_cons hA
  obtain ⟨v1, vs1, d1, ds1, p1, q1, rfl, rfl, rfl, h1, t1⟩ := trodAll_cons t0
  obtain ⟨rfl, rfl, rfl⟩ := trodAll_nil t1
  obtain rfl : args = #[v0, v1] := by cases args; simp_all
  obtain ⟨rfl, rfl⟩ := trodVars_none hV
  obtain ⟨a0, len0, cap0, rfl⟩ := okWide_slice Try.underlying22 (hval 0 22 v0 rfl rfl)
  have k0 := h0
  have lt0 : ∀ x ∈ p0, x.block < W.heap.size := by obtain ⟨m, hm⟩ := k0; exact DataW.trod_lt m _ _ _ hm
  obtain ⟨z0, r0⟩ : ∃ zs, IsRow .u8 W a0 len0 cap0 zs := by
    obtain ⟨fuel, hf⟩ := h0
    rcases open_ints Try.underlying22 Try.underlying5 (by kernel_rfl) hf with ⟨hcs, _⟩ | ⟨x, l, c, zs, hcs, _, hl, hm, hz, _, hcell, hwz⟩
    · simp [Value.cells] at hcs
      obtain ⟨rfl, rfl, rfl⟩ := hcs
      exact ⟨[], .inl ⟨rfl, rfl, rfl, rfl⟩⟩
    · simp [Value.cells] at hcs
      obtain ⟨rfl, rfl, rfl⟩ := hcs
      exact ⟨zs, .inr ⟨_, rfl, hl, hm, by simpa using hz, hcell, hwz⟩⟩
  obtain ⟨a1, len1, cap1, rfl⟩ := okWide_slice Try.underlying22 (hval 1 22 v1 rfl rfl)
  have k1 := h1
  have lt1 : ∀ x ∈ p1, x.block < W.heap.size := by obtain ⟨m, hm⟩ := k1; exact DataW.trod_lt m _ _ _ hm
  obtain ⟨z1, r1⟩ : ∃ zs, IsRow .u8 W a1 len1 cap1 zs := by
    obtain ⟨fuel, hf⟩ := h1
    rcases open_ints Try.underlying22 Try.underlying5 (by kernel_rfl) hf with ⟨hcs, _⟩ | ⟨x, l, c, zs, hcs, _, hl, hm, hz, _, hcell, hwz⟩
    · simp [Value.cells] at hcs
      obtain ⟨rfl, rfl, rfl⟩ := hcs
      exact ⟨[], .inl ⟨rfl, rfl, rfl, rfl⟩⟩
    · simp [Value.cells] at hcs
      obtain ⟨rfl, rfl, rfl⟩ := hcs
      exact ⟨zs, .inr ⟨_, rfl, hl, hm, by simpa using hz, hcell, hwz⟩⟩
  clear hA0 hval0
  refine (walk W a0 len0 cap0 z0 r0 a1 len1 cap1 z1 r1).mono fun e W' ⟨he, bel⟩ => ?_
  subst he
  exact ⟨_, rfl, _, _, _, [], _, [], hW', trodAll_mk1 (shut_bool Try.underlying4 _), (trodAll_cons_mk (Below.trod laidOut (by kernel_rfl) (of_decide_eq_true (by kernel_rfl)) k0 bel lt0) (trodAll_cons_mk (Below.trod laidOut (by kernel_rfl) (of_decide_eq_true (by kernel_rfl)) k1 bel lt1) trodAll_mk0)), rfl, bel.frame _, fun h => by cases h⟩
theorem over : Rows.sumsUpdateRow.holds Try.pinned (OpenSpec.ofChange Rows.sumsUpdateSpec) :=
  OpenClaim.holds_of_wide 4 Try.f4 rfl rfl rfl rfl rfl rfl rfl ⟨rfl, rfl, rfl, rfl, rfl⟩ rfl rfl rfl rfl rfl (by kernel_rfl) Try.func4 (by kernel_rfl)
    (of_decide_eq_true (by kernel_rfl)) (by unfold Func.isWrapper; first | (rw [if_pos (by decide +kernel)]; kernel_rfl) | (rw [if_neg (by decide +kernel)]; exact ⟨rfl, rfl⟩))
    (fun os started H enc _ => lifted os started H enc)
theorem proved : Rows.SumsUpdateSaid := over
end Go.Proofs.Ytgpggodabalakaa.sumsUpdate

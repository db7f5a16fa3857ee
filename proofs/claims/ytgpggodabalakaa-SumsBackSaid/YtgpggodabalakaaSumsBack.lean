/- The law SumsBack holds for every number, every number of bytes, every slice of bytes: what Put tells is got, and what Get tells is put. No condition. -/
import Derived.Test.YtgpggodabalakaaLawT
namespace Go.Proofs.Ytgpggodabalakaa.sumsBack
open Go.ChangeShapes Go.WideShapes Go.ChangeAt Go.RowKit
/-- Put of a number of so many bytes, either way -/
theorem put_either (n b : Int) (w : World) (hb : -9223372036854775808 ≤ n ∧ n ≤ 9223372036854775807) :
    Calls Try.prog 15 #[.int .i64 n, .int .i64 b] w fun e w' => Below w.heap.size w w' ∧
      (e = .returned (.tuple #[.slice none 0 0, .int .i64 2]) ∨
       ∃ (N k : Nat) (g : Int) (A : Option Addr) (c : Nat), n = (N : Int) ∧ b = (k : Int) ∧ greatestN k = some g ∧ (N : Int) ≤ g ∧ e = .returned (.tuple #[.slice A k c, .int .i64 0]) ∧ Rd w' A (bytesLE k N)) := by
  by_cases h : greatestN b = none ∨ n < 0 ∨ (∃ g, greatestN b = some g ∧ g < n)
  · exact (put_no n b w h).mono fun e w' ⟨he, hb⟩ => ⟨hb, .inl he⟩
  · cases hg : greatestN b with
    | none => exact absurd (.inl hg) h
    | some g =>
      have h0 : 0 ≤ n := Int.not_lt.1 fun h1 => h (.inr (.inl h1))
      have h1 : n ≤ g := Int.not_lt.1 fun h1 => h (.inr (.inr ⟨g, hg, h1⟩))
      obtain ⟨N, rfl⟩ := Int.eq_ofNat_of_zero_le h0
      obtain ⟨k, rfl, _⟩ := greatestN_some hg
      refine (put_yes N k g w hg h1).mono ?_
      rintro e w' ⟨v, rfl, hown, hb⟩
      obtain ⟨A, c, rfl, _⟩ := own_slice hown
      exact ⟨hb, .inr ⟨N, k, g, A, c, rfl, rfl, hg, h1, rfl, Rd.of_own hown⟩⟩
/-- Get of bytes, either way -/
theorem get_either (A : Option Addr) (n c : Nat) (l : List UInt8) (w : World) (hn : l.length = n) (hr : Rd w A l) :
    Calls Try.prog 18 #[.slice A n c] w fun e w' => Below w.heap.size w w' ∧
      (e = .returned (.tuple #[.int .i64 0, .int .i64 2]) ∨ ∃ g, greatestN n = some g ∧ (numLE l : Int) ≤ g ∧ e = .returned (.tuple #[.int .i64 (numLE l : Int), .int .i64 0])) := by
  cases hg : greatestN n with
  | none => exact (get_none A n c w hg).mono fun e w' ⟨he, hb⟩ => ⟨hb, .inl he⟩
  | some g =>
    refine (get_some A n c l g w hn hr hg).mono ?_
    rintro e w' ⟨he, hb⟩
    by_cases hle : (numLE l : Int) ≤ g
    · rw [if_pos hle] at he
      exact ⟨hb, .inr ⟨g, rfl, hle, he⟩⟩
    · rw [if_neg hle] at he
      exact ⟨hb, .inl he⟩
theorem pow_of {k : Nat} {N : Nat} {g : Int} (hg : greatestN k = some g) (h : (N : Int) ≤ g) : N < 256 ^ k := by
  obtain ⟨k', hk, _, hlt, _⟩ := greatestN_some hg
  have : k = k' := by omega
  subst this
  have h2 : (N : Int) < 256 ^ k := by omega
  have h3 : ((256 ^ k : Nat) : Int) = (256 : Int) ^ k := by simp
  omega
set_option maxHeartbeats 1600000 in
theorem walk_all (n b : Int) (A : Option Addr) (m c : Nat) (l : List UInt8) (w : World) (hb : -9223372036854775808 ≤ n ∧ n ≤ 9223372036854775807) (hm : l.length = m) (hr : Rd w A l) :
    Calls Try.prog 9 #[.int .i64 n, .int .i64 b, .slice A m c] w fun e w' => e = .returned (.bool true) ∧ Below w.heap.size w w' := by
  have HR := Lib.hid hr
  have HM := Lib.hid hm
  have HP := Lib.hid (put_either n b w hb)
  have HG := Lib.hid (get_either A m c l)
  have SNN := bytesLE_numLE l
  rw [hm] at SNN
  have SN := Lib.hid SNN
  clear hb hm hr SNN
  go_enter Try.func9, Try.ntmps9
  go_wp2_with fail
  refine HP.out.mono ?_
  rintro e w1 ⟨hb1, rfl | ⟨N, k, g, X, d, rfl, rfl, hg, hle, rfl, hrx⟩⟩
  · have HB1 := Lib.hid hb1
    clear hb1
    go_wp2_with (go_at_call 17; refine (num_any _ _).mono ?_; rintro e w' ⟨rfl, rfl⟩)
    refine (HG.out w1 HM.out (HR.out.below HB1.out)).mono ?_
    rintro e w2 ⟨hb2, rfl | ⟨g, hg, hle, rfl⟩⟩
    · have HB2 := Lib.hid (HB1.out.trans (hb2.mono HB1.out.size))
      clear hb2
      go_wp2_with (first | (go_at_call 17; refine (num_any _ _).mono ?_; rintro e w' ⟨rfl, rfl⟩) | (go_at_call 11; refine (works_any _).mono ?_; rintro e w9 ⟨rfl, hb9⟩))
      go_ret
      exact ⟨rfl, HB2.out.trans (hb9.mono HB2.out.size)⟩
    · have HB2 := Lib.hid (HB1.out.trans (hb2.mono HB1.out.size))
      have HQ := Lib.hid (put_yes (numLE l) m g w2 hg hle)
      clear hb2 hg hle
      go_wp2_with (go_at_call 17; refine (num_any _ _).mono ?_; rintro e w' ⟨rfl, rfl⟩)
      refine HQ.out.mono ?_
      rintro e w3 ⟨v, rfl, hown, hb3⟩
      obtain ⟨Y, d, rfl, _⟩ := own_slice hown
      rw [SN.out] at hown
      have HB3 := Lib.hid (HB2.out.trans (hb3.mono HB2.out.size))
      have hs1 := run_str (P := Try.prog) w3 Try.underlying22 Try.underlying5 Try.underlying9 (c := d) HM.out (Rd.of_own hown)
      have hs2 := run_str (P := Try.prog) w3 Try.underlying22 Try.underlying5 Try.underlying9 (c := c) HM.out (HR.out.below HB3.out)
      clear hown hb3
      go_wp2_with (first | (go_at_call 17; refine (num_any _ _).mono ?_; rintro e w' ⟨rfl, rfl⟩) | (go_at_call 11; refine (works_any _).mono ?_; rintro e w9 ⟨rfl, hb9⟩))
      go_ret
      exact ⟨rfl, HB3.out.trans (hb9.mono HB3.out.size)⟩
  · have HB1 := Lib.hid hb1
    have HRX := Lib.hid hrx
    have hgx := get_some X k d (bytesLE k N) g w1 (bytesLE_length k N) hrx hg
    rw [numLE_bytesLE k N (pow_of hg hle), if_pos hle] at hgx
    have HGX := Lib.hid hgx
    clear hb1 hrx hgx hg hle
    go_wp2_with (go_at_call 17; refine (num_any _ _).mono ?_; rintro e w' ⟨rfl, rfl⟩)
    refine HGX.out.mono ?_
    rintro e w1b ⟨rfl, hb1b⟩
    have HB1b := Lib.hid (HB1.out.trans (hb1b.mono HB1.out.size))
    clear hb1b
    go_wp2_with (go_at_call 17; refine (num_any _ _).mono ?_; rintro e w' ⟨rfl, rfl⟩)
    refine (HG.out w1b HM.out (HR.out.below HB1b.out)).mono ?_
    rintro e w2 ⟨hb2, rfl | ⟨g, hg, hle, rfl⟩⟩
    · have HB2 := Lib.hid (HB1b.out.trans (hb2.mono HB1b.out.size))
      clear hb2
      go_wp2_with (first | (go_at_call 17; refine (num_any _ _).mono ?_; rintro e w' ⟨rfl, rfl⟩) | (go_at_call 11; refine (works_any _).mono ?_; rintro e w9 ⟨rfl, hb9⟩))
      go_ret
      exact ⟨rfl, HB2.out.trans (hb9.mono HB2.out.size)⟩
    · have HB2 := Lib.hid (HB1b.out.trans (hb2.mono HB1b.out.size))
      have HQ := Lib.hid (put_yes (numLE l) m g w2 hg hle)
      clear hb2 hg hle
      go_wp2_with (go_at_call 17; refine (num_any _ _).mono ?_; rintro e w' ⟨rfl, rfl⟩)
      refine HQ.out.mono ?_
      rintro e w3 ⟨v, rfl, hown, hb3⟩
      obtain ⟨Y, d', rfl, _⟩ := own_slice hown
      rw [SN.out] at hown
      have HB3 := Lib.hid (HB2.out.trans (hb3.mono HB2.out.size))
      have hs1 := run_str (P := Try.prog) w3 Try.underlying22 Try.underlying5 Try.underlying9 (c := d') HM.out (Rd.of_own hown)
      have hs2 := run_str (P := Try.prog) w3 Try.underlying22 Try.underlying5 Try.underlying9 (c := c) HM.out (HR.out.below HB3.out)
      clear hown hb3
      go_wp2_with (first | (go_at_call 17; refine (num_any _ _).mono ?_; rintro e w' ⟨rfl, rfl⟩) | (go_at_call 11; refine (works_any _).mono ?_; rintro e w9 ⟨rfl, hb9⟩))
      go_ret
      exact ⟨rfl, HB3.out.trans (hb9.mono HB3.out.size)⟩
theorem walk (w : World) (a0 : Int) (f0 : (Lit.int .i64 a0).wf = true) (a1 : Int) (_f1 : (Lit.int .i64 a1).wf = true) (A : Option Addr) (n c : Nat) (zs : List Int) (r0 : IsRow .u8 w A n c zs) :
    Calls Try.prog 9 #[.int .i64 a0, .int .i64 a1, .slice A n c] w fun e w' => e = .returned (.bool true) ∧ Below w.heap.size w w' := by
  obtain ⟨l, hn, _, hr⟩ := row_bytes r0
  exact walk_all a0 a1 A n c l w (wf_i64 f0) hn hr
set_option maxRecDepth 100000 in
theorem lifted (os : Os) (started : os.Started) (H : Type) (enc : TypeId × Value → H) :
    ReturnsInHanded {} Try.checked os 9 .any (Rows.sumsBackSpec.pre6 enc Try.prog Try.f9 Rows.sumsBackRow.domain false) (Rows.sumsBackSpec.post enc Try.prog Try.f9 false true false false) := by
  refine returnsInHanded_of_change (C := Try.checked) own started (by kernel_rfl) Try.func9
    (ChangeSpec.witness6 (enc := enc) (C := Try.checked) false ⟨#[], #[.int .i64 0, .int .i64 0, .slice none 0 0], []⟩ 8 (by kernel_rfl) (by kernel_rfl) (by kernel_rfl) (by kernel_rfl)) ?_
  intro W base args ds gs before hval0 hW hcnd _
  have hval : ∀ (j : Nat) t v, Try.f9.params[j]? = some t → args[j]? = some v → Value.okWide Try.prog W .any base t v := hval0
  have hW' := hW
  obtain ⟨p, q, hA0, hV, rfl, hfz, hnd⟩ := hW
  have hA : DataW.TrodAll enc Try.prog W 0 (fun _ => true) true Try.f9.params.toList args.toList ds p := hA0
  rw [Try.params9] at hA hval
  obtain ⟨v0, vs0, d0, ds0, p0, q0, hargs, rfl, rfl, h0, t0⟩ := trodAll_cons hA
  obtain ⟨v1, vs1, d1, ds1, p1, q1, rfl, rfl, rfl, h1, t1⟩ := trodAll_cons t0
  obtain ⟨v2, vs2, d2, ds2, p2, q2, rfl, rfl, rfl, h2, t2⟩ := trodAll_cons t1
  obtain ⟨rfl, rfl, rfl⟩ := trodAll_nil t2
  obtain rfl : args = #[v0, v1, v2] := by cases args; simp_all
  obtain ⟨rfl, rfl⟩ := trodVars_none hV
  obtain ⟨a0, rfl, rfl, rfl, f0⟩ := open_int Try.underlying2 (hval 0 2 v0 rfl rfl) h0
  obtain ⟨a1, rfl, rfl, rfl, f1⟩ := open_int Try.underlying3 (hval 1 3 v1 rfl rfl) h1
  obtain ⟨a2, len2, cap2, rfl⟩ := okWide_slice Try.underlying22 (hval 2 22 v2 rfl rfl)
  have k2 := h2
  have lt2 : ∀ x ∈ p2, x.block < W.heap.size := by obtain ⟨m, hm⟩ := k2; exact DataW.trod_lt m _ _ _ hm
  obtain ⟨z2, r2⟩ : ∃ zs, IsRow .u8 W a2 len2 cap2 zs := by
    obtain ⟨fuel, hf⟩ := h2
    rcases open_ints Try.underlying22 Try.underlying5 (by kernel_rfl) hf with ⟨hcs, _⟩ | ⟨x, l, c, zs, hcs, _, hl, hm, hz, _, hcell, hwz⟩
    · simp [Value.cells] at hcs
      obtain ⟨rfl, rfl, rfl⟩ := hcs
      exact ⟨[], .inl ⟨rfl, rfl, rfl, rfl⟩⟩
    · simp [Value.cells] at hcs
      obtain ⟨rfl, rfl, rfl⟩ := hcs
      exact ⟨zs, .inr ⟨_, rfl, hl, hm, by simpa using hz, hcell, hwz⟩⟩
  clear hA0 hval0
  refine (walk W a0 f0 a1 f1 a2 len2 cap2 z2 r2).mono fun e W' ⟨he, bel⟩ => ?_
  subst he
  exact ⟨_, rfl, _, _, _, [], _, [], hW', trodAll_mk1 (shut_bool Try.underlying4 _), (trodAll_cons_mk (shut_int Try.underlying2 f0) (trodAll_cons_mk (shut_int Try.underlying3 f1) (trodAll_cons_mk (Below.trod laidOut (by kernel_rfl) (of_decide_eq_true (by kernel_rfl)) k2 bel lt2) trodAll_mk0))), rfl, bel.frame _, fun h => by cases h⟩
theorem over : Rows.sumsBackRow.holds Try.pinned (OpenSpec.ofChange Rows.sumsBackSpec) :=
  OpenClaim.holds_of_wide 9 Try.f9 rfl rfl rfl rfl rfl rfl rfl ⟨rfl, rfl, rfl, rfl, rfl⟩ rfl rfl rfl rfl rfl (by kernel_rfl) Try.func9 (by kernel_rfl)
    (of_decide_eq_true (by kernel_rfl)) (by unfold Func.isWrapper; first | (rw [if_pos (by decide +kernel)]; kernel_rfl) | (rw [if_neg (by decide +kernel)]; exact ⟨rfl, rfl⟩))
    (fun os started H enc _ => lifted os started H enc)
theorem proved : Rows.SumsBackSaid := over
end Go.Proofs.Ytgpggodabalakaa.sumsBack

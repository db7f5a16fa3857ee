/- The law DiskLasts returns true for every input: behind a flush each crash leaves the same, a crash that keeps all leaves what is read, and each byte behind a crash is what lasted there, or what some write has there. No condition. -/
import Derived.Test.YtokbghpddgfnpaaLsW
import Derived.Test.YtokbghpddgfnpaaActsO
namespace Go.Proofs.Ytokbghpddgfnpaa.diskLasts
open Go.ChangeShapes Go.WideShapes Go.ChangeAt Go.RowKit
attribute [local go_sem] Oper.semAt_some
set_option maxRecDepth 100000 in
set_option maxHeartbeats 1000000 in
theorem walk_size (w : World) (s : Int) (A : Option Addr) (n c : Nat) (SA : Option Addr) (sl sc : Nat) (KA : Option Addr) (kc : Nat) (cr : Cr) (h : (s < 1 ∨ 12 < s) ∨ 3000 < n) :
    Calls Try.prog 8 #[.int .i64 s, .slice A n c, .slice SA sl sc, .agg #[.slice KA cr.keep.length kc, .int .i64 cr.torn, .int .i64 cr.bytes]] w fun e w' => e = .returned (.bool true) ∧ Below w.heap.size w w' := by
  have B0 := Lib.hid ((Below.refl w.heap.size w).alloc (Nat.le_refl _) (.cells #[.slice KA cr.keep.length kc, .int .i64 cr.torn, .int .i64 cr.bytes] 26))
  by_cases h0 : s < 1 ∨ 12 < s
  · clear h
    go_enter Try.func8, Try.ntmps8
    go_wp2_with (first
      | (go_at_call 9; refine (diskFails.small_no _ s h0).mono ?_; rintro e w' ⟨rfl, rfl⟩)
      | (go_at_call 10; refine (works_any _).mono ?_; rintro e w9 ⟨rfl, hb9⟩; have B9 := Lib.hid (B0.out.trans (hb9.mono B0.out.size)); clear hb9))
    go_ret
    exact ⟨rfl, B9.out⟩
  · obtain ⟨q, rfl⟩ : ∃ q : Nat, s = (q : Int) := ⟨s.toNat, by omega⟩
    have q1 : 1 ≤ q := by omega
    have q2 : q ≤ 12 := by omega
    have n1 : (3000 : Int) < (n : Int) := by omega
    clear h h0
    go_enter Try.func8, Try.ntmps8
    go_wp2_with (first
      | (go_at_call 9; refine (diskFails.small_yes _ q q1 q2).mono ?_; rintro e w' ⟨rfl, rfl⟩)
      | (go_at_call 10; refine (works_any _).mono ?_; rintro e w9 ⟨rfl, hb9⟩; have B9 := Lib.hid (B0.out.trans (hb9.mono B0.out.size)); clear hb9))
    go_ret
    exact ⟨rfl, B9.out⟩
set_option maxRecDepth 100000 in
set_option maxHeartbeats 2000000 in
theorem walk_crash (w : World) (q : Nat) (q1 : 1 ≤ q) (q2 : q ≤ 12) (A : Option Addr) (n c : Nat) (h3 : n ≤ 3000) (SA : Option Addr) (sc : Nat) (la : List Ac) (hra : RdA w SA la) (hls : ∀ x ∈ la, x.lies w) (hlb : la.length ≤ 140737488351232)
    (KA : Option Addr) (kc : Nat) (cr : Cr) (h : 400 < cr.keep.length ∨ (cr.bytes < 0 ∨ 512 < cr.bytes)) :
    Calls Try.prog 8 #[.int .i64 (q : Int), .slice A n c, .slice SA la.length sc, .agg #[.slice KA cr.keep.length kc, .int .i64 cr.torn, .int .i64 cr.bytes]] w fun e w' => e = .returned (.bool true) ∧ Below w.heap.size w w' := by
  have B0 := Lib.hid ((Below.refl w.heap.size w).alloc (Nat.le_refl _) (.cells #[.slice KA cr.keep.length kc, .int .i64 cr.torn, .int .i64 cr.bytes] 26))
  have X0 := Lib.hid (Blk.new w 26 #[.slice KA cr.keep.length kc, .int .i64 cr.torn, .int .i64 cr.bytes])
  have HRA := Lib.hid (hra.below ((Below.refl _ w).alloc (Nat.le_refl _) (.cells #[.slice KA cr.keep.length kc, .int .i64 cr.torn, .int .i64 cr.bytes] 26)))
  have HLS := Lib.hid (fun x hx => (hls x hx).below ((Below.refl _ w).alloc (Nat.le_refl _) (.cells #[.slice KA cr.keep.length kc, .int .i64 cr.torn, .int .i64 cr.bytes] 26)))
  have HLB := Lib.hid hlb
  have n1 : ¬ (3000 : Int) < (n : Int) := by omega
  have hd : (400 : Int) < (cr.keep.length : Int) ∨ (¬ (400 : Int) < (cr.keep.length : Int) ∧ cr.bytes < 0) ∨ (¬ (400 : Int) < (cr.keep.length : Int) ∧ ¬ cr.bytes < 0 ∧ 512 < cr.bytes) := by omega
  clear hra hls hlb h h3
  go_enter Try.func8, Try.ntmps8
  go_wp2_with (go_at_call 9; refine (diskFails.small_yes _ q q1 q2).mono ?_; rintro e w' ⟨rfl, rfl⟩)
  refine (few_any _ SA sc la HRA.out HLS.out HLB.out).mono ?_
  rintro e w1 ⟨rfl | ⟨rfl, ht⟩, hb⟩
  · have B1 := Lib.hid (B0.out.trans (hb.mono B0.out.size))
    clear hb hd
    go_wp2_with (go_at_call 10; refine (works_any _).mono ?_; rintro e w9 ⟨rfl, hb9⟩; have B9 := Lib.hid (B1.out.trans (hb9.mono B1.out.size)); clear hb9)
    go_ret
    exact ⟨rfl, B9.out⟩
  · have B1 := Lib.hid (B0.out.trans (hb.mono B0.out.size))
    have X1 := X0.out.below hb X0.out.lt
    have k0 := (X1.cell 0).trans (show _ = some (.slice KA cr.keep.length kc) from rfl)
    have k2 := (X1.cell 2).trans (show _ = some (.int .i64 cr.bytes) from rfl)
    clear hb ht X1
    rcases hd with h1 | ⟨h1, h2⟩ | ⟨h1, h2, h4⟩
    all_goals
      go_wp2_with (go_at_call 10; refine (works_any _).mono ?_; rintro e w9 ⟨rfl, hb9⟩; have B9 := Lib.hid (B1.out.trans (hb9.mono B1.out.size)); clear hb9)
      go_ret
      exact ⟨rfl, B9.out⟩
set_option maxRecDepth 8000 in
theorem walk (w : World) (s : Int) (A : Option Addr) (n c : Nat) (l : List UInt8) (hn : l.length = n) (hr : Rd w A l) (SA : Option Addr) (sc : Nat) (la : List Ac) (hra : RdA w SA la) (hls : ∀ x ∈ la, x.lies w) (hlb : la.length ≤ 140737488351232) (KA : Option Addr) (kc : Nat) (cr : Cr) (hkr : RdB w KA cr.keep) :
    Calls Try.prog 8 #[.int .i64 s, .slice A n c, .slice SA la.length sc, .agg #[.slice KA cr.keep.length kc, .int .i64 cr.torn, .int .i64 cr.bytes]] w fun e w' => e = .returned (.bool true) ∧ Below w.heap.size w w' := by
  by_cases h : (s < 1 ∨ 12 < s) ∨ 3000 < n
  · exact walk_size w s A n c SA la.length sc KA kc cr h
  · obtain ⟨q, rfl⟩ : ∃ q : Nat, s = (q : Int) := ⟨s.toNat, by omega⟩
    by_cases h2 : 400 < cr.keep.length ∨ (cr.bytes < 0 ∨ 512 < cr.bytes)
    · exact walk_crash w q (by omega) (by omega) A n c (by omega) SA sc la hra hls hlb KA kc cr h2
    · exact walk_main w q (by omega) (by omega) A n c l hn (by omega) hr SA sc la hra hls hlb KA kc cr hkr (by omega) (by omega) (by omega)
set_option maxRecDepth 100000 in
theorem lifted (os : Os) (started : os.Started) (H : Type) (enc : TypeId × Value → H) :
    ReturnsInHanded {} Try.checked os 8 .any (Rows.diskLastsSpec.pre6 enc Try.prog Try.f8 Rows.diskLastsRow.domain false) (Rows.diskLastsSpec.post enc Try.prog Try.f8 false true false false) := by
  refine returnsInHanded_of_change_sized (C := Try.checked) own started (by kernel_rfl) Try.func8
    (ChangeSpec.witness6 (enc := enc) (C := Try.checked) false ⟨#[], #[.int .i64 0, .slice none 0 0, .slice none 0 0, .agg #[.slice none 0 0, .int .i64 0, .int .i64 0]], []⟩ 8 (by kernel_rfl) (by kernel_rfl) (by kernel_rfl) (by kernel_rfl)) ?_
  intro W base args ds gs before hval0 hW hcnd hsz _
  have hval : ∀ (j : Nat) t v, Try.f8.params[j]? = some t → args[j]? = some v → Value.okWide Try.prog W .any base t v := hval0
  have hW' := hW
  obtain ⟨p, q, hA0, hV, rfl, hfz, hnd⟩ := hW
  have hA : DataW.TrodAll enc Try.prog W 0 (fun _ => true) true Try.f8.params.toList args.toList ds p := hA0
  rw [Try.params8] at hA hval hsz
  obtain ⟨v0, vs0, d0, ds0, p0, q0, hargs, rfl, rfl, h0, t0⟩ := trodAll_cons hA
  obtain ⟨v1, vs1, d1, ds1, p1, q1, rfl, rfl, rfl, h1, t1⟩ := trodAll_cons t0
  obtain ⟨v2, vs2, d2, ds2, p2, q2, rfl, rfl, rfl, h2, t2⟩ := trodAll_cons t1
  obtain ⟨v3, vs3, d3, ds3, p3, q3, rfl, rfl, rfl, h3, t3⟩ := trodAll_cons t2
  obtain ⟨rfl, rfl, rfl⟩ := trodAll_nil t3
  obtain rfl : args = #[v0, v1, v2, v3] := by cases args; simp_all
  obtain ⟨rfl, rfl⟩ := trodVars_none hV
  have k0 := h0
  have lt0 : ∀ x ∈ p0, x.block < W.heap.size := by obtain ⟨m, hm⟩ := k0; exact DataW.trod_lt m _ _ _ hm
  obtain ⟨a0, rfl, rfl, rfl, f0⟩ := open_int Try.underlying3 (hval 0 3 v0 rfl rfl) h0
  have k1 := h1
  have lt1 : ∀ x ∈ p1, x.block < W.heap.size := by obtain ⟨m, hm⟩ := k1; exact DataW.trod_lt m _ _ _ hm
  obtain ⟨A1, n1, c1, l1, rfl, hl1, hc1, hr1⟩ := open_bytes (hval 1 22 v1 rfl rfl) h1
  have k2 := h2
  have lt2 : ∀ x ∈ p2, x.block < W.heap.size := by obtain ⟨m, hm⟩ := k2; exact DataW.trod_lt m _ _ _ hm
  obtain ⟨A2, l2, c2, rfl, hr2, hs2, hb2⟩ := open_acts (hval 2 47 v2 rfl rfl) h2 (fun q hq => by have := List.all_eq_true.1 hsz q (DataW.weights_mem_each (j := 2) (t := 47) (d := d2) rfl rfl q hq); simpa using this)
  have k3 := h3
  have lt3 : ∀ x ∈ p3, x.block < W.heap.size := by obtain ⟨m, hm⟩ := k3; exact DataW.trod_lt m _ _ _ hm
  obtain ⟨A3, c3, cr3, rfl, hr3⟩ := open_crash (hval 3 26 v3 rfl rfl) h3
  clear hA0 hval0
  refine (walk W a0 A1 n1 c1 l1 hl1 hr1 A2 c2 l2 hr2 hs2 hb2 A3 c3 cr3 hr3).mono fun e W' ⟨he, bel⟩ => ?_
  subst he
  exact ⟨_, rfl, _, _, _, [], _, [], hW', trodAll_mk1 (shut_bool Try.underlying4 _), (trodAll_cons_mk (shut_int Try.underlying3 f0) (trodAll_cons_mk (Below.trod laidOut (by kernel_rfl) (of_decide_eq_true (by kernel_rfl)) k1 bel lt1) (trodAll_cons_mk (Below.trod laidOut (by kernel_rfl) (of_decide_eq_true (by kernel_rfl)) k2 bel lt2) (trodAll_cons_mk (Below.trod laidOut (by kernel_rfl) (of_decide_eq_true (by kernel_rfl)) k3 bel lt3) trodAll_mk0)))), rfl, bel.frame _, fun h => by cases h⟩
theorem over : Rows.diskLastsRow.holds Try.pinned (OpenSpec.ofChange Rows.diskLastsSpec) :=
  OpenClaim.holds_of_wide 8 Try.f8 rfl rfl rfl rfl rfl rfl rfl ⟨rfl, rfl, rfl, rfl, rfl⟩ rfl rfl rfl rfl rfl (by kernel_rfl) Try.func8 (by kernel_rfl)
    (of_decide_eq_true (by kernel_rfl)) (by unfold Func.isWrapper; first | (rw [if_pos (by decide +kernel)]; kernel_rfl) | (rw [if_neg (by decide +kernel)]; exact ⟨rfl, rfl⟩))
    (fun os started H enc _ => lifted os started H enc)
theorem proved : Rows.DiskLastsSaid := over
end Go.Proofs.Ytokbghpddgfnpaa.diskLasts

/- The law CodecBack returns true for every input: keys and objects are read as they were told, what is read is told in the same bytes, and a sector in which up to 32 bits in a row are turned is none. No condition but that the listed variables read as the program's own text lays them; the card ties them to it. -/
import Derived.Test.YtfclkkbmgclfgaaDoorFsq
import Derived.Test.YtfclkkbmgclfgaaDoorCBno
import Derived.Test.YtfclkkbmgclfgaaDoorCBy000
import Derived.Test.YtfclkkbmgclfgaaDoorCBy001
import Derived.Test.YtfclkkbmgclfgaaDoorCBy010
import Derived.Test.YtfclkkbmgclfgaaDoorCBy011
import Derived.Test.YtfclkkbmgclfgaaDoorCBy100
import Derived.Test.YtfclkkbmgclfgaaDoorCBy101
import Derived.Test.YtfclkkbmgclfgaaDoorCBy110
import Derived.Test.YtfclkkbmgclfgaaDoorCBy111
namespace Go.Proofs.YtfclkkbmgclfgaaDoor.codecBack
open Go.ChangeShapes Go.WideShapes Go.ChangeAt Go.RowKit
attribute [local go_sem] Oper.semAt_some
set_option maxRecDepth 100000 in
set_option maxHeartbeats 1000000 in
theorem walk_long (w : World) (hT : Tab w) (u : Oj) (x : Ky) (n : Int) (A : Option Addr) (m c : Nat) (f : Int) (b : Nat) (h : 3000 < m) :
    Calls Tryd.prog 3 #[u.val, x.val, .int .i64 n, .agg #[.slice A m c, .int .i64 f, .int .u32 (b : Int)]] w fun e w' => e = .returned (.bool true) ∧ Below w.heap.size w w' := by
  have HT0 := Lib.hid (((hT.alloc (.cells u.cells.toArray 30)).alloc (.cells (kl x).toArray 26)).alloc (.cells #[.slice A m c, .int .i64 f, .int .u32 (b : Int)] 36))
  have HB0 := Lib.hid ((((Below.refl w.heap.size w).alloc (Nat.le_refl _) (.cells u.cells.toArray 30)).alloc (by simp) (.cells (kl x).toArray 26)).alloc (by simp; omega) (.cells #[.slice A m c, .int .i64 f, .int .u32 (b : Int)] 36))
  have ki := ((Blk.new_of ((w.alloc (.cells u.cells.toArray 30)).alloc (.cells (kl x).toArray 26)) 36 #[.slice A m c, .int .i64 f, .int .u32 (b : Int)] (g := w.heap.size + 1 + 1) (by simp)).cell 0).trans (show _ = some (.slice A m c) from rfl)
  have hm1 : (3000 : Int) < (m : Int) := by omega
  clear hT h
  go_enter Tryd.func3, Tryd.ntmps3
  go_wp2_with (go_at_call 4; refine (works_any _ HT0.out).mono ?_; rintro e w9 ⟨rfl, hb⟩; have B9 := Lib.hid (HB0.out.trans (hb.mono HB0.out.size)); clear hb)
  go_ret
  exact ⟨rfl, B9.out⟩
set_option maxRecDepth 8000 in
theorem walk (w : World) (hL : laidMetH Tryd.prog laidK w) (u : Oj) (hu : ∀ x ∈ u.s, x.vb) (x : Ky) (hx : x.vb) (n : Int) (A : Option Addr) (m c : Nat) (f : Int) (b : Nat) (l : List UInt8) (hn : l.length = m) (hc : m ≤ c) (hr : Rd w A l) (hb : b < 4294967296) :
    Calls Tryd.prog 3 #[u.val, x.val, .int .i64 n, .agg #[.slice A m c, .int .i64 f, .int .u32 (b : Int)]] w fun e w' => e = .returned (.bool true) ∧ Below w.heap.size w w' := by
  have hT := tab_of hL
  by_cases hm : 3000 < m
  · exact walk_long w hT u x n A m c f b hm
  have hm' : m ≤ 3000 := by omega
  by_cases hk : x.ok
  · by_cases hg : good l
    · by_cases ho : u.ok n
      · by_cases hf : 0 ≤ f ∧ f < 4096
        · obtain ⟨f0, rfl⟩ := Int.eq_ofNat_of_zero_le hf.1
          exact walk_1111 w hT u x n A m c f0 b l hm' hn hr ⟨hk, fit_of hk hx.1 hx.2⟩ (kof l) ⟨hg.2, kof_fit hg, kbs_kof hg.1⟩ ⟨ho, ofit_of ho hu⟩ hb (by omega) (fun W hT hr => getkey_yes A m c l W hT hn hc hr hg)
        · exact walk_1110 w hT u x n A m c f b l hm' hn hr ⟨hk, fit_of hk hx.1 hx.2⟩ (kof l) ⟨hg.2, kof_fit hg, kbs_kof hg.1⟩ ⟨ho, ofit_of ho hu⟩ hb (by omega) (fun W hT hr => getkey_yes A m c l W hT hn hc hr hg)
      · exact walk_1100 w hT u x n A m c f b l hm' hn hr ⟨hk, fit_of hk hx.1 hx.2⟩ (kof l) ⟨hg.2, kof_fit hg, kbs_kof hg.1⟩ ho (fun W hT hr => getkey_yes A m c l W hT hn hc hr hg)
    · by_cases ho : u.ok n
      · by_cases hf : 0 ≤ f ∧ f < 4096
        · obtain ⟨f0, rfl⟩ := Int.eq_ofNat_of_zero_le hf.1
          exact walk_1011 w hT u x n A m c f0 b l hm' hn hr ⟨hk, fit_of hk hx.1 hx.2⟩ zk trivial ⟨ho, ofit_of ho hu⟩ hb (by omega) (fun W hT hr => getkey_no A m c l W hT hn hc hr hg)
        · exact walk_1010 w hT u x n A m c f b l hm' hn hr ⟨hk, fit_of hk hx.1 hx.2⟩ zk trivial ⟨ho, ofit_of ho hu⟩ hb (by omega) (fun W hT hr => getkey_no A m c l W hT hn hc hr hg)
      · exact walk_1000 w hT u x n A m c f b l hm' hn hr ⟨hk, fit_of hk hx.1 hx.2⟩ zk trivial ho (fun W hT hr => getkey_no A m c l W hT hn hc hr hg)
  · by_cases hg : good l
    · by_cases ho : u.ok n
      · by_cases hf : 0 ≤ f ∧ f < 4096
        · obtain ⟨f0, rfl⟩ := Int.eq_ofNat_of_zero_le hf.1
          exact walk_0111 w hT u x n A m c f0 b l hm' hn hr hk (kof l) ⟨hg.2, kof_fit hg, kbs_kof hg.1⟩ ⟨ho, ofit_of ho hu⟩ hb (by omega) (fun W hT hr => getkey_yes A m c l W hT hn hc hr hg)
        · exact walk_0110 w hT u x n A m c f b l hm' hn hr hk (kof l) ⟨hg.2, kof_fit hg, kbs_kof hg.1⟩ ⟨ho, ofit_of ho hu⟩ hb (by omega) (fun W hT hr => getkey_yes A m c l W hT hn hc hr hg)
      · exact walk_0100 w hT u x n A m c f b l hm' hn hr hk (kof l) ⟨hg.2, kof_fit hg, kbs_kof hg.1⟩ ho (fun W hT hr => getkey_yes A m c l W hT hn hc hr hg)
    · by_cases ho : u.ok n
      · by_cases hf : 0 ≤ f ∧ f < 4096
        · obtain ⟨f0, rfl⟩ := Int.eq_ofNat_of_zero_le hf.1
          exact walk_0011 w hT u x n A m c f0 b l hm' hn hr hk zk trivial ⟨ho, ofit_of ho hu⟩ hb (by omega) (fun W hT hr => getkey_no A m c l W hT hn hc hr hg)
        · exact walk_0010 w hT u x n A m c f b l hm' hn hr hk zk trivial ⟨ho, ofit_of ho hu⟩ hb (by omega) (fun W hT hr => getkey_no A m c l W hT hn hc hr hg)
      · exact walk_0000 w hT u x n A m c f b l hm' hn hr hk zk trivial ho (fun W hT hr => getkey_no A m c l W hT hn hc hr hg)
set_option maxRecDepth 100000 in
theorem lifted (os : Os) (started : os.Started) (H : Type) (enc : TypeId × Value → H) :
    ReturnsInHanded {} Tryd.checked os 3 .any (fun w args => (Rows.codecBackSpec.pre enc Tryd.prog Tryd.f3 [] false w args ∧ laidMetH Tryd.prog laidK w) ∧ sizedMet enc Tryd.prog Tryd.f3 (OpenSpec.ofChange Rows.codecBackSpec) false w args) (Rows.codecBackSpec.post enc Tryd.prog Tryd.f3 false true false false) := by
  refine returnsInHanded_of_change_and (C := Tryd.checked) (X := fun w _ => laidMetH Tryd.prog laidK w) (fun _ _ _ hh h => h.of_heap hh) own started (by kernel_rfl) Tryd.func3
    (ChangeSpec.witness_shaped (enc := enc) (C := Tryd.checked) (os := os) (X := fun w _ => laidMetH Tryd.prog laidK w) false (World.doorLaid Tryd.prog 40 os) #[.agg (List.replicate 99 (Value.int .i64 0) ++ List.replicate 64 (Value.int .u8 0)).toArray, .agg #[.int .i64 0, .int .i64 0, .int .i64 0, .int .i64 0, .int .i64 0, .int .i64 0], .int .i64 0, .agg #[.slice none 0 0, .int .i64 0, .int .u32 0]] 8 rfl (World.shaped_of_RefB (by kernel_rfl) (by kernel_rfl)) (by kernel_rfl) (by kernel_rfl) (by kernel_rfl) (door_met os _)) ?_
  intro W base args ds gs before hval0 hW _ _ hL _
  have hval : ∀ (j : Nat) t v, Tryd.f3.params[j]? = some t → args[j]? = some v → Value.okWide Tryd.prog W .any base t v := hval0
  have hW' := hW
  obtain ⟨p, q, hA0, hV, rfl, hfz, hnd⟩ := hW
  have hA : DataW.TrodAll enc Tryd.prog W 0 (fun _ => true) true Tryd.f3.params.toList args.toList ds p := hA0
  rw [Tryd.params3] at hA hval
  obtain ⟨v0, vs0, d0, ds0, p0, q0, hargs, rfl, rfl, h0, t0⟩ := trodAll_cons hA
  obtain ⟨v1, vs1, d1, ds1, p1, q1, rfl, rfl, rfl, h1, t1⟩ := trodAll_cons t0
  obtain ⟨v2, vs2, d2, ds2, p2, q2, rfl, rfl, rfl, h2, t2⟩ := trodAll_cons t1
  obtain ⟨v3, vs3, d3, ds3, p3, q3, rfl, rfl, rfl, h3, t3⟩ := trodAll_cons t2
  obtain ⟨rfl, rfl, rfl⟩ := trodAll_nil t3
  obtain rfl : args = #[v0, v1, v2, v3] := by cases args; simp_all
  obtain ⟨rfl, rfl⟩ := trodVars_none hV
  have k0 := h0
  have lt0 : ∀ x ∈ p0, x.block < W.heap.size := by obtain ⟨m, hm⟩ := k0; exact DataW.trod_lt m _ _ _ hm
  obtain ⟨o0, rfl, ho0⟩ := open_ob (hval 0 30 v0 rfl rfl) h0
  have k1 := h1
  have lt1 : ∀ x ∈ p1, x.block < W.heap.size := by obtain ⟨m, hm⟩ := k1; exact DataW.trod_lt m _ _ _ hm
  obtain ⟨x1, rfl, hx1⟩ := open_keyv (hval 1 26 v1 rfl rfl) h1
  have k2 := h2
  have lt2 : ∀ x ∈ p2, x.block < W.heap.size := by obtain ⟨m, hm⟩ := k2; exact DataW.trod_lt m _ _ _ hm
  obtain ⟨a2, rfl, rfl, rfl, _⟩ := open_int Tryd.underlying3 (hval 2 3 v2 rfl rfl) h2
  have k3 := h3
  have lt3 : ∀ x ∈ p3, x.block < W.heap.size := by obtain ⟨m, hm⟩ := k3; exact DataW.trod_lt m _ _ _ hm
  obtain ⟨A3, m3, c3, f3, b3, l3, rfl, hl3, hc3, hr3, hb3⟩ := open_spoilt (hval 3 36 v3 rfl rfl) h3
  clear hA0 hval0
  refine (walk W hL o0 ho0 x1 hx1 a2 A3 m3 c3 f3 b3 l3 hl3 hc3 hr3 hb3).mono fun e W' ⟨he, bel⟩ => ?_
  subst he
  exact ⟨_, rfl, _, _, _, [], _, [], hW', trodAll_mk1 (shut_bool Tryd.underlying4 _), (trodAll_cons_mk (Below.trod laidOut (by kernel_rfl) (of_decide_eq_true (by kernel_rfl)) k0 bel lt0) (trodAll_cons_mk (Below.trod laidOut (by kernel_rfl) (of_decide_eq_true (by kernel_rfl)) k1 bel lt1) (trodAll_cons_mk (Below.trod laidOut (by kernel_rfl) (of_decide_eq_true (by kernel_rfl)) k2 bel lt2) (trodAll_cons_mk (Below.trod laidOut (by kernel_rfl) (of_decide_eq_true (by kernel_rfl)) k3 bel lt3) trodAll_mk0)))), rfl, bel.frame _, fun h => by cases h⟩
theorem over : Rows.codecBackRow.holds Tryd.pinned (OpenSpec.ofChange Rows.codecBackSpec) :=
  OpenClaim.holds_of_wide 3 Tryd.f3 rfl rfl rfl rfl rfl rfl rfl ⟨rfl, rfl, rfl, rfl, rfl⟩ rfl rfl rfl rfl rfl (by kernel_rfl) Tryd.func3 (by kernel_rfl)
    (of_decide_eq_true (by kernel_rfl)) (by unfold Func.isWrapper; first | (rw [if_pos (by decide +kernel)]; kernel_rfl) | (rw [if_neg (by decide +kernel)]; exact ⟨rfl, rfl⟩))
    (fun os started H enc _ => lifted os started H enc)
set_option maxRecDepth 8000 in
theorem proved : Rows.CodecBackCardSaid :=
  Claim7.holds_tied_plain_at .later [] [.data] true Rows.codecBackCard.stood.harness true
    over (fun _ h => by cases h) (by kernel_rfl) (fun _ h => by cases h) codecBack_row_tie rfl ⟨rfl, rfl⟩ (by kernel_rfl) rfl
    (fun f fn hf hfn => by
      obtain rfl : f = 3 := Option.some.inj ((show Tryd.prog.funcNamed "chatelaine/chatelainelaw05.CodecBack" = some 3 by kernel_rfl).symm.trans hf) |>.symm
      obtain rfl : fn = Tryd.f3 := (Option.some.inj (Tryd.func3.symm.trans hfn)).symm
      exact ⟨by kernel_rfl, fun j t ht => by
        rw [Tryd.params3] at ht
        have hm : t ∈ [30, 26, 3, 36] := by simpa using Array.mem_of_getElem? ht
        have hall : ([30, 26, 3, 36].all fun u => !Tryd.prog.wantsStandIn u) = true := by kernel_rfl
        exact (show Tryd.prog.wantsStandIn t = false by simpa using List.all_eq_true.1 hall t hm)⟩)
    (by kernel_rfl)
end Go.Proofs.YtfclkkbmgclfgaaDoor.codecBack

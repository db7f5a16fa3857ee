/- The law CodecGetKey returns true for every input: codec.GetKey of any bytes is the definition's, and the bytes stay. No condition but that the listed variables read as the program's own text lays them; the card ties them to it. -/
import Derived.Test.YtjfpmadnlpcpfaaDoorFr6
import Derived.Test.YtjfpmadnlpcpfaaDoorRegIn
namespace Go.Proofs.YtjfpmadnlpcpfaaDoor.codecGetKey
open Go.ChangeShapes Go.WideShapes Go.ChangeAt Go.RowKit
attribute [local go_sem] Oper.semAt_some
theorem rd77 (w : World) (t : TypeId) : Rd (w.alloc (.cells #[.int .u8 77] t)) (some ⟨w.heap.size, 0, none⟩) [77] := rd_new w 77 t rfl
set_option maxRecDepth 8000 in
theorem walk_long (w : World) (hT : Tab w) (A : Option Addr) (n c : Nat) (h : 3000 < n) :
    Calls Tryd.prog 4 #[.slice A n c] w fun e w' => e = .returned (.bool true) ∧ Below w.heap.size w w' := by
  have HT := Lib.hid hT
  have h' : (3000 : Int) < (n : Int) := by omega
  clear hT h
  go_enter Tryd.func4, Tryd.ntmps4
  go_wp2_with (go_at_call 14; refine (works_any _ HT.out).mono ?_; rintro e w9 ⟨rfl, hb9⟩)
  go_ret
  exact ⟨rfl, hb9⟩
set_option maxRecDepth 100000 in
set_option maxHeartbeats 4000000 in
theorem walk_short (w : World) (hT : Tab w) (A : Option Addr) (n c : Nat) (l : List UInt8) (x : Ky) (e0 : Int) (hs : n ≤ 3000) (hn : l.length = n) (hnc : n ≤ c) (hr : Rd w A l)
    (H1 : ∀ (A : Option Addr) (c : Nat) (W : World), Tab W → n ≤ c → Rd W A l → Calls Tryd.prog 15 #[.slice A n c] W fun e w' => e = .returned (.tuple #[x.val, .int .i64 e0]) ∧ Below W.heap.size W w')
    (H2 : ∀ (A : Option Addr) (c : Nat) (W : World), n ≤ c → Rd W A l → Calls Tryd.prog 16 #[.slice A n c] W fun e w' => e = .returned (.tuple #[x.val, .int .i64 e0]) ∧ Below W.heap.size W w') :
    Calls Tryd.prog 4 #[.slice A n c] w fun e w' => e = .returned (.bool true) ∧ Below w.heap.size w w' := by
  have HT := Lib.hid hT
  have HH1 := Lib.hid H1
  have HH2 := Lib.hid H2
  have HR := Lib.hid hr
  have HN := Lib.hid hn
  have HNC := Lib.hid hnc
  have HR0 := Lib.hid (hr.below (below_lit0 w))
  have hq : ((st l).toList == (st l).toList) = true := st_beq rfl
  have hi1 : (0 : Int) ≤ (n : Int) := by omega
  clear hT H1 H2 hr hn hnc
  go_enter Tryd.func4, Tryd.ntmps4
  go_wp2_with (first
    | (at_builtin; refine wpList_append_bytes _ rfl (.tmp 12) (.tmp 13) _ rfl Tryd.underlying26 infoU8 rfl (lit0 w) rfl HR0.out HN.out (by omega) (by simp) ?_; intro v1 w1 hown1 hg1 hat1; simp only [Nat.zero_add, List.nil_append] at hown1; have HO1 := Lib.hid hown1; have HB1 := Lib.hid (below_append (below_lit0 w) (lit0 w) hg1 (Nat.le_refl _) (by simp)); have hz1 := HB1.out.size; clear hown1 hg1 hat1)
    | (at_builtin; refine wpList_append_bytes _ rfl (.tmp 14) (.tmp 15) _ rfl Tryd.underlying26 infoU8 rfl (HO1.out.alloc _) rfl (rd77 _ _) rfl (by omega) (by simp; try omega) ?_; intro v2 w2 hown2 hg2 hat2; have HB2 := Lib.hid (below_append (HB1.out.alloc hz1 _) (HO1.out.alloc _) hg2 (Nat.le_refl _) (by simp; try omega)); obtain ⟨g, cap, rfl, hcap⟩ := own_some hown2 (by omega); have HR2 := Lib.hid (Rd.of_own hown2); have HCAP := Lib.hid hcap; have hi2 : (n : Int) ≤ (cap : Int) := (by omega); have hi3 : (n : Int) + 1 ≤ (cap : Int) := (by omega); have hcut := cut_more g n cap hcap hs; have hlt : (n : Int) < (((n + 1 : Nat)) : Int) := (by omega); clear hown2 hg2 hat2 hcap)
    | (go_at_call 15; refine (HH1.out _ cap _ (HT.out.below HB2.out) (by have := HCAP.out; omega) (by have := HR2.out.take n; rw [List.take_left' HN.out] at this; exact this)).mono ?_; rintro e w3 ⟨rfl, hb⟩; have HB3 := Lib.hid ((HB2.out.trans (hb.mono HB2.out.size)).alloc (Nat.le_trans HB2.out.size hb.size) (.cells #[.int .i64 x.k, .int .i64 x.o, .int .i64 x.c, .int .i64 x.l, .int .i64 x.r, .int .i64 x.v] 25)); have HR3 := Lib.hid ((HR2.out.below hb).alloc (.cells #[.int .i64 x.k, .int .i64 x.o, .int .i64 x.c, .int .i64 x.l, .int .i64 x.r, .int .i64 x.v] 25)); clear hb)
    | (go_at_call 16; refine (HH2.out _ c _ HNC.out (HR.out.below HB3.out)).mono ?_; rintro e w4 ⟨rfl, hb⟩; have HB4 := Lib.hid ((HB3.out.trans (hb.mono HB3.out.size)).alloc (Nat.le_trans HB3.out.size hb.size) (.cells #[.int .i64 x.k, .int .i64 x.o, .int .i64 x.c, .int .i64 x.l, .int .i64 x.r, .int .i64 x.v] 25)); have HR4 := Lib.hid ((HR3.out.below hb).alloc (.cells #[.int .i64 x.k, .int .i64 x.o, .int .i64 x.c, .int .i64 x.l, .int .i64 x.r, .int .i64 x.v] 25)); obtain ⟨c0, c1, c2, c3, c4, c5⟩ := Blk.six (Blk.alloc (Blk.keep (Blk.new w3 25 (kl x).toArray) hb) (.cells #[.int .i64 x.k, .int .i64 x.o, .int .i64 x.c, .int .i64 x.l, .int .i64 x.r, .int .i64 x.v] 25)); have s1 := str26 (c := cap) HN.out (by have := HR4.out.take n; rw [List.take_left' HN.out] at this; exact this); have s2 := str26 (c := c) HN.out (HR.out.below HB4.out); have c77 := at_end HN.out HR4.out; clear hb)
    | (show wpList _ _ _ ({ dst := some 32, op := .binOp .eql 25 (.tmp 30) (.tmp 31) 25, type := _, pos := _, after := _, guard := _ } :: _) _ _; refine wpList_yields (S := fun _ => True) (y_kyeq_of (by rfl) (by rfl) x x true (decide_eq_true rfl) (by rfl) (by rfl)) trivial ?_)
    | (go_at_call 13; refine (cnum_any _ _).mono ?_; rintro e y ⟨rfl, rfl⟩)
    | (go_at_call 14; refine (works_any _ (HT.out.below HB4.out)).mono ?_; rintro e w9 ⟨rfl, hb⟩; have B9 := Lib.hid (HB4.out.trans (hb.mono HB4.out.size)); clear hb))
  go_ret
  exact ⟨rfl, B9.out⟩
set_option maxRecDepth 8000 in
theorem walk (w : World) (hL : laidMetH Tryd.prog laidK w) (A : Option Addr) (n c : Nat) (l : List UInt8) (hn : l.length = n) (hc : n ≤ c) (hr : Rd w A l) :
    Calls Tryd.prog 4 #[.slice A n c] w fun e w' => e = .returned (.bool true) ∧ Below w.heap.size w w' := by
  by_cases h : 3000 < n
  · exact walk_long w (tab_of hL) A n c h
  · by_cases hg : good l
    · exact walk_short w (tab_of hL) A n c l (kof l) 0 (by omega) hn hc hr (fun A c W hT hc hr => getkey_yes A n c l W hT hn hc hr hg) (fun A c W hc hr => rgetkey_good A n c l W hn hc hr hg)
    · exact walk_short w (tab_of hL) A n c l zk 151 (by omega) hn hc hr (fun A c W hT hc hr => getkey_no A n c l W hT hn hc hr hg) (fun A c W hc hr => rgetkey_bad A n c l W hn hc hr hg)
set_option maxRecDepth 100000 in
theorem lifted (os : Os) (started : os.Started) (H : Type) (enc : TypeId × Value → H) :
    ReturnsInHanded {} Tryd.checked os 4 .any (fun w args => (Rows.codecGetKeySpec.pre enc Tryd.prog Tryd.f4 [] false w args ∧ laidMetH Tryd.prog laidK w) ∧ sizedMet enc Tryd.prog Tryd.f4 (OpenSpec.ofChange Rows.codecGetKeySpec) false w args) (Rows.codecGetKeySpec.post enc Tryd.prog Tryd.f4 false true false false) := by
  refine returnsInHanded_of_change_and (C := Tryd.checked) (X := fun w _ => laidMetH Tryd.prog laidK w) (fun _ _ _ hh h => h.of_heap hh) own started (by kernel_rfl) Tryd.func4
    (ChangeSpec.witness_shaped (enc := enc) (C := Tryd.checked) (os := os) (X := fun w _ => laidMetH Tryd.prog laidK w) false (World.doorLaid Tryd.prog 40 os) #[.slice none 0 0] 8 rfl (World.shaped_of_RefB (by kernel_rfl) (by kernel_rfl)) (by kernel_rfl) (by kernel_rfl) (by kernel_rfl) (door_met os _)) ?_
  intro W base args ds gs before hval0 hW _ _ hL _
  have hval : ∀ (j : Nat) t v, Tryd.f4.params[j]? = some t → args[j]? = some v → Value.okWide Tryd.prog W .any base t v := hval0
  have hW' := hW
  obtain ⟨p, q, hA0, hV, rfl, hfz, hnd⟩ := hW
  have hA : DataW.TrodAll enc Tryd.prog W 0 (fun _ => true) true Tryd.f4.params.toList args.toList ds p := hA0
  rw [Tryd.params4] at hA hval
  obtain ⟨v0, vs0, d0, ds0, p0, q0, hargs, rfl, rfl, h0, t0⟩ := trodAll_cons hA
  obtain ⟨rfl, rfl, rfl⟩ := trodAll_nil t0
  obtain rfl : args = #[v0] := by cases args; simp_all
  obtain ⟨rfl, rfl⟩ := trodVars_none hV
  have k0 := h0
  have lt0 : ∀ x ∈ p0, x.block < W.heap.size := by obtain ⟨m, hm⟩ := k0; exact DataW.trod_lt m _ _ _ hm
  obtain ⟨B0, len0, cap0, rfl⟩ := okWide_slice Tryd.underlying26 (hval 0 26 v0 rfl rfl)
  obtain ⟨l0, hl0, hc0, hr0⟩ : ∃ l : List UInt8, l.length = len0 ∧ len0 ≤ cap0 ∧ Rd W B0 l := open_by h0
  clear hA0 hval0
  refine (walk W hL B0 len0 cap0 l0 hl0 hc0 hr0).mono fun e W' ⟨he, bel⟩ => ?_
  subst he
  exact ⟨_, rfl, _, _, _, [], _, [], hW', trodAll_mk1 (shut_bool Tryd.underlying4 _), (trodAll_cons_mk (Below.trod laidOut (by kernel_rfl) (of_decide_eq_true (by kernel_rfl)) k0 bel lt0) trodAll_mk0), rfl, bel.frame _, fun h => by cases h⟩
theorem over : Rows.codecGetKeyRow.holds Tryd.pinned (OpenSpec.ofChange Rows.codecGetKeySpec) :=
  OpenClaim.holds_of_wide 4 Tryd.f4 rfl rfl rfl rfl rfl rfl rfl ⟨rfl, rfl, rfl, rfl, rfl⟩ rfl rfl rfl rfl rfl (by kernel_rfl) Tryd.func4 (by kernel_rfl)
    (of_decide_eq_true (by kernel_rfl)) (by unfold Func.isWrapper; first | (rw [if_pos (by decide +kernel)]; kernel_rfl) | (rw [if_neg (by decide +kernel)]; exact ⟨rfl, rfl⟩))
    (fun os started H enc _ => lifted os started H enc)
set_option maxRecDepth 8000 in
theorem proved : Rows.CodecGetKeyCardSaid :=
  Claim7.holds_tied_plain_at .later [] [.data] true Rows.codecGetKeyCard.stood.harness true
    over (fun _ h => by cases h) (by kernel_rfl) (fun _ h => by cases h) codecGetKey_row_tie rfl ⟨rfl, rfl⟩ (by kernel_rfl) rfl
    (fun f fn hf hfn => by
      obtain rfl : f = 4 := Option.some.inj ((show Tryd.prog.funcNamed "chatelaine/chatelainelaw05.CodecGetKey" = some 4 by kernel_rfl).symm.trans hf) |>.symm
      obtain rfl : fn = Tryd.f4 := (Option.some.inj (Tryd.func4.symm.trans hfn)).symm
      exact ⟨by kernel_rfl, fun j t ht => by
        rw [Tryd.params4] at ht
        have hm : t ∈ [26] := by simpa using Array.mem_of_getElem? ht
        have hall : ([26].all fun u => !Tryd.prog.wantsStandIn u) = true := by kernel_rfl
        exact (show Tryd.prog.wantsStandIn t = false by simpa using List.all_eq_true.1 hall t hm)⟩)
    (by kernel_rfl)
end Go.Proofs.YtjfpmadnlpcpfaaDoor.codecGetKey

/- The law CodecSealed returns true for every input: codec.Get of any sector whose sum is right is the definition's. No condition but that the listed variables read as the program's own text lays them; the card ties them to it. -/
import Derived.Test.YtjfpmadnlpcpfaaDoorFr9
import Derived.Test.YtjfpmadnlpcpfaaDoorRegIn
namespace Go.Proofs.YtjfpmadnlpcpfaaDoor.codecSealed
open Go.ChangeShapes Go.WideShapes Go.ChangeAt Go.RowKit
attribute [local go_sem] Oper.semAt_some
set_option maxRecDepth 8000 in
theorem walk_long (w : World) (hT : Tab w) (A : Option Addr) (m c : Nat) (n : Int) (h : 508 < m) :
    Calls Tryd.prog 7 #[.slice A m c, .int .i64 n] w fun e w' => e = .returned (.bool true) ∧ Below w.heap.size w w' := by
  have HT := Lib.hid hT
  have h' : (508 : Int) < (m : Int) := by omega
  clear hT h
  go_enter Tryd.func7, Tryd.ntmps7
  go_wp2_with (go_at_call 14; refine (works_any _ HT.out).mono ?_; rintro e w9 ⟨rfl, hb9⟩)
  go_ret
  exact ⟨rfl, hb9⟩
set_option maxRecDepth 8000 in
theorem spl_pad (k : Nat) (l0 : List UInt8) : spl (bv (List.replicate k 0)) 0 l0 = bv (l0 ++ List.replicate (k - l0.length) 0) := by
  unfold spl
  rw [List.take_zero, List.nil_append, Nat.zero_add, bv_append]
  congr 1
  simp only [bv, List.map_replicate, List.drop_replicate]
set_option maxRecDepth 100000 in
set_option maxHeartbeats 8000000 in
theorem walk_short (w : World) (hT : Tab w) (A : Option Addr) (m c : Nat) (l0 : List UInt8) (n : Int) (hm : l0.length = m) (hs : m ≤ 508) (hr : Rd w A l0) :
    Calls Tryd.prog 7 #[.slice A m c, .int .i64 n] w fun e w' => e = .returned (.bool true) ∧ Below w.heap.size w w' := by
  obtain ⟨zz, hzq⟩ : ∃ zz : List UInt8, List.replicate 508 0 = zz := ⟨_, rfl⟩
  have hmk : ∀ W : World, (Instr.makeSlice 26 (.int .i64 508) (.int .i64 508)).run Tryd.prog W = .ok (.slice (some ⟨W.heap.size, 0, none⟩) 508 508) (W.alloc (.cells (bv zz).toArray 5)) := fun W => by rw [← hzq]; exact run_mk0 508 (by decide) W
  have hz := z34
  have hz5 := z45
  have hbl := oz_len
  have HT := Lib.hid hT
  have HB0 := Lib.hid ((Below.refl w.heap.size w).alloc (Nat.le_refl _) (.cells (bv zz).toArray 5))
  have HA0 := Lib.hid (Blk.new w 5 (bv zz).toArray)
  have HR := Lib.hid (hr.alloc (.cells (bv zz).toArray 5))
  have HM := Lib.hid hm
  have h' : ¬ (508 : Int) < (m : Int) := by omega
  obtain ⟨a, ha⟩ : ∃ a, l0 ++ List.replicate (508 - l0.length) 0 = a := ⟨_, rfl⟩
  have HAL := Lib.hid (show a.length = 508 by rw [← ha, List.length_append, List.length_replicate]; omega)
  have HSP := Lib.hid (show spl (bv zz) 0 l0 = bv a by rw [← ha, ← hzq]; exact spl_pad 508 l0)
  have HMIN := Lib.hid (show l0.length = Nat.min m 508 by rw [hm]; exact (Nat.min_eq_left hs).symm)
  have HFIT := Lib.hid (show 0 + l0.length ≤ (bv zz).length by rw [bv_length, ← hzq, List.length_replicate]; omega)
  obtain ⟨l, hl⟩ : ∃ l, sealN a = l := ⟨_, rfl⟩
  have HLE := Lib.hid hl
  have HL := Lib.hid (show l.length = 512 by rw [← hl, sealN_length, HAL.out])
  have HZ := Lib.hid (show z512.length = 512 from List.length_replicate)
  obtain ⟨v, e0, H1, H2⟩ := get_both l HL.out n
  have HH1 := Lib.hid H1
  have HH2 := Lib.hid H2
  clear hT hr hm ha hl H1 H2 hzq
  go_enter Tryd.func7, Tryd.ntmps7
  go_wp2_with (first
    | (refine wpList_copy_spl (t := 5) rfl (.tmp 18) (.tmp 19) rfl Tryd.underlying26 size8b w.heap.size 0 508 508 A m c rfl rfl (bv zz) l0 HA0.out HMIN.out HR.out HFIT.out ?_; intro u0 hb hf; rw [HSP.out] at hb; have HA1 := Lib.hid hb; have HB1 := Lib.hid (HB0.out.trans (below_lt hf HB0.out.size (fun j hj => by omega))); clear hb hf)
    | (go_at_call 21; refine (rseal_any _ 508 _ a _ HAL.out (rd_blk HA1.out) (by decide)).mono ?_; rw [HLE.out]; rintro e u1 ⟨v1, rfl, ho, hb⟩; obtain ⟨D, k1, rfl, -, -, hDl, hrd, -⟩ := own_cell (by decide) ho; have R1 := Lib.hid hrd; have HD := Lib.hid hDl; have HB2 := Lib.hid ((HB1.out.trans (hb.mono HB1.out.size)).alloc (Nat.le_trans HB1.out.size hb.size) (.cells (bv z512).toArray 45)); have HU := Lib.hid (Nat.le_trans HB1.out.size hb.size); clear ho hb hrd hDl))
  have H6 := Lib.hid (Blk.new u1 45 (bv z512).toArray)
  have RA := Lib.hid (show (u1.alloc (.cells (bv z512).toArray 45)).heap[D]? = u1.heap[D]? from Below.heap_alloc u1 _ D HD.out)
  generalize u1.alloc (.cells (bv z512).toArray 45) = W6 at H6 RA HB2 ⊢
  obtain ⟨B, hBq⟩ : ∃ B, u1.heap.size = B := ⟨_, rfl⟩
  rw [hBq] at H6 HU HD ⊢
  clear hBq
  go_loopw [8] (fun i wr => ∃ j : Nat, j ≤ 512 ∧ i = .int .i64 j ∧ Blk wr B 45 (bv (l.take j ++ z512.drop j)).toArray ∧ wr.heap[D]? = u1.heap[D]? ∧ Below w.heap.size w wr) (fun i _ => 513 - (intOf i).toNat)
  case atStart => exact ⟨0, by omega, rfl, H6.out, RA.out, HB2.out⟩
  case round =>
    clear H6 RA HB2
    obtain ⟨j, hj, rfl, h6, hD, hb⟩ := hrel
    have H6 := Lib.hid h6
    have HDD := Lib.hid hD
    have HB := Lib.hid hb
    by_cases hlt : j < 512
    · have hjs : j < l.length := by rw [HL.out]; exact hlt
      have c0 := (World.cell?_of_block (a := ⟨D, 0 + j, none⟩) hD).trans (byte_of_range (rd_range R1.out) j hjs)
      rw [Nat.zero_add] at c0
      have hF := fill_set l HL.out j hlt
      obtain ⟨x, hx⟩ : ∃ x, l[j]'hjs = x := ⟨_, rfl⟩
      rw [hx] at c0 hF
      have HF := Lib.hid hF
      have hz2 : (bv (l.take j ++ z512.drop j)).length = 512 := by rw [bv_length, List.length_append, List.length_take, List.length_drop, HL.out, HZ.out]; omega
      obtain ⟨y, hy⟩ : ∃ y, (bv (l.take j ++ z512.drop j)).toArray[j]? = some y := ⟨_, Array.getElem?_eq_getElem (by rw [List.size_toArray, hz2]; exact hlt)⟩
      have c2 : wr.cell? ⟨B, j, none⟩ = some y := (h6.cell j).trans hy
      have f2 : wr.frozen? ⟨B, j, none⟩ = false := h6.frozen j
      have i1 : (j : Int) < 512 := by omega
      have i2 : (j : Int) < ((508 + 4 : Nat) : Int) := by omega
      clear h6 hD hb hy hx hz2 hjs hF
      go_wp2
      go_roundw
      case rel => exact ⟨j + 1, by omega, by go_num, by have h := H6.out.set_ j (.int .u8 (x.toNat : Int)); rw [HF.out] at h; exact h, (Below.heap_setCell _ _ _ _ (by have := HD.out; simp; omega)).trans HDD.out, HB.out.setCell (p := ⟨B, j, none⟩) (by have := HU.out; simp; omega) _⟩
      case measure => simp [intOf]; omega
    · obtain rfl : j = 512 := by omega
      rw [show ((512 : Nat) : Int) = 512 from rfl]
      have e6 : bv (l.take 512 ++ z512.drop 512) = bv l := by rw [List.take_of_length_le (by rw [HL.out]; exact Nat.le_refl _), List.drop_of_length_le (by rw [HZ.out]; exact Nat.le_refl _), List.append_nil]
      rw [e6] at h6
      have HS := Lib.hid h6
      have HT3 := Lib.hid (HT.out.below hb)
      clear h6 hD hb H6 e6 HDD
      go_wp2_with (first
        | (show wpList _ _ _ ({ dst := some 40, op := .load 45 (.tmp 7), type := _, pos := _, after := _, guard := _ } :: _) _ _; refine wpList_yields (S := fun w' => w'.rangeAt (B) 0 (bv l)) (y_sec (by rfl) (.tmp 7) (by rfl) (B) 0 (by rfl) l HL.out (fun _ h => h)) (rd_range (rd_blk HS.out)) ?_)
        | (go_at_call 19; refine (HH1.out _ HT3.out).mono ?_; rintro e w3 ⟨rfl, hb⟩; have HB3 := Lib.hid ((HB.out.trans (hb.mono HB.out.size)).alloc (Nat.le_trans HB.out.size hb.size) (.cells v.cells.toArray 44)); have HT3 := Lib.hid ((HT3.out.below hb).alloc (.cells v.cells.toArray 44)); have HS3 := Lib.hid ((Blk.keep HS.out hb).alloc (.cells v.cells.toArray 44)); clear hb)
        | (show wpList _ _ _ ({ dst := none, op := .store 44 (.tmp 9) (.tmp 43), type := _, pos := _, after := _, guard := _ } :: _) _ _; refine wpList_store_new rfl 44 (.tmp 9) (.tmp 43) rfl w3.heap.size rfl rfl v.cells.toArray oz.cells.toArray rfl (by rw [List.size_toArray, Oj.len]; exact size34) (by simp only [List.size_toArray, Oj.len]) (Oj.allOne _) ?_)
        | (show wpList _ _ _ ({ dst := some 46, op := .load 45 (.tmp 7), type := _, pos := _, after := _, guard := _ } :: _) _ _; refine wpList_yields (S := fun w' => w'.rangeAt (B) 0 (bv l)) (y_sec (by rfl) (.tmp 7) (by rfl) (B) 0 (by rfl) l HL.out (fun _ h => h)) (rd_range (rd_blk HS3.out)) ?_)
        | (go_at_call 20; refine (HH2.out _).mono ?_; rintro e w4 ⟨rfl, hb⟩; have HB4 := Lib.hid ((HB3.out.trans (hb.mono HB3.out.size)).alloc (Nat.le_trans HB3.out.size hb.size) (.cells v.cells.toArray 44)); have HT4 := Lib.hid ((HT3.out.below hb).alloc (.cells v.cells.toArray 44)); have HO4 := Lib.hid ((Blk.keep (Blk.new w3 44 v.cells.toArray) hb).alloc (.cells v.cells.toArray 44)); clear hb)
        | (show wpList _ _ _ ({ dst := none, op := .store 44 (.tmp 11) (.tmp 49), type := _, pos := _, after := _, guard := _ } :: _) _ _; refine wpList_store_new rfl 44 (.tmp 11) (.tmp 49) rfl w4.heap.size rfl rfl v.cells.toArray oz.cells.toArray rfl (by rw [List.size_toArray, Oj.len]; exact size34) (by simp only [List.size_toArray, Oj.len]) (Oj.allOne _) ?_)
        | (show wpList _ _ _ ({ dst := some 51, op := .load 44 (.tmp 9), type := _, pos := _, after := _, guard := _ } :: _) _ _; refine wpList_yields (S := fun w' => ObAt w' w3.heap.size 0 v) (y_ob (by rfl) (.tmp 9) (by rfl) w3.heap.size 0 (by rfl) v (fun _ h => h)) (HO4.out.ob) ?_)
        | (show wpList _ _ _ ({ dst := some 52, op := .load 44 (.tmp 11), type := _, pos := _, after := _, guard := _ } :: _) _ _; refine wpList_yields (S := fun w' => ObAt w' w4.heap.size 0 v) (y_ob (by rfl) (.tmp 11) (by rfl) w4.heap.size 0 (by rfl) v (fun _ h => h)) (Blk.ob (Blk.new w4 44 v.cells.toArray)) ?_)
        | (show wpList _ _ _ ({ dst := some 53, op := .binOp .eql 44 (.tmp 51) (.tmp 52) 44, type := _, pos := _, after := _, guard := _ } :: _) _ _; refine wpList_yields (S := fun _ => True) (y_obeq_self (by rfl) (by rfl) v (by rfl) (by rfl)) trivial ?_)
        | (go_at_call 13; refine (cnum_any _ _).mono ?_; rintro e y ⟨rfl, rfl⟩)
        | (go_at_call 14; refine (works_any _ HT4.out).mono ?_; rintro e w9 ⟨rfl, hb⟩; have B9 := Lib.hid (HB4.out.trans (hb.mono HB4.out.size)); clear hb))
      go_ret
      exact ⟨rfl, B9.out⟩
set_option maxRecDepth 8000 in
theorem walk (w : World) (hL : laidMetH Tryd.prog laidK w) (A : Option Addr) (m c : Nat) (l : List UInt8) (hm : l.length = m) (_ : m ≤ c) (hr : Rd w A l) (n : Int) :
    Calls Tryd.prog 7 #[.slice A m c, .int .i64 n] w fun e w' => e = .returned (.bool true) ∧ Below w.heap.size w w' := by
  by_cases h : 508 < m
  · exact walk_long w (tab_of hL) A m c n h
  · exact walk_short w (tab_of hL) A m c l n hm (by omega) hr
set_option maxRecDepth 100000 in
theorem lifted (os : Os) (started : os.Started) (H : Type) (enc : TypeId × Value → H) :
    ReturnsInHanded {} Tryd.checked os 7 .any (fun w args => (Rows.codecSealedSpec.pre enc Tryd.prog Tryd.f7 [] false w args ∧ laidMetH Tryd.prog laidK w) ∧ sizedMet enc Tryd.prog Tryd.f7 (OpenSpec.ofChange Rows.codecSealedSpec) false w args) (Rows.codecSealedSpec.post enc Tryd.prog Tryd.f7 false true false false) := by
  refine returnsInHanded_of_change_and (C := Tryd.checked) (X := fun w _ => laidMetH Tryd.prog laidK w) (fun _ _ _ hh h => h.of_heap hh) own started (by kernel_rfl) Tryd.func7
    (ChangeSpec.witness_shaped (enc := enc) (C := Tryd.checked) (os := os) (X := fun w _ => laidMetH Tryd.prog laidK w) false (World.doorLaid Tryd.prog 40 os) #[.slice none 0 0, .int .i64 0] 8 rfl (World.shaped_of_RefB (by kernel_rfl) (by kernel_rfl)) (by kernel_rfl) (by kernel_rfl) (by kernel_rfl) (door_met os _)) ?_
  intro W base args ds gs before hval0 hW _ _ hL _
  have hval : ∀ (j : Nat) t v, Tryd.f7.params[j]? = some t → args[j]? = some v → Value.okWide Tryd.prog W .any base t v := hval0
  have hW' := hW
  obtain ⟨p, q, hA0, hV, rfl, hfz, hnd⟩ := hW
  have hA : DataW.TrodAll enc Tryd.prog W 0 (fun _ => true) true Tryd.f7.params.toList args.toList ds p := hA0
  rw [Tryd.params7] at hA hval
  obtain ⟨v0, vs0, d0, ds0, p0, q0, hargs, rfl, rfl, h0, t0⟩ := trodAll_cons hA
  obtain ⟨v1, vs1, d1, ds1, p1, q1, rfl, rfl, rfl, h1, t1⟩ := trodAll_cons t0
  obtain ⟨rfl, rfl, rfl⟩ := trodAll_nil t1
  obtain rfl : args = #[v0, v1] := by cases args; simp_all
  obtain ⟨rfl, rfl⟩ := trodVars_none hV
  have k0 := h0
  have lt0 : ∀ x ∈ p0, x.block < W.heap.size := by obtain ⟨m, hm⟩ := k0; exact DataW.trod_lt m _ _ _ hm
  obtain ⟨B0, len0, cap0, rfl⟩ := okWide_slice Tryd.underlying26 (hval 0 26 v0 rfl rfl)
  obtain ⟨l0, hl0, hc0, hr0⟩ : ∃ l : List UInt8, l.length = len0 ∧ len0 ≤ cap0 ∧ Rd W B0 l := open_by h0
  have k1 := h1
  have lt1 : ∀ x ∈ p1, x.block < W.heap.size := by obtain ⟨m, hm⟩ := k1; exact DataW.trod_lt m _ _ _ hm
  obtain ⟨a1, rfl, rfl, rfl, _⟩ := open_int Tryd.underlying3 (hval 1 3 v1 rfl rfl) h1
  clear hA0 hval0
  refine (walk W hL B0 len0 cap0 l0 hl0 hc0 hr0 a1).mono fun e W' ⟨he, bel⟩ => ?_
  subst he
  exact ⟨_, rfl, _, _, _, [], _, [], hW', trodAll_mk1 (shut_bool Tryd.underlying4 _), (trodAll_cons_mk (Below.trod laidOut (by kernel_rfl) (of_decide_eq_true (by kernel_rfl)) k0 bel lt0) (trodAll_cons_mk (Below.trod laidOut (by kernel_rfl) (of_decide_eq_true (by kernel_rfl)) k1 bel lt1) trodAll_mk0)), rfl, bel.frame _, fun h => by cases h⟩
theorem over : Rows.codecSealedRow.holds Tryd.pinned (OpenSpec.ofChange Rows.codecSealedSpec) :=
  OpenClaim.holds_of_wide 7 Tryd.f7 rfl rfl rfl rfl rfl rfl rfl ⟨rfl, rfl, rfl, rfl, rfl⟩ rfl rfl rfl rfl rfl (by kernel_rfl) Tryd.func7 (by kernel_rfl)
    (of_decide_eq_true (by kernel_rfl)) (by unfold Func.isWrapper; first | (rw [if_pos (by decide +kernel)]; kernel_rfl) | (rw [if_neg (by decide +kernel)]; exact ⟨rfl, rfl⟩))
    (fun os started H enc _ => lifted os started H enc)
set_option maxRecDepth 8000 in
theorem proved : Rows.CodecSealedCardSaid :=
  Claim7.holds_tied_plain_at .later [] [.data] true Rows.codecSealedCard.stood.harness true
    over (fun _ h => by cases h) (by kernel_rfl) (fun _ h => by cases h) codecSealed_row_tie rfl ⟨rfl, rfl⟩ (by kernel_rfl) rfl
    (fun f fn hf hfn => by
      obtain rfl : f = 7 := Option.some.inj ((show Tryd.prog.funcNamed "chatelaine/chatelainelaw05.CodecSealed" = some 7 by kernel_rfl).symm.trans hf) |>.symm
      obtain rfl : fn = Tryd.f7 := (Option.some.inj (Tryd.func7.symm.trans hfn)).symm
      exact ⟨by kernel_rfl, fun j t ht => by
        rw [Tryd.params7] at ht
        have hm : t ∈ [26, 3] := by simpa using Array.mem_of_getElem? ht
        have hall : ([26, 3].all fun u => !Tryd.prog.wantsStandIn u) = true := by kernel_rfl
        exact (show Tryd.prog.wantsStandIn t = false by simpa using List.all_eq_true.1 hall t hm)⟩)
    (by kernel_rfl)
end Go.Proofs.YtjfpmadnlpcpfaaDoor.codecSealed

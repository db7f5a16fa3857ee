/- banks: ask: what is asked of a bank, or the error. -/
import Derived.Test.YteodgefnbmiblaaDoorBIsb
namespace Go.Proofs.YteodgefnbmiblaaDoor
open Go.RowKit
section
variable {w : World} {base p : Nat} {A : Option Addr} {cap : Nat} {ps : List Nat} {os : List Oj}
set_option maxRecDepth 100000 in
set_option maxHeartbeats 4000000 in
theorem bask_nil (x : Ky) :
    Calls Tryd.prog 52 #[.pointer none, x.val] w fun e w' => e = .panicked (erc 1) ∧ Below w.heap.size w w' := by
  have hz := z34
  have hz2 := zB
  have hbl := oz_len
  have hbl2 := zbkc_len
  have HB0 := Lib.hid (((Below.refl w.heap.size w).alloc (Nat.le_refl _) (.cells (kc x.k x.o x.c x.l x.r x.v) 33)).alloc (by simp) (.cells zbkc.toArray 78))
  go_enter Tryd.func52, Tryd.ntmps52
  go_wp2_with (go_at_call 68; refine (size_nil _).mono ?_; rintro e w1 ⟨rfl, rfl⟩)
  exact ⟨rfl, rfl, HB0.out⟩
set_option maxRecDepth 100000 in
set_option maxHeartbeats 4000000 in
theorem bask_none (h : StAt w base p A cap ps []) (x : Ky) :
    Calls Tryd.prog 52 #[pv p, x.val] w fun e w' => e = .panicked (erc 1) ∧ Below w.heap.size w w' := by
  have hz := z34
  have hz2 := zB
  have hbl := oz_len
  have hbl2 := zbkc_len
  have HB0 := Lib.hid (((Below.refl w.heap.size w).alloc (Nat.le_refl _) (.cells (kc x.k x.o x.c x.l x.r x.v) 33)).alloc (by simp) (.cells zbkc.toArray 78))
  have HS0 := Lib.hid ((h.alloc (.cells (kc x.k x.o x.c x.l x.r x.v) 33)).alloc (.cells zbkc.toArray 78))
  clear h
  go_enter Tryd.func52, Tryd.ntmps52
  go_wp2_with (go_at_call 68; refine (size_none HS0.out).mono ?_; rintro e w1 ⟨rfl, rfl⟩)
  exact ⟨rfl, rfl, HB0.out⟩
set_option maxRecDepth 100000 in
set_option maxHeartbeats 4000000 in
theorem bask_un (h : StAt w base p A cap ps os) (hn : 0 < os.length) (hT : Tab w) (x : Ky) (hx : named os x = none) :
    Calls Tryd.prog 52 #[pv p, x.val] w fun e w' => e = .panicked (erc 190) ∧ Below w.heap.size w w' := by
  have HX := Lib.hid hx
  clear hx
  have hz := z34
  have hz2 := zB
  have hbl := oz_len
  have hbl2 := zbkc_len
  obtain ⟨m, hm⟩ : ∃ m : Int, m = (os.length : Int) := ⟨_, rfl⟩
  have dm : (m == 0) = false := by simp; omega
  have HM := Lib.hid hm
  clear hm
  have HN := Lib.hid hn
  have HT0 := Lib.hid ((hT.alloc (.cells (kc x.k x.o x.c x.l x.r x.v) 33)).alloc (.cells zbkc.toArray 78))
  have HS0 := Lib.hid ((h.alloc (.cells (kc x.k x.o x.c x.l x.r x.v) 33)).alloc (.cells zbkc.toArray 78))
  clear hT h hn
  have HB0 := Lib.hid (((Below.refl w.heap.size w).alloc (Nat.le_refl _) (.cells (kc x.k x.o x.c x.l x.r x.v) 33)).alloc (by simp) (.cells zbkc.toArray 78))
  have HK0 := Lib.hid ((Blk.new w 33 (kc x.k x.o x.c x.l x.r x.v)).alloc (.cells zbkc.toArray 78))
  have HA0 := Lib.hid (Blk.new_of (w.alloc (.cells (kc x.k x.o x.c x.l x.r x.v) 33)) 78 zbkc.toArray (g := w.heap.size + 1) (by simp))
  go_enter Tryd.func52, Tryd.ntmps52
  go_wp2_with (first
    | (go_at_call 68; refine (size_m HS0.out HN.out HM.out).mono ?_; rintro e w1 ⟨rfl, rfl⟩)
    | (go_at_call 17; refine (nm_none HS0.out HN.out HT0.out HX.out).mono ?_; rintro e w2 ⟨rfl, b2⟩; have HB2 := Lib.hid ((HB0.out.trans (b2.mono HB0.out.size)).alloc (Nat.le_trans HB0.out.size b2.size) (.cells (oz).cells.toArray 47)); have HK2 := Lib.hid ((HK0.out.keep b2).alloc (.cells (oz).cells.toArray 47)); have HA2 := Lib.hid ((HA0.out.keep b2).alloc (.cells (oz).cells.toArray 47)); have HG2 := Lib.hid (Blk.new w2 47 (oz).cells.toArray); have HS2 := Lib.hid ((HS0.out.below b2).alloc (.cells (oz).cells.toArray 47)); obtain ⟨c0, c1, c2, c3, c4, c5⟩ := HK2.out.six; clear b2)
    | (show wpList _ _ _ ({ dst := none, op := .store _ (.tmp 5) (.tmp 16), type := _, pos := _, after := _, guard := _ } :: _) _ _; refine wpList_store_last rfl (.tmp 5) (.tmp 16) rfl _ rfl rfl (oz) oz rfl ?_))
  exact ⟨rfl, rfl, HB2.out⟩
set_option maxRecDepth 100000 in
set_option maxHeartbeats 4000000 in
theorem bask_kind (h : StAt w base p A cap ps os) (hn : 0 < os.length) (hT : Tab w) (x : Ky) (u : Oj) (hx : named os x = some u) (hk : x.k ≠ 4) :
    Calls Tryd.prog 52 #[pv p, x.val] w fun e w' => e = .panicked (erc 190) ∧ Below w.heap.size w w' := by
  have HX := Lib.hid hx
  have dk : (x.k != 4) = true := by simpa using hk
  clear hx hk
  have hz := z34
  have hz2 := zB
  have hbl := oz_len
  have hbl2 := zbkc_len
  obtain ⟨m, hm⟩ : ∃ m : Int, m = (os.length : Int) := ⟨_, rfl⟩
  have dm : (m == 0) = false := by simp; omega
  have HM := Lib.hid hm
  clear hm
  have HN := Lib.hid hn
  have HT0 := Lib.hid ((hT.alloc (.cells (kc x.k x.o x.c x.l x.r x.v) 33)).alloc (.cells zbkc.toArray 78))
  have HS0 := Lib.hid ((h.alloc (.cells (kc x.k x.o x.c x.l x.r x.v) 33)).alloc (.cells zbkc.toArray 78))
  clear hT h hn
  have HB0 := Lib.hid (((Below.refl w.heap.size w).alloc (Nat.le_refl _) (.cells (kc x.k x.o x.c x.l x.r x.v) 33)).alloc (by simp) (.cells zbkc.toArray 78))
  have HK0 := Lib.hid ((Blk.new w 33 (kc x.k x.o x.c x.l x.r x.v)).alloc (.cells zbkc.toArray 78))
  have HA0 := Lib.hid (Blk.new_of (w.alloc (.cells (kc x.k x.o x.c x.l x.r x.v) 33)) 78 zbkc.toArray (g := w.heap.size + 1) (by simp))
  go_enter Tryd.func52, Tryd.ntmps52
  go_wp2_with (first
    | (go_at_call 68; refine (size_m HS0.out HN.out HM.out).mono ?_; rintro e w1 ⟨rfl, rfl⟩)
    | (go_at_call 17; refine (nm_some HS0.out HN.out HT0.out HX.out).mono ?_; rintro e w2 ⟨rfl, b2⟩; have HB2 := Lib.hid ((HB0.out.trans (b2.mono HB0.out.size)).alloc (Nat.le_trans HB0.out.size b2.size) (.cells (u).cells.toArray 47)); have HK2 := Lib.hid ((HK0.out.keep b2).alloc (.cells (u).cells.toArray 47)); have HA2 := Lib.hid ((HA0.out.keep b2).alloc (.cells (u).cells.toArray 47)); have HG2 := Lib.hid (Blk.new w2 47 (u).cells.toArray); have HS2 := Lib.hid ((HS0.out.below b2).alloc (.cells (u).cells.toArray 47)); obtain ⟨c0, c1, c2, c3, c4, c5⟩ := HK2.out.six; clear b2)
    | (show wpList _ _ _ ({ dst := none, op := .store _ (.tmp 5) (.tmp 16), type := _, pos := _, after := _, guard := _ } :: _) _ _; refine wpList_store_last rfl (.tmp 5) (.tmp 16) rfl _ rfl rfl (u) oz rfl ?_))
  exact ⟨rfl, rfl, HB2.out⟩
set_option maxRecDepth 100000 in
set_option maxHeartbeats 4000000 in
theorem bask_bank (h : StAt w base p A cap ps os) (hn : 0 < os.length) (hT : Tab w) (x : Ky) (u : Oj) (hx : named os x = some u) (hk : x.k = 4) (hb : ¬ BkP os.length u) :
    Calls Tryd.prog 52 #[pv p, x.val] w fun e w' => e = .panicked (erc 220) ∧ Below w.heap.size w w' := by
  have HX := Lib.hid hx
  have dk : (x.k != 4) = false := by simpa using hk
  have HBK := Lib.hid (show decide (BkP os.length u) = false from decide_eq_false hb)
  clear hx hk hb
  have hz := z34
  have hz2 := zB
  have hbl := oz_len
  have hbl2 := zbkc_len
  obtain ⟨m, hm⟩ : ∃ m : Int, m = (os.length : Int) := ⟨_, rfl⟩
  have dm : (m == 0) = false := by simp; omega
  have HM := Lib.hid hm
  clear hm
  have HN := Lib.hid hn
  have HT0 := Lib.hid ((hT.alloc (.cells (kc x.k x.o x.c x.l x.r x.v) 33)).alloc (.cells zbkc.toArray 78))
  have HS0 := Lib.hid ((h.alloc (.cells (kc x.k x.o x.c x.l x.r x.v) 33)).alloc (.cells zbkc.toArray 78))
  clear hT h hn
  have HB0 := Lib.hid (((Below.refl w.heap.size w).alloc (Nat.le_refl _) (.cells (kc x.k x.o x.c x.l x.r x.v) 33)).alloc (by simp) (.cells zbkc.toArray 78))
  have HK0 := Lib.hid ((Blk.new w 33 (kc x.k x.o x.c x.l x.r x.v)).alloc (.cells zbkc.toArray 78))
  have HA0 := Lib.hid (Blk.new_of (w.alloc (.cells (kc x.k x.o x.c x.l x.r x.v) 33)) 78 zbkc.toArray (g := w.heap.size + 1) (by simp))
  have hbk := bkc_len p x.o u
  go_enter Tryd.func52, Tryd.ntmps52
  go_wp2_with (first
    | (go_at_call 68; refine (size_m HS0.out HN.out HM.out).mono ?_; rintro e w1 ⟨rfl, rfl⟩)
    | (go_at_call 17; refine (nm_some HS0.out HN.out HT0.out HX.out).mono ?_; rintro e w2 ⟨rfl, b2⟩; have HB2 := Lib.hid ((HB0.out.trans (b2.mono HB0.out.size)).alloc (Nat.le_trans HB0.out.size b2.size) (.cells (u).cells.toArray 47)); have HK2 := Lib.hid ((HK0.out.keep b2).alloc (.cells (u).cells.toArray 47)); have HA2 := Lib.hid ((HA0.out.keep b2).alloc (.cells (u).cells.toArray 47)); have HG2 := Lib.hid (Blk.new w2 47 (u).cells.toArray); have HS2 := Lib.hid ((HS0.out.below b2).alloc (.cells (u).cells.toArray 47)); obtain ⟨c0, c1, c2, c3, c4, c5⟩ := HK2.out.six; clear b2)
    | (show wpList _ _ _ ({ dst := none, op := .store _ (.tmp 5) (.tmp 16), type := _, pos := _, after := _, guard := _ } :: _) _ _; refine wpList_store_last rfl (.tmp 5) (.tmp 16) rfl _ rfl rfl (u) oz rfl ?_)
    | (show wpList _ _ _ ({ dst := some 26, op := .load _ _, type := _, pos := _, after := _, guard := _ } :: _) _ _; refine wpList_yields (S := fun w' => ObAt w' w2.heap.size 0 u) (y_ob (by rfl) (.tmp 5) (by rfl) w2.heap.size 0 (by rfl) u (fun _ h => h)) HG2.out.ob ?_)
    | (show wpList _ _ _ ({ dst := some 30, op := .build _ _, type := _, pos := _, after := _, guard := _ } :: _) _ _; refine wpList_yields (S := fun _ => True) (y_buildB (by rfl) (.tmp 26) (.tmp 28) (.tmp 29) (by rfl) p x.o u (by rfl) (by rfl) (by rfl)) trivial ?_)
    | (show wpList _ _ _ ({ dst := none, op := .store _ (.tmp 7) (.tmp 30), type := _, pos := _, after := _, guard := _ } :: _) _ _; refine wpList_store_new (l := bkc p x.o u) (l0 := zbkc) (ty := 78) rfl (.tmp 7) (.tmp 30) (by rfl) (w2.heap.size + 1) (by simp) (by rfl) (by rfl) (by rw [bkc_len]; exact sizeB) (by rw [bkc_len, zbkc_len]) (bkc_one _ _ _) ?_; have HA3 := Lib.hid (HA2.out.alloc (.cells (bkc p x.o u).toArray 78)); have HG3 := Lib.hid (Blk.new_of (w2.alloc (.cells u.cells.toArray 47)) 78 (bkc p x.o u).toArray (g := w2.heap.size + 1) (by simp)); have HB3 := Lib.hid (HB2.out.alloc HB2.out.size (.cells (bkc p x.o u).toArray 78)); have HS3 := Lib.hid (HS2.out.alloc (.cells (bkc p x.o u).toArray 78)))
    | (show wpList _ _ _ ({ dst := some 31, op := .load _ _, type := _, pos := _, after := _, guard := _ } :: _) _ _; refine wpList_yields (S := fun w' => BkAt w' _ 0 p x.o u) (y_bk (by rfl) (.tmp 7) (by rfl) _ 0 (by rfl) p x.o u (fun _ h => h)) HG3.out.bk ?_)
    | (go_at_call 69; refine (isb_any HS3.out HN.out x.o u).mono ?_; rw [HBK.out]; rintro e w4 ⟨rfl, b4⟩; have HA4 := Lib.hid (HA3.out.keep b4); have HG4 := Lib.hid (HG3.out.keep b4); have HB4 := Lib.hid (HB3.out.trans (b4.mono HB3.out.size)); clear b4))
  exact ⟨rfl, rfl, HB4.out⟩
set_option maxRecDepth 100000 in
set_option maxHeartbeats 4000000 in
theorem bask_yes (h : StAt w base p A cap ps os) (hn : 0 < os.length) (hT : Tab w) (x : Ky) (u : Oj) (hx : named os x = some u) (hk : x.k = 4) (hb : BkP os.length u) :
    Calls Tryd.prog 52 #[pv p, x.val] w fun e w' => e = .returned (bkv p x.o u) ∧ Below w.heap.size w w' := by
  have HX := Lib.hid hx
  have dk : (x.k != 4) = false := by simpa using hk
  have HBK := Lib.hid (show decide (BkP os.length u) = true from decide_eq_true hb)
  clear hx hk hb
  have hz := z34
  have hz2 := zB
  have hbl := oz_len
  have hbl2 := zbkc_len
  obtain ⟨m, hm⟩ : ∃ m : Int, m = (os.length : Int) := ⟨_, rfl⟩
  have dm : (m == 0) = false := by simp; omega
  have HM := Lib.hid hm
  clear hm
  have HN := Lib.hid hn
  have HT0 := Lib.hid ((hT.alloc (.cells (kc x.k x.o x.c x.l x.r x.v) 33)).alloc (.cells zbkc.toArray 78))
  have HS0 := Lib.hid ((h.alloc (.cells (kc x.k x.o x.c x.l x.r x.v) 33)).alloc (.cells zbkc.toArray 78))
  clear hT h hn
  have HB0 := Lib.hid (((Below.refl w.heap.size w).alloc (Nat.le_refl _) (.cells (kc x.k x.o x.c x.l x.r x.v) 33)).alloc (by simp) (.cells zbkc.toArray 78))
  have HK0 := Lib.hid ((Blk.new w 33 (kc x.k x.o x.c x.l x.r x.v)).alloc (.cells zbkc.toArray 78))
  have HA0 := Lib.hid (Blk.new_of (w.alloc (.cells (kc x.k x.o x.c x.l x.r x.v) 33)) 78 zbkc.toArray (g := w.heap.size + 1) (by simp))
  have hbk := bkc_len p x.o u
  go_enter Tryd.func52, Tryd.ntmps52
  go_wp2_with (first
    | (go_at_call 68; refine (size_m HS0.out HN.out HM.out).mono ?_; rintro e w1 ⟨rfl, rfl⟩)
    | (go_at_call 17; refine (nm_some HS0.out HN.out HT0.out HX.out).mono ?_; rintro e w2 ⟨rfl, b2⟩; have HB2 := Lib.hid ((HB0.out.trans (b2.mono HB0.out.size)).alloc (Nat.le_trans HB0.out.size b2.size) (.cells (u).cells.toArray 47)); have HK2 := Lib.hid ((HK0.out.keep b2).alloc (.cells (u).cells.toArray 47)); have HA2 := Lib.hid ((HA0.out.keep b2).alloc (.cells (u).cells.toArray 47)); have HG2 := Lib.hid (Blk.new w2 47 (u).cells.toArray); have HS2 := Lib.hid ((HS0.out.below b2).alloc (.cells (u).cells.toArray 47)); obtain ⟨c0, c1, c2, c3, c4, c5⟩ := HK2.out.six; clear b2)
    | (show wpList _ _ _ ({ dst := none, op := .store _ (.tmp 5) (.tmp 16), type := _, pos := _, after := _, guard := _ } :: _) _ _; refine wpList_store_last rfl (.tmp 5) (.tmp 16) rfl _ rfl rfl (u) oz rfl ?_)
    | (show wpList _ _ _ ({ dst := some 26, op := .load _ _, type := _, pos := _, after := _, guard := _ } :: _) _ _; refine wpList_yields (S := fun w' => ObAt w' w2.heap.size 0 u) (y_ob (by rfl) (.tmp 5) (by rfl) w2.heap.size 0 (by rfl) u (fun _ h => h)) HG2.out.ob ?_)
    | (show wpList _ _ _ ({ dst := some 30, op := .build _ _, type := _, pos := _, after := _, guard := _ } :: _) _ _; refine wpList_yields (S := fun _ => True) (y_buildB (by rfl) (.tmp 26) (.tmp 28) (.tmp 29) (by rfl) p x.o u (by rfl) (by rfl) (by rfl)) trivial ?_)
    | (show wpList _ _ _ ({ dst := none, op := .store _ (.tmp 7) (.tmp 30), type := _, pos := _, after := _, guard := _ } :: _) _ _; refine wpList_store_new (l := bkc p x.o u) (l0 := zbkc) (ty := 78) rfl (.tmp 7) (.tmp 30) (by rfl) (w2.heap.size + 1) (by simp) (by rfl) (by rfl) (by rw [bkc_len]; exact sizeB) (by rw [bkc_len, zbkc_len]) (bkc_one _ _ _) ?_; have HA3 := Lib.hid (HA2.out.alloc (.cells (bkc p x.o u).toArray 78)); have HG3 := Lib.hid (Blk.new_of (w2.alloc (.cells u.cells.toArray 47)) 78 (bkc p x.o u).toArray (g := w2.heap.size + 1) (by simp)); have HB3 := Lib.hid (HB2.out.alloc HB2.out.size (.cells (bkc p x.o u).toArray 78)); have HS3 := Lib.hid (HS2.out.alloc (.cells (bkc p x.o u).toArray 78)))
    | (show wpList _ _ _ ({ dst := some 31, op := .load _ _, type := _, pos := _, after := _, guard := _ } :: _) _ _; refine wpList_yields (S := fun w' => BkAt w' _ 0 p x.o u) (y_bk (by rfl) (.tmp 7) (by rfl) _ 0 (by rfl) p x.o u (fun _ h => h)) HG3.out.bk ?_)
    | (go_at_call 69; refine (isb_any HS3.out HN.out x.o u).mono ?_; rw [HBK.out]; rintro e w4 ⟨rfl, b4⟩; have HA4 := Lib.hid (HA3.out.keep b4); have HG4 := Lib.hid (HG3.out.keep b4); have HB4 := Lib.hid (HB3.out.trans (b4.mono HB3.out.size)); clear b4)
    | (show wpList _ _ _ ({ dst := some 35, op := .load _ _, type := _, pos := _, after := _, guard := _ } :: _) _ _; refine wpList_yields (S := fun w' => BkAt w' _ 0 p x.o u) (y_bk (by rfl) (.tmp 7) (by rfl) _ 0 (by rfl) p x.o u (fun _ h => h)) HG4.out.bk ?_)
    | (show wpList _ _ _ ({ dst := none, op := .store _ (.tmp 4) (.tmp 35), type := _, pos := _, after := _, guard := _ } :: _) _ _; refine wpList_store_big HA4.out rfl (.tmp 4) (.tmp 35) (ty := 78) (l := bkc p x.o u) rfl (by rfl) (by rfl) (by rw [bkc_len]; exact sizeB) (by rw [bkc_len, zbkc_len]) (bkc_one _ _ _) ?_))
  exact bodyPost_ret (res_1 rfl _ _ (w.heap.size + 1) _ rfl (load_bk p x.o u (HA4.out.setRow _))) rfl ⟨rfl, below_setRow HB4.out (by omega) _⟩
set_option maxRecDepth 8000 in
theorem bask_no (h : StAt w base p A cap ps os) (hn : 0 < os.length) (hT : Tab w) (x : Ky) (hx : ¬ bnkN os x) : Calls Tryd.prog 52 #[pv p, x.val] w fun e w' => e = .panicked (erc 190) ∧ Below w.heap.size w w' := by
  cases hq : named os x with
  | none => exact bask_un h hn hT x hq
  | some u => exact bask_kind h hn hT x u hq (fun hk => hx ⟨by rw [hq]; rfl, hk⟩)
end
end Go.Proofs.YteodgefnbmiblaaDoor

/- procs: Answer, Become, Told, behind their faces; State. -/
import Derived.Test.YtljfddeolapeaaaDoorJTo
import Derived.Test.YtljfddeolapeaaaDoorJFc
namespace Go.Proofs.YtljfddeolapeaaaDoor
open Go.RowKit
section
variable {w : World} {base p : Nat} {A : Option Addr} {cap : Nat} {ps : List Nat} {os : List Oj} {pt it gt ut : TypeId} {S I G U : Nat}
set_option maxRecDepth 100000 in
set_option maxHeartbeats 4000000 in
theorem an_no1 (m : Mg) (i : Int) (hS : Blk w S pt #[pv p]) (hG : Blk w G gt m.cells.toArray) (_ : Blk w I it #[.int .i64 i]) (n : Int) (hpr : ∀ W, Below w.heap.size w W → Calls Tryd.prog 38 #[pv p, m.val] W fun e w' => e = .panicked (erc n) ∧ Below W.heap.size W w') : Calls Tryd.prog 61 #[.pointer (some ⟨S, 0, none⟩), .pointer (some ⟨G, 0, none⟩), .pointer (some ⟨I, 0, none⟩)] w fun e w' => e = .panicked (erc n) ∧ Below w.heap.size w w' := by
  have hz := zM
  have hz2 := zJ
  have hzl := mz.len
  have hzj := jc_len none 0 oz
  have HG0 := Lib.hid hG
  have HPR := Lib.hid hpr
  have hs1 := hS.one
  clear hS hG hpr
  go_enter_defers Tryd.func61, Tryd.ntmps61
  go_wp2_with (first
    | (show wpList _ _ _ (Oper.mk (some 6) (.load _ _) _ _ _ _ :: _) _ _; refine wpList_yields (S := fun w' => MgAt w' G 0 m) (y_mg (by rfl) (.tmp 1) (by rfl) G 0 (by rfl) m (fun _ h => h)) HG0.out.mg ?_)
    | (go_at_call 38; refine (HPR.out _ (Below.refl _ _)).mono ?_; rintro e w1 ⟨rfl, b1⟩; have HB1 := Lib.hid b1; clear b1))
  exact ⟨rfl, HB1.out⟩
set_option maxRecDepth 100000 in
set_option maxHeartbeats 4000000 in
theorem an_no2 (m : Mg) (i : Int) (hS : Blk w S pt #[pv p]) (hG : Blk w G gt m.cells.toArray) (hI : Blk w I it #[.int .i64 i]) (hpr : ∀ W, Below w.heap.size w W → Calls Tryd.prog 38 #[pv p, m.val] W fun e w' => e = .returned (cntM os m).val ∧ Below W.heap.size W w') (n : Int) (hru : ∀ W, Below w.heap.size w W → Calls Tryd.prog 39 #[pv p, .int .i64 i] W fun e w' => e = .panicked (erc n) ∧ Below W.heap.size W w') : Calls Tryd.prog 61 #[.pointer (some ⟨S, 0, none⟩), .pointer (some ⟨G, 0, none⟩), .pointer (some ⟨I, 0, none⟩)] w fun e w' => e = .panicked (erc n) ∧ Below w.heap.size w w' := by
  have hz := zM
  have hz2 := zJ
  have hzl := mz.len
  have hzj := jc_len none 0 oz
  have hml := (cntM os m).len
  have HG0 := Lib.hid hG
  have HS0 := Lib.hid hS
  have HI0 := Lib.hid hI
  have HPR := Lib.hid hpr
  have hs1 := hS.one
  have HRU := Lib.hid hru
  clear hS hG hI hpr hru
  go_enter_defers Tryd.func61, Tryd.ntmps61
  go_wp2_with (first
    | (show wpList _ _ _ (Oper.mk (some 6) (.load _ _) _ _ _ _ :: _) _ _; refine wpList_yields (S := fun w' => MgAt w' G 0 m) (y_mg (by rfl) (.tmp 1) (by rfl) G 0 (by rfl) m (fun _ h => h)) HG0.out.mg ?_)
    | (go_at_call 38; refine (HPR.out _ (Below.refl _ _)).mono ?_; rintro e w1 ⟨rfl, b1⟩; have HB1 := Lib.hid (b1.alloc b1.size (.cells (cntM os m).cells.toArray 38)); have HM1 := Lib.hid (Blk.new w1 38 (cntM os m).cells.toArray); have HS1 := Lib.hid ((HS0.out.keep b1).alloc (.cells (cntM os m).cells.toArray 38)); have HI1 := Lib.hid ((HI0.out.keep b1).alloc (.cells (cntM os m).cells.toArray 38)); clear b1 hs1; have hs1 := HS1.out.one; have hi1 := HI1.out.one)
    | (show wpList _ _ _ (Oper.mk none (.store _ (.tmp 3) (.tmp 7)) _ _ _ _ :: _) _ _; refine wpList_store_new (l := (cntM os m).cells) (l0 := mz.cells) (ty := 38) rfl (.tmp 3) (.tmp 7) (by rfl) w1.heap.size rfl (by rfl) (by rfl) (by rw [Mg.len]; exact sizeM) (by rw [Mg.len, Mg.len]) (Mg.one _) ?_)
    | (go_at_call 39; refine (HRU.out _ HB1.out).mono ?_; rintro e w2 ⟨rfl, b2⟩; have HB2 := Lib.hid (HB1.out.trans (b2.mono HB1.out.size)); clear b2))
  exact ⟨rfl, HB2.out⟩
set_option maxRecDepth 100000 in
set_option maxHeartbeats 4000000 in
theorem an_yes (h : StAt w base p A cap ps os) (hT : TabB base w) (m : Mg) (i : Int) (j : Nat) (hij : i = (j : Int)) (hj : j < os.length) (hd : m.d.length ≤ 32) (hok : (handO (objA os i) (cntM os m) zk).ok os.length) (hS : Blk w S pt #[pv p]) (hG : Blk w G gt m.cells.toArray) (hI : Blk w I it #[.int .i64 i]) (hpr : ∀ W, Below w.heap.size w W → Calls Tryd.prog 38 #[pv p, m.val] W fun e w' => e = .returned (cntM os m).val ∧ Below W.heap.size W w') (hru : ∀ W, Below w.heap.size w W → Calls Tryd.prog 39 #[pv p, .int .i64 i] W fun e w' => e = .returned (jv (some ⟨p, 0, none⟩) i (objA os i)) ∧ Below W.heap.size W w') : Calls Tryd.prog 61 #[.pointer (some ⟨S, 0, none⟩), .pointer (some ⟨G, 0, none⟩), .pointer (some ⟨I, 0, none⟩)] w fun e w' => e = .returned (.tuple #[]) ∧ StAt w' base p A cap ps (os.set j (handO (objA os i) (cntM os m) zk)) ∧ Fr (fun k => k ∈ ps) w w' := by
  have hz := zM
  have hz2 := zJ
  have hzl := mz.len
  have hzj := jc_len none 0 oz
  have hml := (cntM os m).len
  have HG0 := Lib.hid hG
  have HS0 := Lib.hid hS
  have HI0 := Lib.hid hI
  have HPR := Lib.hid hpr
  have hs1 := hS.one
  have hjl := jc_len (some ⟨p, 0, none⟩) i (objA os i)
  have HRU := Lib.hid hru
  have HST := Lib.hid h
  have HT := Lib.hid hT
  have HIJ := Lib.hid hij
  have HJ := Lib.hid hj
  have HD := Lib.hid hd
  have HOK := Lib.hid hok
  clear hS hG hI hpr hru h hT hij hj hd hok
  go_enter_defers Tryd.func61, Tryd.ntmps61
  go_wp2_with (first
    | (show wpList _ _ _ (Oper.mk (some 6) (.load _ _) _ _ _ _ :: _) _ _; refine wpList_yields (S := fun w' => MgAt w' G 0 m) (y_mg (by rfl) (.tmp 1) (by rfl) G 0 (by rfl) m (fun _ h => h)) HG0.out.mg ?_)
    | (go_at_call 38; refine (HPR.out _ (Below.refl _ _)).mono ?_; rintro e w1 ⟨rfl, b1⟩; have HB1 := Lib.hid (b1.alloc b1.size (.cells (cntM os m).cells.toArray 38)); have HM1 := Lib.hid (Blk.new w1 38 (cntM os m).cells.toArray); have HS1 := Lib.hid ((HS0.out.keep b1).alloc (.cells (cntM os m).cells.toArray 38)); have HI1 := Lib.hid ((HI0.out.keep b1).alloc (.cells (cntM os m).cells.toArray 38)); clear b1 hs1; have hs1 := HS1.out.one; have hi1 := HI1.out.one)
    | (show wpList _ _ _ (Oper.mk none (.store _ (.tmp 3) (.tmp 7)) _ _ _ _ :: _) _ _; refine wpList_store_new (l := (cntM os m).cells) (l0 := mz.cells) (ty := 38) rfl (.tmp 3) (.tmp 7) (by rfl) w1.heap.size rfl (by rfl) (by rfl) (by rw [Mg.len]; exact sizeM) (by rw [Mg.len, Mg.len]) (Mg.one _) ?_)
    | (go_at_call 39; refine (HRU.out _ HB1.out).mono ?_; rintro e w2 ⟨rfl, b2⟩; have HB2 := Lib.hid ((HB1.out.trans (b2.mono HB1.out.size)).alloc (Nat.le_trans HB1.out.size b2.size) (.cells (jc (some ⟨p, 0, none⟩) i (objA os i)).toArray 93)); have HM2 := Lib.hid ((HM1.out.keep b2).alloc (.cells (jc (some ⟨p, 0, none⟩) i (objA os i)).toArray 93)); have HU2 := Lib.hid (NdB.own (Blk.new w2 93 (jc (some ⟨p, 0, none⟩) i (objA os i)).toArray)); have HGE := Lib.hid (Nat.le_trans HB1.out.size b2.size); clear b2 hs1 hi1)
    | (show wpList _ _ _ (Oper.mk none (.store _ (.tmp 4) (.tmp 10)) _ _ _ _ :: _) _ _; refine wpList_store_new (l := jc (some ⟨p, 0, none⟩) i (objA os i)) (l0 := jc none 0 oz) (ty := 93) rfl (.tmp 4) (.tmp 10) (by rfl) w2.heap.size rfl (by rfl) (by rfl) (by rw [jc_len]; exact sizeJ) (by rw [jc_len, jc_len]) (jc_one _ _ _) ?_)
    | (show wpList _ _ _ (Oper.mk (some 11) (.load _ _) _ _ _ _ :: _) _ _; refine wpList_yields (S := fun w' => MgAt w' w1.heap.size 0 (cntM os m)) (y_mg (by rfl) (.tmp 3) (by rfl) w1.heap.size 0 (by rfl) (cntM os m) (fun _ h => h)) HM2.out.mg ?_)
    | (show wpList _ _ _ (Oper.mk (some 12) (.build _ _) _ _ _ _ :: _) _ _; refine wpList_yields (S := fun _ => True) (y_build (by rfl) (by rfl) built30) trivial ?_)
    | (go_at_call 63; refine (hand_any HU2.out (cntM os m) HD.out zk).mono ?_; rintro e w3 ⟨rfl, h3, f3⟩; have HU3 := Lib.hid h3; have HF3 := Lib.hid f3; clear h3 f3))
  have HB3 := Lib.hid (HB2.out.trans (fr_below HF3.out HB2.out.size (fun k hk e => by have := HGE.out; omega)))
  refine leaves_cons (f := 62) (args := #[.pointer (some ⟨w2.heap.size, 0, none⟩)]) (by simp) (by simp [go_sem]) ?_
  refine (put_d .returning HU3.out (by decide) (HST.out.below HB3.out) (HT.out.up HST.out HB3.out).tab j HIJ.out HJ.out HOK.out).mono ?_
  rintro e fm w4 ⟨rfl, rfl, hs4, hf4⟩
  change Leaves _ _ _ _ [] FrameMode.returning _
  exact ⟨_, results_none rfl _ _ _, rfl, hs4, (Fr.of_below HB3.out : Fr (fun k => k ∈ ps) w _).trans hf4⟩
set_option maxRecDepth 100000 in
set_option maxHeartbeats 4000000 in
theorem be_no1 (h : StAt w base p A cap ps os) (hn : 0 < os.length) (i s : Int) (hk : (objA os i).k ≠ 1) (hS : Blk w S pt #[pv p]) (hI : Blk w I it #[.int .i64 i]) (hU : Blk w U ut #[.int .i64 s]) : Calls Tryd.prog 64 #[.pointer (some ⟨S, 0, none⟩), .pointer (some ⟨I, 0, none⟩), .pointer (some ⟨U, 0, none⟩)] w fun e w' => e = .panicked (erc 230) ∧ Below w.heap.size w w' := by
  have hz2 := zJ
  have hzj := jc_len none 0 oz
  have hjl := jc_len (some ⟨p, 0, none⟩) i (objA os i)
  have HST := Lib.hid h
  have HN := Lib.hid hn
  have HU0 := Lib.hid hU
  have hs1 := hS.one
  have hi1 := hI.one
  have dk : ((objA os i).k != 1) = true := by simpa using hk
  clear hk
  clear h hn hS hI hU
  go_enter_defers Tryd.func64, Tryd.ntmps64
  go_wp2_with (first
    | (go_at_call 52; refine (at_all HST.out HN.out i).mono ?_; rintro e w1 ⟨rfl, b1⟩; have HB1 := Lib.hid (b1.alloc b1.size (.cells (jc (some ⟨p, 0, none⟩) i (objA os i)).toArray 93)); have HGE := Lib.hid b1.size; have HG1 := Lib.hid (NdB.own (Blk.new w1 93 (jc (some ⟨p, 0, none⟩) i (objA os i)).toArray)); have HU1 := Lib.hid ((HU0.out.keep b1).alloc (.cells (jc (some ⟨p, 0, none⟩) i (objA os i)).toArray 93)); have ho1 := HG1.out.ob.cells.1; have hu1 := HU1.out.one; clear b1)
    | (show wpList _ _ _ (Oper.mk none (.store _ (.tmp 3) (.tmp 6)) _ _ _ _ :: _) _ _; refine wpList_store_new (l := jc (some ⟨p, 0, none⟩) i (objA os i)) (l0 := jc none 0 oz) (ty := 93) rfl (.tmp 3) (.tmp 6) (by rfl) w1.heap.size rfl (by rfl) (by rfl) (by rw [jc_len]; exact sizeJ) (by rw [jc_len, jc_len]) (jc_one _ _ _) ?_))
  exact ⟨rfl, HB1.out⟩
set_option maxRecDepth 100000 in
set_option maxHeartbeats 4000000 in
theorem be_no2 (h : StAt w base p A cap ps os) (hn : 0 < os.length) (i s : Int) (hk : (objA os i).k = 1) (hs : ¬ (0 ≤ s ∧ s ≤ 2)) (hS : Blk w S pt #[pv p]) (hI : Blk w I it #[.int .i64 i]) (hU : Blk w U ut #[.int .i64 s]) : Calls Tryd.prog 64 #[.pointer (some ⟨S, 0, none⟩), .pointer (some ⟨I, 0, none⟩), .pointer (some ⟨U, 0, none⟩)] w fun e w' => e = .panicked (erc 2) ∧ Below w.heap.size w w' := by
  have hz2 := zJ
  have hzj := jc_len none 0 oz
  have hjl := jc_len (some ⟨p, 0, none⟩) i (objA os i)
  have HST := Lib.hid h
  have HN := Lib.hid hn
  have HU0 := Lib.hid hU
  have hs1 := hS.one
  have hi1 := hI.one
  have dk : ((objA os i).k != 1) = false := by simpa using hk
  have ds : decide (0 ≤ s ∧ s ≤ 2) = false := decide_eq_false hs
  clear hk hs
  clear h hn hS hI hU
  go_enter_defers Tryd.func64, Tryd.ntmps64
  go_wp2_with (first
    | (go_at_call 52; refine (at_all HST.out HN.out i).mono ?_; rintro e w1 ⟨rfl, b1⟩; have HB1 := Lib.hid (b1.alloc b1.size (.cells (jc (some ⟨p, 0, none⟩) i (objA os i)).toArray 93)); have HGE := Lib.hid b1.size; have HG1 := Lib.hid (NdB.own (Blk.new w1 93 (jc (some ⟨p, 0, none⟩) i (objA os i)).toArray)); have HU1 := Lib.hid ((HU0.out.keep b1).alloc (.cells (jc (some ⟨p, 0, none⟩) i (objA os i)).toArray 93)); have ho1 := HG1.out.ob.cells.1; have hu1 := HU1.out.one; clear b1)
    | (show wpList _ _ _ (Oper.mk none (.store _ (.tmp 3) (.tmp 6)) _ _ _ _ :: _) _ _; refine wpList_store_new (l := jc (some ⟨p, 0, none⟩) i (objA os i)) (l0 := jc none 0 oz) (ty := 93) rfl (.tmp 3) (.tmp 6) (by rfl) w1.heap.size rfl (by rfl) (by rfl) (by rw [jc_len]; exact sizeJ) (by rw [jc_len, jc_len]) (jc_one _ _ _) ?_)
    | (go_at_call 65; refine (isState_any _ _).mono ?_; rintro e w2 ⟨rfl, rfl⟩))
  exact ⟨rfl, HB1.out⟩
set_option maxRecDepth 100000 in
set_option maxHeartbeats 4000000 in
theorem be_yes (h : StAt w base p A cap ps os) (hn : 0 < os.length) (hT : TabB base w) (i s : Int) (j : Nat) (hij : i = (j : Int)) (hj : j < os.length) (hk : (objA os i).k = 1) (hs : 0 ≤ s ∧ s ≤ 2) (hok : (slotAs (objA os i) 2 (nmk s)).ok os.length) (hS : Blk w S pt #[pv p]) (hI : Blk w I it #[.int .i64 i]) (hU : Blk w U ut #[.int .i64 s]) : Calls Tryd.prog 64 #[.pointer (some ⟨S, 0, none⟩), .pointer (some ⟨I, 0, none⟩), .pointer (some ⟨U, 0, none⟩)] w fun e w' => e = .returned (.tuple #[]) ∧ StAt w' base p A cap ps (os.set j (slotAs (objA os i) 2 (nmk s))) ∧ Fr (fun k => k ∈ ps) w w' := by
  have hz2 := zJ
  have hzj := jc_len none 0 oz
  have hjl := jc_len (some ⟨p, 0, none⟩) i (objA os i)
  have HST := Lib.hid h
  have HN := Lib.hid hn
  have HU0 := Lib.hid hU
  have hs1 := hS.one
  have hi1 := hI.one
  have dk : ((objA os i).k != 1) = false := by simpa using hk
  have ds : decide (0 ≤ s ∧ s ≤ 2) = true := decide_eq_true hs
  have HT := Lib.hid hT
  have HIJ := Lib.hid hij
  have HJ := Lib.hid hj
  have HOK := Lib.hid hok
  clear h hn hS hI hU hk hs hT hij hj hok
  go_enter_defers Tryd.func64, Tryd.ntmps64
  go_wp2_with (first
    | (go_at_call 52; refine (at_all HST.out HN.out i).mono ?_; rintro e w1 ⟨rfl, b1⟩; have HB1 := Lib.hid (b1.alloc b1.size (.cells (jc (some ⟨p, 0, none⟩) i (objA os i)).toArray 93)); have HGE := Lib.hid b1.size; have HG1 := Lib.hid (NdB.own (Blk.new w1 93 (jc (some ⟨p, 0, none⟩) i (objA os i)).toArray)); have HU1 := Lib.hid ((HU0.out.keep b1).alloc (.cells (jc (some ⟨p, 0, none⟩) i (objA os i)).toArray 93)); have ho1 := HG1.out.ob.cells.1; have hu1 := HU1.out.one; clear b1)
    | (show wpList _ _ _ (Oper.mk none (.store _ (.tmp 3) (.tmp 6)) _ _ _ _ :: _) _ _; refine wpList_store_new (l := jc (some ⟨p, 0, none⟩) i (objA os i)) (l0 := jc none 0 oz) (ty := 93) rfl (.tmp 3) (.tmp 6) (by rfl) w1.heap.size rfl (by rfl) (by rfl) (by rw [jc_len]; exact sizeJ) (by rw [jc_len, jc_len]) (jc_one _ _ _) ?_)
    | (go_at_call 65; refine (isState_any _ _).mono ?_; rintro e w2 ⟨rfl, rfl⟩)
    | (go_at_call 66; refine (become_any HG1.out s).mono ?_; rintro e w3 ⟨rfl, h3, f3⟩; have HG3 := Lib.hid h3; have HF3 := Lib.hid f3; clear h3 f3))
  have HB3 := Lib.hid (HB1.out.trans (fr_below HF3.out HB1.out.size (fun k hk e => by have := HGE.out; omega)))
  refine leaves_cons (f := 62) (args := #[.pointer (some ⟨w1.heap.size, 0, none⟩)]) (by simp) (by simp [go_sem]) ?_
  refine (put_d .returning HG3.out (by decide) (HST.out.below HB3.out) (HT.out.up HST.out HB3.out).tab j HIJ.out HJ.out HOK.out).mono ?_
  rintro e fm w4 ⟨rfl, rfl, hs4, hf4⟩
  change Leaves _ _ _ _ [] FrameMode.returning _
  exact ⟨_, results_none rfl _ _ _, rfl, hs4, (Fr.of_below HB3.out : Fr (fun k => k ∈ ps) w _).trans hf4⟩
set_option maxRecDepth 100000 in
set_option maxHeartbeats 4000000 in
theorem to_no (h : StAt w base p A cap ps os) (hn : 0 < os.length) (i : Int) (hs : stA os i = none) (hS : Blk w S pt #[pv p]) (hI : Blk w I it #[.int .i64 i]) : Calls Tryd.prog 51 #[.pointer (some ⟨S, 0, none⟩), .pointer (some ⟨I, 0, none⟩), .pointer (some ⟨G, 0, none⟩)] w fun e w' => e = .panicked (erc 230) ∧ Below w.heap.size w w' := by
  have hz2 := zJ
  have hzj := jc_len none 0 oz
  have hjl := jc_len (some ⟨p, 0, none⟩) i (objA os i)
  have HST := Lib.hid h
  have HN := Lib.hid hn
  have hs1 := hS.one
  have hi1 := hI.one
  have HSS := Lib.hid (show stN (objA os i) = _ from hs)
  clear h hn hS hI hs
  go_enter Tryd.func51, Tryd.ntmps51
  go_wp2_with (first
    | (go_at_call 52; refine (at_all HST.out HN.out i).mono ?_; rintro e w1 ⟨rfl, b1⟩; have HB1 := Lib.hid (b1.alloc b1.size (.cells (jc (some ⟨p, 0, none⟩) i (objA os i)).toArray 93)); have HGE := Lib.hid b1.size; have HG1 := Lib.hid (NdB.own (Blk.new w1 93 (jc (some ⟨p, 0, none⟩) i (objA os i)).toArray)); clear b1)
    | (show wpList _ _ _ (Oper.mk none (.store _ (.tmp 3) (.tmp 8)) _ _ _ _ :: _) _ _; refine wpList_store_new (l := jc (some ⟨p, 0, none⟩) i (objA os i)) (l0 := jc none 0 oz) (ty := 93) rfl (.tmp 3) (.tmp 8) (by rfl) w1.heap.size rfl (by rfl) (by rfl) (by rw [jc_len]; exact sizeJ) (by rw [jc_len, jc_len]) (jc_one _ _ _) ?_)
    | (go_at_call 53; refine (state_eq HG1.out HSS.out).mono ?_; rintro e w2 ⟨rfl, b2⟩; have HB2 := Lib.hid (HB1.out.trans (b2.mono HB1.out.size)); clear b2))
  exact ⟨rfl, rfl, HB2.out⟩
set_option maxRecDepth 100000 in
set_option maxHeartbeats 4000000 in
theorem to_yes (h : StAt w base p A cap ps os) (hn : 0 < os.length) (hT : Tab w) (i s : Int) (hs : stA os i = some s) (hS : Blk w S pt #[pv p]) (hI : Blk w I it #[.int .i64 i]) {m0 : Mg} (hG : Blk w G 38 m0.cells.toArray) : Calls Tryd.prog 51 #[.pointer (some ⟨S, 0, none⟩), .pointer (some ⟨I, 0, none⟩), .pointer (some ⟨G, 0, none⟩)] w fun e w' => e = .returned (.tuple #[]) ∧ Blk w' G 38 (tolM os (objA os i)).cells.toArray ∧ Fr (fun k => k = G) w w' := by
  have hz2 := zJ
  have hzj := jc_len none 0 oz
  have hjl := jc_len (some ⟨p, 0, none⟩) i (objA os i)
  have HST := Lib.hid h
  have HN := Lib.hid hn
  have hs1 := hS.one
  have hi1 := hI.one
  have HSS := Lib.hid (show stN (objA os i) = _ from hs)
  have HT := Lib.hid hT
  have HG0 := Lib.hid hG
  clear h hn hS hI hs hT hG
  go_enter Tryd.func51, Tryd.ntmps51
  go_wp2_with (first
    | (go_at_call 52; refine (at_all HST.out HN.out i).mono ?_; rintro e w1 ⟨rfl, b1⟩; have HB1 := Lib.hid (b1.alloc b1.size (.cells (jc (some ⟨p, 0, none⟩) i (objA os i)).toArray 93)); have HGE := Lib.hid b1.size; have HG1 := Lib.hid (NdB.own (Blk.new w1 93 (jc (some ⟨p, 0, none⟩) i (objA os i)).toArray)); clear b1)
    | (show wpList _ _ _ (Oper.mk none (.store _ (.tmp 3) (.tmp 8)) _ _ _ _ :: _) _ _; refine wpList_store_new (l := jc (some ⟨p, 0, none⟩) i (objA os i)) (l0 := jc none 0 oz) (ty := 93) rfl (.tmp 3) (.tmp 8) (by rfl) w1.heap.size rfl (by rfl) (by rfl) (by rw [jc_len]; exact sizeJ) (by rw [jc_len, jc_len]) (jc_one _ _ _) ?_)
    | (go_at_call 53; refine (state_eq HG1.out HSS.out).mono ?_; rintro e w2 ⟨rfl, b2⟩; have HB2 := Lib.hid (HB1.out.trans (b2.mono HB1.out.size)); have HG2 := Lib.hid (HG1.out.below b2); clear b2)
    | (go_at_call 54; refine (told_any HG2.out (HST.out.below HB2.out) HN.out (HT.out.below HB2.out)).mono ?_; rintro e w3 ⟨rfl, b3⟩; have HB3 := Lib.hid (HB2.out.trans (b3.mono HB2.out.size)); have HM3 := Lib.hid (HG0.out.keep HB3.out); clear b3)
    | (show wpList _ _ _ (Oper.mk none (.store _ (.tmp 2) (.tmp 16)) _ _ _ _ :: _) _ _; refine wpList_store_big (l0 := m0.cells) (l := (tolM os (objA os i)).cells) HM3.out rfl (.tmp 2) (.tmp 16) (ty := 38) rfl (by rfl) (by rfl) (by rw [Mg.len]; exact sizeM) (by rw [Mg.len, Mg.len]) (Mg.one _) ?_))
  go_end0
  exact ⟨rfl, HM3.out.setRow _, (Fr.of_below HB3.out : Fr (fun k => k = G) w _).trans (setRow_fr _ _ _)⟩
set_option maxRecDepth 100000 in
set_option maxHeartbeats 4000000 in
theorem st_of_at (q : Option Addr) (i : Int) (u : Oj) (hat : Calls Tryd.prog 52 #[.pointer q, .int .i64 i] w fun e w' => e = .returned (jv q i u) ∧ Below w.heap.size w w') : Calls Tryd.prog 22 #[.pointer q, .int .i64 i] w fun e w' => e = .returned (.tuple #[.int .i64 ((stN u).getD 0), .bool (stN u).isSome]) ∧ Below w.heap.size w w' := by
  have hz2 := zJ
  have hzj := jc_len none 0 oz
  have hjl := jc_len q i u
  have HAT := Lib.hid hat
  clear hat
  go_enter Tryd.func22, Tryd.ntmps22
  go_wp2_with (first
    | (go_at_call 52; refine HAT.out.mono ?_; rintro e w1 ⟨rfl, b1⟩; have HB1 := Lib.hid (b1.alloc b1.size (.cells (jc q i u).toArray 93)); have HG1 := Lib.hid (NdB.own (Blk.new w1 93 (jc q i u).toArray)); clear b1)
    | (show wpList _ _ _ (Oper.mk none (.store _ (.tmp 6) (.tmp 9)) _ _ _ _ :: _) _ _; refine wpList_store_new (l := jc q i u) (l0 := jc none 0 oz) (ty := 93) rfl (.tmp 6) (.tmp 9) (by rfl) w1.heap.size rfl (by rfl) (by rfl) (by rw [jc_len]; exact sizeJ) (by rw [jc_len, jc_len]) (jc_one _ _ _) ?_)
    | (go_at_call 53; refine (state_any HG1.out).mono ?_; rintro e w2 ⟨rfl, b2⟩; have HB2 := Lib.hid (HB1.out.trans (b2.mono HB1.out.size)); clear b2))
  go_ret2
  exact ⟨rfl, HB2.out⟩
theorem stt_all (h : StAt w base p A cap ps os) (hn : 0 < os.length) (i : Int) : Calls Tryd.prog 22 #[pv p, .int .i64 i] w fun e w' => e = .returned (.tuple #[.int .i64 ((stA os i).getD 0), .bool (stA os i).isSome]) ∧ Below w.heap.size w w' := st_of_at _ i (objA os i) (at_all h hn i)
end
end Go.Proofs.YtljfddeolapeaaaDoor

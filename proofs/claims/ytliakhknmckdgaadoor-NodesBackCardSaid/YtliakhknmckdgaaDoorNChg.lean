/- nodes: the closures, change. -/
import Derived.Test.YtliakhknmckdgaaDoorNPrd
namespace Go.Proofs.YtliakhknmckdgaaDoor
open Go.RowKit
section
variable {kt it : TypeId}
set_option maxRecDepth 100000 in
set_option maxHeartbeats 1000000 in
theorem clo_put (w : World) (s : List Ky) (hs : s.length = 16) (i : Nat) (hi : i < 16) (v : Ky) (K I : Nat) (hK : Blk w K kt (kl v).toArray) (hI : Blk w I it #[.int .i64 (i : Int)]) :
    Calls Tryd.prog 42 #[.agg (kcs s).toArray, .pointer (some ⟨K, 0, none⟩), .pointer (some ⟨I, 0, none⟩)] w fun e w' => e = .returned (.agg (kcs (s.set i v)).toArray) ∧ Below w.heap.size w w' := by
  have hz := z95
  have hbl := kcs_len hs
  have hbs := zks_len
  have HB0 := Lib.hid (((Below.refl w.heap.size w).alloc (Nat.le_refl _) (.cells (kcs s).toArray 95)).alloc (by simp) (.cells (kcs zks).toArray 95))
  have HK0 := Lib.hid ((Blk.new w 95 (kcs s).toArray).alloc (.cells (kcs zks).toArray 95))
  have HR0 := Lib.hid (Blk.new_of (w.alloc (.cells (kcs s).toArray 95)) 95 (kcs zks).toArray (g := w.heap.size + 1) (by simp))
  have HS := Lib.hid hs
  have HKV := Lib.hid ((hK.alloc (.cells (kcs s).toArray 95)).alloc (.cells (kcs zks).toArray 95))
  have HIV := Lib.hid ((hI.alloc (.cells (kcs s).toArray 95)).alloc (.cells (kcs zks).toArray 95))
  obtain ⟨c0, c1, c2, c3, c4, c5⟩ := HKV.out.six
  have d0 := HIV.out.cell 0
  have HSI := Lib.hid (show (s.set i v).length = 16 by rw [List.length_set, hs])
  have HFT := Lib.hid (show i * 6 + (kl v).length ≤ (kcs s).length by rw [kl_len, kcs_len hs]; omega)
  have HSE := Lib.hid (show (kcs s).take (i * 6) ++ kl v ++ (kcs s).drop (i * 6 + (kl v).length) = kcs (s.set i v) from kcs_set s i (by omega) v)
  have di : (i : Int) < 16 := by omega
  clear hK hI
  go_enter Tryd.func42, Tryd.ntmps42
  go_wp2_with (first
    | (refine wpList_store_in HK0.out rfl (.tmp 7) (.tmp 6) (ty := 32) (l := kl v) (off := i * 6) (by rfl) (by rfl) (by rfl) size30 HFT.out (kl_one _) HSE.out ?_; have HK1 := Lib.hid (HK0.out.setRow (kcs (s.set i v)).toArray); have HR1 := Lib.hid (Blk.row_far HR0.out (show w.heap.size + 1 ≠ w.heap.size by omega) (kcs (s.set i v)).toArray); have HB1 := Lib.hid (below_setRow HB0.out (Nat.le_refl _) (kcs (s.set i v)).toArray); clear c0 c1 c2 c3 c4 c5 d0)
    | (refine wpList_yields (S := fun w' => w'.rangeAt (w.heap.size) 0 (kcs (s.set i v))) (y_sl (by rfl) (.tmp 3) (by rfl) (w.heap.size) 0 (by rfl) (s.set i v) HSI.out (fun _ h => h)) HK1.out.range ?_)
    | (refine wpList_store_big HR1.out rfl (.tmp 4) (.tmp 8) (ty := 95) (l := kcs (s.set i v)) rfl (by rfl) (by rfl) (sl_size HSI.out) (zks_eq HSI.out) (kcs_one _) ?_))
  exact bodyPost_ret (res_1 rfl _ _ (w.heap.size + 1) _ rfl (load_sl _ HSI.out (HR1.out.setRow _))) rfl ⟨rfl, below_setRow HB1.out (by omega) _⟩
set_option maxRecDepth 100000 in
set_option maxHeartbeats 1000000 in
theorem clo_clear (w : World) (s : List Ky) (hs : s.length = 16)  :
    Calls Tryd.prog 45 #[.agg (kcs s).toArray] w fun e w' => e = .returned (.agg (kcs zks).toArray) ∧ Below w.heap.size w w' := by
  have hz := z95
  have hbl := kcs_len hs
  have hbs := zks_len
  have HB0 := Lib.hid (((Below.refl w.heap.size w).alloc (Nat.le_refl _) (.cells (kcs s).toArray 95)).alloc (by simp) (.cells (kcs zks).toArray 95))
  have HK0 := Lib.hid ((Blk.new w 95 (kcs s).toArray).alloc (.cells (kcs zks).toArray 95))
  have HR0 := Lib.hid (Blk.new_of (w.alloc (.cells (kcs s).toArray 95)) 95 (kcs zks).toArray (g := w.heap.size + 1) (by simp))
  have HS := Lib.hid hs
  go_enter Tryd.func45, Tryd.ntmps45
  go_wp2_with (first
    | (refine wpList_yields (S := fun _ => True) (y_build (by rfl) (by rfl) built95) trivial ?_)
    | (refine wpList_store_big HR0.out rfl (.tmp 2) (.tmp 3) (ty := 95) (l := kcs zks) rfl (by rfl) (by rfl) (sl_size (show zks.length = 16 from rfl)) (zks_eq (show zks.length = 16 from rfl)) (kcs_one _) ?_))
  exact bodyPost_ret (res_1 rfl _ _ (w.heap.size + 1) _ rfl (load_sl _ rfl (HR0.out.setRow _))) rfl ⟨rfl, below_setRow HB0.out (by omega) _⟩
set_option maxRecDepth 100000 in
set_option maxHeartbeats 1000000 in
theorem clo_clone (w : World) (s : List Ky) (hs : s.length = 16) (l : List Ky) (hl : l.length = 16) (K : Nat) (hK : Blk w K kt (kcs l).toArray) :
    Calls Tryd.prog 48 #[.agg (kcs s).toArray, .pointer (some ⟨K, 0, none⟩)] w fun e w' => e = .returned (.agg (kcs l).toArray) ∧ Below w.heap.size w w' := by
  have hz := z95
  have hbl := kcs_len hs
  have hbs := zks_len
  have HB0 := Lib.hid (((Below.refl w.heap.size w).alloc (Nat.le_refl _) (.cells (kcs s).toArray 95)).alloc (by simp) (.cells (kcs zks).toArray 95))
  have HK0 := Lib.hid ((Blk.new w 95 (kcs s).toArray).alloc (.cells (kcs zks).toArray 95))
  have HR0 := Lib.hid (Blk.new_of (w.alloc (.cells (kcs s).toArray 95)) 95 (kcs zks).toArray (g := w.heap.size + 1) (by simp))
  have HS := Lib.hid hs
  have HKV := Lib.hid ((hK.alloc (.cells (kcs s).toArray 95)).alloc (.cells (kcs zks).toArray 95))
  have HLL := Lib.hid hl
  clear hK hl
  go_enter Tryd.func48, Tryd.ntmps48
  go_wp2_with (first
    | (refine wpList_yields (S := fun w' => w'.rangeAt K 0 (kcs l)) (y_sl (by rfl) (.tmp 1) (by rfl) K 0 (by rfl) l HLL.out (fun _ h => h)) HKV.out.range ?_)
    | (refine wpList_store_big HR0.out rfl (.tmp 3) (.tmp 4) (ty := 95) (l := kcs l) rfl (by rfl) (by rfl) (sl_size HLL.out) (zks_eq HLL.out) (kcs_one _) ?_))
  exact bodyPost_ret (res_1 rfl _ _ (w.heap.size + 1) _ rfl (load_sl _ HLL.out (HR0.out.setRow _))) rfl ⟨rfl, below_setRow HB0.out (by omega) _⟩
end
section
variable {w : World} {base p : Nat} {A : Option Addr} {cap : Nat} {ps : List Nat} {os : List Oj} {kt it : TypeId}
set_option maxRecDepth 100000 in
set_option maxHeartbeats 4000000 in
theorem chg_put (h : StAt w base p A cap ps os) (hT : Tab w) (x : Ky) (u : Oj) (j : Nat) (hj : j < os.length) (hxo : x.o = (j : Int)) (i : Nat) (hi : i < 16) (v : Ky) (K I : Nat) (hK : Blk w K kt (kl v).toArray) (hI : Blk w I it #[.int .i64 (i : Int)]) (hok : (slotsAs u (u.s.set i v) (by rw [List.length_set]; exact u.hs)).ok os.length) :
    Calls Tryd.prog 41 #[akv p x u, .func (.func 42) #[] #[.pointer (some ⟨K, 0, none⟩), .pointer (some ⟨I, 0, none⟩)]] w fun e w' => e = .returned (.agg (kcs (u.s.set i v)).toArray) ∧ StAt w' base p A cap ps (os.set j (slotsAs u (u.s.set i v) (by rw [List.length_set]; exact u.hs))) ∧ Fr (fun k => k ∈ ps) w w' := by
  have hz := z95
  have hbl := akc_len p x u
  have hbs := zks_len
  have HJ := Lib.hid hj
  have HXO := Lib.hid hxo
  have HOK := Lib.hid hok
  have HH := Lib.hid h
  have HTT := Lib.hid hT
  have HLT := Lib.hid (fun (k : Nat) (hk : stHas p A ps k) => (h.lt k hk).2)
  have HB0 := Lib.hid (((Below.refl w.heap.size w).alloc (Nat.le_refl _) (.cells (akc p x u).toArray 93)).alloc (by simp) (.cells (kcs zks).toArray 95))
  have HK0 := Lib.hid ((Blk.new w 93 (akc p x u).toArray).alloc (.cells (kcs zks).toArray 95))
  have HR0 := Lib.hid (Blk.new_of (w.alloc (.cells (akc p x u).toArray 93)) 95 (kcs zks).toArray (g := w.heap.size + 1) (by simp))
  have HUS := Lib.hid u.hs
  have HKV := Lib.hid ((hK.alloc (.cells (akc p x u).toArray 93)).alloc (.cells (kcs zks).toArray 95))
  have HIV := Lib.hid ((hI.alloc (.cells (akc p x u).toArray 93)).alloc (.cells (kcs zks).toArray 95))
  have HI := Lib.hid hi
  clear hK hI hi
  have HS1 : Hid (((u.s.set i v)).length = 16) := Lib.hid (by rw [List.length_set]; exact u.hs)
  have HAK := Lib.hid (ak_slots p x u (u.s.set i v) (by rw [List.length_set]; exact u.hs))
  have HFT := Lib.hid (show 10 + (kcs (u.s.set i v)).length ≤ (akc p x u).length by rw [akc_len, kcs_len (by rw [List.length_set]; exact u.hs)]; omega)
  obtain ⟨U, hU⟩ : ∃ U, slotsAs u (u.s.set i v) (by rw [List.length_set]; exact u.hs) = U := ⟨_, rfl⟩
  rw [hU] at HOK HAK ⊢
  clear hj hxo hok h hT hU
  go_enter Tryd.func41, Tryd.ntmps41
  go_wp2_with (first
    | (refine wpList_yields (S := fun w' => w'.rangeAt w.heap.size 10 (kcs u.s)) (y_ks (by rfl) (.tmp 9) (by rfl) w.heap.size 10 (by rfl) u.s HUS.out (fun _ h => h)) HK0.out.ak.node.slots ?_)
    | (go_at_call 42; refine (clo_put _ u.s HUS.out i HI.out v K I HKV.out HIV.out).mono ?_; rintro e w1 ⟨rfl, b1⟩; have HB1 := Lib.hid ((HB0.out.trans (b1.mono HB0.out.size)).alloc (Nat.le_trans HB0.out.size b1.size) (.cells (kcs (u.s.set i v)).toArray 95)); have HK1 := Lib.hid ((HK0.out.keep b1).alloc (.cells (kcs (u.s.set i v)).toArray 95)); have HR1 := Lib.hid ((HR0.out.keep b1).alloc (.cells (kcs (u.s.set i v)).toArray 95)); have HG1 := Lib.hid (Blk.new w1 95 (kcs (u.s.set i v)).toArray); have HGE := Lib.hid (show w.heap.size + 2 ≤ w1.heap.size by have := HR0.out.lt; have := b1.size; omega); clear b1)
    | (refine wpList_store_new (l := kcs (u.s.set i v)) (l0 := kcs zks) (ty := 95) rfl (.tmp 5) (.tmp 11) (by rfl) _ rfl (by rfl) (by rfl) (sl_size HS1.out) (zks_eq HS1.out) (kcs_one _) ?_)
    | (refine wpList_yields (S := fun w' => w'.rangeAt w1.heap.size 0 (kcs (u.s.set i v))) (y_sl (by rfl) (.tmp 5) (by rfl) w1.heap.size 0 (by rfl) (u.s.set i v) HS1.out (fun _ h => h)) HG1.out.range ?_)
    | (refine wpList_store_in HK1.out rfl (.tmp 15) (.tmp 12) (ty := 57) (l := kcs (u.s.set i v)) (off := 10) (by rfl) (by rfl) (by rfl) (by rw [kcs_len HS1.out]; exact size31) HFT.out (kcs_one _) HAK.out ?_; have HB2 := Lib.hid (below_setRow HB1.out (Nat.le_refl _) (akc p x U).toArray); have HK2 := Lib.hid (HK1.out.setRow (akc p x U).toArray); have HR2 := Lib.hid (Blk.row_far HR1.out (show w.heap.size + 1 ≠ w.heap.size by omega) (akc p x U).toArray); have HG2 := Lib.hid (Blk.row_far HG1.out (show w1.heap.size ≠ w.heap.size by have := HGE.out; omega) (akc p x U).toArray); have p0 := HK2.out.ak.p0; have p2 := HK2.out.ak.key.2.1)
    | (refine wpList_yields (S := fun w' => ObAt w' w.heap.size 7 U) (y_ob (by rfl) (.tmp 24) (by rfl) w.heap.size 7 (by rfl) U (fun _ h => h)) HK2.out.ak.node ?_)
    | (go_at_call 71; refine (put_x (HH.out.below HB2.out) (HTT.out.below HB2.out) j HJ.out U HOK.out HXO.out).mono ?_; rintro e w3 ⟨rfl, hs3, hf3⟩; have HS3 := Lib.hid hs3; have HF3 := Lib.hid ((Fr.of_below HB2.out : Fr (fun k => k ∈ ps) w _).trans hf3); have HR3 := Lib.hid (show Blk w3 (w.heap.size + 1) 95 (kcs zks).toArray from (hf3.block _ HR2.out.lt (fun hm => by have := HLT.out _ (.inr (.inr hm)); omega)).trans HR2.out); have HG3 := Lib.hid (show Blk w3 w1.heap.size 95 (kcs (u.s.set i v)).toArray from (hf3.block _ HG2.out.lt (fun hm => by have := HLT.out _ (.inr (.inr hm)); have := HGE.out; omega)).trans HG2.out); clear hs3 hf3 p0 p2)
    | (refine wpList_yields (S := fun w' => w'.rangeAt w1.heap.size 0 (kcs (u.s.set i v))) (y_sl (by rfl) (.tmp 5) (by rfl) w1.heap.size 0 (by rfl) (u.s.set i v) HS1.out (fun _ h => h)) HG3.out.range ?_)
    | (refine wpList_store_big HR3.out rfl (.tmp 4) (.tmp 27) (ty := 95) (l := kcs (u.s.set i v)) rfl (by rfl) (by rfl) (sl_size HS1.out) (zks_eq HS1.out) (kcs_one _) ?_))
  exact bodyPost_ret (res_1 rfl _ _ (w.heap.size + 1) _ rfl (load_sl _ HS1.out (HR3.out.setRow _))) rfl ⟨rfl, HS3.out.keep (fun k hk => setRow_other _ _ _ _ (by have := HLT.out k hk; omega)), HF3.out.then_ (setRow_fr _ _ _) (fun i hi he => by omega)⟩
set_option maxRecDepth 100000 in
set_option maxHeartbeats 4000000 in
theorem chg_clear (h : StAt w base p A cap ps os) (hT : Tab w) (x : Ky) (u : Oj) (j : Nat) (hj : j < os.length) (hxo : x.o = (j : Int))  (hok : (slotsAs u zks rfl).ok os.length) :
    Calls Tryd.prog 41 #[akv p x u, .func (.func 45) #[] #[]] w fun e w' => e = .returned (.agg (kcs zks).toArray) ∧ StAt w' base p A cap ps (os.set j (slotsAs u zks rfl)) ∧ Fr (fun k => k ∈ ps) w w' := by
  have hz := z95
  have hbl := akc_len p x u
  have hbs := zks_len
  have HJ := Lib.hid hj
  have HXO := Lib.hid hxo
  have HOK := Lib.hid hok
  have HH := Lib.hid h
  have HTT := Lib.hid hT
  have HLT := Lib.hid (fun (k : Nat) (hk : stHas p A ps k) => (h.lt k hk).2)
  have HB0 := Lib.hid (((Below.refl w.heap.size w).alloc (Nat.le_refl _) (.cells (akc p x u).toArray 93)).alloc (by simp) (.cells (kcs zks).toArray 95))
  have HK0 := Lib.hid ((Blk.new w 93 (akc p x u).toArray).alloc (.cells (kcs zks).toArray 95))
  have HR0 := Lib.hid (Blk.new_of (w.alloc (.cells (akc p x u).toArray 93)) 95 (kcs zks).toArray (g := w.heap.size + 1) (by simp))
  have HUS := Lib.hid u.hs
  have HS1 : Hid ((zks).length = 16) := Lib.hid rfl
  have HAK := Lib.hid (ak_slots p x u zks rfl)
  have HFT := Lib.hid (show 10 + (kcs zks).length ≤ (akc p x u).length by rw [akc_len, kcs_len rfl]; omega)
  obtain ⟨U, hU⟩ : ∃ U, slotsAs u zks rfl = U := ⟨_, rfl⟩
  rw [hU] at HOK HAK ⊢
  clear hj hxo hok h hT hU
  go_enter Tryd.func41, Tryd.ntmps41
  go_wp2_with (first
    | (refine wpList_yields (S := fun w' => w'.rangeAt w.heap.size 10 (kcs u.s)) (y_ks (by rfl) (.tmp 9) (by rfl) w.heap.size 10 (by rfl) u.s HUS.out (fun _ h => h)) HK0.out.ak.node.slots ?_)
    | (go_at_call 45; refine (clo_clear _ u.s HUS.out).mono ?_; rintro e w1 ⟨rfl, b1⟩; have HB1 := Lib.hid ((HB0.out.trans (b1.mono HB0.out.size)).alloc (Nat.le_trans HB0.out.size b1.size) (.cells (kcs zks).toArray 95)); have HK1 := Lib.hid ((HK0.out.keep b1).alloc (.cells (kcs zks).toArray 95)); have HR1 := Lib.hid ((HR0.out.keep b1).alloc (.cells (kcs zks).toArray 95)); have HG1 := Lib.hid (Blk.new w1 95 (kcs zks).toArray); have HGE := Lib.hid (show w.heap.size + 2 ≤ w1.heap.size by have := HR0.out.lt; have := b1.size; omega); clear b1)
    | (refine wpList_store_new (l := kcs zks) (l0 := kcs zks) (ty := 95) rfl (.tmp 5) (.tmp 11) (by rfl) _ rfl (by rfl) (by rfl) (sl_size HS1.out) (zks_eq HS1.out) (kcs_one _) ?_)
    | (refine wpList_yields (S := fun w' => w'.rangeAt w1.heap.size 0 (kcs zks)) (y_sl (by rfl) (.tmp 5) (by rfl) w1.heap.size 0 (by rfl) zks HS1.out (fun _ h => h)) HG1.out.range ?_)
    | (refine wpList_store_in HK1.out rfl (.tmp 15) (.tmp 12) (ty := 57) (l := kcs zks) (off := 10) (by rfl) (by rfl) (by rfl) (by rw [kcs_len HS1.out]; exact size31) HFT.out (kcs_one _) HAK.out ?_; have HB2 := Lib.hid (below_setRow HB1.out (Nat.le_refl _) (akc p x U).toArray); have HK2 := Lib.hid (HK1.out.setRow (akc p x U).toArray); have HR2 := Lib.hid (Blk.row_far HR1.out (show w.heap.size + 1 ≠ w.heap.size by omega) (akc p x U).toArray); have HG2 := Lib.hid (Blk.row_far HG1.out (show w1.heap.size ≠ w.heap.size by have := HGE.out; omega) (akc p x U).toArray); have p0 := HK2.out.ak.p0; have p2 := HK2.out.ak.key.2.1)
    | (refine wpList_yields (S := fun w' => ObAt w' w.heap.size 7 U) (y_ob (by rfl) (.tmp 24) (by rfl) w.heap.size 7 (by rfl) U (fun _ h => h)) HK2.out.ak.node ?_)
    | (go_at_call 71; refine (put_x (HH.out.below HB2.out) (HTT.out.below HB2.out) j HJ.out U HOK.out HXO.out).mono ?_; rintro e w3 ⟨rfl, hs3, hf3⟩; have HS3 := Lib.hid hs3; have HF3 := Lib.hid ((Fr.of_below HB2.out : Fr (fun k => k ∈ ps) w _).trans hf3); have HR3 := Lib.hid (show Blk w3 (w.heap.size + 1) 95 (kcs zks).toArray from (hf3.block _ HR2.out.lt (fun hm => by have := HLT.out _ (.inr (.inr hm)); omega)).trans HR2.out); have HG3 := Lib.hid (show Blk w3 w1.heap.size 95 (kcs zks).toArray from (hf3.block _ HG2.out.lt (fun hm => by have := HLT.out _ (.inr (.inr hm)); have := HGE.out; omega)).trans HG2.out); clear hs3 hf3 p0 p2)
    | (refine wpList_yields (S := fun w' => w'.rangeAt w1.heap.size 0 (kcs zks)) (y_sl (by rfl) (.tmp 5) (by rfl) w1.heap.size 0 (by rfl) zks HS1.out (fun _ h => h)) HG3.out.range ?_)
    | (refine wpList_store_big HR3.out rfl (.tmp 4) (.tmp 27) (ty := 95) (l := kcs zks) rfl (by rfl) (by rfl) (sl_size HS1.out) (zks_eq HS1.out) (kcs_one _) ?_))
  exact bodyPost_ret (res_1 rfl _ _ (w.heap.size + 1) _ rfl (load_sl _ HS1.out (HR3.out.setRow _))) rfl ⟨rfl, HS3.out.keep (fun k hk => setRow_other _ _ _ _ (by have := HLT.out k hk; omega)), HF3.out.then_ (setRow_fr _ _ _) (fun i hi he => by omega)⟩
set_option maxRecDepth 100000 in
set_option maxHeartbeats 4000000 in
theorem chg_clone (h : StAt w base p A cap ps os) (hT : Tab w) (x : Ky) (u : Oj) (j : Nat) (hj : j < os.length) (hxo : x.o = (j : Int)) (l : List Ky) (hl : l.length = 16) (K : Nat) (hK : Blk w K kt (kcs l).toArray) (hok : (slotsAs u l hl).ok os.length) :
    Calls Tryd.prog 41 #[akv p x u, .func (.func 48) #[] #[.pointer (some ⟨K, 0, none⟩)]] w fun e w' => e = .returned (.agg (kcs l).toArray) ∧ StAt w' base p A cap ps (os.set j (slotsAs u l hl)) ∧ Fr (fun k => k ∈ ps) w w' := by
  have hz := z95
  have hbl := akc_len p x u
  have hbs := zks_len
  have HJ := Lib.hid hj
  have HXO := Lib.hid hxo
  have HOK := Lib.hid hok
  have HH := Lib.hid h
  have HTT := Lib.hid hT
  have HLT := Lib.hid (fun (k : Nat) (hk : stHas p A ps k) => (h.lt k hk).2)
  have HB0 := Lib.hid (((Below.refl w.heap.size w).alloc (Nat.le_refl _) (.cells (akc p x u).toArray 93)).alloc (by simp) (.cells (kcs zks).toArray 95))
  have HK0 := Lib.hid ((Blk.new w 93 (akc p x u).toArray).alloc (.cells (kcs zks).toArray 95))
  have HR0 := Lib.hid (Blk.new_of (w.alloc (.cells (akc p x u).toArray 93)) 95 (kcs zks).toArray (g := w.heap.size + 1) (by simp))
  have HUS := Lib.hid u.hs
  have HKV := Lib.hid ((hK.alloc (.cells (akc p x u).toArray 93)).alloc (.cells (kcs zks).toArray 95))
  clear hK
  have HS1 : Hid ((l).length = 16) := Lib.hid hl
  have HAK := Lib.hid (ak_slots p x u l hl)
  have HFT := Lib.hid (show 10 + (kcs l).length ≤ (akc p x u).length by rw [akc_len, kcs_len hl]; omega)
  obtain ⟨U, hU⟩ : ∃ U, slotsAs u l hl = U := ⟨_, rfl⟩
  rw [hU] at HOK HAK ⊢
  clear hj hxo hok h hT hU
  go_enter Tryd.func41, Tryd.ntmps41
  go_wp2_with (first
    | (refine wpList_yields (S := fun w' => w'.rangeAt w.heap.size 10 (kcs u.s)) (y_ks (by rfl) (.tmp 9) (by rfl) w.heap.size 10 (by rfl) u.s HUS.out (fun _ h => h)) HK0.out.ak.node.slots ?_)
    | (go_at_call 48; refine (clo_clone _ u.s HUS.out l HS1.out K HKV.out).mono ?_; rintro e w1 ⟨rfl, b1⟩; have HB1 := Lib.hid ((HB0.out.trans (b1.mono HB0.out.size)).alloc (Nat.le_trans HB0.out.size b1.size) (.cells (kcs l).toArray 95)); have HK1 := Lib.hid ((HK0.out.keep b1).alloc (.cells (kcs l).toArray 95)); have HR1 := Lib.hid ((HR0.out.keep b1).alloc (.cells (kcs l).toArray 95)); have HG1 := Lib.hid (Blk.new w1 95 (kcs l).toArray); have HGE := Lib.hid (show w.heap.size + 2 ≤ w1.heap.size by have := HR0.out.lt; have := b1.size; omega); clear b1)
    | (refine wpList_store_new (l := kcs l) (l0 := kcs zks) (ty := 95) rfl (.tmp 5) (.tmp 11) (by rfl) _ rfl (by rfl) (by rfl) (sl_size HS1.out) (zks_eq HS1.out) (kcs_one _) ?_)
    | (refine wpList_yields (S := fun w' => w'.rangeAt w1.heap.size 0 (kcs l)) (y_sl (by rfl) (.tmp 5) (by rfl) w1.heap.size 0 (by rfl) l HS1.out (fun _ h => h)) HG1.out.range ?_)
    | (refine wpList_store_in HK1.out rfl (.tmp 15) (.tmp 12) (ty := 57) (l := kcs l) (off := 10) (by rfl) (by rfl) (by rfl) (by rw [kcs_len HS1.out]; exact size31) HFT.out (kcs_one _) HAK.out ?_; have HB2 := Lib.hid (below_setRow HB1.out (Nat.le_refl _) (akc p x U).toArray); have HK2 := Lib.hid (HK1.out.setRow (akc p x U).toArray); have HR2 := Lib.hid (Blk.row_far HR1.out (show w.heap.size + 1 ≠ w.heap.size by omega) (akc p x U).toArray); have HG2 := Lib.hid (Blk.row_far HG1.out (show w1.heap.size ≠ w.heap.size by have := HGE.out; omega) (akc p x U).toArray); have p0 := HK2.out.ak.p0; have p2 := HK2.out.ak.key.2.1)
    | (refine wpList_yields (S := fun w' => ObAt w' w.heap.size 7 U) (y_ob (by rfl) (.tmp 24) (by rfl) w.heap.size 7 (by rfl) U (fun _ h => h)) HK2.out.ak.node ?_)
    | (go_at_call 71; refine (put_x (HH.out.below HB2.out) (HTT.out.below HB2.out) j HJ.out U HOK.out HXO.out).mono ?_; rintro e w3 ⟨rfl, hs3, hf3⟩; have HS3 := Lib.hid hs3; have HF3 := Lib.hid ((Fr.of_below HB2.out : Fr (fun k => k ∈ ps) w _).trans hf3); have HR3 := Lib.hid (show Blk w3 (w.heap.size + 1) 95 (kcs zks).toArray from (hf3.block _ HR2.out.lt (fun hm => by have := HLT.out _ (.inr (.inr hm)); omega)).trans HR2.out); have HG3 := Lib.hid (show Blk w3 w1.heap.size 95 (kcs l).toArray from (hf3.block _ HG2.out.lt (fun hm => by have := HLT.out _ (.inr (.inr hm)); have := HGE.out; omega)).trans HG2.out); clear hs3 hf3 p0 p2)
    | (refine wpList_yields (S := fun w' => w'.rangeAt w1.heap.size 0 (kcs l)) (y_sl (by rfl) (.tmp 5) (by rfl) w1.heap.size 0 (by rfl) l HS1.out (fun _ h => h)) HG3.out.range ?_)
    | (refine wpList_store_big HR3.out rfl (.tmp 4) (.tmp 27) (ty := 95) (l := kcs l) rfl (by rfl) (by rfl) (sl_size HS1.out) (zks_eq HS1.out) (kcs_one _) ?_))
  exact bodyPost_ret (res_1 rfl _ _ (w.heap.size + 1) _ rfl (load_sl _ HS1.out (HR3.out.setRow _))) rfl ⟨rfl, HS3.out.keep (fun k hk => setRow_other _ _ _ _ (by have := HLT.out k hk; omega)), HF3.out.then_ (setRow_fr _ _ _) (fun i hi he => by omega)⟩
end
end Go.Proofs.YtliakhknmckdgaaDoor

/- nodes: what is put, cleared, cloned, ahead of its face. -/
import Derived.Test.YteodgefnbmiblaaDoorR15
namespace Go.Proofs.YteodgefnbmiblaaDoor
open Go.RowKit
section
variable {w : World} {base p : Nat} {A : Option Addr} {cap : Nat} {ps : List Nat} {os : List Oj} {kt it pt vt lt : TypeId} {S K I V L : Nat}
set_option maxRecDepth 100000 in
set_option maxHeartbeats 4000000 in
theorem put1_nil (P : Value) (hP : P = .pointer none ∨ ∃ q base A cap ps, P = pv q ∧ StAt w base q A cap ps []) (x v : Ky) (i : Int) (hS : Blk w S pt #[P]) (hK : Blk w K kt (kl x).toArray) (hI : Blk w I it #[.int .i64 i]) (hV : Blk w V vt (kl v).toArray) :
    Calls Tryd.prog 78 #[.pointer (some ⟨S, 0, none⟩), .pointer (some ⟨K, 0, none⟩), .pointer (some ⟨I, 0, none⟩), .pointer (some ⟨V, 0, none⟩)] w fun e w' => e = .panicked (erc 1) ∧ Below w.heap.size w w' := by
  have hz := z95
  have hz2 := z87
  have hz3 := z93
  have hbs := zks_len
  have hbz := zakc_len
  have HP := Lib.hid hP
  clear hP
  have HB0 := Lib.hid ((Below.refl w.heap.size w).alloc (Nat.le_refl _) (.cells (kc 0 0 0 0 0 0) 33))
  have HS0 := Lib.hid (hS.alloc (.cells (kc 0 0 0 0 0 0) 33))
  have HK0 := Lib.hid (hK.alloc (.cells (kc 0 0 0 0 0 0) 33))
  have HI0 := Lib.hid (hI.alloc (.cells (kc 0 0 0 0 0 0) 33))
  have HV0 := Lib.hid (hV.alloc (.cells (kc 0 0 0 0 0 0) 33))
  have sc := HS0.out.one
  obtain ⟨k0, k1, k2, k3, k4, k5⟩ := HK0.out.six
  have ic := HI0.out.one
  obtain ⟨v0, v1, v2, v3, v4, v5⟩ := HV0.out.six
  clear hS hK hI hV
  go_enter Tryd.func78, Tryd.ntmps78
  go_wp2_with (first
    | (go_at_call 79; refine (opens_nil P x (nost_below HP.out HB0.out)).mono ?_; rintro e w1 ⟨rfl, b1⟩; have HB1 := Lib.hid (HB0.out.trans (b1.mono HB0.out.size)); clear b1))
  exact ⟨rfl, rfl, HB1.out⟩
set_option maxRecDepth 100000 in
set_option maxHeartbeats 4000000 in
theorem put1_no (h : StAt w base p A cap ps os) (hn : 0 < os.length) (hT : Tab w) (x v : Ky) (hx : ¬ ((named os x).isSome = true ∧ x.k = 2)) (i : Int) (hS : Blk w S pt #[pv p]) (hK : Blk w K kt (kl x).toArray) (hI : Blk w I it #[.int .i64 i]) (hV : Blk w V vt (kl v).toArray) :
    Calls Tryd.prog 78 #[.pointer (some ⟨S, 0, none⟩), .pointer (some ⟨K, 0, none⟩), .pointer (some ⟨I, 0, none⟩), .pointer (some ⟨V, 0, none⟩)] w fun e w' => e = .panicked (erc 190) ∧ Below w.heap.size w w' := by
  have hz := z95
  have hz2 := z87
  have hz3 := z93
  have hbs := zks_len
  have hbz := zakc_len
  have HST := Lib.hid h
  have HN := Lib.hid hn
  have HT := Lib.hid hT
  clear h hn hT
  have HX := Lib.hid hx
  clear hx
  have HB0 := Lib.hid ((Below.refl w.heap.size w).alloc (Nat.le_refl _) (.cells (kc 0 0 0 0 0 0) 33))
  have HS0 := Lib.hid (hS.alloc (.cells (kc 0 0 0 0 0 0) 33))
  have HK0 := Lib.hid (hK.alloc (.cells (kc 0 0 0 0 0 0) 33))
  have HI0 := Lib.hid (hI.alloc (.cells (kc 0 0 0 0 0 0) 33))
  have HV0 := Lib.hid (hV.alloc (.cells (kc 0 0 0 0 0 0) 33))
  have sc := HS0.out.one
  obtain ⟨k0, k1, k2, k3, k4, k5⟩ := HK0.out.six
  have ic := HI0.out.one
  obtain ⟨v0, v1, v2, v3, v4, v5⟩ := HV0.out.six
  clear hS hK hI hV
  go_enter Tryd.func78, Tryd.ntmps78
  go_wp2_with (first
    | (go_at_call 79; refine (open_no (HST.out.below HB0.out) HN.out (HT.out.below HB0.out) x HX.out).mono ?_; rintro e w1 ⟨rfl, b1⟩; have HB1 := Lib.hid (HB0.out.trans (b1.mono HB0.out.size)); clear b1))
  exact ⟨rfl, rfl, HB1.out⟩
set_option maxRecDepth 100000 in
set_option maxHeartbeats 4000000 in
theorem put1_right (h : StAt w base p A cap ps os) (hn : 0 < os.length) (hT : Tab w) (x v : Ky) (u : Oj) (hx : named os x = some u) (hk : x.k = 2) (hok : x.ok) (hr4 : x.r % 4 ≠ 0) (i : Int) (hS : Blk w S pt #[pv p]) (hK : Blk w K kt (kl x).toArray) (hI : Blk w I it #[.int .i64 i]) (hV : Blk w V vt (kl v).toArray) :
    Calls Tryd.prog 78 #[.pointer (some ⟨S, 0, none⟩), .pointer (some ⟨K, 0, none⟩), .pointer (some ⟨I, 0, none⟩), .pointer (some ⟨V, 0, none⟩)] w fun e w' => e = .panicked (erc 191) ∧ Below w.heap.size w w' := by
  have hz := z95
  have hz2 := z87
  have hz3 := z93
  have hbs := zks_len
  have hbz := zakc_len
  have HST := Lib.hid h
  have HN := Lib.hid hn
  have HT := Lib.hid hT
  clear h hn hT
  have HX := Lib.hid hx
  have HKK := Lib.hid hk
  clear hx hk
  have HO := Lib.hid hok
  have HR4 := Lib.hid hr4
  clear hok hr4
  have HB0 := Lib.hid ((Below.refl w.heap.size w).alloc (Nat.le_refl _) (.cells (kc 0 0 0 0 0 0) 33))
  have HS0 := Lib.hid (hS.alloc (.cells (kc 0 0 0 0 0 0) 33))
  have HK0 := Lib.hid (hK.alloc (.cells (kc 0 0 0 0 0 0) 33))
  have HI0 := Lib.hid (hI.alloc (.cells (kc 0 0 0 0 0 0) 33))
  have HV0 := Lib.hid (hV.alloc (.cells (kc 0 0 0 0 0 0) 33))
  have sc := HS0.out.one
  obtain ⟨k0, k1, k2, k3, k4, k5⟩ := HK0.out.six
  have ic := HI0.out.one
  obtain ⟨v0, v1, v2, v3, v4, v5⟩ := HV0.out.six
  clear hS hK hI hV
  go_enter Tryd.func78, Tryd.ntmps78
  go_wp2_with (first
    | (go_at_call 79; refine (open_right (HST.out.below HB0.out) HN.out (HT.out.below HB0.out) x u HX.out HKK.out HO.out HR4.out).mono ?_; rintro e w1 ⟨rfl, b1⟩; have HB1 := Lib.hid (HB0.out.trans (b1.mono HB0.out.size)); clear b1))
  exact ⟨rfl, rfl, HB1.out⟩
set_option maxRecDepth 100000 in
set_option maxHeartbeats 4000000 in
theorem put1_slot (h : StAt w base p A cap ps os) (hn : 0 < os.length) (hT : Tab w) (x v : Ky) (u : Oj) (hx : named os x = some u) (hk : x.k = 2) (hok : x.ok) (hr4 : x.r % 4 = 0) (i : Int) (hi : ¬ (0 ≤ i ∧ i < 16)) (hS : Blk w S pt #[pv p]) (hK : Blk w K kt (kl x).toArray) (hI : Blk w I it #[.int .i64 i]) (hV : Blk w V vt (kl v).toArray) :
    Calls Tryd.prog 78 #[.pointer (some ⟨S, 0, none⟩), .pointer (some ⟨K, 0, none⟩), .pointer (some ⟨I, 0, none⟩), .pointer (some ⟨V, 0, none⟩)] w fun e w' => e = .panicked (erc 4) ∧ Below w.heap.size w w' := by
  have hz := z95
  have hz2 := z87
  have hz3 := z93
  have hbs := zks_len
  have hbz := zakc_len
  have HST := Lib.hid h
  have HN := Lib.hid hn
  have HT := Lib.hid hT
  clear h hn hT
  have HX := Lib.hid hx
  have HKK := Lib.hid hk
  clear hx hk
  have HO := Lib.hid hok
  have HR4 := Lib.hid hr4
  clear hok hr4
  have HI_ := Lib.hid hi
  clear hi
  have HB0 := Lib.hid ((Below.refl w.heap.size w).alloc (Nat.le_refl _) (.cells (kc 0 0 0 0 0 0) 33))
  have HS0 := Lib.hid (hS.alloc (.cells (kc 0 0 0 0 0 0) 33))
  have HK0 := Lib.hid (hK.alloc (.cells (kc 0 0 0 0 0 0) 33))
  have HI0 := Lib.hid (hI.alloc (.cells (kc 0 0 0 0 0 0) 33))
  have HV0 := Lib.hid (hV.alloc (.cells (kc 0 0 0 0 0 0) 33))
  have sc := HS0.out.one
  obtain ⟨k0, k1, k2, k3, k4, k5⟩ := HK0.out.six
  have ic := HI0.out.one
  obtain ⟨v0, v1, v2, v3, v4, v5⟩ := HV0.out.six
  clear hS hK hI hV
  go_enter Tryd.func78, Tryd.ntmps78
  go_wp2_with (first
    | (go_at_call 79; refine (open_yes (HST.out.below HB0.out) HN.out (HT.out.below HB0.out) x u HX.out HKK.out HO.out HR4.out).mono ?_; rintro e w1 ⟨rfl, b1⟩; have HB1 := Lib.hid ((HB0.out.trans (b1.mono HB0.out.size)).alloc (Nat.le_trans HB0.out.size b1.size) (.cells (akc p x u).toArray 129)); have HS1 := Lib.hid ((HS0.out.keep b1).alloc (.cells (akc p x u).toArray 129)); have HK1 := Lib.hid ((HK0.out.keep b1).alloc (.cells (akc p x u).toArray 129)); have HI1 := Lib.hid ((HI0.out.keep b1).alloc (.cells (akc p x u).toArray 129)); have HV1 := Lib.hid ((HV0.out.keep b1).alloc (.cells (akc p x u).toArray 129)); have HG1 := Lib.hid (Blk.new w1 129 (akc p x u).toArray); have HG1S := Lib.hid (Nat.le_trans HB0.out.size b1.size); clear sc k0 k1 k2 k3 k4 k5 ic v0 v1 v2 v3 v4 v5; have sc := HS1.out.one; obtain ⟨k0, k1, k2, k3, k4, k5⟩ := HK1.out.six; have ic := HI1.out.one; obtain ⟨v0, v1, v2, v3, v4, v5⟩ := HV1.out.six; clear b1)
    | (refine wpList_store_new (l := akc p x u) (l0 := zakc) (ty := 129) rfl (.tmp 5) (.tmp 10) (by rfl) _ rfl (by rfl) (by rfl) (by rw [akc_len]; exact size93) (by rw [akc_len, zakc_len]) (akc_one _ _ _) ?_)
    | (go_at_call 80; refine (slot_no i HI_.out _).mono ?_; rintro e w2 ⟨rfl, rfl⟩))
  exact ⟨rfl, rfl, HB1.out⟩
set_option maxRecDepth 100000 in
set_option maxHeartbeats 4000000 in
theorem put1_arg (h : StAt w base p A cap ps os) (hn : 0 < os.length) (hT : Tab w) (x v : Ky) (u : Oj) (hx : named os x = some u) (hk : x.k = 2) (hok : x.ok) (hr4 : x.r % 4 = 0) (i : Nat) (hi : i < 16) (hv : ¬ v.may os.length) (hS : Blk w S pt #[pv p]) (hK : Blk w K kt (kl x).toArray) (hI : Blk w I it #[.int .i64 (i : Int)]) (hV : Blk w V vt (kl v).toArray) :
    Calls Tryd.prog 78 #[.pointer (some ⟨S, 0, none⟩), .pointer (some ⟨K, 0, none⟩), .pointer (some ⟨I, 0, none⟩), .pointer (some ⟨V, 0, none⟩)] w fun e w' => e = .panicked (erc 2) ∧ Below w.heap.size w w' := by
  have hz := z95
  have hz2 := z87
  have hz3 := z93
  have hbs := zks_len
  have hbz := zakc_len
  have HST := Lib.hid h
  have HN := Lib.hid hn
  have HT := Lib.hid hT
  clear h hn hT
  have HX := Lib.hid hx
  have HKK := Lib.hid hk
  clear hx hk
  have HO := Lib.hid hok
  have HR4 := Lib.hid hr4
  clear hok hr4
  have HI_ := Lib.hid hi
  have HV_ := Lib.hid hv
  clear hi hv
  have HB0 := Lib.hid ((Below.refl w.heap.size w).alloc (Nat.le_refl _) (.cells (kc 0 0 0 0 0 0) 33))
  have HS0 := Lib.hid (hS.alloc (.cells (kc 0 0 0 0 0 0) 33))
  have HK0 := Lib.hid (hK.alloc (.cells (kc 0 0 0 0 0 0) 33))
  have HI0 := Lib.hid (hI.alloc (.cells (kc 0 0 0 0 0 0) 33))
  have HV0 := Lib.hid (hV.alloc (.cells (kc 0 0 0 0 0 0) 33))
  have sc := HS0.out.one
  obtain ⟨k0, k1, k2, k3, k4, k5⟩ := HK0.out.six
  have ic := HI0.out.one
  obtain ⟨v0, v1, v2, v3, v4, v5⟩ := HV0.out.six
  clear hS hK hI hV
  go_enter Tryd.func78, Tryd.ntmps78
  go_wp2_with (first
    | (go_at_call 79; refine (open_yes (HST.out.below HB0.out) HN.out (HT.out.below HB0.out) x u HX.out HKK.out HO.out HR4.out).mono ?_; rintro e w1 ⟨rfl, b1⟩; have HB1 := Lib.hid ((HB0.out.trans (b1.mono HB0.out.size)).alloc (Nat.le_trans HB0.out.size b1.size) (.cells (akc p x u).toArray 129)); have HS1 := Lib.hid ((HS0.out.keep b1).alloc (.cells (akc p x u).toArray 129)); have HK1 := Lib.hid ((HK0.out.keep b1).alloc (.cells (akc p x u).toArray 129)); have HI1 := Lib.hid ((HI0.out.keep b1).alloc (.cells (akc p x u).toArray 129)); have HV1 := Lib.hid ((HV0.out.keep b1).alloc (.cells (akc p x u).toArray 129)); have HG1 := Lib.hid (Blk.new w1 129 (akc p x u).toArray); have HG1S := Lib.hid (Nat.le_trans HB0.out.size b1.size); clear sc k0 k1 k2 k3 k4 k5 ic v0 v1 v2 v3 v4 v5; have sc := HS1.out.one; obtain ⟨k0, k1, k2, k3, k4, k5⟩ := HK1.out.six; have ic := HI1.out.one; obtain ⟨v0, v1, v2, v3, v4, v5⟩ := HV1.out.six; clear b1)
    | (refine wpList_store_new (l := akc p x u) (l0 := zakc) (ty := 129) rfl (.tmp 5) (.tmp 10) (by rfl) _ rfl (by rfl) (by rfl) (by rw [akc_len]; exact size93) (by rw [akc_len, zakc_len]) (akc_one _ _ _) ?_)
    | (go_at_call 80; refine (slot_ok i HI_.out _).mono ?_; rintro e w9 ⟨rfl, rfl⟩)
    | (refine wpList_yields (S := fun w' => AkAt w' w1.heap.size 0 p x u) (y_op (by rfl) (.tmp 5) (by rfl) w1.heap.size 0 (by rfl) p x u (fun _ h => h)) HG1.out.ak ?_)
    | (go_at_call 81; refine (prd_no (HST.out.below HB1.out) HN.out (HT.out.below HB1.out) x u v HV_.out).mono ?_; rintro e w2 ⟨rfl, b2⟩; have HB2 := Lib.hid (HB1.out.trans (b2.mono HB1.out.size)); clear b2))
  exact ⟨rfl, rfl, HB2.out⟩
set_option maxRecDepth 100000 in
set_option maxHeartbeats 4000000 in
theorem put1_yes (h : StAt w base p A cap ps os) (hn : 0 < os.length) (hT : Tab w) (x v : Ky) (u : Oj) (hx : named os x = some u) (hk : x.k = 2) (hok : x.ok) (hr4 : x.r % 4 = 0) (i : Nat) (hi : i < 16) (y : Ky) (hy : u.s[i]? = some y) (hv : v.may os.length) (j : Nat) (hj : j < os.length) (hxo : x.o = (j : Int)) (hoku : (slotsAs u (u.s.set i (prepd os v)) (by rw [List.length_set]; exact u.hs)).ok os.length) (hS : Blk w S pt #[pv p]) (hK : Blk w K kt (kl x).toArray) (hI : Blk w I it #[.int .i64 (i : Int)]) (hV : Blk w V vt (kl v).toArray) :
    Calls Tryd.prog 78 #[.pointer (some ⟨S, 0, none⟩), .pointer (some ⟨K, 0, none⟩), .pointer (some ⟨I, 0, none⟩), .pointer (some ⟨V, 0, none⟩)] w fun e w' => e = .returned (gotK os x y).val ∧ StAt w' base p A cap ps (os.set j (slotsAs u (u.s.set i (prepd os v)) (by rw [List.length_set]; exact u.hs))) ∧ Fr (fun k => k ∈ ps) w w' := by
  have hz := z95
  have hz2 := z87
  have hz3 := z93
  have hbs := zks_len
  have hbz := zakc_len
  have hmf : ∀ (fn : Fn) (first cap : Array Value) (w : World), (Instr.makeFunc fn first cap).run Tryd.prog w = .ok (.func fn first cap) w := fun _ _ _ _ => rfl
  have HST := Lib.hid h
  have HN := Lib.hid hn
  have HT := Lib.hid hT
  have HLT := Lib.hid (fun (k : Nat) (hk : stHas p A ps k) => (h.lt k hk).2)
  clear h hn hT
  have HX := Lib.hid hx
  have HKK := Lib.hid hk
  clear hx hk
  have HO := Lib.hid hok
  have HR4 := Lib.hid hr4
  clear hok hr4
  have HI_ := Lib.hid hi
  have HY := Lib.hid hy
  have HV_ := Lib.hid hv
  have HJ := Lib.hid hj
  have HXO := Lib.hid hxo
  obtain ⟨q, hq⟩ : ∃ q, prepd os v = q := ⟨_, rfl⟩
  have HQE := Lib.hid (fun (W : World) (hs : StAt W base p A cap ps os) (ht : Tab W) => hq ▸ prd_yes hs HN.out ht x u v hv)
  obtain ⟨g, hg⟩ : ∃ g, gotK os x y = g := ⟨_, rfl⟩
  have HGE := Lib.hid (fun (W : World) (hs : StAt W base p A cap ps os) (ht : Tab W) => hg ▸ got_any hs HN.out ht x u i hi y hy HO.out)
  have HOK : Hid ((slotsAs u (u.s.set i q) (by rw [List.length_set]; exact u.hs)).ok os.length) := Lib.hid (by subst hq; exact hoku)
  have e1 : (slotsAs u (u.s.set i (prepd os v)) (by rw [List.length_set]; exact u.hs)) = slotsAs u (u.s.set i q) (by rw [List.length_set]; exact u.hs) := by subst hq; rfl
  rw [e1, hg]
  have HR0 := Lib.hid (Blk.new w 33 (kc 0 0 0 0 0 0))
  clear hi hy hv hj hxo hq hg hoku e1
  have HB0 := Lib.hid ((Below.refl w.heap.size w).alloc (Nat.le_refl _) (.cells (kc 0 0 0 0 0 0) 33))
  have HS0 := Lib.hid (hS.alloc (.cells (kc 0 0 0 0 0 0) 33))
  have HK0 := Lib.hid (hK.alloc (.cells (kc 0 0 0 0 0 0) 33))
  have HI0 := Lib.hid (hI.alloc (.cells (kc 0 0 0 0 0 0) 33))
  have HV0 := Lib.hid (hV.alloc (.cells (kc 0 0 0 0 0 0) 33))
  have sc := HS0.out.one
  obtain ⟨k0, k1, k2, k3, k4, k5⟩ := HK0.out.six
  have ic := HI0.out.one
  obtain ⟨v0, v1, v2, v3, v4, v5⟩ := HV0.out.six
  clear hS hK hI hV
  go_enter Tryd.func78, Tryd.ntmps78
  go_wp2_with (first
    | (go_at_call 79; refine (open_yes (HST.out.below HB0.out) HN.out (HT.out.below HB0.out) x u HX.out HKK.out HO.out HR4.out).mono ?_; rintro e w1 ⟨rfl, b1⟩; have HB1 := Lib.hid ((HB0.out.trans (b1.mono HB0.out.size)).alloc (Nat.le_trans HB0.out.size b1.size) (.cells (akc p x u).toArray 129)); have HS1 := Lib.hid ((HS0.out.keep b1).alloc (.cells (akc p x u).toArray 129)); have HK1 := Lib.hid ((HK0.out.keep b1).alloc (.cells (akc p x u).toArray 129)); have HI1 := Lib.hid ((HI0.out.keep b1).alloc (.cells (akc p x u).toArray 129)); have HV1 := Lib.hid ((HV0.out.keep b1).alloc (.cells (akc p x u).toArray 129)); have HR1 := Lib.hid ((HR0.out.keep b1).alloc (.cells (akc p x u).toArray 129)); have HG1 := Lib.hid (Blk.new w1 129 (akc p x u).toArray); have HG1S := Lib.hid (Nat.le_trans HB0.out.size b1.size); clear sc k0 k1 k2 k3 k4 k5 ic v0 v1 v2 v3 v4 v5; have sc := HS1.out.one; obtain ⟨k0, k1, k2, k3, k4, k5⟩ := HK1.out.six; have ic := HI1.out.one; obtain ⟨v0, v1, v2, v3, v4, v5⟩ := HV1.out.six; clear b1)
    | (refine wpList_store_new (l := akc p x u) (l0 := zakc) (ty := 129) rfl (.tmp 5) (.tmp 10) (by rfl) _ rfl (by rfl) (by rfl) (by rw [akc_len]; exact size93) (by rw [akc_len, zakc_len]) (akc_one _ _ _) ?_)
    | (go_at_call 80; refine (slot_ok i HI_.out _).mono ?_; rintro e w9 ⟨rfl, rfl⟩)
    | (refine wpList_yields (S := fun w' => AkAt w' w1.heap.size 0 p x u) (y_op (by rfl) (.tmp 5) (by rfl) w1.heap.size 0 (by rfl) p x u (fun _ h => h)) HG1.out.ak ?_)
    | (go_at_call 81; refine (HQE.out _ (HST.out.below HB1.out) (HT.out.below HB1.out)).mono ?_; rintro e w2 ⟨rfl, b2⟩; have HB2 := Lib.hid ((HB1.out.trans (b2.mono HB1.out.size)).alloc (Nat.le_trans HB1.out.size b2.size) (.cells (kl q).toArray 33)); have HS2 := Lib.hid ((HS1.out.keep b2).alloc (.cells (kl q).toArray 33)); have HK2 := Lib.hid ((HK1.out.keep b2).alloc (.cells (kl q).toArray 33)); have HI2 := Lib.hid ((HI1.out.keep b2).alloc (.cells (kl q).toArray 33)); have HV2 := Lib.hid ((HV1.out.keep b2).alloc (.cells (kl q).toArray 33)); have HG2 := Lib.hid ((HG1.out.keep b2).alloc (.cells (kl q).toArray 33)); have HR2 := Lib.hid ((HR1.out.keep b2).alloc (.cells (kl q).toArray 33)); have HQ2 := Lib.hid (Blk.new w2 33 (kl q).toArray); have HQ2S := Lib.hid (Nat.le_trans HB1.out.size b2.size); clear sc k0 k1 k2 k3 k4 k5 ic v0 v1 v2 v3 v4 v5; have sc := HS2.out.one; obtain ⟨k0, k1, k2, k3, k4, k5⟩ := HK2.out.six; have ic := HI2.out.one; obtain ⟨v0, v1, v2, v3, v4, v5⟩ := HV2.out.six; clear b2)
    | (refine wpList_store_new (l := kl q) (l0 := kl zk) (ty := 33) rfl (.tmp 6) (.tmp 15) (by rfl) _ rfl (by rfl) (by rfl) size30 rfl (kl_one _) ?_)
    | (refine wpList_yields (S := fun w' => AkAt w' w1.heap.size 0 p x u) (y_ak (by rfl) (.tmp 16) (by rfl) w1.heap.size 0 (by rfl) p x u (fun _ h => h)) HG2.out.ak ?_)
    | (go_at_call 82; refine (HGE.out _ (HST.out.below HB2.out) (HT.out.below HB2.out)).mono ?_; rintro e w3 ⟨rfl, b3⟩; have HB3 := Lib.hid ((HB2.out.trans (b3.mono HB2.out.size)).alloc (Nat.le_trans HB2.out.size b3.size) (.cells (kl g).toArray 33)); have HS3 := Lib.hid ((HS2.out.keep b3).alloc (.cells (kl g).toArray 33)); have HK3 := Lib.hid ((HK2.out.keep b3).alloc (.cells (kl g).toArray 33)); have HI3 := Lib.hid ((HI2.out.keep b3).alloc (.cells (kl g).toArray 33)); have HV3 := Lib.hid ((HV2.out.keep b3).alloc (.cells (kl g).toArray 33)); have HG3 := Lib.hid ((HG2.out.keep b3).alloc (.cells (kl g).toArray 33)); have HR3 := Lib.hid ((HR2.out.keep b3).alloc (.cells (kl g).toArray 33)); have HQ3 := Lib.hid ((HQ2.out.keep b3).alloc (.cells (kl g).toArray 33)); have HY3 := Lib.hid (Blk.new w3 33 (kl g).toArray); have HY3S := Lib.hid (Nat.le_trans HB2.out.size b3.size); clear sc k0 k1 k2 k3 k4 k5 ic v0 v1 v2 v3 v4 v5; have sc := HS3.out.one; obtain ⟨k0, k1, k2, k3, k4, k5⟩ := HK3.out.six; have ic := HI3.out.one; obtain ⟨v0, v1, v2, v3, v4, v5⟩ := HV3.out.six; obtain ⟨g0, g1, g2, g3, g4, g5⟩ := HY3.out.six; clear b3)
    | (refine wpList_store_new (l := kl g) (l0 := kl zk) (ty := 33) rfl (.tmp 7) (.tmp 19) (by rfl) _ rfl (by rfl) (by rfl) size30 rfl (kl_one _) ?_)
    | (refine wpList_yields (S := fun w' => AkAt w' w1.heap.size 0 p x u) (y_op (by rfl) (.tmp 5) (by rfl) w1.heap.size 0 (by rfl) p x u (fun _ h => h)) HG3.out.ak ?_)
    | (go_at_call 83; refine (chg_put (HST.out.below HB3.out) (HT.out.below HB3.out) x u j HJ.out HXO.out i HI_.out q w2.heap.size I HQ3.out HI3.out HOK.out).mono ?_; rintro e w4 ⟨rfl, hs4, hf4⟩; have HS4 := Lib.hid hs4; have HF4 := Lib.hid ((Fr.of_below HB3.out : Fr (fun k => k ∈ ps) w _).trans hf4); have HR4_ := Lib.hid (show Blk w4 w.heap.size 33 (kc 0 0 0 0 0 0) from (hf4.block _ HR3.out.lt (fun hm => by have := HLT.out _ (.inr (.inr hm)); omega)).trans HR3.out); have HY4 := Lib.hid (show Blk w4 w3.heap.size 33 (kl g).toArray from (hf4.block _ HY3.out.lt (fun hm => by have := HLT.out _ (.inr (.inr hm)); have := HY3S.out; omega)).trans HY3.out); clear sc k0 k1 k2 k3 k4 k5 ic v0 v1 v2 v3 v4 v5; clear hs4 hf4 g0 g1 g2 g3 g4 g5; obtain ⟨g0, g1, g2, g3, g4, g5⟩ := HY4.out.six)
    | (refine wpList_store_big (l0 := kl zk) HR4_.out rfl (.tmp 4) (.tmp 23) (ty := 33) (l := kl g) rfl (by rfl) (by rfl) size30 rfl (kl_one _) ?_))
  exact bodyPost_ret (res_1 rfl _ _ w.heap.size _ rfl (load_key _ (HR4_.out.setRow _))) rfl ⟨rfl, HS4.out.keep (fun k hk => setRow_other _ _ _ _ (by have := HLT.out k hk; omega)), HF4.out.then_ (setRow_fr _ _ _) (fun i hi he => by omega)⟩
end
end Go.Proofs.YteodgefnbmiblaaDoor
namespace Go.Proofs.YteodgefnbmiblaaDoor
open Go.RowKit
set_option maxRecDepth 8000 in
theorem load_err {w : World} {g : Nat} {t : TypeId} (n : Int) (h : Blk w g t #[.int .i64 n]) : (loadVar 34 ⟨g, 0, none⟩).run Tryd.prog w = .ok (.int .i64 n) w := by
  have hc : w.cell? ⟨g, 0, none⟩ = some (.int .i64 n) := by simpa using h.cell 0
  simp [go_sem, hc]
theorem set_same {w : World} {g : Nat} {t : TypeId} {v : Value} (h : Blk w g t #[v]) (u : Value) : Blk (w.setCell ⟨g, 0, none⟩ u) g t #[u] := h.set_ 0 u
theorem Fr.heap_lt {S : Nat → Prop} {a b : World} (h : Fr S a b) {k : Nat} (hk : k < a.heap.size) (hs : ¬ S k) : b.heap[k]? = a.heap[k]? := h.block k hk hs
set_option maxRecDepth 8000 in
theorem catch_k (p : Addr) (x n : Int) (older : List PanicEntry) (w : World) (hc : w.cell? p = some (.int .i64 x)) (hz : w.frozen? p = false) :
    CallsD Tryd.prog 85 #[.pointer (some p)] (.panicking ({ v := .iface 34 (.int .i64 n), recovered := false } :: older)) w fun e u' w' =>
      e = .returned (.tuple #[]) ∧ u' = .panicking ({ v := .iface 34 (.int .i64 n), recovered := true } :: older) ∧ w' = w.setCell p (.int .i64 n) := by
  refine callsD_of_wpS Tryd.func85 rfl fun c₀ cs hu => ?_
  apply wpS_seq
  apply wpS_region
  simp [wpOpsS, go_sem, recoverD, hu, Tryd.ntmps85, Exit.thenS]
  apply wpS_seq
  apply wpS_region
  have hne : ∀ w, (binOp .neq 20 (.iface 34 (.int .i64 n)) .nilIface).run Tryd.prog w = .ok (.bool true) w := fun _ => by kernel_rfl
  simp [wpOpsS, go_sem, hne, Exit.thenS]
  refine wpS_cond (t := true) (by simp [Act.eval, Array.replicate]) ?_
  simp only [if_true]
  apply wpS_region
  have hta : ∀ w, (Instr.typeAssert (.iface 34 (.int .i64 n)) 20 34 false).run Tryd.prog w = .ok (.int .i64 n) w := fun _ => by kernel_rfl
  simp [wpOpsS, go_sem, hta, hc, hz, bodyPostS, results, Tryd.results85]
set_option maxRecDepth 8000 in
theorem idle_k (p : Addr) (w : World) :
    CallsD Tryd.prog 85 #[.pointer (some p)] .returning w fun e u' w' => e = .returned (.tuple #[]) ∧ u' = .returning ∧ w' = w := by
  refine callsD_of_wpS Tryd.func85 rfl fun c₀ cs hu => ?_
  apply wpS_seq
  apply wpS_region
  simp [wpOpsS, go_sem, recoverD, hu, Tryd.ntmps85, Exit.thenS]
  apply wpS_seq
  apply wpS_region
  have hne : ∀ w, (binOp .neq 20 .nilIface .nilIface).run Tryd.prog w = .ok (.bool false) w := fun _ => by kernel_rfl
  simp [wpOpsS, go_sem, hne, Exit.thenS]
  refine wpS_cond (t := false) (by simp [Act.eval, Array.replicate]) ?_
  simp only [Bool.false_eq_true, if_false]
  refine wpS_of_wp (wp_skip ?_)
  cases c₀
  simp_all [bodyPostS, results, Tryd.results85]
section
variable {w : World}
set_option maxRecDepth 8000 in
set_option maxHeartbeats 800000 in
theorem face_put_no (S K I V : Nat) (n : Int) (hcl : ∀ W, Below w.heap.size w W → Calls Tryd.prog 78 #[.pointer (some ⟨S, 0, none⟩), .pointer (some ⟨K, 0, none⟩), .pointer (some ⟨I, 0, none⟩), .pointer (some ⟨V, 0, none⟩)] W fun e w' => e = .panicked (erc n) ∧ Below W.heap.size W w') :
    Calls Tryd.prog 77 #[(.func (.func 78) #[] #[.pointer (some ⟨S, 0, none⟩), .pointer (some ⟨K, 0, none⟩), .pointer (some ⟨I, 0, none⟩), .pointer (some ⟨V, 0, none⟩)])] w fun e w' => e = .returned (.tuple #[zk.val, .int .i64 n]) ∧ Below w.heap.size w w' := by
  have hmf : ∀ (fn : Fn) (first cap : Array Value) (w : World), (Instr.makeFunc fn first cap).run Tryd.prog w = .ok (.func fn first cap) w := fun _ _ _ _ => rfl
  have hz9 := z95
  have hbs9 := zks_len
  have HZ := Lib.hid (Blk.alloc (Blk.new w 33 (kl zk).toArray) (.cells #[.int .i64 0] 34))
  have HE := Lib.hid (Blk.new_of (w.alloc (.cells (kl zk).toArray 33)) 34 #[.int .i64 0] (g := w.heap.size + 1) (by simp))
  have HB := Lib.hid (((Below.refl w.heap.size w).alloc (Nat.le_refl _) (.cells (kl zk).toArray 33)).alloc (by simp) (.cells #[.int .i64 0] 34))
  have HC := Lib.hid hcl
  clear hcl
  go_enter_defers Tryd.func77, Tryd.ntmps77
  go_wp2_with (go_at_call 78; refine (HC.out _ HB.out).mono ?_; rintro e w1 ⟨rfl, hb⟩; have Z1 := Lib.hid (Blk.keep HZ.out hb); have E1 := Lib.hid (Blk.keep HE.out hb); have B1 := Lib.hid (HB.out.trans (hb.mono HB.out.size)); clear hb)
  have hc : w1.cell? ⟨w.heap.size + 1, 0, none⟩ = some (.int .i64 0) := by simpa using Blk.cell E1.out 0
  have hz := Blk.frozen E1.out 0
  refine leaves_cons (f := 85) (args := #[.pointer (some ⟨w.heap.size + 1, 0, none⟩)]) (by simp) (by simp [go_sem]) ?_
  refine (catch_k ⟨w.heap.size + 1, 0, none⟩ 0 n [] _ hc hz).mono ?_
  rintro e u' w'' ⟨rfl, rfl, rfl⟩
  have hl2 := load_err n (Blk.set_ E1.out 0 (.int .i64 n))
  change Leaves _ _ _ _ [] FrameMode.returning _
  exact ⟨_, res_2 rfl _ _ w.heap.size (w.heap.size + 1) _ _ rfl rfl (load_key zk (Blk.far Z1.out (p := ⟨w.heap.size + 1, 0, none⟩) (by show w.heap.size ≠ w.heap.size + 1; omega) (.int .i64 n))) hl2, rfl, B1.out.setCell (by show w.heap.size ≤ w.heap.size + 1; omega) _⟩
set_option maxRecDepth 8000 in
set_option maxHeartbeats 800000 in
theorem face_put_yes (S K I V : Nat) (x : Ky) (Sb : Nat → Prop) (R : World → Prop) (hS : ∀ k, Sb k → k < w.heap.size) (hR : ∀ W W' : World, R W → W.heap.size ≤ W'.heap.size → (∀ k, k < W.heap.size → k ≠ w.heap.size ∧ k ≠ w.heap.size + 1 → W'.heap[k]? = W.heap[k]?) → R W') (hcl : ∀ W, Below w.heap.size w W → Calls Tryd.prog 78 #[.pointer (some ⟨S, 0, none⟩), .pointer (some ⟨K, 0, none⟩), .pointer (some ⟨I, 0, none⟩), .pointer (some ⟨V, 0, none⟩)] W fun e w' => e = .returned x.val ∧ R w' ∧ Fr Sb W w') :
    Calls Tryd.prog 77 #[(.func (.func 78) #[] #[.pointer (some ⟨S, 0, none⟩), .pointer (some ⟨K, 0, none⟩), .pointer (some ⟨I, 0, none⟩), .pointer (some ⟨V, 0, none⟩)])] w fun e w' => e = .returned (.tuple #[x.val, .int .i64 0]) ∧ R w' ∧ Fr Sb w w' := by
  have hmf : ∀ (fn : Fn) (first cap : Array Value) (w : World), (Instr.makeFunc fn first cap).run Tryd.prog w = .ok (.func fn first cap) w := fun _ _ _ _ => rfl
  have hz9 := z95
  have hbs9 := zks_len
  have HZ := Lib.hid (Blk.alloc (Blk.new w 33 (kl zk).toArray) (.cells #[.int .i64 0] 34))
  have HE := Lib.hid (Blk.new_of (w.alloc (.cells (kl zk).toArray 33)) 34 #[.int .i64 0] (g := w.heap.size + 1) (by simp))
  have HB := Lib.hid (((Below.refl w.heap.size w).alloc (Nat.le_refl _) (.cells (kl zk).toArray 33)).alloc (by simp) (.cells #[.int .i64 0] 34))
  have HC := Lib.hid hcl
  have HSB := Lib.hid hS
  have HRR := Lib.hid hR
  clear hcl hS hR
  go_enter_defers Tryd.func77, Tryd.ntmps77
  go_wp2_with (first
    | (go_at_call 78; refine (HC.out _ HB.out).mono ?_; rintro e w1 ⟨rfl, hr, hf⟩; have R1 := Lib.hid hr; have F1 := Lib.hid ((Fr.of_below HB.out : Fr Sb w _).trans hf); have Z1 := Lib.hid (show Blk w1 w.heap.size 33 (kl zk).toArray from (hf.block _ HZ.out.lt (fun hm => by have := HSB.out _ hm; omega)).trans HZ.out); have E1 := Lib.hid (show Blk w1 (w.heap.size + 1) 34 #[.int .i64 0] from (hf.block _ HE.out.lt (fun hm => by have := HSB.out _ hm; omega)).trans HE.out); have hc : (w1.setRow w.heap.size (kl x).toArray).cell? ⟨w.heap.size + 1, 0, none⟩ = some (.int .i64 0) := ((Blk.row_far E1.out (show w.heap.size + 1 ≠ w.heap.size by omega) (kl x).toArray)).one; have hz : (w1.setRow w.heap.size (kl x).toArray).frozen? ⟨w.heap.size + 1, 0, none⟩ = false := ((Blk.row_far E1.out (show w.heap.size + 1 ≠ w.heap.size by omega) (kl x).toArray)).frozen 0; clear hr hf)
    | (refine wpList_store_row rfl 33 (.tmp 2) (.tmp 6) rfl w.heap.size (kl x).toArray rfl rfl 33 (kl zk).toArray Z1.out size30 rfl (all_one (kl_one x)) ?_))
  have E2 := (Blk.row_far E1.out (show w.heap.size + 1 ≠ w.heap.size by omega) (kl x).toArray)
  have E3 := set_same E2 (.int .i64 0)
  have Z2 : Blk (w1.setRow w.heap.size (kl x).toArray) w.heap.size 33 (kl x).toArray := Z1.out.setRow _
  refine leaves_cons (f := 85) (args := #[.pointer (some ⟨w.heap.size + 1, 0, none⟩)]) (by simp) (by simp [go_sem]) ?_
  refine (idle_k ⟨w.heap.size + 1, 0, none⟩ _).mono ?_
  rintro e u' w'' ⟨rfl, rfl, rfl⟩
  have hl2 := load_err 0 E3
  change Leaves _ _ _ _ [] FrameMode.returning _
  exact ⟨_, res_2 rfl _ _ w.heap.size (w.heap.size + 1) _ _ rfl rfl (load_key x (Blk.far Z2 (p := ⟨w.heap.size + 1, 0, none⟩) (by show w.heap.size ≠ w.heap.size + 1; omega) (.int .i64 0))) hl2, rfl, HRR.out _ _ R1.out (by simp [World.setCell, World.setRow]) (fun k hk hn => (Below.heap_setCell _ _ _ _ (by show k ≠ w.heap.size + 1; omega)).trans (setRow_other _ _ _ _ (by omega))), (F1.out.then_ (setRow_fr _ _ _) (fun i hi he => by omega)).setCell (fun hh => absurd hh (by show ¬ w.heap.size + 1 < w.heap.size; omega)) _⟩
end
end Go.Proofs.YteodgefnbmiblaaDoor
namespace Go.Proofs.YteodgefnbmiblaaDoor
open Go.RowKit
section
variable {w : World} {base p : Nat} {A : Option Addr} {cap : Nat} {ps : List Nat} {os : List Oj}
set_option maxRecDepth 100000 in
set_option maxHeartbeats 2000000 in
theorem nput_no (P : Value) (hP : IsP P) (x : Ky) (i : Int) (v : Ky) (n : Int) (hcl : ∀ (W : World) (S K I V : Nat), Below w.heap.size w W → Blk W S 25 #[P] → Blk W K 33 (kl x).toArray → Blk W I 3 #[.int .i64 i] → Blk W V 33 (kl v).toArray → Calls Tryd.prog 78 #[.pointer (some ⟨S, 0, none⟩), .pointer (some ⟨K, 0, none⟩), .pointer (some ⟨I, 0, none⟩), .pointer (some ⟨V, 0, none⟩)] W fun e w' => e = .panicked (erc n) ∧ Below W.heap.size W w') :
    Calls Tryd.prog 71 #[P, x.val, .int .i64 i, v.val] w fun e w' => e = .returned (.tuple #[zk.val, .int .i64 n]) ∧ Below w.heap.size w w' := by
  have hmf : ∀ (fn : Fn) (first cap : Array Value) (w : World), (Instr.makeFunc fn first cap).run Tryd.prog w = .ok (.func fn first cap) w := fun _ _ _ _ => rfl
  have hz := z95
  have hbs := zks_len
  have HC := Lib.hid hcl
  clear hcl
  rcases hP with rfl | ⟨Q, rfl⟩
  ·
    have HB0 := Lib.hid ((((((Below.refl w.heap.size w).alloc (Nat.le_refl _) (.cells #[.pointer none] 25)).alloc (by simp) (.cells (kc x.k x.o x.c x.l x.r x.v) 33)).alloc (by simp; omega) (.cells #[.int .i64 i] 3)).alloc (by simp; omega) (.cells (kc v.k v.o v.c v.l v.r v.v) 33)).alloc (by simp; omega) (.cells (kc 0 0 0 0 0 0) 33))
    have HS0 := Lib.hid (((((Blk.new_of w 25 #[.pointer none] (g := w.heap.size) (by simp)).alloc (.cells (kc x.k x.o x.c x.l x.r x.v) 33)).alloc (.cells #[.int .i64 i] 3)).alloc (.cells (kc v.k v.o v.c v.l v.r v.v) 33)).alloc (.cells (kc 0 0 0 0 0 0) 33))
    have HK0 := Lib.hid ((((Blk.new_of (w.alloc (.cells #[.pointer none] 25)) 33 (kc x.k x.o x.c x.l x.r x.v) (g := w.heap.size + 1) (by simp)).alloc (.cells #[.int .i64 i] 3)).alloc (.cells (kc v.k v.o v.c v.l v.r v.v) 33)).alloc (.cells (kc 0 0 0 0 0 0) 33))
    have HI0 := Lib.hid (((Blk.new_of ((w.alloc (.cells #[.pointer none] 25)).alloc (.cells (kc x.k x.o x.c x.l x.r x.v) 33)) 3 #[.int .i64 i] (g := w.heap.size + 1 + 1) (by simp)).alloc (.cells (kc v.k v.o v.c v.l v.r v.v) 33)).alloc (.cells (kc 0 0 0 0 0 0) 33))
    have HV0 := Lib.hid ((Blk.new_of (((w.alloc (.cells #[.pointer none] 25)).alloc (.cells (kc x.k x.o x.c x.l x.r x.v) 33)).alloc (.cells #[.int .i64 i] 3)) 33 (kc v.k v.o v.c v.l v.r v.v) (g := w.heap.size + 1 + 1 + 1) (by simp)).alloc (.cells (kc 0 0 0 0 0 0) 33))
    have HR0 := Lib.hid (Blk.new_of ((((w.alloc (.cells #[.pointer none] 25)).alloc (.cells (kc x.k x.o x.c x.l x.r x.v) 33)).alloc (.cells #[.int .i64 i] 3)).alloc (.cells (kc v.k v.o v.c v.l v.r v.v) 33)) 33 (kc 0 0 0 0 0 0) (g := w.heap.size + 1 + 1 + 1 + 1) (by simp))
    go_enter Tryd.func71, Tryd.ntmps71
    go_wp2_with (first
      | (go_at_call 77; refine (face_put_no (w.heap.size) (w.heap.size + 1) (w.heap.size + 1 + 1) (w.heap.size + 1 + 1 + 1) n (fun W hW => HC.out W _ _ _ _ (HB0.out.trans (hW.mono HB0.out.size)) (HS0.out.keep hW) (HK0.out.keep hW) (HI0.out.keep hW) (HV0.out.keep hW))).mono ?_; rintro e w1 ⟨rfl, b1⟩; have HB1 := Lib.hid (HB0.out.trans (b1.mono HB0.out.size)); have HR1 := Lib.hid (HR0.out.keep b1); clear b1)
      | (refine wpList_store_big (l0 := kl zk) HR1.out rfl (.tmp 8) (.tmp 12) (ty := 33) (l := kl zk) rfl (by rfl) (by rfl) size30 rfl (kl_one _) ?_))
    exact bodyPost_ret (res_1t rfl _ _ (w.heap.size + 1 + 1 + 1 + 1) _ _ rfl rfl (load_key _ (HR1.out.setRow _))) rfl ⟨rfl, below_setRow HB1.out (by omega) _⟩
  ·
    have HB0 := Lib.hid ((((((Below.refl w.heap.size w).alloc (Nat.le_refl _) (.cells #[(pv Q)] 25)).alloc (by simp) (.cells (kc x.k x.o x.c x.l x.r x.v) 33)).alloc (by simp; omega) (.cells #[.int .i64 i] 3)).alloc (by simp; omega) (.cells (kc v.k v.o v.c v.l v.r v.v) 33)).alloc (by simp; omega) (.cells (kc 0 0 0 0 0 0) 33))
    have HS0 := Lib.hid (((((Blk.new_of w 25 #[(pv Q)] (g := w.heap.size) (by simp)).alloc (.cells (kc x.k x.o x.c x.l x.r x.v) 33)).alloc (.cells #[.int .i64 i] 3)).alloc (.cells (kc v.k v.o v.c v.l v.r v.v) 33)).alloc (.cells (kc 0 0 0 0 0 0) 33))
    have HK0 := Lib.hid ((((Blk.new_of (w.alloc (.cells #[(pv Q)] 25)) 33 (kc x.k x.o x.c x.l x.r x.v) (g := w.heap.size + 1) (by simp)).alloc (.cells #[.int .i64 i] 3)).alloc (.cells (kc v.k v.o v.c v.l v.r v.v) 33)).alloc (.cells (kc 0 0 0 0 0 0) 33))
    have HI0 := Lib.hid (((Blk.new_of ((w.alloc (.cells #[(pv Q)] 25)).alloc (.cells (kc x.k x.o x.c x.l x.r x.v) 33)) 3 #[.int .i64 i] (g := w.heap.size + 1 + 1) (by simp)).alloc (.cells (kc v.k v.o v.c v.l v.r v.v) 33)).alloc (.cells (kc 0 0 0 0 0 0) 33))
    have HV0 := Lib.hid ((Blk.new_of (((w.alloc (.cells #[(pv Q)] 25)).alloc (.cells (kc x.k x.o x.c x.l x.r x.v) 33)).alloc (.cells #[.int .i64 i] 3)) 33 (kc v.k v.o v.c v.l v.r v.v) (g := w.heap.size + 1 + 1 + 1) (by simp)).alloc (.cells (kc 0 0 0 0 0 0) 33))
    have HR0 := Lib.hid (Blk.new_of ((((w.alloc (.cells #[(pv Q)] 25)).alloc (.cells (kc x.k x.o x.c x.l x.r x.v) 33)).alloc (.cells #[.int .i64 i] 3)).alloc (.cells (kc v.k v.o v.c v.l v.r v.v) 33)) 33 (kc 0 0 0 0 0 0) (g := w.heap.size + 1 + 1 + 1 + 1) (by simp))
    go_enter Tryd.func71, Tryd.ntmps71
    go_wp2_with (first
      | (go_at_call 77; refine (face_put_no (w.heap.size) (w.heap.size + 1) (w.heap.size + 1 + 1) (w.heap.size + 1 + 1 + 1) n (fun W hW => HC.out W _ _ _ _ (HB0.out.trans (hW.mono HB0.out.size)) (HS0.out.keep hW) (HK0.out.keep hW) (HI0.out.keep hW) (HV0.out.keep hW))).mono ?_; rintro e w1 ⟨rfl, b1⟩; have HB1 := Lib.hid (HB0.out.trans (b1.mono HB0.out.size)); have HR1 := Lib.hid (HR0.out.keep b1); clear b1)
      | (refine wpList_store_big (l0 := kl zk) HR1.out rfl (.tmp 8) (.tmp 12) (ty := 33) (l := kl zk) rfl (by rfl) (by rfl) size30 rfl (kl_one _) ?_))
    exact bodyPost_ret (res_1t rfl _ _ (w.heap.size + 1 + 1 + 1 + 1) _ _ rfl rfl (load_key _ (HR1.out.setRow _))) rfl ⟨rfl, below_setRow HB1.out (by omega) _⟩
set_option maxRecDepth 100000 in
set_option maxHeartbeats 2000000 in
theorem nput_yes  (x : Ky) (i : Int) (v : Ky) (g : Ky) (os' : List Oj) (hlt : ∀ k, stHas p A ps k → k < w.heap.size) (hcl : ∀ (W : World) (S K I V : Nat), Below w.heap.size w W → Blk W S 25 #[pv p] → Blk W K 33 (kl x).toArray → Blk W I 3 #[.int .i64 i] → Blk W V 33 (kl v).toArray → Calls Tryd.prog 78 #[.pointer (some ⟨S, 0, none⟩), .pointer (some ⟨K, 0, none⟩), .pointer (some ⟨I, 0, none⟩), .pointer (some ⟨V, 0, none⟩)] W fun e w' => e = .returned g.val ∧ StAt w' base p A cap ps os' ∧ Fr (fun k => k ∈ ps) W w') :
    Calls Tryd.prog 71 #[pv p, x.val, .int .i64 i, v.val] w fun e w' => e = .returned (.tuple #[g.val, .int .i64 0]) ∧ StAt w' base p A cap ps os' ∧ Fr (fun k => k ∈ ps) w w' := by
  have hmf : ∀ (fn : Fn) (first cap : Array Value) (w : World), (Instr.makeFunc fn first cap).run Tryd.prog w = .ok (.func fn first cap) w := fun _ _ _ _ => rfl
  have hz := z95
  have hbs := zks_len
  have HC := Lib.hid hcl
  clear hcl
  have HLT := Lib.hid hlt
  clear hlt
  ·
    have HB0 := Lib.hid ((((((Below.refl w.heap.size w).alloc (Nat.le_refl _) (.cells #[(pv p)] 25)).alloc (by simp) (.cells (kc x.k x.o x.c x.l x.r x.v) 33)).alloc (by simp; omega) (.cells #[.int .i64 i] 3)).alloc (by simp; omega) (.cells (kc v.k v.o v.c v.l v.r v.v) 33)).alloc (by simp; omega) (.cells (kc 0 0 0 0 0 0) 33))
    have HS0 := Lib.hid (((((Blk.new_of w 25 #[(pv p)] (g := w.heap.size) (by simp)).alloc (.cells (kc x.k x.o x.c x.l x.r x.v) 33)).alloc (.cells #[.int .i64 i] 3)).alloc (.cells (kc v.k v.o v.c v.l v.r v.v) 33)).alloc (.cells (kc 0 0 0 0 0 0) 33))
    have HK0 := Lib.hid ((((Blk.new_of (w.alloc (.cells #[(pv p)] 25)) 33 (kc x.k x.o x.c x.l x.r x.v) (g := w.heap.size + 1) (by simp)).alloc (.cells #[.int .i64 i] 3)).alloc (.cells (kc v.k v.o v.c v.l v.r v.v) 33)).alloc (.cells (kc 0 0 0 0 0 0) 33))
    have HI0 := Lib.hid (((Blk.new_of ((w.alloc (.cells #[(pv p)] 25)).alloc (.cells (kc x.k x.o x.c x.l x.r x.v) 33)) 3 #[.int .i64 i] (g := w.heap.size + 1 + 1) (by simp)).alloc (.cells (kc v.k v.o v.c v.l v.r v.v) 33)).alloc (.cells (kc 0 0 0 0 0 0) 33))
    have HV0 := Lib.hid ((Blk.new_of (((w.alloc (.cells #[(pv p)] 25)).alloc (.cells (kc x.k x.o x.c x.l x.r x.v) 33)).alloc (.cells #[.int .i64 i] 3)) 33 (kc v.k v.o v.c v.l v.r v.v) (g := w.heap.size + 1 + 1 + 1) (by simp)).alloc (.cells (kc 0 0 0 0 0 0) 33))
    have HR0 := Lib.hid (Blk.new_of ((((w.alloc (.cells #[(pv p)] 25)).alloc (.cells (kc x.k x.o x.c x.l x.r x.v) 33)).alloc (.cells #[.int .i64 i] 3)).alloc (.cells (kc v.k v.o v.c v.l v.r v.v) 33)) 33 (kc 0 0 0 0 0 0) (g := w.heap.size + 1 + 1 + 1 + 1) (by simp))
    go_enter Tryd.func71, Tryd.ntmps71
    go_wp2_with (first
      | (go_at_call 77; refine (face_put_yes (w.heap.size) (w.heap.size + 1) (w.heap.size + 1 + 1) (w.heap.size + 1 + 1 + 1) g (fun k => k ∈ ps) (fun W => StAt W base p A cap ps os') (fun k hk => by have h1 := HLT.out k (.inr (.inr hk)); have h2 := HB0.out.size; omega) (fun W W' hs hsz hk => hs.keep fun k hq => hk k (hs.lt k hq).2 (by have h1 := HLT.out k hq; have h2 := HB0.out.size; omega)) (fun W hW => HC.out W _ _ _ _ (HB0.out.trans (hW.mono HB0.out.size)) (HS0.out.keep hW) (HK0.out.keep hW) (HI0.out.keep hW) (HV0.out.keep hW))).mono ?_; rintro e w1 ⟨rfl, s1, f1⟩; have HS1 := Lib.hid s1; have HF1 := Lib.hid ((Fr.of_below HB0.out : Fr (fun k => k ∈ ps) w _).trans f1); have HR1 := Lib.hid (show Blk w1 (w.heap.size + 1 + 1 + 1 + 1) 33 (kc 0 0 0 0 0 0) from (f1.block _ HR0.out.lt (fun hm => by have := HLT.out _ (.inr (.inr hm)); omega)).trans HR0.out); clear s1 f1)
      | (refine wpList_store_big (l0 := kl zk) HR1.out rfl (.tmp 8) (.tmp 12) (ty := 33) (l := kl g) rfl (by rfl) (by rfl) size30 rfl (kl_one _) ?_))
    exact bodyPost_ret (res_1t rfl _ _ (w.heap.size + 1 + 1 + 1 + 1) _ _ rfl rfl (load_key _ (HR1.out.setRow _))) rfl ⟨rfl, HS1.out.keep (fun k hk => setRow_other _ _ _ _ (by have := HLT.out k hk; omega)), HF1.out.then_ (setRow_fr _ _ _) (fun i hi he => by omega)⟩
end
end Go.Proofs.YteodgefnbmiblaaDoor
namespace Go.Proofs.YteodgefnbmiblaaDoor
open Go.RowKit
/-- it is the key of a node that counts -/
def askN (os : List Oj) (x : Ky) : Prop := (named os x).isSome = true ∧ x.k = 2
structure AskD (os : List Oj) (x : Ky) (j : Nat) (u : Oj) : Prop where
  nm : named os x = some u
  k : x.k = 2
  ok : x.ok
  o : x.o = (j : Int)
  lt : j < os.length
  at_ : os[j] = u
  uk : u.k = 1
set_option maxRecDepth 8000 in
theorem askN_d {os : List Oj} {x : Ky} (h : askN os x) : ∃ j u, AskD os x j u := by
  obtain ⟨h1, h2⟩ := h
  have hof := named_of h1
  have hok := hof.1
  have h3 := named_is (os := os) hof
  obtain ⟨u, hu⟩ := Option.isSome_iff_exists.1 h1
  rw [hu] at h3
  have h4 := Option.filter_eq_some_iff.1 h3.symm
  obtain ⟨h5, h6⟩ := h4
  obtain ⟨hlt, hat⟩ := List.getElem?_eq_some_iff.1 h5
  have ho : 0 ≤ x.o := by
    obtain ⟨n, hk, hn, o0, _⟩ := hok
    exact o0
  refine ⟨x.o.toNat, u, hu, h2, hok, by omega, hlt, hat, ?_⟩
  have h7 : x.ok ∧ (x.of → x.want = u.k ∧ x.c = u.c ∧ (x.k ≠ 7 ∨ x.l = u.l)) := by
    have : x.cnt u.k u.c u.l = true := h6
    unfold Ky.cnt at this
    simpa using this
  have h8 := (h7.2 hof).1
  unfold Ky.want at h8
  rw [if_pos hof, if_neg (by omega)] at h8
  exact h8.symm
theorem AskD.is {os : List Oj} {x : Ky} {j : Nat} {u : Oj} (h : AskD os x j u) : askN os x := ⟨by rw [h.nm]; rfl, h.k⟩
set_option maxRecDepth 8000 in
theorem AskD.eq {os : List Oj} {x : Ky} {j : Nat} {u : Oj} (h : AskD os x j u) : (named os x).getD oz = u := by rw [h.nm]; rfl
set_option maxRecDepth 8000 in
theorem AskD.jn {os : List Oj} {x : Ky} {j : Nat} {u : Oj} (h : AskD os x j u) : x.o.toNat = j := by have := h.o; omega
set_option maxRecDepth 8000 in
-- what is put may be there
theorem prepd_may (os : List Oj) (v : Ky) : (prepd os v).may os.length := by
  unfold prepd
  by_cases h : ((named os v).isSome || v.cn oz) = true
  · rw [if_pos h]
    by_cases h1 : (named os v).isSome = true
    · have hof := named_of h1
      refine ⟨hof.1, fun _ => ?_⟩
      have h3 := named_is (os := os) hof
      obtain ⟨u, hu⟩ := Option.isSome_iff_exists.1 h1
      rw [hu] at h3
      obtain ⟨hlt, _⟩ := List.getElem?_eq_some_iff.1 (Option.filter_eq_some_iff.1 h3.symm).1
      have ho : 0 ≤ v.o := by
        obtain ⟨n, hk, hn, o0, _⟩ := hof.1
        exact o0
      omega
    · have h2 : v.cn oz = true := by
        rcases Bool.or_eq_true_iff.1 h with h' | h'
        · exact absurd h' h1
        · exact h'
      obtain ⟨h3, h4⟩ := cn_oz.1 h2
      exact ⟨h3, fun hf => absurd hf h4⟩
  · rw [if_neg h]
    exact zk_may _
set_option maxRecDepth 8000 in
theorem weak_may {n : Int} {x : Ky} (h : x.may n) : x.weak.may n := by
  refine ⟨weak_ok h.1, fun hf => ?_⟩
  by_cases h1 : x.k = 0 ∨ x.k = 1 ∨ x.k = 8
  · rw [weak_self h1] at hf ⊢
    exact h.2 hf
  · by_cases h2 : x.k = 2 ∨ x.k = 3
    · rw [weak_less h2] at hf ⊢
      exact h.2 ⟨h.1, hf.2⟩
    · rw [weak_void (by omega)] at hf
      exact absurd hf.2.1 (by simp)
set_option maxRecDepth 8000 in
theorem gotK_may (os : List Oj) (x y : Ky) : (gotK os x y).may os.length := by
  unfold gotK
  by_cases h : x.r / 2 % 2 = 1
  · rw [if_pos h]
    exact weak_may (prepd_may os y)
  · rw [if_neg h]
    exact prepd_may os y
set_option maxRecDepth 8000 in
theorem gots_may (os : List Oj) (x : Ky) (u : Oj) : mayS os.length (gots os x u) := by
  intro y hy
  obtain ⟨z, _, rfl⟩ := List.mem_map.1 hy
  exact gotK_may os x z
theorem zks_may (n : Int) : mayS n zks := fun y hy => by
  rw [List.eq_of_mem_replicate (show y ∈ List.replicate 16 zk from hy)]
  exact zk_may n
set_option maxRecDepth 8000 in
theorem node_may {n : Int} {u : Oj} (h : u.ok n) (hk : u.k = 1) : mayS n u.s := by
  rcases h.2.2.2 with h1 | h1 | h1
  · exact h1.2
  · have := h1.1; omega
  · have := h1.1; omega
theorem slotsAs_ok {n : Int} {u : Oj} (h : u.ok n) (hk : u.k = 1) (s : List Ky) (hs : s.length = 16) (hm : mayS n s) : (slotsAs u s hs).ok n := ⟨h.1, h.2.1, h.2.2.1, .inl ⟨hk, hm⟩⟩
theorem set_may {n : Int} {s : List Ky} (h : mayS n s) (i : Nat) {v : Ky} (hv : v.may n) : mayS n (s.set i v) := fun y hy => by
  rcases List.mem_or_eq_of_mem_set hy with h' | rfl
  · exact h y h'
  · exact hv
theorem okAll_set {n : Int} {os : List Oj} (h : okAll n os) (j : Nat) {o : Oj} (ho : o.ok n) : okAll n (os.set j o) := fun y hy => by
  rcases List.mem_or_eq_of_mem_set hy with h' | rfl
  · exact h y h'
  · exact ho
theorem AskD.okU {os : List Oj} {x : Ky} {j : Nat} {u : Oj} (h : AskD os x j u) (ho : okAll os.length os) : u.ok os.length := ho u (h.at_ ▸ List.getElem_mem h.lt)
theorem put_oku {os : List Oj} {x : Ky} {j : Nat} {u : Oj} (h : AskD os x j u) (ho : okAll os.length os) (i : Nat) (v : Ky) : (slotAs u i (prepd os v)).ok os.length := slotsAs_ok (h.okU ho) h.uk (u.s.set i (prepd os v)) (by rw [List.length_set]; exact u.hs) (set_may (node_may (h.okU ho) h.uk) i (prepd_may os v))
-- the answers
open Classical in
noncomputable def askA (os : List Oj) (x : Ky) : Int := if askN os x then 0 else 190
open Classical in
noncomputable def opnA (os : List Oj) (x : Ky) : Int := if askN os x then (if x.r % 4 = 0 then 0 else 191) else 190
open Classical in
noncomputable def getA (os : List Oj) (x : Ky) (i : Int) : Ky × Int := if askN os x then (if 0 ≤ i ∧ i < 16 then (gotK os x ((((named os x).getD oz).s[i.toNat]?).getD zk), 0) else (zk, 4)) else (zk, 190)
open Classical in
noncomputable def putA (os : List Oj) (x : Ky) (i : Int) (v : Ky) : List Oj × Ky × Int :=
  if askN os x then (if x.r % 4 = 0 then (if 0 ≤ i ∧ i < 16 then (if v.may os.length then (os.set x.o.toNat (slotAs ((named os x).getD oz) i.toNat (prepd os v)), gotK os x ((((named os x).getD oz).s[i.toNat]?).getD zk), 0) else (os, zk, 2)) else (os, zk, 4)) else (os, zk, 191)) else (os, zk, 190)
open Classical in
noncomputable def cleA (os : List Oj) (x : Ky) : List Oj × Int := if askN os x then (if x.r % 4 = 0 then (os.set x.o.toNat (slotsAs ((named os x).getD oz) zks rfl), 0) else (os, 191)) else (os, 190)
open Classical in
noncomputable def cloA (os : List Oj) (x y : Ky) : List Oj × Int := if askN os x then (if x.r % 4 = 0 then (if askN os y then (os.set x.o.toNat (slotsAs ((named os x).getD oz) (gots os y ((named os y).getD oz)) (gots_len _ _ _)), 0) else (os, 190)) else (os, 191)) else (os, 190)
set_option maxRecDepth 8000 in
theorem putA_len (os : List Oj) (x : Ky) (i : Int) (v : Ky) : (putA os x i v).1.length = os.length := by
  unfold putA
  split <;> (try split) <;> (try split) <;> (try split) <;> simp
set_option maxRecDepth 8000 in
theorem cleA_len (os : List Oj) (x : Ky) : (cleA os x).1.length = os.length := by
  unfold cleA
  split <;> (try split) <;> simp
set_option maxRecDepth 8000 in
theorem cloA_len (os : List Oj) (x y : Ky) : (cloA os x y).1.length = os.length := by
  unfold cloA
  split <;> (try split) <;> (try split) <;> simp
set_option maxRecDepth 8000 in
theorem putA_ok {os : List Oj} (ho : okAll os.length os) (x : Ky) (i : Int) (v : Ky) : okAll os.length (putA os x i v).1 := by
  unfold putA
  split
  · next h =>
    split
    · split
      · split
        · obtain ⟨j, u, d⟩ := askN_d h
          rw [d.eq]
          exact okAll_set ho _ (put_oku d ho _ _)
        · exact ho
      · exact ho
    · exact ho
  · exact ho
set_option maxRecDepth 8000 in
theorem cleA_ok {os : List Oj} (ho : okAll os.length os) (x : Ky) : okAll os.length (cleA os x).1 := by
  unfold cleA
  split
  · next h =>
    split
    · obtain ⟨j, u, d⟩ := askN_d h
      rw [d.eq]
      exact okAll_set ho _ (slotsAs_ok (d.okU ho) d.uk _ _ (zks_may _))
    · exact ho
  · exact ho
set_option maxRecDepth 8000 in
theorem cloA_ok {os : List Oj} (ho : okAll os.length os) (x y : Ky) : okAll os.length (cloA os x y).1 := by
  unfold cloA
  split
  · next h =>
    split
    · split
      · obtain ⟨j, u, d⟩ := askN_d h
        simp only [d.eq]
        exact okAll_set ho _ (slotsAs_ok (d.okU ho) d.uk _ _ (gots_may _ _ _))
      · exact ho
    · exact ho
  · exact ho
end Go.Proofs.YteodgefnbmiblaaDoor

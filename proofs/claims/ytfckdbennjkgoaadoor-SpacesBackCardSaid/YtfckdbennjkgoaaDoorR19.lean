/- nodes: what each call does, ahead of its face. -/
import Derived.Test.YtfckdbennjkgoaaDoorR16
namespace Go.Proofs.YtfckdbennjkgoaaDoor
open Go.RowKit
section
variable {w : World} {base p : Nat} {A : Option Addr} {cap : Nat} {ps : List Nat} {os : List Oj} {kt it pt : TypeId} {S K I V : Nat}
theorem Blk.one {g : Nat} {t : TypeId} {v : Value} (h : Blk w g t #[v]) : w.cell? ⟨g, 0, none⟩ = some v := h.cell 0
set_option maxRecDepth 8000 in
theorem asks_nil (P : Value) (x : Ky) (hP : P = .pointer none ∨ ∃ q base A cap ps, P = pv q ∧ StAt w base q A cap ps []) : Calls Tryd.prog 86 #[P, x.val] w fun e w' => e = .panicked (erc 1) ∧ Below w.heap.size w w' := by
  rcases hP with rfl | ⟨q, base, A, cap, ps, rfl, h⟩
  · exact ask_nil x
  · exact ask_none h x
set_option maxRecDepth 8000 in
theorem opens_nil (P : Value) (x : Ky) (hP : P = .pointer none ∨ ∃ q base A cap ps, P = pv q ∧ StAt w base q A cap ps []) : Calls Tryd.prog 64 #[P, x.val] w fun e w' => e = .panicked (erc 1) ∧ Below w.heap.size w w' := by
  rcases hP with rfl | ⟨q, base, A, cap, ps, rfl, h⟩
  · exact open_nil x
  · exact open_none h x
set_option maxRecDepth 8000 in
theorem nost_below {P : Value} {w' : World} (hP : P = .pointer none ∨ ∃ q base A cap ps, P = pv q ∧ StAt w base q A cap ps []) (hb : Below w.heap.size w w') : P = .pointer none ∨ ∃ q base A cap ps, P = pv q ∧ StAt w' base q A cap ps [] := by
  rcases hP with rfl | ⟨q, base, A, cap, ps, rfl, h⟩
  · exact .inl rfl
  · exact .inr ⟨q, base, A, cap, ps, rfl, h.below hb⟩
set_option maxRecDepth 100000 in
set_option maxHeartbeats 4000000 in
theorem get1_nil (P : Value) (hP : P = .pointer none ∨ ∃ q base A cap ps, P = pv q ∧ StAt w base q A cap ps []) (x : Ky) (i : Int) (hS : Blk w S pt #[P]) (hK : Blk w K kt (kl x).toArray) (hI : Blk w I it #[.int .i64 i]) :
    Calls Tryd.prog 106 #[.pointer (some ⟨S, 0, none⟩), .pointer (some ⟨K, 0, none⟩), .pointer (some ⟨I, 0, none⟩)] w fun e w' => e = .panicked (erc 1) ∧ Below w.heap.size w w' := by
  have hz := z95
  have hz2 := z87
  have hz3 := z93
  have hbs := zks_len
  have hbz := zakc_len
  have HP := Lib.hid hP
  clear hP
  have HB0 := Lib.hid ((Below.refl w.heap.size w).alloc (Nat.le_refl _) (.cells (kc 0 0 0 0 0 0) 31))
  have HS0 := Lib.hid (hS.alloc (.cells (kc 0 0 0 0 0 0) 31))
  have HK0 := Lib.hid (hK.alloc (.cells (kc 0 0 0 0 0 0) 31))
  have HI0 := Lib.hid (hI.alloc (.cells (kc 0 0 0 0 0 0) 31))
  have sc := HS0.out.one
  obtain ⟨k0, k1, k2, k3, k4, k5⟩ := HK0.out.six
  have ic := HI0.out.one
  clear hS hK hI
  go_enter Tryd.func106, Tryd.ntmps106
  go_wp2_with (first
    | (go_at_call 86; refine (asks_nil P x (nost_below HP.out HB0.out)).mono ?_; rintro e w1 ⟨rfl, b1⟩; have HB1 := Lib.hid (HB0.out.trans (b1.mono HB0.out.size)); clear b1))
  exact ⟨rfl, rfl, HB1.out⟩
set_option maxRecDepth 100000 in
set_option maxHeartbeats 4000000 in
theorem get1_no (h : StAt w base p A cap ps os) (hn : 0 < os.length) (hT : Tab w) (x : Ky) (hx : ¬ ((named os x).isSome = true ∧ x.k = 2)) (i : Int) (hS : Blk w S pt #[pv p]) (hK : Blk w K kt (kl x).toArray) (hI : Blk w I it #[.int .i64 i]) :
    Calls Tryd.prog 106 #[.pointer (some ⟨S, 0, none⟩), .pointer (some ⟨K, 0, none⟩), .pointer (some ⟨I, 0, none⟩)] w fun e w' => e = .panicked (erc 190) ∧ Below w.heap.size w w' := by
  have hz := z95
  have hz2 := z87
  have hz3 := z93
  have hbs := zks_len
  have hbz := zakc_len
  have HST := Lib.hid h
  have HN := Lib.hid hn
  have HT := Lib.hid hT
  clear h hn hT
  have HX := Lib.hid hx
  clear hx
  have HB0 := Lib.hid ((Below.refl w.heap.size w).alloc (Nat.le_refl _) (.cells (kc 0 0 0 0 0 0) 31))
  have HS0 := Lib.hid (hS.alloc (.cells (kc 0 0 0 0 0 0) 31))
  have HK0 := Lib.hid (hK.alloc (.cells (kc 0 0 0 0 0 0) 31))
  have HI0 := Lib.hid (hI.alloc (.cells (kc 0 0 0 0 0 0) 31))
  have sc := HS0.out.one
  obtain ⟨k0, k1, k2, k3, k4, k5⟩ := HK0.out.six
  have ic := HI0.out.one
  clear hS hK hI
  go_enter Tryd.func106, Tryd.ntmps106
  go_wp2_with (first
    | (go_at_call 86; refine (ask_no (HST.out.below HB0.out) HN.out (HT.out.below HB0.out) x HX.out).mono ?_; rintro e w1 ⟨rfl, b1⟩; have HB1 := Lib.hid (HB0.out.trans (b1.mono HB0.out.size)); clear b1))
  exact ⟨rfl, rfl, HB1.out⟩
set_option maxRecDepth 100000 in
set_option maxHeartbeats 4000000 in
theorem get1_slot (h : StAt w base p A cap ps os) (hn : 0 < os.length) (hT : Tab w) (x : Ky) (u : Oj) (hx : named os x = some u) (hk : x.k = 2) (i : Int) (hi : ¬ (0 ≤ i ∧ i < 16)) (hS : Blk w S pt #[pv p]) (hK : Blk w K kt (kl x).toArray) (hI : Blk w I it #[.int .i64 i]) :
    Calls Tryd.prog 106 #[.pointer (some ⟨S, 0, none⟩), .pointer (some ⟨K, 0, none⟩), .pointer (some ⟨I, 0, none⟩)] w fun e w' => e = .panicked (erc 4) ∧ Below w.heap.size w w' := by
  have hz := z95
  have hz2 := z87
  have hz3 := z93
  have hbs := zks_len
  have hbz := zakc_len
  have HST := Lib.hid h
  have HN := Lib.hid hn
  have HT := Lib.hid hT
  clear h hn hT
  have HX := Lib.hid hx
  have HKK := Lib.hid hk
  clear hx hk
  have HI_ := Lib.hid hi
  clear hi
  have HB0 := Lib.hid ((Below.refl w.heap.size w).alloc (Nat.le_refl _) (.cells (kc 0 0 0 0 0 0) 31))
  have HS0 := Lib.hid (hS.alloc (.cells (kc 0 0 0 0 0 0) 31))
  have HK0 := Lib.hid (hK.alloc (.cells (kc 0 0 0 0 0 0) 31))
  have HI0 := Lib.hid (hI.alloc (.cells (kc 0 0 0 0 0 0) 31))
  have sc := HS0.out.one
  obtain ⟨k0, k1, k2, k3, k4, k5⟩ := HK0.out.six
  have ic := HI0.out.one
  clear hS hK hI
  go_enter Tryd.func106, Tryd.ntmps106
  go_wp2_with (first
    | (go_at_call 86; refine (ask_yes (HST.out.below HB0.out) HN.out (HT.out.below HB0.out) x u HX.out HKK.out).mono ?_; rintro e w1 ⟨rfl, b1⟩; have HB1 := Lib.hid ((HB0.out.trans (b1.mono HB0.out.size)).alloc (Nat.le_trans HB0.out.size b1.size) (.cells (akc p x u).toArray 127)); have HS1 := Lib.hid ((HS0.out.keep b1).alloc (.cells (akc p x u).toArray 127)); have HK1 := Lib.hid ((HK0.out.keep b1).alloc (.cells (akc p x u).toArray 127)); have HI1 := Lib.hid ((HI0.out.keep b1).alloc (.cells (akc p x u).toArray 127)); have HG1 := Lib.hid (Blk.new w1 127 (akc p x u).toArray); clear sc k0 k1 k2 k3 k4 k5 ic; have sc := HS1.out.one; obtain ⟨k0, k1, k2, k3, k4, k5⟩ := HK1.out.six; have ic := HI1.out.one; clear b1)
    | (refine wpList_store_new (l := akc p x u) (l0 := zakc) (ty := 127) rfl (.tmp 4) (.tmp 7) (by rfl) _ rfl (by rfl) (by rfl) (by rw [akc_len]; exact size87) (by rw [akc_len, zakc_len]) (akc_one _ _ _) ?_)
    | (go_at_call 65; refine (slot_no i HI_.out _).mono ?_; rintro e w2 ⟨rfl, rfl⟩))
  exact ⟨rfl, rfl, HB1.out⟩
set_option maxRecDepth 100000 in
set_option maxHeartbeats 4000000 in
theorem get1_yes (h : StAt w base p A cap ps os) (hn : 0 < os.length) (hT : Tab w) (x : Ky) (u : Oj) (hx : named os x = some u) (hk : x.k = 2) (hok : x.ok) (i : Nat) (hi : i < 16) (y : Ky) (hy : u.s[i]? = some y) (hS : Blk w S pt #[pv p]) (hK : Blk w K kt (kl x).toArray) (hI : Blk w I it #[.int .i64 (i : Int)]) :
    Calls Tryd.prog 106 #[.pointer (some ⟨S, 0, none⟩), .pointer (some ⟨K, 0, none⟩), .pointer (some ⟨I, 0, none⟩)] w fun e w' => e = .returned (gotK os x y).val ∧ Below w.heap.size w w' := by
  have hz := z95
  have hz2 := z87
  have hz3 := z93
  have hbs := zks_len
  have hbz := zakc_len
  have HST := Lib.hid h
  have HN := Lib.hid hn
  have HT := Lib.hid hT
  clear h hn hT
  have HX := Lib.hid hx
  have HKK := Lib.hid hk
  clear hx hk
  have HI_ := Lib.hid hi
  have HY := Lib.hid hy
  have HO := Lib.hid hok
  clear hi hy hok
  have HR0 := Lib.hid (Blk.new w 31 (kc 0 0 0 0 0 0))
  have HB0 := Lib.hid ((Below.refl w.heap.size w).alloc (Nat.le_refl _) (.cells (kc 0 0 0 0 0 0) 31))
  have HS0 := Lib.hid (hS.alloc (.cells (kc 0 0 0 0 0 0) 31))
  have HK0 := Lib.hid (hK.alloc (.cells (kc 0 0 0 0 0 0) 31))
  have HI0 := Lib.hid (hI.alloc (.cells (kc 0 0 0 0 0 0) 31))
  have sc := HS0.out.one
  obtain ⟨k0, k1, k2, k3, k4, k5⟩ := HK0.out.six
  have ic := HI0.out.one
  clear hS hK hI
  go_enter Tryd.func106, Tryd.ntmps106
  go_wp2_with (first
    | (go_at_call 86; refine (ask_yes (HST.out.below HB0.out) HN.out (HT.out.below HB0.out) x u HX.out HKK.out).mono ?_; rintro e w1 ⟨rfl, b1⟩; have HB1 := Lib.hid ((HB0.out.trans (b1.mono HB0.out.size)).alloc (Nat.le_trans HB0.out.size b1.size) (.cells (akc p x u).toArray 127)); have HS1 := Lib.hid ((HS0.out.keep b1).alloc (.cells (akc p x u).toArray 127)); have HK1 := Lib.hid ((HK0.out.keep b1).alloc (.cells (akc p x u).toArray 127)); have HI1 := Lib.hid ((HI0.out.keep b1).alloc (.cells (akc p x u).toArray 127)); have HR1 := Lib.hid ((HR0.out.keep b1).alloc (.cells (akc p x u).toArray 127)); have HG1 := Lib.hid (Blk.new w1 127 (akc p x u).toArray); clear sc k0 k1 k2 k3 k4 k5 ic; have sc := HS1.out.one; obtain ⟨k0, k1, k2, k3, k4, k5⟩ := HK1.out.six; have ic := HI1.out.one; clear b1)
    | (refine wpList_store_new (l := akc p x u) (l0 := zakc) (ty := 127) rfl (.tmp 4) (.tmp 7) (by rfl) _ rfl (by rfl) (by rfl) (by rw [akc_len]; exact size87) (by rw [akc_len, zakc_len]) (akc_one _ _ _) ?_)
    | (go_at_call 65; refine (slot_ok i HI_.out _).mono ?_; rintro e w2 ⟨rfl, rfl⟩)
    | (refine wpList_yields (S := fun w' => AkAt w' (w1.heap.size) 0 p x u) (y_ak (by rfl) (.tmp 4) (by rfl) (w1.heap.size) 0 (by rfl) p x u (fun _ h => h)) HG1.out.ak ?_)
    | (go_at_call 67; refine (got_any (HST.out.below HB1.out) HN.out (HT.out.below HB1.out) x u i HI_.out y HY.out HO.out).mono ?_; rintro e w3 ⟨rfl, b3⟩; have HB3 := Lib.hid (HB1.out.trans (b3.mono HB1.out.size)); have HR3 := Lib.hid ((HR1.out.keep b3)); clear b3)
    | (refine wpList_store_big (l0 := kl zk) HR3.out rfl (.tmp 3) (.tmp 12) (ty := 31) (l := kl (gotK os x y)) rfl (by rfl) (by rfl) size30 rfl (kl_one _) ?_))
  exact bodyPost_ret (res_1 rfl _ _ w.heap.size _ rfl (load_key _ (HR3.out.setRow _))) rfl ⟨rfl, below_setRow HB3.out (Nat.le_refl _) _⟩
end
end Go.Proofs.YtfckdbennjkgoaaDoor
namespace Go.Proofs.YtfckdbennjkgoaaDoor
open Go.RowKit
section
variable {w : World} {base p : Nat} {A : Option Addr} {cap : Nat} {ps : List Nat} {os : List Oj} {kt it pt vt lt : TypeId} {S K I V L : Nat}
set_option maxRecDepth 100000 in
set_option maxHeartbeats 4000000 in
theorem put1_nil (P : Value) (hP : P = .pointer none ∨ ∃ q base A cap ps, P = pv q ∧ StAt w base q A cap ps []) (x v : Ky) (i : Int) (hS : Blk w S pt #[P]) (hK : Blk w K kt (kl x).toArray) (hI : Blk w I it #[.int .i64 i]) (hV : Blk w V vt (kl v).toArray) :
    Calls Tryd.prog 63 #[.pointer (some ⟨S, 0, none⟩), .pointer (some ⟨K, 0, none⟩), .pointer (some ⟨I, 0, none⟩), .pointer (some ⟨V, 0, none⟩)] w fun e w' => e = .panicked (erc 1) ∧ Below w.heap.size w w' := by
  have hz := z95
  have hz2 := z87
  have hz3 := z93
  have hbs := zks_len
  have hbz := zakc_len
  have HP := Lib.hid hP
  clear hP
  have HB0 := Lib.hid ((Below.refl w.heap.size w).alloc (Nat.le_refl _) (.cells (kc 0 0 0 0 0 0) 31))
  have HS0 := Lib.hid (hS.alloc (.cells (kc 0 0 0 0 0 0) 31))
  have HK0 := Lib.hid (hK.alloc (.cells (kc 0 0 0 0 0 0) 31))
  have HI0 := Lib.hid (hI.alloc (.cells (kc 0 0 0 0 0 0) 31))
  have HV0 := Lib.hid (hV.alloc (.cells (kc 0 0 0 0 0 0) 31))
  have sc := HS0.out.one
  obtain ⟨k0, k1, k2, k3, k4, k5⟩ := HK0.out.six
  have ic := HI0.out.one
  obtain ⟨v0, v1, v2, v3, v4, v5⟩ := HV0.out.six
  clear hS hK hI hV
  go_enter Tryd.func63, Tryd.ntmps63
  go_wp2_with (first
    | (go_at_call 64; refine (opens_nil P x (nost_below HP.out HB0.out)).mono ?_; rintro e w1 ⟨rfl, b1⟩; have HB1 := Lib.hid (HB0.out.trans (b1.mono HB0.out.size)); clear b1))
  exact ⟨rfl, rfl, HB1.out⟩
set_option maxRecDepth 100000 in
set_option maxHeartbeats 4000000 in
theorem put1_no (h : StAt w base p A cap ps os) (hn : 0 < os.length) (hT : Tab w) (x v : Ky) (hx : ¬ ((named os x).isSome = true ∧ x.k = 2)) (i : Int) (hS : Blk w S pt #[pv p]) (hK : Blk w K kt (kl x).toArray) (hI : Blk w I it #[.int .i64 i]) (hV : Blk w V vt (kl v).toArray) :
    Calls Tryd.prog 63 #[.pointer (some ⟨S, 0, none⟩), .pointer (some ⟨K, 0, none⟩), .pointer (some ⟨I, 0, none⟩), .pointer (some ⟨V, 0, none⟩)] w fun e w' => e = .panicked (erc 190) ∧ Below w.heap.size w w' := by
  have hz := z95
  have hz2 := z87
  have hz3 := z93
  have hbs := zks_len
  have hbz := zakc_len
  have HST := Lib.hid h
  have HN := Lib.hid hn
  have HT := Lib.hid hT
  clear h hn hT
  have HX := Lib.hid hx
  clear hx
  have HB0 := Lib.hid ((Below.refl w.heap.size w).alloc (Nat.le_refl _) (.cells (kc 0 0 0 0 0 0) 31))
  have HS0 := Lib.hid (hS.alloc (.cells (kc 0 0 0 0 0 0) 31))
  have HK0 := Lib.hid (hK.alloc (.cells (kc 0 0 0 0 0 0) 31))
  have HI0 := Lib.hid (hI.alloc (.cells (kc 0 0 0 0 0 0) 31))
  have HV0 := Lib.hid (hV.alloc (.cells (kc 0 0 0 0 0 0) 31))
  have sc := HS0.out.one
  obtain ⟨k0, k1, k2, k3, k4, k5⟩ := HK0.out.six
  have ic := HI0.out.one
  obtain ⟨v0, v1, v2, v3, v4, v5⟩ := HV0.out.six
  clear hS hK hI hV
  go_enter Tryd.func63, Tryd.ntmps63
  go_wp2_with (first
    | (go_at_call 64; refine (open_no (HST.out.below HB0.out) HN.out (HT.out.below HB0.out) x HX.out).mono ?_; rintro e w1 ⟨rfl, b1⟩; have HB1 := Lib.hid (HB0.out.trans (b1.mono HB0.out.size)); clear b1))
  exact ⟨rfl, rfl, HB1.out⟩
set_option maxRecDepth 100000 in
set_option maxHeartbeats 4000000 in
theorem put1_right (h : StAt w base p A cap ps os) (hn : 0 < os.length) (hT : Tab w) (x v : Ky) (u : Oj) (hx : named os x = some u) (hk : x.k = 2) (hok : x.ok) (hr4 : x.r % 4 ≠ 0) (i : Int) (hS : Blk w S pt #[pv p]) (hK : Blk w K kt (kl x).toArray) (hI : Blk w I it #[.int .i64 i]) (hV : Blk w V vt (kl v).toArray) :
    Calls Tryd.prog 63 #[.pointer (some ⟨S, 0, none⟩), .pointer (some ⟨K, 0, none⟩), .pointer (some ⟨I, 0, none⟩), .pointer (some ⟨V, 0, none⟩)] w fun e w' => e = .panicked (erc 191) ∧ Below w.heap.size w w' := by
  have hz := z95
  have hz2 := z87
  have hz3 := z93
  have hbs := zks_len
  have hbz := zakc_len
  have HST := Lib.hid h
  have HN := Lib.hid hn
  have HT := Lib.hid hT
  clear h hn hT
  have HX := Lib.hid hx
  have HKK := Lib.hid hk
  clear hx hk
  have HO := Lib.hid hok
  have HR4 := Lib.hid hr4
  clear hok hr4
  have HB0 := Lib.hid ((Below.refl w.heap.size w).alloc (Nat.le_refl _) (.cells (kc 0 0 0 0 0 0) 31))
  have HS0 := Lib.hid (hS.alloc (.cells (kc 0 0 0 0 0 0) 31))
  have HK0 := Lib.hid (hK.alloc (.cells (kc 0 0 0 0 0 0) 31))
  have HI0 := Lib.hid (hI.alloc (.cells (kc 0 0 0 0 0 0) 31))
  have HV0 := Lib.hid (hV.alloc (.cells (kc 0 0 0 0 0 0) 31))
  have sc := HS0.out.one
  obtain ⟨k0, k1, k2, k3, k4, k5⟩ := HK0.out.six
  have ic := HI0.out.one
  obtain ⟨v0, v1, v2, v3, v4, v5⟩ := HV0.out.six
  clear hS hK hI hV
  go_enter Tryd.func63, Tryd.ntmps63
  go_wp2_with (first
    | (go_at_call 64; refine (open_right (HST.out.below HB0.out) HN.out (HT.out.below HB0.out) x u HX.out HKK.out HO.out HR4.out).mono ?_; rintro e w1 ⟨rfl, b1⟩; have HB1 := Lib.hid (HB0.out.trans (b1.mono HB0.out.size)); clear b1))
  exact ⟨rfl, rfl, HB1.out⟩
set_option maxRecDepth 100000 in
set_option maxHeartbeats 4000000 in
theorem put1_slot (h : StAt w base p A cap ps os) (hn : 0 < os.length) (hT : Tab w) (x v : Ky) (u : Oj) (hx : named os x = some u) (hk : x.k = 2) (hok : x.ok) (hr4 : x.r % 4 = 0) (i : Int) (hi : ¬ (0 ≤ i ∧ i < 16)) (hS : Blk w S pt #[pv p]) (hK : Blk w K kt (kl x).toArray) (hI : Blk w I it #[.int .i64 i]) (hV : Blk w V vt (kl v).toArray) :
    Calls Tryd.prog 63 #[.pointer (some ⟨S, 0, none⟩), .pointer (some ⟨K, 0, none⟩), .pointer (some ⟨I, 0, none⟩), .pointer (some ⟨V, 0, none⟩)] w fun e w' => e = .panicked (erc 4) ∧ Below w.heap.size w w' := by
  have hz := z95
  have hz2 := z87
  have hz3 := z93
  have hbs := zks_len
  have hbz := zakc_len
  have HST := Lib.hid h
  have HN := Lib.hid hn
  have HT := Lib.hid hT
  clear h hn hT
  have HX := Lib.hid hx
  have HKK := Lib.hid hk
  clear hx hk
  have HO := Lib.hid hok
  have HR4 := Lib.hid hr4
  clear hok hr4
  have HI_ := Lib.hid hi
  clear hi
  have HB0 := Lib.hid ((Below.refl w.heap.size w).alloc (Nat.le_refl _) (.cells (kc 0 0 0 0 0 0) 31))
  have HS0 := Lib.hid (hS.alloc (.cells (kc 0 0 0 0 0 0) 31))
  have HK0 := Lib.hid (hK.alloc (.cells (kc 0 0 0 0 0 0) 31))
  have HI0 := Lib.hid (hI.alloc (.cells (kc 0 0 0 0 0 0) 31))
  have HV0 := Lib.hid (hV.alloc (.cells (kc 0 0 0 0 0 0) 31))
  have sc := HS0.out.one
  obtain ⟨k0, k1, k2, k3, k4, k5⟩ := HK0.out.six
  have ic := HI0.out.one
  obtain ⟨v0, v1, v2, v3, v4, v5⟩ := HV0.out.six
  clear hS hK hI hV
  go_enter Tryd.func63, Tryd.ntmps63
  go_wp2_with (first
    | (go_at_call 64; refine (open_yes (HST.out.below HB0.out) HN.out (HT.out.below HB0.out) x u HX.out HKK.out HO.out HR4.out).mono ?_; rintro e w1 ⟨rfl, b1⟩; have HB1 := Lib.hid ((HB0.out.trans (b1.mono HB0.out.size)).alloc (Nat.le_trans HB0.out.size b1.size) (.cells (akc p x u).toArray 129)); have HS1 := Lib.hid ((HS0.out.keep b1).alloc (.cells (akc p x u).toArray 129)); have HK1 := Lib.hid ((HK0.out.keep b1).alloc (.cells (akc p x u).toArray 129)); have HI1 := Lib.hid ((HI0.out.keep b1).alloc (.cells (akc p x u).toArray 129)); have HV1 := Lib.hid ((HV0.out.keep b1).alloc (.cells (akc p x u).toArray 129)); have HG1 := Lib.hid (Blk.new w1 129 (akc p x u).toArray); have HG1S := Lib.hid (Nat.le_trans HB0.out.size b1.size); clear sc k0 k1 k2 k3 k4 k5 ic v0 v1 v2 v3 v4 v5; have sc := HS1.out.one; obtain ⟨k0, k1, k2, k3, k4, k5⟩ := HK1.out.six; have ic := HI1.out.one; obtain ⟨v0, v1, v2, v3, v4, v5⟩ := HV1.out.six; clear b1)
    | (refine wpList_store_new (l := akc p x u) (l0 := zakc) (ty := 129) rfl (.tmp 5) (.tmp 10) (by rfl) _ rfl (by rfl) (by rfl) (by rw [akc_len]; exact size93) (by rw [akc_len, zakc_len]) (akc_one _ _ _) ?_)
    | (go_at_call 65; refine (slot_no i HI_.out _).mono ?_; rintro e w2 ⟨rfl, rfl⟩))
  exact ⟨rfl, rfl, HB1.out⟩
set_option maxRecDepth 100000 in
set_option maxHeartbeats 4000000 in
theorem put1_arg (h : StAt w base p A cap ps os) (hn : 0 < os.length) (hT : Tab w) (x v : Ky) (u : Oj) (hx : named os x = some u) (hk : x.k = 2) (hok : x.ok) (hr4 : x.r % 4 = 0) (i : Nat) (hi : i < 16) (hv : ¬ v.may os.length) (hS : Blk w S pt #[pv p]) (hK : Blk w K kt (kl x).toArray) (hI : Blk w I it #[.int .i64 (i : Int)]) (hV : Blk w V vt (kl v).toArray) :
    Calls Tryd.prog 63 #[.pointer (some ⟨S, 0, none⟩), .pointer (some ⟨K, 0, none⟩), .pointer (some ⟨I, 0, none⟩), .pointer (some ⟨V, 0, none⟩)] w fun e w' => e = .panicked (erc 2) ∧ Below w.heap.size w w' := by
  have hz := z95
  have hz2 := z87
  have hz3 := z93
  have hbs := zks_len
  have hbz := zakc_len
  have HST := Lib.hid h
  have HN := Lib.hid hn
  have HT := Lib.hid hT
  clear h hn hT
  have HX := Lib.hid hx
  have HKK := Lib.hid hk
  clear hx hk
  have HO := Lib.hid hok
  have HR4 := Lib.hid hr4
  clear hok hr4
  have HI_ := Lib.hid hi
  have HV_ := Lib.hid hv
  clear hi hv
  have HB0 := Lib.hid ((Below.refl w.heap.size w).alloc (Nat.le_refl _) (.cells (kc 0 0 0 0 0 0) 31))
  have HS0 := Lib.hid (hS.alloc (.cells (kc 0 0 0 0 0 0) 31))
  have HK0 := Lib.hid (hK.alloc (.cells (kc 0 0 0 0 0 0) 31))
  have HI0 := Lib.hid (hI.alloc (.cells (kc 0 0 0 0 0 0) 31))
  have HV0 := Lib.hid (hV.alloc (.cells (kc 0 0 0 0 0 0) 31))
  have sc := HS0.out.one
  obtain ⟨k0, k1, k2, k3, k4, k5⟩ := HK0.out.six
  have ic := HI0.out.one
  obtain ⟨v0, v1, v2, v3, v4, v5⟩ := HV0.out.six
  clear hS hK hI hV
  go_enter Tryd.func63, Tryd.ntmps63
  go_wp2_with (first
    | (go_at_call 64; refine (open_yes (HST.out.below HB0.out) HN.out (HT.out.below HB0.out) x u HX.out HKK.out HO.out HR4.out).mono ?_; rintro e w1 ⟨rfl, b1⟩; have HB1 := Lib.hid ((HB0.out.trans (b1.mono HB0.out.size)).alloc (Nat.le_trans HB0.out.size b1.size) (.cells (akc p x u).toArray 129)); have HS1 := Lib.hid ((HS0.out.keep b1).alloc (.cells (akc p x u).toArray 129)); have HK1 := Lib.hid ((HK0.out.keep b1).alloc (.cells (akc p x u).toArray 129)); have HI1 := Lib.hid ((HI0.out.keep b1).alloc (.cells (akc p x u).toArray 129)); have HV1 := Lib.hid ((HV0.out.keep b1).alloc (.cells (akc p x u).toArray 129)); have HG1 := Lib.hid (Blk.new w1 129 (akc p x u).toArray); have HG1S := Lib.hid (Nat.le_trans HB0.out.size b1.size); clear sc k0 k1 k2 k3 k4 k5 ic v0 v1 v2 v3 v4 v5; have sc := HS1.out.one; obtain ⟨k0, k1, k2, k3, k4, k5⟩ := HK1.out.six; have ic := HI1.out.one; obtain ⟨v0, v1, v2, v3, v4, v5⟩ := HV1.out.six; clear b1)
    | (refine wpList_store_new (l := akc p x u) (l0 := zakc) (ty := 129) rfl (.tmp 5) (.tmp 10) (by rfl) _ rfl (by rfl) (by rfl) (by rw [akc_len]; exact size93) (by rw [akc_len, zakc_len]) (akc_one _ _ _) ?_)
    | (go_at_call 65; refine (slot_ok i HI_.out _).mono ?_; rintro e w9 ⟨rfl, rfl⟩)
    | (refine wpList_yields (S := fun w' => AkAt w' w1.heap.size 0 p x u) (y_op (by rfl) (.tmp 5) (by rfl) w1.heap.size 0 (by rfl) p x u (fun _ h => h)) HG1.out.ak ?_)
    | (go_at_call 66; refine (prd_no (HST.out.below HB1.out) HN.out (HT.out.below HB1.out) x u v HV_.out).mono ?_; rintro e w2 ⟨rfl, b2⟩; have HB2 := Lib.hid (HB1.out.trans (b2.mono HB1.out.size)); clear b2))
  exact ⟨rfl, rfl, HB2.out⟩
set_option maxRecDepth 100000 in
set_option maxHeartbeats 4000000 in
theorem put1_yes (h : StAt w base p A cap ps os) (hn : 0 < os.length) (hT : Tab w) (x v : Ky) (u : Oj) (hx : named os x = some u) (hk : x.k = 2) (hok : x.ok) (hr4 : x.r % 4 = 0) (i : Nat) (hi : i < 16) (y : Ky) (hy : u.s[i]? = some y) (hv : v.may os.length) (j : Nat) (hj : j < os.length) (hxo : x.o = (j : Int)) (hoku : (slotsAs u (u.s.set i (prepd os v)) (by rw [List.length_set]; exact u.hs)).ok os.length) (hS : Blk w S pt #[pv p]) (hK : Blk w K kt (kl x).toArray) (hI : Blk w I it #[.int .i64 (i : Int)]) (hV : Blk w V vt (kl v).toArray) :
    Calls Tryd.prog 63 #[.pointer (some ⟨S, 0, none⟩), .pointer (some ⟨K, 0, none⟩), .pointer (some ⟨I, 0, none⟩), .pointer (some ⟨V, 0, none⟩)] w fun e w' => e = .returned (gotK os x y).val ∧ StAt w' base p A cap ps (os.set j (slotsAs u (u.s.set i (prepd os v)) (by rw [List.length_set]; exact u.hs))) ∧ Fr (fun k => k ∈ ps) w w' := by
  have hz := z95
  have hz2 := z87
  have hz3 := z93
  have hbs := zks_len
  have hbz := zakc_len
  have hmf : ∀ (fn : Fn) (first cap : Array Value) (w : World), (Instr.makeFunc fn first cap).run Tryd.prog w = .ok (.func fn first cap) w := fun _ _ _ _ => rfl
  have HST := Lib.hid h
  have HN := Lib.hid hn
  have HT := Lib.hid hT
  have HLT := Lib.hid (fun (k : Nat) (hk : stHas p A ps k) => (h.lt k hk).2)
  clear h hn hT
  have HX := Lib.hid hx
  have HKK := Lib.hid hk
  clear hx hk
  have HO := Lib.hid hok
  have HR4 := Lib.hid hr4
  clear hok hr4
  have HI_ := Lib.hid hi
  have HY := Lib.hid hy
  have HV_ := Lib.hid hv
  have HJ := Lib.hid hj
  have HXO := Lib.hid hxo
  obtain ⟨q, hq⟩ : ∃ q, prepd os v = q := ⟨_, rfl⟩
  have HQE := Lib.hid (fun (W : World) (hs : StAt W base p A cap ps os) (ht : Tab W) => hq ▸ prd_yes hs HN.out ht x u v hv)
  obtain ⟨g, hg⟩ : ∃ g, gotK os x y = g := ⟨_, rfl⟩
  have HGE := Lib.hid (fun (W : World) (hs : StAt W base p A cap ps os) (ht : Tab W) => hg ▸ got_any hs HN.out ht x u i hi y hy HO.out)
  have HOK : Hid ((slotsAs u (u.s.set i q) (by rw [List.length_set]; exact u.hs)).ok os.length) := Lib.hid (by subst hq; exact hoku)
  have e1 : (slotsAs u (u.s.set i (prepd os v)) (by rw [List.length_set]; exact u.hs)) = slotsAs u (u.s.set i q) (by rw [List.length_set]; exact u.hs) := by subst hq; rfl
  rw [e1, hg]
  have HR0 := Lib.hid (Blk.new w 31 (kc 0 0 0 0 0 0))
  clear hi hy hv hj hxo hq hg hoku e1
  have HB0 := Lib.hid ((Below.refl w.heap.size w).alloc (Nat.le_refl _) (.cells (kc 0 0 0 0 0 0) 31))
  have HS0 := Lib.hid (hS.alloc (.cells (kc 0 0 0 0 0 0) 31))
  have HK0 := Lib.hid (hK.alloc (.cells (kc 0 0 0 0 0 0) 31))
  have HI0 := Lib.hid (hI.alloc (.cells (kc 0 0 0 0 0 0) 31))
  have HV0 := Lib.hid (hV.alloc (.cells (kc 0 0 0 0 0 0) 31))
  have sc := HS0.out.one
  obtain ⟨k0, k1, k2, k3, k4, k5⟩ := HK0.out.six
  have ic := HI0.out.one
  obtain ⟨v0, v1, v2, v3, v4, v5⟩ := HV0.out.six
  clear hS hK hI hV
  go_enter Tryd.func63, Tryd.ntmps63
  go_wp2_with (first
    | (go_at_call 64; refine (open_yes (HST.out.below HB0.out) HN.out (HT.out.below HB0.out) x u HX.out HKK.out HO.out HR4.out).mono ?_; rintro e w1 ⟨rfl, b1⟩; have HB1 := Lib.hid ((HB0.out.trans (b1.mono HB0.out.size)).alloc (Nat.le_trans HB0.out.size b1.size) (.cells (akc p x u).toArray 129)); have HS1 := Lib.hid ((HS0.out.keep b1).alloc (.cells (akc p x u).toArray 129)); have HK1 := Lib.hid ((HK0.out.keep b1).alloc (.cells (akc p x u).toArray 129)); have HI1 := Lib.hid ((HI0.out.keep b1).alloc (.cells (akc p x u).toArray 129)); have HV1 := Lib.hid ((HV0.out.keep b1).alloc (.cells (akc p x u).toArray 129)); have HR1 := Lib.hid ((HR0.out.keep b1).alloc (.cells (akc p x u).toArray 129)); have HG1 := Lib.hid (Blk.new w1 129 (akc p x u).toArray); have HG1S := Lib.hid (Nat.le_trans HB0.out.size b1.size); clear sc k0 k1 k2 k3 k4 k5 ic v0 v1 v2 v3 v4 v5; have sc := HS1.out.one; obtain ⟨k0, k1, k2, k3, k4, k5⟩ := HK1.out.six; have ic := HI1.out.one; obtain ⟨v0, v1, v2, v3, v4, v5⟩ := HV1.out.six; clear b1)
    | (refine wpList_store_new (l := akc p x u) (l0 := zakc) (ty := 129) rfl (.tmp 5) (.tmp 10) (by rfl) _ rfl (by rfl) (by rfl) (by rw [akc_len]; exact size93) (by rw [akc_len, zakc_len]) (akc_one _ _ _) ?_)
    | (go_at_call 65; refine (slot_ok i HI_.out _).mono ?_; rintro e w9 ⟨rfl, rfl⟩)
    | (refine wpList_yields (S := fun w' => AkAt w' w1.heap.size 0 p x u) (y_op (by rfl) (.tmp 5) (by rfl) w1.heap.size 0 (by rfl) p x u (fun _ h => h)) HG1.out.ak ?_)
    | (go_at_call 66; refine (HQE.out _ (HST.out.below HB1.out) (HT.out.below HB1.out)).mono ?_; rintro e w2 ⟨rfl, b2⟩; have HB2 := Lib.hid ((HB1.out.trans (b2.mono HB1.out.size)).alloc (Nat.le_trans HB1.out.size b2.size) (.cells (kl q).toArray 31)); have HS2 := Lib.hid ((HS1.out.keep b2).alloc (.cells (kl q).toArray 31)); have HK2 := Lib.hid ((HK1.out.keep b2).alloc (.cells (kl q).toArray 31)); have HI2 := Lib.hid ((HI1.out.keep b2).alloc (.cells (kl q).toArray 31)); have HV2 := Lib.hid ((HV1.out.keep b2).alloc (.cells (kl q).toArray 31)); have HG2 := Lib.hid ((HG1.out.keep b2).alloc (.cells (kl q).toArray 31)); have HR2 := Lib.hid ((HR1.out.keep b2).alloc (.cells (kl q).toArray 31)); have HQ2 := Lib.hid (Blk.new w2 31 (kl q).toArray); have HQ2S := Lib.hid (Nat.le_trans HB1.out.size b2.size); clear sc k0 k1 k2 k3 k4 k5 ic v0 v1 v2 v3 v4 v5; have sc := HS2.out.one; obtain ⟨k0, k1, k2, k3, k4, k5⟩ := HK2.out.six; have ic := HI2.out.one; obtain ⟨v0, v1, v2, v3, v4, v5⟩ := HV2.out.six; clear b2)
    | (refine wpList_store_new (l := kl q) (l0 := kl zk) (ty := 31) rfl (.tmp 6) (.tmp 15) (by rfl) _ rfl (by rfl) (by rfl) size30 rfl (kl_one _) ?_)
    | (refine wpList_yields (S := fun w' => AkAt w' w1.heap.size 0 p x u) (y_ak (by rfl) (.tmp 16) (by rfl) w1.heap.size 0 (by rfl) p x u (fun _ h => h)) HG2.out.ak ?_)
    | (go_at_call 67; refine (HGE.out _ (HST.out.below HB2.out) (HT.out.below HB2.out)).mono ?_; rintro e w3 ⟨rfl, b3⟩; have HB3 := Lib.hid ((HB2.out.trans (b3.mono HB2.out.size)).alloc (Nat.le_trans HB2.out.size b3.size) (.cells (kl g).toArray 31)); have HS3 := Lib.hid ((HS2.out.keep b3).alloc (.cells (kl g).toArray 31)); have HK3 := Lib.hid ((HK2.out.keep b3).alloc (.cells (kl g).toArray 31)); have HI3 := Lib.hid ((HI2.out.keep b3).alloc (.cells (kl g).toArray 31)); have HV3 := Lib.hid ((HV2.out.keep b3).alloc (.cells (kl g).toArray 31)); have HG3 := Lib.hid ((HG2.out.keep b3).alloc (.cells (kl g).toArray 31)); have HR3 := Lib.hid ((HR2.out.keep b3).alloc (.cells (kl g).toArray 31)); have HQ3 := Lib.hid ((HQ2.out.keep b3).alloc (.cells (kl g).toArray 31)); have HY3 := Lib.hid (Blk.new w3 31 (kl g).toArray); have HY3S := Lib.hid (Nat.le_trans HB2.out.size b3.size); clear sc k0 k1 k2 k3 k4 k5 ic v0 v1 v2 v3 v4 v5; have sc := HS3.out.one; obtain ⟨k0, k1, k2, k3, k4, k5⟩ := HK3.out.six; have ic := HI3.out.one; obtain ⟨v0, v1, v2, v3, v4, v5⟩ := HV3.out.six; obtain ⟨g0, g1, g2, g3, g4, g5⟩ := HY3.out.six; clear b3)
    | (refine wpList_store_new (l := kl g) (l0 := kl zk) (ty := 31) rfl (.tmp 7) (.tmp 19) (by rfl) _ rfl (by rfl) (by rfl) size30 rfl (kl_one _) ?_)
    | (refine wpList_yields (S := fun w' => AkAt w' w1.heap.size 0 p x u) (y_op (by rfl) (.tmp 5) (by rfl) w1.heap.size 0 (by rfl) p x u (fun _ h => h)) HG3.out.ak ?_)
    | (go_at_call 68; refine (chg_put (HST.out.below HB3.out) (HT.out.below HB3.out) x u j HJ.out HXO.out i HI_.out q w2.heap.size I HQ3.out HI3.out HOK.out).mono ?_; rintro e w4 ⟨rfl, hs4, hf4⟩; have HS4 := Lib.hid hs4; have HF4 := Lib.hid ((Fr.of_below HB3.out : Fr (fun k => k ∈ ps) w _).trans hf4); have HR4_ := Lib.hid (show Blk w4 w.heap.size 31 (kc 0 0 0 0 0 0) from (hf4.block _ HR3.out.lt (fun hm => by have := HLT.out _ (.inr (.inr hm)); omega)).trans HR3.out); have HY4 := Lib.hid (show Blk w4 w3.heap.size 31 (kl g).toArray from (hf4.block _ HY3.out.lt (fun hm => by have := HLT.out _ (.inr (.inr hm)); have := HY3S.out; omega)).trans HY3.out); clear sc k0 k1 k2 k3 k4 k5 ic v0 v1 v2 v3 v4 v5; clear hs4 hf4 g0 g1 g2 g3 g4 g5; obtain ⟨g0, g1, g2, g3, g4, g5⟩ := HY4.out.six)
    | (refine wpList_store_big (l0 := kl zk) HR4_.out rfl (.tmp 4) (.tmp 23) (ty := 31) (l := kl g) rfl (by rfl) (by rfl) size30 rfl (kl_one _) ?_))
  exact bodyPost_ret (res_1 rfl _ _ w.heap.size _ rfl (load_key _ (HR4_.out.setRow _))) rfl ⟨rfl, HS4.out.keep (fun k hk => setRow_other _ _ _ _ (by have := HLT.out k hk; omega)), HF4.out.then_ (setRow_fr _ _ _) (fun i hi he => by omega)⟩
end
end Go.Proofs.YtfckdbennjkgoaaDoor

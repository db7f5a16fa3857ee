/- nodes: what each call does, ahead of its face. -/
import Derived.Test.YtjolojomgfcfbaaDoorR16
namespace Go.Proofs.YtjolojomgfcfbaaDoor
open Go.RowKit
section
variable {w : World} {base p : Nat} {A : Option Addr} {cap : Nat} {ps : List Nat} {os : List Oj} {kt it pt : TypeId} {S K I V : Nat}
theorem Blk.one {g : Nat} {t : TypeId} {v : Value} (h : Blk w g t #[v]) : w.cell? ⟨g, 0, none⟩ = some v := h.cell 0
set_option maxRecDepth 100000 in
set_option maxHeartbeats 4000000 in
theorem get1_no (h : StAt w base p A cap ps os) (hn : 0 < os.length) (hT : Tab w) (x : Ky) (hx : ¬ ((named os x).isSome = true ∧ x.k = 2)) (i : Int) (hS : Blk w S pt #[pv p]) (hK : Blk w K kt (kl x).toArray) (hI : Blk w I it #[.int .i64 i]) :
    Calls Tryd.prog 61 #[.pointer (some ⟨S, 0, none⟩), .pointer (some ⟨K, 0, none⟩), .pointer (some ⟨I, 0, none⟩)] w fun e w' => e = .panicked (erc 190) ∧ Below w.heap.size w w' := by
  have hz := z95
  have hz2 := z87
  have hbs := zks_len
  have hbz := zakc_len
  have HST := Lib.hid h
  have HN := Lib.hid hn
  have HT := Lib.hid hT
  clear h hn hT
  have HX := Lib.hid hx
  clear hx
  have HB0 := Lib.hid ((Below.refl w.heap.size w).alloc (Nat.le_refl _) (.cells (kc 0 0 0 0 0 0) 29))
  have HS0 := Lib.hid (hS.alloc (.cells (kc 0 0 0 0 0 0) 29))
  have HK0 := Lib.hid (hK.alloc (.cells (kc 0 0 0 0 0 0) 29))
  have HI0 := Lib.hid (hI.alloc (.cells (kc 0 0 0 0 0 0) 29))
  have sc := HS0.out.one
  obtain ⟨k0, k1, k2, k3, k4, k5⟩ := HK0.out.six
  have ic := HI0.out.one
  clear hS hK hI
  go_enter Tryd.func61, Tryd.ntmps61
  go_wp2_with (first
    | (go_at_call 62; refine (ask_no (HST.out.below HB0.out) HN.out (HT.out.below HB0.out) x HX.out).mono ?_; rintro e w1 ⟨rfl, b1⟩; have HB1 := Lib.hid (HB0.out.trans (b1.mono HB0.out.size)); clear b1))
  exact ⟨rfl, rfl, HB1.out⟩
set_option maxRecDepth 100000 in
set_option maxHeartbeats 4000000 in
theorem get1_slot (h : StAt w base p A cap ps os) (hn : 0 < os.length) (hT : Tab w) (x : Ky) (u : Oj) (hx : named os x = some u) (hk : x.k = 2) (i : Int) (hi : ¬ (0 ≤ i ∧ i < 16)) (hS : Blk w S pt #[pv p]) (hK : Blk w K kt (kl x).toArray) (hI : Blk w I it #[.int .i64 i]) :
    Calls Tryd.prog 61 #[.pointer (some ⟨S, 0, none⟩), .pointer (some ⟨K, 0, none⟩), .pointer (some ⟨I, 0, none⟩)] w fun e w' => e = .panicked (erc 4) ∧ Below w.heap.size w w' := by
  have hz := z95
  have hz2 := z87
  have hbs := zks_len
  have hbz := zakc_len
  have HST := Lib.hid h
  have HN := Lib.hid hn
  have HT := Lib.hid hT
  clear h hn hT
  have HX := Lib.hid hx
  have HKK := Lib.hid hk
  clear hx hk
  have HI_ := Lib.hid hi
  clear hi
  have HB0 := Lib.hid ((Below.refl w.heap.size w).alloc (Nat.le_refl _) (.cells (kc 0 0 0 0 0 0) 29))
  have HS0 := Lib.hid (hS.alloc (.cells (kc 0 0 0 0 0 0) 29))
  have HK0 := Lib.hid (hK.alloc (.cells (kc 0 0 0 0 0 0) 29))
  have HI0 := Lib.hid (hI.alloc (.cells (kc 0 0 0 0 0 0) 29))
  have sc := HS0.out.one
  obtain ⟨k0, k1, k2, k3, k4, k5⟩ := HK0.out.six
  have ic := HI0.out.one
  clear hS hK hI
  go_enter Tryd.func61, Tryd.ntmps61
  go_wp2_with (first
    | (go_at_call 62; refine (ask_yes (HST.out.below HB0.out) HN.out (HT.out.below HB0.out) x u HX.out HKK.out).mono ?_; rintro e w1 ⟨rfl, b1⟩; have HB1 := Lib.hid ((HB0.out.trans (b1.mono HB0.out.size)).alloc (Nat.le_trans HB0.out.size b1.size) (.cells (akc p x u).toArray 118)); have HS1 := Lib.hid ((HS0.out.keep b1).alloc (.cells (akc p x u).toArray 118)); have HK1 := Lib.hid ((HK0.out.keep b1).alloc (.cells (akc p x u).toArray 118)); have HI1 := Lib.hid ((HI0.out.keep b1).alloc (.cells (akc p x u).toArray 118)); have HG1 := Lib.hid (Blk.new w1 118 (akc p x u).toArray); clear sc k0 k1 k2 k3 k4 k5 ic; have sc := HS1.out.one; obtain ⟨k0, k1, k2, k3, k4, k5⟩ := HK1.out.six; have ic := HI1.out.one; clear b1)
    | (refine wpList_store_new (l := akc p x u) (l0 := zakc) (ty := 118) rfl (.tmp 4) (.tmp 7) (by rfl) _ rfl (by rfl) (by rfl) (by rw [akc_len]; exact size87) (by rw [akc_len, zakc_len]) (akc_one _ _ _) ?_)
    | (go_at_call 63; refine (slot_no i HI_.out _).mono ?_; rintro e w2 ⟨rfl, rfl⟩))
  exact ⟨rfl, rfl, HB1.out⟩
set_option maxRecDepth 100000 in
set_option maxHeartbeats 4000000 in
theorem get1_yes (h : StAt w base p A cap ps os) (hn : 0 < os.length) (hT : Tab w) (x : Ky) (u : Oj) (hx : named os x = some u) (hk : x.k = 2) (hok : x.ok) (i : Nat) (hi : i < 16) (y : Ky) (hy : u.s[i]? = some y) (hS : Blk w S pt #[pv p]) (hK : Blk w K kt (kl x).toArray) (hI : Blk w I it #[.int .i64 (i : Int)]) :
    Calls Tryd.prog 61 #[.pointer (some ⟨S, 0, none⟩), .pointer (some ⟨K, 0, none⟩), .pointer (some ⟨I, 0, none⟩)] w fun e w' => e = .returned (gotK os x y).val ∧ Below w.heap.size w w' := by
  have hz := z95
  have hz2 := z87
  have hbs := zks_len
  have hbz := zakc_len
  have HST := Lib.hid h
  have HN := Lib.hid hn
  have HT := Lib.hid hT
  clear h hn hT
  have HX := Lib.hid hx
  have HKK := Lib.hid hk
  clear hx hk
  have HI_ := Lib.hid hi
  have HY := Lib.hid hy
  have HO := Lib.hid hok
  clear hi hy hok
  have HR0 := Lib.hid (Blk.new w 29 (kc 0 0 0 0 0 0))
  have HB0 := Lib.hid ((Below.refl w.heap.size w).alloc (Nat.le_refl _) (.cells (kc 0 0 0 0 0 0) 29))
  have HS0 := Lib.hid (hS.alloc (.cells (kc 0 0 0 0 0 0) 29))
  have HK0 := Lib.hid (hK.alloc (.cells (kc 0 0 0 0 0 0) 29))
  have HI0 := Lib.hid (hI.alloc (.cells (kc 0 0 0 0 0 0) 29))
  have sc := HS0.out.one
  obtain ⟨k0, k1, k2, k3, k4, k5⟩ := HK0.out.six
  have ic := HI0.out.one
  clear hS hK hI
  go_enter Tryd.func61, Tryd.ntmps61
  go_wp2_with (first
    | (go_at_call 62; refine (ask_yes (HST.out.below HB0.out) HN.out (HT.out.below HB0.out) x u HX.out HKK.out).mono ?_; rintro e w1 ⟨rfl, b1⟩; have HB1 := Lib.hid ((HB0.out.trans (b1.mono HB0.out.size)).alloc (Nat.le_trans HB0.out.size b1.size) (.cells (akc p x u).toArray 118)); have HS1 := Lib.hid ((HS0.out.keep b1).alloc (.cells (akc p x u).toArray 118)); have HK1 := Lib.hid ((HK0.out.keep b1).alloc (.cells (akc p x u).toArray 118)); have HI1 := Lib.hid ((HI0.out.keep b1).alloc (.cells (akc p x u).toArray 118)); have HR1 := Lib.hid ((HR0.out.keep b1).alloc (.cells (akc p x u).toArray 118)); have HG1 := Lib.hid (Blk.new w1 118 (akc p x u).toArray); clear sc k0 k1 k2 k3 k4 k5 ic; have sc := HS1.out.one; obtain ⟨k0, k1, k2, k3, k4, k5⟩ := HK1.out.six; have ic := HI1.out.one; clear b1)
    | (refine wpList_store_new (l := akc p x u) (l0 := zakc) (ty := 118) rfl (.tmp 4) (.tmp 7) (by rfl) _ rfl (by rfl) (by rfl) (by rw [akc_len]; exact size87) (by rw [akc_len, zakc_len]) (akc_one _ _ _) ?_)
    | (go_at_call 63; refine (slot_ok i HI_.out _).mono ?_; rintro e w2 ⟨rfl, rfl⟩)
    | (refine wpList_yields (S := fun w' => AkAt w' (w1.heap.size) 0 p x u) (y_ak (by rfl) (.tmp 4) (by rfl) (w1.heap.size) 0 (by rfl) p x u (fun _ h => h)) HG1.out.ak ?_)
    | (go_at_call 64; refine (got_any (HST.out.below HB1.out) HN.out (HT.out.below HB1.out) x u i HI_.out y HY.out HO.out).mono ?_; rintro e w3 ⟨rfl, b3⟩; have HB3 := Lib.hid (HB1.out.trans (b3.mono HB1.out.size)); have HR3 := Lib.hid ((HR1.out.keep b3)); clear b3)
    | (refine wpList_store_big (l0 := kl zk) HR3.out rfl (.tmp 3) (.tmp 12) (ty := 29) (l := kl (gotK os x y)) rfl (by rfl) (by rfl) size30 rfl (kl_one _) ?_))
  exact bodyPost_ret (res_1 rfl _ _ w.heap.size _ rfl (load_key _ (HR3.out.setRow _))) rfl ⟨rfl, below_setRow HB3.out (Nat.le_refl _) _⟩
end
end Go.Proofs.YtjolojomgfcfbaaDoor
namespace Go.Proofs.YtjolojomgfcfbaaDoor
open Go.RowKit
section
variable {w : World} {base p : Nat} {A : Option Addr} {cap : Nat} {ps : List Nat} {os : List Oj} {kt it pt vt lt : TypeId} {S K I V L : Nat}
end
end Go.Proofs.YtjolojomgfcfbaaDoor

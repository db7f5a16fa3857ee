/- orders: what a store may hold; no order without a store. -/
import Derived.Test.YtogkdhpnbpgheaaGreatDoorQRf
namespace Go.Proofs.YtogkdhpnbpgheaaGreatDoor
open Go.RowKit
set_option maxRecDepth 100000 in
set_option maxHeartbeats 2000000 in
theorem ho_y (P : Value) (x : Ky) (w : World) (hT : Tab w) (hok : x.ok) (hno : ¬ x.of) : Calls Tryz.prog 54 #[P, x.val] w fun e w' => e = .returned (.bool true) ∧ Below w.heap.size w w' := by
  have HOK := Lib.hid hok
  have HNO := Lib.hid hno
  have HT0 := Lib.hid (hT.alloc (.cells (kc x.k x.o x.c x.l x.r x.v) 33))
  have HB0 := Lib.hid ((Below.refl w.heap.size w).alloc (Nat.le_refl _) (.cells (kc x.k x.o x.c x.l x.r x.v) 33))
  have HK0 := Lib.hid (Blk.new w 33 (kc x.k x.o x.c x.l x.r x.v))
  obtain ⟨c0, c1, c2, c3, c4, c5⟩ := HK0.out.six
  clear hT hok hno
  go_enter Tryz.func54, Tryz.ntmps54
  go_wp2_with (first
    | (go_at_call 80; refine (kname_no x _ HT0.out HNO.out).mono ?_; rintro e w1 ⟨rfl, b1⟩; have HB1 := Lib.hid (HB0.out.trans (b1.mono HB0.out.size)); have HT1 := Lib.hid (HT0.out.below b1); have HK1 := Lib.hid (HK0.out.keep b1); clear b1 c0 c1 c2 c3 c4 c5; obtain ⟨c0, c1, c2, c3, c4, c5⟩ := HK1.out.six)
    | (go_at_call 81; refine (kchk_yes x _ HT1.out HOK.out).mono ?_; rintro e w2 ⟨rfl, b2⟩; have HB2 := Lib.hid (HB1.out.trans (b2.mono HB1.out.size)); clear b2))
  go_ret
  exact ⟨rfl, HB2.out⟩
set_option maxRecDepth 100000 in
set_option maxHeartbeats 2000000 in
theorem oask_nil {w : World} (now : Int) (x : Ky) (l : List Value) : Calls Tryz.prog 27 #[.pointer none, .int .i64 now, x.val, .agg l.toArray] w fun e w' => e = .panicked (erc 1) ∧ Below w.heap.size w w' := by
  have HB0 := Lib.hid (((Below.refl w.heap.size w).alloc (Nat.le_refl _) (.cells (kc x.k x.o x.c x.l x.r x.v) 33)).alloc (by simp) (.cells l.toArray 36))
  go_enter Tryz.func27, Tryz.ntmps27
  go_wp2_with (go_at_call 53; refine (size_nil _).mono ?_; rintro e w1 ⟨rfl, rfl⟩)
  exact ⟨rfl, rfl, HB0.out⟩
set_option maxRecDepth 100000 in
set_option maxHeartbeats 2000000 in
theorem oask_none {w : World} {base p : Nat} {A : Option Addr} {cap : Nat} {ps : List Nat} (h : StAt w base p A cap ps []) (now : Int) (x : Ky) (l : List Value) : Calls Tryz.prog 27 #[pv p, .int .i64 now, x.val, .agg l.toArray] w fun e w' => e = .panicked (erc 1) ∧ Below w.heap.size w w' := by
  have HS0 := Lib.hid ((h.alloc (.cells (kc x.k x.o x.c x.l x.r x.v) 33)).alloc (.cells l.toArray 36))
  clear h
  have HB0 := Lib.hid (((Below.refl w.heap.size w).alloc (Nat.le_refl _) (.cells (kc x.k x.o x.c x.l x.r x.v) 33)).alloc (by simp) (.cells l.toArray 36))
  go_enter Tryz.func27, Tryz.ntmps27
  go_wp2_with (go_at_call 53; refine (size_none HS0.out).mono ?_; rintro e w1 ⟨rfl, rfl⟩)
  exact ⟨rfl, rfl, HB0.out⟩
end Go.Proofs.YtogkdhpnbpgheaaGreatDoor

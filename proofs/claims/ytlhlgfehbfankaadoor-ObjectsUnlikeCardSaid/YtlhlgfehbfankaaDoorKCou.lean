/- keys.Counts, the definition's: for every key and object. -/
import Derived.Test.YtlhlgfehbfankaaDoorKAny
import Derived.Test.YtlhlgfehbfankaaDoorRegIn
namespace Go.Proofs.YtlhlgfehbfankaaDoor
open Go.RowKit
attribute [local go_sem] Oper.semAt_some
theorem below_drew {B : Nat} {a b : World} (h : Below B a b) : Below B a b.drew := ⟨h.os, h.tape, h.output, h.size, h.block⟩
theorem below_drewN {B : Nat} {a b : World} (h : Below B a b) (n : Nat) : Below B a (b.drewN n) := ⟨h.os, h.tape, h.output, h.size, h.block⟩
/-- an object's cells: what is asked of them -/
structure Ob (l : List Value) (kk cc ll : Int) : Prop where
  e0 : l[0]? = some (.int .i64 kk)
  e1 : l[1]? = some (.int .i64 cc)
  e2 : l[2]? = some (.int .i64 ll)
theorem ob3 {w : World} {g : Nat} {l : List Value} {kk cc ll : Int} (h : Blk w g 34 l.toArray) (ho : Ob l kk cc ll) : w.cell? ⟨g, 0, none⟩ = some (.int .i64 kk) ∧ w.cell? ⟨g, 1, none⟩ = some (.int .i64 cc) ∧ w.cell? ⟨g, 2, none⟩ = some (.int .i64 ll) :=
  ⟨by rw [h.cell]; simpa using ho.e0, by rw [h.cell]; simpa using ho.e1, by rw [h.cell]; simpa using ho.e2⟩
/-- does a key count with an object -/
noncomputable def Ky.cnt (x : Ky) (kk cc ll : Int) : Bool := @decide (x.ok ∧ (x.of → x.want = kk ∧ x.c = cc ∧ (x.k ≠ 7 ∨ x.l = ll))) (Classical.propDecidable _)
theorem cnt_yes {x : Ky} {kk cc ll : Int} (h : x.ok ∧ (x.of → x.want = kk ∧ x.c = cc ∧ (x.k ≠ 7 ∨ x.l = ll))) : x.cnt kk cc ll = true := by unfold Ky.cnt; simpa using h
theorem cnt_no {x : Ky} {kk cc ll : Int} (h : ¬ (x.ok ∧ (x.of → x.want = kk ∧ x.c = cc ∧ (x.k ≠ 7 ∨ x.l = ll)))) : x.cnt kk cc ll = false := by unfold Ky.cnt; simpa using h
set_option maxHeartbeats 1000000 in
theorem cou_bad (x : Ky) (l : List Value) (kk cc ll : Int) (w : World) (hT : Tab w) (ho : Ob l kk cc ll) (h : ¬ x.ok) :
    Calls Tryd.prog 38 #[x.val, .agg l.toArray] w fun e w' => e = .returned (.bool false) ∧ Below w.heap.size w w' := by
  have HT := Lib.hid hT
  have HO := Lib.hid ho
  have HK := Lib.hid h
  clear h
  clear hT ho
  go_enter Tryd.func38, Tryd.ntmps38
  go_wp2_with (go_at_call 46; refine (kchk_no x _ ((HT.out.alloc _).alloc _) HK.out).mono ?_; rintro e w1 ⟨rfl, b1⟩; obtain ⟨B1, B2, b2⟩ := box2 b1; have HB := Lib.hid b2; have HT1 := Lib.hid (HT.out.below b2); have H1 := Lib.hid B1; have H2 := Lib.hid B2; clear b1; obtain ⟨c0, c1, c2, c3, c4, c5⟩ := B1.six; obtain ⟨d0, d1, d2⟩ := ob3 B2 HO.out; clear B1 B2 b2)
  go_ret
  exact ⟨rfl, HB.out⟩
set_option maxHeartbeats 1000000 in
theorem cou_none (n : Nat) (o c ll' r v : Int) (l : List Value) (kk cc ll : Int) (w : World) (hT : Tab w) (ho : Ob l kk cc ll) (h : OkK n o c ll' r v) (wv : Int) (hwv : kWants n = wv) (h0 : wv = 0) :
    Calls Tryd.prog 38 #[.agg (kc n o c ll' r v), .agg l.toArray] w fun e w' => e = .returned (.bool true) ∧ Below w.heap.size w w' := by
  have HT := Lib.hid hT
  have HO := Lib.hid ho
  have hn : n ≤ 10 := by have := okK_in h; omega
  have HK := Lib.hid h
  have z1 := (hT.row hn).z1
  rw [hwv] at z1
  have hg := hT.lt
  subst h0
  clear h hwv
  clear hT ho
  go_enter Tryd.func38, Tryd.ntmps38
  go_wp2_with (go_at_call 46; refine (chk_ok n o c ll' r v _ ((HT.out.alloc _).alloc _) HK.out).mono ?_; rintro e w1 ⟨rfl, b1⟩; obtain ⟨B1, B2, b2⟩ := box2 b1; have HB := Lib.hid b2; have z2 := (b2.cell (p := ⟨0, n * 7 + 1, none⟩) hg).trans z1; have HT1 := Lib.hid (HT.out.below b2); have H1 := Lib.hid B1; have H2 := Lib.hid B2; clear b1; obtain ⟨c0, c1, c2, c3, c4, c5⟩ := B1.six; obtain ⟨d0, d1, d2⟩ := ob3 B2 HO.out; clear B1 B2 b2)
  go_ret
  exact ⟨rfl, HB.out⟩
set_option maxHeartbeats 1000000 in
theorem cou_k (n : Nat) (o c ll' r v : Int) (l : List Value) (kk cc ll : Int) (w : World) (hT : Tab w) (ho : Ob l kk cc ll) (h : OkK n o c ll' r v) (wv : Int) (hwv : kWants n = wv) (h0 : wv ≠ 0) (h7 : n ≠ 7) (hk : wv ≠ kk) :
    Calls Tryd.prog 38 #[.agg (kc n o c ll' r v), .agg l.toArray] w fun e w' => e = .returned (.bool false) ∧ Below w.heap.size w w' := by
  have HT := Lib.hid hT
  have HO := Lib.hid ho
  have hn : n ≤ 10 := by have := okK_in h; omega
  have HK := Lib.hid h
  have z1 := (hT.row hn).z1
  rw [hwv] at z1
  have hg := hT.lt
  have dw : (wv == 0) = false := by simpa using h0
  clear h0
  have d7 : ((n : Int) != 7) = true := by simp; omega
  clear h7
  have dk : (wv == kk) = false := by simpa using hk
  clear hk
  clear h hwv
  clear hT ho
  go_enter Tryd.func38, Tryd.ntmps38
  go_wp2_with (go_at_call 46; refine (chk_ok n o c ll' r v _ ((HT.out.alloc _).alloc _) HK.out).mono ?_; rintro e w1 ⟨rfl, b1⟩; obtain ⟨B1, B2, b2⟩ := box2 b1; have HB := Lib.hid b2; have z2 := (b2.cell (p := ⟨0, n * 7 + 1, none⟩) hg).trans z1; have HT1 := Lib.hid (HT.out.below b2); have H1 := Lib.hid B1; have H2 := Lib.hid B2; clear b1; obtain ⟨c0, c1, c2, c3, c4, c5⟩ := B1.six; obtain ⟨d0, d1, d2⟩ := ob3 B2 HO.out; clear B1 B2 b2)
  go_ret
  exact ⟨rfl, HB.out⟩
set_option maxHeartbeats 1000000 in
theorem cou_c (n : Nat) (o c ll' r v : Int) (l : List Value) (kk cc ll : Int) (w : World) (hT : Tab w) (ho : Ob l kk cc ll) (h : OkK n o c ll' r v) (wv : Int) (hwv : kWants n = wv) (h0 : wv ≠ 0) (h7 : n ≠ 7) (hk : wv = kk) (hc : c ≠ cc) :
    Calls Tryd.prog 38 #[.agg (kc n o c ll' r v), .agg l.toArray] w fun e w' => e = .returned (.bool false) ∧ Below w.heap.size w w' := by
  have HT := Lib.hid hT
  have HO := Lib.hid ho
  have hn : n ≤ 10 := by have := okK_in h; omega
  have HK := Lib.hid h
  have z1 := (hT.row hn).z1
  rw [hwv] at z1
  have hg := hT.lt
  have dw : (wv == 0) = false := by simpa using h0
  clear h0
  have d7 : ((n : Int) != 7) = true := by simp; omega
  clear h7
  subst hk
  have dc : (c == cc) = false := by simpa using hc
  clear hc
  clear h hwv
  clear hT ho
  go_enter Tryd.func38, Tryd.ntmps38
  go_wp2_with (go_at_call 46; refine (chk_ok n o c ll' r v _ ((HT.out.alloc _).alloc _) HK.out).mono ?_; rintro e w1 ⟨rfl, b1⟩; obtain ⟨B1, B2, b2⟩ := box2 b1; have HB := Lib.hid b2; have z2 := (b2.cell (p := ⟨0, n * 7 + 1, none⟩) hg).trans z1; have HT1 := Lib.hid (HT.out.below b2); have H1 := Lib.hid B1; have H2 := Lib.hid B2; clear b1; obtain ⟨c0, c1, c2, c3, c4, c5⟩ := B1.six; obtain ⟨d0, d1, d2⟩ := ob3 B2 HO.out; clear B1 B2 b2)
  go_ret
  exact ⟨rfl, HB.out⟩
set_option maxHeartbeats 1000000 in
theorem cou_y (n : Nat) (o c ll' r v : Int) (l : List Value) (kk cc ll : Int) (w : World) (hT : Tab w) (ho : Ob l kk cc ll) (h : OkK n o c ll' r v) (wv : Int) (hwv : kWants n = wv) (h0 : wv ≠ 0) (h7 : n ≠ 7) (hk : wv = kk) (hc : c = cc) :
    Calls Tryd.prog 38 #[.agg (kc n o c ll' r v), .agg l.toArray] w fun e w' => e = .returned (.bool true) ∧ Below w.heap.size w w' := by
  have HT := Lib.hid hT
  have HO := Lib.hid ho
  have hn : n ≤ 10 := by have := okK_in h; omega
  have HK := Lib.hid h
  have z1 := (hT.row hn).z1
  rw [hwv] at z1
  have hg := hT.lt
  have dw : (wv == 0) = false := by simpa using h0
  clear h0
  have d7 : ((n : Int) != 7) = true := by simp; omega
  clear h7
  subst hk
  subst hc
  clear h hwv
  clear hT ho
  go_enter Tryd.func38, Tryd.ntmps38
  go_wp2_with (go_at_call 46; refine (chk_ok n o c ll' r v _ ((HT.out.alloc _).alloc _) HK.out).mono ?_; rintro e w1 ⟨rfl, b1⟩; obtain ⟨B1, B2, b2⟩ := box2 b1; have HB := Lib.hid b2; have z2 := (b2.cell (p := ⟨0, n * 7 + 1, none⟩) hg).trans z1; have HT1 := Lib.hid (HT.out.below b2); have H1 := Lib.hid B1; have H2 := Lib.hid B2; clear b1; obtain ⟨c0, c1, c2, c3, c4, c5⟩ := B1.six; obtain ⟨d0, d1, d2⟩ := ob3 B2 HO.out; clear B1 B2 b2)
  go_ret
  exact ⟨rfl, HB.out⟩
set_option maxHeartbeats 1000000 in
theorem cou7_k (o c ll' r v : Int) (l : List Value) (kk cc ll : Int) (w : World) (hT : Tab w) (ho : Ob l kk cc ll) (h : OkK 7 o c ll' r v) (wv : Int) (hwv : kWants 7 = wv) (h0 : wv ≠ 0) (hk : wv ≠ kk) :
    Calls Tryd.prog 38 #[.agg (kc 7 o c ll' r v), .agg l.toArray] w fun e w' => e = .returned (.bool false) ∧ Below w.heap.size w w' := by
  have HT := Lib.hid hT
  have HO := Lib.hid ho
  have hn : 7 ≤ 10 := by omega
  have HK := Lib.hid h
  have z1 := (hT.row hn).z1
  rw [hwv] at z1
  have hg := hT.lt
  have dw : (wv == 0) = false := by simpa using h0
  clear h0
  have dk : (wv == kk) = false := by simpa using hk
  clear hk
  clear h hwv
  clear hT ho
  go_enter Tryd.func38, Tryd.ntmps38
  go_wp2_with (go_at_call 46; refine (chk_ok 7 o c ll' r v _ ((HT.out.alloc _).alloc _) HK.out).mono ?_; rintro e w1 ⟨rfl, b1⟩; obtain ⟨B1, B2, b2⟩ := box2 b1; have HB := Lib.hid b2; have z2 := (b2.cell (p := ⟨0, 7 * 7 + 1, none⟩) hg).trans z1; have HT1 := Lib.hid (HT.out.below b2); have H1 := Lib.hid B1; have H2 := Lib.hid B2; clear b1; obtain ⟨c0, c1, c2, c3, c4, c5⟩ := B1.six; obtain ⟨d0, d1, d2⟩ := ob3 B2 HO.out; clear B1 B2 b2)
  go_ret
  exact ⟨rfl, HB.out⟩
set_option maxHeartbeats 1000000 in
theorem cou7_c (o c ll' r v : Int) (l : List Value) (kk cc ll : Int) (w : World) (hT : Tab w) (ho : Ob l kk cc ll) (h : OkK 7 o c ll' r v) (wv : Int) (hwv : kWants 7 = wv) (h0 : wv ≠ 0) (hk : wv = kk) (hc : c ≠ cc) :
    Calls Tryd.prog 38 #[.agg (kc 7 o c ll' r v), .agg l.toArray] w fun e w' => e = .returned (.bool false) ∧ Below w.heap.size w w' := by
  have HT := Lib.hid hT
  have HO := Lib.hid ho
  have hn : 7 ≤ 10 := by omega
  have HK := Lib.hid h
  have z1 := (hT.row hn).z1
  rw [hwv] at z1
  have hg := hT.lt
  have dw : (wv == 0) = false := by simpa using h0
  clear h0
  subst hk
  have dc : (c == cc) = false := by simpa using hc
  clear hc
  clear h hwv
  clear hT ho
  go_enter Tryd.func38, Tryd.ntmps38
  go_wp2_with (go_at_call 46; refine (chk_ok 7 o c ll' r v _ ((HT.out.alloc _).alloc _) HK.out).mono ?_; rintro e w1 ⟨rfl, b1⟩; obtain ⟨B1, B2, b2⟩ := box2 b1; have HB := Lib.hid b2; have z2 := (b2.cell (p := ⟨0, 7 * 7 + 1, none⟩) hg).trans z1; have HT1 := Lib.hid (HT.out.below b2); have H1 := Lib.hid B1; have H2 := Lib.hid B2; clear b1; obtain ⟨c0, c1, c2, c3, c4, c5⟩ := B1.six; obtain ⟨d0, d1, d2⟩ := ob3 B2 HO.out; clear B1 B2 b2)
  go_ret
  exact ⟨rfl, HB.out⟩
set_option maxHeartbeats 1000000 in
theorem cou7_y (o c ll' r v : Int) (l : List Value) (kk cc ll : Int) (w : World) (hT : Tab w) (ho : Ob l kk cc ll) (h : OkK 7 o c ll' r v) (wv : Int) (hwv : kWants 7 = wv) (h0 : wv ≠ 0) (hk : wv = kk) (hc : c = cc) :
    Calls Tryd.prog 38 #[.agg (kc 7 o c ll' r v), .agg l.toArray] w fun e w' => e = .returned (.bool (ll' == ll)) ∧ Below w.heap.size w w' := by
  have HT := Lib.hid hT
  have HO := Lib.hid ho
  have hn : 7 ≤ 10 := by omega
  have HK := Lib.hid h
  have z1 := (hT.row hn).z1
  rw [hwv] at z1
  have hg := hT.lt
  have dw : (wv == 0) = false := by simpa using h0
  clear h0
  subst hk
  subst hc
  clear h hwv
  clear hT ho
  go_enter Tryd.func38, Tryd.ntmps38
  go_wp2_with (go_at_call 46; refine (chk_ok 7 o c ll' r v _ ((HT.out.alloc _).alloc _) HK.out).mono ?_; rintro e w1 ⟨rfl, b1⟩; obtain ⟨B1, B2, b2⟩ := box2 b1; have HB := Lib.hid b2; have z2 := (b2.cell (p := ⟨0, 7 * 7 + 1, none⟩) hg).trans z1; have HT1 := Lib.hid (HT.out.below b2); have H1 := Lib.hid B1; have H2 := Lib.hid B2; clear b1; obtain ⟨c0, c1, c2, c3, c4, c5⟩ := B1.six; obtain ⟨d0, d1, d2⟩ := ob3 B2 HO.out; clear B1 B2 b2)
  go_ret
  exact ⟨rfl, HB.out⟩
end Go.Proofs.YtlhlgfehbfankaaDoor

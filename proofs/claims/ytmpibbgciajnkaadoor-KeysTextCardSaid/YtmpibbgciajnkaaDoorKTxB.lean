/- keys.Text: by kinds. -/
import Derived.Test.YtmpibbgciajnkaaDoorKTell
namespace Go.Proofs.YtmpibbgciajnkaaDoor
open Go.RowKit
set_option maxHeartbeats 1000000 in
theorem ktext_10 (o c l r v : Int) (w : World) (hT : Tab w) (hP : P10 w) (h : OkK 10 o c l r v) (hv : -9223372036854775808 ≤ v ∧ v ≤ 9223372036854775807) :
    Calls Tryd.prog 27 #[.agg (kc 10 o c l r v)] w fun e w' => e = .returned (.tuple #[.string (st (kName 10)), .int .i64 0]) ∧ Below w.heap.size w w' := by
  have HV := Lib.hid hv
  have HO := Lib.hid (okK_small h)
  have HT := Lib.hid hT
  have HP := Lib.hid hP
  have HK := Lib.hid h
  have HS := Lib.hid (show (st (kName 10)).size ≤ 8 by decide)
  obtain ⟨y0, y1, y2, y3, y4, y5, y6, hg⟩ := hT.row (show 10 ≤ 10 by omega)
  have hgp := hP.2
  have HGP := Lib.hid hgp
  clear hT hP h hv hgp
  go_enter Tryd.func27, Tryd.ntmps27
  go_wp2_with (go_at_call 14; refine (chk_ok 10 o c l r v _ (HT.out.alloc _) HK.out).mono ?_; rintro e w1 ⟨rfl, b1⟩; obtain ⟨B1, b2⟩ := box1 b1; have HB := Lib.hid b2; have HP1 := Lib.hid (HP.out.below b2); have H1 := Lib.hid B1; have hz := B1.lt; obtain ⟨c0, c1, c2, c3, c4, c5⟩ := B1.six; have z0 : w1.cell? ⟨0, 70, none⟩ = some (.string (st (kName 10))) := (b2.cell (p := ⟨0, 70, none⟩) hg).trans y0; have z1 : w1.cell? ⟨0, 71, none⟩ = some (.int .i64 0) := (b2.cell (p := ⟨0, 71, none⟩) hg).trans y1; have z2 : w1.cell? ⟨0, 72, none⟩ = some (.int .i64 0) := (b2.cell (p := ⟨0, 72, none⟩) hg).trans y2; have z3 : w1.cell? ⟨0, 73, none⟩ = some (.int .i64 0) := (b2.cell (p := ⟨0, 73, none⟩) hg).trans y3; have z4 : w1.cell? ⟨0, 74, none⟩ = some (.int .i64 0) := (b2.cell (p := ⟨0, 74, none⟩) hg).trans y4; have z5 : w1.cell? ⟨0, 75, none⟩ = some (.int .i64 0) := (b2.cell (p := ⟨0, 75, none⟩) hg).trans y5; have z6 : w1.cell? ⟨0, 76, none⟩ = some (.bool false) := (b2.cell (p := ⟨0, 76, none⟩) hg).trans y6; clear b1 b2 B1 y0 y1 y2 y3 y4 y5 y6)
  have HG1 := Lib.hid (show w.heap.size < w1.heap.size + 1 by omega)
  have P0 := Lib.hid ((HP1.out.alloc (.cells #[.string (st (kName 10)), .int .i64 0, .int .i64 0, .int .i64 0, .int .i64 0, .int .i64 0, .bool false] 63)).alloc (.cells #[.string (st (kName 10))] 9))
  have F0 := Lib.hid ((HB.out.alloc HB.out.size (.cells #[.string (st (kName 10)), .int .i64 0, .int .i64 0, .int .i64 0, .int .i64 0, .int .i64 0, .bool false] 63)).alloc (by have := HB.out.size; simp; omega) (.cells #[.string (st (kName 10))] 9))
  have K0 := Lib.hid ((H1.out.alloc (.cells #[.string (st (kName 10)), .int .i64 0, .int .i64 0, .int .i64 0, .int .i64 0, .int .i64 0, .bool false] 63)).alloc (.cells #[.string (st (kName 10))] 9))
  have N0 := Lib.hid ((Blk.new w1 63 #[.string (st (kName 10)), .int .i64 0, .int .i64 0, .int .i64 0, .int .i64 0, .int .i64 0, .bool false]).alloc (.cells #[.string (st (kName 10))] 9))
  have X0 := Lib.hid (show Blk ((w1.alloc (.cells #[.string (st (kName 10)), .int .i64 0, .int .i64 0, .int .i64 0, .int .i64 0, .int .i64 0, .bool false] 63)).alloc (.cells #[.string (st (kName 10))] 9)) (w1.heap.size + 1) 9 #[.string (st (kName 10))] from by have := Blk.new (w1.alloc (.cells #[.string (st (kName 10)), .int .i64 0, .int .i64 0, .int .i64 0, .int .i64 0, .int .i64 0, .bool false] 63)) 9 #[.string (st (kName 10))]; simp only [World.size_alloc] at this; exact this)
  refine (tell_no o (w1.heap.size + 1) _).mono ?_
  rintro e w' ⟨rfl, rfl⟩
  go_wp2_with fail
  refine (tell_no c (w1.heap.size + 1) _).mono ?_
  rintro e w' ⟨rfl, rfl⟩
  go_wp2_with fail
  refine (tell_no r (w1.heap.size + 1) _).mono ?_
  rintro e w' ⟨rfl, rfl⟩
  go_wp2_with fail
  refine (tell_no l (w1.heap.size + 1) _).mono ?_
  rintro e w' ⟨rfl, rfl⟩
  go_wp2_with fail
  refine (tell_no v (w1.heap.size + 1) _).mono ?_
  rintro e w' ⟨rfl, rfl⟩
  go_wp2_with fail
  exact bodyPost_ret (results_tmp2 rfl _ _ _) rfl ⟨rfl, F0.out⟩
set_option maxHeartbeats 1000000 in
theorem ktext_4 (o c l r v : Int) (w : World) (hT : Tab w) (hP : P10 w) (h : OkK 4 o c l r v) (hv : -9223372036854775808 ≤ v ∧ v ≤ 9223372036854775807) :
    Calls Tryd.prog 27 #[.agg (kc 4 o c l r v)] w fun e w' => e = .returned (.tuple #[.string (((st (kName 4)) ++ (sp ++ dec o)) ++ (sp ++ dec c)), .int .i64 0]) ∧ Below w.heap.size w w' := by
  have HV := Lib.hid hv
  have HO := Lib.hid (okK_small h)
  have HT := Lib.hid hT
  have HP := Lib.hid hP
  have HK := Lib.hid h
  have HS := Lib.hid (show (st (kName 4)).size ≤ 8 by decide)
  obtain ⟨y0, y1, y2, y3, y4, y5, y6, hg⟩ := hT.row (show 4 ≤ 10 by omega)
  have hgp := hP.2
  have HGP := Lib.hid hgp
  clear hT hP h hv hgp
  go_enter Tryd.func27, Tryd.ntmps27
  go_wp2_with (go_at_call 14; refine (chk_ok 4 o c l r v _ (HT.out.alloc _) HK.out).mono ?_; rintro e w1 ⟨rfl, b1⟩; obtain ⟨B1, b2⟩ := box1 b1; have HB := Lib.hid b2; have HP1 := Lib.hid (HP.out.below b2); have H1 := Lib.hid B1; have hz := B1.lt; obtain ⟨c0, c1, c2, c3, c4, c5⟩ := B1.six; have z0 : w1.cell? ⟨0, 28, none⟩ = some (.string (st (kName 4))) := (b2.cell (p := ⟨0, 28, none⟩) hg).trans y0; have z1 : w1.cell? ⟨0, 29, none⟩ = some (.int .i64 1) := (b2.cell (p := ⟨0, 29, none⟩) hg).trans y1; have z2 : w1.cell? ⟨0, 30, none⟩ = some (.int .i64 63) := (b2.cell (p := ⟨0, 30, none⟩) hg).trans y2; have z3 : w1.cell? ⟨0, 31, none⟩ = some (.int .i64 4294967295) := (b2.cell (p := ⟨0, 31, none⟩) hg).trans y3; have z4 : w1.cell? ⟨0, 32, none⟩ = some (.int .i64 0) := (b2.cell (p := ⟨0, 32, none⟩) hg).trans y4; have z5 : w1.cell? ⟨0, 33, none⟩ = some (.int .i64 0) := (b2.cell (p := ⟨0, 33, none⟩) hg).trans y5; have z6 : w1.cell? ⟨0, 34, none⟩ = some (.bool false) := (b2.cell (p := ⟨0, 34, none⟩) hg).trans y6; clear b1 b2 B1 y0 y1 y2 y3 y4 y5 y6)
  have HG1 := Lib.hid (show w.heap.size < w1.heap.size + 1 by omega)
  have P0 := Lib.hid ((HP1.out.alloc (.cells #[.string (st (kName 4)), .int .i64 1, .int .i64 63, .int .i64 4294967295, .int .i64 0, .int .i64 0, .bool false] 63)).alloc (.cells #[.string (st (kName 4))] 9))
  have F0 := Lib.hid ((HB.out.alloc HB.out.size (.cells #[.string (st (kName 4)), .int .i64 1, .int .i64 63, .int .i64 4294967295, .int .i64 0, .int .i64 0, .bool false] 63)).alloc (by have := HB.out.size; simp; omega) (.cells #[.string (st (kName 4))] 9))
  have K0 := Lib.hid ((H1.out.alloc (.cells #[.string (st (kName 4)), .int .i64 1, .int .i64 63, .int .i64 4294967295, .int .i64 0, .int .i64 0, .bool false] 63)).alloc (.cells #[.string (st (kName 4))] 9))
  have N0 := Lib.hid ((Blk.new w1 63 #[.string (st (kName 4)), .int .i64 1, .int .i64 63, .int .i64 4294967295, .int .i64 0, .int .i64 0, .bool false]).alloc (.cells #[.string (st (kName 4))] 9))
  have X0 := Lib.hid (show Blk ((w1.alloc (.cells #[.string (st (kName 4)), .int .i64 1, .int .i64 63, .int .i64 4294967295, .int .i64 0, .int .i64 0, .bool false] 63)).alloc (.cells #[.string (st (kName 4))] 9)) (w1.heap.size + 1) 9 #[.string (st (kName 4))] from by have := Blk.new (w1.alloc (.cells #[.string (st (kName 4)), .int .i64 1, .int .i64 63, .int .i64 4294967295, .int .i64 0, .int .i64 0, .bool false] 63)) 9 #[.string (st (kName 4))]; simp only [World.size_alloc] at this; exact this)
  refine (tell_yes o HO.out.1.1 HO.out.1.2 (w1.heap.size + 1) (st (kName 4)) _ P0.out X0.out (by have := HS.out; omega)).mono ?_
  rintro e t1 ⟨rfl, x1, l1⟩
  have X1 := Lib.hid x1
  have P1 := Lib.hid (P0.out.belowB l1 (by have := HGP.out; have := HG1.out; omega))
  have F1 := Lib.hid (F0.out.trans (l1.mono (by have := HG1.out; omega)))
  have K1 := Lib.hid (K0.out.below l1 (by have := HG1.out; omega))
  have N1 := Lib.hid (N0.out.below l1 (by omega))
  clear x1 l1 c0 c1 c2 c3 c4 c5 z0 z1 z2 z3 z4 z5 z6 hz
  obtain ⟨c0, c1, c2, c3, c4, c5⟩ := K1.out.six
  obtain ⟨k0, k1, k2, k3, k4, k5, k6⟩ := N1.out.seven
  have d0 := X1.out.cell 0
  go_wp2_with fail
  refine (tell_yes c HO.out.2.1.1 HO.out.2.1.2 (w1.heap.size + 1) ((st (kName 4)) ++ (sp ++ dec o)) _ P1.out X1.out (by have := HS.out; have s_ : sp.size = 1 := rfl; have s_o := dec_size o HO.out.1.1 HO.out.1.2; simp only [ByteArray.size_append]; omega)).mono ?_
  rintro e t2 ⟨rfl, x2, l2⟩
  have X2 := Lib.hid x2
  have P2 := Lib.hid (P1.out.belowB l2 (by have := HGP.out; have := HG1.out; omega))
  have F2 := Lib.hid (F1.out.trans (l2.mono (by have := HG1.out; omega)))
  have K2 := Lib.hid (K1.out.below l2 (by have := HG1.out; omega))
  have N2 := Lib.hid (N1.out.below l2 (by omega))
  clear x2 l2 c0 c1 c2 c3 c4 c5 k0 k1 k2 k3 k4 k5 k6 d0
  obtain ⟨c0, c1, c2, c3, c4, c5⟩ := K2.out.six
  obtain ⟨k0, k1, k2, k3, k4, k5, k6⟩ := N2.out.seven
  have d0 := X2.out.cell 0
  go_wp2_with fail
  refine (tell_no r (w1.heap.size + 1) _).mono ?_
  rintro e w' ⟨rfl, rfl⟩
  go_wp2_with fail
  refine (tell_no l (w1.heap.size + 1) _).mono ?_
  rintro e w' ⟨rfl, rfl⟩
  go_wp2_with fail
  refine (tell_no v (w1.heap.size + 1) _).mono ?_
  rintro e w' ⟨rfl, rfl⟩
  go_wp2_with fail
  exact bodyPost_ret (results_tmp2 rfl _ _ _) rfl ⟨rfl, F2.out⟩
set_option maxHeartbeats 1000000 in
theorem ktext_5 (o c l r v : Int) (w : World) (hT : Tab w) (hP : P10 w) (h : OkK 5 o c l r v) (hv : -9223372036854775808 ≤ v ∧ v ≤ 9223372036854775807) :
    Calls Tryd.prog 27 #[.agg (kc 5 o c l r v)] w fun e w' => e = .returned (.tuple #[.string (((st (kName 5)) ++ (sp ++ dec o)) ++ (sp ++ dec c)), .int .i64 0]) ∧ Below w.heap.size w w' := by
  have HV := Lib.hid hv
  have HO := Lib.hid (okK_small h)
  have HT := Lib.hid hT
  have HP := Lib.hid hP
  have HK := Lib.hid h
  have HS := Lib.hid (show (st (kName 5)).size ≤ 8 by decide)
  obtain ⟨y0, y1, y2, y3, y4, y5, y6, hg⟩ := hT.row (show 5 ≤ 10 by omega)
  have hgp := hP.2
  have HGP := Lib.hid hgp
  clear hT hP h hv hgp
  go_enter Tryd.func27, Tryd.ntmps27
  go_wp2_with (go_at_call 14; refine (chk_ok 5 o c l r v _ (HT.out.alloc _) HK.out).mono ?_; rintro e w1 ⟨rfl, b1⟩; obtain ⟨B1, b2⟩ := box1 b1; have HB := Lib.hid b2; have HP1 := Lib.hid (HP.out.below b2); have H1 := Lib.hid B1; have hz := B1.lt; obtain ⟨c0, c1, c2, c3, c4, c5⟩ := B1.six; have z0 : w1.cell? ⟨0, 35, none⟩ = some (.string (st (kName 5))) := (b2.cell (p := ⟨0, 35, none⟩) hg).trans y0; have z1 : w1.cell? ⟨0, 36, none⟩ = some (.int .i64 1) := (b2.cell (p := ⟨0, 36, none⟩) hg).trans y1; have z2 : w1.cell? ⟨0, 37, none⟩ = some (.int .i64 63) := (b2.cell (p := ⟨0, 37, none⟩) hg).trans y2; have z3 : w1.cell? ⟨0, 38, none⟩ = some (.int .i64 4294967295) := (b2.cell (p := ⟨0, 38, none⟩) hg).trans y3; have z4 : w1.cell? ⟨0, 39, none⟩ = some (.int .i64 0) := (b2.cell (p := ⟨0, 39, none⟩) hg).trans y4; have z5 : w1.cell? ⟨0, 40, none⟩ = some (.int .i64 0) := (b2.cell (p := ⟨0, 40, none⟩) hg).trans y5; have z6 : w1.cell? ⟨0, 41, none⟩ = some (.bool false) := (b2.cell (p := ⟨0, 41, none⟩) hg).trans y6; clear b1 b2 B1 y0 y1 y2 y3 y4 y5 y6)
  have HG1 := Lib.hid (show w.heap.size < w1.heap.size + 1 by omega)
  have P0 := Lib.hid ((HP1.out.alloc (.cells #[.string (st (kName 5)), .int .i64 1, .int .i64 63, .int .i64 4294967295, .int .i64 0, .int .i64 0, .bool false] 63)).alloc (.cells #[.string (st (kName 5))] 9))
  have F0 := Lib.hid ((HB.out.alloc HB.out.size (.cells #[.string (st (kName 5)), .int .i64 1, .int .i64 63, .int .i64 4294967295, .int .i64 0, .int .i64 0, .bool false] 63)).alloc (by have := HB.out.size; simp; omega) (.cells #[.string (st (kName 5))] 9))
  have K0 := Lib.hid ((H1.out.alloc (.cells #[.string (st (kName 5)), .int .i64 1, .int .i64 63, .int .i64 4294967295, .int .i64 0, .int .i64 0, .bool false] 63)).alloc (.cells #[.string (st (kName 5))] 9))
  have N0 := Lib.hid ((Blk.new w1 63 #[.string (st (kName 5)), .int .i64 1, .int .i64 63, .int .i64 4294967295, .int .i64 0, .int .i64 0, .bool false]).alloc (.cells #[.string (st (kName 5))] 9))
  have X0 := Lib.hid (show Blk ((w1.alloc (.cells #[.string (st (kName 5)), .int .i64 1, .int .i64 63, .int .i64 4294967295, .int .i64 0, .int .i64 0, .bool false] 63)).alloc (.cells #[.string (st (kName 5))] 9)) (w1.heap.size + 1) 9 #[.string (st (kName 5))] from by have := Blk.new (w1.alloc (.cells #[.string (st (kName 5)), .int .i64 1, .int .i64 63, .int .i64 4294967295, .int .i64 0, .int .i64 0, .bool false] 63)) 9 #[.string (st (kName 5))]; simp only [World.size_alloc] at this; exact this)
  refine (tell_yes o HO.out.1.1 HO.out.1.2 (w1.heap.size + 1) (st (kName 5)) _ P0.out X0.out (by have := HS.out; omega)).mono ?_
  rintro e t1 ⟨rfl, x1, l1⟩
  have X1 := Lib.hid x1
  have P1 := Lib.hid (P0.out.belowB l1 (by have := HGP.out; have := HG1.out; omega))
  have F1 := Lib.hid (F0.out.trans (l1.mono (by have := HG1.out; omega)))
  have K1 := Lib.hid (K0.out.below l1 (by have := HG1.out; omega))
  have N1 := Lib.hid (N0.out.below l1 (by omega))
  clear x1 l1 c0 c1 c2 c3 c4 c5 z0 z1 z2 z3 z4 z5 z6 hz
  obtain ⟨c0, c1, c2, c3, c4, c5⟩ := K1.out.six
  obtain ⟨k0, k1, k2, k3, k4, k5, k6⟩ := N1.out.seven
  have d0 := X1.out.cell 0
  go_wp2_with fail
  refine (tell_yes c HO.out.2.1.1 HO.out.2.1.2 (w1.heap.size + 1) ((st (kName 5)) ++ (sp ++ dec o)) _ P1.out X1.out (by have := HS.out; have s_ : sp.size = 1 := rfl; have s_o := dec_size o HO.out.1.1 HO.out.1.2; simp only [ByteArray.size_append]; omega)).mono ?_
  rintro e t2 ⟨rfl, x2, l2⟩
  have X2 := Lib.hid x2
  have P2 := Lib.hid (P1.out.belowB l2 (by have := HGP.out; have := HG1.out; omega))
  have F2 := Lib.hid (F1.out.trans (l2.mono (by have := HG1.out; omega)))
  have K2 := Lib.hid (K1.out.below l2 (by have := HG1.out; omega))
  have N2 := Lib.hid (N1.out.below l2 (by omega))
  clear x2 l2 c0 c1 c2 c3 c4 c5 k0 k1 k2 k3 k4 k5 k6 d0
  obtain ⟨c0, c1, c2, c3, c4, c5⟩ := K2.out.six
  obtain ⟨k0, k1, k2, k3, k4, k5, k6⟩ := N2.out.seven
  have d0 := X2.out.cell 0
  go_wp2_with fail
  refine (tell_no r (w1.heap.size + 1) _).mono ?_
  rintro e w' ⟨rfl, rfl⟩
  go_wp2_with fail
  refine (tell_no l (w1.heap.size + 1) _).mono ?_
  rintro e w' ⟨rfl, rfl⟩
  go_wp2_with fail
  refine (tell_no v (w1.heap.size + 1) _).mono ?_
  rintro e w' ⟨rfl, rfl⟩
  go_wp2_with fail
  exact bodyPost_ret (results_tmp2 rfl _ _ _) rfl ⟨rfl, F2.out⟩
end Go.Proofs.YtmpibbgciajnkaaDoor

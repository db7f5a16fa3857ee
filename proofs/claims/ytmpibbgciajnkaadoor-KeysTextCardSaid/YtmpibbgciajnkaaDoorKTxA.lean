/- keys.Text: by kinds. -/
import Derived.Test.YtmpibbgciajnkaaDoorKTell
namespace Go.Proofs.YtmpibbgciajnkaaDoor
open Go.RowKit
set_option maxHeartbeats 1000000 in
theorem ktext_0 (o c l r v : Int) (w : World) (hT : Tab w) (hP : P10 w) (h : OkK 0 o c l r v) (hv : -9223372036854775808 ≤ v ∧ v ≤ 9223372036854775807) :
    Calls Tryd.prog 27 #[.agg (kc 0 o c l r v)] w fun e w' => e = .returned (.tuple #[.string (st (kName 0)), .int .i64 0]) ∧ Below w.heap.size w w' := by
  have HV := Lib.hid hv
  have HO := Lib.hid (okK_small h)
  have HT := Lib.hid hT
  have HP := Lib.hid hP
  have HK := Lib.hid h
  have HS := Lib.hid (show (st (kName 0)).size ≤ 8 by decide)
  obtain ⟨y0, y1, y2, y3, y4, y5, y6, hg⟩ := hT.row (show 0 ≤ 10 by omega)
  have hgp := hP.2
  have HGP := Lib.hid hgp
  clear hT hP h hv hgp
  go_enter Tryd.func27, Tryd.ntmps27
  go_wp2_with (go_at_call 14; refine (chk_ok 0 o c l r v _ (HT.out.alloc _) HK.out).mono ?_; rintro e w1 ⟨rfl, b1⟩; obtain ⟨B1, b2⟩ := box1 b1; have HB := Lib.hid b2; have HP1 := Lib.hid (HP.out.below b2); have H1 := Lib.hid B1; have hz := B1.lt; obtain ⟨c0, c1, c2, c3, c4, c5⟩ := B1.six; have z0 : w1.cell? ⟨0, 0, none⟩ = some (.string (st (kName 0))) := (b2.cell (p := ⟨0, 0, none⟩) hg).trans y0; have z1 : w1.cell? ⟨0, 1, none⟩ = some (.int .i64 0) := (b2.cell (p := ⟨0, 1, none⟩) hg).trans y1; have z2 : w1.cell? ⟨0, 2, none⟩ = some (.int .i64 0) := (b2.cell (p := ⟨0, 2, none⟩) hg).trans y2; have z3 : w1.cell? ⟨0, 3, none⟩ = some (.int .i64 0) := (b2.cell (p := ⟨0, 3, none⟩) hg).trans y3; have z4 : w1.cell? ⟨0, 4, none⟩ = some (.int .i64 0) := (b2.cell (p := ⟨0, 4, none⟩) hg).trans y4; have z5 : w1.cell? ⟨0, 5, none⟩ = some (.int .i64 0) := (b2.cell (p := ⟨0, 5, none⟩) hg).trans y5; have z6 : w1.cell? ⟨0, 6, none⟩ = some (.bool false) := (b2.cell (p := ⟨0, 6, none⟩) hg).trans y6; clear b1 b2 B1 y0 y1 y2 y3 y4 y5 y6)
  have HG1 := Lib.hid (show w.heap.size < w1.heap.size + 1 by omega)
  have P0 := Lib.hid ((HP1.out.alloc (.cells #[.string (st (kName 0)), .int .i64 0, .int .i64 0, .int .i64 0, .int .i64 0, .int .i64 0, .bool false] 63)).alloc (.cells #[.string (st (kName 0))] 9))
  have F0 := Lib.hid ((HB.out.alloc HB.out.size (.cells #[.string (st (kName 0)), .int .i64 0, .int .i64 0, .int .i64 0, .int .i64 0, .int .i64 0, .bool false] 63)).alloc (by have := HB.out.size; simp; omega) (.cells #[.string (st (kName 0))] 9))
  have K0 := Lib.hid ((H1.out.alloc (.cells #[.string (st (kName 0)), .int .i64 0, .int .i64 0, .int .i64 0, .int .i64 0, .int .i64 0, .bool false] 63)).alloc (.cells #[.string (st (kName 0))] 9))
  have N0 := Lib.hid ((Blk.new w1 63 #[.string (st (kName 0)), .int .i64 0, .int .i64 0, .int .i64 0, .int .i64 0, .int .i64 0, .bool false]).alloc (.cells #[.string (st (kName 0))] 9))
  have X0 := Lib.hid (show Blk ((w1.alloc (.cells #[.string (st (kName 0)), .int .i64 0, .int .i64 0, .int .i64 0, .int .i64 0, .int .i64 0, .bool false] 63)).alloc (.cells #[.string (st (kName 0))] 9)) (w1.heap.size + 1) 9 #[.string (st (kName 0))] from by have := Blk.new (w1.alloc (.cells #[.string (st (kName 0)), .int .i64 0, .int .i64 0, .int .i64 0, .int .i64 0, .int .i64 0, .bool false] 63)) 9 #[.string (st (kName 0))]; simp only [World.size_alloc] at this; exact this)
  refine (tell_no o (w1.heap.size + 1) _).mono ?_
  rintro e w' ⟨rfl, rfl⟩
  go_wp2_with fail
  refine (tell_no c (w1.heap.size + 1) _).mono ?_
  rintro e w' ⟨rfl, rfl⟩
  go_wp2_with fail
  refine (tell_no r (w1.heap.size + 1) _).mono ?_
  rintro e w' ⟨rfl, rfl⟩
  go_wp2_with fail
  refine (tell_no l (w1.heap.size + 1) _).mono ?_
  rintro e w' ⟨rfl, rfl⟩
  go_wp2_with fail
  refine (tell_no v (w1.heap.size + 1) _).mono ?_
  rintro e w' ⟨rfl, rfl⟩
  go_wp2_with fail
  exact bodyPost_ret (results_tmp2 rfl _ _ _) rfl ⟨rfl, F0.out⟩
set_option maxHeartbeats 1000000 in
theorem ktext_1 (o c l r v : Int) (w : World) (hT : Tab w) (hP : P10 w) (h : OkK 1 o c l r v) (hv : -9223372036854775808 ≤ v ∧ v ≤ 9223372036854775807) :
    Calls Tryd.prog 27 #[.agg (kc 1 o c l r v)] w fun e w' => e = .returned (.tuple #[.string ((st (kName 1)) ++ (sp ++ dec v)), .int .i64 0]) ∧ Below w.heap.size w w' := by
  have HV := Lib.hid hv
  have HO := Lib.hid (okK_small h)
  have HT := Lib.hid hT
  have HP := Lib.hid hP
  have HK := Lib.hid h
  have HS := Lib.hid (show (st (kName 1)).size ≤ 8 by decide)
  obtain ⟨y0, y1, y2, y3, y4, y5, y6, hg⟩ := hT.row (show 1 ≤ 10 by omega)
  have hgp := hP.2
  have HGP := Lib.hid hgp
  clear hT hP h hv hgp
  go_enter Tryd.func27, Tryd.ntmps27
  go_wp2_with (go_at_call 14; refine (chk_ok 1 o c l r v _ (HT.out.alloc _) HK.out).mono ?_; rintro e w1 ⟨rfl, b1⟩; obtain ⟨B1, b2⟩ := box1 b1; have HB := Lib.hid b2; have HP1 := Lib.hid (HP.out.below b2); have H1 := Lib.hid B1; have hz := B1.lt; obtain ⟨c0, c1, c2, c3, c4, c5⟩ := B1.six; have z0 : w1.cell? ⟨0, 7, none⟩ = some (.string (st (kName 1))) := (b2.cell (p := ⟨0, 7, none⟩) hg).trans y0; have z1 : w1.cell? ⟨0, 8, none⟩ = some (.int .i64 0) := (b2.cell (p := ⟨0, 8, none⟩) hg).trans y1; have z2 : w1.cell? ⟨0, 9, none⟩ = some (.int .i64 0) := (b2.cell (p := ⟨0, 9, none⟩) hg).trans y2; have z3 : w1.cell? ⟨0, 10, none⟩ = some (.int .i64 0) := (b2.cell (p := ⟨0, 10, none⟩) hg).trans y3; have z4 : w1.cell? ⟨0, 11, none⟩ = some (.int .i64 0) := (b2.cell (p := ⟨0, 11, none⟩) hg).trans y4; have z5 : w1.cell? ⟨0, 12, none⟩ = some (.int .i64 0) := (b2.cell (p := ⟨0, 12, none⟩) hg).trans y5; have z6 : w1.cell? ⟨0, 13, none⟩ = some (.bool true) := (b2.cell (p := ⟨0, 13, none⟩) hg).trans y6; clear b1 b2 B1 y0 y1 y2 y3 y4 y5 y6)
  have HG1 := Lib.hid (show w.heap.size < w1.heap.size + 1 by omega)
  have P0 := Lib.hid ((HP1.out.alloc (.cells #[.string (st (kName 1)), .int .i64 0, .int .i64 0, .int .i64 0, .int .i64 0, .int .i64 0, .bool true] 63)).alloc (.cells #[.string (st (kName 1))] 9))
  have F0 := Lib.hid ((HB.out.alloc HB.out.size (.cells #[.string (st (kName 1)), .int .i64 0, .int .i64 0, .int .i64 0, .int .i64 0, .int .i64 0, .bool true] 63)).alloc (by have := HB.out.size; simp; omega) (.cells #[.string (st (kName 1))] 9))
  have K0 := Lib.hid ((H1.out.alloc (.cells #[.string (st (kName 1)), .int .i64 0, .int .i64 0, .int .i64 0, .int .i64 0, .int .i64 0, .bool true] 63)).alloc (.cells #[.string (st (kName 1))] 9))
  have N0 := Lib.hid ((Blk.new w1 63 #[.string (st (kName 1)), .int .i64 0, .int .i64 0, .int .i64 0, .int .i64 0, .int .i64 0, .bool true]).alloc (.cells #[.string (st (kName 1))] 9))
  have X0 := Lib.hid (show Blk ((w1.alloc (.cells #[.string (st (kName 1)), .int .i64 0, .int .i64 0, .int .i64 0, .int .i64 0, .int .i64 0, .bool true] 63)).alloc (.cells #[.string (st (kName 1))] 9)) (w1.heap.size + 1) 9 #[.string (st (kName 1))] from by have := Blk.new (w1.alloc (.cells #[.string (st (kName 1)), .int .i64 0, .int .i64 0, .int .i64 0, .int .i64 0, .int .i64 0, .bool true] 63)) 9 #[.string (st (kName 1))]; simp only [World.size_alloc] at this; exact this)
  refine (tell_no o (w1.heap.size + 1) _).mono ?_
  rintro e w' ⟨rfl, rfl⟩
  go_wp2_with fail
  refine (tell_no c (w1.heap.size + 1) _).mono ?_
  rintro e w' ⟨rfl, rfl⟩
  go_wp2_with fail
  refine (tell_no r (w1.heap.size + 1) _).mono ?_
  rintro e w' ⟨rfl, rfl⟩
  go_wp2_with fail
  refine (tell_no l (w1.heap.size + 1) _).mono ?_
  rintro e w' ⟨rfl, rfl⟩
  go_wp2_with fail
  refine (tell_yes v HV.out.1 HV.out.2 (w1.heap.size + 1) (st (kName 1)) _ P0.out X0.out (by have := HS.out; omega)).mono ?_
  rintro e t1 ⟨rfl, x1, l1⟩
  have X1 := Lib.hid x1
  have P1 := Lib.hid (P0.out.belowB l1 (by have := HGP.out; have := HG1.out; omega))
  have F1 := Lib.hid (F0.out.trans (l1.mono (by have := HG1.out; omega)))
  have K1 := Lib.hid (K0.out.below l1 (by have := HG1.out; omega))
  have N1 := Lib.hid (N0.out.below l1 (by omega))
  clear x1 l1 c0 c1 c2 c3 c4 c5 z0 z1 z2 z3 z4 z5 z6 hz
  obtain ⟨c0, c1, c2, c3, c4, c5⟩ := K1.out.six
  obtain ⟨k0, k1, k2, k3, k4, k5, k6⟩ := N1.out.seven
  have d0 := X1.out.cell 0
  go_wp2_with fail
  exact bodyPost_ret (results_tmp2 rfl _ _ _) rfl ⟨rfl, F1.out⟩
set_option maxHeartbeats 1000000 in
theorem ktext_8 (o c l r v : Int) (w : World) (hT : Tab w) (hP : P10 w) (h : OkK 8 o c l r v) (hv : -9223372036854775808 ≤ v ∧ v ≤ 9223372036854775807) :
    Calls Tryd.prog 27 #[.agg (kc 8 o c l r v)] w fun e w' => e = .returned (.tuple #[.string (st (kName 8)), .int .i64 0]) ∧ Below w.heap.size w w' := by
  have HV := Lib.hid hv
  have HO := Lib.hid (okK_small h)
  have HT := Lib.hid hT
  have HP := Lib.hid hP
  have HK := Lib.hid h
  have HS := Lib.hid (show (st (kName 8)).size ≤ 8 by decide)
  obtain ⟨y0, y1, y2, y3, y4, y5, y6, hg⟩ := hT.row (show 8 ≤ 10 by omega)
  have hgp := hP.2
  have HGP := Lib.hid hgp
  clear hT hP h hv hgp
  go_enter Tryd.func27, Tryd.ntmps27
  go_wp2_with (go_at_call 14; refine (chk_ok 8 o c l r v _ (HT.out.alloc _) HK.out).mono ?_; rintro e w1 ⟨rfl, b1⟩; obtain ⟨B1, b2⟩ := box1 b1; have HB := Lib.hid b2; have HP1 := Lib.hid (HP.out.below b2); have H1 := Lib.hid B1; have hz := B1.lt; obtain ⟨c0, c1, c2, c3, c4, c5⟩ := B1.six; have z0 : w1.cell? ⟨0, 56, none⟩ = some (.string (st (kName 8))) := (b2.cell (p := ⟨0, 56, none⟩) hg).trans y0; have z1 : w1.cell? ⟨0, 57, none⟩ = some (.int .i64 0) := (b2.cell (p := ⟨0, 57, none⟩) hg).trans y1; have z2 : w1.cell? ⟨0, 58, none⟩ = some (.int .i64 0) := (b2.cell (p := ⟨0, 58, none⟩) hg).trans y2; have z3 : w1.cell? ⟨0, 59, none⟩ = some (.int .i64 0) := (b2.cell (p := ⟨0, 59, none⟩) hg).trans y3; have z4 : w1.cell? ⟨0, 60, none⟩ = some (.int .i64 0) := (b2.cell (p := ⟨0, 60, none⟩) hg).trans y4; have z5 : w1.cell? ⟨0, 61, none⟩ = some (.int .i64 0) := (b2.cell (p := ⟨0, 61, none⟩) hg).trans y5; have z6 : w1.cell? ⟨0, 62, none⟩ = some (.bool false) := (b2.cell (p := ⟨0, 62, none⟩) hg).trans y6; clear b1 b2 B1 y0 y1 y2 y3 y4 y5 y6)
  have HG1 := Lib.hid (show w.heap.size < w1.heap.size + 1 by omega)
  have P0 := Lib.hid ((HP1.out.alloc (.cells #[.string (st (kName 8)), .int .i64 0, .int .i64 0, .int .i64 0, .int .i64 0, .int .i64 0, .bool false] 63)).alloc (.cells #[.string (st (kName 8))] 9))
  have F0 := Lib.hid ((HB.out.alloc HB.out.size (.cells #[.string (st (kName 8)), .int .i64 0, .int .i64 0, .int .i64 0, .int .i64 0, .int .i64 0, .bool false] 63)).alloc (by have := HB.out.size; simp; omega) (.cells #[.string (st (kName 8))] 9))
  have K0 := Lib.hid ((H1.out.alloc (.cells #[.string (st (kName 8)), .int .i64 0, .int .i64 0, .int .i64 0, .int .i64 0, .int .i64 0, .bool false] 63)).alloc (.cells #[.string (st (kName 8))] 9))
  have N0 := Lib.hid ((Blk.new w1 63 #[.string (st (kName 8)), .int .i64 0, .int .i64 0, .int .i64 0, .int .i64 0, .int .i64 0, .bool false]).alloc (.cells #[.string (st (kName 8))] 9))
  have X0 := Lib.hid (show Blk ((w1.alloc (.cells #[.string (st (kName 8)), .int .i64 0, .int .i64 0, .int .i64 0, .int .i64 0, .int .i64 0, .bool false] 63)).alloc (.cells #[.string (st (kName 8))] 9)) (w1.heap.size + 1) 9 #[.string (st (kName 8))] from by have := Blk.new (w1.alloc (.cells #[.string (st (kName 8)), .int .i64 0, .int .i64 0, .int .i64 0, .int .i64 0, .int .i64 0, .bool false] 63)) 9 #[.string (st (kName 8))]; simp only [World.size_alloc] at this; exact this)
  refine (tell_no o (w1.heap.size + 1) _).mono ?_
  rintro e w' ⟨rfl, rfl⟩
  go_wp2_with fail
  refine (tell_no c (w1.heap.size + 1) _).mono ?_
  rintro e w' ⟨rfl, rfl⟩
  go_wp2_with fail
  refine (tell_no r (w1.heap.size + 1) _).mono ?_
  rintro e w' ⟨rfl, rfl⟩
  go_wp2_with fail
  refine (tell_no l (w1.heap.size + 1) _).mono ?_
  rintro e w' ⟨rfl, rfl⟩
  go_wp2_with fail
  refine (tell_no v (w1.heap.size + 1) _).mono ?_
  rintro e w' ⟨rfl, rfl⟩
  go_wp2_with fail
  exact bodyPost_ret (results_tmp2 rfl _ _ _) rfl ⟨rfl, F0.out⟩
set_option maxHeartbeats 1000000 in
theorem ktext_9 (o c l r v : Int) (w : World) (hT : Tab w) (hP : P10 w) (h : OkK 9 o c l r v) (hv : -9223372036854775808 ≤ v ∧ v ≤ 9223372036854775807) :
    Calls Tryd.prog 27 #[.agg (kc 9 o c l r v)] w fun e w' => e = .returned (.tuple #[.string (st (kName 9)), .int .i64 0]) ∧ Below w.heap.size w w' := by
  have HV := Lib.hid hv
  have HO := Lib.hid (okK_small h)
  have HT := Lib.hid hT
  have HP := Lib.hid hP
  have HK := Lib.hid h
  have HS := Lib.hid (show (st (kName 9)).size ≤ 8 by decide)
  obtain ⟨y0, y1, y2, y3, y4, y5, y6, hg⟩ := hT.row (show 9 ≤ 10 by omega)
  have hgp := hP.2
  have HGP := Lib.hid hgp
  clear hT hP h hv hgp
  go_enter Tryd.func27, Tryd.ntmps27
  go_wp2_with (go_at_call 14; refine (chk_ok 9 o c l r v _ (HT.out.alloc _) HK.out).mono ?_; rintro e w1 ⟨rfl, b1⟩; obtain ⟨B1, b2⟩ := box1 b1; have HB := Lib.hid b2; have HP1 := Lib.hid (HP.out.below b2); have H1 := Lib.hid B1; have hz := B1.lt; obtain ⟨c0, c1, c2, c3, c4, c5⟩ := B1.six; have z0 : w1.cell? ⟨0, 63, none⟩ = some (.string (st (kName 9))) := (b2.cell (p := ⟨0, 63, none⟩) hg).trans y0; have z1 : w1.cell? ⟨0, 64, none⟩ = some (.int .i64 0) := (b2.cell (p := ⟨0, 64, none⟩) hg).trans y1; have z2 : w1.cell? ⟨0, 65, none⟩ = some (.int .i64 0) := (b2.cell (p := ⟨0, 65, none⟩) hg).trans y2; have z3 : w1.cell? ⟨0, 66, none⟩ = some (.int .i64 0) := (b2.cell (p := ⟨0, 66, none⟩) hg).trans y3; have z4 : w1.cell? ⟨0, 67, none⟩ = some (.int .i64 0) := (b2.cell (p := ⟨0, 67, none⟩) hg).trans y4; have z5 : w1.cell? ⟨0, 68, none⟩ = some (.int .i64 0) := (b2.cell (p := ⟨0, 68, none⟩) hg).trans y5; have z6 : w1.cell? ⟨0, 69, none⟩ = some (.bool false) := (b2.cell (p := ⟨0, 69, none⟩) hg).trans y6; clear b1 b2 B1 y0 y1 y2 y3 y4 y5 y6)
  have HG1 := Lib.hid (show w.heap.size < w1.heap.size + 1 by omega)
  have P0 := Lib.hid ((HP1.out.alloc (.cells #[.string (st (kName 9)), .int .i64 0, .int .i64 0, .int .i64 0, .int .i64 0, .int .i64 0, .bool false] 63)).alloc (.cells #[.string (st (kName 9))] 9))
  have F0 := Lib.hid ((HB.out.alloc HB.out.size (.cells #[.string (st (kName 9)), .int .i64 0, .int .i64 0, .int .i64 0, .int .i64 0, .int .i64 0, .bool false] 63)).alloc (by have := HB.out.size; simp; omega) (.cells #[.string (st (kName 9))] 9))
  have K0 := Lib.hid ((H1.out.alloc (.cells #[.string (st (kName 9)), .int .i64 0, .int .i64 0, .int .i64 0, .int .i64 0, .int .i64 0, .bool false] 63)).alloc (.cells #[.string (st (kName 9))] 9))
  have N0 := Lib.hid ((Blk.new w1 63 #[.string (st (kName 9)), .int .i64 0, .int .i64 0, .int .i64 0, .int .i64 0, .int .i64 0, .bool false]).alloc (.cells #[.string (st (kName 9))] 9))
  have X0 := Lib.hid (show Blk ((w1.alloc (.cells #[.string (st (kName 9)), .int .i64 0, .int .i64 0, .int .i64 0, .int .i64 0, .int .i64 0, .bool false] 63)).alloc (.cells #[.string (st (kName 9))] 9)) (w1.heap.size + 1) 9 #[.string (st (kName 9))] from by have := Blk.new (w1.alloc (.cells #[.string (st (kName 9)), .int .i64 0, .int .i64 0, .int .i64 0, .int .i64 0, .int .i64 0, .bool false] 63)) 9 #[.string (st (kName 9))]; simp only [World.size_alloc] at this; exact this)
  refine (tell_no o (w1.heap.size + 1) _).mono ?_
  rintro e w' ⟨rfl, rfl⟩
  go_wp2_with fail
  refine (tell_no c (w1.heap.size + 1) _).mono ?_
  rintro e w' ⟨rfl, rfl⟩
  go_wp2_with fail
  refine (tell_no r (w1.heap.size + 1) _).mono ?_
  rintro e w' ⟨rfl, rfl⟩
  go_wp2_with fail
  refine (tell_no l (w1.heap.size + 1) _).mono ?_
  rintro e w' ⟨rfl, rfl⟩
  go_wp2_with fail
  refine (tell_no v (w1.heap.size + 1) _).mono ?_
  rintro e w' ⟨rfl, rfl⟩
  go_wp2_with fail
  exact bodyPost_ret (results_tmp2 rfl _ _ _) rfl ⟨rfl, F0.out⟩
end Go.Proofs.YtmpibbgciajnkaaDoor

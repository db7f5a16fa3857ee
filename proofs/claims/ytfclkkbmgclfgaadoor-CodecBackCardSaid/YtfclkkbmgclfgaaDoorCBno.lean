/- The law CodecBack returns true for every input: keys and objects are read as they were told, what is read is told in the same bytes, and a sector in which up to 32 bits in a row are turned is none. No condition but that the listed variables read as the program's own text lays them; the card ties them to it. -/
import Derived.Test.YtfclkkbmgclfgaaDoorFsq
import Derived.Test.YtfclkkbmgclfgaaDoorRegIn
namespace Go.Proofs.YtfclkkbmgclfgaaDoor.codecBack
open Go.ChangeShapes Go.WideShapes Go.ChangeAt Go.RowKit
attribute [local go_sem] Oper.semAt_some
set_option maxRecDepth 100000 in
set_option maxHeartbeats 8000000 in
theorem walk_0000 (w : World) (hT : Tab w) (u : Oj) (x : Ky) (n : Int) (A : Option Addr) (m c : Nat) (f : Int) (b : Nat) (l : List UInt8) (hm : m ≤ 3000) (hn : l.length = m) (hr : Rd w A l) (hx : ¬ x.ok) (y : Ky) (hy : True) (hu : ¬ u.ok n)
    (hgy : ∀ W, Tab W → Rd W A l → Calls Tryd.prog 7 #[.slice A m c] W fun e w' => e = .returned (.tuple #[y.val, .int .i64 151]) ∧ Below W.heap.size W w') :
    Calls Tryd.prog 3 #[u.val, x.val, .int .i64 n, .agg #[.slice A m c, .int .i64 f, .int .u32 (b : Int)]] w fun e w' => e = .returned (.bool true) ∧ Below w.heap.size w w' := by
  have hz := z45
  have hz2 := z34
  have hbl := oz_len
  have HT0 := Lib.hid (((hT.alloc (.cells u.cells.toArray 30)).alloc (.cells (kl x).toArray 26)).alloc (.cells #[.slice A m c, .int .i64 f, .int .u32 (b : Int)] 36))
  have HB0 := Lib.hid ((((Below.refl w.heap.size w).alloc (Nat.le_refl _) (.cells u.cells.toArray 30)).alloc (by simp) (.cells (kl x).toArray 26)).alloc (by simp; omega) (.cells #[.slice A m c, .int .i64 f, .int .u32 (b : Int)] 36))
  have HO0 := Lib.hid (((Blk.new w 30 u.cells.toArray).alloc (.cells (kl x).toArray 26)).alloc (.cells #[.slice A m c, .int .i64 f, .int .u32 (b : Int)] 36))
  have HK0 := Lib.hid ((Blk.new_of (w.alloc (.cells u.cells.toArray 30)) 26 (kl x).toArray (g := w.heap.size + 1) (by simp)).alloc (.cells #[.slice A m c, .int .i64 f, .int .u32 (b : Int)] 36))
  have HI0 := Lib.hid (Blk.new_of ((w.alloc (.cells u.cells.toArray 30)).alloc (.cells (kl x).toArray 26)) 36 #[.slice A m c, .int .i64 f, .int .u32 (b : Int)] (g := w.heap.size + 1 + 1) (by simp))
  have HTW := Lib.hid hT
  have HR := Lib.hid hr
  have HN := Lib.hid hn
  have HM := Lib.hid hm
  have hm1 : ¬ (3000 : Int) < (m : Int) := by omega
  have HX := Lib.hid hx
  have HY := Lib.hid hy
  have HU := Lib.hid hu
  have HGY := Lib.hid hgy
  have HL := Lib.hid (show z512.length = 512 from List.length_replicate)
  have HA := Lib.hid (show (Tryd.prog.info? 44).map (·.size) = some (bv z512).toArray.size by rw [List.size_toArray, bv_length, HL.out]; exact size45)
  have HZ := Lib.hid (show (bv z512).toArray.size = (bv z512).toArray.size from rfl)
  have M0 := Lib.hid True.intro
  have M1 := Lib.hid True.intro
  have M2 := Lib.hid True.intro
  obtain ⟨c0, c1, c2, c3, c4, c5⟩ := Blk.six HK0.out
  have ki := (HI0.out.cell 0).trans (show _ = some (.slice A m c) from rfl)
  clear hT hr hn hm hx hy hu hgy
  go_enter Tryd.func3, Tryd.ntmps3
  go_wp2_with (first
    | (go_at_call 5; clear M0; refine (putkey_no x _ HT0.out HX.out).mono ?_; rintro e w1 ⟨rfl, hb⟩; have HB1 := Lib.hid (HB0.out.trans (hb.mono HB0.out.size)); have HT1 := Lib.hid (HT0.out.below hb); have HO1 := Lib.hid (Blk.keep HO0.out hb); have HK1 := Lib.hid (Blk.keep HK0.out hb); have HI1 := Lib.hid (Blk.keep HI0.out hb); clear ki; have ki := (HI1.out.cell 0).trans (show _ = some (.slice A m c) from rfl); clear c0 c1 c2 c3 c4 c5 hb)
    | (go_at_call 6; refine (cnum_any _ _).mono ?_; rintro e y ⟨rfl, rfl⟩)
    | (go_at_call 7; refine (HGY.out _ HT1.out (HR.out.below HB1.out)).mono ?_; rintro e w2 ⟨rfl, hb⟩; have HB2 := Lib.hid ((HB1.out.trans (hb.mono HB1.out.size)).alloc (Nat.le_trans HB1.out.size hb.size) (.cells #[.int .i64 y.k, .int .i64 y.o, .int .i64 y.c, .int .i64 y.l, .int .i64 y.r, .int .i64 y.v] 26)); have HT2 := Lib.hid ((HT1.out.below hb).alloc (.cells #[.int .i64 y.k, .int .i64 y.o, .int .i64 y.c, .int .i64 y.l, .int .i64 y.r, .int .i64 y.v] 26)); have HO2 := Lib.hid (Blk.alloc (Blk.keep HO1.out hb) (.cells #[.int .i64 y.k, .int .i64 y.o, .int .i64 y.c, .int .i64 y.l, .int .i64 y.r, .int .i64 y.v] 26)); have HK2 := Lib.hid (Blk.alloc (Blk.keep HK1.out hb) (.cells #[.int .i64 y.k, .int .i64 y.o, .int .i64 y.c, .int .i64 y.l, .int .i64 y.r, .int .i64 y.v] 26)); have HI2 := Lib.hid (Blk.alloc (Blk.keep HI1.out hb) (.cells #[.int .i64 y.k, .int .i64 y.o, .int .i64 y.c, .int .i64 y.l, .int .i64 y.r, .int .i64 y.v] 26)); clear ki; have ki := (HI2.out.cell 0).trans (show _ = some (.slice A m c) from rfl); clear hb)
    | (show wpList _ _ _ ({ dst := some 78, op := .load 30 (.tmp 4), type := _, pos := _, after := _, guard := _ } :: _) _ _; refine wpList_yields (S := fun w' => ObAt w' w.heap.size 0 u) (y_ob (by rfl) (.tmp 4) (by rfl) w.heap.size 0 (by rfl) u (fun _ h => h)) (HO2.out.ob) ?_)
    | (go_at_call 8; refine (cput_no u n _ HT2.out HU.out).mono ?_; rintro e w3 ⟨rfl, hb⟩; have HB3 := Lib.hid ((HB2.out.trans (hb.mono HB2.out.size)).alloc (Nat.le_trans HB2.out.size hb.size) (.cells (bv z512).toArray 44)); have HT3 := Lib.hid ((HT2.out.below hb).alloc (.cells (bv z512).toArray 44)); have HO3 := Lib.hid (Blk.alloc (Blk.keep HO2.out hb) (.cells (bv z512).toArray 44)); have HK3 := Lib.hid (Blk.alloc (Blk.keep HK2.out hb) (.cells (bv z512).toArray 44)); have HI3 := Lib.hid (Blk.alloc (Blk.keep HI2.out hb) (.cells (bv z512).toArray 44)); clear ki; have ki := (HI3.out.cell 0).trans (show _ = some (.slice A m c) from rfl); clear hb; have HS3 := Lib.hid (Blk.new w3 44 (bv z512).toArray))
    | (show wpList _ _ _ ({ dst := none, op := .store 44 (.tmp 17) (.tmp 81), type := _, pos := _, after := _, guard := _ } :: _) _ _; refine wpList_store_new rfl 44 (.tmp 17) (.tmp 81) rfl w3.heap.size rfl rfl (bv z512).toArray (bv z512).toArray rfl HA.out (by first | exact HZ.out | rfl) (bv_all _) ?_)
    | (show wpList _ _ _ ({ dst := some 86, op := .load 44 (.tmp 17), type := _, pos := _, after := _, guard := _ } :: _) _ _; refine wpList_yields (S := fun w' => w'.rangeAt w3.heap.size 0 (bv z512)) (y_sec (by rfl) (.tmp 17) (by rfl) w3.heap.size 0 (by rfl) z512 HL.out (fun _ h => h)) (rd_range (rd_blk (HS3.out))) ?_)
    | (show wpList _ _ _ ({ dst := some 88, op := .binOp .eql 44 (.tmp 86) (.tmp 87) 44, type := _, pos := _, after := _, guard := _ } :: _) _ _; refine wpList_yields (S := fun _ => True) (y_seceq (by rfl) (by rfl) z512 z512 HL.out HL.out true (decide_eq_true rfl) (by rfl) (by rfl)) trivial ?_)
    | (go_at_call 4; refine (works_any _ HT3.out).mono ?_; rintro e w9 ⟨rfl, hb⟩; have B9 := Lib.hid (HB3.out.trans (hb.mono HB3.out.size)); clear hb))
  go_ret
  exact ⟨rfl, B9.out⟩
set_option maxRecDepth 100000 in
set_option maxHeartbeats 8000000 in
theorem walk_0100 (w : World) (hT : Tab w) (u : Oj) (x : Ky) (n : Int) (A : Option Addr) (m c : Nat) (f : Int) (b : Nat) (l : List UInt8) (hm : m ≤ 3000) (hn : l.length = m) (hr : Rd w A l) (hx : ¬ x.ok) (y : Ky) (hy : y.ok ∧ y.fit ∧ kbs y = l) (hu : ¬ u.ok n)
    (hgy : ∀ W, Tab W → Rd W A l → Calls Tryd.prog 7 #[.slice A m c] W fun e w' => e = .returned (.tuple #[y.val, .int .i64 0]) ∧ Below W.heap.size W w') :
    Calls Tryd.prog 3 #[u.val, x.val, .int .i64 n, .agg #[.slice A m c, .int .i64 f, .int .u32 (b : Int)]] w fun e w' => e = .returned (.bool true) ∧ Below w.heap.size w w' := by
  have hz := z45
  have hz2 := z34
  have hbl := oz_len
  have HT0 := Lib.hid (((hT.alloc (.cells u.cells.toArray 30)).alloc (.cells (kl x).toArray 26)).alloc (.cells #[.slice A m c, .int .i64 f, .int .u32 (b : Int)] 36))
  have HB0 := Lib.hid ((((Below.refl w.heap.size w).alloc (Nat.le_refl _) (.cells u.cells.toArray 30)).alloc (by simp) (.cells (kl x).toArray 26)).alloc (by simp; omega) (.cells #[.slice A m c, .int .i64 f, .int .u32 (b : Int)] 36))
  have HO0 := Lib.hid (((Blk.new w 30 u.cells.toArray).alloc (.cells (kl x).toArray 26)).alloc (.cells #[.slice A m c, .int .i64 f, .int .u32 (b : Int)] 36))
  have HK0 := Lib.hid ((Blk.new_of (w.alloc (.cells u.cells.toArray 30)) 26 (kl x).toArray (g := w.heap.size + 1) (by simp)).alloc (.cells #[.slice A m c, .int .i64 f, .int .u32 (b : Int)] 36))
  have HI0 := Lib.hid (Blk.new_of ((w.alloc (.cells u.cells.toArray 30)).alloc (.cells (kl x).toArray 26)) 36 #[.slice A m c, .int .i64 f, .int .u32 (b : Int)] (g := w.heap.size + 1 + 1) (by simp))
  have HTW := Lib.hid hT
  have HR := Lib.hid hr
  have HN := Lib.hid hn
  have HM := Lib.hid hm
  have hm1 : ¬ (3000 : Int) < (m : Int) := by omega
  have HX := Lib.hid hx
  have HY := Lib.hid hy
  have HU := Lib.hid hu
  have HGY := Lib.hid hgy
  have HL := Lib.hid (show z512.length = 512 from List.length_replicate)
  have HA := Lib.hid (show (Tryd.prog.info? 44).map (·.size) = some (bv z512).toArray.size by rw [List.size_toArray, bv_length, HL.out]; exact size45)
  have HZ := Lib.hid (show (bv z512).toArray.size = (bv z512).toArray.size from rfl)
  have M0 := Lib.hid True.intro
  have M1 := Lib.hid True.intro
  have M2 := Lib.hid True.intro
  obtain ⟨c0, c1, c2, c3, c4, c5⟩ := Blk.six HK0.out
  have ki := (HI0.out.cell 0).trans (show _ = some (.slice A m c) from rfl)
  have hq : ((st (kbs y)).toList == (st l).toList) = true := st_beq hy.2.2
  clear hT hr hn hm hx hy hu hgy
  go_enter Tryd.func3, Tryd.ntmps3
  go_wp2_with (first
    | (go_at_call 5; clear M0; refine (putkey_no x _ HT0.out HX.out).mono ?_; rintro e w1 ⟨rfl, hb⟩; have HB1 := Lib.hid (HB0.out.trans (hb.mono HB0.out.size)); have HT1 := Lib.hid (HT0.out.below hb); have HO1 := Lib.hid (Blk.keep HO0.out hb); have HK1 := Lib.hid (Blk.keep HK0.out hb); have HI1 := Lib.hid (Blk.keep HI0.out hb); clear ki; have ki := (HI1.out.cell 0).trans (show _ = some (.slice A m c) from rfl); clear c0 c1 c2 c3 c4 c5 hb)
    | (go_at_call 6; refine (cnum_any _ _).mono ?_; rintro e y ⟨rfl, rfl⟩)
    | (go_at_call 7; refine (HGY.out _ HT1.out (HR.out.below HB1.out)).mono ?_; rintro e w2 ⟨rfl, hb⟩; have HB2 := Lib.hid ((HB1.out.trans (hb.mono HB1.out.size)).alloc (Nat.le_trans HB1.out.size hb.size) (.cells #[.int .i64 y.k, .int .i64 y.o, .int .i64 y.c, .int .i64 y.l, .int .i64 y.r, .int .i64 y.v] 26)); have HT2 := Lib.hid ((HT1.out.below hb).alloc (.cells #[.int .i64 y.k, .int .i64 y.o, .int .i64 y.c, .int .i64 y.l, .int .i64 y.r, .int .i64 y.v] 26)); have HO2 := Lib.hid (Blk.alloc (Blk.keep HO1.out hb) (.cells #[.int .i64 y.k, .int .i64 y.o, .int .i64 y.c, .int .i64 y.l, .int .i64 y.r, .int .i64 y.v] 26)); have HK2 := Lib.hid (Blk.alloc (Blk.keep HK1.out hb) (.cells #[.int .i64 y.k, .int .i64 y.o, .int .i64 y.c, .int .i64 y.l, .int .i64 y.r, .int .i64 y.v] 26)); have HI2 := Lib.hid (Blk.alloc (Blk.keep HI1.out hb) (.cells #[.int .i64 y.k, .int .i64 y.o, .int .i64 y.c, .int .i64 y.l, .int .i64 y.r, .int .i64 y.v] 26)); clear ki; have ki := (HI2.out.cell 0).trans (show _ = some (.slice A m c) from rfl); clear hb)
    | (go_at_call 5; refine (putkey_yes y _ HT2.out HY.out.1 HY.out.2.1).mono ?_; rintro e w3 ⟨v, rfl, ho, hb⟩; obtain ⟨D2, cp2, rfl, hcp2, -, -, hrd, -⟩ := own_cell (by decide) ho; have HB3 := Lib.hid (HB2.out.trans (hb.mono HB2.out.size)); have HT3 := Lib.hid (HT2.out.below hb); have HO3 := Lib.hid (Blk.keep HO2.out hb); have HK3 := Lib.hid (Blk.keep HK2.out hb); have HI3 := Lib.hid (Blk.keep HI2.out hb); clear ki; have ki := (HI3.out.cell 0).trans (show _ = some (.slice A m c) from rfl); have s1 := str26 (c := cp2) (kbs_length y) hrd; have s2 := str26 (c := c) HN.out (HR.out.below HB3.out); clear hb ho hrd)
    | (show wpList _ _ _ ({ dst := some 78, op := .load 30 (.tmp 4), type := _, pos := _, after := _, guard := _ } :: _) _ _; refine wpList_yields (S := fun w' => ObAt w' w.heap.size 0 u) (y_ob (by rfl) (.tmp 4) (by rfl) w.heap.size 0 (by rfl) u (fun _ h => h)) (HO3.out.ob) ?_)
    | (go_at_call 8; refine (cput_no u n _ HT3.out HU.out).mono ?_; rintro e w4 ⟨rfl, hb⟩; have HB4 := Lib.hid ((HB3.out.trans (hb.mono HB3.out.size)).alloc (Nat.le_trans HB3.out.size hb.size) (.cells (bv z512).toArray 44)); have HT4 := Lib.hid ((HT3.out.below hb).alloc (.cells (bv z512).toArray 44)); have HO4 := Lib.hid (Blk.alloc (Blk.keep HO3.out hb) (.cells (bv z512).toArray 44)); have HK4 := Lib.hid (Blk.alloc (Blk.keep HK3.out hb) (.cells (bv z512).toArray 44)); have HI4 := Lib.hid (Blk.alloc (Blk.keep HI3.out hb) (.cells (bv z512).toArray 44)); clear ki; have ki := (HI4.out.cell 0).trans (show _ = some (.slice A m c) from rfl); clear hb s1 s2; have HS4 := Lib.hid (Blk.new w4 44 (bv z512).toArray))
    | (show wpList _ _ _ ({ dst := none, op := .store 44 (.tmp 17) (.tmp 81), type := _, pos := _, after := _, guard := _ } :: _) _ _; refine wpList_store_new rfl 44 (.tmp 17) (.tmp 81) rfl w4.heap.size rfl rfl (bv z512).toArray (bv z512).toArray rfl HA.out (by first | exact HZ.out | rfl) (bv_all _) ?_)
    | (show wpList _ _ _ ({ dst := some 86, op := .load 44 (.tmp 17), type := _, pos := _, after := _, guard := _ } :: _) _ _; refine wpList_yields (S := fun w' => w'.rangeAt w4.heap.size 0 (bv z512)) (y_sec (by rfl) (.tmp 17) (by rfl) w4.heap.size 0 (by rfl) z512 HL.out (fun _ h => h)) (rd_range (rd_blk (HS4.out))) ?_)
    | (show wpList _ _ _ ({ dst := some 88, op := .binOp .eql 44 (.tmp 86) (.tmp 87) 44, type := _, pos := _, after := _, guard := _ } :: _) _ _; refine wpList_yields (S := fun _ => True) (y_seceq (by rfl) (by rfl) z512 z512 HL.out HL.out true (decide_eq_true rfl) (by rfl) (by rfl)) trivial ?_)
    | (go_at_call 4; refine (works_any _ HT4.out).mono ?_; rintro e w9 ⟨rfl, hb⟩; have B9 := Lib.hid (HB4.out.trans (hb.mono HB4.out.size)); clear hb))
  go_ret
  exact ⟨rfl, B9.out⟩
set_option maxRecDepth 100000 in
set_option maxHeartbeats 8000000 in
theorem walk_1000 (w : World) (hT : Tab w) (u : Oj) (x : Ky) (n : Int) (A : Option Addr) (m c : Nat) (f : Int) (b : Nat) (l : List UInt8) (hm : m ≤ 3000) (hn : l.length = m) (hr : Rd w A l) (hx : x.ok ∧ x.fit) (y : Ky) (hy : True) (hu : ¬ u.ok n)
    (hgy : ∀ W, Tab W → Rd W A l → Calls Tryd.prog 7 #[.slice A m c] W fun e w' => e = .returned (.tuple #[y.val, .int .i64 151]) ∧ Below W.heap.size W w') :
    Calls Tryd.prog 3 #[u.val, x.val, .int .i64 n, .agg #[.slice A m c, .int .i64 f, .int .u32 (b : Int)]] w fun e w' => e = .returned (.bool true) ∧ Below w.heap.size w w' := by
  have hz := z45
  have hz2 := z34
  have hbl := oz_len
  have HT0 := Lib.hid (((hT.alloc (.cells u.cells.toArray 30)).alloc (.cells (kl x).toArray 26)).alloc (.cells #[.slice A m c, .int .i64 f, .int .u32 (b : Int)] 36))
  have HB0 := Lib.hid ((((Below.refl w.heap.size w).alloc (Nat.le_refl _) (.cells u.cells.toArray 30)).alloc (by simp) (.cells (kl x).toArray 26)).alloc (by simp; omega) (.cells #[.slice A m c, .int .i64 f, .int .u32 (b : Int)] 36))
  have HO0 := Lib.hid (((Blk.new w 30 u.cells.toArray).alloc (.cells (kl x).toArray 26)).alloc (.cells #[.slice A m c, .int .i64 f, .int .u32 (b : Int)] 36))
  have HK0 := Lib.hid ((Blk.new_of (w.alloc (.cells u.cells.toArray 30)) 26 (kl x).toArray (g := w.heap.size + 1) (by simp)).alloc (.cells #[.slice A m c, .int .i64 f, .int .u32 (b : Int)] 36))
  have HI0 := Lib.hid (Blk.new_of ((w.alloc (.cells u.cells.toArray 30)).alloc (.cells (kl x).toArray 26)) 36 #[.slice A m c, .int .i64 f, .int .u32 (b : Int)] (g := w.heap.size + 1 + 1) (by simp))
  have HTW := Lib.hid hT
  have HR := Lib.hid hr
  have HN := Lib.hid hn
  have HM := Lib.hid hm
  have hm1 : ¬ (3000 : Int) < (m : Int) := by omega
  have HX := Lib.hid hx
  have HY := Lib.hid hy
  have HU := Lib.hid hu
  have HGY := Lib.hid hgy
  have HL := Lib.hid (show z512.length = 512 from List.length_replicate)
  have HA := Lib.hid (show (Tryd.prog.info? 44).map (·.size) = some (bv z512).toArray.size by rw [List.size_toArray, bv_length, HL.out]; exact size45)
  have HZ := Lib.hid (show (bv z512).toArray.size = (bv z512).toArray.size from rfl)
  have HGX := Lib.hid (show good (kbs x) from ⟨kbs_length _, by rw [kof_kbs0 hx.2]; exact hx.1⟩)
  have HKX := Lib.hid (kof_kbs0 hx.2)
  have M0 := Lib.hid True.intro
  have M1 := Lib.hid True.intro
  have M2 := Lib.hid True.intro
  obtain ⟨c0, c1, c2, c3, c4, c5⟩ := Blk.six HK0.out
  have ki := (HI0.out.cell 0).trans (show _ = some (.slice A m c) from rfl)
  clear hT hr hn hm hx hy hu hgy
  go_enter Tryd.func3, Tryd.ntmps3
  go_wp2_with (first
    | (go_at_call 5; clear M0; refine (putkey_yes x _ HT0.out HX.out.1 HX.out.2).mono ?_; rintro e w1 ⟨v, rfl, ho, hb⟩; obtain ⟨D1, cp1, rfl, hcp1, -, -, hrd, -⟩ := own_cell (by decide) ho; have HB1 := Lib.hid (HB0.out.trans (hb.mono HB0.out.size)); have HT1 := Lib.hid (HT0.out.below hb); have HO1 := Lib.hid (Blk.keep HO0.out hb); have HK1 := Lib.hid (Blk.keep HK0.out hb); have HI1 := Lib.hid (Blk.keep HI0.out hb); clear ki; have ki := (HI1.out.cell 0).trans (show _ = some (.slice A m c) from rfl); have R1 := Lib.hid hrd; clear c0 c1 c2 c3 c4 c5 hb ho hrd)
    | (go_at_call 6; refine (cnum_any _ _).mono ?_; rintro e y ⟨rfl, rfl⟩)
    | (go_at_call 7; clear M1; refine (getkey_yes (some ⟨D1, 0, none⟩) 20 cp1 (kbs x) _ HT1.out (kbs_length x) hcp1 R1.out HGX.out).mono ?_; rw [HKX.out]; rintro e w2 ⟨rfl, hb⟩; have HB2 := Lib.hid ((HB1.out.trans (hb.mono HB1.out.size)).alloc (Nat.le_trans HB1.out.size hb.size) (.cells #[.int .i64 x.k, .int .i64 x.o, .int .i64 x.c, .int .i64 x.l, .int .i64 x.r, .int .i64 x.v] 26)); have HT2 := Lib.hid ((HT1.out.below hb).alloc (.cells #[.int .i64 x.k, .int .i64 x.o, .int .i64 x.c, .int .i64 x.l, .int .i64 x.r, .int .i64 x.v] 26)); have HO2 := Lib.hid (Blk.alloc (Blk.keep HO1.out hb) (.cells #[.int .i64 x.k, .int .i64 x.o, .int .i64 x.c, .int .i64 x.l, .int .i64 x.r, .int .i64 x.v] 26)); have HK2 := Lib.hid (Blk.alloc (Blk.keep HK1.out hb) (.cells #[.int .i64 x.k, .int .i64 x.o, .int .i64 x.c, .int .i64 x.l, .int .i64 x.r, .int .i64 x.v] 26)); have HI2 := Lib.hid (Blk.alloc (Blk.keep HI1.out hb) (.cells #[.int .i64 x.k, .int .i64 x.o, .int .i64 x.c, .int .i64 x.l, .int .i64 x.r, .int .i64 x.v] 26)); clear ki; have ki := (HI2.out.cell 0).trans (show _ = some (.slice A m c) from rfl); clear hb; obtain ⟨c0, c1, c2, c3, c4, c5⟩ := Blk.six HK2.out)
    | (show wpList _ _ _ ({ dst := some 46, op := .binOp .neq 26 (.tmp 44) (.tmp 45) 26, type := _, pos := _, after := _, guard := _ } :: _) _ _; refine wpList_yields (S := fun _ => True) (y_kyne_self (by rfl) (by rfl) x (by rfl) (by rfl)) trivial ?_; clear c0 c1 c2 c3 c4 c5)
    | (go_at_call 7; refine (HGY.out _ HT2.out (HR.out.below HB2.out)).mono ?_; rintro e w3 ⟨rfl, hb⟩; have HB3 := Lib.hid ((HB2.out.trans (hb.mono HB2.out.size)).alloc (Nat.le_trans HB2.out.size hb.size) (.cells #[.int .i64 y.k, .int .i64 y.o, .int .i64 y.c, .int .i64 y.l, .int .i64 y.r, .int .i64 y.v] 26)); have HT3 := Lib.hid ((HT2.out.below hb).alloc (.cells #[.int .i64 y.k, .int .i64 y.o, .int .i64 y.c, .int .i64 y.l, .int .i64 y.r, .int .i64 y.v] 26)); have HO3 := Lib.hid (Blk.alloc (Blk.keep HO2.out hb) (.cells #[.int .i64 y.k, .int .i64 y.o, .int .i64 y.c, .int .i64 y.l, .int .i64 y.r, .int .i64 y.v] 26)); have HK3 := Lib.hid (Blk.alloc (Blk.keep HK2.out hb) (.cells #[.int .i64 y.k, .int .i64 y.o, .int .i64 y.c, .int .i64 y.l, .int .i64 y.r, .int .i64 y.v] 26)); have HI3 := Lib.hid (Blk.alloc (Blk.keep HI2.out hb) (.cells #[.int .i64 y.k, .int .i64 y.o, .int .i64 y.c, .int .i64 y.l, .int .i64 y.r, .int .i64 y.v] 26)); clear ki; have ki := (HI3.out.cell 0).trans (show _ = some (.slice A m c) from rfl); clear hb)
    | (show wpList _ _ _ ({ dst := some 78, op := .load 30 (.tmp 4), type := _, pos := _, after := _, guard := _ } :: _) _ _; refine wpList_yields (S := fun w' => ObAt w' w.heap.size 0 u) (y_ob (by rfl) (.tmp 4) (by rfl) w.heap.size 0 (by rfl) u (fun _ h => h)) (HO3.out.ob) ?_)
    | (go_at_call 8; refine (cput_no u n _ HT3.out HU.out).mono ?_; rintro e w4 ⟨rfl, hb⟩; have HB4 := Lib.hid ((HB3.out.trans (hb.mono HB3.out.size)).alloc (Nat.le_trans HB3.out.size hb.size) (.cells (bv z512).toArray 44)); have HT4 := Lib.hid ((HT3.out.below hb).alloc (.cells (bv z512).toArray 44)); have HO4 := Lib.hid (Blk.alloc (Blk.keep HO3.out hb) (.cells (bv z512).toArray 44)); have HK4 := Lib.hid (Blk.alloc (Blk.keep HK3.out hb) (.cells (bv z512).toArray 44)); have HI4 := Lib.hid (Blk.alloc (Blk.keep HI3.out hb) (.cells (bv z512).toArray 44)); clear ki; have ki := (HI4.out.cell 0).trans (show _ = some (.slice A m c) from rfl); clear hb; have HS4 := Lib.hid (Blk.new w4 44 (bv z512).toArray))
    | (show wpList _ _ _ ({ dst := none, op := .store 44 (.tmp 17) (.tmp 81), type := _, pos := _, after := _, guard := _ } :: _) _ _; refine wpList_store_new rfl 44 (.tmp 17) (.tmp 81) rfl w4.heap.size rfl rfl (bv z512).toArray (bv z512).toArray rfl HA.out (by first | exact HZ.out | rfl) (bv_all _) ?_)
    | (show wpList _ _ _ ({ dst := some 86, op := .load 44 (.tmp 17), type := _, pos := _, after := _, guard := _ } :: _) _ _; refine wpList_yields (S := fun w' => w'.rangeAt w4.heap.size 0 (bv z512)) (y_sec (by rfl) (.tmp 17) (by rfl) w4.heap.size 0 (by rfl) z512 HL.out (fun _ h => h)) (rd_range (rd_blk (HS4.out))) ?_)
    | (show wpList _ _ _ ({ dst := some 88, op := .binOp .eql 44 (.tmp 86) (.tmp 87) 44, type := _, pos := _, after := _, guard := _ } :: _) _ _; refine wpList_yields (S := fun _ => True) (y_seceq (by rfl) (by rfl) z512 z512 HL.out HL.out true (decide_eq_true rfl) (by rfl) (by rfl)) trivial ?_)
    | (go_at_call 4; refine (works_any _ HT4.out).mono ?_; rintro e w9 ⟨rfl, hb⟩; have B9 := Lib.hid (HB4.out.trans (hb.mono HB4.out.size)); clear hb))
  go_ret
  exact ⟨rfl, B9.out⟩
set_option maxRecDepth 100000 in
set_option maxHeartbeats 8000000 in
theorem walk_1100 (w : World) (hT : Tab w) (u : Oj) (x : Ky) (n : Int) (A : Option Addr) (m c : Nat) (f : Int) (b : Nat) (l : List UInt8) (hm : m ≤ 3000) (hn : l.length = m) (hr : Rd w A l) (hx : x.ok ∧ x.fit) (y : Ky) (hy : y.ok ∧ y.fit ∧ kbs y = l) (hu : ¬ u.ok n)
    (hgy : ∀ W, Tab W → Rd W A l → Calls Tryd.prog 7 #[.slice A m c] W fun e w' => e = .returned (.tuple #[y.val, .int .i64 0]) ∧ Below W.heap.size W w') :
    Calls Tryd.prog 3 #[u.val, x.val, .int .i64 n, .agg #[.slice A m c, .int .i64 f, .int .u32 (b : Int)]] w fun e w' => e = .returned (.bool true) ∧ Below w.heap.size w w' := by
  have hz := z45
  have hz2 := z34
  have hbl := oz_len
  have HT0 := Lib.hid (((hT.alloc (.cells u.cells.toArray 30)).alloc (.cells (kl x).toArray 26)).alloc (.cells #[.slice A m c, .int .i64 f, .int .u32 (b : Int)] 36))
  have HB0 := Lib.hid ((((Below.refl w.heap.size w).alloc (Nat.le_refl _) (.cells u.cells.toArray 30)).alloc (by simp) (.cells (kl x).toArray 26)).alloc (by simp; omega) (.cells #[.slice A m c, .int .i64 f, .int .u32 (b : Int)] 36))
  have HO0 := Lib.hid (((Blk.new w 30 u.cells.toArray).alloc (.cells (kl x).toArray 26)).alloc (.cells #[.slice A m c, .int .i64 f, .int .u32 (b : Int)] 36))
  have HK0 := Lib.hid ((Blk.new_of (w.alloc (.cells u.cells.toArray 30)) 26 (kl x).toArray (g := w.heap.size + 1) (by simp)).alloc (.cells #[.slice A m c, .int .i64 f, .int .u32 (b : Int)] 36))
  have HI0 := Lib.hid (Blk.new_of ((w.alloc (.cells u.cells.toArray 30)).alloc (.cells (kl x).toArray 26)) 36 #[.slice A m c, .int .i64 f, .int .u32 (b : Int)] (g := w.heap.size + 1 + 1) (by simp))
  have HTW := Lib.hid hT
  have HR := Lib.hid hr
  have HN := Lib.hid hn
  have HM := Lib.hid hm
  have hm1 : ¬ (3000 : Int) < (m : Int) := by omega
  have HX := Lib.hid hx
  have HY := Lib.hid hy
  have HU := Lib.hid hu
  have HGY := Lib.hid hgy
  have HL := Lib.hid (show z512.length = 512 from List.length_replicate)
  have HA := Lib.hid (show (Tryd.prog.info? 44).map (·.size) = some (bv z512).toArray.size by rw [List.size_toArray, bv_length, HL.out]; exact size45)
  have HZ := Lib.hid (show (bv z512).toArray.size = (bv z512).toArray.size from rfl)
  have HGX := Lib.hid (show good (kbs x) from ⟨kbs_length _, by rw [kof_kbs0 hx.2]; exact hx.1⟩)
  have HKX := Lib.hid (kof_kbs0 hx.2)
  have M0 := Lib.hid True.intro
  have M1 := Lib.hid True.intro
  have M2 := Lib.hid True.intro
  obtain ⟨c0, c1, c2, c3, c4, c5⟩ := Blk.six HK0.out
  have ki := (HI0.out.cell 0).trans (show _ = some (.slice A m c) from rfl)
  have hq : ((st (kbs y)).toList == (st l).toList) = true := st_beq hy.2.2
  clear hT hr hn hm hx hy hu hgy
  go_enter Tryd.func3, Tryd.ntmps3
  go_wp2_with (first
    | (go_at_call 5; clear M0; refine (putkey_yes x _ HT0.out HX.out.1 HX.out.2).mono ?_; rintro e w1 ⟨v, rfl, ho, hb⟩; obtain ⟨D1, cp1, rfl, hcp1, -, -, hrd, -⟩ := own_cell (by decide) ho; have HB1 := Lib.hid (HB0.out.trans (hb.mono HB0.out.size)); have HT1 := Lib.hid (HT0.out.below hb); have HO1 := Lib.hid (Blk.keep HO0.out hb); have HK1 := Lib.hid (Blk.keep HK0.out hb); have HI1 := Lib.hid (Blk.keep HI0.out hb); clear ki; have ki := (HI1.out.cell 0).trans (show _ = some (.slice A m c) from rfl); have R1 := Lib.hid hrd; clear c0 c1 c2 c3 c4 c5 hb ho hrd)
    | (go_at_call 6; refine (cnum_any _ _).mono ?_; rintro e y ⟨rfl, rfl⟩)
    | (go_at_call 7; clear M1; refine (getkey_yes (some ⟨D1, 0, none⟩) 20 cp1 (kbs x) _ HT1.out (kbs_length x) hcp1 R1.out HGX.out).mono ?_; rw [HKX.out]; rintro e w2 ⟨rfl, hb⟩; have HB2 := Lib.hid ((HB1.out.trans (hb.mono HB1.out.size)).alloc (Nat.le_trans HB1.out.size hb.size) (.cells #[.int .i64 x.k, .int .i64 x.o, .int .i64 x.c, .int .i64 x.l, .int .i64 x.r, .int .i64 x.v] 26)); have HT2 := Lib.hid ((HT1.out.below hb).alloc (.cells #[.int .i64 x.k, .int .i64 x.o, .int .i64 x.c, .int .i64 x.l, .int .i64 x.r, .int .i64 x.v] 26)); have HO2 := Lib.hid (Blk.alloc (Blk.keep HO1.out hb) (.cells #[.int .i64 x.k, .int .i64 x.o, .int .i64 x.c, .int .i64 x.l, .int .i64 x.r, .int .i64 x.v] 26)); have HK2 := Lib.hid (Blk.alloc (Blk.keep HK1.out hb) (.cells #[.int .i64 x.k, .int .i64 x.o, .int .i64 x.c, .int .i64 x.l, .int .i64 x.r, .int .i64 x.v] 26)); have HI2 := Lib.hid (Blk.alloc (Blk.keep HI1.out hb) (.cells #[.int .i64 x.k, .int .i64 x.o, .int .i64 x.c, .int .i64 x.l, .int .i64 x.r, .int .i64 x.v] 26)); clear ki; have ki := (HI2.out.cell 0).trans (show _ = some (.slice A m c) from rfl); clear hb; obtain ⟨c0, c1, c2, c3, c4, c5⟩ := Blk.six HK2.out)
    | (show wpList _ _ _ ({ dst := some 46, op := .binOp .neq 26 (.tmp 44) (.tmp 45) 26, type := _, pos := _, after := _, guard := _ } :: _) _ _; refine wpList_yields (S := fun _ => True) (y_kyne_self (by rfl) (by rfl) x (by rfl) (by rfl)) trivial ?_; clear c0 c1 c2 c3 c4 c5)
    | (go_at_call 7; refine (HGY.out _ HT2.out (HR.out.below HB2.out)).mono ?_; rintro e w3 ⟨rfl, hb⟩; have HB3 := Lib.hid ((HB2.out.trans (hb.mono HB2.out.size)).alloc (Nat.le_trans HB2.out.size hb.size) (.cells #[.int .i64 y.k, .int .i64 y.o, .int .i64 y.c, .int .i64 y.l, .int .i64 y.r, .int .i64 y.v] 26)); have HT3 := Lib.hid ((HT2.out.below hb).alloc (.cells #[.int .i64 y.k, .int .i64 y.o, .int .i64 y.c, .int .i64 y.l, .int .i64 y.r, .int .i64 y.v] 26)); have HO3 := Lib.hid (Blk.alloc (Blk.keep HO2.out hb) (.cells #[.int .i64 y.k, .int .i64 y.o, .int .i64 y.c, .int .i64 y.l, .int .i64 y.r, .int .i64 y.v] 26)); have HK3 := Lib.hid (Blk.alloc (Blk.keep HK2.out hb) (.cells #[.int .i64 y.k, .int .i64 y.o, .int .i64 y.c, .int .i64 y.l, .int .i64 y.r, .int .i64 y.v] 26)); have HI3 := Lib.hid (Blk.alloc (Blk.keep HI2.out hb) (.cells #[.int .i64 y.k, .int .i64 y.o, .int .i64 y.c, .int .i64 y.l, .int .i64 y.r, .int .i64 y.v] 26)); clear ki; have ki := (HI3.out.cell 0).trans (show _ = some (.slice A m c) from rfl); clear hb)
    | (go_at_call 5; refine (putkey_yes y _ HT3.out HY.out.1 HY.out.2.1).mono ?_; rintro e w4 ⟨v, rfl, ho, hb⟩; obtain ⟨D2, cp2, rfl, hcp2, -, -, hrd, -⟩ := own_cell (by decide) ho; have HB4 := Lib.hid (HB3.out.trans (hb.mono HB3.out.size)); have HT4 := Lib.hid (HT3.out.below hb); have HO4 := Lib.hid (Blk.keep HO3.out hb); have HK4 := Lib.hid (Blk.keep HK3.out hb); have HI4 := Lib.hid (Blk.keep HI3.out hb); clear ki; have ki := (HI4.out.cell 0).trans (show _ = some (.slice A m c) from rfl); have s1 := str26 (c := cp2) (kbs_length y) hrd; have s2 := str26 (c := c) HN.out (HR.out.below HB4.out); clear hb ho hrd)
    | (show wpList _ _ _ ({ dst := some 78, op := .load 30 (.tmp 4), type := _, pos := _, after := _, guard := _ } :: _) _ _; refine wpList_yields (S := fun w' => ObAt w' w.heap.size 0 u) (y_ob (by rfl) (.tmp 4) (by rfl) w.heap.size 0 (by rfl) u (fun _ h => h)) (HO4.out.ob) ?_)
    | (go_at_call 8; refine (cput_no u n _ HT4.out HU.out).mono ?_; rintro e w5 ⟨rfl, hb⟩; have HB5 := Lib.hid ((HB4.out.trans (hb.mono HB4.out.size)).alloc (Nat.le_trans HB4.out.size hb.size) (.cells (bv z512).toArray 44)); have HT5 := Lib.hid ((HT4.out.below hb).alloc (.cells (bv z512).toArray 44)); have HO5 := Lib.hid (Blk.alloc (Blk.keep HO4.out hb) (.cells (bv z512).toArray 44)); have HK5 := Lib.hid (Blk.alloc (Blk.keep HK4.out hb) (.cells (bv z512).toArray 44)); have HI5 := Lib.hid (Blk.alloc (Blk.keep HI4.out hb) (.cells (bv z512).toArray 44)); clear ki; have ki := (HI5.out.cell 0).trans (show _ = some (.slice A m c) from rfl); clear hb s1 s2; have HS5 := Lib.hid (Blk.new w5 44 (bv z512).toArray))
    | (show wpList _ _ _ ({ dst := none, op := .store 44 (.tmp 17) (.tmp 81), type := _, pos := _, after := _, guard := _ } :: _) _ _; refine wpList_store_new rfl 44 (.tmp 17) (.tmp 81) rfl w5.heap.size rfl rfl (bv z512).toArray (bv z512).toArray rfl HA.out (by first | exact HZ.out | rfl) (bv_all _) ?_)
    | (show wpList _ _ _ ({ dst := some 86, op := .load 44 (.tmp 17), type := _, pos := _, after := _, guard := _ } :: _) _ _; refine wpList_yields (S := fun w' => w'.rangeAt w5.heap.size 0 (bv z512)) (y_sec (by rfl) (.tmp 17) (by rfl) w5.heap.size 0 (by rfl) z512 HL.out (fun _ h => h)) (rd_range (rd_blk (HS5.out))) ?_)
    | (show wpList _ _ _ ({ dst := some 88, op := .binOp .eql 44 (.tmp 86) (.tmp 87) 44, type := _, pos := _, after := _, guard := _ } :: _) _ _; refine wpList_yields (S := fun _ => True) (y_seceq (by rfl) (by rfl) z512 z512 HL.out HL.out true (decide_eq_true rfl) (by rfl) (by rfl)) trivial ?_)
    | (go_at_call 4; refine (works_any _ HT5.out).mono ?_; rintro e w9 ⟨rfl, hb⟩; have B9 := Lib.hid (HB5.out.trans (hb.mono HB5.out.size)); clear hb))
  go_ret
  exact ⟨rfl, B9.out⟩
end Go.Proofs.YtfclkkbmgclfgaaDoor.codecBack

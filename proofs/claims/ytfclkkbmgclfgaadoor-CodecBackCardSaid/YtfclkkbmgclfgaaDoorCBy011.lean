/- The law CodecBack returns true for every input: keys and objects are read as they were told, what is read is told in the same bytes, and a sector in which up to 32 bits in a row are turned is none. No condition but that the listed variables read as the program's own text lays them; the card ties them to it. -/
import Derived.Test.YtfclkkbmgclfgaaDoorFsq
import Derived.Test.YtfclkkbmgclfgaaDoorRegIn
import Derived.StillTailTactics
namespace Go.Proofs.YtfclkkbmgclfgaaDoor.codecBack
open Go.ChangeShapes Go.WideShapes Go.ChangeAt Go.RowKit
attribute [local go_sem] Oper.semAt_some
set_option maxRecDepth 100000 in
set_option maxHeartbeats 8000000 in
theorem walk_0111 (w : World) (hT : Tab w) (u : Oj) (x : Ky) (n : Int) (A : Option Addr) (m c : Nat) (f : Nat) (b : Nat) (l : List UInt8) (hm : m ≤ 3000) (hn : l.length = m) (hr : Rd w A l) (hx : ¬ x.ok) (y : Ky) (hy : y.ok ∧ y.fit ∧ kbs y = l) (hu : u.ok n ∧ u.fit) (hb : b < 4294967296) (hf : f < 4096)
    (hgy : ∀ W, Tab W → Rd W A l → Calls Tryd.prog 7 #[.slice A m c] W fun e w' => e = .returned (.tuple #[y.val, .int .i64 0]) ∧ Below W.heap.size W w') :
    Calls Tryd.prog 3 #[u.val, x.val, .int .i64 n, .agg #[.slice A m c, .int .i64 (f : Int), .int .u32 (b : Int)]] w fun e w' => e = .returned (.bool true) ∧ Below w.heap.size w w' := by
  have hz := z45
  have hz2 := z34
  have hbl := oz_len
  have HT0 := Lib.hid (((hT.alloc (.cells u.cells.toArray 30)).alloc (.cells (kl x).toArray 26)).alloc (.cells #[.slice A m c, .int .i64 (f : Int), .int .u32 (b : Int)] 36))
  have HB0 := Lib.hid ((((Below.refl w.heap.size w).alloc (Nat.le_refl _) (.cells u.cells.toArray 30)).alloc (by simp) (.cells (kl x).toArray 26)).alloc (by simp; omega) (.cells #[.slice A m c, .int .i64 (f : Int), .int .u32 (b : Int)] 36))
  have HO0 := Lib.hid (((Blk.new w 30 u.cells.toArray).alloc (.cells (kl x).toArray 26)).alloc (.cells #[.slice A m c, .int .i64 (f : Int), .int .u32 (b : Int)] 36))
  have HK0 := Lib.hid ((Blk.new_of (w.alloc (.cells u.cells.toArray 30)) 26 (kl x).toArray (g := w.heap.size + 1) (by simp)).alloc (.cells #[.slice A m c, .int .i64 (f : Int), .int .u32 (b : Int)] 36))
  have HI0 := Lib.hid (Blk.new_of ((w.alloc (.cells u.cells.toArray 30)).alloc (.cells (kl x).toArray 26)) 36 #[.slice A m c, .int .i64 (f : Int), .int .u32 (b : Int)] (g := w.heap.size + 1 + 1) (by simp))
  have HTW := Lib.hid hT
  have HR := Lib.hid hr
  have HN := Lib.hid hn
  have HM := Lib.hid hm
  have hm1 : ¬ (3000 : Int) < (m : Int) := by omega
  have HX := Lib.hid hx
  have HY := Lib.hid hy
  have HU := Lib.hid hu
  have HGY := Lib.hid hgy
  have HL := Lib.hid (show (sealN (obs u)).length = 512 from sealed_len u)
  have HA := Lib.hid (show (Tryd.prog.info? 44).map (·.size) = some (bv (sealN (obs u))).toArray.size by rw [List.size_toArray, bv_length, HL.out]; exact size45)
  have HZ := Lib.hid (show (bv z512).toArray.size = (bv (sealN (obs u))).toArray.size by rw [List.size_toArray, List.size_toArray, bv_length, bv_length, HL.out]; rfl)
  have HGO := Lib.hid (put_get hu.1 hu.2)
  have HOB := Lib.hid (show obof ((sealN (obs u)).take 508) = u by rw [seal_take (obs_length u), obof_obs hu.2])
  have HF := Lib.hid hf
  have HBB := Lib.hid hb
  clear hf hb
  have M0 := Lib.hid True.intro
  have M1 := Lib.hid True.intro
  have M2 := Lib.hid True.intro
  obtain ⟨c0, c1, c2, c3, c4, c5⟩ := Blk.six HK0.out
  have ki := (HI0.out.cell 0).trans (show _ = some (.slice A m c) from rfl)
  have hq : ((st (kbs y)).toList == (st l).toList) = true := st_beq hy.2.2
  clear hT hr hn hm hx hy hu hgy
  go_enter Tryd.func3, Tryd.ntmps3
  go_wp2_with (first
    | (go_at_call 5; clear M0; refine (putkey_no x _ HT0.out HX.out).mono ?_; rintro e w1 ⟨rfl, hb⟩; have HB1 := Lib.hid (HB0.out.trans (hb.mono HB0.out.size)); have HT1 := Lib.hid (HT0.out.below hb); have HO1 := Lib.hid (Blk.keep HO0.out hb); have HK1 := Lib.hid (Blk.keep HK0.out hb); have HI1 := Lib.hid (Blk.keep HI0.out hb); clear ki; have ki := (HI1.out.cell 0).trans (show _ = some (.slice A m c) from rfl); clear c0 c1 c2 c3 c4 c5 hb)
    | (go_at_call 6; refine (cnum_any _ _).mono ?_; rintro e y ⟨rfl, rfl⟩)
    | (go_at_call 7; refine (HGY.out _ HT1.out (HR.out.below HB1.out)).mono ?_; rintro e w2 ⟨rfl, hb⟩; have HB2 := Lib.hid ((HB1.out.trans (hb.mono HB1.out.size)).alloc (Nat.le_trans HB1.out.size hb.size) (.cells #[.int .i64 y.k, .int .i64 y.o, .int .i64 y.c, .int .i64 y.l, .int .i64 y.r, .int .i64 y.v] 26)); have HT2 := Lib.hid ((HT1.out.below hb).alloc (.cells #[.int .i64 y.k, .int .i64 y.o, .int .i64 y.c, .int .i64 y.l, .int .i64 y.r, .int .i64 y.v] 26)); have HO2 := Lib.hid (Blk.alloc (Blk.keep HO1.out hb) (.cells #[.int .i64 y.k, .int .i64 y.o, .int .i64 y.c, .int .i64 y.l, .int .i64 y.r, .int .i64 y.v] 26)); have HK2 := Lib.hid (Blk.alloc (Blk.keep HK1.out hb) (.cells #[.int .i64 y.k, .int .i64 y.o, .int .i64 y.c, .int .i64 y.l, .int .i64 y.r, .int .i64 y.v] 26)); have HI2 := Lib.hid (Blk.alloc (Blk.keep HI1.out hb) (.cells #[.int .i64 y.k, .int .i64 y.o, .int .i64 y.c, .int .i64 y.l, .int .i64 y.r, .int .i64 y.v] 26)); clear ki; have ki := (HI2.out.cell 0).trans (show _ = some (.slice A m c) from rfl); clear hb)
    | (go_at_call 5; refine (putkey_yes y _ HT2.out HY.out.1 HY.out.2.1).mono ?_; rintro e w3 ⟨v, rfl, ho, hb⟩; obtain ⟨D2, cp2, rfl, hcp2, -, -, hrd, -⟩ := own_cell (by decide) ho; have HB3 := Lib.hid (HB2.out.trans (hb.mono HB2.out.size)); have HT3 := Lib.hid (HT2.out.below hb); have HO3 := Lib.hid (Blk.keep HO2.out hb); have HK3 := Lib.hid (Blk.keep HK2.out hb); have HI3 := Lib.hid (Blk.keep HI2.out hb); clear ki; have ki := (HI3.out.cell 0).trans (show _ = some (.slice A m c) from rfl); have s1 := str26 (c := cp2) (kbs_length y) hrd; have s2 := str26 (c := c) HN.out (HR.out.below HB3.out); clear hb ho hrd)
    | (show wpList _ _ _ ({ dst := some 78, op := .load 30 (.tmp 4), type := _, pos := _, after := _, guard := _ } :: _) _ _; refine wpList_yields (S := fun w' => ObAt w' w.heap.size 0 u) (y_ob (by rfl) (.tmp 4) (by rfl) w.heap.size 0 (by rfl) u (fun _ h => h)) (HO3.out.ob) ?_)
    | (go_at_call 8; refine (cput_yes u n _ HT3.out HU.out.1 HU.out.2).mono ?_; rintro e w4 ⟨rfl, hb⟩; have HB4 := Lib.hid ((HB3.out.trans (hb.mono HB3.out.size)).alloc (Nat.le_trans HB3.out.size hb.size) (.cells (bv (sealN (obs u))).toArray 44)); have HT4 := Lib.hid ((HT3.out.below hb).alloc (.cells (bv (sealN (obs u))).toArray 44)); have HO4 := Lib.hid (Blk.alloc (Blk.keep HO3.out hb) (.cells (bv (sealN (obs u))).toArray 44)); have HK4 := Lib.hid (Blk.alloc (Blk.keep HK3.out hb) (.cells (bv (sealN (obs u))).toArray 44)); have HI4 := Lib.hid (Blk.alloc (Blk.keep HI3.out hb) (.cells (bv (sealN (obs u))).toArray 44)); clear ki; have ki := (HI4.out.cell 0).trans (show _ = some (.slice A m c) from rfl); clear hb s1 s2; have HS4 := Lib.hid (Blk.new w4 44 (bv (sealN (obs u))).toArray))
    | (show wpList _ _ _ ({ dst := none, op := .store 44 (.tmp 17) (.tmp 81), type := _, pos := _, after := _, guard := _ } :: _) _ _; refine wpList_store_new rfl 44 (.tmp 17) (.tmp 81) rfl w4.heap.size rfl rfl (bv (sealN (obs u))).toArray (bv z512).toArray rfl HA.out (by first | exact HZ.out | rfl) (bv_all _) ?_)
    | (show wpList _ _ _ ({ dst := some 93, op := .load 44 (.tmp 17), type := _, pos := _, after := _, guard := _ } :: _) _ _; refine wpList_yields (S := fun w' => w'.rangeAt w4.heap.size 0 (bv (sealN (obs u)))) (y_sec (by rfl) (.tmp 17) (by rfl) w4.heap.size 0 (by rfl) (sealN (obs u)) HL.out (fun _ h => h)) (rd_range (rd_blk (HS4.out))) ?_)
    | (go_at_call 9; clear M2; refine (cget_yes (sealN (obs u)) HL.out n _ HT4.out HU.out.1.1 (seal_ok (obs_length u)) HGO.out).mono ?_; rw [HOB.out]; rintro e w5 ⟨rfl, hb⟩; have HB5 := Lib.hid ((HB4.out.trans (hb.mono HB4.out.size)).alloc (Nat.le_trans HB4.out.size hb.size) (.cells u.cells.toArray 30)); have HT5 := Lib.hid ((HT4.out.below hb).alloc (.cells u.cells.toArray 30)); have HO5 := Lib.hid (Blk.alloc (Blk.keep HO4.out hb) (.cells u.cells.toArray 30)); have HK5 := Lib.hid (Blk.alloc (Blk.keep HK4.out hb) (.cells u.cells.toArray 30)); have HI5 := Lib.hid (Blk.alloc (Blk.keep HI4.out hb) (.cells u.cells.toArray 30)); have HS5 := Lib.hid (Blk.alloc (Blk.keep HS4.out hb) (.cells u.cells.toArray 30)); clear ki; have ki := (HI5.out.cell 0).trans (show _ = some (.slice A m c) from rfl); clear hb)
    | (show wpList _ _ _ ({ dst := none, op := .store 30 (.tmp 19) (.tmp 96), type := _, pos := _, after := _, guard := _ } :: _) _ _; refine wpList_store_new rfl 30 (.tmp 19) (.tmp 96) rfl w5.heap.size rfl rfl u.cells.toArray oz.cells.toArray rfl (by rw [List.size_toArray, Oj.len]; exact size34) (by simp only [List.size_toArray, Oj.len]) (Oj.allOne _) ?_)
    | (show wpList _ _ _ ({ dst := some 98, op := .load 30 (.tmp 19), type := _, pos := _, after := _, guard := _ } :: _) _ _; refine wpList_yields (S := fun w' => ObAt w' w5.heap.size 0 u) (y_ob (by rfl) (.tmp 19) (by rfl) w5.heap.size 0 (by rfl) u (fun _ h => h)) (Blk.ob (Blk.new w5 30 u.cells.toArray)) ?_)
    | (show wpList _ _ _ ({ dst := some 99, op := .load 30 (.tmp 4), type := _, pos := _, after := _, guard := _ } :: _) _ _; refine wpList_yields (S := fun w' => ObAt w' w.heap.size 0 u) (y_ob (by rfl) (.tmp 4) (by rfl) w.heap.size 0 (by rfl) u (fun _ h => h)) (HO5.out.ob) ?_)
    | (show wpList _ _ _ ({ dst := some 100, op := .binOp .neq 30 (.tmp 98) (.tmp 99) 30, type := _, pos := _, after := _, guard := _ } :: _) _ _; refine wpList_yields (S := fun _ => True) (y_obne_self (by rfl) (by rfl) u (by rfl) (by rfl)) trivial ?_)
    | (show wpList _ _ _ ({ dst := some 106, op := .load 44 (.tmp 17), type := _, pos := _, after := _, guard := _ } :: _) _ _; refine wpList_yields (S := fun w' => w'.rangeAt w4.heap.size 0 (bv (sealN (obs u)))) (y_sec (by rfl) (.tmp 17) (by rfl) w4.heap.size 0 (by rfl) (sealN (obs u)) HL.out (fun _ h => h)) (rd_range (rd_blk (HS5.out))) ?_)
    | (show wpList _ _ _ ({ dst := none, op := .store 44 (.tmp 21) (.tmp 106), type := _, pos := _, after := _, guard := _ } :: _) _ _; refine wpList_store_new rfl 44 (.tmp 21) (.tmp 106) rfl (w5.heap.size + 1) (by simp) rfl (bv (sealN (obs u))).toArray (bv z512).toArray rfl HA.out HZ.out (bv_all _) ?_))
  clear ki
  have LB := Lib.hid (HB5.out.alloc (by have := HB5.out.size; exact this) (.cells (bv (sealN (obs u))).toArray 44))
  have LT := Lib.hid (HT5.out.alloc (.cells (bv (sealN (obs u))).toArray 44))
  have LI := Lib.hid (HI5.out.alloc (.cells (bv (sealN (obs u))).toArray 44))
  have LS := Lib.hid (HS5.out.alloc (.cells (bv (sealN (obs u))).toArray 44))
  have LW := Lib.hid (Blk.new_of (w5.alloc (.cells u.cells.toArray 30)) 44 (bv (sealN (obs u))).toArray (g := w5.heap.size + 1) (by simp))
  have LNE := Lib.hid (show w4.heap.size ≠ w5.heap.size + 1 by have := HS5.out.lt; have h2 := World.size_alloc w5 (.cells u.cells.toArray 30); omega)
  have LNI := Lib.hid (show w4.heap.size ≠ w.heap.size + 1 + 1 ∧ w.heap.size ≤ w4.heap.size from ⟨fun e => (by have h1 := HS4.out; have h2 := HI4.out; rw [e] at h1; unfold Blk at h1 h2; rw [h1] at h2; cases h2), by have h2 := HI4.out.lt; rw [World.size_alloc] at h2; omega⟩)
  generalize ((w5.alloc (.cells u.cells.toArray 30)).alloc (.cells (bv (sealN (obs u))).toArray 44)) = W5 at LB LT LI LS LW ⊢
  obtain ⟨L, hL⟩ : ∃ L, L = (sealN (obs u)) := ⟨_, rfl⟩
  rw [← hL] at LS LW HL
  have HOK := Lib.hid (show sumok L by rw [hL]; exact seal_ok (obs_length u))
  have HGK := Lib.hid (show Gok n L by rw [hL]; exact HGO.out)
  have HOBL := Lib.hid (show obof (L.take 508) = u by rw [hL]; exact HOB.out)
  clear hL HA HZ
  have hf0 : (0 : Int) ≤ (f : Int) := by omega
  have hf1 : (f : Int) < 4096 := by have := HF.out; omega
  go_loopw [22] (fun i wr => ∃ (k B : Nat) (S : List UInt8), k ≤ 32 ∧ i = .int .i64 (k : Int) ∧ B < 2 ^ k ∧ S.length = 512 ∧ numLE S = numLE L ^^^ (2 ^ f * B) ∧ Blk wr w4.heap.size 44 (bv S).toArray ∧ Blk wr (w5.heap.size + 1) 44 (bv L).toArray ∧ Below w.heap.size w wr ∧ Tab wr ∧ Blk wr (w.heap.size + 1 + 1) 36 #[.slice A m c, .int .i64 (f : Int), .int .u32 (b : Int)]) (fun i _ => 32 - (intOf i).toNat)
  case atStart => exact ⟨0, 0, L, by omega, rfl, by simp, HL.out, by simp, LS.out, LW.out, LB.out, LT.out, LI.out⟩
  case round =>
    obtain ⟨k, B, S, hk, rfl, hB, hSl, hSn, hs, hw, hbl2, ht, hi⟩ := hrel
    have HBk := Lib.hid hB
    have HSl := Lib.hid hSl
    have HSn := Lib.hid hSn
    have QS := Lib.hid hs
    have QW := Lib.hid hw
    have QB := Lib.hid hbl2
    have QT := Lib.hid ht
    have QI := Lib.hid hi
    have p1 := (hi.cell 1).trans (show _ = some (.int .i64 (f : Int)) from rfl)
    have p2 := (hi.cell 2).trans (show _ = some (.int .u32 (b : Int)) from rfl)
    have hbd : (0 : Int) ≤ (b : Int) / 2 ^ k := Int.ediv_nonneg (by omega) (by exact_mod_cast Nat.zero_le _)
    clear hB hSl hSn hs hw hbl2 ht hi
    by_cases hlt : k < 32
    · by_cases hbit : ((b : Int) / 2 ^ k % 2 == 1) = true
      · by_cases hat : (f : Int) + (k : Int) < 4096
        · have hq : (f + k) / 8 < 512 := by omega
          have hd1 : ((f : Int) + (k : Int)).tdiv 8 = (((f + k) / 8 : Nat) : Int) := by rw [Int.tdiv_eq_ediv_of_nonneg (by omega)]; omega
          have hd2 : ((f : Int) + (k : Int)).tmod 8 = (((f + k) % 8 : Nat) : Int) := by rw [Int.tmod_eq_emod_of_nonneg (by omega)]; omega
          have hr8 : (f + k) % 8 < 8 := Nat.mod_lt _ (by omega)
          obtain ⟨q, hqe⟩ : ∃ q, q = (f + k) / 8 := ⟨_, rfl⟩
          obtain ⟨r, hre⟩ : ∃ r, r = (f + k) % 8 := ⟨_, rfl⟩
          rw [← hqe] at hd1 hq
          rw [← hre] at hd2 hr8
          have hqS : q < S.length := by rw [HSl.out]; exact hq
          have HQS := Lib.hid hqS
          have hc' : wr.cell? ⟨w4.heap.size, q, none⟩ = some (.int .u8 ((S[q]'HQS.out).toNat : Int)) := by rw [QS.out.cell, List.getElem?_toArray, bv_get, List.getElem?_eq_getElem hqS]; rfl
          have hf' := QS.out.frozen q
          have hw1 : IntKind.i64.wrap (q : Int) = (q : Int) := wrap_i64_of _ (by omega) (by omega)
          have hw2 : IntKind.i64.wrap (r : Int) = (r : Int) := wrap_i64_of _ (by omega) (by omega)
          have HQ := Lib.hid hqe
          have HR8 := Lib.hid hre
          have HRL := Lib.hid hr8
          have hi0 : (0 : Int) ≤ (q : Int) := by omega
          have hi1 : (q : Int) < 512 := by omega
          have hi3 : (0 : Int) ≤ (r : Int) := by omega
          have hi4 : (r : Int) < 8 := by omega
          clear hqe hre hqS
          go_wp2
          go_still_tail 11, (by kernel_rfl)
          change wpList _ _ _ _ _ wr.drew
          obtain ⟨y', hy'⟩ : ∃ y', y' = (S[q]'HQS.out) ^^^ UInt8.ofNat (2 ^ r) := ⟨_, rfl⟩
          have hxv := xor_u8 (S[q]'HQS.out) r hr8
          rw [← hy'] at hxv
          have HY2 := Lib.hid hy'
          clear hy'
          have hfd : wr.drew.frozen? ⟨w4.heap.size, q, none⟩ = false := hf'
          have hcd : wr.drew.cell? ⟨w4.heap.size, q, none⟩ = some (.int .u8 ((S[q]'HQS.out).toNat : Int)) := hc'
          clear hd1 hd2 hw1 hw2
          go_wp2
          go_roundw
          case rel =>
            have h1 := (Blk.drew QS.out).set_ q (.int .u8 (y'.toNat : Int))
            rw [List.setIfInBounds_toArray, bv_set S q y' HQS.out] at h1
            refine ⟨k + 1, 2 ^ k + B, S.set q y', by omega, by go_num, ?_, by rw [List.length_set]; exact HSl.out, ?_, h1, (Blk.drew QW.out).far (by have := LNE.out; simp only; omega) _, (Below.drew QB.out).setCell (p := ⟨w4.heap.size, q, none⟩) LNI.out.2 _, ?_, (Blk.drew QI.out).far (by have := LNI.out.1; simp only; omega) _⟩
            · have := HBk.out
              rw [Nat.pow_succ]
              omega
            · rw [HY2.out]
              exact burst_step HQS.out HQ.out HR8.out hr8 HBk.out HSn.out
            · exact HTW.out.below ((Below.drew QB.out).setCell (p := ⟨w4.heap.size, q, none⟩) LNI.out.2 _)
          case measure => simp [intOf]; omega
        · have hat' : decide ((f : Int) + (k : Int) < 4096) = false := decide_eq_false hat
          clear hat
          go_wp2
          go_roundw
          case rel => exact ⟨k + 1, B, S, by omega, by go_num, by have := HBk.out; rw [Nat.pow_succ]; omega, HSl.out, HSn.out, QS.out, QW.out, QB.out, QT.out, QI.out⟩
          case measure => simp [intOf]; omega
      · have hbit' : ((b : Int) / 2 ^ k % 2 == 1) = false := by simpa using hbit
        clear hbit
        go_wp2
        go_roundw
        case rel => exact ⟨k + 1, B, S, by omega, by go_num, by have := HBk.out; rw [Nat.pow_succ]; omega, HSl.out, HSn.out, QS.out, QW.out, QB.out, QT.out, QI.out⟩
        case measure => simp [intOf]; omega
    · obtain rfl : k = 32 := by omega
      have hend := burst_end HL.out HSl.out HOK.out HSn.out (by have := HF.out; omega) (by have := HBk.out; have := HBB.out; omega)
      clear p1 p2 hbd
      rcases hend with he | he
      · have hq0 : ((0 : Int) == 150) = false := rfl
        rw [he] at QS
        have HOB2 := Lib.hid (show obof (L.take 508) = u from HOBL.out)
        go_wp2_with (first
          | (show wpList _ _ _ ({ dst := some 151, op := .load 44 (.tmp 17), type := _, pos := _, after := _, guard := _ } :: _) _ _; refine wpList_yields (S := fun w' => w'.rangeAt w4.heap.size 0 (bv L)) (y_sec (by rfl) (.tmp 17) (by rfl) w4.heap.size 0 (by rfl) L HL.out (fun _ h => h)) (rd_range (rd_blk QS.out)) ?_)
          | (go_at_call 9; refine (cget_yes L HL.out n _ QT.out HU.out.1.1 HOK.out HGK.out).mono ?_; rw [HOB2.out]; rintro e w8 ⟨rfl, hb⟩; have HB8 := Lib.hid ((QB.out.trans (hb.mono QB.out.size)).alloc (Nat.le_trans QB.out.size hb.size) (.cells u.cells.toArray 30)); have HT8 := Lib.hid ((QT.out.below hb).alloc (.cells u.cells.toArray 30)); have HS8 := Lib.hid (Blk.alloc (Blk.keep QS.out hb) (.cells u.cells.toArray 30)); have HW8 := Lib.hid (Blk.alloc (Blk.keep QW.out hb) (.cells u.cells.toArray 30)); clear hb)
          | (show wpList _ _ _ ({ dst := none, op := .store 30 (.tmp 24) (.tmp 154), type := _, pos := _, after := _, guard := _ } :: _) _ _; refine wpList_store_new rfl 30 (.tmp 24) (.tmp 154) rfl w8.heap.size rfl rfl u.cells.toArray oz.cells.toArray rfl (by rw [List.size_toArray, Oj.len]; exact size34) (by simp only [List.size_toArray, Oj.len]) (Oj.allOne _) ?_))
        have SB := Lib.hid HB8.out
        generalize w8.alloc (.cells u.cells.toArray 30) = W8 at HB8 HT8 HS8 HW8 SB ⊢
        refine wp_region_only (S := fun w' => w'.rangeAt w4.heap.size 0 (bv L) ∧ w'.rangeAt (w5.heap.size + 1) 0 (bv L)) (by kernel_rfl) ⟨rd_range (rd_blk (Blk.drew HS8.out)), rd_range (rd_blk (Blk.drew HW8.out))⟩ (fun hHeld => ?_)
        refine wpAnyH_take (i := 0) (v := ?v25) rfl (by kernel_rfl) (by kernel_rfl) (by kernel_rfl) (fun _ _ _ h => h) (Or.inl ⟨by rfl, ?hy25⟩) hHeld ?rest25
        case hy25 =>
          intro w' hSw
          try dsimp only at hSw
          go_simp
          first | done | with_reducible rfl
        try simp only [Act.put, List.getElem_toArray, List.getElem_cons_zero, List.setIfInBounds_toArray, List.set_cons_zero, List.set_cons_succ]
        refine wpAnyH_take (i := 3) rfl (by kernel_rfl) (by kernel_rfl) (by kernel_rfl) (fun _ _ _ h => h) (y_sec (by rfl) (.tmp 17) (by rfl) w4.heap.size 0 (by rfl) L HL.out (fun _ h => h.1)) hHeld ?_
        try simp only [Act.put, List.getElem_toArray, List.getElem_cons_succ, List.getElem_cons_zero, List.setIfInBounds_toArray, List.set_cons_zero, List.set_cons_succ]
        refine wpAnyH_take (i := 4) rfl (by kernel_rfl) (by kernel_rfl) (by kernel_rfl) (fun _ _ _ h => h) (y_sec (by rfl) (.tmp 21) (by rfl) (w5.heap.size + 1) 0 (by rfl) L HL.out (fun _ h => h.2)) hHeld ?_
        try simp only [Act.put, List.getElem_toArray, List.getElem_cons_succ, List.getElem_cons_zero, List.setIfInBounds_toArray, List.set_cons_zero, List.set_cons_succ]
        refine wpAnyH_take (i := 5) rfl (by kernel_rfl) (by kernel_rfl) (by kernel_rfl) (fun _ _ _ h => h) (y_secne (by rfl) (by rfl) L L HL.out HL.out false (by simp) (by rfl) (by rfl)) hHeld ?_
        try simp only [Act.put, List.getElem_toArray, List.getElem_cons_succ, List.getElem_cons_zero, List.setIfInBounds_toArray, List.set_cons_zero, List.set_cons_succ]
        refine wpAnyH_ready (rs := [1]) (by kernel_rfl) (by simp) ?_
        refine AllReadyH.cons (by rfl) (fun K hK => ?_) AllReadyH.nil
        go_simp
        refine (cnum_any _ _).mono ?_
        rintro e y1 ⟨rfl, rfl⟩
        clear hHeld
        go_wp2_with fail
        refine hK.out _ _ ⟨rd_range (rd_blk (Blk.drew HS8.out)), rd_range (rd_blk (Blk.drew HW8.out))⟩ (fun hHeld => ?_)
        clear hK K
        try simp only [Act.put, List.getElem_toArray, List.getElem_cons_succ, List.getElem_cons_zero, List.setIfInBounds_toArray, List.set_cons_zero, List.set_cons_succ]
        refine wpAnyH_take (i := 2) (v := ?v26) rfl (by kernel_rfl) (by kernel_rfl) (by kernel_rfl) (fun _ _ _ h => h) (Or.inl ⟨by rfl, ?hy26⟩) hHeld ?rest26
        case hy26 =>
          intro w' hSw
          try dsimp only at hSw
          go_simp
          first | done | with_reducible rfl
        try simp only [Act.put, List.getElem_toArray, List.getElem_cons_succ, List.getElem_cons_zero, List.setIfInBounds_toArray, List.set_cons_zero, List.set_cons_succ]
        refine wpAnyH_take (i := 6) (v := ?v27) rfl (by kernel_rfl) (by kernel_rfl) (by kernel_rfl) (fun _ _ _ h => h) (Or.inl ⟨by rfl, ?hy27⟩) hHeld ?rest27
        case hy27 =>
          intro w' hSw
          try dsimp only at hSw
          go_simp
          first | done | with_reducible rfl
        try simp only [Act.put, List.getElem_toArray, List.getElem_cons_succ, List.getElem_cons_zero, List.setIfInBounds_toArray, List.set_cons_zero, List.set_cons_succ]
        refine wpAnyH_take (i := 7) (v := ?v28) rfl (by kernel_rfl) (by kernel_rfl) (by kernel_rfl) (fun _ _ _ h => h) (Or.inl ⟨by rfl, ?hy28⟩) hHeld ?rest28
        case hy28 =>
          intro w' hSw
          try dsimp only at hSw
          go_simp
          first | done | with_reducible rfl
        try simp only [Act.put, List.getElem_toArray, List.getElem_cons_succ, List.getElem_cons_zero, List.setIfInBounds_toArray, List.set_cons_zero, List.set_cons_succ]
        refine wpAnyH_ready (rs := [8]) (by kernel_rfl) (by simp) ?_
        refine AllReadyH.cons (by rfl) (fun K hK => ?_) AllReadyH.nil
        go_simp
        refine (works_any _ HT8.out.drew).mono ?_
        rintro e y2 ⟨rfl, b2⟩
        have B9 := Lib.hid (HB8.out.drew.trans (b2.mono HB8.out.size))
        have X9 := Lib.hid (Blk.keep (Blk.drew HS8.out) b2)
        have Y9 := Lib.hid (Blk.keep (Blk.drew HW8.out) b2)
        clear b2 hHeld
        go_wp2_with fail
        refine hK.out _ _ ⟨rd_range (rd_blk X9.out), rd_range (rd_blk Y9.out)⟩ (fun hHeld => ?_)
        clear hK K
        try simp only [Act.put, List.getElem_toArray, List.getElem_cons_succ, List.getElem_cons_zero, List.setIfInBounds_toArray, List.set_cons_zero, List.set_cons_succ]
        refine wpAnyH_take (i := 9) (v := ?v29) rfl (by kernel_rfl) (by kernel_rfl) (by kernel_rfl) (fun _ _ _ h => h) (Or.inl ⟨by rfl, ?hy29⟩) hHeld ?rest29
        case hy29 =>
          intro w' hSw
          try dsimp only at hSw
          go_simp
          first | done | with_reducible rfl
        try simp only [Act.put, List.getElem_toArray, List.getElem_cons_succ, List.getElem_cons_zero, List.setIfInBounds_toArray, List.set_cons_zero, List.set_cons_succ]
        refine wpAnyH_take (i := 10) (v := ?v30) rfl (by kernel_rfl) (by kernel_rfl) (by kernel_rfl) (fun _ _ _ h => h) (Or.inl ⟨by rfl, ?hy30⟩) hHeld ?rest30
        case hy30 =>
          intro w' hSw
          try dsimp only at hSw
          go_simp
          first | done | with_reducible rfl
        try simp only [Act.put, List.getElem_toArray, List.getElem_cons_succ, List.getElem_cons_zero, List.setIfInBounds_toArray, List.set_cons_zero, List.set_cons_succ]
        refine wpAnyH_done (by kernel_rfl) ?_ _
        refine OnlyN.normal ?_
        clear hHeld
        go_wp2
        go_ret
        exact ⟨rfl, B9.out⟩
      · have hq0 : ((150 : Int) == 150) = true := rfl
        have HNE := Lib.hid he.1
        go_wp2_with (first
          | (show wpList _ _ _ ({ dst := some 151, op := .load 44 (.tmp 17), type := _, pos := _, after := _, guard := _ } :: _) _ _; refine wpList_yields (S := fun w' => w'.rangeAt w4.heap.size 0 (bv S)) (y_sec (by rfl) (.tmp 17) (by rfl) w4.heap.size 0 (by rfl) S HSl.out (fun _ h => h)) (rd_range (rd_blk QS.out)) ?_)
          | (go_at_call 9; refine (cget_no S HSl.out n 150 _ QT.out (.inr (.inl ⟨HU.out.1.1, he.2, rfl⟩))).mono ?_; rintro e w8 ⟨rfl, hb⟩; have HB8 := Lib.hid ((QB.out.trans (hb.mono QB.out.size)).alloc (Nat.le_trans QB.out.size hb.size) (.cells oz.cells.toArray 30)); have HT8 := Lib.hid ((QT.out.below hb).alloc (.cells oz.cells.toArray 30)); have HS8 := Lib.hid (Blk.alloc (Blk.keep QS.out hb) (.cells oz.cells.toArray 30)); have HW8 := Lib.hid (Blk.alloc (Blk.keep QW.out hb) (.cells oz.cells.toArray 30)); clear hb)
          | (show wpList _ _ _ ({ dst := none, op := .store 30 (.tmp 24) (.tmp 154), type := _, pos := _, after := _, guard := _ } :: _) _ _; refine wpList_store_new rfl 30 (.tmp 24) (.tmp 154) rfl w8.heap.size rfl rfl oz.cells.toArray oz.cells.toArray rfl (by rw [List.size_toArray, Oj.len]; exact size34) (by simp only [List.size_toArray, Oj.len]) (Oj.allOne _) ?_))
        have SB := Lib.hid HB8.out
        generalize w8.alloc (.cells oz.cells.toArray 30) = W8 at HB8 HT8 HS8 HW8 SB ⊢
        refine wp_region_only (S := fun w' => w'.rangeAt w4.heap.size 0 (bv S) ∧ w'.rangeAt (w5.heap.size + 1) 0 (bv L)) (by kernel_rfl) ⟨rd_range (rd_blk (Blk.drew HS8.out)), rd_range (rd_blk (Blk.drew HW8.out))⟩ (fun hHeld => ?_)
        refine wpAnyH_take (i := 0) (v := ?v31) rfl (by kernel_rfl) (by kernel_rfl) (by kernel_rfl) (fun _ _ _ h => h) (Or.inl ⟨by rfl, ?hy31⟩) hHeld ?rest31
        case hy31 =>
          intro w' hSw
          try dsimp only at hSw
          go_simp
          first | done | with_reducible rfl
        try simp only [Act.put, List.getElem_toArray, List.getElem_cons_zero, List.setIfInBounds_toArray, List.set_cons_zero, List.set_cons_succ]
        refine wpAnyH_take (i := 3) rfl (by kernel_rfl) (by kernel_rfl) (by kernel_rfl) (fun _ _ _ h => h) (y_sec (by rfl) (.tmp 17) (by rfl) w4.heap.size 0 (by rfl) S HSl.out (fun _ h => h.1)) hHeld ?_
        try simp only [Act.put, List.getElem_toArray, List.getElem_cons_succ, List.getElem_cons_zero, List.setIfInBounds_toArray, List.set_cons_zero, List.set_cons_succ]
        refine wpAnyH_take (i := 4) rfl (by kernel_rfl) (by kernel_rfl) (by kernel_rfl) (fun _ _ _ h => h) (y_sec (by rfl) (.tmp 21) (by rfl) (w5.heap.size + 1) 0 (by rfl) L HL.out (fun _ h => h.2)) hHeld ?_
        try simp only [Act.put, List.getElem_toArray, List.getElem_cons_succ, List.getElem_cons_zero, List.setIfInBounds_toArray, List.set_cons_zero, List.set_cons_succ]
        refine wpAnyH_take (i := 5) rfl (by kernel_rfl) (by kernel_rfl) (by kernel_rfl) (fun _ _ _ h => h) (y_secne (by rfl) (by rfl) S L HSl.out HL.out true (by simpa using HNE.out) (by rfl) (by rfl)) hHeld ?_
        try simp only [Act.put, List.getElem_toArray, List.getElem_cons_succ, List.getElem_cons_zero, List.setIfInBounds_toArray, List.set_cons_zero, List.set_cons_succ]
        refine wpAnyH_ready (rs := [1]) (by kernel_rfl) (by simp) ?_
        refine AllReadyH.cons (by rfl) (fun K hK => ?_) AllReadyH.nil
        go_simp
        refine (cnum_any _ _).mono ?_
        rintro e y1 ⟨rfl, rfl⟩
        clear hHeld
        go_wp2_with fail
        refine hK.out _ _ ⟨rd_range (rd_blk (Blk.drew HS8.out)), rd_range (rd_blk (Blk.drew HW8.out))⟩ (fun hHeld => ?_)
        clear hK K
        try simp only [Act.put, List.getElem_toArray, List.getElem_cons_succ, List.getElem_cons_zero, List.setIfInBounds_toArray, List.set_cons_zero, List.set_cons_succ]
        refine wpAnyH_take (i := 2) (v := ?v32) rfl (by kernel_rfl) (by kernel_rfl) (by kernel_rfl) (fun _ _ _ h => h) (Or.inl ⟨by rfl, ?hy32⟩) hHeld ?rest32
        case hy32 =>
          intro w' hSw
          try dsimp only at hSw
          go_simp
          first | done | with_reducible rfl
        try simp only [Act.put, List.getElem_toArray, List.getElem_cons_succ, List.getElem_cons_zero, List.setIfInBounds_toArray, List.set_cons_zero, List.set_cons_succ]
        refine wpAnyH_take (i := 6) (v := ?v33) rfl (by kernel_rfl) (by kernel_rfl) (by kernel_rfl) (fun _ _ _ h => h) (Or.inl ⟨by rfl, ?hy33⟩) hHeld ?rest33
        case hy33 =>
          intro w' hSw
          try dsimp only at hSw
          go_simp
          first | done | with_reducible rfl
        try simp only [Act.put, List.getElem_toArray, List.getElem_cons_succ, List.getElem_cons_zero, List.setIfInBounds_toArray, List.set_cons_zero, List.set_cons_succ]
        refine wpAnyH_take (i := 7) (v := ?v34) rfl (by kernel_rfl) (by kernel_rfl) (by kernel_rfl) (fun _ _ _ h => h) (Or.inl ⟨by rfl, ?hy34⟩) hHeld ?rest34
        case hy34 =>
          intro w' hSw
          try dsimp only at hSw
          go_simp
          first | done | with_reducible rfl
        try simp only [Act.put, List.getElem_toArray, List.getElem_cons_succ, List.getElem_cons_zero, List.setIfInBounds_toArray, List.set_cons_zero, List.set_cons_succ]
        refine wpAnyH_ready (rs := [8]) (by kernel_rfl) (by simp) ?_
        refine AllReadyH.cons (by rfl) (fun K hK => ?_) AllReadyH.nil
        go_simp
        refine (works_any _ HT8.out.drew).mono ?_
        rintro e y2 ⟨rfl, b2⟩
        have B9 := Lib.hid (HB8.out.drew.trans (b2.mono HB8.out.size))
        have X9 := Lib.hid (Blk.keep (Blk.drew HS8.out) b2)
        have Y9 := Lib.hid (Blk.keep (Blk.drew HW8.out) b2)
        clear b2 hHeld
        go_wp2_with fail
        refine hK.out _ _ ⟨rd_range (rd_blk X9.out), rd_range (rd_blk Y9.out)⟩ (fun hHeld => ?_)
        clear hK K
        try simp only [Act.put, List.getElem_toArray, List.getElem_cons_succ, List.getElem_cons_zero, List.setIfInBounds_toArray, List.set_cons_zero, List.set_cons_succ]
        refine wpAnyH_take (i := 9) (v := ?v35) rfl (by kernel_rfl) (by kernel_rfl) (by kernel_rfl) (fun _ _ _ h => h) (Or.inl ⟨by rfl, ?hy35⟩) hHeld ?rest35
        case hy35 =>
          intro w' hSw
          try dsimp only at hSw
          go_simp
          first | done | with_reducible rfl
        try simp only [Act.put, List.getElem_toArray, List.getElem_cons_succ, List.getElem_cons_zero, List.setIfInBounds_toArray, List.set_cons_zero, List.set_cons_succ]
        refine wpAnyH_take (i := 10) (v := ?v36) rfl (by kernel_rfl) (by kernel_rfl) (by kernel_rfl) (fun _ _ _ h => h) (Or.inl ⟨by rfl, ?hy36⟩) hHeld ?rest36
        case hy36 =>
          intro w' hSw
          try dsimp only at hSw
          go_simp
          first | done | with_reducible rfl
        try simp only [Act.put, List.getElem_toArray, List.getElem_cons_succ, List.getElem_cons_zero, List.setIfInBounds_toArray, List.set_cons_zero, List.set_cons_succ]
        refine wpAnyH_done (by kernel_rfl) ?_ _
        refine OnlyN.normal ?_
        clear hHeld
        go_wp2
        go_ret
        exact ⟨rfl, B9.out⟩
end Go.Proofs.YtfclkkbmgclfgaaDoor.codecBack

/- The law HeadersCounts returns true for every input: it is told which of two headers counts. No condition. -/
import Derived.Test.YtfaphmafdkloeaaHWk
namespace Go.Proofs.Ytfaphmafdkloeaa.headersCounts
open Go.ChangeShapes Go.WideShapes Go.ChangeAt Go.RowKit
attribute [local go_sem] Oper.semAt_some
set_option maxRecDepth 100000 in
set_option maxHeartbeats 4000000 in
theorem walk_no (w : World) (x y : Hd) (h : ¬ x.ok ∨ ¬ Hd.ok ⟨y.e, y.a, x.o⟩) : Calls Try.prog 7 #[x.val, y.val] w fun e w' => e = .returned (.bool true) ∧ Below w.heap.size w w' := by
  have hn : ∀ u : Hd, ¬ u.ok → (u.no != 0) = true := fun u hu => by unfold Hd.no; rw [if_neg hu]; rfl
  have hy : ∀ u : Hd, u.ok → (u.no != 0) = false := fun u hu => by unfold Hd.no; rw [if_pos hu]; rfl
  have X1 := Lib.hid ((Blk.new w 23 #[.int .i64 x.e, .int .i64 x.a, .int .i64 x.o]).alloc (.cells #[.int .i64 y.e, .int .i64 y.a, .int .i64 x.o] 23))
  have Y1 := Lib.hid (blk_new1 w (.cells #[.int .i64 x.e, .int .i64 x.a, .int .i64 x.o] 23) 23 #[.int .i64 y.e, .int .i64 y.a, .int .i64 x.o])
  have L1 := Lib.hid (((Below.refl w.heap.size w).alloc (Nat.le_refl _) (.cells #[.int .i64 x.e, .int .i64 x.a, .int .i64 x.o] 23)).alloc (by simp) (.cells #[.int .i64 y.e, .int .i64 y.a, .int .i64 x.o] 23))
  by_cases hx : x.ok
  · have hk : (Hd.no ⟨y.e, y.a, x.o⟩ != 0) = true := hn _ (h.resolve_left (fun hh => hh hx))
    have hk0 := hy x hx
    clear hn hy h hx
    go_enter Try.func7, Try.ntmps7
    go_wp2_with fail
    generalize ((w.alloc (.cells #[.int .i64 x.e, .int .i64 x.a, .int .i64 x.o] 23)).alloc (.cells #[.int .i64 y.e, .int .i64 y.a, .int .i64 x.o] 23)) = W at X1 Y1 L1 ⊢
    refine (check_any x W).mono ?_
    rintro r W2 ⟨rfl, hb⟩
    have Y2 := Y1.out.below hb Y1.out.lt
    have L2 := Lib.hid (L1.out.trans (hb.mono L1.out.size))
    have b0 := (Y2.cell 0).trans (show _ = some (.int .i64 y.e) from rfl)
    have b1 := (Y2.cell 1).trans (show _ = some (.int .i64 y.a) from rfl)
    have b2 := (Y2.cell 2).trans (show _ = some (.int .i64 x.o) from rfl)
    clear hb Y2 Y1
    go_wp2_with (first
      | (go_at_call 9; refine (num8_any _ _).mono ?_; rintro e w' ⟨rfl, rfl⟩)
      | (go_at_call 10; refine (check_any ⟨y.e, y.a, x.o⟩ _).mono ?_; rintro r W3 ⟨rfl, hb⟩; have L3 := Lib.hid (L2.out.trans (hb.mono L2.out.size)); clear hb)
      | (go_at_call 12; refine (works8_any _).mono ?_; rintro r W4 ⟨rfl, hb⟩; have L4 := Lib.hid (L3.out.trans (hb.mono L3.out.size)); clear hb))
    go_ret
    exact ⟨rfl, L4.out⟩
  · have hk := hn x hx
    clear hn hy h hx Y1
    go_enter Try.func7, Try.ntmps7
    go_wp2_with fail
    generalize ((w.alloc (.cells #[.int .i64 x.e, .int .i64 x.a, .int .i64 x.o] 23)).alloc (.cells #[.int .i64 y.e, .int .i64 y.a, .int .i64 x.o] 23)) = W at X1 L1 ⊢
    refine (check_any x W).mono ?_
    rintro r W2 ⟨rfl, hb⟩
    have L2 := Lib.hid (L1.out.trans (hb.mono L1.out.size))
    clear hb
    go_wp2_with (first
      | (go_at_call 9; refine (num8_any _ _).mono ?_; rintro e w' ⟨rfl, rfl⟩)
      | (go_at_call 12; refine (works8_any _).mono ?_; rintro r W4 ⟨rfl, hb⟩; have L4 := Lib.hid (L2.out.trans (hb.mono L2.out.size)); clear hb))
    go_ret
    exact ⟨rfl, L4.out⟩
set_option maxRecDepth 100000 in
set_option maxHeartbeats 8000000 in
theorem walk_yes (w : World) (e0 a0 e1 a1 o : Nat) (oy : Int) (he0 : (e0 : Int) ≤ 9223372036854775807) (ha0 : a0 < 2) (he1 : (e1 : Int) ≤ 9223372036854775807) (ha1 : a1 < 2) (ho : 1 ≤ o ∧ o ≤ 64) :
    Calls Try.prog 7 #[Hd.val ⟨e0, a0, o⟩, Hd.val ⟨e1, a1, oy⟩] w fun e w' => e = .returned (.bool true) ∧ Below w.heap.size w w' := by
  have hz := z23
  have NO := Lib.hid (show ∀ e a : Nat, a < 2 → Hd.no ⟨e, a, o⟩ = 0 from fun e a ha => by unfold Hd.no; rw [if_pos (by simp only; omega)])
  have HE0 := Lib.hid he0
  have HA0 := Lib.hid ha0
  have HE1 := Lib.hid he1
  have HA1 := Lib.hid ha1
  have HO := Lib.hid ho
  have X1 := Lib.hid ((Blk.new w 23 #[.int .i64 (e0 : Int), .int .i64 (a0 : Int), .int .i64 (o : Int)]).alloc (.cells #[.int .i64 (e1 : Int), .int .i64 (a1 : Int), .int .i64 (o : Int)] 23))
  have Y1 := Lib.hid (blk_new1 w (.cells #[.int .i64 (e0 : Int), .int .i64 (a0 : Int), .int .i64 (o : Int)] 23) 23 #[.int .i64 (e1 : Int), .int .i64 (a1 : Int), .int .i64 (o : Int)])
  have L1 := Lib.hid (((Below.refl w.heap.size w).alloc (Nat.le_refl _) (.cells #[.int .i64 (e0 : Int), .int .i64 (a0 : Int), .int .i64 (o : Int)] 23)).alloc (by simp) (.cells #[.int .i64 (e1 : Int), .int .i64 (a1 : Int), .int .i64 (o : Int)] 23))
  have d1 : decide (64 < (o : Int)) = false := decide_eq_false (by omega)
  have d1' : decide (64 < o) = false := decide_eq_false (by omega)
  have d2 : decide ((o : Int) < 1) = false := decide_eq_false (by omega)
  have d2' : decide (o < 1) = false := decide_eq_false (by omega)
  have m1 : IntKind.i64.wrap (3 * (o : Int)) = 3 * (o : Int) := IntWalk.i64_in _ (by omega)
  have m2 : IntKind.i64.wrap (20 + 3 * (o : Int)) = ((20 + 3 * o : Nat) : Int) := by rw [show 20 + 3 * (o : Int) = ((20 + 3 * o : Nat) : Int) by omega]; exact IntWalk.i64_in _ (by omega)
  obtain ⟨z, hzz⟩ : ∃ z, z = 20 + 3 * o := ⟨_, rfl⟩
  rw [← hzz] at m2
  have HZ := Lib.hid hzz
  clear he0 ha0 he1 ha1 ho hzz
  go_enter Try.func7, Try.ntmps7
  go_wp2_with fail
  generalize ((w.alloc (.cells #[.int .i64 (e0 : Int), .int .i64 (a0 : Int), .int .i64 (o : Int)] 23)).alloc (.cells #[.int .i64 (e1 : Int), .int .i64 (a1 : Int), .int .i64 (o : Int)] 23)) = W at X1 Y1 L1 ⊢
  refine (check_any ⟨e0, a0, o⟩ W).mono ?_
  rw [NO.out e0 a0 HA0.out]
  rintro r W2 ⟨rfl, hb⟩
  have X2 := Lib.hid (X1.out.below hb X1.out.lt)
  have Y2 := Lib.hid (Y1.out.below hb Y1.out.lt)
  have L2 := Lib.hid (L1.out.trans (hb.mono L1.out.size))
  clear hb X1 Y1 L1
  have b0 := (Y2.out.cell 0).trans (show _ = some (.int .i64 (e1 : Int)) from rfl)
  have b1 := (Y2.out.cell 1).trans (show _ = some (.int .i64 (a1 : Int)) from rfl)
  have b2 := (Y2.out.cell 2).trans (show _ = some (.int .i64 (o : Int)) from rfl)
  go_wp2_with (go_at_call 9; refine (num8_any _ _).mono ?_; rintro e w' ⟨rfl, rfl⟩)
  clear b0 b1 b2
  refine (check_any ⟨e1, a1, o⟩ W2).mono ?_
  rw [NO.out e1 a1 HA1.out]
  rintro r W3 ⟨rfl, hb⟩
  have X3 := Lib.hid (X2.out.below hb X2.out.lt)
  have Y3 := Lib.hid (Y2.out.below hb Y2.out.lt)
  have L3 := Lib.hid (L2.out.trans (hb.mono L2.out.size))
  clear hb X2 Y2 L2
  have c2 := (X3.out.cell 2).trans (show _ = some (.int .i64 (o : Int)) from rfl)
  have hz1 : 1 ≤ z := by have := HZ.out; omega
  have hz2 : z ≤ 4096 := by have := HZ.out; have := HO.out; omega
  have hzo : z = 20 + 3 * o := HZ.out
  have N0 := Lib.hid (new_at W3 z hz1 hz2)
  have XL := Lib.hid X3.out.lt
  have YL := Lib.hid Y3.out.lt
  have X4 := Lib.hid ((X3.out.alloc (.map #[] 0)).alloc (.cells (dcells (newPl W3.heap.size) (newDk z)) 94))
  have Y4 := Lib.hid ((Y3.out.alloc (.map #[] 0)).alloc (.cells (dcells (newPl W3.heap.size) (newDk z)) 94))
  have L4 := Lib.hid ((L3.out.alloc L3.out.size (.map #[] 0)).alloc (by have := L3.out.size; simp; omega) (.cells (dcells (newPl W3.heap.size) (newDk z)) 94))
  have S4 := Lib.hid (show W3.heap.size ≤ ((W3.alloc (.map #[] 0)).alloc (.cells (dcells (newPl W3.heap.size) (newDk z)) 94)).heap.size by simp; omega)
  clear X3 Y3
  go_wp2_with (go_at_call 9; refine (num8_any _ _).mono ?_; rintro e w' ⟨rfl, rfl⟩)
  rw [show (20 : Int) + 3 * (o : Int) = (z : Int) by omega]
  refine (new_yes _ z hz1 hz2).mono ?_
  generalize (W3.alloc (.map #[] 0)).alloc (.cells (dcells (newPl W3.heap.size) (newDk z)) 94) = V0 at N0 X4 Y4 L4 S4 ⊢
  rintro e w' ⟨rfl, hw⟩
  subst w'
  clear c2
  generalize newPl W3.heap.size = pl0 at N0
  have c0 := (X4.out.cell 0).trans (show _ = some (.int .i64 (e0 : Int)) from rfl)
  have c1 := (X4.out.cell 1).trans (show _ = some (.int .i64 (a0 : Int)) from rfl)
  have c2 := (X4.out.cell 2).trans (show _ = some (.int .i64 (o : Int)) from rfl)
  try go_wp2_with fail
  clear c0 c1 c2
  refine (show Calls Try.prog _ #[.pointer (some ⟨W3.heap.size + 1, 0, none⟩), .int .i64 0, .agg #[.int .i64 (e0 : Int), .int .i64 (a0 : Int), .int .i64 (o : Int)]] V0 _ from hwrite_goes N0.out S4.out (show 0 ≤ 1000000 by decide) 0 e0 a0 o (by decide) HE0.out HA0.out HO.out hzo (show 0 < 1000000 by decide) rfl).mono ?_
  rintro e V1 ⟨rfl, v1, n1, f1, _⟩
  have N1 := Lib.hid (show DiskAt V1 W3.heap.size (W3.heap.size + 1) { pl0 with wv := v1 } ((newDk z).stepped.queued (0, hdS e0 a0 o)) from n1)
  have B1 := f1.to_below (fun k hk => (N0.out.lt k hk).2) S4.out
  have L5 := Lib.hid (L4.out.trans (B1.mono L3.out.size))
  have X5 := Lib.hid (X4.out.below B1 XL.out)
  have Y5 := Lib.hid (Y4.out.below B1 YL.out)
  have S5 := Lib.hid (Nat.le_trans S4.out B1.size)
  generalize ({ pl0 with wv := v1 } : Pl) = pl1 at N1
  clear n1 f1 B1 N0 X4 Y4 L4 S4
  have c0 := (Y5.out.cell 0).trans (show _ = some (.int .i64 (e1 : Int)) from rfl)
  have c1 := (Y5.out.cell 1).trans (show _ = some (.int .i64 (a1 : Int)) from rfl)
  have c2 := (Y5.out.cell 2).trans (show _ = some (.int .i64 (o : Int)) from rfl)
  go_wp2_with fail
  clear c0 c1 c2
  refine (show Calls Try.prog _ #[.pointer (some ⟨W3.heap.size + 1, 0, none⟩), .int .i64 1, .agg #[.int .i64 (e1 : Int), .int .i64 (a1 : Int), .int .i64 (o : Int)]] V1 _ from hwrite_goes N1.out S5.out (show 1 ≤ 1000000 by decide) 1 e1 a1 o (by decide) HE1.out HA1.out HO.out hzo (show 1 < 1000000 by decide) rfl).mono ?_
  rintro e V2 ⟨rfl, v2, n2, f2, _⟩
  have N2 := Lib.hid (show DiskAt V2 W3.heap.size (W3.heap.size + 1) { pl1 with wv := v2 } (((newDk z).stepped.queued (0, hdS e0 a0 o)).stepped.queued (1, hdS e1 a1 o)) from n2)
  have B2 := f2.to_below (fun k hk => (N1.out.lt k hk).2) S5.out
  have L6 := Lib.hid (L5.out.trans (B2.mono L3.out.size))
  have X6 := Lib.hid (X5.out.below B2 XL.out)
  have Y6 := Lib.hid (Y5.out.below B2 YL.out)
  have S6 := Lib.hid (Nat.le_trans S5.out B2.size)
  generalize ({ pl1 with wv := v2 } : Pl) = pl2 at N2
  clear n2 f2 B2 N1 X5 Y5 L5 S5
  go_wp2_with fail
  refine (hread_two N2.out (show 2 ≤ 1000000 by decide) (show 2 < 999990 by decide) rfl rfl e0 a0 e1 a1 o HE0.out HA0.out HE1.out HA1.out HO.out hzo rfl rfl).mono ?_
  rintro e V3 ⟨rfl, n3, f3⟩
  have B3 := f3.to_below (fun k hk => (N2.out.lt k hk).2) S6.out
  have L7 := Lib.hid (L6.out.trans (B3.mono L3.out.size))
  have X7 := Lib.hid (X6.out.below B3 XL.out)
  have Y7 := Lib.hid (Y6.out.below B3 YL.out)
  clear n3 f3 B3 N2 X6 Y6 L6 S6
  by_cases hlt : e0 < e1
  · rw [if_pos hlt]
    have X8 := Lib.hid (X7.out.alloc (.cells #[.int .i64 (e1 : Int), .int .i64 (a1 : Int), .int .i64 (o : Int)] 23))
    have Y8 := Lib.hid (Y7.out.alloc (.cells #[.int .i64 (e1 : Int), .int .i64 (a1 : Int), .int .i64 (o : Int)] 23))
    have L8 := Lib.hid (L7.out.alloc L7.out.size (.cells #[.int .i64 (e1 : Int), .int .i64 (a1 : Int), .int .i64 (o : Int)] 23))
    have G8 := Lib.hid (Blk.new V3 23 #[.int .i64 (e1 : Int), .int .i64 (a1 : Int), .int .i64 (o : Int)])
    have X9 := Lib.hid (X8.out.alloc (.cells #[.int .i64 (e0 : Int), .int .i64 (a0 : Int), .int .i64 (o : Int)] 23))
    have Y9 := Lib.hid (Y8.out.alloc (.cells #[.int .i64 (e0 : Int), .int .i64 (a0 : Int), .int .i64 (o : Int)] 23))
    have G9 := Lib.hid (G8.out.alloc (.cells #[.int .i64 (e0 : Int), .int .i64 (a0 : Int), .int .i64 (o : Int)] 23))
    have L9 := Lib.hid (L8.out.alloc L8.out.size (.cells #[.int .i64 (e1 : Int), .int .i64 (a1 : Int), .int .i64 (o : Int)] 23))
    have G10 := Lib.hid (G8.out.alloc (.cells #[.int .i64 (e1 : Int), .int .i64 (a1 : Int), .int .i64 (o : Int)] 23))
    have c0 := (X8.out.cell 0).trans (show _ = some (.int .i64 (e0 : Int)) from rfl)
    have c1 := (X8.out.cell 1).trans (show _ = some (.int .i64 (a0 : Int)) from rfl)
    have c2 := (X8.out.cell 2).trans (show _ = some (.int .i64 (o : Int)) from rfl)
    have u0 := (X9.out.cell 0).trans (show _ = some (.int .i64 (e0 : Int)) from rfl)
    have u1 := (X9.out.cell 1).trans (show _ = some (.int .i64 (a0 : Int)) from rfl)
    have u2 := (X9.out.cell 2).trans (show _ = some (.int .i64 (o : Int)) from rfl)
    have y0 := (Y9.out.cell 0).trans (show _ = some (.int .i64 (e1 : Int)) from rfl)
    have y1 := (Y9.out.cell 1).trans (show _ = some (.int .i64 (a1 : Int)) from rfl)
    have y2 := (Y9.out.cell 2).trans (show _ = some (.int .i64 (o : Int)) from rfl)
    have g0 := (G10.out.cell 0).trans (show _ = some (.int .i64 (e1 : Int)) from rfl)
    have g1 := (G10.out.cell 1).trans (show _ = some (.int .i64 (a1 : Int)) from rfl)
    have g2 := (G10.out.cell 2).trans (show _ = some (.int .i64 (o : Int)) from rfl)
    have k1 : decide ((e0 : Int) < (e1 : Int)) = true := by simp [hlt]
    have k2 : decide (e0 < e1) = true := by simp [hlt]
    clear NO HE0 HA0 HE1 HA1 HO HZ
    go_wp2_with (first
      | (go_at_call 9; refine (num8_any _ _).mono ?_; rintro e w' ⟨rfl, rfl⟩)
      | (go_at_call 12; refine (works8_any _).mono ?_; rintro r W5 ⟨rfl, hb⟩; have L5 := Lib.hid (L9.out.trans (hb.mono L9.out.size)); clear hb))
    go_ret
    exact ⟨rfl, L5.out⟩
  · rw [if_neg hlt]
    have X8 := Lib.hid (X7.out.alloc (.cells #[.int .i64 (e0 : Int), .int .i64 (a0 : Int), .int .i64 (o : Int)] 23))
    have Y8 := Lib.hid (Y7.out.alloc (.cells #[.int .i64 (e0 : Int), .int .i64 (a0 : Int), .int .i64 (o : Int)] 23))
    have L8 := Lib.hid (L7.out.alloc L7.out.size (.cells #[.int .i64 (e0 : Int), .int .i64 (a0 : Int), .int .i64 (o : Int)] 23))
    have G8 := Lib.hid (Blk.new V3 23 #[.int .i64 (e0 : Int), .int .i64 (a0 : Int), .int .i64 (o : Int)])
    have X9 := Lib.hid (X8.out.alloc (.cells #[.int .i64 (e0 : Int), .int .i64 (a0 : Int), .int .i64 (o : Int)] 23))
    have Y9 := Lib.hid (Y8.out.alloc (.cells #[.int .i64 (e0 : Int), .int .i64 (a0 : Int), .int .i64 (o : Int)] 23))
    have G9 := Lib.hid (G8.out.alloc (.cells #[.int .i64 (e0 : Int), .int .i64 (a0 : Int), .int .i64 (o : Int)] 23))
    have L9 := Lib.hid (L8.out.alloc L8.out.size (.cells #[.int .i64 (e0 : Int), .int .i64 (a0 : Int), .int .i64 (o : Int)] 23))
    have G10 := Lib.hid (G8.out.alloc (.cells #[.int .i64 (e0 : Int), .int .i64 (a0 : Int), .int .i64 (o : Int)] 23))
    have c0 := (X8.out.cell 0).trans (show _ = some (.int .i64 (e0 : Int)) from rfl)
    have c1 := (X8.out.cell 1).trans (show _ = some (.int .i64 (a0 : Int)) from rfl)
    have c2 := (X8.out.cell 2).trans (show _ = some (.int .i64 (o : Int)) from rfl)
    have u0 := (X9.out.cell 0).trans (show _ = some (.int .i64 (e0 : Int)) from rfl)
    have u1 := (X9.out.cell 1).trans (show _ = some (.int .i64 (a0 : Int)) from rfl)
    have u2 := (X9.out.cell 2).trans (show _ = some (.int .i64 (o : Int)) from rfl)
    have y0 := (Y9.out.cell 0).trans (show _ = some (.int .i64 (e1 : Int)) from rfl)
    have y1 := (Y9.out.cell 1).trans (show _ = some (.int .i64 (a1 : Int)) from rfl)
    have y2 := (Y9.out.cell 2).trans (show _ = some (.int .i64 (o : Int)) from rfl)
    have g0 := (G10.out.cell 0).trans (show _ = some (.int .i64 (e0 : Int)) from rfl)
    have g1 := (G10.out.cell 1).trans (show _ = some (.int .i64 (a0 : Int)) from rfl)
    have g2 := (G10.out.cell 2).trans (show _ = some (.int .i64 (o : Int)) from rfl)
    have k1 : decide ((e0 : Int) < (e1 : Int)) = false := by simp [hlt]
    have k2 : decide (e0 < e1) = false := by simp [hlt]
    clear NO HE0 HA0 HE1 HA1 HO HZ
    go_wp2_with (first
      | (go_at_call 9; refine (num8_any _ _).mono ?_; rintro e w' ⟨rfl, rfl⟩)
      | (go_at_call 12; refine (works8_any _).mono ?_; rintro r W5 ⟨rfl, hb⟩; have L5 := Lib.hid (L9.out.trans (hb.mono L9.out.size)); clear hb))
    go_ret
    exact ⟨rfl, L5.out⟩
set_option maxRecDepth 8000 in
theorem walk (w : World) (x : Hd) (hx : x.e ≤ 9223372036854775807) (y : Hd) (hy : y.e ≤ 9223372036854775807) : Calls Try.prog 7 #[x.val, y.val] w fun e w' => e = .returned (.bool true) ∧ Below w.heap.size w w' := by
  by_cases h : x.ok ∧ Hd.ok ⟨y.e, y.a, x.o⟩
  · obtain ⟨h1, h2⟩ := h
    have k1 := h1
    have k2 := h2
    unfold Hd.ok at k1 k2
    simp only at k2
    obtain ⟨e0, a0, o⟩ := x
    obtain ⟨e1, a1, oy⟩ := y
    simp only at hx hy k1 k2
    obtain ⟨n0, rfl⟩ := Int.eq_ofNat_of_zero_le (show 0 ≤ e0 by omega)
    obtain ⟨n1, rfl⟩ := Int.eq_ofNat_of_zero_le (show 0 ≤ a0 by omega)
    obtain ⟨n2, rfl⟩ := Int.eq_ofNat_of_zero_le (show 0 ≤ e1 by omega)
    obtain ⟨n3, rfl⟩ := Int.eq_ofNat_of_zero_le (show 0 ≤ a1 by omega)
    obtain ⟨n4, rfl⟩ := Int.eq_ofNat_of_zero_le (show 0 ≤ o by omega)
    exact walk_yes w n0 n1 n2 n3 n4 oy hx (by omega) hy (by omega) (by omega)
  · exact walk_no w x y (by
      by_cases h1 : x.ok
      · exact .inr (fun h2 => h ⟨h1, h2⟩)
      · exact .inl h1)
set_option maxRecDepth 100000 in
theorem lifted (os : Os) (started : os.Started) (H : Type) (enc : TypeId × Value → H) :
    ReturnsInHanded {} Try.checked os 7 .any (Rows.headersCountsSpec.pre6 enc Try.prog Try.f7 Rows.headersCountsRow.domain false) (Rows.headersCountsSpec.post enc Try.prog Try.f7 false true false false) := by
  refine returnsInHanded_of_change_sized (C := Try.checked) own started (by kernel_rfl) Try.func7
    (ChangeSpec.witness6 (enc := enc) (C := Try.checked) false ⟨#[], #[.agg #[.int .i64 0, .int .i64 0, .int .i64 0], .agg #[.int .i64 0, .int .i64 0, .int .i64 0]], []⟩ 8 (by kernel_rfl) (by kernel_rfl) (by kernel_rfl) (by kernel_rfl)) ?_
  intro W base args ds gs before hval0 hW hcnd hsz _
  have hval : ∀ (j : Nat) t v, Try.f7.params[j]? = some t → args[j]? = some v → Value.okWide Try.prog W .any base t v := hval0
  have hW' := hW
  obtain ⟨p, q, hA0, hV, rfl, hfz, hnd⟩ := hW
  have hA : DataW.TrodAll enc Try.prog W 0 (fun _ => true) true Try.f7.params.toList args.toList ds p := hA0
  rw [Try.params7] at hA hval hsz
  obtain ⟨v0, vs0, d0, ds0, p0, q0, hargs, rfl, rfl, h0, t0⟩ := trodAll_cons hA
  obtain ⟨v1, vs1, d1, ds1, p1, q1, rfl, rfl, rfl, h1, t1⟩ := trodAll_cons t0
  obtain ⟨rfl, rfl, rfl⟩ := trodAll_nil t1
  obtain rfl : args = #[v0, v1] := by cases args; simp_all
  obtain ⟨rfl, rfl⟩ := trodVars_none hV
  have k0 := h0
  have lt0 : ∀ x ∈ p0, x.block < W.heap.size := by obtain ⟨m, hm⟩ := k0; exact DataW.trod_lt m _ _ _ hm
  obtain ⟨x0, rfl, hx0⟩ := open_hdr (hval 0 23 v0 rfl rfl) h0
  have k1 := h1
  have lt1 : ∀ x ∈ p1, x.block < W.heap.size := by obtain ⟨m, hm⟩ := k1; exact DataW.trod_lt m _ _ _ hm
  obtain ⟨x1, rfl, hx1⟩ := open_hdr (hval 1 23 v1 rfl rfl) h1
  clear hA0 hval0
  refine (walk W x0 hx0 x1 hx1).mono fun e W' ⟨he, bel⟩ => ?_
  subst he
  exact ⟨_, rfl, _, _, _, [], _, [], hW', trodAll_mk1 (shut_bool Try.underlying4 _), (trodAll_cons_mk (Below.trod laidOut (by kernel_rfl) (of_decide_eq_true (by kernel_rfl)) k0 bel lt0) (trodAll_cons_mk (Below.trod laidOut (by kernel_rfl) (of_decide_eq_true (by kernel_rfl)) k1 bel lt1) trodAll_mk0)), rfl, bel.frame _, fun h => by cases h⟩
theorem over : Rows.headersCountsRow.holds Try.pinned (OpenSpec.ofChange Rows.headersCountsSpec) :=
  OpenClaim.holds_of_wide 7 Try.f7 rfl rfl rfl rfl rfl rfl rfl ⟨rfl, rfl, rfl, rfl, rfl⟩ rfl rfl rfl rfl rfl (by kernel_rfl) Try.func7 (by kernel_rfl)
    (of_decide_eq_true (by kernel_rfl)) (by unfold Func.isWrapper; first | (rw [if_pos (by decide +kernel)]; kernel_rfl) | (rw [if_neg (by decide +kernel)]; exact ⟨rfl, rfl⟩))
    (fun os started H enc _ => lifted os started H enc)
theorem proved : Rows.HeadersCountsSaid := over
end Go.Proofs.Ytfaphmafdkloeaa.headersCounts

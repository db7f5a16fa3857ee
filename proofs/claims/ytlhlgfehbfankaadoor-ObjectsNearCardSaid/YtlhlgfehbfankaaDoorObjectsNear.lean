/- The law ObjectsNear returns true for every input: objects.Check of any object with one part otherwise is the definition's. No condition but that the listed variables read as the program's own text lays them; the card ties them to it. -/
import Derived.Test.YtlhlgfehbfankaaDoorOKn
import Derived.Test.YtlhlgfehbfankaaDoorOFr
import Derived.Test.YtlhlgfehbfankaaDoorRegIn
import Derived.Test.YtlhlgfehbfankaaDoorOPart
namespace Go.Proofs.YtlhlgfehbfankaaDoor.objectsNear
open Go.ChangeShapes Go.WideShapes Go.ChangeAt Go.RowKit
attribute [local go_sem] Oper.semAt_some
set_option maxRecDepth 100000 in
set_option maxHeartbeats 8000000 in
theorem walk0 (w : World) (hT : Tab w) (o : Oj) (n : Int) :
    Calls Tryd.prog 10 #[o.val, .int .i64 n] w fun e w' => e = .returned (.bool true) ∧ Below w.heap.size w w' := by
  have hz := z34
  have hbl := oz_len
  have HT := Lib.hid hT
  have HB := Lib.hid ((Below.refl w.heap.size w).alloc (Nat.le_refl _) (.cells o.cells.toArray 34))
  have HO := Lib.hid (Blk.new w 34 o.cells.toArray).ob
  clear hT
  obtain ⟨m, hm⟩ : ∃ m, (if (100 : Int) < n then (100 : Int) else n) = m := ⟨_, rfl⟩
  obtain ⟨q, hq⟩ : ∃ q, (if (-9 : Int) < m then m else (-9 : Int)) = q := ⟨_, rfl⟩
  have hq1 : -9 ≤ q ∧ q ≤ 100 := by
    have h1 : m ≤ 100 := by rw [← hm]; split <;> omega
    rw [← hq]
    split <;> omega
  obtain ⟨hq1, hq2⟩ := hq1
  go_enter Tryd.func10, Tryd.ntmps10
  go_wp2
  clear hm hq
  generalize w.alloc (.cells o.cells.toArray 34) = w0 at HB HO ⊢
  go_loopw [6] (fun i wr => ∃ k : Nat, k ≤ 40 ∧ i = .int .i64 k ∧ Below w.heap.size w wr ∧ ObAt wr w.heap.size 0 o) (fun i _ => 41 - (intOf i).toNat)
  case atStart => exact ⟨0, by omega, rfl, HB.out, HO.out⟩
  case round =>
    obtain ⟨k, hk, rfl, hb, ho⟩ := hrel
    clear HB HO
    by_cases hlt : k < 40
    · have HB0 := Lib.hid (fun x : Oj => hb.alloc hb.size (.cells x.cells.toArray 34))
      have HT0 := Lib.hid (fun x : Oj => (HT.out.below hb).alloc (.cells x.cells.toArray 34))
      have HO0 := Lib.hid (fun x : Oj => ho.alloc (.cells x.cells.toArray 34))
      have HOO := Lib.hid ho
      clear hb ho
      by_cases hcK : k < 5
      · skip
        have d0 : decide (k < 5) = true := decide_eq_true (by omega)
        go_wp2_with (first
          | (refine wpList_yields (S := fun w' => ObAt w' w.heap.size 0 o) (y_ob (by rfl) (.tmp 2) (by rfl) w.heap.size 0 (by rfl) o (fun _ h => h)) HOO.out ?_)
          | (refine wpList_store_last rfl (.tmp 7) (.tmp 15) rfl _ rfl rfl o oz rfl ?_))
        rw [kind_set]
        have HB1 := Lib.hid (HB0.out (kindAs o ((k : Int) - 1)))
        have HT1 := Lib.hid (HT0.out (kindAs o ((k : Int) - 1)))
        have HO1 := Lib.hid (HO0.out (kindAs o ((k : Int) - 1)))
        have HX1 := Lib.hid (Blk.new wr 34 (kindAs o ((k : Int) - 1)).cells.toArray).ob
        generalize kindAs o ((k : Int) - 1) = x at HB1 HT1 HO1 HX1 ⊢
        generalize wr.alloc (.cells x.cells.toArray 34) = w1 at HB1 HT1 HO1 HX1 ⊢
        clear HB0 HT0 HO0 HOO
        refine wp_region_only (S := fun w' => ObAt w' wr.heap.size 0 x) (by kernel_rfl) HX1.out.drew (fun hHeld => ?_)
        refine wpAnyH_take (i := 0) rfl (by kernel_rfl) (by kernel_rfl) (by kernel_rfl) (fun _ _ _ h => h) (y_ob (by rfl) (.tmp 7) (by rfl) wr.heap.size 0 (by rfl) x (fun _ h => h)) hHeld ?_
        try simp only [Act.put, List.getElem_toArray, List.getElem_cons_zero, List.setIfInBounds_toArray, List.set_cons_zero, List.set_cons_succ]
        refine wpAnyH_take (i := 1) (v := ?v1) rfl (by kernel_rfl) (by kernel_rfl) (by kernel_rfl) (fun _ _ _ h => h) (Or.inl ⟨by rfl, ?hy1⟩) hHeld ?rest1
        case hy1 =>
          intro w' hSw
          try dsimp only at hSw
          go_simp
          first | done | with_reducible rfl
        try simp only [Act.put, List.getElem_toArray, List.getElem_cons_succ, List.getElem_cons_zero, List.setIfInBounds_toArray, List.set_cons_zero, List.set_cons_succ]
        refine wpAnyH_take (i := 3) rfl (by kernel_rfl) (by kernel_rfl) (by kernel_rfl) (fun _ _ _ h => h) (y_ob (by rfl) (.tmp 7) (by rfl) wr.heap.size 0 (by rfl) x (fun _ h => h)) hHeld ?_
        try simp only [Act.put, List.getElem_toArray, List.getElem_cons_succ, List.getElem_cons_zero, List.setIfInBounds_toArray, List.set_cons_zero, List.set_cons_succ]
        refine wpAnyH_take (i := 4) (v := ?v2) rfl (by kernel_rfl) (by kernel_rfl) (by kernel_rfl) (fun _ _ _ h => h) (Or.inl ⟨by rfl, ?hy2⟩) hHeld ?rest2
        case hy2 =>
          intro w' hSw
          try dsimp only at hSw
          go_simp
          first | done | with_reducible rfl
        try simp only [Act.put, List.getElem_toArray, List.getElem_cons_succ, List.getElem_cons_zero, List.setIfInBounds_toArray, List.set_cons_zero, List.set_cons_succ]
        refine wpAnyH_ready (rs := [2]) (by kernel_rfl) (by simp) ?_
        refine AllReadyH.cons (by rfl) (fun K hK => ?_) AllReadyH.nil
        go_simp
        refine (check_any x n _ (HT1.out.drew)).mono ?_
        rintro e y1 ⟨rfl, b1⟩
        have HB_1 := Lib.hid ((below_drew HB1.out).trans (b1.mono HB1.out.size))
        have HT1_1 := Lib.hid ((HT1.out.drew).below b1)
        have HO1_1 := Lib.hid ((HO1.out.drew).below b1)
        have HX1_1 := Lib.hid ((HX1.out.drew).below b1)
        clear b1 hHeld
        go_wp2_with fail
        refine hK.out _ _ HX1_1.out (fun hHeld => ?_)
        clear hK K
        try simp only [Act.put, List.getElem_toArray, List.getElem_cons_succ, List.getElem_cons_zero, List.setIfInBounds_toArray, List.set_cons_zero, List.set_cons_succ]
        refine wpAnyH_ready (rs := [5]) (by kernel_rfl) (by simp) ?_
        refine AllReadyH.cons (by rfl) (fun K hK => ?_) AllReadyH.nil
        go_simp
        refine (rcheck_any x n _).mono ?_
        rintro e y2 ⟨rfl, b2⟩
        have HB_2 := Lib.hid (HB_1.out.trans (b2.mono HB_1.out.size))
        have HT1_2 := Lib.hid ((HT1_1.out).below b2)
        have HO1_2 := Lib.hid ((HO1_1.out).below b2)
        have HX1_2 := Lib.hid ((HX1_1.out).below b2)
        clear b2 hHeld
        clear HB_1 HT1_1 HO1_1 HX1_1
        go_wp2_with fail
        refine hK.out _ _ HX1_2.out (fun hHeld => ?_)
        clear hK K
        try simp only [Act.put, List.getElem_toArray, List.getElem_cons_succ, List.getElem_cons_zero, List.setIfInBounds_toArray, List.set_cons_zero, List.set_cons_succ]
        refine wpAnyH_take (i := 6) (v := ?v3) rfl (by kernel_rfl) (by kernel_rfl) (by kernel_rfl) (fun _ _ _ h => h) (Or.inl ⟨by rfl, ?hy3⟩) hHeld ?rest3
        case hy3 =>
          intro w' hSw
          try dsimp only at hSw
          go_simp
          first | done | with_reducible rfl
        try simp only [Act.put, List.getElem_toArray, List.getElem_cons_succ, List.getElem_cons_zero, List.setIfInBounds_toArray, List.set_cons_zero, List.set_cons_succ]
        refine wpAnyH_done (by kernel_rfl) ?_ _
        refine OnlyN.normal ?_
        clear hHeld
        go_wp2
        go_roundw
        case rel => exact ⟨k + 1, by omega, by go_num, HB_2.out, HO1_2.out⟩
        case measure => simp [intOf]; omega
      by_cases hcC5 : k = 5
      · skip
        have d0 : decide (k < 5) = false := decide_eq_false (by omega)
        have d1 : decide (k < 8) = true := decide_eq_true (by omega)
        go_wp2_with (first
          | (refine wpList_yields (S := fun w' => ObAt w' w.heap.size 0 o) (y_ob (by rfl) (.tmp 2) (by rfl) w.heap.size 0 (by rfl) o (fun _ h => h)) HOO.out ?_)
          | (refine wpList_store_last rfl (.tmp 7) (.tmp 15) rfl _ rfl rfl o oz rfl ?_))
        subst hcC5
        rw [count_set]
        have HB1 := Lib.hid ((HB0.out (countAs o (-1))).alloc (HB0.out (countAs o (-1))).size (.cells #[.int .i64 (-1), .int .i64 4294967295, .int .i64 4294967296] 2))
        have HT1 := Lib.hid ((HT0.out (countAs o (-1))).alloc (.cells #[.int .i64 (-1), .int .i64 4294967295, .int .i64 4294967296] 2))
        have HO1 := Lib.hid ((HO0.out (countAs o (-1))).alloc (.cells #[.int .i64 (-1), .int .i64 4294967295, .int .i64 4294967296] 2))
        have HX1 := Lib.hid ((Blk.new wr 34 (countAs o (-1)).cells.toArray).ob.alloc (.cells #[.int .i64 (-1), .int .i64 4294967295, .int .i64 4294967296] 2))
        generalize countAs o (-1) = x at HB1 HT1 HO1 HX1 ⊢
        generalize (wr.alloc (.cells x.cells.toArray 34)).alloc (.cells #[.int .i64 (-1), .int .i64 4294967295, .int .i64 4294967296] 2) = w1 at HB1 HT1 HO1 HX1 ⊢
        clear HB0 HT0 HO0 HOO
        refine wp_region_only (S := fun w' => ObAt w' wr.heap.size 0 x) (by kernel_rfl) HX1.out.drew (fun hHeld => ?_)
        refine wpAnyH_take (i := 0) rfl (by kernel_rfl) (by kernel_rfl) (by kernel_rfl) (fun _ _ _ h => h) (y_ob (by rfl) (.tmp 7) (by rfl) wr.heap.size 0 (by rfl) x (fun _ h => h)) hHeld ?_
        try simp only [Act.put, List.getElem_toArray, List.getElem_cons_zero, List.setIfInBounds_toArray, List.set_cons_zero, List.set_cons_succ]
        refine wpAnyH_take (i := 1) (v := ?v4) rfl (by kernel_rfl) (by kernel_rfl) (by kernel_rfl) (fun _ _ _ h => h) (Or.inl ⟨by rfl, ?hy4⟩) hHeld ?rest4
        case hy4 =>
          intro w' hSw
          try dsimp only at hSw
          go_simp
          first | done | with_reducible rfl
        try simp only [Act.put, List.getElem_toArray, List.getElem_cons_succ, List.getElem_cons_zero, List.setIfInBounds_toArray, List.set_cons_zero, List.set_cons_succ]
        refine wpAnyH_take (i := 3) rfl (by kernel_rfl) (by kernel_rfl) (by kernel_rfl) (fun _ _ _ h => h) (y_ob (by rfl) (.tmp 7) (by rfl) wr.heap.size 0 (by rfl) x (fun _ h => h)) hHeld ?_
        try simp only [Act.put, List.getElem_toArray, List.getElem_cons_succ, List.getElem_cons_zero, List.setIfInBounds_toArray, List.set_cons_zero, List.set_cons_succ]
        refine wpAnyH_take (i := 4) (v := ?v5) rfl (by kernel_rfl) (by kernel_rfl) (by kernel_rfl) (fun _ _ _ h => h) (Or.inl ⟨by rfl, ?hy5⟩) hHeld ?rest5
        case hy5 =>
          intro w' hSw
          try dsimp only at hSw
          go_simp
          first | done | with_reducible rfl
        try simp only [Act.put, List.getElem_toArray, List.getElem_cons_succ, List.getElem_cons_zero, List.setIfInBounds_toArray, List.set_cons_zero, List.set_cons_succ]
        refine wpAnyH_ready (rs := [2]) (by kernel_rfl) (by simp) ?_
        refine AllReadyH.cons (by rfl) (fun K hK => ?_) AllReadyH.nil
        go_simp
        refine (check_any x n _ (HT1.out.drew)).mono ?_
        rintro e y1 ⟨rfl, b1⟩
        have HB_1 := Lib.hid ((below_drew HB1.out).trans (b1.mono HB1.out.size))
        have HT1_1 := Lib.hid ((HT1.out.drew).below b1)
        have HO1_1 := Lib.hid ((HO1.out.drew).below b1)
        have HX1_1 := Lib.hid ((HX1.out.drew).below b1)
        clear b1 hHeld
        go_wp2_with fail
        refine hK.out _ _ HX1_1.out (fun hHeld => ?_)
        clear hK K
        try simp only [Act.put, List.getElem_toArray, List.getElem_cons_succ, List.getElem_cons_zero, List.setIfInBounds_toArray, List.set_cons_zero, List.set_cons_succ]
        refine wpAnyH_ready (rs := [5]) (by kernel_rfl) (by simp) ?_
        refine AllReadyH.cons (by rfl) (fun K hK => ?_) AllReadyH.nil
        go_simp
        refine (rcheck_any x n _).mono ?_
        rintro e y2 ⟨rfl, b2⟩
        have HB_2 := Lib.hid (HB_1.out.trans (b2.mono HB_1.out.size))
        have HT1_2 := Lib.hid ((HT1_1.out).below b2)
        have HO1_2 := Lib.hid ((HO1_1.out).below b2)
        have HX1_2 := Lib.hid ((HX1_1.out).below b2)
        clear b2 hHeld
        clear HB_1 HT1_1 HO1_1 HX1_1
        go_wp2_with fail
        refine hK.out _ _ HX1_2.out (fun hHeld => ?_)
        clear hK K
        try simp only [Act.put, List.getElem_toArray, List.getElem_cons_succ, List.getElem_cons_zero, List.setIfInBounds_toArray, List.set_cons_zero, List.set_cons_succ]
        refine wpAnyH_take (i := 6) (v := ?v6) rfl (by kernel_rfl) (by kernel_rfl) (by kernel_rfl) (fun _ _ _ h => h) (Or.inl ⟨by rfl, ?hy6⟩) hHeld ?rest6
        case hy6 =>
          intro w' hSw
          try dsimp only at hSw
          go_simp
          first | done | with_reducible rfl
        try simp only [Act.put, List.getElem_toArray, List.getElem_cons_succ, List.getElem_cons_zero, List.setIfInBounds_toArray, List.set_cons_zero, List.set_cons_succ]
        refine wpAnyH_done (by kernel_rfl) ?_ _
        refine OnlyN.normal ?_
        clear hHeld
        go_wp2
        go_roundw
        case rel => exact ⟨5 + 1, by omega, by go_num, HB_2.out, HO1_2.out⟩
        case measure => simp [intOf]
      by_cases hcC6 : k = 6
      · skip
        have d0 : decide (k < 5) = false := decide_eq_false (by omega)
        have d1 : decide (k < 8) = true := decide_eq_true (by omega)
        go_wp2_with (first
          | (refine wpList_yields (S := fun w' => ObAt w' w.heap.size 0 o) (y_ob (by rfl) (.tmp 2) (by rfl) w.heap.size 0 (by rfl) o (fun _ h => h)) HOO.out ?_)
          | (refine wpList_store_last rfl (.tmp 7) (.tmp 15) rfl _ rfl rfl o oz rfl ?_))
        subst hcC6
        rw [count_set]
        have HB1 := Lib.hid ((HB0.out (countAs o (4294967295))).alloc (HB0.out (countAs o (4294967295))).size (.cells #[.int .i64 (-1), .int .i64 4294967295, .int .i64 4294967296] 2))
        have HT1 := Lib.hid ((HT0.out (countAs o (4294967295))).alloc (.cells #[.int .i64 (-1), .int .i64 4294967295, .int .i64 4294967296] 2))
        have HO1 := Lib.hid ((HO0.out (countAs o (4294967295))).alloc (.cells #[.int .i64 (-1), .int .i64 4294967295, .int .i64 4294967296] 2))
        have HX1 := Lib.hid ((Blk.new wr 34 (countAs o (4294967295)).cells.toArray).ob.alloc (.cells #[.int .i64 (-1), .int .i64 4294967295, .int .i64 4294967296] 2))
        generalize countAs o (4294967295) = x at HB1 HT1 HO1 HX1 ⊢
        generalize (wr.alloc (.cells x.cells.toArray 34)).alloc (.cells #[.int .i64 (-1), .int .i64 4294967295, .int .i64 4294967296] 2) = w1 at HB1 HT1 HO1 HX1 ⊢
        clear HB0 HT0 HO0 HOO
        refine wp_region_only (S := fun w' => ObAt w' wr.heap.size 0 x) (by kernel_rfl) HX1.out.drew (fun hHeld => ?_)
        refine wpAnyH_take (i := 0) rfl (by kernel_rfl) (by kernel_rfl) (by kernel_rfl) (fun _ _ _ h => h) (y_ob (by rfl) (.tmp 7) (by rfl) wr.heap.size 0 (by rfl) x (fun _ h => h)) hHeld ?_
        try simp only [Act.put, List.getElem_toArray, List.getElem_cons_zero, List.setIfInBounds_toArray, List.set_cons_zero, List.set_cons_succ]
        refine wpAnyH_take (i := 1) (v := ?v7) rfl (by kernel_rfl) (by kernel_rfl) (by kernel_rfl) (fun _ _ _ h => h) (Or.inl ⟨by rfl, ?hy7⟩) hHeld ?rest7
        case hy7 =>
          intro w' hSw
          try dsimp only at hSw
          go_simp
          first | done | with_reducible rfl
        try simp only [Act.put, List.getElem_toArray, List.getElem_cons_succ, List.getElem_cons_zero, List.setIfInBounds_toArray, List.set_cons_zero, List.set_cons_succ]
        refine wpAnyH_take (i := 3) rfl (by kernel_rfl) (by kernel_rfl) (by kernel_rfl) (fun _ _ _ h => h) (y_ob (by rfl) (.tmp 7) (by rfl) wr.heap.size 0 (by rfl) x (fun _ h => h)) hHeld ?_
        try simp only [Act.put, List.getElem_toArray, List.getElem_cons_succ, List.getElem_cons_zero, List.setIfInBounds_toArray, List.set_cons_zero, List.set_cons_succ]
        refine wpAnyH_take (i := 4) (v := ?v8) rfl (by kernel_rfl) (by kernel_rfl) (by kernel_rfl) (fun _ _ _ h => h) (Or.inl ⟨by rfl, ?hy8⟩) hHeld ?rest8
        case hy8 =>
          intro w' hSw
          try dsimp only at hSw
          go_simp
          first | done | with_reducible rfl
        try simp only [Act.put, List.getElem_toArray, List.getElem_cons_succ, List.getElem_cons_zero, List.setIfInBounds_toArray, List.set_cons_zero, List.set_cons_succ]
        refine wpAnyH_ready (rs := [2]) (by kernel_rfl) (by simp) ?_
        refine AllReadyH.cons (by rfl) (fun K hK => ?_) AllReadyH.nil
        go_simp
        refine (check_any x n _ (HT1.out.drew)).mono ?_
        rintro e y1 ⟨rfl, b1⟩
        have HB_1 := Lib.hid ((below_drew HB1.out).trans (b1.mono HB1.out.size))
        have HT1_1 := Lib.hid ((HT1.out.drew).below b1)
        have HO1_1 := Lib.hid ((HO1.out.drew).below b1)
        have HX1_1 := Lib.hid ((HX1.out.drew).below b1)
        clear b1 hHeld
        go_wp2_with fail
        refine hK.out _ _ HX1_1.out (fun hHeld => ?_)
        clear hK K
        try simp only [Act.put, List.getElem_toArray, List.getElem_cons_succ, List.getElem_cons_zero, List.setIfInBounds_toArray, List.set_cons_zero, List.set_cons_succ]
        refine wpAnyH_ready (rs := [5]) (by kernel_rfl) (by simp) ?_
        refine AllReadyH.cons (by rfl) (fun K hK => ?_) AllReadyH.nil
        go_simp
        refine (rcheck_any x n _).mono ?_
        rintro e y2 ⟨rfl, b2⟩
        have HB_2 := Lib.hid (HB_1.out.trans (b2.mono HB_1.out.size))
        have HT1_2 := Lib.hid ((HT1_1.out).below b2)
        have HO1_2 := Lib.hid ((HO1_1.out).below b2)
        have HX1_2 := Lib.hid ((HX1_1.out).below b2)
        clear b2 hHeld
        clear HB_1 HT1_1 HO1_1 HX1_1
        go_wp2_with fail
        refine hK.out _ _ HX1_2.out (fun hHeld => ?_)
        clear hK K
        try simp only [Act.put, List.getElem_toArray, List.getElem_cons_succ, List.getElem_cons_zero, List.setIfInBounds_toArray, List.set_cons_zero, List.set_cons_succ]
        refine wpAnyH_take (i := 6) (v := ?v9) rfl (by kernel_rfl) (by kernel_rfl) (by kernel_rfl) (fun _ _ _ h => h) (Or.inl ⟨by rfl, ?hy9⟩) hHeld ?rest9
        case hy9 =>
          intro w' hSw
          try dsimp only at hSw
          go_simp
          first | done | with_reducible rfl
        try simp only [Act.put, List.getElem_toArray, List.getElem_cons_succ, List.getElem_cons_zero, List.setIfInBounds_toArray, List.set_cons_zero, List.set_cons_succ]
        refine wpAnyH_done (by kernel_rfl) ?_ _
        refine OnlyN.normal ?_
        clear hHeld
        go_wp2
        go_roundw
        case rel => exact ⟨6 + 1, by omega, by go_num, HB_2.out, HO1_2.out⟩
        case measure => simp [intOf]
      by_cases hcC7 : k = 7
      · skip
        have d0 : decide (k < 5) = false := decide_eq_false (by omega)
        have d1 : decide (k < 8) = true := decide_eq_true (by omega)
        go_wp2_with (first
          | (refine wpList_yields (S := fun w' => ObAt w' w.heap.size 0 o) (y_ob (by rfl) (.tmp 2) (by rfl) w.heap.size 0 (by rfl) o (fun _ h => h)) HOO.out ?_)
          | (refine wpList_store_last rfl (.tmp 7) (.tmp 15) rfl _ rfl rfl o oz rfl ?_))
        subst hcC7
        rw [count_set]
        have HB1 := Lib.hid ((HB0.out (countAs o (4294967296))).alloc (HB0.out (countAs o (4294967296))).size (.cells #[.int .i64 (-1), .int .i64 4294967295, .int .i64 4294967296] 2))
        have HT1 := Lib.hid ((HT0.out (countAs o (4294967296))).alloc (.cells #[.int .i64 (-1), .int .i64 4294967295, .int .i64 4294967296] 2))
        have HO1 := Lib.hid ((HO0.out (countAs o (4294967296))).alloc (.cells #[.int .i64 (-1), .int .i64 4294967295, .int .i64 4294967296] 2))
        have HX1 := Lib.hid ((Blk.new wr 34 (countAs o (4294967296)).cells.toArray).ob.alloc (.cells #[.int .i64 (-1), .int .i64 4294967295, .int .i64 4294967296] 2))
        generalize countAs o (4294967296) = x at HB1 HT1 HO1 HX1 ⊢
        generalize (wr.alloc (.cells x.cells.toArray 34)).alloc (.cells #[.int .i64 (-1), .int .i64 4294967295, .int .i64 4294967296] 2) = w1 at HB1 HT1 HO1 HX1 ⊢
        clear HB0 HT0 HO0 HOO
        refine wp_region_only (S := fun w' => ObAt w' wr.heap.size 0 x) (by kernel_rfl) HX1.out.drew (fun hHeld => ?_)
        refine wpAnyH_take (i := 0) rfl (by kernel_rfl) (by kernel_rfl) (by kernel_rfl) (fun _ _ _ h => h) (y_ob (by rfl) (.tmp 7) (by rfl) wr.heap.size 0 (by rfl) x (fun _ h => h)) hHeld ?_
        try simp only [Act.put, List.getElem_toArray, List.getElem_cons_zero, List.setIfInBounds_toArray, List.set_cons_zero, List.set_cons_succ]
        refine wpAnyH_take (i := 1) (v := ?v10) rfl (by kernel_rfl) (by kernel_rfl) (by kernel_rfl) (fun _ _ _ h => h) (Or.inl ⟨by rfl, ?hy10⟩) hHeld ?rest10
        case hy10 =>
          intro w' hSw
          try dsimp only at hSw
          go_simp
          first | done | with_reducible rfl
        try simp only [Act.put, List.getElem_toArray, List.getElem_cons_succ, List.getElem_cons_zero, List.setIfInBounds_toArray, List.set_cons_zero, List.set_cons_succ]
        refine wpAnyH_take (i := 3) rfl (by kernel_rfl) (by kernel_rfl) (by kernel_rfl) (fun _ _ _ h => h) (y_ob (by rfl) (.tmp 7) (by rfl) wr.heap.size 0 (by rfl) x (fun _ h => h)) hHeld ?_
        try simp only [Act.put, List.getElem_toArray, List.getElem_cons_succ, List.getElem_cons_zero, List.setIfInBounds_toArray, List.set_cons_zero, List.set_cons_succ]
        refine wpAnyH_take (i := 4) (v := ?v11) rfl (by kernel_rfl) (by kernel_rfl) (by kernel_rfl) (fun _ _ _ h => h) (Or.inl ⟨by rfl, ?hy11⟩) hHeld ?rest11
        case hy11 =>
          intro w' hSw
          try dsimp only at hSw
          go_simp
          first | done | with_reducible rfl
        try simp only [Act.put, List.getElem_toArray, List.getElem_cons_succ, List.getElem_cons_zero, List.setIfInBounds_toArray, List.set_cons_zero, List.set_cons_succ]
        refine wpAnyH_ready (rs := [2]) (by kernel_rfl) (by simp) ?_
        refine AllReadyH.cons (by rfl) (fun K hK => ?_) AllReadyH.nil
        go_simp
        refine (check_any x n _ (HT1.out.drew)).mono ?_
        rintro e y1 ⟨rfl, b1⟩
        have HB_1 := Lib.hid ((below_drew HB1.out).trans (b1.mono HB1.out.size))
        have HT1_1 := Lib.hid ((HT1.out.drew).below b1)
        have HO1_1 := Lib.hid ((HO1.out.drew).below b1)
        have HX1_1 := Lib.hid ((HX1.out.drew).below b1)
        clear b1 hHeld
        go_wp2_with fail
        refine hK.out _ _ HX1_1.out (fun hHeld => ?_)
        clear hK K
        try simp only [Act.put, List.getElem_toArray, List.getElem_cons_succ, List.getElem_cons_zero, List.setIfInBounds_toArray, List.set_cons_zero, List.set_cons_succ]
        refine wpAnyH_ready (rs := [5]) (by kernel_rfl) (by simp) ?_
        refine AllReadyH.cons (by rfl) (fun K hK => ?_) AllReadyH.nil
        go_simp
        refine (rcheck_any x n _).mono ?_
        rintro e y2 ⟨rfl, b2⟩
        have HB_2 := Lib.hid (HB_1.out.trans (b2.mono HB_1.out.size))
        have HT1_2 := Lib.hid ((HT1_1.out).below b2)
        have HO1_2 := Lib.hid ((HO1_1.out).below b2)
        have HX1_2 := Lib.hid ((HX1_1.out).below b2)
        clear b2 hHeld
        clear HB_1 HT1_1 HO1_1 HX1_1
        go_wp2_with fail
        refine hK.out _ _ HX1_2.out (fun hHeld => ?_)
        clear hK K
        try simp only [Act.put, List.getElem_toArray, List.getElem_cons_succ, List.getElem_cons_zero, List.setIfInBounds_toArray, List.set_cons_zero, List.set_cons_succ]
        refine wpAnyH_take (i := 6) (v := ?v12) rfl (by kernel_rfl) (by kernel_rfl) (by kernel_rfl) (fun _ _ _ h => h) (Or.inl ⟨by rfl, ?hy12⟩) hHeld ?rest12
        case hy12 =>
          intro w' hSw
          try dsimp only at hSw
          go_simp
          first | done | with_reducible rfl
        try simp only [Act.put, List.getElem_toArray, List.getElem_cons_succ, List.getElem_cons_zero, List.setIfInBounds_toArray, List.set_cons_zero, List.set_cons_succ]
        refine wpAnyH_done (by kernel_rfl) ?_ _
        refine OnlyN.normal ?_
        clear hHeld
        go_wp2
        go_roundw
        case rel => exact ⟨7 + 1, by omega, by go_num, HB_2.out, HO1_2.out⟩
        case measure => simp [intOf]
      by_cases hcL8 : k = 8
      · skip
        have d0 : decide (k < 5) = false := decide_eq_false (by omega)
        have d1 : decide (k < 8) = false := decide_eq_false (by omega)
        have d2 : decide (k < 12) = true := decide_eq_true (by omega)
        go_wp2_with (first
          | (refine wpList_yields (S := fun w' => ObAt w' w.heap.size 0 o) (y_ob (by rfl) (.tmp 2) (by rfl) w.heap.size 0 (by rfl) o (fun _ h => h)) HOO.out ?_)
          | (refine wpList_store_last rfl (.tmp 7) (.tmp 15) rfl _ rfl rfl o oz rfl ?_))
        subst hcL8
        rw [calls_set]
        have HB1 := Lib.hid ((HB0.out (callsAs o (-1))).alloc (HB0.out (callsAs o (-1))).size (.cells #[.int .i64 (-1), .int .i64 1, .int .i64 4294967295, .int .i64 4294967296] 2))
        have HT1 := Lib.hid ((HT0.out (callsAs o (-1))).alloc (.cells #[.int .i64 (-1), .int .i64 1, .int .i64 4294967295, .int .i64 4294967296] 2))
        have HO1 := Lib.hid ((HO0.out (callsAs o (-1))).alloc (.cells #[.int .i64 (-1), .int .i64 1, .int .i64 4294967295, .int .i64 4294967296] 2))
        have HX1 := Lib.hid ((Blk.new wr 34 (callsAs o (-1)).cells.toArray).ob.alloc (.cells #[.int .i64 (-1), .int .i64 1, .int .i64 4294967295, .int .i64 4294967296] 2))
        generalize callsAs o (-1) = x at HB1 HT1 HO1 HX1 ⊢
        generalize (wr.alloc (.cells x.cells.toArray 34)).alloc (.cells #[.int .i64 (-1), .int .i64 1, .int .i64 4294967295, .int .i64 4294967296] 2) = w1 at HB1 HT1 HO1 HX1 ⊢
        clear HB0 HT0 HO0 HOO
        refine wp_region_only (S := fun w' => ObAt w' wr.heap.size 0 x) (by kernel_rfl) HX1.out.drew (fun hHeld => ?_)
        refine wpAnyH_take (i := 0) rfl (by kernel_rfl) (by kernel_rfl) (by kernel_rfl) (fun _ _ _ h => h) (y_ob (by rfl) (.tmp 7) (by rfl) wr.heap.size 0 (by rfl) x (fun _ h => h)) hHeld ?_
        try simp only [Act.put, List.getElem_toArray, List.getElem_cons_zero, List.setIfInBounds_toArray, List.set_cons_zero, List.set_cons_succ]
        refine wpAnyH_take (i := 1) (v := ?v13) rfl (by kernel_rfl) (by kernel_rfl) (by kernel_rfl) (fun _ _ _ h => h) (Or.inl ⟨by rfl, ?hy13⟩) hHeld ?rest13
        case hy13 =>
          intro w' hSw
          try dsimp only at hSw
          go_simp
          first | done | with_reducible rfl
        try simp only [Act.put, List.getElem_toArray, List.getElem_cons_succ, List.getElem_cons_zero, List.setIfInBounds_toArray, List.set_cons_zero, List.set_cons_succ]
        refine wpAnyH_take (i := 3) rfl (by kernel_rfl) (by kernel_rfl) (by kernel_rfl) (fun _ _ _ h => h) (y_ob (by rfl) (.tmp 7) (by rfl) wr.heap.size 0 (by rfl) x (fun _ h => h)) hHeld ?_
        try simp only [Act.put, List.getElem_toArray, List.getElem_cons_succ, List.getElem_cons_zero, List.setIfInBounds_toArray, List.set_cons_zero, List.set_cons_succ]
        refine wpAnyH_take (i := 4) (v := ?v14) rfl (by kernel_rfl) (by kernel_rfl) (by kernel_rfl) (fun _ _ _ h => h) (Or.inl ⟨by rfl, ?hy14⟩) hHeld ?rest14
        case hy14 =>
          intro w' hSw
          try dsimp only at hSw
          go_simp
          first | done | with_reducible rfl
        try simp only [Act.put, List.getElem_toArray, List.getElem_cons_succ, List.getElem_cons_zero, List.setIfInBounds_toArray, List.set_cons_zero, List.set_cons_succ]
        refine wpAnyH_ready (rs := [2]) (by kernel_rfl) (by simp) ?_
        refine AllReadyH.cons (by rfl) (fun K hK => ?_) AllReadyH.nil
        go_simp
        refine (check_any x n _ (HT1.out.drew)).mono ?_
        rintro e y1 ⟨rfl, b1⟩
        have HB_1 := Lib.hid ((below_drew HB1.out).trans (b1.mono HB1.out.size))
        have HT1_1 := Lib.hid ((HT1.out.drew).below b1)
        have HO1_1 := Lib.hid ((HO1.out.drew).below b1)
        have HX1_1 := Lib.hid ((HX1.out.drew).below b1)
        clear b1 hHeld
        go_wp2_with fail
        refine hK.out _ _ HX1_1.out (fun hHeld => ?_)
        clear hK K
        try simp only [Act.put, List.getElem_toArray, List.getElem_cons_succ, List.getElem_cons_zero, List.setIfInBounds_toArray, List.set_cons_zero, List.set_cons_succ]
        refine wpAnyH_ready (rs := [5]) (by kernel_rfl) (by simp) ?_
        refine AllReadyH.cons (by rfl) (fun K hK => ?_) AllReadyH.nil
        go_simp
        refine (rcheck_any x n _).mono ?_
        rintro e y2 ⟨rfl, b2⟩
        have HB_2 := Lib.hid (HB_1.out.trans (b2.mono HB_1.out.size))
        have HT1_2 := Lib.hid ((HT1_1.out).below b2)
        have HO1_2 := Lib.hid ((HO1_1.out).below b2)
        have HX1_2 := Lib.hid ((HX1_1.out).below b2)
        clear b2 hHeld
        clear HB_1 HT1_1 HO1_1 HX1_1
        go_wp2_with fail
        refine hK.out _ _ HX1_2.out (fun hHeld => ?_)
        clear hK K
        try simp only [Act.put, List.getElem_toArray, List.getElem_cons_succ, List.getElem_cons_zero, List.setIfInBounds_toArray, List.set_cons_zero, List.set_cons_succ]
        refine wpAnyH_take (i := 6) (v := ?v15) rfl (by kernel_rfl) (by kernel_rfl) (by kernel_rfl) (fun _ _ _ h => h) (Or.inl ⟨by rfl, ?hy15⟩) hHeld ?rest15
        case hy15 =>
          intro w' hSw
          try dsimp only at hSw
          go_simp
          first | done | with_reducible rfl
        try simp only [Act.put, List.getElem_toArray, List.getElem_cons_succ, List.getElem_cons_zero, List.setIfInBounds_toArray, List.set_cons_zero, List.set_cons_succ]
        refine wpAnyH_done (by kernel_rfl) ?_ _
        refine OnlyN.normal ?_
        clear hHeld
        go_wp2
        go_roundw
        case rel => exact ⟨8 + 1, by omega, by go_num, HB_2.out, HO1_2.out⟩
        case measure => simp [intOf]
      by_cases hcL9 : k = 9
      · skip
        have d0 : decide (k < 5) = false := decide_eq_false (by omega)
        have d1 : decide (k < 8) = false := decide_eq_false (by omega)
        have d2 : decide (k < 12) = true := decide_eq_true (by omega)
        go_wp2_with (first
          | (refine wpList_yields (S := fun w' => ObAt w' w.heap.size 0 o) (y_ob (by rfl) (.tmp 2) (by rfl) w.heap.size 0 (by rfl) o (fun _ h => h)) HOO.out ?_)
          | (refine wpList_store_last rfl (.tmp 7) (.tmp 15) rfl _ rfl rfl o oz rfl ?_))
        subst hcL9
        rw [calls_set]
        have HB1 := Lib.hid ((HB0.out (callsAs o (1))).alloc (HB0.out (callsAs o (1))).size (.cells #[.int .i64 (-1), .int .i64 1, .int .i64 4294967295, .int .i64 4294967296] 2))
        have HT1 := Lib.hid ((HT0.out (callsAs o (1))).alloc (.cells #[.int .i64 (-1), .int .i64 1, .int .i64 4294967295, .int .i64 4294967296] 2))
        have HO1 := Lib.hid ((HO0.out (callsAs o (1))).alloc (.cells #[.int .i64 (-1), .int .i64 1, .int .i64 4294967295, .int .i64 4294967296] 2))
        have HX1 := Lib.hid ((Blk.new wr 34 (callsAs o (1)).cells.toArray).ob.alloc (.cells #[.int .i64 (-1), .int .i64 1, .int .i64 4294967295, .int .i64 4294967296] 2))
        generalize callsAs o (1) = x at HB1 HT1 HO1 HX1 ⊢
        generalize (wr.alloc (.cells x.cells.toArray 34)).alloc (.cells #[.int .i64 (-1), .int .i64 1, .int .i64 4294967295, .int .i64 4294967296] 2) = w1 at HB1 HT1 HO1 HX1 ⊢
        clear HB0 HT0 HO0 HOO
        refine wp_region_only (S := fun w' => ObAt w' wr.heap.size 0 x) (by kernel_rfl) HX1.out.drew (fun hHeld => ?_)
        refine wpAnyH_take (i := 0) rfl (by kernel_rfl) (by kernel_rfl) (by kernel_rfl) (fun _ _ _ h => h) (y_ob (by rfl) (.tmp 7) (by rfl) wr.heap.size 0 (by rfl) x (fun _ h => h)) hHeld ?_
        try simp only [Act.put, List.getElem_toArray, List.getElem_cons_zero, List.setIfInBounds_toArray, List.set_cons_zero, List.set_cons_succ]
        refine wpAnyH_take (i := 1) (v := ?v16) rfl (by kernel_rfl) (by kernel_rfl) (by kernel_rfl) (fun _ _ _ h => h) (Or.inl ⟨by rfl, ?hy16⟩) hHeld ?rest16
        case hy16 =>
          intro w' hSw
          try dsimp only at hSw
          go_simp
          first | done | with_reducible rfl
        try simp only [Act.put, List.getElem_toArray, List.getElem_cons_succ, List.getElem_cons_zero, List.setIfInBounds_toArray, List.set_cons_zero, List.set_cons_succ]
        refine wpAnyH_take (i := 3) rfl (by kernel_rfl) (by kernel_rfl) (by kernel_rfl) (fun _ _ _ h => h) (y_ob (by rfl) (.tmp 7) (by rfl) wr.heap.size 0 (by rfl) x (fun _ h => h)) hHeld ?_
        try simp only [Act.put, List.getElem_toArray, List.getElem_cons_succ, List.getElem_cons_zero, List.setIfInBounds_toArray, List.set_cons_zero, List.set_cons_succ]
        refine wpAnyH_take (i := 4) (v := ?v17) rfl (by kernel_rfl) (by kernel_rfl) (by kernel_rfl) (fun _ _ _ h => h) (Or.inl ⟨by rfl, ?hy17⟩) hHeld ?rest17
        case hy17 =>
          intro w' hSw
          try dsimp only at hSw
          go_simp
          first | done | with_reducible rfl
        try simp only [Act.put, List.getElem_toArray, List.getElem_cons_succ, List.getElem_cons_zero, List.setIfInBounds_toArray, List.set_cons_zero, List.set_cons_succ]
        refine wpAnyH_ready (rs := [2]) (by kernel_rfl) (by simp) ?_
        refine AllReadyH.cons (by rfl) (fun K hK => ?_) AllReadyH.nil
        go_simp
        refine (check_any x n _ (HT1.out.drew)).mono ?_
        rintro e y1 ⟨rfl, b1⟩
        have HB_1 := Lib.hid ((below_drew HB1.out).trans (b1.mono HB1.out.size))
        have HT1_1 := Lib.hid ((HT1.out.drew).below b1)
        have HO1_1 := Lib.hid ((HO1.out.drew).below b1)
        have HX1_1 := Lib.hid ((HX1.out.drew).below b1)
        clear b1 hHeld
        go_wp2_with fail
        refine hK.out _ _ HX1_1.out (fun hHeld => ?_)
        clear hK K
        try simp only [Act.put, List.getElem_toArray, List.getElem_cons_succ, List.getElem_cons_zero, List.setIfInBounds_toArray, List.set_cons_zero, List.set_cons_succ]
        refine wpAnyH_ready (rs := [5]) (by kernel_rfl) (by simp) ?_
        refine AllReadyH.cons (by rfl) (fun K hK => ?_) AllReadyH.nil
        go_simp
        refine (rcheck_any x n _).mono ?_
        rintro e y2 ⟨rfl, b2⟩
        have HB_2 := Lib.hid (HB_1.out.trans (b2.mono HB_1.out.size))
        have HT1_2 := Lib.hid ((HT1_1.out).below b2)
        have HO1_2 := Lib.hid ((HO1_1.out).below b2)
        have HX1_2 := Lib.hid ((HX1_1.out).below b2)
        clear b2 hHeld
        clear HB_1 HT1_1 HO1_1 HX1_1
        go_wp2_with fail
        refine hK.out _ _ HX1_2.out (fun hHeld => ?_)
        clear hK K
        try simp only [Act.put, List.getElem_toArray, List.getElem_cons_succ, List.getElem_cons_zero, List.setIfInBounds_toArray, List.set_cons_zero, List.set_cons_succ]
        refine wpAnyH_take (i := 6) (v := ?v18) rfl (by kernel_rfl) (by kernel_rfl) (by kernel_rfl) (fun _ _ _ h => h) (Or.inl ⟨by rfl, ?hy18⟩) hHeld ?rest18
        case hy18 =>
          intro w' hSw
          try dsimp only at hSw
          go_simp
          first | done | with_reducible rfl
        try simp only [Act.put, List.getElem_toArray, List.getElem_cons_succ, List.getElem_cons_zero, List.setIfInBounds_toArray, List.set_cons_zero, List.set_cons_succ]
        refine wpAnyH_done (by kernel_rfl) ?_ _
        refine OnlyN.normal ?_
        clear hHeld
        go_wp2
        go_roundw
        case rel => exact ⟨9 + 1, by omega, by go_num, HB_2.out, HO1_2.out⟩
        case measure => simp [intOf]
      by_cases hcL10 : k = 10
      · skip
        have d0 : decide (k < 5) = false := decide_eq_false (by omega)
        have d1 : decide (k < 8) = false := decide_eq_false (by omega)
        have d2 : decide (k < 12) = true := decide_eq_true (by omega)
        go_wp2_with (first
          | (refine wpList_yields (S := fun w' => ObAt w' w.heap.size 0 o) (y_ob (by rfl) (.tmp 2) (by rfl) w.heap.size 0 (by rfl) o (fun _ h => h)) HOO.out ?_)
          | (refine wpList_store_last rfl (.tmp 7) (.tmp 15) rfl _ rfl rfl o oz rfl ?_))
        subst hcL10
        rw [calls_set]
        have HB1 := Lib.hid ((HB0.out (callsAs o (4294967295))).alloc (HB0.out (callsAs o (4294967295))).size (.cells #[.int .i64 (-1), .int .i64 1, .int .i64 4294967295, .int .i64 4294967296] 2))
        have HT1 := Lib.hid ((HT0.out (callsAs o (4294967295))).alloc (.cells #[.int .i64 (-1), .int .i64 1, .int .i64 4294967295, .int .i64 4294967296] 2))
        have HO1 := Lib.hid ((HO0.out (callsAs o (4294967295))).alloc (.cells #[.int .i64 (-1), .int .i64 1, .int .i64 4294967295, .int .i64 4294967296] 2))
        have HX1 := Lib.hid ((Blk.new wr 34 (callsAs o (4294967295)).cells.toArray).ob.alloc (.cells #[.int .i64 (-1), .int .i64 1, .int .i64 4294967295, .int .i64 4294967296] 2))
        generalize callsAs o (4294967295) = x at HB1 HT1 HO1 HX1 ⊢
        generalize (wr.alloc (.cells x.cells.toArray 34)).alloc (.cells #[.int .i64 (-1), .int .i64 1, .int .i64 4294967295, .int .i64 4294967296] 2) = w1 at HB1 HT1 HO1 HX1 ⊢
        clear HB0 HT0 HO0 HOO
        refine wp_region_only (S := fun w' => ObAt w' wr.heap.size 0 x) (by kernel_rfl) HX1.out.drew (fun hHeld => ?_)
        refine wpAnyH_take (i := 0) rfl (by kernel_rfl) (by kernel_rfl) (by kernel_rfl) (fun _ _ _ h => h) (y_ob (by rfl) (.tmp 7) (by rfl) wr.heap.size 0 (by rfl) x (fun _ h => h)) hHeld ?_
        try simp only [Act.put, List.getElem_toArray, List.getElem_cons_zero, List.setIfInBounds_toArray, List.set_cons_zero, List.set_cons_succ]
        refine wpAnyH_take (i := 1) (v := ?v19) rfl (by kernel_rfl) (by kernel_rfl) (by kernel_rfl) (fun _ _ _ h => h) (Or.inl ⟨by rfl, ?hy19⟩) hHeld ?rest19
        case hy19 =>
          intro w' hSw
          try dsimp only at hSw
          go_simp
          first | done | with_reducible rfl
        try simp only [Act.put, List.getElem_toArray, List.getElem_cons_succ, List.getElem_cons_zero, List.setIfInBounds_toArray, List.set_cons_zero, List.set_cons_succ]
        refine wpAnyH_take (i := 3) rfl (by kernel_rfl) (by kernel_rfl) (by kernel_rfl) (fun _ _ _ h => h) (y_ob (by rfl) (.tmp 7) (by rfl) wr.heap.size 0 (by rfl) x (fun _ h => h)) hHeld ?_
        try simp only [Act.put, List.getElem_toArray, List.getElem_cons_succ, List.getElem_cons_zero, List.setIfInBounds_toArray, List.set_cons_zero, List.set_cons_succ]
        refine wpAnyH_take (i := 4) (v := ?v20) rfl (by kernel_rfl) (by kernel_rfl) (by kernel_rfl) (fun _ _ _ h => h) (Or.inl ⟨by rfl, ?hy20⟩) hHeld ?rest20
        case hy20 =>
          intro w' hSw
          try dsimp only at hSw
          go_simp
          first | done | with_reducible rfl
        try simp only [Act.put, List.getElem_toArray, List.getElem_cons_succ, List.getElem_cons_zero, List.setIfInBounds_toArray, List.set_cons_zero, List.set_cons_succ]
        refine wpAnyH_ready (rs := [2]) (by kernel_rfl) (by simp) ?_
        refine AllReadyH.cons (by rfl) (fun K hK => ?_) AllReadyH.nil
        go_simp
        refine (check_any x n _ (HT1.out.drew)).mono ?_
        rintro e y1 ⟨rfl, b1⟩
        have HB_1 := Lib.hid ((below_drew HB1.out).trans (b1.mono HB1.out.size))
        have HT1_1 := Lib.hid ((HT1.out.drew).below b1)
        have HO1_1 := Lib.hid ((HO1.out.drew).below b1)
        have HX1_1 := Lib.hid ((HX1.out.drew).below b1)
        clear b1 hHeld
        go_wp2_with fail
        refine hK.out _ _ HX1_1.out (fun hHeld => ?_)
        clear hK K
        try simp only [Act.put, List.getElem_toArray, List.getElem_cons_succ, List.getElem_cons_zero, List.setIfInBounds_toArray, List.set_cons_zero, List.set_cons_succ]
        refine wpAnyH_ready (rs := [5]) (by kernel_rfl) (by simp) ?_
        refine AllReadyH.cons (by rfl) (fun K hK => ?_) AllReadyH.nil
        go_simp
        refine (rcheck_any x n _).mono ?_
        rintro e y2 ⟨rfl, b2⟩
        have HB_2 := Lib.hid (HB_1.out.trans (b2.mono HB_1.out.size))
        have HT1_2 := Lib.hid ((HT1_1.out).below b2)
        have HO1_2 := Lib.hid ((HO1_1.out).below b2)
        have HX1_2 := Lib.hid ((HX1_1.out).below b2)
        clear b2 hHeld
        clear HB_1 HT1_1 HO1_1 HX1_1
        go_wp2_with fail
        refine hK.out _ _ HX1_2.out (fun hHeld => ?_)
        clear hK K
        try simp only [Act.put, List.getElem_toArray, List.getElem_cons_succ, List.getElem_cons_zero, List.setIfInBounds_toArray, List.set_cons_zero, List.set_cons_succ]
        refine wpAnyH_take (i := 6) (v := ?v21) rfl (by kernel_rfl) (by kernel_rfl) (by kernel_rfl) (fun _ _ _ h => h) (Or.inl ⟨by rfl, ?hy21⟩) hHeld ?rest21
        case hy21 =>
          intro w' hSw
          try dsimp only at hSw
          go_simp
          first | done | with_reducible rfl
        try simp only [Act.put, List.getElem_toArray, List.getElem_cons_succ, List.getElem_cons_zero, List.setIfInBounds_toArray, List.set_cons_zero, List.set_cons_succ]
        refine wpAnyH_done (by kernel_rfl) ?_ _
        refine OnlyN.normal ?_
        clear hHeld
        go_wp2
        go_roundw
        case rel => exact ⟨10 + 1, by omega, by go_num, HB_2.out, HO1_2.out⟩
        case measure => simp [intOf]
      by_cases hcL11 : k = 11
      · skip
        have d0 : decide (k < 5) = false := decide_eq_false (by omega)
        have d1 : decide (k < 8) = false := decide_eq_false (by omega)
        have d2 : decide (k < 12) = true := decide_eq_true (by omega)
        go_wp2_with (first
          | (refine wpList_yields (S := fun w' => ObAt w' w.heap.size 0 o) (y_ob (by rfl) (.tmp 2) (by rfl) w.heap.size 0 (by rfl) o (fun _ h => h)) HOO.out ?_)
          | (refine wpList_store_last rfl (.tmp 7) (.tmp 15) rfl _ rfl rfl o oz rfl ?_))
        subst hcL11
        rw [calls_set]
        have HB1 := Lib.hid ((HB0.out (callsAs o (4294967296))).alloc (HB0.out (callsAs o (4294967296))).size (.cells #[.int .i64 (-1), .int .i64 1, .int .i64 4294967295, .int .i64 4294967296] 2))
        have HT1 := Lib.hid ((HT0.out (callsAs o (4294967296))).alloc (.cells #[.int .i64 (-1), .int .i64 1, .int .i64 4294967295, .int .i64 4294967296] 2))
        have HO1 := Lib.hid ((HO0.out (callsAs o (4294967296))).alloc (.cells #[.int .i64 (-1), .int .i64 1, .int .i64 4294967295, .int .i64 4294967296] 2))
        have HX1 := Lib.hid ((Blk.new wr 34 (callsAs o (4294967296)).cells.toArray).ob.alloc (.cells #[.int .i64 (-1), .int .i64 1, .int .i64 4294967295, .int .i64 4294967296] 2))
        generalize callsAs o (4294967296) = x at HB1 HT1 HO1 HX1 ⊢
        generalize (wr.alloc (.cells x.cells.toArray 34)).alloc (.cells #[.int .i64 (-1), .int .i64 1, .int .i64 4294967295, .int .i64 4294967296] 2) = w1 at HB1 HT1 HO1 HX1 ⊢
        clear HB0 HT0 HO0 HOO
        refine wp_region_only (S := fun w' => ObAt w' wr.heap.size 0 x) (by kernel_rfl) HX1.out.drew (fun hHeld => ?_)
        refine wpAnyH_take (i := 0) rfl (by kernel_rfl) (by kernel_rfl) (by kernel_rfl) (fun _ _ _ h => h) (y_ob (by rfl) (.tmp 7) (by rfl) wr.heap.size 0 (by rfl) x (fun _ h => h)) hHeld ?_
        try simp only [Act.put, List.getElem_toArray, List.getElem_cons_zero, List.setIfInBounds_toArray, List.set_cons_zero, List.set_cons_succ]
        refine wpAnyH_take (i := 1) (v := ?v22) rfl (by kernel_rfl) (by kernel_rfl) (by kernel_rfl) (fun _ _ _ h => h) (Or.inl ⟨by rfl, ?hy22⟩) hHeld ?rest22
        case hy22 =>
          intro w' hSw
          try dsimp only at hSw
          go_simp
          first | done | with_reducible rfl
        try simp only [Act.put, List.getElem_toArray, List.getElem_cons_succ, List.getElem_cons_zero, List.setIfInBounds_toArray, List.set_cons_zero, List.set_cons_succ]
        refine wpAnyH_take (i := 3) rfl (by kernel_rfl) (by kernel_rfl) (by kernel_rfl) (fun _ _ _ h => h) (y_ob (by rfl) (.tmp 7) (by rfl) wr.heap.size 0 (by rfl) x (fun _ h => h)) hHeld ?_
        try simp only [Act.put, List.getElem_toArray, List.getElem_cons_succ, List.getElem_cons_zero, List.setIfInBounds_toArray, List.set_cons_zero, List.set_cons_succ]
        refine wpAnyH_take (i := 4) (v := ?v23) rfl (by kernel_rfl) (by kernel_rfl) (by kernel_rfl) (fun _ _ _ h => h) (Or.inl ⟨by rfl, ?hy23⟩) hHeld ?rest23
        case hy23 =>
          intro w' hSw
          try dsimp only at hSw
          go_simp
          first | done | with_reducible rfl
        try simp only [Act.put, List.getElem_toArray, List.getElem_cons_succ, List.getElem_cons_zero, List.setIfInBounds_toArray, List.set_cons_zero, List.set_cons_succ]
        refine wpAnyH_ready (rs := [2]) (by kernel_rfl) (by simp) ?_
        refine AllReadyH.cons (by rfl) (fun K hK => ?_) AllReadyH.nil
        go_simp
        refine (check_any x n _ (HT1.out.drew)).mono ?_
        rintro e y1 ⟨rfl, b1⟩
        have HB_1 := Lib.hid ((below_drew HB1.out).trans (b1.mono HB1.out.size))
        have HT1_1 := Lib.hid ((HT1.out.drew).below b1)
        have HO1_1 := Lib.hid ((HO1.out.drew).below b1)
        have HX1_1 := Lib.hid ((HX1.out.drew).below b1)
        clear b1 hHeld
        go_wp2_with fail
        refine hK.out _ _ HX1_1.out (fun hHeld => ?_)
        clear hK K
        try simp only [Act.put, List.getElem_toArray, List.getElem_cons_succ, List.getElem_cons_zero, List.setIfInBounds_toArray, List.set_cons_zero, List.set_cons_succ]
        refine wpAnyH_ready (rs := [5]) (by kernel_rfl) (by simp) ?_
        refine AllReadyH.cons (by rfl) (fun K hK => ?_) AllReadyH.nil
        go_simp
        refine (rcheck_any x n _).mono ?_
        rintro e y2 ⟨rfl, b2⟩
        have HB_2 := Lib.hid (HB_1.out.trans (b2.mono HB_1.out.size))
        have HT1_2 := Lib.hid ((HT1_1.out).below b2)
        have HO1_2 := Lib.hid ((HO1_1.out).below b2)
        have HX1_2 := Lib.hid ((HX1_1.out).below b2)
        clear b2 hHeld
        clear HB_1 HT1_1 HO1_1 HX1_1
        go_wp2_with fail
        refine hK.out _ _ HX1_2.out (fun hHeld => ?_)
        clear hK K
        try simp only [Act.put, List.getElem_toArray, List.getElem_cons_succ, List.getElem_cons_zero, List.setIfInBounds_toArray, List.set_cons_zero, List.set_cons_succ]
        refine wpAnyH_take (i := 6) (v := ?v24) rfl (by kernel_rfl) (by kernel_rfl) (by kernel_rfl) (fun _ _ _ h => h) (Or.inl ⟨by rfl, ?hy24⟩) hHeld ?rest24
        case hy24 =>
          intro w' hSw
          try dsimp only at hSw
          go_simp
          first | done | with_reducible rfl
        try simp only [Act.put, List.getElem_toArray, List.getElem_cons_succ, List.getElem_cons_zero, List.setIfInBounds_toArray, List.set_cons_zero, List.set_cons_succ]
        refine wpAnyH_done (by kernel_rfl) ?_ _
        refine OnlyN.normal ?_
        clear hHeld
        go_wp2
        go_roundw
        case rel => exact ⟨11 + 1, by omega, by go_num, HB_2.out, HO1_2.out⟩
        case measure => simp [intOf]
      by_cases hcS : k < 24
      · skip
        have d0 : decide (k < 5) = false := decide_eq_false (by omega)
        have d1 : decide (k < 8) = false := decide_eq_false (by omega)
        have d2 : decide (k < 12) = false := decide_eq_false (by omega)
        have d3 : decide (k < 24) = true := decide_eq_true (by omega)
        go_wp2_with (first
          | (refine wpList_yields (S := fun w' => ObAt w' w.heap.size 0 o) (y_ob (by rfl) (.tmp 2) (by rfl) w.heap.size 0 (by rfl) o (fun _ h => h)) HOO.out ?_)
          | (refine wpList_store_last rfl (.tmp 7) (.tmp 15) rfl _ rfl rfl o oz rfl ?_)
          | (refine wpList_store_slot o (k - 10) ⟨(k : Int) - 12, q - 1, 0, 0, 0, 0⟩ rfl (.tmp 54) (.tmp 52) rfl _ (3 + (k - 10) * 6) rfl rfl (by omega) (by rfl) (by rfl) ?_))
        have HB1 := Lib.hid (HB0.out (slotAs o (k - 10) ⟨(k : Int) - 12, q - 1, 0, 0, 0, 0⟩))
        have HT1 := Lib.hid (HT0.out (slotAs o (k - 10) ⟨(k : Int) - 12, q - 1, 0, 0, 0, 0⟩))
        have HO1 := Lib.hid (HO0.out (slotAs o (k - 10) ⟨(k : Int) - 12, q - 1, 0, 0, 0, 0⟩))
        have HX1 := Lib.hid (Blk.new wr 34 (slotAs o (k - 10) ⟨(k : Int) - 12, q - 1, 0, 0, 0, 0⟩).cells.toArray).ob
        generalize slotAs o (k - 10) ⟨(k : Int) - 12, q - 1, 0, 0, 0, 0⟩ = x at HB1 HT1 HO1 HX1 ⊢
        generalize wr.alloc (.cells x.cells.toArray 34) = w1 at HB1 HT1 HO1 HX1 ⊢
        clear HB0 HT0 HO0 HOO
        refine wp_region_only (S := fun w' => ObAt w' wr.heap.size 0 x) (by kernel_rfl) HX1.out.drew (fun hHeld => ?_)
        refine wpAnyH_take (i := 0) rfl (by kernel_rfl) (by kernel_rfl) (by kernel_rfl) (fun _ _ _ h => h) (y_ob (by rfl) (.tmp 7) (by rfl) wr.heap.size 0 (by rfl) x (fun _ h => h)) hHeld ?_
        try simp only [Act.put, List.getElem_toArray, List.getElem_cons_zero, List.setIfInBounds_toArray, List.set_cons_zero, List.set_cons_succ]
        refine wpAnyH_take (i := 1) (v := ?v25) rfl (by kernel_rfl) (by kernel_rfl) (by kernel_rfl) (fun _ _ _ h => h) (Or.inl ⟨by rfl, ?hy25⟩) hHeld ?rest25
        case hy25 =>
          intro w' hSw
          try dsimp only at hSw
          go_simp
          first | done | with_reducible rfl
        try simp only [Act.put, List.getElem_toArray, List.getElem_cons_succ, List.getElem_cons_zero, List.setIfInBounds_toArray, List.set_cons_zero, List.set_cons_succ]
        refine wpAnyH_take (i := 3) rfl (by kernel_rfl) (by kernel_rfl) (by kernel_rfl) (fun _ _ _ h => h) (y_ob (by rfl) (.tmp 7) (by rfl) wr.heap.size 0 (by rfl) x (fun _ h => h)) hHeld ?_
        try simp only [Act.put, List.getElem_toArray, List.getElem_cons_succ, List.getElem_cons_zero, List.setIfInBounds_toArray, List.set_cons_zero, List.set_cons_succ]
        refine wpAnyH_take (i := 4) (v := ?v26) rfl (by kernel_rfl) (by kernel_rfl) (by kernel_rfl) (fun _ _ _ h => h) (Or.inl ⟨by rfl, ?hy26⟩) hHeld ?rest26
        case hy26 =>
          intro w' hSw
          try dsimp only at hSw
          go_simp
          first | done | with_reducible rfl
        try simp only [Act.put, List.getElem_toArray, List.getElem_cons_succ, List.getElem_cons_zero, List.setIfInBounds_toArray, List.set_cons_zero, List.set_cons_succ]
        refine wpAnyH_ready (rs := [2]) (by kernel_rfl) (by simp) ?_
        refine AllReadyH.cons (by rfl) (fun K hK => ?_) AllReadyH.nil
        go_simp
        refine (check_any x n _ (HT1.out.drew)).mono ?_
        rintro e y1 ⟨rfl, b1⟩
        have HB_1 := Lib.hid ((below_drew HB1.out).trans (b1.mono HB1.out.size))
        have HT1_1 := Lib.hid ((HT1.out.drew).below b1)
        have HO1_1 := Lib.hid ((HO1.out.drew).below b1)
        have HX1_1 := Lib.hid ((HX1.out.drew).below b1)
        clear b1 hHeld
        go_wp2_with fail
        refine hK.out _ _ HX1_1.out (fun hHeld => ?_)
        clear hK K
        try simp only [Act.put, List.getElem_toArray, List.getElem_cons_succ, List.getElem_cons_zero, List.setIfInBounds_toArray, List.set_cons_zero, List.set_cons_succ]
        refine wpAnyH_ready (rs := [5]) (by kernel_rfl) (by simp) ?_
        refine AllReadyH.cons (by rfl) (fun K hK => ?_) AllReadyH.nil
        go_simp
        refine (rcheck_any x n _).mono ?_
        rintro e y2 ⟨rfl, b2⟩
        have HB_2 := Lib.hid (HB_1.out.trans (b2.mono HB_1.out.size))
        have HT1_2 := Lib.hid ((HT1_1.out).below b2)
        have HO1_2 := Lib.hid ((HO1_1.out).below b2)
        have HX1_2 := Lib.hid ((HX1_1.out).below b2)
        clear b2 hHeld
        clear HB_1 HT1_1 HO1_1 HX1_1
        go_wp2_with fail
        refine hK.out _ _ HX1_2.out (fun hHeld => ?_)
        clear hK K
        try simp only [Act.put, List.getElem_toArray, List.getElem_cons_succ, List.getElem_cons_zero, List.setIfInBounds_toArray, List.set_cons_zero, List.set_cons_succ]
        refine wpAnyH_take (i := 6) (v := ?v27) rfl (by kernel_rfl) (by kernel_rfl) (by kernel_rfl) (fun _ _ _ h => h) (Or.inl ⟨by rfl, ?hy27⟩) hHeld ?rest27
        case hy27 =>
          intro w' hSw
          try dsimp only at hSw
          go_simp
          first | done | with_reducible rfl
        try simp only [Act.put, List.getElem_toArray, List.getElem_cons_succ, List.getElem_cons_zero, List.setIfInBounds_toArray, List.set_cons_zero, List.set_cons_succ]
        refine wpAnyH_done (by kernel_rfl) ?_ _
        refine OnlyN.normal ?_
        clear hHeld
        go_wp2
        go_roundw
        case rel => exact ⟨k + 1, by omega, by go_num, HB_2.out, HO1_2.out⟩
        case measure => simp [intOf]; omega
      by_cases hcT : k < 30
      · skip
        have d0 : decide (k < 5) = false := decide_eq_false (by omega)
        have d1 : decide (k < 8) = false := decide_eq_false (by omega)
        have d2 : decide (k < 12) = false := decide_eq_false (by omega)
        have d3 : decide (k < 24) = false := decide_eq_false (by omega)
        have d4 : decide (k < 30) = true := decide_eq_true (by omega)
        go_wp2_with (first
          | (refine wpList_yields (S := fun w' => ObAt w' w.heap.size 0 o) (y_ob (by rfl) (.tmp 2) (by rfl) w.heap.size 0 (by rfl) o (fun _ h => h)) HOO.out ?_)
          | (refine wpList_store_last rfl (.tmp 7) (.tmp 15) rfl _ rfl rfl o oz rfl ?_)
          | (refine wpList_store_slot o (k - 24) ⟨2, q + (k : Int) - 27, 0, 0, 0, 0⟩ rfl (.tmp 66) (.tmp 64) rfl _ (3 + (k - 24) * 6) rfl rfl (by omega) (by rfl) (by rfl) ?_))
        have HB1 := Lib.hid (HB0.out (slotAs o (k - 24) ⟨2, q + (k : Int) - 27, 0, 0, 0, 0⟩))
        have HT1 := Lib.hid (HT0.out (slotAs o (k - 24) ⟨2, q + (k : Int) - 27, 0, 0, 0, 0⟩))
        have HO1 := Lib.hid (HO0.out (slotAs o (k - 24) ⟨2, q + (k : Int) - 27, 0, 0, 0, 0⟩))
        have HX1 := Lib.hid (Blk.new wr 34 (slotAs o (k - 24) ⟨2, q + (k : Int) - 27, 0, 0, 0, 0⟩).cells.toArray).ob
        generalize slotAs o (k - 24) ⟨2, q + (k : Int) - 27, 0, 0, 0, 0⟩ = x at HB1 HT1 HO1 HX1 ⊢
        generalize wr.alloc (.cells x.cells.toArray 34) = w1 at HB1 HT1 HO1 HX1 ⊢
        clear HB0 HT0 HO0 HOO
        refine wp_region_only (S := fun w' => ObAt w' wr.heap.size 0 x) (by kernel_rfl) HX1.out.drew (fun hHeld => ?_)
        refine wpAnyH_take (i := 0) rfl (by kernel_rfl) (by kernel_rfl) (by kernel_rfl) (fun _ _ _ h => h) (y_ob (by rfl) (.tmp 7) (by rfl) wr.heap.size 0 (by rfl) x (fun _ h => h)) hHeld ?_
        try simp only [Act.put, List.getElem_toArray, List.getElem_cons_zero, List.setIfInBounds_toArray, List.set_cons_zero, List.set_cons_succ]
        refine wpAnyH_take (i := 1) (v := ?v28) rfl (by kernel_rfl) (by kernel_rfl) (by kernel_rfl) (fun _ _ _ h => h) (Or.inl ⟨by rfl, ?hy28⟩) hHeld ?rest28
        case hy28 =>
          intro w' hSw
          try dsimp only at hSw
          go_simp
          first | done | with_reducible rfl
        try simp only [Act.put, List.getElem_toArray, List.getElem_cons_succ, List.getElem_cons_zero, List.setIfInBounds_toArray, List.set_cons_zero, List.set_cons_succ]
        refine wpAnyH_take (i := 3) rfl (by kernel_rfl) (by kernel_rfl) (by kernel_rfl) (fun _ _ _ h => h) (y_ob (by rfl) (.tmp 7) (by rfl) wr.heap.size 0 (by rfl) x (fun _ h => h)) hHeld ?_
        try simp only [Act.put, List.getElem_toArray, List.getElem_cons_succ, List.getElem_cons_zero, List.setIfInBounds_toArray, List.set_cons_zero, List.set_cons_succ]
        refine wpAnyH_take (i := 4) (v := ?v29) rfl (by kernel_rfl) (by kernel_rfl) (by kernel_rfl) (fun _ _ _ h => h) (Or.inl ⟨by rfl, ?hy29⟩) hHeld ?rest29
        case hy29 =>
          intro w' hSw
          try dsimp only at hSw
          go_simp
          first | done | with_reducible rfl
        try simp only [Act.put, List.getElem_toArray, List.getElem_cons_succ, List.getElem_cons_zero, List.setIfInBounds_toArray, List.set_cons_zero, List.set_cons_succ]
        refine wpAnyH_ready (rs := [2]) (by kernel_rfl) (by simp) ?_
        refine AllReadyH.cons (by rfl) (fun K hK => ?_) AllReadyH.nil
        go_simp
        refine (check_any x n _ (HT1.out.drew)).mono ?_
        rintro e y1 ⟨rfl, b1⟩
        have HB_1 := Lib.hid ((below_drew HB1.out).trans (b1.mono HB1.out.size))
        have HT1_1 := Lib.hid ((HT1.out.drew).below b1)
        have HO1_1 := Lib.hid ((HO1.out.drew).below b1)
        have HX1_1 := Lib.hid ((HX1.out.drew).below b1)
        clear b1 hHeld
        go_wp2_with fail
        refine hK.out _ _ HX1_1.out (fun hHeld => ?_)
        clear hK K
        try simp only [Act.put, List.getElem_toArray, List.getElem_cons_succ, List.getElem_cons_zero, List.setIfInBounds_toArray, List.set_cons_zero, List.set_cons_succ]
        refine wpAnyH_ready (rs := [5]) (by kernel_rfl) (by simp) ?_
        refine AllReadyH.cons (by rfl) (fun K hK => ?_) AllReadyH.nil
        go_simp
        refine (rcheck_any x n _).mono ?_
        rintro e y2 ⟨rfl, b2⟩
        have HB_2 := Lib.hid (HB_1.out.trans (b2.mono HB_1.out.size))
        have HT1_2 := Lib.hid ((HT1_1.out).below b2)
        have HO1_2 := Lib.hid ((HO1_1.out).below b2)
        have HX1_2 := Lib.hid ((HX1_1.out).below b2)
        clear b2 hHeld
        clear HB_1 HT1_1 HO1_1 HX1_1
        go_wp2_with fail
        refine hK.out _ _ HX1_2.out (fun hHeld => ?_)
        clear hK K
        try simp only [Act.put, List.getElem_toArray, List.getElem_cons_succ, List.getElem_cons_zero, List.setIfInBounds_toArray, List.set_cons_zero, List.set_cons_succ]
        refine wpAnyH_take (i := 6) (v := ?v30) rfl (by kernel_rfl) (by kernel_rfl) (by kernel_rfl) (fun _ _ _ h => h) (Or.inl ⟨by rfl, ?hy30⟩) hHeld ?rest30
        case hy30 =>
          intro w' hSw
          try dsimp only at hSw
          go_simp
          first | done | with_reducible rfl
        try simp only [Act.put, List.getElem_toArray, List.getElem_cons_succ, List.getElem_cons_zero, List.setIfInBounds_toArray, List.set_cons_zero, List.set_cons_succ]
        refine wpAnyH_done (by kernel_rfl) ?_ _
        refine OnlyN.normal ?_
        clear hHeld
        go_wp2
        go_roundw
        case rel => exact ⟨k + 1, by omega, by go_num, HB_2.out, HO1_2.out⟩
        case measure => simp [intOf]; omega
      have d0 : decide (k < 5) = false := decide_eq_false (by omega)
      have d1 : decide (k < 8) = false := decide_eq_false (by omega)
      have d2 : decide (k < 12) = false := decide_eq_false (by omega)
      have d3 : decide (k < 24) = false := decide_eq_false (by omega)
      have d4 : decide (k < 30) = false := decide_eq_false (by omega)
      have hk64 : k < o.b.length := by rw [o.hb]; omega
      have hbyte := byte_of_range (Blk.new wr 34 o.cells.toArray).ob.bytes k hk64
      simp only [Nat.zero_add] at hbyte
      generalize ((o.b[k]'hk64).toNat : Int) = q8 at hbyte
      go_wp2_with (first
        | (refine wpList_yields (S := fun w' => ObAt w' w.heap.size 0 o) (y_ob (by rfl) (.tmp 2) (by rfl) w.heap.size 0 (by rfl) o (fun _ h => h)) HOO.out ?_)
        | (refine wpList_store_last rfl (.tmp 7) (.tmp 15) rfl _ rfl rfl o oz rfl ?_))
      rw [byte_set1]
      have HB1 := Lib.hid (HB0.out (byteAs o k 1))
      have HT1 := Lib.hid (HT0.out (byteAs o k 1))
      have HO1 := Lib.hid (HO0.out (byteAs o k 1))
      have HX1 := Lib.hid (Blk.new wr 34 (byteAs o k 1).cells.toArray).ob
      generalize byteAs o k 1 = x at HB1 HT1 HO1 HX1 ⊢
      generalize wr.alloc (.cells x.cells.toArray 34) = w1 at HB1 HT1 HO1 HX1 ⊢
      clear HB0 HT0 HO0 HOO
      refine wp_region_only (S := fun w' => ObAt w' wr.heap.size 0 x) (by kernel_rfl) HX1.out.drew (fun hHeld => ?_)
      refine wpAnyH_take (i := 0) rfl (by kernel_rfl) (by kernel_rfl) (by kernel_rfl) (fun _ _ _ h => h) (y_ob (by rfl) (.tmp 7) (by rfl) wr.heap.size 0 (by rfl) x (fun _ h => h)) hHeld ?_
      try simp only [Act.put, List.getElem_toArray, List.getElem_cons_zero, List.setIfInBounds_toArray, List.set_cons_zero, List.set_cons_succ]
      refine wpAnyH_take (i := 1) (v := ?v31) rfl (by kernel_rfl) (by kernel_rfl) (by kernel_rfl) (fun _ _ _ h => h) (Or.inl ⟨by rfl, ?hy31⟩) hHeld ?rest31
      case hy31 =>
        intro w' hSw
        try dsimp only at hSw
        go_simp
        first | done | with_reducible rfl
      try simp only [Act.put, List.getElem_toArray, List.getElem_cons_succ, List.getElem_cons_zero, List.setIfInBounds_toArray, List.set_cons_zero, List.set_cons_succ]
      refine wpAnyH_take (i := 3) rfl (by kernel_rfl) (by kernel_rfl) (by kernel_rfl) (fun _ _ _ h => h) (y_ob (by rfl) (.tmp 7) (by rfl) wr.heap.size 0 (by rfl) x (fun _ h => h)) hHeld ?_
      try simp only [Act.put, List.getElem_toArray, List.getElem_cons_succ, List.getElem_cons_zero, List.setIfInBounds_toArray, List.set_cons_zero, List.set_cons_succ]
      refine wpAnyH_take (i := 4) (v := ?v32) rfl (by kernel_rfl) (by kernel_rfl) (by kernel_rfl) (fun _ _ _ h => h) (Or.inl ⟨by rfl, ?hy32⟩) hHeld ?rest32
      case hy32 =>
        intro w' hSw
        try dsimp only at hSw
        go_simp
        first | done | with_reducible rfl
      try simp only [Act.put, List.getElem_toArray, List.getElem_cons_succ, List.getElem_cons_zero, List.setIfInBounds_toArray, List.set_cons_zero, List.set_cons_succ]
      refine wpAnyH_ready (rs := [2]) (by kernel_rfl) (by simp) ?_
      refine AllReadyH.cons (by rfl) (fun K hK => ?_) AllReadyH.nil
      go_simp
      refine (check_any x n _ (HT1.out.drew)).mono ?_
      rintro e y1 ⟨rfl, b1⟩
      have HB_1 := Lib.hid ((below_drew HB1.out).trans (b1.mono HB1.out.size))
      have HT1_1 := Lib.hid ((HT1.out.drew).below b1)
      have HO1_1 := Lib.hid ((HO1.out.drew).below b1)
      have HX1_1 := Lib.hid ((HX1.out.drew).below b1)
      clear b1 hHeld
      go_wp2_with fail
      refine hK.out _ _ HX1_1.out (fun hHeld => ?_)
      clear hK K
      try simp only [Act.put, List.getElem_toArray, List.getElem_cons_succ, List.getElem_cons_zero, List.setIfInBounds_toArray, List.set_cons_zero, List.set_cons_succ]
      refine wpAnyH_ready (rs := [5]) (by kernel_rfl) (by simp) ?_
      refine AllReadyH.cons (by rfl) (fun K hK => ?_) AllReadyH.nil
      go_simp
      refine (rcheck_any x n _).mono ?_
      rintro e y2 ⟨rfl, b2⟩
      have HB_2 := Lib.hid (HB_1.out.trans (b2.mono HB_1.out.size))
      have HT1_2 := Lib.hid ((HT1_1.out).below b2)
      have HO1_2 := Lib.hid ((HO1_1.out).below b2)
      have HX1_2 := Lib.hid ((HX1_1.out).below b2)
      clear b2 hHeld
      clear HB_1 HT1_1 HO1_1 HX1_1
      go_wp2_with fail
      refine hK.out _ _ HX1_2.out (fun hHeld => ?_)
      clear hK K
      try simp only [Act.put, List.getElem_toArray, List.getElem_cons_succ, List.getElem_cons_zero, List.setIfInBounds_toArray, List.set_cons_zero, List.set_cons_succ]
      refine wpAnyH_take (i := 6) (v := ?v33) rfl (by kernel_rfl) (by kernel_rfl) (by kernel_rfl) (fun _ _ _ h => h) (Or.inl ⟨by rfl, ?hy33⟩) hHeld ?rest33
      case hy33 =>
        intro w' hSw
        try dsimp only at hSw
        go_simp
        first | done | with_reducible rfl
      try simp only [Act.put, List.getElem_toArray, List.getElem_cons_succ, List.getElem_cons_zero, List.setIfInBounds_toArray, List.set_cons_zero, List.set_cons_succ]
      refine wpAnyH_done (by kernel_rfl) ?_ _
      refine OnlyN.normal ?_
      clear hHeld
      go_wp2
      go_roundw
      case rel => exact ⟨k + 1, by omega, by go_num, HB_2.out, HO1_2.out⟩
      case measure => simp [intOf]; omega
    · obtain rfl : k = 40 := by omega
      have HB0 := Lib.hid hb
      have HT0 := Lib.hid (HT.out.below hb)
      clear hb ho
      go_wp2_with (go_at_call 11; refine (known_any _ HT0.out).mono ?_; rintro e v9 ⟨rfl, b_⟩; have B9 := Lib.hid (HB0.out.trans (b_.mono HB0.out.size)); clear b_)
      go_ret
      exact ⟨rfl, B9.out⟩
theorem walk (w : World) (hL : laidMetH Tryd.prog laidK w) (o : Oj) (n : Int) : Calls Tryd.prog 10 #[o.val, .int .i64 n] w fun e w' => e = .returned (.bool true) ∧ Below w.heap.size w w' := walk0 w (tab_of hL) o n
set_option maxRecDepth 100000 in
theorem lifted (os : Os) (started : os.Started) (H : Type) (enc : TypeId × Value → H) :
    ReturnsInHanded {} Tryd.checked os 10 .any (fun w args => (Rows.objectsNearSpec.pre enc Tryd.prog Tryd.f10 [] false w args ∧ laidMetH Tryd.prog laidK w) ∧ sizedMet enc Tryd.prog Tryd.f10 (OpenSpec.ofChange Rows.objectsNearSpec) false w args) (Rows.objectsNearSpec.post enc Tryd.prog Tryd.f10 false true false false) := by
  refine returnsInHanded_of_change_and (C := Tryd.checked) (X := fun w _ => laidMetH Tryd.prog laidK w) (fun _ _ _ hh h => h.of_heap hh) own started (by kernel_rfl) Tryd.func10
    (ChangeSpec.witness_shaped (enc := enc) (C := Tryd.checked) (os := os) (X := fun w _ => laidMetH Tryd.prog laidK w) false (World.doorLaid Tryd.prog 40 os) #[.agg (List.replicate 99 (Value.int .i64 0) ++ List.replicate 64 (Value.int .u8 0)).toArray, .int .i64 0] 8 rfl (World.shaped_of_RefB (by kernel_rfl) (by kernel_rfl)) (by kernel_rfl) (by kernel_rfl) (by kernel_rfl) (door_met os _)) ?_
  intro W base args ds gs before hval0 hW _ _ hL _
  have hval : ∀ (j : Nat) t v, Tryd.f10.params[j]? = some t → args[j]? = some v → Value.okWide Tryd.prog W .any base t v := hval0
  have hW' := hW
  obtain ⟨p, q, hA0, hV, rfl, hfz, hnd⟩ := hW
  have hA : DataW.TrodAll enc Tryd.prog W 0 (fun _ => true) true Tryd.f10.params.toList args.toList ds p := hA0
  rw [Tryd.params10] at hA hval
  obtain ⟨v0, vs0, d0, ds0, p0, q0, hargs, rfl, rfl, h0, t0⟩ := trodAll_cons hA
  obtain ⟨v1, vs1, d1, ds1, p1, q1, rfl, rfl, rfl, h1, t1⟩ := trodAll_cons t0
  obtain ⟨rfl, rfl, rfl⟩ := trodAll_nil t1
  obtain rfl : args = #[v0, v1] := by cases args; simp_all
  obtain ⟨rfl, rfl⟩ := trodVars_none hV
  have k0 := h0
  have lt0 : ∀ x ∈ p0, x.block < W.heap.size := by obtain ⟨m, hm⟩ := k0; exact DataW.trod_lt m _ _ _ hm
  obtain ⟨o0, rfl⟩ := open_ob (hval 0 34 v0 rfl rfl) h0
  have k1 := h1
  have lt1 : ∀ x ∈ p1, x.block < W.heap.size := by obtain ⟨m, hm⟩ := k1; exact DataW.trod_lt m _ _ _ hm
  obtain ⟨a1, rfl, rfl, rfl, _⟩ := open_int Tryd.underlying3 (hval 1 3 v1 rfl rfl) h1
  clear hA0 hval0
  refine (walk W hL o0 a1).mono fun e W' ⟨he, bel⟩ => ?_
  subst he
  exact ⟨_, rfl, _, _, _, [], _, [], hW', trodAll_mk1 (shut_bool Tryd.underlying4 _), (trodAll_cons_mk (Below.trod laidOut (by kernel_rfl) (of_decide_eq_true (by kernel_rfl)) k0 bel lt0) (trodAll_cons_mk (Below.trod laidOut (by kernel_rfl) (of_decide_eq_true (by kernel_rfl)) k1 bel lt1) trodAll_mk0)), rfl, bel.frame _, fun h => by cases h⟩
theorem over : Rows.objectsNearRow.holds Tryd.pinned (OpenSpec.ofChange Rows.objectsNearSpec) :=
  OpenClaim.holds_of_wide 10 Tryd.f10 rfl rfl rfl rfl rfl rfl rfl ⟨rfl, rfl, rfl, rfl, rfl⟩ rfl rfl rfl rfl rfl (by kernel_rfl) Tryd.func10 (by kernel_rfl)
    (of_decide_eq_true (by kernel_rfl)) (by unfold Func.isWrapper; first | (rw [if_pos (by decide +kernel)]; kernel_rfl) | (rw [if_neg (by decide +kernel)]; exact ⟨rfl, rfl⟩))
    (fun os started H enc _ => lifted os started H enc)
theorem proved : Rows.ObjectsNearCardSaid :=
  Claim7.holds_tied_plain_at .later [] [.data] true Rows.objectsNearCard.stood.harness false
    over (fun _ h => by cases h) (by kernel_rfl) (fun _ h => by cases h) objectsNear_row_tie rfl ⟨rfl, rfl⟩ (by kernel_rfl) rfl
    (fun f fn hf hfn => by
      obtain rfl : f = 10 := Option.some.inj ((show Tryd.prog.funcNamed "chatelaine/chatelainelaw04.ObjectsNear" = some 10 by kernel_rfl).symm.trans hf) |>.symm
      obtain rfl : fn = Tryd.f10 := (Option.some.inj (Tryd.func10.symm.trans hfn)).symm
      exact ⟨by kernel_rfl, fun j t ht => by
        rw [Tryd.params10] at ht
        have hm : t ∈ [34, 3] := by simpa using Array.mem_of_getElem? ht
        have hall : ([34, 3].all fun u => !Tryd.prog.wantsStandIn u) = true := by kernel_rfl
        exact (show Tryd.prog.wantsStandIn t = false by simpa using List.all_eq_true.1 hall t hm)⟩)
    (by kernel_rfl)
end Go.Proofs.YtlhlgfehbfankaaDoor.objectsNear

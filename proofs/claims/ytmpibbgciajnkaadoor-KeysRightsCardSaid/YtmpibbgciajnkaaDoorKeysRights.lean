/- The law KeysRights returns true for every input: keys.Within, Check and Less of any key with each Rights are the definition's. No condition but that the listed variables read as the program's own text lays them; the card ties them to it. -/
import Derived.Test.YtmpibbgciajnkaaDoorKAny
import Derived.Test.YtmpibbgciajnkaaDoorKFr
import Derived.Test.YtmpibbgciajnkaaDoorRegIn
namespace Go.Proofs.YtmpibbgciajnkaaDoor.keysRights
open Go.ChangeShapes Go.WideShapes Go.ChangeAt Go.RowKit
attribute [local go_sem] Oper.semAt_some
theorem set4 {w : World} {g : Nat} {t : TypeId} {k o c l r v : Int} (h : Blk w g t (kc k o c l r v)) (n : Int) : Blk (w.setCell ⟨g, 4, none⟩ (.int .i64 n)) g t (kc k o c l n v) := by
  have := h.set_ 4 (.int .i64 n)
  simpa using this
theorem tab_set {w : World} (h : Tab w) {p : Addr} {u : Value} (hp : 0 ≠ p.block) : Tab (w.setCell p u) := fun k hk j v hv => (World.cell?_setCell_other w p _ u (fun e => hp (congrArg Addr.block e).symm)).trans (h k hk j v hv)
theorem sameK_self (k o c l r v : Int) : (!sameK k o c l r v k o c l r v) = false := by simp [sameK]
theorem okr_no {x : Ky} (h : x.r < 0 ∨ 7 < x.r) : ¬ x.ok := fun ho => by
  obtain ⟨_, n, hn, _, h8⟩ := ok_of ho
  omega
set_option maxRecDepth 100000 in
set_option maxHeartbeats 8000000 in
theorem walk0 (w : World) (hT : Tab w) (x : Ky) :
    Calls Tryd.prog 11 #[x.val] w fun e w' => e = .returned (.bool true) ∧ Below w.heap.size w w' := by
  have HT0 := Lib.hid (hT.alloc (.cells (kc x.k x.o x.c x.l x.r x.v) 25))
  have HB0 := Lib.hid ((Below.refl w.heap.size w).alloc (Nat.le_refl _) (.cells (kc x.k x.o x.c x.l x.r x.v) 25))
  have G1 := Lib.hid (show Blk (w.alloc (.cells (kc x.k x.o x.c x.l x.r x.v) 25)) (w.heap.size) 25 (kc x.k x.o x.c x.l x.r x.v) from (by have := Blk.new w 25 (kc x.k x.o x.c x.l x.r x.v); simpa using this))
  have hgl := hT.lt
  clear hT
  go_enter Tryd.func11, Tryd.ntmps11
  go_wp2
  generalize w.alloc (.cells (kc x.k x.o x.c x.l x.r x.v) 25) = w0 at HT0 HB0 G1 ⊢
  go_loopw [3] (fun i wr => ∃ n : Nat, n ≤ 9 ∧ i = .int .i64 n ∧ Below w.heap.size w wr ∧ Blk wr w.heap.size 25 (kc x.k x.o x.c x.l x.r x.v) ∧ Tab wr) (fun i _ => 10 - (intOf i).toNat)
  case atStart => exact ⟨0, by omega, rfl, HB0.out, G1.out, HT0.out⟩
  case round =>
    obtain ⟨n, hn, rfl, hb, hg, ht⟩ := hrel
    clear HT0 HB0 G1
    by_cases hlt : n < 9
    · have hlt' : (n : Int) < 9 := by omega
      have d9 : decide ((n : Int) < 9) = true := by simpa using hlt'
      clear hlt'
      have HB0 := Lib.hid hb
      have G1 := Lib.hid hg
      have HT0 := Lib.hid ht
      clear hb hg ht
      go_wp2
      go_loopw [4] (fun j wq => ∃ m : Nat, m ≤ 9 ∧ j = .int .i64 m ∧ Below w.heap.size w wq ∧ Blk wq w.heap.size 25 (kc x.k x.o x.c x.l x.r x.v) ∧ Tab wq) (fun j _ => 10 - (intOf j).toNat)
      case atStart => exact ⟨0, by omega, rfl, HB0.out, G1.out, HT0.out⟩
      case round =>
        obtain ⟨m, hm, rfl, hb, hg, ht⟩ := hrel
        clear HB0 G1 HT0
        by_cases hmt : m < 9
        · have HB0 := Lib.hid hb
          have G1 := Lib.hid hg
          have HT0 := Lib.hid ht
          have hz := hg.lt
          obtain ⟨c0, c1, c2, c3, c4, c5⟩ := hg.six
          clear hb hg ht
          go_wp2
          go_region
          all_goals
            have HX1 := Lib.hid (((Blk.new wr 25 (kc x.k x.o x.c x.l x.r x.v)).alloc (.cells (kc x.k x.o x.c x.l x.r x.v) 25)).drew)
            have HX2 := Lib.hid (show Blk ((wr.alloc (.cells (kc x.k x.o x.c x.l x.r x.v) 25)).alloc (.cells (kc x.k x.o x.c x.l x.r x.v) 25)).drew (wr.heap.size + 1) 25 (kc x.k x.o x.c x.l x.r x.v) from by have := Blk.new (wr.alloc (.cells (kc x.k x.o x.c x.l x.r x.v) 25)) 25 (kc x.k x.o x.c x.l x.r x.v); simp only [World.size_alloc] at this; exact this.drew)
            have HBx := Lib.hid (below_drew ((HB0.out.alloc HB0.out.size (.cells (kc x.k x.o x.c x.l x.r x.v) 25)).alloc (by have := HB0.out.size; simp; omega) (.cells (kc x.k x.o x.c x.l x.r x.v) 25)))
            have GKx := Lib.hid (((G1.out.alloc (.cells (kc x.k x.o x.c x.l x.r x.v) 25)).alloc (.cells (kc x.k x.o x.c x.l x.r x.v) 25)).drew)
            have HTx := Lib.hid (((HT0.out.alloc (.cells (kc x.k x.o x.c x.l x.r x.v) 25)).alloc (.cells (kc x.k x.o x.c x.l x.r x.v) 25)).drew)
            generalize ((wr.alloc (.cells (kc x.k x.o x.c x.l x.r x.v) 25)).alloc (.cells (kc x.k x.o x.c x.l x.r x.v) 25)).drew = wx at HX1 HX2 HBx GKx HTx ⊢
            clear c0 c1 c2 c3 c4 c5 G1 HT0 HB0
            have hsz : w.heap.size < wr.heap.size := hz
            clear hz
            have HTz := Lib.hid (show 0 < w.heap.size from hgl)
          · have GX := HX1
            have GY := HX2
            clear HX1 HX2
            obtain ⟨p5, hp5⟩ : ∃ p, p = wr.heap.size := ⟨_, rfl⟩
            obtain ⟨p6, hp6⟩ : ∃ p, p = wr.heap.size + 1 := ⟨_, rfl⟩
            have hne : p5 ≠ p6 := by omega
            have hge5 : w.heap.size < p5 := by omega
            have hge6 : w.heap.size < p6 := by omega
            rw [← hp5] at GX
            rw [← hp6] at GY
            simp only [← hp6]
            simp only [← hp5]
            clear hp5 hp6 hsz
            have hge5' : ¬ w.heap.size = p5 := by omega
            have hge6' : ¬ w.heap.size = p6 := by omega
            have hne' : ¬ p5 = p6 := hne
            have hne2 : ¬ p6 = p5 := fun e => hne e.symm
            obtain ⟨c0, c1, c2, c3, c4, c5⟩ := GX.out.six
            obtain ⟨d0, d1, d2, d3, d4, d5⟩ := GY.out.six
            have f0 := GX.out.frozen
            have f1 := GY.out.frozen
            go_wp2
            obtain ⟨xa, hxa⟩ : ∃ y : Ky, y = ⟨x.k, x.o, x.c, x.l, (n : Int), x.v⟩ := ⟨_, rfl⟩
            obtain ⟨xb, hxb⟩ : ∃ y : Ky, y = ⟨x.k, x.o, x.c, x.l, (m : Int), x.v⟩ := ⟨_, rfl⟩
            have GXy := Lib.hid (show Blk ((wx.setCell ⟨p5, 4, none⟩ (.int .i64 n)).setCell ⟨p6, 4, none⟩ (.int .i64 m)) p5 25 (kc xa.k xa.o xa.c xa.l xa.r xa.v) from by rw [hxa]; exact (set4 GX.out n).far (p := ⟨p6, 4, none⟩) hne (.int .i64 m))
            have GYy := Lib.hid (show Blk ((wx.setCell ⟨p5, 4, none⟩ (.int .i64 n)).setCell ⟨p6, 4, none⟩ (.int .i64 m)) p6 25 (kc xb.k xb.o xb.c xb.l xb.r xb.v) from by rw [hxb]; exact set4 (GY.out.far (p := ⟨p5, 4, none⟩) (fun e => hne e.symm) (.int .i64 n)) m)
            have GKy := Lib.hid ((GKx.out.far (p := ⟨p5, 4, none⟩) hge5' (.int .i64 n)).far (p := ⟨p6, 4, none⟩) hge6' (.int .i64 m))
            have HBy := Lib.hid ((HBx.out.setCell (p := ⟨p5, 4, none⟩) (by show w.heap.size ≤ p5; omega) (.int .i64 n)).setCell (p := ⟨p6, 4, none⟩) (by show w.heap.size ≤ p6; omega) (.int .i64 m))
            have HTy := Lib.hid (show Tab ((wx.setCell ⟨p5, 4, none⟩ (.int .i64 n)).setCell ⟨p6, 4, none⟩ (.int .i64 m)) from tab_set (tab_set HTx.out (by have := HTz.out; show _ ≠ p5; omega)) (by have := HTz.out; show _ ≠ p6; omega))
            generalize (wx.setCell ⟨p5, 4, none⟩ (.int .i64 n)).setCell ⟨p6, 4, none⟩ (.int .i64 m) = wy at GXy GYy GKy HBy HTy ⊢
            clear c0 c1 c2 c3 c4 c5 d0 d1 d2 d3 d4 d5 f0 f1 GX GY GKx HBx HTx
            have hxr : xa.r = (n : Int) := by rw [hxa]
            have HXR := Lib.hid hxr
            clear hxa hxb hxr
            refine wp_region_only (S := fun w' => (w'.cell? ⟨p5, 0, none⟩ = some (.int .i64 xa.k) ∧ w'.cell? ⟨p5, 1, none⟩ = some (.int .i64 xa.o) ∧ w'.cell? ⟨p5, 2, none⟩ = some (.int .i64 xa.c) ∧ w'.cell? ⟨p5, 3, none⟩ = some (.int .i64 xa.l) ∧ w'.cell? ⟨p5, 4, none⟩ = some (.int .i64 xa.r) ∧ w'.cell? ⟨p5, 5, none⟩ = some (.int .i64 xa.v)) ∧ (w'.cell? ⟨p6, 0, none⟩ = some (.int .i64 xb.k) ∧ w'.cell? ⟨p6, 1, none⟩ = some (.int .i64 xb.o) ∧ w'.cell? ⟨p6, 2, none⟩ = some (.int .i64 xb.c) ∧ w'.cell? ⟨p6, 3, none⟩ = some (.int .i64 xb.l) ∧ w'.cell? ⟨p6, 4, none⟩ = some (.int .i64 xb.r) ∧ w'.cell? ⟨p6, 5, none⟩ = some (.int .i64 xb.v))) (by kernel_rfl) ⟨GXy.out.drew.six, GYy.out.drew.six⟩ (fun hHeld => ?_)
            refine wpAnyH_take (i := 0) (v := ?v1) rfl (by kernel_rfl) (by kernel_rfl) (by kernel_rfl) (fun _ _ _ h => h) (Or.inl ⟨by rfl, ?hy1⟩) hHeld ?rest1
            case hy1 =>
              intro w' hSw
              try dsimp only at hSw
              go_simp
              first | done | with_reducible rfl
            try simp only [Act.put, List.getElem_toArray, List.getElem_cons_zero, List.setIfInBounds_toArray, List.set_cons_zero, List.set_cons_succ]
            refine wpAnyH_take (i := 1) (v := ?v2) rfl (by kernel_rfl) (by kernel_rfl) (by kernel_rfl) (fun _ _ _ h => h) (Or.inl ⟨by rfl, ?hy2⟩) hHeld ?rest2
            case hy2 =>
              intro w' hSw
              try dsimp only at hSw
              go_simp
              first | done | with_reducible rfl
            try simp only [Act.put, List.getElem_toArray, List.getElem_cons_succ, List.getElem_cons_zero, List.setIfInBounds_toArray, List.set_cons_zero, List.set_cons_succ]
            refine wpAnyH_take (i := 3) (v := ?v3) rfl (by kernel_rfl) (by kernel_rfl) (by kernel_rfl) (fun _ _ _ h => h) (Or.inl ⟨by rfl, ?hy3⟩) hHeld ?rest3
            case hy3 =>
              intro w' hSw
              try dsimp only at hSw
              go_simp
              first | done | with_reducible rfl
            try simp only [Act.put, List.getElem_toArray, List.getElem_cons_succ, List.getElem_cons_zero, List.setIfInBounds_toArray, List.set_cons_zero, List.set_cons_succ]
            refine wpAnyH_take (i := 4) (v := ?v4) rfl (by kernel_rfl) (by kernel_rfl) (by kernel_rfl) (fun _ _ _ h => h) (Or.inl ⟨by rfl, ?hy4⟩) hHeld ?rest4
            case hy4 =>
              intro w' hSw
              try dsimp only at hSw
              go_simp
              first | done | with_reducible rfl
            try simp only [Act.put, List.getElem_toArray, List.getElem_cons_succ, List.getElem_cons_zero, List.setIfInBounds_toArray, List.set_cons_zero, List.set_cons_succ]
            refine wpAnyH_ready (rs := [2]) (by kernel_rfl) (by simp) ?_
            refine AllReadyH.cons (by rfl) (fun K hK => ?_) AllReadyH.nil
            go_simp
            refine (within_any xa xb _ (HTy.out.drew)).mono ?_
            rintro e y1 ⟨rfl, b1⟩
            have HB_1 := Lib.hid ((below_drew HBy.out).trans (b1.mono HBy.out.size))
            have HT_1 := Lib.hid ((HTy.out.drew).below b1)
            have HG0_1 := Lib.hid ((GXy.out.drew).keep b1)
            have HG1_1 := Lib.hid ((GYy.out.drew).keep b1)
            have HG2_1 := Lib.hid ((GKy.out.drew).keep b1)
            clear b1 hHeld
            go_wp2_with fail
            refine hK.out _ _ ⟨HG0_1.out.six, HG1_1.out.six⟩ (fun hHeld => ?_)
            clear hK K
            try simp only [Act.put, List.getElem_toArray, List.getElem_cons_succ, List.getElem_cons_zero, List.setIfInBounds_toArray, List.set_cons_zero, List.set_cons_succ]
            refine wpAnyH_ready (rs := [5]) (by kernel_rfl) (by simp) ?_
            refine AllReadyH.cons (by rfl) (fun K hK => ?_) AllReadyH.nil
            go_simp
            refine (rwithin_any xa xb _).mono ?_
            rintro e y2 ⟨rfl, b2⟩
            have HB_2 := Lib.hid (HB_1.out.trans (b2.mono HB_1.out.size))
            have HT_2 := Lib.hid ((HT_1.out).below b2)
            have HG0_2 := Lib.hid ((HG0_1.out).keep b2)
            have HG1_2 := Lib.hid ((HG1_1.out).keep b2)
            have HG2_2 := Lib.hid ((HG2_1.out).keep b2)
            clear b2 hHeld
            clear HB_1 HT_1 HG0_1 HG1_1 HG2_1
            go_wp2_with fail
            refine hK.out _ _ ⟨HG0_2.out.six, HG1_2.out.six⟩ (fun hHeld => ?_)
            clear hK K
            try simp only [Act.put, List.getElem_toArray, List.getElem_cons_succ, List.getElem_cons_zero, List.setIfInBounds_toArray, List.set_cons_zero, List.set_cons_succ]
            refine wpAnyH_take (i := 6) (v := ?v5) rfl (by kernel_rfl) (by kernel_rfl) (by kernel_rfl) (fun _ _ _ h => h) (Or.inl ⟨by rfl, ?hy5⟩) hHeld ?rest5
            case hy5 =>
              intro w' hSw
              try dsimp only at hSw
              go_simp
              first | done | with_reducible rfl
            try simp only [Act.put, List.getElem_toArray, List.getElem_cons_succ, List.getElem_cons_zero, List.setIfInBounds_toArray, List.set_cons_zero, List.set_cons_succ]
            refine wpAnyH_take (i := 7) (v := ?v6) rfl (by kernel_rfl) (by kernel_rfl) (by kernel_rfl) (fun _ _ _ h => h) (Or.inl ⟨by rfl, ?hy6⟩) hHeld ?rest6
            case hy6 =>
              intro w' hSw
              try dsimp only at hSw
              go_simp
              first | done | with_reducible rfl
            try simp only [Act.put, List.getElem_toArray, List.getElem_cons_succ, List.getElem_cons_zero, List.setIfInBounds_toArray, List.set_cons_zero, List.set_cons_succ]
            refine wpAnyH_take (i := 8) (v := ?v7) rfl (by kernel_rfl) (by kernel_rfl) (by kernel_rfl) (fun _ _ _ h => h) (Or.inl ⟨by rfl, ?hy7⟩) hHeld ?rest7
            case hy7 =>
              intro w' hSw
              try dsimp only at hSw
              go_simp
              first | done | with_reducible rfl
            try simp only [Act.put, List.getElem_toArray, List.getElem_cons_succ, List.getElem_cons_zero, List.setIfInBounds_toArray, List.set_cons_zero, List.set_cons_succ]
            refine wpAnyH_take (i := 10) (v := ?v8) rfl (by kernel_rfl) (by kernel_rfl) (by kernel_rfl) (fun _ _ _ h => h) (Or.inl ⟨by rfl, ?hy8⟩) hHeld ?rest8
            case hy8 =>
              intro w' hSw
              try dsimp only at hSw
              go_simp
              first | done | with_reducible rfl
            try simp only [Act.put, List.getElem_toArray, List.getElem_cons_succ, List.getElem_cons_zero, List.setIfInBounds_toArray, List.set_cons_zero, List.set_cons_succ]
            refine wpAnyH_ready (rs := [9]) (by kernel_rfl) (by simp) ?_
            refine AllReadyH.cons (by rfl) (fun K hK => ?_) AllReadyH.nil
            go_simp
            refine (kchk_any xa _ (HT_2.out)).mono ?_
            rintro e y3 ⟨rfl, b3⟩
            have HB_3 := Lib.hid (HB_2.out.trans (b3.mono HB_2.out.size))
            have HT_3 := Lib.hid ((HT_2.out).below b3)
            have HG0_3 := Lib.hid ((HG0_2.out).keep b3)
            have HG1_3 := Lib.hid ((HG1_2.out).keep b3)
            have HG2_3 := Lib.hid ((HG2_2.out).keep b3)
            clear b3 hHeld
            clear HB_2 HT_2 HG0_2 HG1_2 HG2_2
            go_wp2_with fail
            refine hK.out _ _ ⟨HG0_3.out.six, HG1_3.out.six⟩ (fun hHeld => ?_)
            clear hK K
            try simp only [Act.put, List.getElem_toArray, List.getElem_cons_succ, List.getElem_cons_zero, List.setIfInBounds_toArray, List.set_cons_zero, List.set_cons_succ]
            refine wpAnyH_ready (rs := [11]) (by kernel_rfl) (by simp) ?_
            refine AllReadyH.cons (by rfl) (fun K hK => ?_) AllReadyH.nil
            go_simp
            refine (rchk_any xa _).mono ?_
            rintro e y4 ⟨rfl, b4⟩
            have HB_4 := Lib.hid (HB_3.out.trans (b4.mono HB_3.out.size))
            have HT_4 := Lib.hid ((HT_3.out).below b4)
            have HG0_4 := Lib.hid ((HG0_3.out).keep b4)
            have HG1_4 := Lib.hid ((HG1_3.out).keep b4)
            have HG2_4 := Lib.hid ((HG2_3.out).keep b4)
            clear b4 hHeld
            clear HB_3 HT_3 HG0_3 HG1_3 HG2_3
            go_wp2_with fail
            refine hK.out _ _ ⟨HG0_4.out.six, HG1_4.out.six⟩ (fun hHeld => ?_)
            clear hK K
            try simp only [Act.put, List.getElem_toArray, List.getElem_cons_succ, List.getElem_cons_zero, List.setIfInBounds_toArray, List.set_cons_zero, List.set_cons_succ]
            refine wpAnyH_take (i := 12) (v := ?v9) rfl (by kernel_rfl) (by kernel_rfl) (by kernel_rfl) (fun _ _ _ h => h) (Or.inl ⟨by rfl, ?hy9⟩) hHeld ?rest9
            case hy9 =>
              intro w' hSw
              try dsimp only at hSw
              go_simp
              first | done | with_reducible rfl
            try simp only [Act.put, List.getElem_toArray, List.getElem_cons_succ, List.getElem_cons_zero, List.setIfInBounds_toArray, List.set_cons_zero, List.set_cons_succ]
            refine wpAnyH_take (i := 13) (v := ?v10) rfl (by kernel_rfl) (by kernel_rfl) (by kernel_rfl) (fun _ _ _ h => h) (Or.inl ⟨by rfl, ?hy10⟩) hHeld ?rest10
            case hy10 =>
              intro w' hSw
              try dsimp only at hSw
              go_simp
              first | done | with_reducible rfl
            try simp only [Act.put, List.getElem_toArray, List.getElem_cons_succ, List.getElem_cons_zero, List.setIfInBounds_toArray, List.set_cons_zero, List.set_cons_succ]
            refine wpAnyH_done (by kernel_rfl) ?_ _
            refine OnlyN.normal ?_
            clear hHeld
            obtain ⟨c0, c1, c2, c3, c4, c5⟩ := HG0_4.out.six
            by_cases ho : xa.ok
            · have HO := Lib.hid ho
              clear ho
              by_cases hm8 : m < 8
              · obtain ⟨xl, hxl⟩ : ∃ y : Ky, xa.less m = y := ⟨_, rfl⟩
                have HXL := Lib.hid hxl
                clear hxl
                have hm7 : ¬ (7 : Int) < (m : Int) := by omega
                have d7 : decide ((7 : Int) < (m : Int)) = false := by simpa using hm7
                clear hm7
                go_wp2_with (first
                  | (go_at_call 22; refine (HXL.out ▸ lesss_any xa m _ HT_4.out HO.out hm8).mono ?_; rintro e v1 ⟨rfl, b_⟩; have T1 := Lib.hid ((HT_4.out.below b_).alloc (.cells (kc xl.k xl.o xl.c xl.l xl.r xl.v) 25)); have B1 := Lib.hid ((HB_4.out.trans (b_.mono HB_4.out.size)).alloc (by have := HB_4.out.size; have := b_.size; omega) (.cells (kc xl.k xl.o xl.c xl.l xl.r xl.v) 25)); have GA := Lib.hid ((HG0_4.out.keep b_).alloc (.cells (kc xl.k xl.o xl.c xl.l xl.r xl.v) 25)); have GB := Lib.hid ((HG2_4.out.keep b_).alloc (.cells (kc xl.k xl.o xl.c xl.l xl.r xl.v) 25)); have GC := Lib.hid (Blk.new v1 25 (kc xl.k xl.o xl.c xl.l xl.r xl.v)); have hzA := (HG0_4.out.keep b_).lt; have hXk := HG0_4.out.keep b_; clear c0 c1 c2 c3 c4 c5 b_; obtain ⟨c0, c1, c2, c3, c4, c5⟩ := hXk.six; clear hXk)
                  | (go_at_call 15; refine (rchk_ok xa.k xa.o xa.c xa.l xa.r xa.v _ HO.out).mono ?_; rintro e v3 ⟨rfl, b_⟩; have T3 := Lib.hid (T1.out.below b_); have B3 := Lib.hid (B1.out.trans (b_.mono B1.out.size)); have QA := Lib.hid (GA.out.keep b_); have QB := Lib.hid (GB.out.keep b_); have QC := Lib.hid (GC.out.keep b_); clear c0 c1 c2 c3 c4 c5 b_ hzA; obtain ⟨d0, d1, d2, d3, d4, d5⟩ := QC.out.six))
                refine wp_region_only (S := fun w' => (w'.cell? ⟨v1.heap.size, 0, none⟩ = some (.int .i64 xl.k) ∧ w'.cell? ⟨v1.heap.size, 1, none⟩ = some (.int .i64 xl.o) ∧ w'.cell? ⟨v1.heap.size, 2, none⟩ = some (.int .i64 xl.c) ∧ w'.cell? ⟨v1.heap.size, 3, none⟩ = some (.int .i64 xl.l) ∧ w'.cell? ⟨v1.heap.size, 4, none⟩ = some (.int .i64 xl.r) ∧ w'.cell? ⟨v1.heap.size, 5, none⟩ = some (.int .i64 xl.v)) ∧ (w'.cell? ⟨p5, 0, none⟩ = some (.int .i64 xa.k) ∧ w'.cell? ⟨p5, 1, none⟩ = some (.int .i64 xa.o) ∧ w'.cell? ⟨p5, 2, none⟩ = some (.int .i64 xa.c) ∧ w'.cell? ⟨p5, 3, none⟩ = some (.int .i64 xa.l) ∧ w'.cell? ⟨p5, 4, none⟩ = some (.int .i64 xa.r) ∧ w'.cell? ⟨p5, 5, none⟩ = some (.int .i64 xa.v))) (by kernel_rfl) ⟨QC.out.drew.six, QA.out.drew.six⟩ (fun hHeld => ?_)
                refine wpAnyH_take (i := 0) (v := ?v11) rfl (by kernel_rfl) (by kernel_rfl) (by kernel_rfl) (fun _ _ _ h => h) (Or.inl ⟨by rfl, ?hy11⟩) hHeld ?rest11
                case hy11 =>
                  intro w' hSw
                  try dsimp only at hSw
                  go_simp
                  first | done | with_reducible rfl
                try simp only [Act.put, List.getElem_toArray, List.getElem_cons_zero, List.setIfInBounds_toArray, List.set_cons_zero, List.set_cons_succ]
                refine wpAnyH_take (i := 1) (v := ?v12) rfl (by kernel_rfl) (by kernel_rfl) (by kernel_rfl) (fun _ _ _ h => h) (Or.inl ⟨by rfl, ?hy12⟩) hHeld ?rest12
                case hy12 =>
                  intro w' hSw
                  try dsimp only at hSw
                  go_simp
                  first | done | with_reducible rfl
                try simp only [Act.put, List.getElem_toArray, List.getElem_cons_succ, List.getElem_cons_zero, List.setIfInBounds_toArray, List.set_cons_zero, List.set_cons_succ]
                refine wpAnyH_take (i := 2) (v := ?v13) rfl (by kernel_rfl) (by kernel_rfl) (by kernel_rfl) (fun _ _ _ h => h) (Or.inl ⟨by rfl, ?hy13⟩) hHeld ?rest13
                case hy13 =>
                  intro w' hSw
                  try dsimp only at hSw
                  go_simp
                  first | done | with_reducible rfl
                try simp only [Act.put, List.getElem_toArray, List.getElem_cons_succ, List.getElem_cons_zero, List.setIfInBounds_toArray, List.set_cons_zero, List.set_cons_succ]
                refine wpAnyH_ready (rs := [3]) (by kernel_rfl) (by simp) ?_
                refine AllReadyH.cons (by rfl) (fun K hK => ?_) AllReadyH.nil
                go_simp
                refine (HXL.out ▸ rless_any xa m _ HO.out hm8).mono ?_
                rintro e y1 ⟨rfl, b1⟩
                have HB_1 := Lib.hid ((below_drew B3.out).trans (b1.mono B3.out.size))
                have HT_1 := Lib.hid ((T3.out.drew).below b1)
                have HG0_1 := Lib.hid ((QC.out.drew).keep b1)
                have HG1_1 := Lib.hid ((QA.out.drew).keep b1)
                have HG2_1 := Lib.hid ((QB.out.drew).keep b1)
                clear b1 hHeld
                go_wp2_with fail
                refine hK.out _ _ ⟨HG0_1.out.six, HG1_1.out.six⟩ (fun hHeld => ?_)
                clear hK K
                try simp only [Act.put, List.getElem_toArray, List.getElem_cons_succ, List.getElem_cons_zero, List.setIfInBounds_toArray, List.set_cons_zero, List.set_cons_succ]
                refine wpAnyH_take (i := 4) rfl (by kernel_rfl) (by kernel_rfl) (by kernel_rfl) (fun _ _ _ h => h) (sameK_self xl.k xl.o xl.c xl.l xl.r xl.v ▸ yields_kneq (by rfl) _ _ (by rfl) xl.k xl.o xl.c xl.l xl.r xl.v xl.k xl.o xl.c xl.l xl.r xl.v (by rfl) (by rfl)) hHeld ?_
                try simp only [Act.put, List.getElem_toArray, List.getElem_cons_succ, List.getElem_cons_zero, List.setIfInBounds_toArray, List.set_cons_zero, List.set_cons_succ]
                refine wpAnyH_take (i := 5) (v := ?v14) rfl (by kernel_rfl) (by kernel_rfl) (by kernel_rfl) (fun _ _ _ h => h) (Or.inl ⟨by rfl, ?hy14⟩) hHeld ?rest14
                case hy14 =>
                  intro w' hSw
                  try dsimp only at hSw
                  go_simp
                  first | done | with_reducible rfl
                try simp only [Act.put, List.getElem_toArray, List.getElem_cons_succ, List.getElem_cons_zero, List.setIfInBounds_toArray, List.set_cons_zero, List.set_cons_succ]
                refine wpAnyH_take (i := 6) (v := ?v15) rfl (by kernel_rfl) (by kernel_rfl) (by kernel_rfl) (fun _ _ _ h => h) (Or.inl ⟨by rfl, ?hy15⟩) hHeld ?rest15
                case hy15 =>
                  intro w' hSw
                  try dsimp only at hSw
                  go_simp
                  first | done | with_reducible rfl
                try simp only [Act.put, List.getElem_toArray, List.getElem_cons_succ, List.getElem_cons_zero, List.setIfInBounds_toArray, List.set_cons_zero, List.set_cons_succ]
                refine wpAnyH_take (i := 7) (v := ?v16) rfl (by kernel_rfl) (by kernel_rfl) (by kernel_rfl) (fun _ _ _ h => h) (Or.inl ⟨by rfl, ?hy16⟩) hHeld ?rest16
                case hy16 =>
                  intro w' hSw
                  try dsimp only at hSw
                  go_simp
                  first | done | with_reducible rfl
                try simp only [Act.put, List.getElem_toArray, List.getElem_cons_succ, List.getElem_cons_zero, List.setIfInBounds_toArray, List.set_cons_zero, List.set_cons_succ]
                refine wpAnyH_take (i := 8) (v := ?v17) rfl (by kernel_rfl) (by kernel_rfl) (by kernel_rfl) (fun _ _ _ h => h) (Or.inl ⟨by rfl, ?hy17⟩) hHeld ?rest17
                case hy17 =>
                  intro w' hSw
                  try dsimp only at hSw
                  go_simp
                  first | done | with_reducible rfl
                try simp only [Act.put, List.getElem_toArray, List.getElem_cons_succ, List.getElem_cons_zero, List.setIfInBounds_toArray, List.set_cons_zero, List.set_cons_succ]
                refine wpAnyH_done (by kernel_rfl) ?_ _
                refine OnlyN.normal ?_
                clear hHeld
                go_wp2
                go_roundw
                case rel => exact ⟨m + 1, by omega, by go_num, HB_1.out, HG2_1.out, HT_1.out⟩
                case measure => simp [intOf]; omega
              · obtain rfl : m = 8 := by omega
                clear hm8
                go_wp2_with (first
                  | (go_at_call 22; refine (lesss_bad xa.k xa.o xa.c xa.l xa.r xa.v 8 _ HT_4.out HO.out (.inr (by decide))).mono ?_; rintro e v1 ⟨rfl, b_⟩; have T1 := Lib.hid ((HT_4.out.below b_).alloc (.cells (kc 0 0 0 0 0 0) 25)); have B1 := Lib.hid ((HB_4.out.trans (b_.mono HB_4.out.size)).alloc (by have := HB_4.out.size; have := b_.size; omega) (.cells (kc 0 0 0 0 0 0) 25)); have GA := Lib.hid ((HG0_4.out.keep b_).alloc (.cells (kc 0 0 0 0 0 0) 25)); have GB := Lib.hid ((HG2_4.out.keep b_).alloc (.cells (kc 0 0 0 0 0 0) 25)); have GC := Lib.hid (Blk.new v1 25 (kc 0 0 0 0 0 0)); have hzA := (HG0_4.out.keep b_).lt; have hXk := HG0_4.out.keep b_; clear c0 c1 c2 c3 c4 c5 b_; obtain ⟨c0, c1, c2, c3, c4, c5⟩ := hXk.six; clear hXk)
                  | (go_at_call 15; refine (rchk_ok xa.k xa.o xa.c xa.l xa.r xa.v _ HO.out).mono ?_; rintro e v3 ⟨rfl, b_⟩; have T3 := Lib.hid (T1.out.below b_); have B3 := Lib.hid (B1.out.trans (b_.mono B1.out.size)); have QA := Lib.hid (GA.out.keep b_); have QB := Lib.hid (GB.out.keep b_); have QC := Lib.hid (GC.out.keep b_); clear c0 c1 c2 c3 c4 c5 b_ hzA; obtain ⟨d0, d1, d2, d3, d4, d5⟩ := QC.out.six))
                go_roundw
                case rel => exact ⟨8 + 1, by omega, by go_num, B3.out, QB.out, T3.out⟩
                case measure => simp [intOf]
            · have HO := Lib.hid ho
              clear ho
              go_wp2_with (first
                | (go_at_call 22; refine (lesss_no xa.k xa.o xa.c xa.l xa.r xa.v m _ HT_4.out HO.out).mono ?_; rintro e v1 ⟨rfl, b_⟩; have T1 := Lib.hid ((HT_4.out.below b_).alloc (.cells (kc 0 0 0 0 0 0) 25)); have B1 := Lib.hid ((HB_4.out.trans (b_.mono HB_4.out.size)).alloc (by have := HB_4.out.size; have := b_.size; omega) (.cells (kc 0 0 0 0 0 0) 25)); have GA := Lib.hid ((HG0_4.out.keep b_).alloc (.cells (kc 0 0 0 0 0 0) 25)); have GB := Lib.hid ((HG2_4.out.keep b_).alloc (.cells (kc 0 0 0 0 0 0) 25)); have GC := Lib.hid (Blk.new v1 25 (kc 0 0 0 0 0 0)); have hzA := (HG0_4.out.keep b_).lt; have hXk := HG0_4.out.keep b_; clear c0 c1 c2 c3 c4 c5 b_; obtain ⟨c0, c1, c2, c3, c4, c5⟩ := hXk.six; clear hXk)
                | (go_at_call 15; refine (rchk_no xa.k xa.o xa.c xa.l xa.r xa.v _ HO.out).mono ?_; rintro e v3 ⟨rfl, b_⟩; have T3 := Lib.hid (T1.out.below b_); have B3 := Lib.hid (B1.out.trans (b_.mono B1.out.size)); have QA := Lib.hid (GA.out.keep b_); have QB := Lib.hid (GB.out.keep b_); have QC := Lib.hid (GC.out.keep b_); clear c0 c1 c2 c3 c4 c5 b_ hzA; obtain ⟨d0, d1, d2, d3, d4, d5⟩ := QC.out.six))
              go_roundw
              case rel => exact ⟨m + 1, by omega, by go_num, B3.out, QB.out, T3.out⟩
              case measure => simp [intOf]; omega
          · have GX := HX2
            have GY := HX1
            clear HX2 HX1
            obtain ⟨p5, hp5⟩ : ∃ p, p = wr.heap.size + 1 := ⟨_, rfl⟩
            obtain ⟨p6, hp6⟩ : ∃ p, p = wr.heap.size := ⟨_, rfl⟩
            have hne : p5 ≠ p6 := by omega
            have hge5 : w.heap.size < p5 := by omega
            have hge6 : w.heap.size < p6 := by omega
            rw [← hp5] at GX
            rw [← hp6] at GY
            simp only [← hp5]
            simp only [← hp6]
            clear hp5 hp6 hsz
            have hge5' : ¬ w.heap.size = p5 := by omega
            have hge6' : ¬ w.heap.size = p6 := by omega
            have hne' : ¬ p5 = p6 := hne
            have hne2 : ¬ p6 = p5 := fun e => hne e.symm
            obtain ⟨c0, c1, c2, c3, c4, c5⟩ := GX.out.six
            obtain ⟨d0, d1, d2, d3, d4, d5⟩ := GY.out.six
            have f0 := GX.out.frozen
            have f1 := GY.out.frozen
            go_wp2
            obtain ⟨xa, hxa⟩ : ∃ y : Ky, y = ⟨x.k, x.o, x.c, x.l, (n : Int), x.v⟩ := ⟨_, rfl⟩
            obtain ⟨xb, hxb⟩ : ∃ y : Ky, y = ⟨x.k, x.o, x.c, x.l, (m : Int), x.v⟩ := ⟨_, rfl⟩
            have GXy := Lib.hid (show Blk ((wx.setCell ⟨p5, 4, none⟩ (.int .i64 n)).setCell ⟨p6, 4, none⟩ (.int .i64 m)) p5 25 (kc xa.k xa.o xa.c xa.l xa.r xa.v) from by rw [hxa]; exact (set4 GX.out n).far (p := ⟨p6, 4, none⟩) hne (.int .i64 m))
            have GYy := Lib.hid (show Blk ((wx.setCell ⟨p5, 4, none⟩ (.int .i64 n)).setCell ⟨p6, 4, none⟩ (.int .i64 m)) p6 25 (kc xb.k xb.o xb.c xb.l xb.r xb.v) from by rw [hxb]; exact set4 (GY.out.far (p := ⟨p5, 4, none⟩) (fun e => hne e.symm) (.int .i64 n)) m)
            have GKy := Lib.hid ((GKx.out.far (p := ⟨p5, 4, none⟩) hge5' (.int .i64 n)).far (p := ⟨p6, 4, none⟩) hge6' (.int .i64 m))
            have HBy := Lib.hid ((HBx.out.setCell (p := ⟨p5, 4, none⟩) (by show w.heap.size ≤ p5; omega) (.int .i64 n)).setCell (p := ⟨p6, 4, none⟩) (by show w.heap.size ≤ p6; omega) (.int .i64 m))
            have HTy := Lib.hid (show Tab ((wx.setCell ⟨p5, 4, none⟩ (.int .i64 n)).setCell ⟨p6, 4, none⟩ (.int .i64 m)) from tab_set (tab_set HTx.out (by have := HTz.out; show _ ≠ p5; omega)) (by have := HTz.out; show _ ≠ p6; omega))
            generalize (wx.setCell ⟨p5, 4, none⟩ (.int .i64 n)).setCell ⟨p6, 4, none⟩ (.int .i64 m) = wy at GXy GYy GKy HBy HTy ⊢
            clear c0 c1 c2 c3 c4 c5 d0 d1 d2 d3 d4 d5 f0 f1 GX GY GKx HBx HTx
            have hxr : xa.r = (n : Int) := by rw [hxa]
            have HXR := Lib.hid hxr
            clear hxa hxb hxr
            refine wp_region_only (S := fun w' => (w'.cell? ⟨p5, 0, none⟩ = some (.int .i64 xa.k) ∧ w'.cell? ⟨p5, 1, none⟩ = some (.int .i64 xa.o) ∧ w'.cell? ⟨p5, 2, none⟩ = some (.int .i64 xa.c) ∧ w'.cell? ⟨p5, 3, none⟩ = some (.int .i64 xa.l) ∧ w'.cell? ⟨p5, 4, none⟩ = some (.int .i64 xa.r) ∧ w'.cell? ⟨p5, 5, none⟩ = some (.int .i64 xa.v)) ∧ (w'.cell? ⟨p6, 0, none⟩ = some (.int .i64 xb.k) ∧ w'.cell? ⟨p6, 1, none⟩ = some (.int .i64 xb.o) ∧ w'.cell? ⟨p6, 2, none⟩ = some (.int .i64 xb.c) ∧ w'.cell? ⟨p6, 3, none⟩ = some (.int .i64 xb.l) ∧ w'.cell? ⟨p6, 4, none⟩ = some (.int .i64 xb.r) ∧ w'.cell? ⟨p6, 5, none⟩ = some (.int .i64 xb.v))) (by kernel_rfl) ⟨GXy.out.drew.six, GYy.out.drew.six⟩ (fun hHeld => ?_)
            refine wpAnyH_take (i := 0) (v := ?v18) rfl (by kernel_rfl) (by kernel_rfl) (by kernel_rfl) (fun _ _ _ h => h) (Or.inl ⟨by rfl, ?hy18⟩) hHeld ?rest18
            case hy18 =>
              intro w' hSw
              try dsimp only at hSw
              go_simp
              first | done | with_reducible rfl
            try simp only [Act.put, List.getElem_toArray, List.getElem_cons_zero, List.setIfInBounds_toArray, List.set_cons_zero, List.set_cons_succ]
            refine wpAnyH_take (i := 1) (v := ?v19) rfl (by kernel_rfl) (by kernel_rfl) (by kernel_rfl) (fun _ _ _ h => h) (Or.inl ⟨by rfl, ?hy19⟩) hHeld ?rest19
            case hy19 =>
              intro w' hSw
              try dsimp only at hSw
              go_simp
              first | done | with_reducible rfl
            try simp only [Act.put, List.getElem_toArray, List.getElem_cons_succ, List.getElem_cons_zero, List.setIfInBounds_toArray, List.set_cons_zero, List.set_cons_succ]
            refine wpAnyH_take (i := 3) (v := ?v20) rfl (by kernel_rfl) (by kernel_rfl) (by kernel_rfl) (fun _ _ _ h => h) (Or.inl ⟨by rfl, ?hy20⟩) hHeld ?rest20
            case hy20 =>
              intro w' hSw
              try dsimp only at hSw
              go_simp
              first | done | with_reducible rfl
            try simp only [Act.put, List.getElem_toArray, List.getElem_cons_succ, List.getElem_cons_zero, List.setIfInBounds_toArray, List.set_cons_zero, List.set_cons_succ]
            refine wpAnyH_take (i := 4) (v := ?v21) rfl (by kernel_rfl) (by kernel_rfl) (by kernel_rfl) (fun _ _ _ h => h) (Or.inl ⟨by rfl, ?hy21⟩) hHeld ?rest21
            case hy21 =>
              intro w' hSw
              try dsimp only at hSw
              go_simp
              first | done | with_reducible rfl
            try simp only [Act.put, List.getElem_toArray, List.getElem_cons_succ, List.getElem_cons_zero, List.setIfInBounds_toArray, List.set_cons_zero, List.set_cons_succ]
            refine wpAnyH_ready (rs := [2]) (by kernel_rfl) (by simp) ?_
            refine AllReadyH.cons (by rfl) (fun K hK => ?_) AllReadyH.nil
            go_simp
            refine (within_any xa xb _ (HTy.out.drew)).mono ?_
            rintro e y1 ⟨rfl, b1⟩
            have HB_1 := Lib.hid ((below_drew HBy.out).trans (b1.mono HBy.out.size))
            have HT_1 := Lib.hid ((HTy.out.drew).below b1)
            have HG0_1 := Lib.hid ((GXy.out.drew).keep b1)
            have HG1_1 := Lib.hid ((GYy.out.drew).keep b1)
            have HG2_1 := Lib.hid ((GKy.out.drew).keep b1)
            clear b1 hHeld
            go_wp2_with fail
            refine hK.out _ _ ⟨HG0_1.out.six, HG1_1.out.six⟩ (fun hHeld => ?_)
            clear hK K
            try simp only [Act.put, List.getElem_toArray, List.getElem_cons_succ, List.getElem_cons_zero, List.setIfInBounds_toArray, List.set_cons_zero, List.set_cons_succ]
            refine wpAnyH_ready (rs := [5]) (by kernel_rfl) (by simp) ?_
            refine AllReadyH.cons (by rfl) (fun K hK => ?_) AllReadyH.nil
            go_simp
            refine (rwithin_any xa xb _).mono ?_
            rintro e y2 ⟨rfl, b2⟩
            have HB_2 := Lib.hid (HB_1.out.trans (b2.mono HB_1.out.size))
            have HT_2 := Lib.hid ((HT_1.out).below b2)
            have HG0_2 := Lib.hid ((HG0_1.out).keep b2)
            have HG1_2 := Lib.hid ((HG1_1.out).keep b2)
            have HG2_2 := Lib.hid ((HG2_1.out).keep b2)
            clear b2 hHeld
            clear HB_1 HT_1 HG0_1 HG1_1 HG2_1
            go_wp2_with fail
            refine hK.out _ _ ⟨HG0_2.out.six, HG1_2.out.six⟩ (fun hHeld => ?_)
            clear hK K
            try simp only [Act.put, List.getElem_toArray, List.getElem_cons_succ, List.getElem_cons_zero, List.setIfInBounds_toArray, List.set_cons_zero, List.set_cons_succ]
            refine wpAnyH_take (i := 6) (v := ?v22) rfl (by kernel_rfl) (by kernel_rfl) (by kernel_rfl) (fun _ _ _ h => h) (Or.inl ⟨by rfl, ?hy22⟩) hHeld ?rest22
            case hy22 =>
              intro w' hSw
              try dsimp only at hSw
              go_simp
              first | done | with_reducible rfl
            try simp only [Act.put, List.getElem_toArray, List.getElem_cons_succ, List.getElem_cons_zero, List.setIfInBounds_toArray, List.set_cons_zero, List.set_cons_succ]
            refine wpAnyH_take (i := 7) (v := ?v23) rfl (by kernel_rfl) (by kernel_rfl) (by kernel_rfl) (fun _ _ _ h => h) (Or.inl ⟨by rfl, ?hy23⟩) hHeld ?rest23
            case hy23 =>
              intro w' hSw
              try dsimp only at hSw
              go_simp
              first | done | with_reducible rfl
            try simp only [Act.put, List.getElem_toArray, List.getElem_cons_succ, List.getElem_cons_zero, List.setIfInBounds_toArray, List.set_cons_zero, List.set_cons_succ]
            refine wpAnyH_take (i := 8) (v := ?v24) rfl (by kernel_rfl) (by kernel_rfl) (by kernel_rfl) (fun _ _ _ h => h) (Or.inl ⟨by rfl, ?hy24⟩) hHeld ?rest24
            case hy24 =>
              intro w' hSw
              try dsimp only at hSw
              go_simp
              first | done | with_reducible rfl
            try simp only [Act.put, List.getElem_toArray, List.getElem_cons_succ, List.getElem_cons_zero, List.setIfInBounds_toArray, List.set_cons_zero, List.set_cons_succ]
            refine wpAnyH_take (i := 10) (v := ?v25) rfl (by kernel_rfl) (by kernel_rfl) (by kernel_rfl) (fun _ _ _ h => h) (Or.inl ⟨by rfl, ?hy25⟩) hHeld ?rest25
            case hy25 =>
              intro w' hSw
              try dsimp only at hSw
              go_simp
              first | done | with_reducible rfl
            try simp only [Act.put, List.getElem_toArray, List.getElem_cons_succ, List.getElem_cons_zero, List.setIfInBounds_toArray, List.set_cons_zero, List.set_cons_succ]
            refine wpAnyH_ready (rs := [9]) (by kernel_rfl) (by simp) ?_
            refine AllReadyH.cons (by rfl) (fun K hK => ?_) AllReadyH.nil
            go_simp
            refine (kchk_any xa _ (HT_2.out)).mono ?_
            rintro e y3 ⟨rfl, b3⟩
            have HB_3 := Lib.hid (HB_2.out.trans (b3.mono HB_2.out.size))
            have HT_3 := Lib.hid ((HT_2.out).below b3)
            have HG0_3 := Lib.hid ((HG0_2.out).keep b3)
            have HG1_3 := Lib.hid ((HG1_2.out).keep b3)
            have HG2_3 := Lib.hid ((HG2_2.out).keep b3)
            clear b3 hHeld
            clear HB_2 HT_2 HG0_2 HG1_2 HG2_2
            go_wp2_with fail
            refine hK.out _ _ ⟨HG0_3.out.six, HG1_3.out.six⟩ (fun hHeld => ?_)
            clear hK K
            try simp only [Act.put, List.getElem_toArray, List.getElem_cons_succ, List.getElem_cons_zero, List.setIfInBounds_toArray, List.set_cons_zero, List.set_cons_succ]
            refine wpAnyH_ready (rs := [11]) (by kernel_rfl) (by simp) ?_
            refine AllReadyH.cons (by rfl) (fun K hK => ?_) AllReadyH.nil
            go_simp
            refine (rchk_any xa _).mono ?_
            rintro e y4 ⟨rfl, b4⟩
            have HB_4 := Lib.hid (HB_3.out.trans (b4.mono HB_3.out.size))
            have HT_4 := Lib.hid ((HT_3.out).below b4)
            have HG0_4 := Lib.hid ((HG0_3.out).keep b4)
            have HG1_4 := Lib.hid ((HG1_3.out).keep b4)
            have HG2_4 := Lib.hid ((HG2_3.out).keep b4)
            clear b4 hHeld
            clear HB_3 HT_3 HG0_3 HG1_3 HG2_3
            go_wp2_with fail
            refine hK.out _ _ ⟨HG0_4.out.six, HG1_4.out.six⟩ (fun hHeld => ?_)
            clear hK K
            try simp only [Act.put, List.getElem_toArray, List.getElem_cons_succ, List.getElem_cons_zero, List.setIfInBounds_toArray, List.set_cons_zero, List.set_cons_succ]
            refine wpAnyH_take (i := 12) (v := ?v26) rfl (by kernel_rfl) (by kernel_rfl) (by kernel_rfl) (fun _ _ _ h => h) (Or.inl ⟨by rfl, ?hy26⟩) hHeld ?rest26
            case hy26 =>
              intro w' hSw
              try dsimp only at hSw
              go_simp
              first | done | with_reducible rfl
            try simp only [Act.put, List.getElem_toArray, List.getElem_cons_succ, List.getElem_cons_zero, List.setIfInBounds_toArray, List.set_cons_zero, List.set_cons_succ]
            refine wpAnyH_take (i := 13) (v := ?v27) rfl (by kernel_rfl) (by kernel_rfl) (by kernel_rfl) (fun _ _ _ h => h) (Or.inl ⟨by rfl, ?hy27⟩) hHeld ?rest27
            case hy27 =>
              intro w' hSw
              try dsimp only at hSw
              go_simp
              first | done | with_reducible rfl
            try simp only [Act.put, List.getElem_toArray, List.getElem_cons_succ, List.getElem_cons_zero, List.setIfInBounds_toArray, List.set_cons_zero, List.set_cons_succ]
            refine wpAnyH_done (by kernel_rfl) ?_ _
            refine OnlyN.normal ?_
            clear hHeld
            obtain ⟨c0, c1, c2, c3, c4, c5⟩ := HG0_4.out.six
            by_cases ho : xa.ok
            · have HO := Lib.hid ho
              clear ho
              by_cases hm8 : m < 8
              · obtain ⟨xl, hxl⟩ : ∃ y : Ky, xa.less m = y := ⟨_, rfl⟩
                have HXL := Lib.hid hxl
                clear hxl
                have hm7 : ¬ (7 : Int) < (m : Int) := by omega
                have d7 : decide ((7 : Int) < (m : Int)) = false := by simpa using hm7
                clear hm7
                go_wp2_with (first
                  | (go_at_call 22; refine (HXL.out ▸ lesss_any xa m _ HT_4.out HO.out hm8).mono ?_; rintro e v1 ⟨rfl, b_⟩; have T1 := Lib.hid ((HT_4.out.below b_).alloc (.cells (kc xl.k xl.o xl.c xl.l xl.r xl.v) 25)); have B1 := Lib.hid ((HB_4.out.trans (b_.mono HB_4.out.size)).alloc (by have := HB_4.out.size; have := b_.size; omega) (.cells (kc xl.k xl.o xl.c xl.l xl.r xl.v) 25)); have GA := Lib.hid ((HG0_4.out.keep b_).alloc (.cells (kc xl.k xl.o xl.c xl.l xl.r xl.v) 25)); have GB := Lib.hid ((HG2_4.out.keep b_).alloc (.cells (kc xl.k xl.o xl.c xl.l xl.r xl.v) 25)); have GC := Lib.hid (Blk.new v1 25 (kc xl.k xl.o xl.c xl.l xl.r xl.v)); have hzA := (HG0_4.out.keep b_).lt; have hXk := HG0_4.out.keep b_; clear c0 c1 c2 c3 c4 c5 b_; obtain ⟨c0, c1, c2, c3, c4, c5⟩ := hXk.six; clear hXk)
                  | (go_at_call 15; refine (rchk_ok xa.k xa.o xa.c xa.l xa.r xa.v _ HO.out).mono ?_; rintro e v3 ⟨rfl, b_⟩; have T3 := Lib.hid (T1.out.below b_); have B3 := Lib.hid (B1.out.trans (b_.mono B1.out.size)); have QA := Lib.hid (GA.out.keep b_); have QB := Lib.hid (GB.out.keep b_); have QC := Lib.hid (GC.out.keep b_); clear c0 c1 c2 c3 c4 c5 b_ hzA; obtain ⟨d0, d1, d2, d3, d4, d5⟩ := QC.out.six))
                refine wp_region_only (S := fun w' => (w'.cell? ⟨v1.heap.size, 0, none⟩ = some (.int .i64 xl.k) ∧ w'.cell? ⟨v1.heap.size, 1, none⟩ = some (.int .i64 xl.o) ∧ w'.cell? ⟨v1.heap.size, 2, none⟩ = some (.int .i64 xl.c) ∧ w'.cell? ⟨v1.heap.size, 3, none⟩ = some (.int .i64 xl.l) ∧ w'.cell? ⟨v1.heap.size, 4, none⟩ = some (.int .i64 xl.r) ∧ w'.cell? ⟨v1.heap.size, 5, none⟩ = some (.int .i64 xl.v)) ∧ (w'.cell? ⟨p5, 0, none⟩ = some (.int .i64 xa.k) ∧ w'.cell? ⟨p5, 1, none⟩ = some (.int .i64 xa.o) ∧ w'.cell? ⟨p5, 2, none⟩ = some (.int .i64 xa.c) ∧ w'.cell? ⟨p5, 3, none⟩ = some (.int .i64 xa.l) ∧ w'.cell? ⟨p5, 4, none⟩ = some (.int .i64 xa.r) ∧ w'.cell? ⟨p5, 5, none⟩ = some (.int .i64 xa.v))) (by kernel_rfl) ⟨QC.out.drew.six, QA.out.drew.six⟩ (fun hHeld => ?_)
                refine wpAnyH_take (i := 0) (v := ?v28) rfl (by kernel_rfl) (by kernel_rfl) (by kernel_rfl) (fun _ _ _ h => h) (Or.inl ⟨by rfl, ?hy28⟩) hHeld ?rest28
                case hy28 =>
                  intro w' hSw
                  try dsimp only at hSw
                  go_simp
                  first | done | with_reducible rfl
                try simp only [Act.put, List.getElem_toArray, List.getElem_cons_zero, List.setIfInBounds_toArray, List.set_cons_zero, List.set_cons_succ]
                refine wpAnyH_take (i := 1) (v := ?v29) rfl (by kernel_rfl) (by kernel_rfl) (by kernel_rfl) (fun _ _ _ h => h) (Or.inl ⟨by rfl, ?hy29⟩) hHeld ?rest29
                case hy29 =>
                  intro w' hSw
                  try dsimp only at hSw
                  go_simp
                  first | done | with_reducible rfl
                try simp only [Act.put, List.getElem_toArray, List.getElem_cons_succ, List.getElem_cons_zero, List.setIfInBounds_toArray, List.set_cons_zero, List.set_cons_succ]
                refine wpAnyH_take (i := 2) (v := ?v30) rfl (by kernel_rfl) (by kernel_rfl) (by kernel_rfl) (fun _ _ _ h => h) (Or.inl ⟨by rfl, ?hy30⟩) hHeld ?rest30
                case hy30 =>
                  intro w' hSw
                  try dsimp only at hSw
                  go_simp
                  first | done | with_reducible rfl
                try simp only [Act.put, List.getElem_toArray, List.getElem_cons_succ, List.getElem_cons_zero, List.setIfInBounds_toArray, List.set_cons_zero, List.set_cons_succ]
                refine wpAnyH_ready (rs := [3]) (by kernel_rfl) (by simp) ?_
                refine AllReadyH.cons (by rfl) (fun K hK => ?_) AllReadyH.nil
                go_simp
                refine (HXL.out ▸ rless_any xa m _ HO.out hm8).mono ?_
                rintro e y1 ⟨rfl, b1⟩
                have HB_1 := Lib.hid ((below_drew B3.out).trans (b1.mono B3.out.size))
                have HT_1 := Lib.hid ((T3.out.drew).below b1)
                have HG0_1 := Lib.hid ((QC.out.drew).keep b1)
                have HG1_1 := Lib.hid ((QA.out.drew).keep b1)
                have HG2_1 := Lib.hid ((QB.out.drew).keep b1)
                clear b1 hHeld
                go_wp2_with fail
                refine hK.out _ _ ⟨HG0_1.out.six, HG1_1.out.six⟩ (fun hHeld => ?_)
                clear hK K
                try simp only [Act.put, List.getElem_toArray, List.getElem_cons_succ, List.getElem_cons_zero, List.setIfInBounds_toArray, List.set_cons_zero, List.set_cons_succ]
                refine wpAnyH_take (i := 4) rfl (by kernel_rfl) (by kernel_rfl) (by kernel_rfl) (fun _ _ _ h => h) (sameK_self xl.k xl.o xl.c xl.l xl.r xl.v ▸ yields_kneq (by rfl) _ _ (by rfl) xl.k xl.o xl.c xl.l xl.r xl.v xl.k xl.o xl.c xl.l xl.r xl.v (by rfl) (by rfl)) hHeld ?_
                try simp only [Act.put, List.getElem_toArray, List.getElem_cons_succ, List.getElem_cons_zero, List.setIfInBounds_toArray, List.set_cons_zero, List.set_cons_succ]
                refine wpAnyH_take (i := 5) (v := ?v31) rfl (by kernel_rfl) (by kernel_rfl) (by kernel_rfl) (fun _ _ _ h => h) (Or.inl ⟨by rfl, ?hy31⟩) hHeld ?rest31
                case hy31 =>
                  intro w' hSw
                  try dsimp only at hSw
                  go_simp
                  first | done | with_reducible rfl
                try simp only [Act.put, List.getElem_toArray, List.getElem_cons_succ, List.getElem_cons_zero, List.setIfInBounds_toArray, List.set_cons_zero, List.set_cons_succ]
                refine wpAnyH_take (i := 6) (v := ?v32) rfl (by kernel_rfl) (by kernel_rfl) (by kernel_rfl) (fun _ _ _ h => h) (Or.inl ⟨by rfl, ?hy32⟩) hHeld ?rest32
                case hy32 =>
                  intro w' hSw
                  try dsimp only at hSw
                  go_simp
                  first | done | with_reducible rfl
                try simp only [Act.put, List.getElem_toArray, List.getElem_cons_succ, List.getElem_cons_zero, List.setIfInBounds_toArray, List.set_cons_zero, List.set_cons_succ]
                refine wpAnyH_take (i := 7) (v := ?v33) rfl (by kernel_rfl) (by kernel_rfl) (by kernel_rfl) (fun _ _ _ h => h) (Or.inl ⟨by rfl, ?hy33⟩) hHeld ?rest33
                case hy33 =>
                  intro w' hSw
                  try dsimp only at hSw
                  go_simp
                  first | done | with_reducible rfl
                try simp only [Act.put, List.getElem_toArray, List.getElem_cons_succ, List.getElem_cons_zero, List.setIfInBounds_toArray, List.set_cons_zero, List.set_cons_succ]
                refine wpAnyH_take (i := 8) (v := ?v34) rfl (by kernel_rfl) (by kernel_rfl) (by kernel_rfl) (fun _ _ _ h => h) (Or.inl ⟨by rfl, ?hy34⟩) hHeld ?rest34
                case hy34 =>
                  intro w' hSw
                  try dsimp only at hSw
                  go_simp
                  first | done | with_reducible rfl
                try simp only [Act.put, List.getElem_toArray, List.getElem_cons_succ, List.getElem_cons_zero, List.setIfInBounds_toArray, List.set_cons_zero, List.set_cons_succ]
                refine wpAnyH_done (by kernel_rfl) ?_ _
                refine OnlyN.normal ?_
                clear hHeld
                go_wp2
                go_roundw
                case rel => exact ⟨m + 1, by omega, by go_num, HB_1.out, HG2_1.out, HT_1.out⟩
                case measure => simp [intOf]; omega
              · obtain rfl : m = 8 := by omega
                clear hm8
                go_wp2_with (first
                  | (go_at_call 22; refine (lesss_bad xa.k xa.o xa.c xa.l xa.r xa.v 8 _ HT_4.out HO.out (.inr (by decide))).mono ?_; rintro e v1 ⟨rfl, b_⟩; have T1 := Lib.hid ((HT_4.out.below b_).alloc (.cells (kc 0 0 0 0 0 0) 25)); have B1 := Lib.hid ((HB_4.out.trans (b_.mono HB_4.out.size)).alloc (by have := HB_4.out.size; have := b_.size; omega) (.cells (kc 0 0 0 0 0 0) 25)); have GA := Lib.hid ((HG0_4.out.keep b_).alloc (.cells (kc 0 0 0 0 0 0) 25)); have GB := Lib.hid ((HG2_4.out.keep b_).alloc (.cells (kc 0 0 0 0 0 0) 25)); have GC := Lib.hid (Blk.new v1 25 (kc 0 0 0 0 0 0)); have hzA := (HG0_4.out.keep b_).lt; have hXk := HG0_4.out.keep b_; clear c0 c1 c2 c3 c4 c5 b_; obtain ⟨c0, c1, c2, c3, c4, c5⟩ := hXk.six; clear hXk)
                  | (go_at_call 15; refine (rchk_ok xa.k xa.o xa.c xa.l xa.r xa.v _ HO.out).mono ?_; rintro e v3 ⟨rfl, b_⟩; have T3 := Lib.hid (T1.out.below b_); have B3 := Lib.hid (B1.out.trans (b_.mono B1.out.size)); have QA := Lib.hid (GA.out.keep b_); have QB := Lib.hid (GB.out.keep b_); have QC := Lib.hid (GC.out.keep b_); clear c0 c1 c2 c3 c4 c5 b_ hzA; obtain ⟨d0, d1, d2, d3, d4, d5⟩ := QC.out.six))
                go_roundw
                case rel => exact ⟨8 + 1, by omega, by go_num, B3.out, QB.out, T3.out⟩
                case measure => simp [intOf]
            · have HO := Lib.hid ho
              clear ho
              go_wp2_with (first
                | (go_at_call 22; refine (lesss_no xa.k xa.o xa.c xa.l xa.r xa.v m _ HT_4.out HO.out).mono ?_; rintro e v1 ⟨rfl, b_⟩; have T1 := Lib.hid ((HT_4.out.below b_).alloc (.cells (kc 0 0 0 0 0 0) 25)); have B1 := Lib.hid ((HB_4.out.trans (b_.mono HB_4.out.size)).alloc (by have := HB_4.out.size; have := b_.size; omega) (.cells (kc 0 0 0 0 0 0) 25)); have GA := Lib.hid ((HG0_4.out.keep b_).alloc (.cells (kc 0 0 0 0 0 0) 25)); have GB := Lib.hid ((HG2_4.out.keep b_).alloc (.cells (kc 0 0 0 0 0 0) 25)); have GC := Lib.hid (Blk.new v1 25 (kc 0 0 0 0 0 0)); have hzA := (HG0_4.out.keep b_).lt; have hXk := HG0_4.out.keep b_; clear c0 c1 c2 c3 c4 c5 b_; obtain ⟨c0, c1, c2, c3, c4, c5⟩ := hXk.six; clear hXk)
                | (go_at_call 15; refine (rchk_no xa.k xa.o xa.c xa.l xa.r xa.v _ HO.out).mono ?_; rintro e v3 ⟨rfl, b_⟩; have T3 := Lib.hid (T1.out.below b_); have B3 := Lib.hid (B1.out.trans (b_.mono B1.out.size)); have QA := Lib.hid (GA.out.keep b_); have QB := Lib.hid (GB.out.keep b_); have QC := Lib.hid (GC.out.keep b_); clear c0 c1 c2 c3 c4 c5 b_ hzA; obtain ⟨d0, d1, d2, d3, d4, d5⟩ := QC.out.six))
              go_roundw
              case rel => exact ⟨m + 1, by omega, by go_num, B3.out, QB.out, T3.out⟩
              case measure => simp [intOf]; omega
        · obtain rfl : m = 9 := by omega
          have HB0 := Lib.hid hb
          have G1 := Lib.hid hg
          have HT0 := Lib.hid ht
          clear hb hg ht
          go_wp2
          go_roundw
          case rel => exact ⟨n + 1, by omega, by go_num, HB0.out, G1.out, HT0.out⟩
          case measure => simp [intOf]; omega
    · obtain rfl : n = 9 := by omega
      have HB0 := Lib.hid hb
      have HT0 := Lib.hid ht
      clear hb hg ht
      go_wp2_with (go_at_call 18; refine (known_any _ HT0.out).mono ?_; rintro e v9 ⟨rfl, b_⟩; have B9 := Lib.hid (HB0.out.trans (b_.mono HB0.out.size)); clear b_)
      go_ret
      exact ⟨rfl, B9.out⟩
theorem walk (w : World) (hL : laidMetH Tryd.prog laidK w) (x : Ky) : Calls Tryd.prog 11 #[x.val] w fun e w' => e = .returned (.bool true) ∧ Below w.heap.size w w' := walk0 w (tab_of hL) x
set_option maxRecDepth 100000 in
theorem lifted (os : Os) (started : os.Started) (H : Type) (enc : TypeId × Value → H) :
    ReturnsInHanded {} Tryd.checked os 11 .any (fun w args => (Rows.keysRightsSpec.pre enc Tryd.prog Tryd.f11 [] false w args ∧ laidMetH Tryd.prog laidK w) ∧ sizedMet enc Tryd.prog Tryd.f11 (OpenSpec.ofChange Rows.keysRightsSpec) false w args) (Rows.keysRightsSpec.post enc Tryd.prog Tryd.f11 false true false false) := by
  refine returnsInHanded_of_change_and (C := Tryd.checked) (X := fun w _ => laidMetH Tryd.prog laidK w) (fun _ _ _ hh h => h.of_heap hh) own started (by kernel_rfl) Tryd.func11
    (ChangeSpec.witness_shaped (enc := enc) (C := Tryd.checked) (os := os) (X := fun w _ => laidMetH Tryd.prog laidK w) false (World.doorLaid Tryd.prog 40 os) #[.agg #[.int .i64 0, .int .i64 0, .int .i64 0, .int .i64 0, .int .i64 0, .int .i64 0]] 8 rfl (World.shaped_of_RefB (by kernel_rfl) (by kernel_rfl)) (by kernel_rfl) (by kernel_rfl) (by kernel_rfl) (door_met os _)) ?_
  intro W base args ds gs before hval0 hW _ _ hL _
  have hval : ∀ (j : Nat) t v, Tryd.f11.params[j]? = some t → args[j]? = some v → Value.okWide Tryd.prog W .any base t v := hval0
  have hW' := hW
  obtain ⟨p, q, hA0, hV, rfl, hfz, hnd⟩ := hW
  have hA : DataW.TrodAll enc Tryd.prog W 0 (fun _ => true) true Tryd.f11.params.toList args.toList ds p := hA0
  rw [Tryd.params11] at hA hval
  obtain ⟨v0, vs0, d0, ds0, p0, q0, hargs, rfl, rfl, h0, t0⟩ := trodAll_cons hA
  obtain ⟨rfl, rfl, rfl⟩ := trodAll_nil t0
  obtain rfl : args = #[v0] := by cases args; simp_all
  obtain ⟨rfl, rfl⟩ := trodVars_none hV
  have k0 := h0
  have lt0 : ∀ x ∈ p0, x.block < W.heap.size := by obtain ⟨m, hm⟩ := k0; exact DataW.trod_lt m _ _ _ hm
  obtain ⟨x0, rfl⟩ := open_key (hval 0 25 v0 rfl rfl) h0
  clear hA0 hval0
  refine (walk W hL x0).mono fun e W' ⟨he, bel⟩ => ?_
  subst he
  exact ⟨_, rfl, _, _, _, [], _, [], hW', trodAll_mk1 (shut_bool Tryd.underlying4 _), (trodAll_cons_mk (Below.trod laidOut (by kernel_rfl) (of_decide_eq_true (by kernel_rfl)) k0 bel lt0) trodAll_mk0), rfl, bel.frame _, fun h => by cases h⟩
theorem over : Rows.keysRightsRow.holds Tryd.pinned (OpenSpec.ofChange Rows.keysRightsSpec) :=
  OpenClaim.holds_of_wide 11 Tryd.f11 rfl rfl rfl rfl rfl rfl rfl ⟨rfl, rfl, rfl, rfl, rfl⟩ rfl rfl rfl rfl rfl (by kernel_rfl) Tryd.func11 (by kernel_rfl)
    (of_decide_eq_true (by kernel_rfl)) (by unfold Func.isWrapper; first | (rw [if_pos (by decide +kernel)]; kernel_rfl) | (rw [if_neg (by decide +kernel)]; exact ⟨rfl, rfl⟩))
    (fun os started H enc _ => lifted os started H enc)
theorem proved : Rows.KeysRightsCardSaid :=
  Claim7.holds_tied_plain_at .later [] [.data] true Rows.keysRightsCard.stood.harness false
    over (fun _ h => by cases h) (by kernel_rfl) (fun _ h => by cases h) keysRights_row_tie rfl ⟨rfl, rfl⟩ (by kernel_rfl) rfl
    (fun f fn hf hfn => by
      obtain rfl : f = 11 := Option.some.inj ((show Tryd.prog.funcNamed "chatelaine/chatelainelaw03.KeysRights" = some 11 by kernel_rfl).symm.trans hf) |>.symm
      obtain rfl : fn = Tryd.f11 := (Option.some.inj (Tryd.func11.symm.trans hfn)).symm
      exact ⟨by kernel_rfl, fun j t ht => by
        rw [Tryd.params11] at ht
        have hm : t ∈ [25] := by simpa using Array.mem_of_getElem? ht
        have hall : ([25].all fun u => !Tryd.prog.wantsStandIn u) = true := by kernel_rfl
        exact (show Tryd.prog.wantsStandIn t = false by simpa using List.all_eq_true.1 hall t hm)⟩)
    (by kernel_rfl)
end Go.Proofs.YtmpibbgciajnkaaDoor.keysRights

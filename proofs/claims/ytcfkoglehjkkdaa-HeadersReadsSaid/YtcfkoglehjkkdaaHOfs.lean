/- headers, of the document: OfSector, of any bytes. -/
import Derived.Test.YtcfkoglehjkkdaaHGot
import Derived.Test.YtcfkoglehjkkdaaHAll
namespace Go.Proofs.Ytcfkoglehjkkdaa
open Go.RowKit
attribute [local go_sem] Oper.semAt_some
theorem region_one8 {P : Program} {id : Nat} {ops : Array Oper} {Q : Exit → Act → World → Prop} {a : Act} {w : World} (F : Act → Nat → Act) (Fx : Nat → World → Prop) (H : (Code.region id ops true).wp P (fun e a' w' => ∃ g, e = .normal ∧ a' = F a g ∧ Fx g w') a w) (K : ∀ g W, Fx g W → Q .normal (F a g) W) : (Code.region id ops true).wp P Q a w :=
  Code.wp_mono (fun e a' w' ⟨g, e1, e2, e3⟩ => by subst e1 e2; exact K g w' e3) H
theorem yields_neq47b {ops : Array Oper} {S : World → Prop} {o : Oper} {a : Act} (hw : Region.wanted o (yielded ops a.tmps) = true) (x y : Operand) (ho : o.op = .binOp .neq 56 x y 56) (l l' : List UInt8) (b : Bool) (hq : (!(l == l')) = b) (hx : a.eval x = sec l) (hy : a.eval y = sec l') (h : l.length = 512) (h' : l'.length = 512) : YieldsIf Try.prog ops S o (.bool b) a :=
  .inl ⟨hw, fun w _ => by
    subst hq
    unfold execOp
    simp only [ho, hx, hy, Sem.run_bind, run_eqGuard_agg (P := Try.prog) w .neq 56 x y (bv l).toArray (bv l').toArray (by kernel_rfl), run_neq47 w l l' h h', Result.andThen_ok, Sem.run_pure]⟩
set_option maxRecDepth 8000 in
theorem step_alloc23 {ops : Array Oper} {o : Oper} {a : Act} {w : World} {K : Act → World → Prop} {Q : Exit → Act → World → Prop} {E : Prop} (hgd : o.guard = none) (ho : o.op = .alloc 28)
    (h : ∀ g w', g = w.heap.size → w' = w.alloc (.cells (Hd.cs ⟨0, 0, 0⟩).toArray 28) → K (a.put o.dst (.pointer (some ⟨g, 0, none⟩))) w') :
    if Region.wanted o (yielded ops a.tmps) = true then Oper.wp Try.prog o a w K Q else E := by
  have hw : Region.wanted o (yielded ops a.tmps) = true := by simp [Region.wanted, hgd]
  rw [if_pos hw]
  unfold Oper.wp
  simp [execOp, ho, Result.andThen]
  exact h _ _ rfl rfl
set_option maxRecDepth 100000 in
set_option maxHeartbeats 8000000 in
theorem rof_big {w : World} (l : List UInt8) (hl : l.length = 512) (z : Nat) (he : ¬ eB l ≤ 9223372036854775807) : Calls Try.prog 48 #[sec l, .int .i64 (z : Int)] w fun r w' => r = .returned (.tuple #[Hd.val (gotH z l), .bool (gotB z l)]) ∧ Below w.heap.size w w' := by
  have hz := z23
  obtain ⟨W0, hW⟩ : ∃ W, W = (w.alloc (.cells (bv l).toArray 56)).alloc (.cells (Hd.cs ⟨0, 0, 0⟩).toArray 28) := ⟨_, rfl⟩
  have A0 := Lib.hid (show Blk W0 w.heap.size 56 (bv l).toArray from by rw [hW]; exact (Blk.new w _ _).alloc _)
  have A1 := Lib.hid (show Blk W0 (w.heap.size + 1) 28 (Hd.cs ⟨0, 0, 0⟩).toArray from by rw [hW]; exact blk_new1 w _ _ _)
  have AL := Lib.hid (show Below w.heap.size w W0 from by rw [hW]; exact ((Below.refl w.heap.size w).alloc (Nat.le_refl _) _).alloc (by simp) _)
  have hx11 : W0.cell? ⟨w.heap.size, 11, none⟩ = some (.int .u8 ((l[11]'(by omega)).toNat : Int)) := (A0.out.cell 11).trans (by rw [List.getElem?_toArray, bv_get, List.getElem?_eq_getElem (by omega)]; rfl)
  have hb : 127 < (l[11]'(by omega)).toNat := by
    rw [eB_iff hl] at he
    omega
  have hg : gotB z l = false := by
    unfold gotB
    exact decide_eq_false (fun h => he h.1.1)
  rw [show gotH z l = ⟨0, 0, 0⟩ by unfold gotH; rw [hg]; rfl, hg]
  obtain ⟨x11, hx⟩ : ∃ x : Nat, (l[11]'(by omega)).toNat = x := ⟨_, rfl⟩
  rw [hx] at hx11 hb
  have d11 : decide ((127 : Int) < (x11 : Int)) = true := decide_eq_true (by omega)
  have d11' : decide (127 < x11) = true := decide_eq_true (by omega)
  clear he hg hx hb hl
  subst hW
  go_enter Try.func48, Try.ntmps48
  go_wp2_with (first
    | (refine wpList_store_row rfl 28 (.tmp 4) (.tmp 10) rfl (w.heap.size + 1) (Hd.cs ⟨0, 0, 0⟩).toArray rfl rfl 28 _ A1.out (by kernel_rfl) rfl (one23 _) ?_))
  exact bodyPost_ret (results_hd rfl _ _ (w.heap.size + 1) ⟨0, 0, 0⟩ rfl (A1.out.setRow _)) rfl ⟨rfl, below_setRow AL.out (by omega) _⟩
set_option maxRecDepth 100000 in
set_option maxHeartbeats 8000000 in
theorem rof_bad {w : World} (l : List UInt8) (hl : l.length = 512) (z : Nat) (he : eB l ≤ 9223372036854775807) (hk : ¬ (aB l < 2 ∧ 1 ≤ oB l ∧ oB l ≤ 64)) : Calls Try.prog 48 #[sec l, .int .i64 (z : Int)] w fun r w' => r = .returned (.tuple #[Hd.val (gotH z l), .bool (gotB z l)]) ∧ Below w.heap.size w w' := by
  have hz := z23
  obtain ⟨W0, hW⟩ : ∃ W, W = (w.alloc (.cells (bv l).toArray 56)).alloc (.cells (Hd.cs ⟨0, 0, 0⟩).toArray 28) := ⟨_, rfl⟩
  have A0 := Lib.hid (show Blk W0 w.heap.size 56 (bv l).toArray from by rw [hW]; exact (Blk.new w _ _).alloc _)
  have A1 := Lib.hid (show Blk W0 (w.heap.size + 1) 28 (Hd.cs ⟨0, 0, 0⟩).toArray from by rw [hW]; exact blk_new1 w _ _ _)
  have AL := Lib.hid (show Below w.heap.size w W0 from by rw [hW]; exact ((Below.refl w.heap.size w).alloc (Nat.le_refl _) _).alloc (by simp) _)
  have hx11 : W0.cell? ⟨w.heap.size, 11, none⟩ = some (.int .u8 ((l[11]'(by omega)).toNat : Int)) := (A0.out.cell 11).trans (by rw [List.getElem?_toArray, bv_get, List.getElem?_eq_getElem (by omega)]; rfl)
  have hg : gotB z l = false := by
    unfold gotB
    exact decide_eq_false (fun h => hk h.1.2)
  rw [show gotH z l = ⟨0, 0, 0⟩ by unfold gotH; rw [hg]; rfl, hg]
  have hb : (l[11]'(by omega)).toNat ≤ 127 := (eB_iff hl).1 he
  have HL := Lib.hid hl
  have ha := aB_lt l hl
  have ho := oB_lt l hl
  have q1 : ∀ W : World, Rd W (some ⟨w.heap.size, 0, none⟩) l → Calls Try.prog 65 #[.slice (some ⟨w.heap.size, 4, none⟩) 8 508] W fun r w' => r = .returned (.int .i64 (eB l : Int)) ∧ W = w' := fun W hr =>
    rnum8 _ 8 508 (cutB l 4 8) W (cutB_length hl 4 8 (by omega)) (by have := (hr.drop 4).take 8; rwa [Nat.zero_add] at this) (.inr (.inr rfl)) he (fun _ => (top_iff (cutB_length hl 4 8 (by omega))).1 he)
  have q2 : ∀ W : World, Rd W (some ⟨w.heap.size, 0, none⟩) l → Calls Try.prog 65 #[.slice (some ⟨w.heap.size, 12, none⟩) 2 500] W fun r w' => r = .returned (.int .i64 (aB l : Int)) ∧ W = w' := fun W hr =>
    rnum8 _ 2 500 (cutB l 12 2) W (cutB_length hl 12 2 (by omega)) (by have := (hr.drop 12).take 2; rwa [Nat.zero_add] at this) (.inl rfl) (by unfold aB at ha; omega) (fun h => by omega)
  have q3 : ∀ W : World, Rd W (some ⟨w.heap.size, 0, none⟩) l → Calls Try.prog 65 #[.slice (some ⟨w.heap.size, 14, none⟩) 2 498] W fun r w' => r = .returned (.int .i64 (oB l : Int)) ∧ W = w' := fun W hr =>
    rnum8 _ 2 498 (cutB l 14 2) W (cutB_length hl 14 2 (by omega)) (by have := (hr.drop 14).take 2; rwa [Nat.zero_add] at this) (.inl rfl) (by unfold oB at ho; omega) (fun h => by omega)
  obtain ⟨x11, hx⟩ : ∃ x : Nat, (l[11]'(by omega)).toNat = x := ⟨_, rfl⟩
  rw [hx] at hx11 hb
  have d11 : decide ((127 : Int) < (x11 : Int)) = false := decide_eq_false (by omega)
  have d11' : decide (127 < x11) = false := decide_eq_false (by omega)
  obtain ⟨e, hee⟩ : ∃ e, eB l = e := ⟨_, rfl⟩
  obtain ⟨a, haa⟩ : ∃ a, aB l = a := ⟨_, rfl⟩
  obtain ⟨o, hoo⟩ : ∃ o, oB l = o := ⟨_, rfl⟩
  rw [hee] at q1 he
  rw [haa] at q2 ha
  rw [hoo] at q3 ho
  have RN4 := Lib.hid q1
  have RN12 := Lib.hid q2
  have RN14 := Lib.hid q3
  have HE := Lib.hid (show (e : Int) ≤ 9223372036854775807 by omega)
  have HA := Lib.hid ha
  have HO := Lib.hid ho
  rw [haa, hoo] at hk
  have HNO := Lib.hid (show Hd.no ⟨(e : Int), (a : Int), (o : Int)⟩ = 2 by unfold Hd.no; rw [if_neg (by simp only; omega)])
  clear hk
  clear hg hee haa hoo hx hb he ha ho q1 q2 q3 hl
  rw [hW] at hx11
  go_enter Try.func48, Try.ntmps48
  go_wp2_with fail
  rw [← hW]
  clear hW hx11
  replace A0 := Lib.hid (blk_drew A0.out)
  replace A1 := Lib.hid (blk_drew A1.out)
  replace AL := Lib.hid AL.out.drew
  refine region_one8 (fun ac g9 => ((((((((ac.put (some 11) (.slice (some ⟨w.heap.size, 4, none⟩) 8 508)).put (some 12) (.int .i64 (e : Int))).put (some 13) (.slice (some ⟨w.heap.size, 12, none⟩) 2 500)).put (some 14) (.int .i64 (a : Int))).put (some 15) (.slice (some ⟨w.heap.size, 14, none⟩) 2 498)).put (some 16) (.int .i64 (o : Int))).put (some 17) (.agg (Hd.cs ⟨(e : Int), (a : Int), (o : Int)⟩).toArray)).put (some 6) (.pointer (some ⟨g9, 0, none⟩)))) (fun g9 W => Blk W w.heap.size 56 (bv l).toArray ∧ Blk W (w.heap.size + 1) 28 (Hd.cs ⟨0, 0, 0⟩).toArray ∧ Blk W g9 28 (Hd.cs ⟨(e : Int), (a : Int), (o : Int)⟩).toArray ∧ Below w.heap.size w W ∧ w.heap.size + 1 < g9) ?mkR ?restR
  case mkR =>
    refine wp_region_only (S := fun _ => True) (by kernel_rfl) trivial (fun hHeld => ?_)
    refine wpAnyH_take (i := 0) (v := ?v1) rfl (by kernel_rfl) (by kernel_rfl) (by kernel_rfl) (fun _ _ _ h => h) (Or.inl ⟨by rfl, ?hy1⟩) hHeld ?rest1
    case hy1 =>
      intro w' hSw
      try dsimp only at hSw
      go_simp
      first | done | with_reducible rfl
    try simp only [Act.put, List.getElem_toArray, List.getElem_cons_zero, List.setIfInBounds_toArray, List.set_cons_zero, List.set_cons_succ]
    refine wpAnyH_take (i := 2) (v := ?v2) rfl (by kernel_rfl) (by kernel_rfl) (by kernel_rfl) (fun _ _ _ h => h) (Or.inl ⟨by rfl, ?hy2⟩) hHeld ?rest2
    case hy2 =>
      intro w' hSw
      try dsimp only at hSw
      go_simp
      first | done | with_reducible rfl
    try simp only [Act.put, List.getElem_toArray, List.getElem_cons_succ, List.getElem_cons_zero, List.setIfInBounds_toArray, List.set_cons_zero, List.set_cons_succ]
    refine wpAnyH_take (i := 4) (v := ?v3) rfl (by kernel_rfl) (by kernel_rfl) (by kernel_rfl) (fun _ _ _ h => h) (Or.inl ⟨by rfl, ?hy3⟩) hHeld ?rest3
    case hy3 =>
      intro w' hSw
      try dsimp only at hSw
      go_simp
      first | done | with_reducible rfl
    try simp only [Act.put, List.getElem_toArray, List.getElem_cons_succ, List.getElem_cons_zero, List.setIfInBounds_toArray, List.set_cons_zero, List.set_cons_succ]
    refine wpAnyH_ready (rs := [1, 7]) (by kernel_rfl) (by simp) ?_
    refine AllReadyH.cons (by rfl) (fun K hK => ?_) (AllReadyH.cons (by rfl) (fun K hK => ?_) AllReadyH.nil)
    · go_simp
      refine (RN4.out _ (rd_bv A0.out)).mono ?_
      rintro r w9 ⟨rfl, rfl⟩
      clear hHeld
      refine hK.out _ _ trivial (fun hHeld => ?_)
      clear hK K
      try simp only [Act.put, List.getElem_toArray, List.getElem_cons_succ, List.getElem_cons_zero, List.setIfInBounds_toArray, List.set_cons_zero, List.set_cons_succ]
      refine wpAnyH_ready (rs := [3, 7]) (by kernel_rfl) (by simp) ?_
      refine AllReadyH.cons (by rfl) (fun K hK => ?_) (AllReadyH.cons (by rfl) (fun K hK => ?_) AllReadyH.nil)
      · go_simp
        refine (RN12.out _ (rd_bv A0.out)).mono ?_
        rintro r w9 ⟨rfl, rfl⟩
        clear hHeld
        refine hK.out _ _ trivial (fun hHeld => ?_)
        clear hK K
        try simp only [Act.put, List.getElem_toArray, List.getElem_cons_succ, List.getElem_cons_zero, List.setIfInBounds_toArray, List.set_cons_zero, List.set_cons_succ]
        refine wpAnyH_ready (rs := [5, 7]) (by kernel_rfl) (by simp) ?_
        refine AllReadyH.cons (by rfl) (fun K hK => ?_) (AllReadyH.cons (by rfl) (fun K hK => ?_) AllReadyH.nil)
        · go_simp
          refine (RN14.out _ (rd_bv A0.out)).mono ?_
          rintro r w9 ⟨rfl, rfl⟩
          clear hHeld
          refine hK.out _ _ trivial (fun hHeld => ?_)
          clear hK K
          try simp only [Act.put, List.getElem_toArray, List.getElem_cons_succ, List.getElem_cons_zero, List.setIfInBounds_toArray, List.set_cons_zero, List.set_cons_succ]
          refine wpAnyH_take (i := 6) (v := ?v4) rfl (by kernel_rfl) (by kernel_rfl) (by kernel_rfl) (fun _ _ _ h => h) (Or.inl ⟨by rfl, ?hy4⟩) hHeld ?rest4
          case hy4 =>
            intro w' hSw
            try dsimp only at hSw
            go_simp
            first | done | with_reducible rfl
          try simp only [Act.put, List.getElem_toArray, List.getElem_cons_succ, List.getElem_cons_zero, List.setIfInBounds_toArray, List.set_cons_zero, List.set_cons_succ]
          refine wpAnyH_ready (rs := [7]) (by kernel_rfl) (by simp) ?_
          refine AllReadyH.cons (by rfl) (fun K hK => ?_) AllReadyH.nil
          refine step_alloc23 rfl (by rfl) ?_
          intro g W2 hg hw
          have GG := Lib.hid (show w.heap.size + 1 < g from by rw [hg]; exact A1.out.lt)
          have G := Lib.hid (show Blk W2 g 28 (Hd.cs ⟨0, 0, 0⟩).toArray from by rw [hw, hg]; exact Blk.new _ _ _)
          have A0 := Lib.hid (show Blk W2 _ _ _ from by rw [hw]; exact A0.out.alloc _)
          have A1 := Lib.hid (show Blk W2 _ _ _ from by rw [hw]; exact A1.out.alloc _)
          have AL := Lib.hid (show Below w.heap.size w W2 from by rw [hw]; exact AL.out.alloc AL.out.size _)
          clear hg hw hHeld
          refine hK.out _ _ trivial (fun hHeld => ?_)
          clear hK K
          try simp only [Act.put, List.getElem_toArray, List.getElem_cons_succ, List.getElem_cons_zero, List.setIfInBounds_toArray, List.set_cons_zero, List.set_cons_succ]
          refine wpAnyH_ready (rs := [8]) (by kernel_rfl) (by simp) ?_
          refine AllReadyH.cons (by rfl) (fun K hK => ?_) AllReadyH.nil
          refine step_store8 rfl 28 (.tmp 6) (.tmp 17) rfl (by rfl) (Hd.cs ⟨(e : Int), (a : Int), (o : Int)⟩).toArray (Hd.cs ⟨0, 0, 0⟩).toArray 28 (by rfl) G.out (by kernel_rfl) rfl (one23 _) ?_
          intro W6 j6 f6
          have G := Lib.hid j6
          have A0 := Lib.hid (f6.keepBlk A0.out (by have := GG.out; omega))
          have A1 := Lib.hid (f6.keepBlk A1.out (by have := GG.out; omega))
          have AL := Lib.hid (AL.out.trans (f6.to_below (fun k e => by have := GG.out; omega) AL.out.size))
          clear hHeld j6 f6
          refine hK.out _ _ trivial (fun hHeld => ?_)
          clear hK K
          try simp only [Act.put, List.getElem_toArray, List.getElem_cons_succ, List.getElem_cons_zero]
          refine wpAnyH_done (by kernel_rfl) ?_ _
          refine OnlyN.normal ?_
          exact ⟨g, rfl, rfl, A0.out, A1.out, G.out, AL.out, GG.out⟩
        · refine step_alloc23 rfl (by rfl) ?_
          intro g W2 hg hw
          have GG := Lib.hid (show w.heap.size + 1 < g from by rw [hg]; exact A1.out.lt)
          have G := Lib.hid (show Blk W2 g 28 (Hd.cs ⟨0, 0, 0⟩).toArray from by rw [hw, hg]; exact Blk.new _ _ _)
          have A0 := Lib.hid (show Blk W2 _ _ _ from by rw [hw]; exact A0.out.alloc _)
          have A1 := Lib.hid (show Blk W2 _ _ _ from by rw [hw]; exact A1.out.alloc _)
          have AL := Lib.hid (show Below w.heap.size w W2 from by rw [hw]; exact AL.out.alloc AL.out.size _)
          clear hg hw hHeld
          refine hK.out _ _ trivial (fun hHeld => ?_)
          clear hK K
          try simp only [Act.put, List.getElem_toArray, List.getElem_cons_succ, List.getElem_cons_zero, List.setIfInBounds_toArray, List.set_cons_zero, List.set_cons_succ]
          refine wpAnyH_ready (rs := [5]) (by kernel_rfl) (by simp) ?_
          refine AllReadyH.cons (by rfl) (fun K hK => ?_) AllReadyH.nil
          go_simp
          refine (RN14.out _ (rd_bv A0.out)).mono ?_
          rintro r w9 ⟨rfl, rfl⟩
          clear hHeld
          refine hK.out _ _ trivial (fun hHeld => ?_)
          clear hK K
          try simp only [Act.put, List.getElem_toArray, List.getElem_cons_succ, List.getElem_cons_zero, List.setIfInBounds_toArray, List.set_cons_zero, List.set_cons_succ]
          refine wpAnyH_take (i := 6) (v := ?v5) rfl (by kernel_rfl) (by kernel_rfl) (by kernel_rfl) (fun _ _ _ h => h) (Or.inl ⟨by rfl, ?hy5⟩) hHeld ?rest5
          case hy5 =>
            intro w' hSw
            try dsimp only at hSw
            go_simp
            first | done | with_reducible rfl
          try simp only [Act.put, List.getElem_toArray, List.getElem_cons_succ, List.getElem_cons_zero, List.setIfInBounds_toArray, List.set_cons_zero, List.set_cons_succ]
          refine wpAnyH_ready (rs := [8]) (by kernel_rfl) (by simp) ?_
          refine AllReadyH.cons (by rfl) (fun K hK => ?_) AllReadyH.nil
          refine step_store8 rfl 28 (.tmp 6) (.tmp 17) rfl (by rfl) (Hd.cs ⟨(e : Int), (a : Int), (o : Int)⟩).toArray (Hd.cs ⟨0, 0, 0⟩).toArray 28 (by rfl) G.out (by kernel_rfl) rfl (one23 _) ?_
          intro W6 j6 f6
          have G := Lib.hid j6
          have A0 := Lib.hid (f6.keepBlk A0.out (by have := GG.out; omega))
          have A1 := Lib.hid (f6.keepBlk A1.out (by have := GG.out; omega))
          have AL := Lib.hid (AL.out.trans (f6.to_below (fun k e => by have := GG.out; omega) AL.out.size))
          clear hHeld j6 f6
          refine hK.out _ _ trivial (fun hHeld => ?_)
          clear hK K
          try simp only [Act.put, List.getElem_toArray, List.getElem_cons_succ, List.getElem_cons_zero]
          refine wpAnyH_done (by kernel_rfl) ?_ _
          refine OnlyN.normal ?_
          exact ⟨g, rfl, rfl, A0.out, A1.out, G.out, AL.out, GG.out⟩
      · refine step_alloc23 rfl (by rfl) ?_
        intro g W2 hg hw
        have GG := Lib.hid (show w.heap.size + 1 < g from by rw [hg]; exact A1.out.lt)
        have G := Lib.hid (show Blk W2 g 28 (Hd.cs ⟨0, 0, 0⟩).toArray from by rw [hw, hg]; exact Blk.new _ _ _)
        have A0 := Lib.hid (show Blk W2 _ _ _ from by rw [hw]; exact A0.out.alloc _)
        have A1 := Lib.hid (show Blk W2 _ _ _ from by rw [hw]; exact A1.out.alloc _)
        have AL := Lib.hid (show Below w.heap.size w W2 from by rw [hw]; exact AL.out.alloc AL.out.size _)
        clear hg hw hHeld
        refine hK.out _ _ trivial (fun hHeld => ?_)
        clear hK K
        try simp only [Act.put, List.getElem_toArray, List.getElem_cons_succ, List.getElem_cons_zero, List.setIfInBounds_toArray, List.set_cons_zero, List.set_cons_succ]
        refine wpAnyH_ready (rs := [3]) (by kernel_rfl) (by simp) ?_
        refine AllReadyH.cons (by rfl) (fun K hK => ?_) AllReadyH.nil
        go_simp
        refine (RN12.out _ (rd_bv A0.out)).mono ?_
        rintro r w9 ⟨rfl, rfl⟩
        clear hHeld
        refine hK.out _ _ trivial (fun hHeld => ?_)
        clear hK K
        try simp only [Act.put, List.getElem_toArray, List.getElem_cons_succ, List.getElem_cons_zero, List.setIfInBounds_toArray, List.set_cons_zero, List.set_cons_succ]
        refine wpAnyH_ready (rs := [5]) (by kernel_rfl) (by simp) ?_
        refine AllReadyH.cons (by rfl) (fun K hK => ?_) AllReadyH.nil
        go_simp
        refine (RN14.out _ (rd_bv A0.out)).mono ?_
        rintro r w9 ⟨rfl, rfl⟩
        clear hHeld
        refine hK.out _ _ trivial (fun hHeld => ?_)
        clear hK K
        try simp only [Act.put, List.getElem_toArray, List.getElem_cons_succ, List.getElem_cons_zero, List.setIfInBounds_toArray, List.set_cons_zero, List.set_cons_succ]
        refine wpAnyH_take (i := 6) (v := ?v6) rfl (by kernel_rfl) (by kernel_rfl) (by kernel_rfl) (fun _ _ _ h => h) (Or.inl ⟨by rfl, ?hy6⟩) hHeld ?rest6
        case hy6 =>
          intro w' hSw
          try dsimp only at hSw
          go_simp
          first | done | with_reducible rfl
        try simp only [Act.put, List.getElem_toArray, List.getElem_cons_succ, List.getElem_cons_zero, List.setIfInBounds_toArray, List.set_cons_zero, List.set_cons_succ]
        refine wpAnyH_ready (rs := [8]) (by kernel_rfl) (by simp) ?_
        refine AllReadyH.cons (by rfl) (fun K hK => ?_) AllReadyH.nil
        refine step_store8 rfl 28 (.tmp 6) (.tmp 17) rfl (by rfl) (Hd.cs ⟨(e : Int), (a : Int), (o : Int)⟩).toArray (Hd.cs ⟨0, 0, 0⟩).toArray 28 (by rfl) G.out (by kernel_rfl) rfl (one23 _) ?_
        intro W6 j6 f6
        have G := Lib.hid j6
        have A0 := Lib.hid (f6.keepBlk A0.out (by have := GG.out; omega))
        have A1 := Lib.hid (f6.keepBlk A1.out (by have := GG.out; omega))
        have AL := Lib.hid (AL.out.trans (f6.to_below (fun k e => by have := GG.out; omega) AL.out.size))
        clear hHeld j6 f6
        refine hK.out _ _ trivial (fun hHeld => ?_)
        clear hK K
        try simp only [Act.put, List.getElem_toArray, List.getElem_cons_succ, List.getElem_cons_zero]
        refine wpAnyH_done (by kernel_rfl) ?_ _
        refine OnlyN.normal ?_
        exact ⟨g, rfl, rfl, A0.out, A1.out, G.out, AL.out, GG.out⟩
    · refine step_alloc23 rfl (by rfl) ?_
      intro g W2 hg hw
      have GG := Lib.hid (show w.heap.size + 1 < g from by rw [hg]; exact A1.out.lt)
      have G := Lib.hid (show Blk W2 g 28 (Hd.cs ⟨0, 0, 0⟩).toArray from by rw [hw, hg]; exact Blk.new _ _ _)
      have A0 := Lib.hid (show Blk W2 _ _ _ from by rw [hw]; exact A0.out.alloc _)
      have A1 := Lib.hid (show Blk W2 _ _ _ from by rw [hw]; exact A1.out.alloc _)
      have AL := Lib.hid (show Below w.heap.size w W2 from by rw [hw]; exact AL.out.alloc AL.out.size _)
      clear hg hw hHeld
      refine hK.out _ _ trivial (fun hHeld => ?_)
      clear hK K
      try simp only [Act.put, List.getElem_toArray, List.getElem_cons_succ, List.getElem_cons_zero, List.setIfInBounds_toArray, List.set_cons_zero, List.set_cons_succ]
      refine wpAnyH_ready (rs := [1]) (by kernel_rfl) (by simp) ?_
      refine AllReadyH.cons (by rfl) (fun K hK => ?_) AllReadyH.nil
      go_simp
      refine (RN4.out _ (rd_bv A0.out)).mono ?_
      rintro r w9 ⟨rfl, rfl⟩
      clear hHeld
      refine hK.out _ _ trivial (fun hHeld => ?_)
      clear hK K
      try simp only [Act.put, List.getElem_toArray, List.getElem_cons_succ, List.getElem_cons_zero, List.setIfInBounds_toArray, List.set_cons_zero, List.set_cons_succ]
      refine wpAnyH_ready (rs := [3]) (by kernel_rfl) (by simp) ?_
      refine AllReadyH.cons (by rfl) (fun K hK => ?_) AllReadyH.nil
      go_simp
      refine (RN12.out _ (rd_bv A0.out)).mono ?_
      rintro r w9 ⟨rfl, rfl⟩
      clear hHeld
      refine hK.out _ _ trivial (fun hHeld => ?_)
      clear hK K
      try simp only [Act.put, List.getElem_toArray, List.getElem_cons_succ, List.getElem_cons_zero, List.setIfInBounds_toArray, List.set_cons_zero, List.set_cons_succ]
      refine wpAnyH_ready (rs := [5]) (by kernel_rfl) (by simp) ?_
      refine AllReadyH.cons (by rfl) (fun K hK => ?_) AllReadyH.nil
      go_simp
      refine (RN14.out _ (rd_bv A0.out)).mono ?_
      rintro r w9 ⟨rfl, rfl⟩
      clear hHeld
      refine hK.out _ _ trivial (fun hHeld => ?_)
      clear hK K
      try simp only [Act.put, List.getElem_toArray, List.getElem_cons_succ, List.getElem_cons_zero, List.setIfInBounds_toArray, List.set_cons_zero, List.set_cons_succ]
      refine wpAnyH_take (i := 6) (v := ?v7) rfl (by kernel_rfl) (by kernel_rfl) (by kernel_rfl) (fun _ _ _ h => h) (Or.inl ⟨by rfl, ?hy7⟩) hHeld ?rest7
      case hy7 =>
        intro w' hSw
        try dsimp only at hSw
        go_simp
        first | done | with_reducible rfl
      try simp only [Act.put, List.getElem_toArray, List.getElem_cons_succ, List.getElem_cons_zero, List.setIfInBounds_toArray, List.set_cons_zero, List.set_cons_succ]
      refine wpAnyH_ready (rs := [8]) (by kernel_rfl) (by simp) ?_
      refine AllReadyH.cons (by rfl) (fun K hK => ?_) AllReadyH.nil
      refine step_store8 rfl 28 (.tmp 6) (.tmp 17) rfl (by rfl) (Hd.cs ⟨(e : Int), (a : Int), (o : Int)⟩).toArray (Hd.cs ⟨0, 0, 0⟩).toArray 28 (by rfl) G.out (by kernel_rfl) rfl (one23 _) ?_
      intro W6 j6 f6
      have G := Lib.hid j6
      have A0 := Lib.hid (f6.keepBlk A0.out (by have := GG.out; omega))
      have A1 := Lib.hid (f6.keepBlk A1.out (by have := GG.out; omega))
      have AL := Lib.hid (AL.out.trans (f6.to_below (fun k e => by have := GG.out; omega) AL.out.size))
      clear hHeld j6 f6
      refine hK.out _ _ trivial (fun hHeld => ?_)
      clear hK K
      try simp only [Act.put, List.getElem_toArray, List.getElem_cons_succ, List.getElem_cons_zero]
      refine wpAnyH_done (by kernel_rfl) ?_ _
      refine OnlyN.normal ?_
      exact ⟨g, rfl, rfl, A0.out, A1.out, G.out, AL.out, GG.out⟩
  case' restR =>
    rintro g W3 ⟨a0, a1, gh, al, gg⟩
    have A0 := Lib.hid (blk_drew a0)
    have A1 := Lib.hid (blk_drew a1)
    have G := Lib.hid (blk_drew gh)
    have AL := Lib.hid al.drew
    clear a0 a1 gh al gg
    simp only [Act.put, List.setIfInBounds_toArray, List.set_cons_zero, List.set_cons_succ]
    go_wp2_with fail
    refine wp_region_only (S := fun w' => w'.cell? ⟨g, 2, none⟩ = some (.int .i64 (o : Int)) ∧ Blk w' g 28 (Hd.cs ⟨(e : Int), (a : Int), (o : Int)⟩).toArray ∧ Blk w' w.heap.size 56 (bv l).toArray) (by kernel_rfl) (⟨(G.out.cell 2).trans rfl, G.out, A0.out⟩) (fun hHeld => ?_)
    refine wpAnyH_take (i := 0) rfl (by kernel_rfl) (by kernel_rfl) (by kernel_rfl) (fun _ _ _ h => h) (yieldsIf_load_mid (by rfl) 28 (.tmp 6) (by rfl) g 0 (by rfl) (Hd.cs ⟨(e : Int), (a : Int), (o : Int)⟩) _ (fun w' hSw => Blk.rangeAt (l := (Hd.cs ⟨(e : Int), (a : Int), (o : Int)⟩)) hSw.2.1) Try.underlying28 rfl (size23 _)) hHeld ?_
    try simp only [Act.put, List.getElem_toArray, List.getElem_cons_zero, List.setIfInBounds_toArray, List.set_cons_zero, List.set_cons_succ]
    refine wpAnyH_ready (rs := [1]) (by kernel_rfl) (by simp) ?_
    refine AllReadyH.cons (by rfl) (fun K hK => ?_) AllReadyH.nil
    go_simp
    refine (rcheck_any ⟨(e : Int), (a : Int), (o : Int)⟩ _).mono ?_
    rw [HNO.out]
    rintro r w1 ⟨rfl, hb⟩
    have A0 := Lib.hid (A0.out.below hb A0.out.lt)
    have A1 := Lib.hid (A1.out.below hb A1.out.lt)
    have G := Lib.hid (G.out.below hb G.out.lt)
    have AL := Lib.hid (AL.out.trans (hb.mono AL.out.size))
    clear hb hHeld
    refine hK.out _ _ (⟨(G.out.cell 2).trans rfl, G.out, A0.out⟩) (fun hHeld => ?_)
    clear hK K
    try simp only [Act.put, List.getElem_toArray, List.getElem_cons_succ, List.getElem_cons_zero, List.setIfInBounds_toArray, List.set_cons_zero, List.set_cons_succ]
    refine wpAnyH_take (i := 2) (v := ?v8) rfl (by kernel_rfl) (by kernel_rfl) (by kernel_rfl) (fun _ _ _ h => h) (Or.inl ⟨by rfl, ?hy8⟩) hHeld ?rest8
    case hy8 =>
      intro w' hSw
      try dsimp only at hSw
      go_simp
      first | done | with_reducible rfl
    try simp only [Act.put, List.getElem_toArray, List.getElem_cons_succ, List.getElem_cons_zero, List.setIfInBounds_toArray, List.set_cons_zero, List.set_cons_succ]
    refine wpAnyH_take (i := 3) (v := ?v9) rfl (by kernel_rfl) (by kernel_rfl) (by kernel_rfl) (fun _ _ _ h => h) (Or.inl ⟨by rfl, ?hy9⟩) hHeld ?rest9
    case hy9 =>
      intro w' hSw
      try dsimp only at hSw
      go_simp
      first | done | with_reducible rfl
    try simp only [Act.put, List.getElem_toArray, List.getElem_cons_succ, List.getElem_cons_zero, List.setIfInBounds_toArray, List.set_cons_zero, List.set_cons_succ]
    refine wpAnyH_take (i := 4) (v := undef) rfl (by kernel_rfl) (by kernel_rfl) (by kernel_rfl) (fun _ _ _ h => h) (Or.inr ⟨by rfl, rfl⟩) hHeld ?_
    try simp only [Act.put, List.getElem_toArray, List.getElem_cons_succ, List.getElem_cons_zero, List.setIfInBounds_toArray, List.set_cons_zero, List.set_cons_succ]
    refine wpAnyH_take (i := 5) (v := undef) rfl (by kernel_rfl) (by kernel_rfl) (by kernel_rfl) (fun _ _ _ h => h) (Or.inr ⟨by rfl, rfl⟩) hHeld ?_
    try simp only [Act.put, List.getElem_toArray, List.getElem_cons_succ, List.getElem_cons_zero, List.setIfInBounds_toArray, List.set_cons_zero, List.set_cons_succ]
    refine wpAnyH_take (i := 6) (v := undef) rfl (by kernel_rfl) (by kernel_rfl) (by kernel_rfl) (fun _ _ _ h => h) (Or.inr ⟨by rfl, rfl⟩) hHeld ?_
    try simp only [Act.put, List.getElem_toArray, List.getElem_cons_succ, List.getElem_cons_zero, List.setIfInBounds_toArray, List.set_cons_zero, List.set_cons_succ]
    refine wpAnyH_take (i := 7) (v := undef) rfl (by kernel_rfl) (by kernel_rfl) (by kernel_rfl) (fun _ _ _ h => h) (Or.inr ⟨by rfl, rfl⟩) hHeld ?_
    try simp only [Act.put, List.getElem_toArray, List.getElem_cons_succ, List.getElem_cons_zero, List.setIfInBounds_toArray, List.set_cons_zero, List.set_cons_succ]
    refine wpAnyH_take (i := 8) (v := ?v10) rfl (by kernel_rfl) (by kernel_rfl) (by kernel_rfl) (fun _ _ _ h => h) (Or.inl ⟨by rfl, ?hy10⟩) hHeld ?rest10
    case hy10 =>
      intro w' hSw
      try dsimp only at hSw
      go_simp
      first | done | with_reducible rfl
    try simp only [Act.put, List.getElem_toArray, List.getElem_cons_succ, List.getElem_cons_zero, List.setIfInBounds_toArray, List.set_cons_zero, List.set_cons_succ]
    refine wpAnyH_take (i := 9) (v := ?v11) rfl (by kernel_rfl) (by kernel_rfl) (by kernel_rfl) (fun _ _ _ h => h) (Or.inl ⟨by rfl, ?hy11⟩) hHeld ?rest11
    case hy11 =>
      intro w' hSw
      try dsimp only at hSw
      go_simp
      first | done | with_reducible rfl
    try simp only [Act.put, List.getElem_toArray, List.getElem_cons_succ, List.getElem_cons_zero, List.setIfInBounds_toArray, List.set_cons_zero, List.set_cons_succ]
    refine wpAnyH_take (i := 10) (v := undef) rfl (by kernel_rfl) (by kernel_rfl) (by kernel_rfl) (fun _ _ _ h => h) (Or.inr ⟨by rfl, rfl⟩) hHeld ?_
    try simp only [Act.put, List.getElem_toArray, List.getElem_cons_succ, List.getElem_cons_zero, List.setIfInBounds_toArray, List.set_cons_zero, List.set_cons_succ]
    refine wpAnyH_take (i := 11) (v := undef) rfl (by kernel_rfl) (by kernel_rfl) (by kernel_rfl) (fun _ _ _ h => h) (Or.inr ⟨by rfl, rfl⟩) hHeld ?_
    try simp only [Act.put, List.getElem_toArray, List.getElem_cons_succ, List.getElem_cons_zero, List.setIfInBounds_toArray, List.set_cons_zero, List.set_cons_succ]
    refine wpAnyH_take (i := 12) (v := undef) rfl (by kernel_rfl) (by kernel_rfl) (by kernel_rfl) (fun _ _ _ h => h) (Or.inr ⟨by rfl, rfl⟩) hHeld ?_
    try simp only [Act.put, List.getElem_toArray, List.getElem_cons_succ, List.getElem_cons_zero, List.setIfInBounds_toArray, List.set_cons_zero, List.set_cons_succ]
    refine wpAnyH_take (i := 13) (v := undef) rfl (by kernel_rfl) (by kernel_rfl) (by kernel_rfl) (fun _ _ _ h => h) (Or.inr ⟨by rfl, rfl⟩) hHeld ?_
    try simp only [Act.put, List.getElem_toArray, List.getElem_cons_succ, List.getElem_cons_zero, List.setIfInBounds_toArray, List.set_cons_zero, List.set_cons_succ]
    refine wpAnyH_take (i := 14) (v := undef) rfl (by kernel_rfl) (by kernel_rfl) (by kernel_rfl) (fun _ _ _ h => h) (Or.inr ⟨by rfl, rfl⟩) hHeld ?_
    try simp only [Act.put, List.getElem_toArray, List.getElem_cons_succ, List.getElem_cons_zero, List.setIfInBounds_toArray, List.set_cons_zero, List.set_cons_succ]
    refine wpAnyH_take (i := 15) (v := undef) rfl (by kernel_rfl) (by kernel_rfl) (by kernel_rfl) (fun _ _ _ h => h) (Or.inr ⟨by rfl, rfl⟩) hHeld ?_
    try simp only [Act.put, List.getElem_toArray, List.getElem_cons_succ, List.getElem_cons_zero, List.setIfInBounds_toArray, List.set_cons_zero, List.set_cons_succ]
    refine wpAnyH_take (i := 16) (v := undef) rfl (by kernel_rfl) (by kernel_rfl) (by kernel_rfl) (fun _ _ _ h => h) (Or.inr ⟨by rfl, rfl⟩) hHeld ?_
    try simp only [Act.put, List.getElem_toArray, List.getElem_cons_succ, List.getElem_cons_zero, List.setIfInBounds_toArray, List.set_cons_zero, List.set_cons_succ]
    refine wpAnyH_take (i := 17) (v := ?v12) rfl (by kernel_rfl) (by kernel_rfl) (by kernel_rfl) (fun _ _ _ h => h) (Or.inl ⟨by rfl, ?hy12⟩) hHeld ?rest12
    case hy12 =>
      intro w' hSw
      try dsimp only at hSw
      go_simp
      first | done | with_reducible rfl
    try simp only [Act.put, List.getElem_toArray, List.getElem_cons_succ, List.getElem_cons_zero, List.setIfInBounds_toArray, List.set_cons_zero, List.set_cons_succ]
    refine wpAnyH_done (by kernel_rfl) ?_ _
    refine OnlyN.normal ?_
    try clear hHeld
    go_wp2_with (first
      | (refine wpList_store_row rfl 28 (.tmp 4) (.tmp 36) rfl (w.heap.size + 1) (Hd.cs ⟨0, 0, 0⟩).toArray rfl rfl 28 _ A1.out (by kernel_rfl) rfl (one23 _) ?_))
    exact bodyPost_ret (results_hd rfl _ _ (w.heap.size + 1) ⟨0, 0, 0⟩ rfl (A1.out.setRow _)) rfl ⟨rfl, below_setRow AL.out (by omega) _⟩
set_option maxRecDepth 100000 in
set_option maxHeartbeats 8000000 in
theorem rof_ne {w : World} (l : List UInt8) (hl : l.length = 512) (z : Nat) (he : eB l ≤ 9223372036854775807) (hk : aB l < 2 ∧ 1 ≤ oB l ∧ oB l ≤ 64) (hq : l ≠ hdS (eB l) (aB l) (oB l)) : Calls Try.prog 48 #[sec l, .int .i64 (z : Int)] w fun r w' => r = .returned (.tuple #[Hd.val (gotH z l), .bool (gotB z l)]) ∧ Below w.heap.size w w' := by
  have hz := z23
  obtain ⟨W0, hW⟩ : ∃ W, W = (w.alloc (.cells (bv l).toArray 56)).alloc (.cells (Hd.cs ⟨0, 0, 0⟩).toArray 28) := ⟨_, rfl⟩
  have A0 := Lib.hid (show Blk W0 w.heap.size 56 (bv l).toArray from by rw [hW]; exact (Blk.new w _ _).alloc _)
  have A1 := Lib.hid (show Blk W0 (w.heap.size + 1) 28 (Hd.cs ⟨0, 0, 0⟩).toArray from by rw [hW]; exact blk_new1 w _ _ _)
  have AL := Lib.hid (show Below w.heap.size w W0 from by rw [hW]; exact ((Below.refl w.heap.size w).alloc (Nat.le_refl _) _).alloc (by simp) _)
  have hx11 : W0.cell? ⟨w.heap.size, 11, none⟩ = some (.int .u8 ((l[11]'(by omega)).toNat : Int)) := (A0.out.cell 11).trans (by rw [List.getElem?_toArray, bv_get, List.getElem?_eq_getElem (by omega)]; rfl)
  have hg : gotB z l = false := by
    unfold gotB
    exact decide_eq_false (fun h => hq h.2.2)
  rw [show gotH z l = ⟨0, 0, 0⟩ by unfold gotH; rw [hg]; rfl, hg]
  have hb : (l[11]'(by omega)).toNat ≤ 127 := (eB_iff hl).1 he
  have HL := Lib.hid hl
  have ha := aB_lt l hl
  have ho := oB_lt l hl
  have q1 : ∀ W : World, Rd W (some ⟨w.heap.size, 0, none⟩) l → Calls Try.prog 65 #[.slice (some ⟨w.heap.size, 4, none⟩) 8 508] W fun r w' => r = .returned (.int .i64 (eB l : Int)) ∧ W = w' := fun W hr =>
    rnum8 _ 8 508 (cutB l 4 8) W (cutB_length hl 4 8 (by omega)) (by have := (hr.drop 4).take 8; rwa [Nat.zero_add] at this) (.inr (.inr rfl)) he (fun _ => (top_iff (cutB_length hl 4 8 (by omega))).1 he)
  have q2 : ∀ W : World, Rd W (some ⟨w.heap.size, 0, none⟩) l → Calls Try.prog 65 #[.slice (some ⟨w.heap.size, 12, none⟩) 2 500] W fun r w' => r = .returned (.int .i64 (aB l : Int)) ∧ W = w' := fun W hr =>
    rnum8 _ 2 500 (cutB l 12 2) W (cutB_length hl 12 2 (by omega)) (by have := (hr.drop 12).take 2; rwa [Nat.zero_add] at this) (.inl rfl) (by unfold aB at ha; omega) (fun h => by omega)
  have q3 : ∀ W : World, Rd W (some ⟨w.heap.size, 0, none⟩) l → Calls Try.prog 65 #[.slice (some ⟨w.heap.size, 14, none⟩) 2 498] W fun r w' => r = .returned (.int .i64 (oB l : Int)) ∧ W = w' := fun W hr =>
    rnum8 _ 2 498 (cutB l 14 2) W (cutB_length hl 14 2 (by omega)) (by have := (hr.drop 14).take 2; rwa [Nat.zero_add] at this) (.inl rfl) (by unfold oB at ho; omega) (fun h => by omega)
  obtain ⟨x11, hx⟩ : ∃ x : Nat, (l[11]'(by omega)).toNat = x := ⟨_, rfl⟩
  rw [hx] at hx11 hb
  have d11 : decide ((127 : Int) < (x11 : Int)) = false := decide_eq_false (by omega)
  have d11' : decide (127 < x11) = false := decide_eq_false (by omega)
  obtain ⟨e, hee⟩ : ∃ e, eB l = e := ⟨_, rfl⟩
  obtain ⟨a, haa⟩ : ∃ a, aB l = a := ⟨_, rfl⟩
  obtain ⟨o, hoo⟩ : ∃ o, oB l = o := ⟨_, rfl⟩
  rw [hee] at q1 he
  rw [haa] at q2 ha
  rw [hoo] at q3 ho
  have RN4 := Lib.hid q1
  have RN12 := Lib.hid q2
  have RN14 := Lib.hid q3
  have HE := Lib.hid (show (e : Int) ≤ 9223372036854775807 by omega)
  have HA := Lib.hid ha
  have HO := Lib.hid ho
  rw [haa, hoo] at hk
  rw [hee, haa, hoo] at hq
  have HNO := Lib.hid (show Hd.no ⟨(e : Int), (a : Int), (o : Int)⟩ = 0 by unfold Hd.no; rw [if_pos (by simp only; omega)])
  have HQ := Lib.hid (show (!(hdS e a o == l)) = true by simpa using fun h => hq h.symm)
  clear hk hq
  clear hg hee haa hoo hx hb he ha ho q1 q2 q3 hl
  rw [hW] at hx11
  go_enter Try.func48, Try.ntmps48
  go_wp2_with fail
  rw [← hW]
  clear hW hx11
  replace A0 := Lib.hid (blk_drew A0.out)
  replace A1 := Lib.hid (blk_drew A1.out)
  replace AL := Lib.hid AL.out.drew
  refine region_one8 (fun ac g9 => ((((((((ac.put (some 11) (.slice (some ⟨w.heap.size, 4, none⟩) 8 508)).put (some 12) (.int .i64 (e : Int))).put (some 13) (.slice (some ⟨w.heap.size, 12, none⟩) 2 500)).put (some 14) (.int .i64 (a : Int))).put (some 15) (.slice (some ⟨w.heap.size, 14, none⟩) 2 498)).put (some 16) (.int .i64 (o : Int))).put (some 17) (.agg (Hd.cs ⟨(e : Int), (a : Int), (o : Int)⟩).toArray)).put (some 6) (.pointer (some ⟨g9, 0, none⟩)))) (fun g9 W => Blk W w.heap.size 56 (bv l).toArray ∧ Blk W (w.heap.size + 1) 28 (Hd.cs ⟨0, 0, 0⟩).toArray ∧ Blk W g9 28 (Hd.cs ⟨(e : Int), (a : Int), (o : Int)⟩).toArray ∧ Below w.heap.size w W ∧ w.heap.size + 1 < g9) ?mkR ?restR
  case mkR =>
    refine wp_region_only (S := fun _ => True) (by kernel_rfl) trivial (fun hHeld => ?_)
    refine wpAnyH_take (i := 0) (v := ?v1) rfl (by kernel_rfl) (by kernel_rfl) (by kernel_rfl) (fun _ _ _ h => h) (Or.inl ⟨by rfl, ?hy1⟩) hHeld ?rest1
    case hy1 =>
      intro w' hSw
      try dsimp only at hSw
      go_simp
      first | done | with_reducible rfl
    try simp only [Act.put, List.getElem_toArray, List.getElem_cons_zero, List.setIfInBounds_toArray, List.set_cons_zero, List.set_cons_succ]
    refine wpAnyH_take (i := 2) (v := ?v2) rfl (by kernel_rfl) (by kernel_rfl) (by kernel_rfl) (fun _ _ _ h => h) (Or.inl ⟨by rfl, ?hy2⟩) hHeld ?rest2
    case hy2 =>
      intro w' hSw
      try dsimp only at hSw
      go_simp
      first | done | with_reducible rfl
    try simp only [Act.put, List.getElem_toArray, List.getElem_cons_succ, List.getElem_cons_zero, List.setIfInBounds_toArray, List.set_cons_zero, List.set_cons_succ]
    refine wpAnyH_take (i := 4) (v := ?v3) rfl (by kernel_rfl) (by kernel_rfl) (by kernel_rfl) (fun _ _ _ h => h) (Or.inl ⟨by rfl, ?hy3⟩) hHeld ?rest3
    case hy3 =>
      intro w' hSw
      try dsimp only at hSw
      go_simp
      first | done | with_reducible rfl
    try simp only [Act.put, List.getElem_toArray, List.getElem_cons_succ, List.getElem_cons_zero, List.setIfInBounds_toArray, List.set_cons_zero, List.set_cons_succ]
    refine wpAnyH_ready (rs := [1, 7]) (by kernel_rfl) (by simp) ?_
    refine AllReadyH.cons (by rfl) (fun K hK => ?_) (AllReadyH.cons (by rfl) (fun K hK => ?_) AllReadyH.nil)
    · go_simp
      refine (RN4.out _ (rd_bv A0.out)).mono ?_
      rintro r w9 ⟨rfl, rfl⟩
      clear hHeld
      refine hK.out _ _ trivial (fun hHeld => ?_)
      clear hK K
      try simp only [Act.put, List.getElem_toArray, List.getElem_cons_succ, List.getElem_cons_zero, List.setIfInBounds_toArray, List.set_cons_zero, List.set_cons_succ]
      refine wpAnyH_ready (rs := [3, 7]) (by kernel_rfl) (by simp) ?_
      refine AllReadyH.cons (by rfl) (fun K hK => ?_) (AllReadyH.cons (by rfl) (fun K hK => ?_) AllReadyH.nil)
      · go_simp
        refine (RN12.out _ (rd_bv A0.out)).mono ?_
        rintro r w9 ⟨rfl, rfl⟩
        clear hHeld
        refine hK.out _ _ trivial (fun hHeld => ?_)
        clear hK K
        try simp only [Act.put, List.getElem_toArray, List.getElem_cons_succ, List.getElem_cons_zero, List.setIfInBounds_toArray, List.set_cons_zero, List.set_cons_succ]
        refine wpAnyH_ready (rs := [5, 7]) (by kernel_rfl) (by simp) ?_
        refine AllReadyH.cons (by rfl) (fun K hK => ?_) (AllReadyH.cons (by rfl) (fun K hK => ?_) AllReadyH.nil)
        · go_simp
          refine (RN14.out _ (rd_bv A0.out)).mono ?_
          rintro r w9 ⟨rfl, rfl⟩
          clear hHeld
          refine hK.out _ _ trivial (fun hHeld => ?_)
          clear hK K
          try simp only [Act.put, List.getElem_toArray, List.getElem_cons_succ, List.getElem_cons_zero, List.setIfInBounds_toArray, List.set_cons_zero, List.set_cons_succ]
          refine wpAnyH_take (i := 6) (v := ?v4) rfl (by kernel_rfl) (by kernel_rfl) (by kernel_rfl) (fun _ _ _ h => h) (Or.inl ⟨by rfl, ?hy4⟩) hHeld ?rest4
          case hy4 =>
            intro w' hSw
            try dsimp only at hSw
            go_simp
            first | done | with_reducible rfl
          try simp only [Act.put, List.getElem_toArray, List.getElem_cons_succ, List.getElem_cons_zero, List.setIfInBounds_toArray, List.set_cons_zero, List.set_cons_succ]
          refine wpAnyH_ready (rs := [7]) (by kernel_rfl) (by simp) ?_
          refine AllReadyH.cons (by rfl) (fun K hK => ?_) AllReadyH.nil
          refine step_alloc23 rfl (by rfl) ?_
          intro g W2 hg hw
          have GG := Lib.hid (show w.heap.size + 1 < g from by rw [hg]; exact A1.out.lt)
          have G := Lib.hid (show Blk W2 g 28 (Hd.cs ⟨0, 0, 0⟩).toArray from by rw [hw, hg]; exact Blk.new _ _ _)
          have A0 := Lib.hid (show Blk W2 _ _ _ from by rw [hw]; exact A0.out.alloc _)
          have A1 := Lib.hid (show Blk W2 _ _ _ from by rw [hw]; exact A1.out.alloc _)
          have AL := Lib.hid (show Below w.heap.size w W2 from by rw [hw]; exact AL.out.alloc AL.out.size _)
          clear hg hw hHeld
          refine hK.out _ _ trivial (fun hHeld => ?_)
          clear hK K
          try simp only [Act.put, List.getElem_toArray, List.getElem_cons_succ, List.getElem_cons_zero, List.setIfInBounds_toArray, List.set_cons_zero, List.set_cons_succ]
          refine wpAnyH_ready (rs := [8]) (by kernel_rfl) (by simp) ?_
          refine AllReadyH.cons (by rfl) (fun K hK => ?_) AllReadyH.nil
          refine step_store8 rfl 28 (.tmp 6) (.tmp 17) rfl (by rfl) (Hd.cs ⟨(e : Int), (a : Int), (o : Int)⟩).toArray (Hd.cs ⟨0, 0, 0⟩).toArray 28 (by rfl) G.out (by kernel_rfl) rfl (one23 _) ?_
          intro W6 j6 f6
          have G := Lib.hid j6
          have A0 := Lib.hid (f6.keepBlk A0.out (by have := GG.out; omega))
          have A1 := Lib.hid (f6.keepBlk A1.out (by have := GG.out; omega))
          have AL := Lib.hid (AL.out.trans (f6.to_below (fun k e => by have := GG.out; omega) AL.out.size))
          clear hHeld j6 f6
          refine hK.out _ _ trivial (fun hHeld => ?_)
          clear hK K
          try simp only [Act.put, List.getElem_toArray, List.getElem_cons_succ, List.getElem_cons_zero]
          refine wpAnyH_done (by kernel_rfl) ?_ _
          refine OnlyN.normal ?_
          exact ⟨g, rfl, rfl, A0.out, A1.out, G.out, AL.out, GG.out⟩
        · refine step_alloc23 rfl (by rfl) ?_
          intro g W2 hg hw
          have GG := Lib.hid (show w.heap.size + 1 < g from by rw [hg]; exact A1.out.lt)
          have G := Lib.hid (show Blk W2 g 28 (Hd.cs ⟨0, 0, 0⟩).toArray from by rw [hw, hg]; exact Blk.new _ _ _)
          have A0 := Lib.hid (show Blk W2 _ _ _ from by rw [hw]; exact A0.out.alloc _)
          have A1 := Lib.hid (show Blk W2 _ _ _ from by rw [hw]; exact A1.out.alloc _)
          have AL := Lib.hid (show Below w.heap.size w W2 from by rw [hw]; exact AL.out.alloc AL.out.size _)
          clear hg hw hHeld
          refine hK.out _ _ trivial (fun hHeld => ?_)
          clear hK K
          try simp only [Act.put, List.getElem_toArray, List.getElem_cons_succ, List.getElem_cons_zero, List.setIfInBounds_toArray, List.set_cons_zero, List.set_cons_succ]
          refine wpAnyH_ready (rs := [5]) (by kernel_rfl) (by simp) ?_
          refine AllReadyH.cons (by rfl) (fun K hK => ?_) AllReadyH.nil
          go_simp
          refine (RN14.out _ (rd_bv A0.out)).mono ?_
          rintro r w9 ⟨rfl, rfl⟩
          clear hHeld
          refine hK.out _ _ trivial (fun hHeld => ?_)
          clear hK K
          try simp only [Act.put, List.getElem_toArray, List.getElem_cons_succ, List.getElem_cons_zero, List.setIfInBounds_toArray, List.set_cons_zero, List.set_cons_succ]
          refine wpAnyH_take (i := 6) (v := ?v5) rfl (by kernel_rfl) (by kernel_rfl) (by kernel_rfl) (fun _ _ _ h => h) (Or.inl ⟨by rfl, ?hy5⟩) hHeld ?rest5
          case hy5 =>
            intro w' hSw
            try dsimp only at hSw
            go_simp
            first | done | with_reducible rfl
          try simp only [Act.put, List.getElem_toArray, List.getElem_cons_succ, List.getElem_cons_zero, List.setIfInBounds_toArray, List.set_cons_zero, List.set_cons_succ]
          refine wpAnyH_ready (rs := [8]) (by kernel_rfl) (by simp) ?_
          refine AllReadyH.cons (by rfl) (fun K hK => ?_) AllReadyH.nil
          refine step_store8 rfl 28 (.tmp 6) (.tmp 17) rfl (by rfl) (Hd.cs ⟨(e : Int), (a : Int), (o : Int)⟩).toArray (Hd.cs ⟨0, 0, 0⟩).toArray 28 (by rfl) G.out (by kernel_rfl) rfl (one23 _) ?_
          intro W6 j6 f6
          have G := Lib.hid j6
          have A0 := Lib.hid (f6.keepBlk A0.out (by have := GG.out; omega))
          have A1 := Lib.hid (f6.keepBlk A1.out (by have := GG.out; omega))
          have AL := Lib.hid (AL.out.trans (f6.to_below (fun k e => by have := GG.out; omega) AL.out.size))
          clear hHeld j6 f6
          refine hK.out _ _ trivial (fun hHeld => ?_)
          clear hK K
          try simp only [Act.put, List.getElem_toArray, List.getElem_cons_succ, List.getElem_cons_zero]
          refine wpAnyH_done (by kernel_rfl) ?_ _
          refine OnlyN.normal ?_
          exact ⟨g, rfl, rfl, A0.out, A1.out, G.out, AL.out, GG.out⟩
      · refine step_alloc23 rfl (by rfl) ?_
        intro g W2 hg hw
        have GG := Lib.hid (show w.heap.size + 1 < g from by rw [hg]; exact A1.out.lt)
        have G := Lib.hid (show Blk W2 g 28 (Hd.cs ⟨0, 0, 0⟩).toArray from by rw [hw, hg]; exact Blk.new _ _ _)
        have A0 := Lib.hid (show Blk W2 _ _ _ from by rw [hw]; exact A0.out.alloc _)
        have A1 := Lib.hid (show Blk W2 _ _ _ from by rw [hw]; exact A1.out.alloc _)
        have AL := Lib.hid (show Below w.heap.size w W2 from by rw [hw]; exact AL.out.alloc AL.out.size _)
        clear hg hw hHeld
        refine hK.out _ _ trivial (fun hHeld => ?_)
        clear hK K
        try simp only [Act.put, List.getElem_toArray, List.getElem_cons_succ, List.getElem_cons_zero, List.setIfInBounds_toArray, List.set_cons_zero, List.set_cons_succ]
        refine wpAnyH_ready (rs := [3]) (by kernel_rfl) (by simp) ?_
        refine AllReadyH.cons (by rfl) (fun K hK => ?_) AllReadyH.nil
        go_simp
        refine (RN12.out _ (rd_bv A0.out)).mono ?_
        rintro r w9 ⟨rfl, rfl⟩
        clear hHeld
        refine hK.out _ _ trivial (fun hHeld => ?_)
        clear hK K
        try simp only [Act.put, List.getElem_toArray, List.getElem_cons_succ, List.getElem_cons_zero, List.setIfInBounds_toArray, List.set_cons_zero, List.set_cons_succ]
        refine wpAnyH_ready (rs := [5]) (by kernel_rfl) (by simp) ?_
        refine AllReadyH.cons (by rfl) (fun K hK => ?_) AllReadyH.nil
        go_simp
        refine (RN14.out _ (rd_bv A0.out)).mono ?_
        rintro r w9 ⟨rfl, rfl⟩
        clear hHeld
        refine hK.out _ _ trivial (fun hHeld => ?_)
        clear hK K
        try simp only [Act.put, List.getElem_toArray, List.getElem_cons_succ, List.getElem_cons_zero, List.setIfInBounds_toArray, List.set_cons_zero, List.set_cons_succ]
        refine wpAnyH_take (i := 6) (v := ?v6) rfl (by kernel_rfl) (by kernel_rfl) (by kernel_rfl) (fun _ _ _ h => h) (Or.inl ⟨by rfl, ?hy6⟩) hHeld ?rest6
        case hy6 =>
          intro w' hSw
          try dsimp only at hSw
          go_simp
          first | done | with_reducible rfl
        try simp only [Act.put, List.getElem_toArray, List.getElem_cons_succ, List.getElem_cons_zero, List.setIfInBounds_toArray, List.set_cons_zero, List.set_cons_succ]
        refine wpAnyH_ready (rs := [8]) (by kernel_rfl) (by simp) ?_
        refine AllReadyH.cons (by rfl) (fun K hK => ?_) AllReadyH.nil
        refine step_store8 rfl 28 (.tmp 6) (.tmp 17) rfl (by rfl) (Hd.cs ⟨(e : Int), (a : Int), (o : Int)⟩).toArray (Hd.cs ⟨0, 0, 0⟩).toArray 28 (by rfl) G.out (by kernel_rfl) rfl (one23 _) ?_
        intro W6 j6 f6
        have G := Lib.hid j6
        have A0 := Lib.hid (f6.keepBlk A0.out (by have := GG.out; omega))
        have A1 := Lib.hid (f6.keepBlk A1.out (by have := GG.out; omega))
        have AL := Lib.hid (AL.out.trans (f6.to_below (fun k e => by have := GG.out; omega) AL.out.size))
        clear hHeld j6 f6
        refine hK.out _ _ trivial (fun hHeld => ?_)
        clear hK K
        try simp only [Act.put, List.getElem_toArray, List.getElem_cons_succ, List.getElem_cons_zero]
        refine wpAnyH_done (by kernel_rfl) ?_ _
        refine OnlyN.normal ?_
        exact ⟨g, rfl, rfl, A0.out, A1.out, G.out, AL.out, GG.out⟩
    · refine step_alloc23 rfl (by rfl) ?_
      intro g W2 hg hw
      have GG := Lib.hid (show w.heap.size + 1 < g from by rw [hg]; exact A1.out.lt)
      have G := Lib.hid (show Blk W2 g 28 (Hd.cs ⟨0, 0, 0⟩).toArray from by rw [hw, hg]; exact Blk.new _ _ _)
      have A0 := Lib.hid (show Blk W2 _ _ _ from by rw [hw]; exact A0.out.alloc _)
      have A1 := Lib.hid (show Blk W2 _ _ _ from by rw [hw]; exact A1.out.alloc _)
      have AL := Lib.hid (show Below w.heap.size w W2 from by rw [hw]; exact AL.out.alloc AL.out.size _)
      clear hg hw hHeld
      refine hK.out _ _ trivial (fun hHeld => ?_)
      clear hK K
      try simp only [Act.put, List.getElem_toArray, List.getElem_cons_succ, List.getElem_cons_zero, List.setIfInBounds_toArray, List.set_cons_zero, List.set_cons_succ]
      refine wpAnyH_ready (rs := [1]) (by kernel_rfl) (by simp) ?_
      refine AllReadyH.cons (by rfl) (fun K hK => ?_) AllReadyH.nil
      go_simp
      refine (RN4.out _ (rd_bv A0.out)).mono ?_
      rintro r w9 ⟨rfl, rfl⟩
      clear hHeld
      refine hK.out _ _ trivial (fun hHeld => ?_)
      clear hK K
      try simp only [Act.put, List.getElem_toArray, List.getElem_cons_succ, List.getElem_cons_zero, List.setIfInBounds_toArray, List.set_cons_zero, List.set_cons_succ]
      refine wpAnyH_ready (rs := [3]) (by kernel_rfl) (by simp) ?_
      refine AllReadyH.cons (by rfl) (fun K hK => ?_) AllReadyH.nil
      go_simp
      refine (RN12.out _ (rd_bv A0.out)).mono ?_
      rintro r w9 ⟨rfl, rfl⟩
      clear hHeld
      refine hK.out _ _ trivial (fun hHeld => ?_)
      clear hK K
      try simp only [Act.put, List.getElem_toArray, List.getElem_cons_succ, List.getElem_cons_zero, List.setIfInBounds_toArray, List.set_cons_zero, List.set_cons_succ]
      refine wpAnyH_ready (rs := [5]) (by kernel_rfl) (by simp) ?_
      refine AllReadyH.cons (by rfl) (fun K hK => ?_) AllReadyH.nil
      go_simp
      refine (RN14.out _ (rd_bv A0.out)).mono ?_
      rintro r w9 ⟨rfl, rfl⟩
      clear hHeld
      refine hK.out _ _ trivial (fun hHeld => ?_)
      clear hK K
      try simp only [Act.put, List.getElem_toArray, List.getElem_cons_succ, List.getElem_cons_zero, List.setIfInBounds_toArray, List.set_cons_zero, List.set_cons_succ]
      refine wpAnyH_take (i := 6) (v := ?v7) rfl (by kernel_rfl) (by kernel_rfl) (by kernel_rfl) (fun _ _ _ h => h) (Or.inl ⟨by rfl, ?hy7⟩) hHeld ?rest7
      case hy7 =>
        intro w' hSw
        try dsimp only at hSw
        go_simp
        first | done | with_reducible rfl
      try simp only [Act.put, List.getElem_toArray, List.getElem_cons_succ, List.getElem_cons_zero, List.setIfInBounds_toArray, List.set_cons_zero, List.set_cons_succ]
      refine wpAnyH_ready (rs := [8]) (by kernel_rfl) (by simp) ?_
      refine AllReadyH.cons (by rfl) (fun K hK => ?_) AllReadyH.nil
      refine step_store8 rfl 28 (.tmp 6) (.tmp 17) rfl (by rfl) (Hd.cs ⟨(e : Int), (a : Int), (o : Int)⟩).toArray (Hd.cs ⟨0, 0, 0⟩).toArray 28 (by rfl) G.out (by kernel_rfl) rfl (one23 _) ?_
      intro W6 j6 f6
      have G := Lib.hid j6
      have A0 := Lib.hid (f6.keepBlk A0.out (by have := GG.out; omega))
      have A1 := Lib.hid (f6.keepBlk A1.out (by have := GG.out; omega))
      have AL := Lib.hid (AL.out.trans (f6.to_below (fun k e => by have := GG.out; omega) AL.out.size))
      clear hHeld j6 f6
      refine hK.out _ _ trivial (fun hHeld => ?_)
      clear hK K
      try simp only [Act.put, List.getElem_toArray, List.getElem_cons_succ, List.getElem_cons_zero]
      refine wpAnyH_done (by kernel_rfl) ?_ _
      refine OnlyN.normal ?_
      exact ⟨g, rfl, rfl, A0.out, A1.out, G.out, AL.out, GG.out⟩
  case' restR =>
    rintro g W3 ⟨a0, a1, gh, al, gg⟩
    have A0 := Lib.hid (blk_drew a0)
    have A1 := Lib.hid (blk_drew a1)
    have G := Lib.hid (blk_drew gh)
    have AL := Lib.hid al.drew
    clear a0 a1 gh al gg
    simp only [Act.put, List.setIfInBounds_toArray, List.set_cons_zero, List.set_cons_succ]
    go_wp2_with fail
    refine wp_region_only (S := fun w' => w'.cell? ⟨g, 2, none⟩ = some (.int .i64 (o : Int)) ∧ Blk w' g 28 (Hd.cs ⟨(e : Int), (a : Int), (o : Int)⟩).toArray ∧ Blk w' w.heap.size 56 (bv l).toArray) (by kernel_rfl) (⟨(G.out.cell 2).trans rfl, G.out, A0.out⟩) (fun hHeld => ?_)
    refine wpAnyH_take (i := 0) rfl (by kernel_rfl) (by kernel_rfl) (by kernel_rfl) (fun _ _ _ h => h) (yieldsIf_load_mid (by rfl) 28 (.tmp 6) (by rfl) g 0 (by rfl) (Hd.cs ⟨(e : Int), (a : Int), (o : Int)⟩) _ (fun w' hSw => Blk.rangeAt (l := (Hd.cs ⟨(e : Int), (a : Int), (o : Int)⟩)) hSw.2.1) Try.underlying28 rfl (size23 _)) hHeld ?_
    try simp only [Act.put, List.getElem_toArray, List.getElem_cons_zero, List.setIfInBounds_toArray, List.set_cons_zero, List.set_cons_succ]
    refine wpAnyH_ready (rs := [1]) (by kernel_rfl) (by simp) ?_
    refine AllReadyH.cons (by rfl) (fun K hK => ?_) AllReadyH.nil
    go_simp
    refine (rcheck_any ⟨(e : Int), (a : Int), (o : Int)⟩ _).mono ?_
    rw [HNO.out]
    rintro r w1 ⟨rfl, hb⟩
    have A0 := Lib.hid (A0.out.below hb A0.out.lt)
    have A1 := Lib.hid (A1.out.below hb A1.out.lt)
    have G := Lib.hid (G.out.below hb G.out.lt)
    have AL := Lib.hid (AL.out.trans (hb.mono AL.out.size))
    clear hb hHeld
    refine hK.out _ _ (⟨(G.out.cell 2).trans rfl, G.out, A0.out⟩) (fun hHeld => ?_)
    clear hK K
    try simp only [Act.put, List.getElem_toArray, List.getElem_cons_succ, List.getElem_cons_zero, List.setIfInBounds_toArray, List.set_cons_zero, List.set_cons_succ]
    refine wpAnyH_take (i := 2) (v := ?v13) rfl (by kernel_rfl) (by kernel_rfl) (by kernel_rfl) (fun _ _ _ h => h) (Or.inl ⟨by rfl, ?hy13⟩) hHeld ?rest13
    case hy13 =>
      intro w' hSw
      try dsimp only at hSw
      go_simp
      first | done | with_reducible rfl
    try simp only [Act.put, List.getElem_toArray, List.getElem_cons_succ, List.getElem_cons_zero, List.setIfInBounds_toArray, List.set_cons_zero, List.set_cons_succ]
    refine wpAnyH_take (i := 3) (v := ?v14) rfl (by kernel_rfl) (by kernel_rfl) (by kernel_rfl) (fun _ _ _ h => h) (Or.inl ⟨by rfl, ?hy14⟩) hHeld ?rest14
    case hy14 =>
      intro w' hSw
      try dsimp only at hSw
      go_simp
      first | done | with_reducible rfl
    try simp only [Act.put, List.getElem_toArray, List.getElem_cons_succ, List.getElem_cons_zero, List.setIfInBounds_toArray, List.set_cons_zero, List.set_cons_succ]
    refine wpAnyH_take (i := 4) rfl (by kernel_rfl) (by kernel_rfl) (by kernel_rfl) (fun _ _ _ h => h) (yieldsIf_load_mid (by rfl) 28 (.tmp 6) (by rfl) g 0 (by rfl) (Hd.cs ⟨(e : Int), (a : Int), (o : Int)⟩) _ (fun w' hSw => Blk.rangeAt (l := (Hd.cs ⟨(e : Int), (a : Int), (o : Int)⟩)) hSw.2.1) Try.underlying28 rfl (size23 _)) hHeld ?_
    try simp only [Act.put, List.getElem_toArray, List.getElem_cons_succ, List.getElem_cons_zero, List.setIfInBounds_toArray, List.set_cons_zero, List.set_cons_succ]
    refine wpAnyH_take (i := 6) rfl (by kernel_rfl) (by kernel_rfl) (by kernel_rfl) (fun _ _ _ h => h) (yieldsIf_load_mid (by rfl) 56 (.tmp 2) (by rfl) w.heap.size 0 (by rfl) (bv l) _ (fun w' hSw => Blk.rangeAt (l := bv l) hSw.2.2) Try.underlying56 rfl (by rw [bv_length, HL.out]; exact size47)) hHeld ?_
    try simp only [Act.put, List.getElem_toArray, List.getElem_cons_succ, List.getElem_cons_zero, List.setIfInBounds_toArray, List.set_cons_zero, List.set_cons_succ]
    refine wpAnyH_ready (rs := [5]) (by kernel_rfl) (by simp) ?_
    refine AllReadyH.cons (by rfl) (fun K hK => ?_) AllReadyH.nil
    go_simp
    refine (rheader8 _ e a o HE.out HA.out HO.out).mono ?_
    rintro r w5 ⟨rfl, hb⟩
    have A0 := Lib.hid (A0.out.below hb A0.out.lt)
    have A1 := Lib.hid (A1.out.below hb A1.out.lt)
    have G := Lib.hid (G.out.below hb G.out.lt)
    have AL := Lib.hid (AL.out.trans (hb.mono AL.out.size))
    clear hb hHeld
    refine hK.out _ _ (⟨(G.out.cell 2).trans rfl, G.out, A0.out⟩) (fun hHeld => ?_)
    clear hK K
    try simp only [Act.put, List.getElem_toArray, List.getElem_cons_succ, List.getElem_cons_zero, List.setIfInBounds_toArray, List.set_cons_zero, List.set_cons_succ]
    refine wpAnyH_take (i := 7) rfl (by kernel_rfl) (by kernel_rfl) (by kernel_rfl) (fun _ _ _ h => h) (yields_neq47b (by rfl) (.tmp 23) (.tmp 24) (by rfl) (hdS e a o) l _ HQ.out (by rfl) (by rfl) (hdS_length _ _ _) HL.out) hHeld ?_
    try simp only [Act.put, List.getElem_toArray, List.getElem_cons_succ, List.getElem_cons_zero, List.setIfInBounds_toArray, List.set_cons_zero, List.set_cons_succ]
    refine wpAnyH_take (i := 8) (v := ?v15) rfl (by kernel_rfl) (by kernel_rfl) (by kernel_rfl) (fun _ _ _ h => h) (Or.inl ⟨by rfl, ?hy15⟩) hHeld ?rest15
    case hy15 =>
      intro w' hSw
      try dsimp only at hSw
      go_simp
      first | done | with_reducible rfl
    try simp only [Act.put, List.getElem_toArray, List.getElem_cons_succ, List.getElem_cons_zero, List.setIfInBounds_toArray, List.set_cons_zero, List.set_cons_succ]
    refine wpAnyH_take (i := 9) (v := ?v16) rfl (by kernel_rfl) (by kernel_rfl) (by kernel_rfl) (fun _ _ _ h => h) (Or.inl ⟨by rfl, ?hy16⟩) hHeld ?rest16
    case hy16 =>
      intro w' hSw
      try dsimp only at hSw
      go_simp
      first | done | with_reducible rfl
    try simp only [Act.put, List.getElem_toArray, List.getElem_cons_succ, List.getElem_cons_zero, List.setIfInBounds_toArray, List.set_cons_zero, List.set_cons_succ]
    refine wpAnyH_take (i := 10) (v := undef) rfl (by kernel_rfl) (by kernel_rfl) (by kernel_rfl) (fun _ _ _ h => h) (Or.inr ⟨by rfl, rfl⟩) hHeld ?_
    try simp only [Act.put, List.getElem_toArray, List.getElem_cons_succ, List.getElem_cons_zero, List.setIfInBounds_toArray, List.set_cons_zero, List.set_cons_succ]
    refine wpAnyH_take (i := 11) (v := undef) rfl (by kernel_rfl) (by kernel_rfl) (by kernel_rfl) (fun _ _ _ h => h) (Or.inr ⟨by rfl, rfl⟩) hHeld ?_
    try simp only [Act.put, List.getElem_toArray, List.getElem_cons_succ, List.getElem_cons_zero, List.setIfInBounds_toArray, List.set_cons_zero, List.set_cons_succ]
    refine wpAnyH_take (i := 12) (v := undef) rfl (by kernel_rfl) (by kernel_rfl) (by kernel_rfl) (fun _ _ _ h => h) (Or.inr ⟨by rfl, rfl⟩) hHeld ?_
    try simp only [Act.put, List.getElem_toArray, List.getElem_cons_succ, List.getElem_cons_zero, List.setIfInBounds_toArray, List.set_cons_zero, List.set_cons_succ]
    refine wpAnyH_take (i := 13) (v := undef) rfl (by kernel_rfl) (by kernel_rfl) (by kernel_rfl) (fun _ _ _ h => h) (Or.inr ⟨by rfl, rfl⟩) hHeld ?_
    try simp only [Act.put, List.getElem_toArray, List.getElem_cons_succ, List.getElem_cons_zero, List.setIfInBounds_toArray, List.set_cons_zero, List.set_cons_succ]
    refine wpAnyH_take (i := 14) (v := undef) rfl (by kernel_rfl) (by kernel_rfl) (by kernel_rfl) (fun _ _ _ h => h) (Or.inr ⟨by rfl, rfl⟩) hHeld ?_
    try simp only [Act.put, List.getElem_toArray, List.getElem_cons_succ, List.getElem_cons_zero, List.setIfInBounds_toArray, List.set_cons_zero, List.set_cons_succ]
    refine wpAnyH_take (i := 15) (v := undef) rfl (by kernel_rfl) (by kernel_rfl) (by kernel_rfl) (fun _ _ _ h => h) (Or.inr ⟨by rfl, rfl⟩) hHeld ?_
    try simp only [Act.put, List.getElem_toArray, List.getElem_cons_succ, List.getElem_cons_zero, List.setIfInBounds_toArray, List.set_cons_zero, List.set_cons_succ]
    refine wpAnyH_take (i := 16) (v := undef) rfl (by kernel_rfl) (by kernel_rfl) (by kernel_rfl) (fun _ _ _ h => h) (Or.inr ⟨by rfl, rfl⟩) hHeld ?_
    try simp only [Act.put, List.getElem_toArray, List.getElem_cons_succ, List.getElem_cons_zero, List.setIfInBounds_toArray, List.set_cons_zero, List.set_cons_succ]
    refine wpAnyH_take (i := 17) (v := ?v17) rfl (by kernel_rfl) (by kernel_rfl) (by kernel_rfl) (fun _ _ _ h => h) (Or.inl ⟨by rfl, ?hy17⟩) hHeld ?rest17
    case hy17 =>
      intro w' hSw
      try dsimp only at hSw
      go_simp
      first | done | with_reducible rfl
    try simp only [Act.put, List.getElem_toArray, List.getElem_cons_succ, List.getElem_cons_zero, List.setIfInBounds_toArray, List.set_cons_zero, List.set_cons_succ]
    refine wpAnyH_done (by kernel_rfl) ?_ _
    refine OnlyN.normal ?_
    try clear hHeld
    go_wp2_with (first
      | (refine wpList_store_row rfl 28 (.tmp 4) (.tmp 36) rfl (w.heap.size + 1) (Hd.cs ⟨0, 0, 0⟩).toArray rfl rfl 28 _ A1.out (by kernel_rfl) rfl (one23 _) ?_))
    exact bodyPost_ret (results_hd rfl _ _ (w.heap.size + 1) ⟨0, 0, 0⟩ rfl (A1.out.setRow _)) rfl ⟨rfl, below_setRow AL.out (by omega) _⟩
set_option maxRecDepth 100000 in
set_option maxHeartbeats 8000000 in
theorem rof_off {w : World} (l : List UInt8) (hl : l.length = 512) (z : Nat) (he : eB l ≤ 9223372036854775807) (hk : aB l < 2 ∧ 1 ≤ oB l ∧ oB l ≤ 64) (hq : l = hdS (eB l) (aB l) (oB l)) (hz2 : 20 + 3 * oB l ≠ z) : Calls Try.prog 48 #[sec l, .int .i64 (z : Int)] w fun r w' => r = .returned (.tuple #[Hd.val (gotH z l), .bool (gotB z l)]) ∧ Below w.heap.size w w' := by
  have hz := z23
  obtain ⟨W0, hW⟩ : ∃ W, W = (w.alloc (.cells (bv l).toArray 56)).alloc (.cells (Hd.cs ⟨0, 0, 0⟩).toArray 28) := ⟨_, rfl⟩
  have A0 := Lib.hid (show Blk W0 w.heap.size 56 (bv l).toArray from by rw [hW]; exact (Blk.new w _ _).alloc _)
  have A1 := Lib.hid (show Blk W0 (w.heap.size + 1) 28 (Hd.cs ⟨0, 0, 0⟩).toArray from by rw [hW]; exact blk_new1 w _ _ _)
  have AL := Lib.hid (show Below w.heap.size w W0 from by rw [hW]; exact ((Below.refl w.heap.size w).alloc (Nat.le_refl _) _).alloc (by simp) _)
  have hx11 : W0.cell? ⟨w.heap.size, 11, none⟩ = some (.int .u8 ((l[11]'(by omega)).toNat : Int)) := (A0.out.cell 11).trans (by rw [List.getElem?_toArray, bv_get, List.getElem?_eq_getElem (by omega)]; rfl)
  have hg : gotB z l = false := by
    unfold gotB
    exact decide_eq_false (fun h => hz2 h.2.1)
  rw [show gotH z l = ⟨0, 0, 0⟩ by unfold gotH; rw [hg]; rfl, hg]
  have hb : (l[11]'(by omega)).toNat ≤ 127 := (eB_iff hl).1 he
  have HL := Lib.hid hl
  have ha := aB_lt l hl
  have ho := oB_lt l hl
  have q1 : ∀ W : World, Rd W (some ⟨w.heap.size, 0, none⟩) l → Calls Try.prog 65 #[.slice (some ⟨w.heap.size, 4, none⟩) 8 508] W fun r w' => r = .returned (.int .i64 (eB l : Int)) ∧ W = w' := fun W hr =>
    rnum8 _ 8 508 (cutB l 4 8) W (cutB_length hl 4 8 (by omega)) (by have := (hr.drop 4).take 8; rwa [Nat.zero_add] at this) (.inr (.inr rfl)) he (fun _ => (top_iff (cutB_length hl 4 8 (by omega))).1 he)
  have q2 : ∀ W : World, Rd W (some ⟨w.heap.size, 0, none⟩) l → Calls Try.prog 65 #[.slice (some ⟨w.heap.size, 12, none⟩) 2 500] W fun r w' => r = .returned (.int .i64 (aB l : Int)) ∧ W = w' := fun W hr =>
    rnum8 _ 2 500 (cutB l 12 2) W (cutB_length hl 12 2 (by omega)) (by have := (hr.drop 12).take 2; rwa [Nat.zero_add] at this) (.inl rfl) (by unfold aB at ha; omega) (fun h => by omega)
  have q3 : ∀ W : World, Rd W (some ⟨w.heap.size, 0, none⟩) l → Calls Try.prog 65 #[.slice (some ⟨w.heap.size, 14, none⟩) 2 498] W fun r w' => r = .returned (.int .i64 (oB l : Int)) ∧ W = w' := fun W hr =>
    rnum8 _ 2 498 (cutB l 14 2) W (cutB_length hl 14 2 (by omega)) (by have := (hr.drop 14).take 2; rwa [Nat.zero_add] at this) (.inl rfl) (by unfold oB at ho; omega) (fun h => by omega)
  obtain ⟨x11, hx⟩ : ∃ x : Nat, (l[11]'(by omega)).toNat = x := ⟨_, rfl⟩
  rw [hx] at hx11 hb
  have d11 : decide ((127 : Int) < (x11 : Int)) = false := decide_eq_false (by omega)
  have d11' : decide (127 < x11) = false := decide_eq_false (by omega)
  obtain ⟨e, hee⟩ : ∃ e, eB l = e := ⟨_, rfl⟩
  obtain ⟨a, haa⟩ : ∃ a, aB l = a := ⟨_, rfl⟩
  obtain ⟨o, hoo⟩ : ∃ o, oB l = o := ⟨_, rfl⟩
  rw [hee] at q1 he
  rw [haa] at q2 ha
  rw [hoo] at q3 ho
  have RN4 := Lib.hid q1
  have RN12 := Lib.hid q2
  have RN14 := Lib.hid q3
  have HE := Lib.hid (show (e : Int) ≤ 9223372036854775807 by omega)
  have HA := Lib.hid ha
  have HO := Lib.hid ho
  rw [haa, hoo] at hk
  rw [hee, haa, hoo] at hq
  rw [hoo] at hz2
  have HNO := Lib.hid (show Hd.no ⟨(e : Int), (a : Int), (o : Int)⟩ = 0 by unfold Hd.no; rw [if_pos (by simp only; omega)])
  have HQ := Lib.hid (show (!(hdS e a o == l)) = false by rw [← hq]; simp)
  have HO2 := Lib.hid (And.intro hk.2.1 hk.2.2)
  have hzq : ((20 + 3 * (o : Int)) != (z : Int)) = true := bne_iff_ne.2 (by omega)
  clear hk hq hz2
  clear hg hee haa hoo hx hb he ha ho q1 q2 q3 hl
  rw [hW] at hx11
  go_enter Try.func48, Try.ntmps48
  go_wp2_with fail
  rw [← hW]
  clear hW hx11
  replace A0 := Lib.hid (blk_drew A0.out)
  replace A1 := Lib.hid (blk_drew A1.out)
  replace AL := Lib.hid AL.out.drew
  refine region_one8 (fun ac g9 => ((((((((ac.put (some 11) (.slice (some ⟨w.heap.size, 4, none⟩) 8 508)).put (some 12) (.int .i64 (e : Int))).put (some 13) (.slice (some ⟨w.heap.size, 12, none⟩) 2 500)).put (some 14) (.int .i64 (a : Int))).put (some 15) (.slice (some ⟨w.heap.size, 14, none⟩) 2 498)).put (some 16) (.int .i64 (o : Int))).put (some 17) (.agg (Hd.cs ⟨(e : Int), (a : Int), (o : Int)⟩).toArray)).put (some 6) (.pointer (some ⟨g9, 0, none⟩)))) (fun g9 W => Blk W w.heap.size 56 (bv l).toArray ∧ Blk W (w.heap.size + 1) 28 (Hd.cs ⟨0, 0, 0⟩).toArray ∧ Blk W g9 28 (Hd.cs ⟨(e : Int), (a : Int), (o : Int)⟩).toArray ∧ Below w.heap.size w W ∧ w.heap.size + 1 < g9) ?mkR ?restR
  case mkR =>
    refine wp_region_only (S := fun _ => True) (by kernel_rfl) trivial (fun hHeld => ?_)
    refine wpAnyH_take (i := 0) (v := ?v1) rfl (by kernel_rfl) (by kernel_rfl) (by kernel_rfl) (fun _ _ _ h => h) (Or.inl ⟨by rfl, ?hy1⟩) hHeld ?rest1
    case hy1 =>
      intro w' hSw
      try dsimp only at hSw
      go_simp
      first | done | with_reducible rfl
    try simp only [Act.put, List.getElem_toArray, List.getElem_cons_zero, List.setIfInBounds_toArray, List.set_cons_zero, List.set_cons_succ]
    refine wpAnyH_take (i := 2) (v := ?v2) rfl (by kernel_rfl) (by kernel_rfl) (by kernel_rfl) (fun _ _ _ h => h) (Or.inl ⟨by rfl, ?hy2⟩) hHeld ?rest2
    case hy2 =>
      intro w' hSw
      try dsimp only at hSw
      go_simp
      first | done | with_reducible rfl
    try simp only [Act.put, List.getElem_toArray, List.getElem_cons_succ, List.getElem_cons_zero, List.setIfInBounds_toArray, List.set_cons_zero, List.set_cons_succ]
    refine wpAnyH_take (i := 4) (v := ?v3) rfl (by kernel_rfl) (by kernel_rfl) (by kernel_rfl) (fun _ _ _ h => h) (Or.inl ⟨by rfl, ?hy3⟩) hHeld ?rest3
    case hy3 =>
      intro w' hSw
      try dsimp only at hSw
      go_simp
      first | done | with_reducible rfl
    try simp only [Act.put, List.getElem_toArray, List.getElem_cons_succ, List.getElem_cons_zero, List.setIfInBounds_toArray, List.set_cons_zero, List.set_cons_succ]
    refine wpAnyH_ready (rs := [1, 7]) (by kernel_rfl) (by simp) ?_
    refine AllReadyH.cons (by rfl) (fun K hK => ?_) (AllReadyH.cons (by rfl) (fun K hK => ?_) AllReadyH.nil)
    · go_simp
      refine (RN4.out _ (rd_bv A0.out)).mono ?_
      rintro r w9 ⟨rfl, rfl⟩
      clear hHeld
      refine hK.out _ _ trivial (fun hHeld => ?_)
      clear hK K
      try simp only [Act.put, List.getElem_toArray, List.getElem_cons_succ, List.getElem_cons_zero, List.setIfInBounds_toArray, List.set_cons_zero, List.set_cons_succ]
      refine wpAnyH_ready (rs := [3, 7]) (by kernel_rfl) (by simp) ?_
      refine AllReadyH.cons (by rfl) (fun K hK => ?_) (AllReadyH.cons (by rfl) (fun K hK => ?_) AllReadyH.nil)
      · go_simp
        refine (RN12.out _ (rd_bv A0.out)).mono ?_
        rintro r w9 ⟨rfl, rfl⟩
        clear hHeld
        refine hK.out _ _ trivial (fun hHeld => ?_)
        clear hK K
        try simp only [Act.put, List.getElem_toArray, List.getElem_cons_succ, List.getElem_cons_zero, List.setIfInBounds_toArray, List.set_cons_zero, List.set_cons_succ]
        refine wpAnyH_ready (rs := [5, 7]) (by kernel_rfl) (by simp) ?_
        refine AllReadyH.cons (by rfl) (fun K hK => ?_) (AllReadyH.cons (by rfl) (fun K hK => ?_) AllReadyH.nil)
        · go_simp
          refine (RN14.out _ (rd_bv A0.out)).mono ?_
          rintro r w9 ⟨rfl, rfl⟩
          clear hHeld
          refine hK.out _ _ trivial (fun hHeld => ?_)
          clear hK K
          try simp only [Act.put, List.getElem_toArray, List.getElem_cons_succ, List.getElem_cons_zero, List.setIfInBounds_toArray, List.set_cons_zero, List.set_cons_succ]
          refine wpAnyH_take (i := 6) (v := ?v4) rfl (by kernel_rfl) (by kernel_rfl) (by kernel_rfl) (fun _ _ _ h => h) (Or.inl ⟨by rfl, ?hy4⟩) hHeld ?rest4
          case hy4 =>
            intro w' hSw
            try dsimp only at hSw
            go_simp
            first | done | with_reducible rfl
          try simp only [Act.put, List.getElem_toArray, List.getElem_cons_succ, List.getElem_cons_zero, List.setIfInBounds_toArray, List.set_cons_zero, List.set_cons_succ]
          refine wpAnyH_ready (rs := [7]) (by kernel_rfl) (by simp) ?_
          refine AllReadyH.cons (by rfl) (fun K hK => ?_) AllReadyH.nil
          refine step_alloc23 rfl (by rfl) ?_
          intro g W2 hg hw
          have GG := Lib.hid (show w.heap.size + 1 < g from by rw [hg]; exact A1.out.lt)
          have G := Lib.hid (show Blk W2 g 28 (Hd.cs ⟨0, 0, 0⟩).toArray from by rw [hw, hg]; exact Blk.new _ _ _)
          have A0 := Lib.hid (show Blk W2 _ _ _ from by rw [hw]; exact A0.out.alloc _)
          have A1 := Lib.hid (show Blk W2 _ _ _ from by rw [hw]; exact A1.out.alloc _)
          have AL := Lib.hid (show Below w.heap.size w W2 from by rw [hw]; exact AL.out.alloc AL.out.size _)
          clear hg hw hHeld
          refine hK.out _ _ trivial (fun hHeld => ?_)
          clear hK K
          try simp only [Act.put, List.getElem_toArray, List.getElem_cons_succ, List.getElem_cons_zero, List.setIfInBounds_toArray, List.set_cons_zero, List.set_cons_succ]
          refine wpAnyH_ready (rs := [8]) (by kernel_rfl) (by simp) ?_
          refine AllReadyH.cons (by rfl) (fun K hK => ?_) AllReadyH.nil
          refine step_store8 rfl 28 (.tmp 6) (.tmp 17) rfl (by rfl) (Hd.cs ⟨(e : Int), (a : Int), (o : Int)⟩).toArray (Hd.cs ⟨0, 0, 0⟩).toArray 28 (by rfl) G.out (by kernel_rfl) rfl (one23 _) ?_
          intro W6 j6 f6
          have G := Lib.hid j6
          have A0 := Lib.hid (f6.keepBlk A0.out (by have := GG.out; omega))
          have A1 := Lib.hid (f6.keepBlk A1.out (by have := GG.out; omega))
          have AL := Lib.hid (AL.out.trans (f6.to_below (fun k e => by have := GG.out; omega) AL.out.size))
          clear hHeld j6 f6
          refine hK.out _ _ trivial (fun hHeld => ?_)
          clear hK K
          try simp only [Act.put, List.getElem_toArray, List.getElem_cons_succ, List.getElem_cons_zero]
          refine wpAnyH_done (by kernel_rfl) ?_ _
          refine OnlyN.normal ?_
          exact ⟨g, rfl, rfl, A0.out, A1.out, G.out, AL.out, GG.out⟩
        · refine step_alloc23 rfl (by rfl) ?_
          intro g W2 hg hw
          have GG := Lib.hid (show w.heap.size + 1 < g from by rw [hg]; exact A1.out.lt)
          have G := Lib.hid (show Blk W2 g 28 (Hd.cs ⟨0, 0, 0⟩).toArray from by rw [hw, hg]; exact Blk.new _ _ _)
          have A0 := Lib.hid (show Blk W2 _ _ _ from by rw [hw]; exact A0.out.alloc _)
          have A1 := Lib.hid (show Blk W2 _ _ _ from by rw [hw]; exact A1.out.alloc _)
          have AL := Lib.hid (show Below w.heap.size w W2 from by rw [hw]; exact AL.out.alloc AL.out.size _)
          clear hg hw hHeld
          refine hK.out _ _ trivial (fun hHeld => ?_)
          clear hK K
          try simp only [Act.put, List.getElem_toArray, List.getElem_cons_succ, List.getElem_cons_zero, List.setIfInBounds_toArray, List.set_cons_zero, List.set_cons_succ]
          refine wpAnyH_ready (rs := [5]) (by kernel_rfl) (by simp) ?_
          refine AllReadyH.cons (by rfl) (fun K hK => ?_) AllReadyH.nil
          go_simp
          refine (RN14.out _ (rd_bv A0.out)).mono ?_
          rintro r w9 ⟨rfl, rfl⟩
          clear hHeld
          refine hK.out _ _ trivial (fun hHeld => ?_)
          clear hK K
          try simp only [Act.put, List.getElem_toArray, List.getElem_cons_succ, List.getElem_cons_zero, List.setIfInBounds_toArray, List.set_cons_zero, List.set_cons_succ]
          refine wpAnyH_take (i := 6) (v := ?v5) rfl (by kernel_rfl) (by kernel_rfl) (by kernel_rfl) (fun _ _ _ h => h) (Or.inl ⟨by rfl, ?hy5⟩) hHeld ?rest5
          case hy5 =>
            intro w' hSw
            try dsimp only at hSw
            go_simp
            first | done | with_reducible rfl
          try simp only [Act.put, List.getElem_toArray, List.getElem_cons_succ, List.getElem_cons_zero, List.setIfInBounds_toArray, List.set_cons_zero, List.set_cons_succ]
          refine wpAnyH_ready (rs := [8]) (by kernel_rfl) (by simp) ?_
          refine AllReadyH.cons (by rfl) (fun K hK => ?_) AllReadyH.nil
          refine step_store8 rfl 28 (.tmp 6) (.tmp 17) rfl (by rfl) (Hd.cs ⟨(e : Int), (a : Int), (o : Int)⟩).toArray (Hd.cs ⟨0, 0, 0⟩).toArray 28 (by rfl) G.out (by kernel_rfl) rfl (one23 _) ?_
          intro W6 j6 f6
          have G := Lib.hid j6
          have A0 := Lib.hid (f6.keepBlk A0.out (by have := GG.out; omega))
          have A1 := Lib.hid (f6.keepBlk A1.out (by have := GG.out; omega))
          have AL := Lib.hid (AL.out.trans (f6.to_below (fun k e => by have := GG.out; omega) AL.out.size))
          clear hHeld j6 f6
          refine hK.out _ _ trivial (fun hHeld => ?_)
          clear hK K
          try simp only [Act.put, List.getElem_toArray, List.getElem_cons_succ, List.getElem_cons_zero]
          refine wpAnyH_done (by kernel_rfl) ?_ _
          refine OnlyN.normal ?_
          exact ⟨g, rfl, rfl, A0.out, A1.out, G.out, AL.out, GG.out⟩
      · refine step_alloc23 rfl (by rfl) ?_
        intro g W2 hg hw
        have GG := Lib.hid (show w.heap.size + 1 < g from by rw [hg]; exact A1.out.lt)
        have G := Lib.hid (show Blk W2 g 28 (Hd.cs ⟨0, 0, 0⟩).toArray from by rw [hw, hg]; exact Blk.new _ _ _)
        have A0 := Lib.hid (show Blk W2 _ _ _ from by rw [hw]; exact A0.out.alloc _)
        have A1 := Lib.hid (show Blk W2 _ _ _ from by rw [hw]; exact A1.out.alloc _)
        have AL := Lib.hid (show Below w.heap.size w W2 from by rw [hw]; exact AL.out.alloc AL.out.size _)
        clear hg hw hHeld
        refine hK.out _ _ trivial (fun hHeld => ?_)
        clear hK K
        try simp only [Act.put, List.getElem_toArray, List.getElem_cons_succ, List.getElem_cons_zero, List.setIfInBounds_toArray, List.set_cons_zero, List.set_cons_succ]
        refine wpAnyH_ready (rs := [3]) (by kernel_rfl) (by simp) ?_
        refine AllReadyH.cons (by rfl) (fun K hK => ?_) AllReadyH.nil
        go_simp
        refine (RN12.out _ (rd_bv A0.out)).mono ?_
        rintro r w9 ⟨rfl, rfl⟩
        clear hHeld
        refine hK.out _ _ trivial (fun hHeld => ?_)
        clear hK K
        try simp only [Act.put, List.getElem_toArray, List.getElem_cons_succ, List.getElem_cons_zero, List.setIfInBounds_toArray, List.set_cons_zero, List.set_cons_succ]
        refine wpAnyH_ready (rs := [5]) (by kernel_rfl) (by simp) ?_
        refine AllReadyH.cons (by rfl) (fun K hK => ?_) AllReadyH.nil
        go_simp
        refine (RN14.out _ (rd_bv A0.out)).mono ?_
        rintro r w9 ⟨rfl, rfl⟩
        clear hHeld
        refine hK.out _ _ trivial (fun hHeld => ?_)
        clear hK K
        try simp only [Act.put, List.getElem_toArray, List.getElem_cons_succ, List.getElem_cons_zero, List.setIfInBounds_toArray, List.set_cons_zero, List.set_cons_succ]
        refine wpAnyH_take (i := 6) (v := ?v6) rfl (by kernel_rfl) (by kernel_rfl) (by kernel_rfl) (fun _ _ _ h => h) (Or.inl ⟨by rfl, ?hy6⟩) hHeld ?rest6
        case hy6 =>
          intro w' hSw
          try dsimp only at hSw
          go_simp
          first | done | with_reducible rfl
        try simp only [Act.put, List.getElem_toArray, List.getElem_cons_succ, List.getElem_cons_zero, List.setIfInBounds_toArray, List.set_cons_zero, List.set_cons_succ]
        refine wpAnyH_ready (rs := [8]) (by kernel_rfl) (by simp) ?_
        refine AllReadyH.cons (by rfl) (fun K hK => ?_) AllReadyH.nil
        refine step_store8 rfl 28 (.tmp 6) (.tmp 17) rfl (by rfl) (Hd.cs ⟨(e : Int), (a : Int), (o : Int)⟩).toArray (Hd.cs ⟨0, 0, 0⟩).toArray 28 (by rfl) G.out (by kernel_rfl) rfl (one23 _) ?_
        intro W6 j6 f6
        have G := Lib.hid j6
        have A0 := Lib.hid (f6.keepBlk A0.out (by have := GG.out; omega))
        have A1 := Lib.hid (f6.keepBlk A1.out (by have := GG.out; omega))
        have AL := Lib.hid (AL.out.trans (f6.to_below (fun k e => by have := GG.out; omega) AL.out.size))
        clear hHeld j6 f6
        refine hK.out _ _ trivial (fun hHeld => ?_)
        clear hK K
        try simp only [Act.put, List.getElem_toArray, List.getElem_cons_succ, List.getElem_cons_zero]
        refine wpAnyH_done (by kernel_rfl) ?_ _
        refine OnlyN.normal ?_
        exact ⟨g, rfl, rfl, A0.out, A1.out, G.out, AL.out, GG.out⟩
    · refine step_alloc23 rfl (by rfl) ?_
      intro g W2 hg hw
      have GG := Lib.hid (show w.heap.size + 1 < g from by rw [hg]; exact A1.out.lt)
      have G := Lib.hid (show Blk W2 g 28 (Hd.cs ⟨0, 0, 0⟩).toArray from by rw [hw, hg]; exact Blk.new _ _ _)
      have A0 := Lib.hid (show Blk W2 _ _ _ from by rw [hw]; exact A0.out.alloc _)
      have A1 := Lib.hid (show Blk W2 _ _ _ from by rw [hw]; exact A1.out.alloc _)
      have AL := Lib.hid (show Below w.heap.size w W2 from by rw [hw]; exact AL.out.alloc AL.out.size _)
      clear hg hw hHeld
      refine hK.out _ _ trivial (fun hHeld => ?_)
      clear hK K
      try simp only [Act.put, List.getElem_toArray, List.getElem_cons_succ, List.getElem_cons_zero, List.setIfInBounds_toArray, List.set_cons_zero, List.set_cons_succ]
      refine wpAnyH_ready (rs := [1]) (by kernel_rfl) (by simp) ?_
      refine AllReadyH.cons (by rfl) (fun K hK => ?_) AllReadyH.nil
      go_simp
      refine (RN4.out _ (rd_bv A0.out)).mono ?_
      rintro r w9 ⟨rfl, rfl⟩
      clear hHeld
      refine hK.out _ _ trivial (fun hHeld => ?_)
      clear hK K
      try simp only [Act.put, List.getElem_toArray, List.getElem_cons_succ, List.getElem_cons_zero, List.setIfInBounds_toArray, List.set_cons_zero, List.set_cons_succ]
      refine wpAnyH_ready (rs := [3]) (by kernel_rfl) (by simp) ?_
      refine AllReadyH.cons (by rfl) (fun K hK => ?_) AllReadyH.nil
      go_simp
      refine (RN12.out _ (rd_bv A0.out)).mono ?_
      rintro r w9 ⟨rfl, rfl⟩
      clear hHeld
      refine hK.out _ _ trivial (fun hHeld => ?_)
      clear hK K
      try simp only [Act.put, List.getElem_toArray, List.getElem_cons_succ, List.getElem_cons_zero, List.setIfInBounds_toArray, List.set_cons_zero, List.set_cons_succ]
      refine wpAnyH_ready (rs := [5]) (by kernel_rfl) (by simp) ?_
      refine AllReadyH.cons (by rfl) (fun K hK => ?_) AllReadyH.nil
      go_simp
      refine (RN14.out _ (rd_bv A0.out)).mono ?_
      rintro r w9 ⟨rfl, rfl⟩
      clear hHeld
      refine hK.out _ _ trivial (fun hHeld => ?_)
      clear hK K
      try simp only [Act.put, List.getElem_toArray, List.getElem_cons_succ, List.getElem_cons_zero, List.setIfInBounds_toArray, List.set_cons_zero, List.set_cons_succ]
      refine wpAnyH_take (i := 6) (v := ?v7) rfl (by kernel_rfl) (by kernel_rfl) (by kernel_rfl) (fun _ _ _ h => h) (Or.inl ⟨by rfl, ?hy7⟩) hHeld ?rest7
      case hy7 =>
        intro w' hSw
        try dsimp only at hSw
        go_simp
        first | done | with_reducible rfl
      try simp only [Act.put, List.getElem_toArray, List.getElem_cons_succ, List.getElem_cons_zero, List.setIfInBounds_toArray, List.set_cons_zero, List.set_cons_succ]
      refine wpAnyH_ready (rs := [8]) (by kernel_rfl) (by simp) ?_
      refine AllReadyH.cons (by rfl) (fun K hK => ?_) AllReadyH.nil
      refine step_store8 rfl 28 (.tmp 6) (.tmp 17) rfl (by rfl) (Hd.cs ⟨(e : Int), (a : Int), (o : Int)⟩).toArray (Hd.cs ⟨0, 0, 0⟩).toArray 28 (by rfl) G.out (by kernel_rfl) rfl (one23 _) ?_
      intro W6 j6 f6
      have G := Lib.hid j6
      have A0 := Lib.hid (f6.keepBlk A0.out (by have := GG.out; omega))
      have A1 := Lib.hid (f6.keepBlk A1.out (by have := GG.out; omega))
      have AL := Lib.hid (AL.out.trans (f6.to_below (fun k e => by have := GG.out; omega) AL.out.size))
      clear hHeld j6 f6
      refine hK.out _ _ trivial (fun hHeld => ?_)
      clear hK K
      try simp only [Act.put, List.getElem_toArray, List.getElem_cons_succ, List.getElem_cons_zero]
      refine wpAnyH_done (by kernel_rfl) ?_ _
      refine OnlyN.normal ?_
      exact ⟨g, rfl, rfl, A0.out, A1.out, G.out, AL.out, GG.out⟩
  case' restR =>
    rintro g W3 ⟨a0, a1, gh, al, gg⟩
    have A0 := Lib.hid (blk_drew a0)
    have A1 := Lib.hid (blk_drew a1)
    have G := Lib.hid (blk_drew gh)
    have AL := Lib.hid al.drew
    clear a0 a1 gh al gg
    simp only [Act.put, List.setIfInBounds_toArray, List.set_cons_zero, List.set_cons_succ]
    go_wp2_with fail
    refine wp_region_only (S := fun w' => w'.cell? ⟨g, 2, none⟩ = some (.int .i64 (o : Int)) ∧ Blk w' g 28 (Hd.cs ⟨(e : Int), (a : Int), (o : Int)⟩).toArray ∧ Blk w' w.heap.size 56 (bv l).toArray) (by kernel_rfl) (⟨(G.out.cell 2).trans rfl, G.out, A0.out⟩) (fun hHeld => ?_)
    refine wpAnyH_take (i := 0) rfl (by kernel_rfl) (by kernel_rfl) (by kernel_rfl) (fun _ _ _ h => h) (yieldsIf_load_mid (by rfl) 28 (.tmp 6) (by rfl) g 0 (by rfl) (Hd.cs ⟨(e : Int), (a : Int), (o : Int)⟩) _ (fun w' hSw => Blk.rangeAt (l := (Hd.cs ⟨(e : Int), (a : Int), (o : Int)⟩)) hSw.2.1) Try.underlying28 rfl (size23 _)) hHeld ?_
    try simp only [Act.put, List.getElem_toArray, List.getElem_cons_zero, List.setIfInBounds_toArray, List.set_cons_zero, List.set_cons_succ]
    refine wpAnyH_ready (rs := [1]) (by kernel_rfl) (by simp) ?_
    refine AllReadyH.cons (by rfl) (fun K hK => ?_) AllReadyH.nil
    go_simp
    refine (rcheck_any ⟨(e : Int), (a : Int), (o : Int)⟩ _).mono ?_
    rw [HNO.out]
    rintro r w1 ⟨rfl, hb⟩
    have A0 := Lib.hid (A0.out.below hb A0.out.lt)
    have A1 := Lib.hid (A1.out.below hb A1.out.lt)
    have G := Lib.hid (G.out.below hb G.out.lt)
    have AL := Lib.hid (AL.out.trans (hb.mono AL.out.size))
    clear hb hHeld
    refine hK.out _ _ (⟨(G.out.cell 2).trans rfl, G.out, A0.out⟩) (fun hHeld => ?_)
    clear hK K
    try simp only [Act.put, List.getElem_toArray, List.getElem_cons_succ, List.getElem_cons_zero, List.setIfInBounds_toArray, List.set_cons_zero, List.set_cons_succ]
    refine wpAnyH_take (i := 2) (v := ?v18) rfl (by kernel_rfl) (by kernel_rfl) (by kernel_rfl) (fun _ _ _ h => h) (Or.inl ⟨by rfl, ?hy18⟩) hHeld ?rest18
    case hy18 =>
      intro w' hSw
      try dsimp only at hSw
      go_simp
      first | done | with_reducible rfl
    try simp only [Act.put, List.getElem_toArray, List.getElem_cons_succ, List.getElem_cons_zero, List.setIfInBounds_toArray, List.set_cons_zero, List.set_cons_succ]
    refine wpAnyH_take (i := 3) (v := ?v19) rfl (by kernel_rfl) (by kernel_rfl) (by kernel_rfl) (fun _ _ _ h => h) (Or.inl ⟨by rfl, ?hy19⟩) hHeld ?rest19
    case hy19 =>
      intro w' hSw
      try dsimp only at hSw
      go_simp
      first | done | with_reducible rfl
    try simp only [Act.put, List.getElem_toArray, List.getElem_cons_succ, List.getElem_cons_zero, List.setIfInBounds_toArray, List.set_cons_zero, List.set_cons_succ]
    refine wpAnyH_take (i := 4) rfl (by kernel_rfl) (by kernel_rfl) (by kernel_rfl) (fun _ _ _ h => h) (yieldsIf_load_mid (by rfl) 28 (.tmp 6) (by rfl) g 0 (by rfl) (Hd.cs ⟨(e : Int), (a : Int), (o : Int)⟩) _ (fun w' hSw => Blk.rangeAt (l := (Hd.cs ⟨(e : Int), (a : Int), (o : Int)⟩)) hSw.2.1) Try.underlying28 rfl (size23 _)) hHeld ?_
    try simp only [Act.put, List.getElem_toArray, List.getElem_cons_succ, List.getElem_cons_zero, List.setIfInBounds_toArray, List.set_cons_zero, List.set_cons_succ]
    refine wpAnyH_take (i := 6) rfl (by kernel_rfl) (by kernel_rfl) (by kernel_rfl) (fun _ _ _ h => h) (yieldsIf_load_mid (by rfl) 56 (.tmp 2) (by rfl) w.heap.size 0 (by rfl) (bv l) _ (fun w' hSw => Blk.rangeAt (l := bv l) hSw.2.2) Try.underlying56 rfl (by rw [bv_length, HL.out]; exact size47)) hHeld ?_
    try simp only [Act.put, List.getElem_toArray, List.getElem_cons_succ, List.getElem_cons_zero, List.setIfInBounds_toArray, List.set_cons_zero, List.set_cons_succ]
    refine wpAnyH_ready (rs := [5]) (by kernel_rfl) (by simp) ?_
    refine AllReadyH.cons (by rfl) (fun K hK => ?_) AllReadyH.nil
    go_simp
    refine (rheader8 _ e a o HE.out HA.out HO.out).mono ?_
    rintro r w5 ⟨rfl, hb⟩
    have A0 := Lib.hid (A0.out.below hb A0.out.lt)
    have A1 := Lib.hid (A1.out.below hb A1.out.lt)
    have G := Lib.hid (G.out.below hb G.out.lt)
    have AL := Lib.hid (AL.out.trans (hb.mono AL.out.size))
    clear hb hHeld
    refine hK.out _ _ (⟨(G.out.cell 2).trans rfl, G.out, A0.out⟩) (fun hHeld => ?_)
    clear hK K
    try simp only [Act.put, List.getElem_toArray, List.getElem_cons_succ, List.getElem_cons_zero, List.setIfInBounds_toArray, List.set_cons_zero, List.set_cons_succ]
    refine wpAnyH_take (i := 7) rfl (by kernel_rfl) (by kernel_rfl) (by kernel_rfl) (fun _ _ _ h => h) (yields_neq47b (by rfl) (.tmp 23) (.tmp 24) (by rfl) (hdS e a o) l _ HQ.out (by rfl) (by rfl) (hdS_length _ _ _) HL.out) hHeld ?_
    try simp only [Act.put, List.getElem_toArray, List.getElem_cons_succ, List.getElem_cons_zero, List.setIfInBounds_toArray, List.set_cons_zero, List.set_cons_succ]
    refine wpAnyH_take (i := 8) (v := ?v20) rfl (by kernel_rfl) (by kernel_rfl) (by kernel_rfl) (fun _ _ _ h => h) (Or.inl ⟨by rfl, ?hy20⟩) hHeld ?rest20
    case hy20 =>
      intro w' hSw
      try dsimp only at hSw
      go_simp
      first | done | with_reducible rfl
    try simp only [Act.put, List.getElem_toArray, List.getElem_cons_succ, List.getElem_cons_zero, List.setIfInBounds_toArray, List.set_cons_zero, List.set_cons_succ]
    refine wpAnyH_take (i := 9) (v := ?v21) rfl (by kernel_rfl) (by kernel_rfl) (by kernel_rfl) (fun _ _ _ h => h) (Or.inl ⟨by rfl, ?hy21⟩) hHeld ?rest21
    case hy21 =>
      intro w' hSw
      try dsimp only at hSw
      go_simp
      first | done | with_reducible rfl
    try simp only [Act.put, List.getElem_toArray, List.getElem_cons_succ, List.getElem_cons_zero, List.setIfInBounds_toArray, List.set_cons_zero, List.set_cons_succ]
    refine wpAnyH_take (i := 10) (v := ?v22) rfl (by kernel_rfl) (by kernel_rfl) (by kernel_rfl) (fun _ _ _ h => h) (Or.inl ⟨by rfl, ?hy22⟩) hHeld ?rest22
    case hy22 =>
      intro w' hSw
      try dsimp only at hSw
      go_simp
      first | done | with_reducible rfl
    try simp only [Act.put, List.getElem_toArray, List.getElem_cons_succ, List.getElem_cons_zero, List.setIfInBounds_toArray, List.set_cons_zero, List.set_cons_succ]
    refine wpAnyH_take (i := 11) (v := ?v23) rfl (by kernel_rfl) (by kernel_rfl) (by kernel_rfl) (fun _ _ _ h => h) (Or.inl ⟨by rfl, ?hy23⟩) hHeld ?rest23
    case hy23 =>
      intro w' hSw
      try dsimp only at hSw
      go_simp
      first | done | with_reducible rfl
    try simp only [Act.put, List.getElem_toArray, List.getElem_cons_succ, List.getElem_cons_zero, List.setIfInBounds_toArray, List.set_cons_zero, List.set_cons_succ]
    refine wpAnyH_take (i := 12) (v := ?v24) rfl (by kernel_rfl) (by kernel_rfl) (by kernel_rfl) (fun _ _ _ h => h) (Or.inl ⟨by rfl, ?hy24⟩) hHeld ?rest24
    case hy24 =>
      intro w' hSw
      try dsimp only at hSw
      go_simp
      first | done | with_reducible rfl
    try simp only [Act.put, List.getElem_toArray, List.getElem_cons_succ, List.getElem_cons_zero, List.setIfInBounds_toArray, List.set_cons_zero, List.set_cons_succ]
    refine wpAnyH_take (i := 15) (v := ?v25) rfl (by kernel_rfl) (by kernel_rfl) (by kernel_rfl) (fun _ _ _ h => h) (Or.inl ⟨by rfl, ?hy25⟩) hHeld ?rest25
    case hy25 =>
      intro w' hSw
      try dsimp only at hSw
      go_simp
      first | done | with_reducible rfl
    try simp only [Act.put, List.getElem_toArray, List.getElem_cons_succ, List.getElem_cons_zero, List.setIfInBounds_toArray, List.set_cons_zero, List.set_cons_succ]
    refine wpAnyH_ready (rs := [13]) (by kernel_rfl) (by simp) ?_
    refine AllReadyH.cons (by rfl) (fun K hK => ?_) AllReadyH.nil
    go_simp
    refine (V.refall_yes o _ HO2.out).mono ?_
    rintro r w13 ⟨⟨g5, c5, rfl, _⟩, hb⟩
    have A0 := Lib.hid (A0.out.below hb A0.out.lt)
    have A1 := Lib.hid (A1.out.below hb A1.out.lt)
    have G := Lib.hid (G.out.below hb G.out.lt)
    have AL := Lib.hid (AL.out.trans (hb.mono AL.out.size))
    clear hb hHeld
    refine hK.out _ _ (⟨(G.out.cell 2).trans rfl, G.out, A0.out⟩) (fun hHeld => ?_)
    clear hK K
    try simp only [Act.put, List.getElem_toArray, List.getElem_cons_succ, List.getElem_cons_zero, List.setIfInBounds_toArray, List.set_cons_zero, List.set_cons_succ]
    refine wpAnyH_take (i := 14) (v := ?v26) rfl (by kernel_rfl) (by kernel_rfl) (by kernel_rfl) (fun _ _ _ h => h) (Or.inl ⟨by rfl, ?hy26⟩) hHeld ?rest26
    case hy26 =>
      intro w' hSw
      try dsimp only at hSw
      go_simp
      first | done | with_reducible rfl
    try simp only [Act.put, List.getElem_toArray, List.getElem_cons_succ, List.getElem_cons_zero, List.setIfInBounds_toArray, List.set_cons_zero, List.set_cons_succ]
    refine wpAnyH_take (i := 16) (v := ?v27) rfl (by kernel_rfl) (by kernel_rfl) (by kernel_rfl) (fun _ _ _ h => h) (Or.inl ⟨by rfl, ?hy27⟩) hHeld ?rest27
    case hy27 =>
      intro w' hSw
      try dsimp only at hSw
      go_simp
      first | done | with_reducible rfl
    try simp only [Act.put, List.getElem_toArray, List.getElem_cons_succ, List.getElem_cons_zero, List.setIfInBounds_toArray, List.set_cons_zero, List.set_cons_succ]
    refine wpAnyH_take (i := 17) (v := ?v28) rfl (by kernel_rfl) (by kernel_rfl) (by kernel_rfl) (fun _ _ _ h => h) (Or.inl ⟨by rfl, ?hy28⟩) hHeld ?rest28
    case hy28 =>
      intro w' hSw
      try dsimp only at hSw
      go_simp
      first | done | with_reducible rfl
    try simp only [Act.put, List.getElem_toArray, List.getElem_cons_succ, List.getElem_cons_zero, List.setIfInBounds_toArray, List.set_cons_zero, List.set_cons_succ]
    refine wpAnyH_done (by kernel_rfl) ?_ _
    refine OnlyN.normal ?_
    try clear hHeld
    go_wp2_with (first
      | (refine wpList_store_row rfl 28 (.tmp 4) (.tmp 36) rfl (w.heap.size + 1) (Hd.cs ⟨0, 0, 0⟩).toArray rfl rfl 28 _ A1.out (by kernel_rfl) rfl (one23 _) ?_))
    exact bodyPost_ret (results_hd rfl _ _ (w.heap.size + 1) ⟨0, 0, 0⟩ rfl (A1.out.setRow _)) rfl ⟨rfl, below_setRow AL.out (by omega) _⟩
set_option maxRecDepth 100000 in
set_option maxHeartbeats 8000000 in
theorem rof_yes {w : World} (l : List UInt8) (hl : l.length = 512) (z : Nat) (he : eB l ≤ 9223372036854775807) (hk : aB l < 2 ∧ 1 ≤ oB l ∧ oB l ≤ 64) (hq : l = hdS (eB l) (aB l) (oB l)) (hz2 : 20 + 3 * oB l = z) : Calls Try.prog 48 #[sec l, .int .i64 (z : Int)] w fun r w' => r = .returned (.tuple #[Hd.val (gotH z l), .bool (gotB z l)]) ∧ Below w.heap.size w w' := by
  have hz := z23
  obtain ⟨W0, hW⟩ : ∃ W, W = (w.alloc (.cells (bv l).toArray 56)).alloc (.cells (Hd.cs ⟨0, 0, 0⟩).toArray 28) := ⟨_, rfl⟩
  have A0 := Lib.hid (show Blk W0 w.heap.size 56 (bv l).toArray from by rw [hW]; exact (Blk.new w _ _).alloc _)
  have A1 := Lib.hid (show Blk W0 (w.heap.size + 1) 28 (Hd.cs ⟨0, 0, 0⟩).toArray from by rw [hW]; exact blk_new1 w _ _ _)
  have AL := Lib.hid (show Below w.heap.size w W0 from by rw [hW]; exact ((Below.refl w.heap.size w).alloc (Nat.le_refl _) _).alloc (by simp) _)
  have hx11 : W0.cell? ⟨w.heap.size, 11, none⟩ = some (.int .u8 ((l[11]'(by omega)).toNat : Int)) := (A0.out.cell 11).trans (by rw [List.getElem?_toArray, bv_get, List.getElem?_eq_getElem (by omega)]; rfl)
  have hg : gotB z l = true := by
    unfold gotB
    exact decide_eq_true ⟨⟨he, hk⟩, hz2, hq⟩
  rw [show gotH z l = ⟨(eB l : Int), (aB l : Int), (oB l : Int)⟩ by unfold gotH; rw [hg]; rfl, hg]
  have hb : (l[11]'(by omega)).toNat ≤ 127 := (eB_iff hl).1 he
  have HL := Lib.hid hl
  have ha := aB_lt l hl
  have ho := oB_lt l hl
  have q1 : ∀ W : World, Rd W (some ⟨w.heap.size, 0, none⟩) l → Calls Try.prog 65 #[.slice (some ⟨w.heap.size, 4, none⟩) 8 508] W fun r w' => r = .returned (.int .i64 (eB l : Int)) ∧ W = w' := fun W hr =>
    rnum8 _ 8 508 (cutB l 4 8) W (cutB_length hl 4 8 (by omega)) (by have := (hr.drop 4).take 8; rwa [Nat.zero_add] at this) (.inr (.inr rfl)) he (fun _ => (top_iff (cutB_length hl 4 8 (by omega))).1 he)
  have q2 : ∀ W : World, Rd W (some ⟨w.heap.size, 0, none⟩) l → Calls Try.prog 65 #[.slice (some ⟨w.heap.size, 12, none⟩) 2 500] W fun r w' => r = .returned (.int .i64 (aB l : Int)) ∧ W = w' := fun W hr =>
    rnum8 _ 2 500 (cutB l 12 2) W (cutB_length hl 12 2 (by omega)) (by have := (hr.drop 12).take 2; rwa [Nat.zero_add] at this) (.inl rfl) (by unfold aB at ha; omega) (fun h => by omega)
  have q3 : ∀ W : World, Rd W (some ⟨w.heap.size, 0, none⟩) l → Calls Try.prog 65 #[.slice (some ⟨w.heap.size, 14, none⟩) 2 498] W fun r w' => r = .returned (.int .i64 (oB l : Int)) ∧ W = w' := fun W hr =>
    rnum8 _ 2 498 (cutB l 14 2) W (cutB_length hl 14 2 (by omega)) (by have := (hr.drop 14).take 2; rwa [Nat.zero_add] at this) (.inl rfl) (by unfold oB at ho; omega) (fun h => by omega)
  obtain ⟨x11, hx⟩ : ∃ x : Nat, (l[11]'(by omega)).toNat = x := ⟨_, rfl⟩
  rw [hx] at hx11 hb
  have d11 : decide ((127 : Int) < (x11 : Int)) = false := decide_eq_false (by omega)
  have d11' : decide (127 < x11) = false := decide_eq_false (by omega)
  obtain ⟨e, hee⟩ : ∃ e, eB l = e := ⟨_, rfl⟩
  obtain ⟨a, haa⟩ : ∃ a, aB l = a := ⟨_, rfl⟩
  obtain ⟨o, hoo⟩ : ∃ o, oB l = o := ⟨_, rfl⟩
  rw [hee] at q1 he
  rw [haa] at q2 ha
  rw [hoo] at q3 ho
  have RN4 := Lib.hid q1
  have RN12 := Lib.hid q2
  have RN14 := Lib.hid q3
  have HE := Lib.hid (show (e : Int) ≤ 9223372036854775807 by omega)
  have HA := Lib.hid ha
  have HO := Lib.hid ho
  rw [haa, hoo] at hk
  rw [hee, haa, hoo] at hq
  rw [hoo] at hz2
  rw [hee, haa, hoo]
  have HNO := Lib.hid (show Hd.no ⟨(e : Int), (a : Int), (o : Int)⟩ = 0 by unfold Hd.no; rw [if_pos (by simp only; omega)])
  have HQ := Lib.hid (show (!(hdS e a o == l)) = false by rw [← hq]; simp)
  have HO2 := Lib.hid (And.intro hk.2.1 hk.2.2)
  have hzq : ((20 + 3 * (o : Int)) != (z : Int)) = false := by rw [bne_eq_false_iff_eq]; omega
  clear hk hq hz2
  clear hg hee haa hoo hx hb he ha ho q1 q2 q3 hl
  rw [hW] at hx11
  go_enter Try.func48, Try.ntmps48
  go_wp2_with fail
  rw [← hW]
  clear hW hx11
  replace A0 := Lib.hid (blk_drew A0.out)
  replace A1 := Lib.hid (blk_drew A1.out)
  replace AL := Lib.hid AL.out.drew
  refine region_one8 (fun ac g9 => ((((((((ac.put (some 11) (.slice (some ⟨w.heap.size, 4, none⟩) 8 508)).put (some 12) (.int .i64 (e : Int))).put (some 13) (.slice (some ⟨w.heap.size, 12, none⟩) 2 500)).put (some 14) (.int .i64 (a : Int))).put (some 15) (.slice (some ⟨w.heap.size, 14, none⟩) 2 498)).put (some 16) (.int .i64 (o : Int))).put (some 17) (.agg (Hd.cs ⟨(e : Int), (a : Int), (o : Int)⟩).toArray)).put (some 6) (.pointer (some ⟨g9, 0, none⟩)))) (fun g9 W => Blk W w.heap.size 56 (bv l).toArray ∧ Blk W (w.heap.size + 1) 28 (Hd.cs ⟨0, 0, 0⟩).toArray ∧ Blk W g9 28 (Hd.cs ⟨(e : Int), (a : Int), (o : Int)⟩).toArray ∧ Below w.heap.size w W ∧ w.heap.size + 1 < g9) ?mkR ?restR
  case mkR =>
    refine wp_region_only (S := fun _ => True) (by kernel_rfl) trivial (fun hHeld => ?_)
    refine wpAnyH_take (i := 0) (v := ?v1) rfl (by kernel_rfl) (by kernel_rfl) (by kernel_rfl) (fun _ _ _ h => h) (Or.inl ⟨by rfl, ?hy1⟩) hHeld ?rest1
    case hy1 =>
      intro w' hSw
      try dsimp only at hSw
      go_simp
      first | done | with_reducible rfl
    try simp only [Act.put, List.getElem_toArray, List.getElem_cons_zero, List.setIfInBounds_toArray, List.set_cons_zero, List.set_cons_succ]
    refine wpAnyH_take (i := 2) (v := ?v2) rfl (by kernel_rfl) (by kernel_rfl) (by kernel_rfl) (fun _ _ _ h => h) (Or.inl ⟨by rfl, ?hy2⟩) hHeld ?rest2
    case hy2 =>
      intro w' hSw
      try dsimp only at hSw
      go_simp
      first | done | with_reducible rfl
    try simp only [Act.put, List.getElem_toArray, List.getElem_cons_succ, List.getElem_cons_zero, List.setIfInBounds_toArray, List.set_cons_zero, List.set_cons_succ]
    refine wpAnyH_take (i := 4) (v := ?v3) rfl (by kernel_rfl) (by kernel_rfl) (by kernel_rfl) (fun _ _ _ h => h) (Or.inl ⟨by rfl, ?hy3⟩) hHeld ?rest3
    case hy3 =>
      intro w' hSw
      try dsimp only at hSw
      go_simp
      first | done | with_reducible rfl
    try simp only [Act.put, List.getElem_toArray, List.getElem_cons_succ, List.getElem_cons_zero, List.setIfInBounds_toArray, List.set_cons_zero, List.set_cons_succ]
    refine wpAnyH_ready (rs := [1, 7]) (by kernel_rfl) (by simp) ?_
    refine AllReadyH.cons (by rfl) (fun K hK => ?_) (AllReadyH.cons (by rfl) (fun K hK => ?_) AllReadyH.nil)
    · go_simp
      refine (RN4.out _ (rd_bv A0.out)).mono ?_
      rintro r w9 ⟨rfl, rfl⟩
      clear hHeld
      refine hK.out _ _ trivial (fun hHeld => ?_)
      clear hK K
      try simp only [Act.put, List.getElem_toArray, List.getElem_cons_succ, List.getElem_cons_zero, List.setIfInBounds_toArray, List.set_cons_zero, List.set_cons_succ]
      refine wpAnyH_ready (rs := [3, 7]) (by kernel_rfl) (by simp) ?_
      refine AllReadyH.cons (by rfl) (fun K hK => ?_) (AllReadyH.cons (by rfl) (fun K hK => ?_) AllReadyH.nil)
      · go_simp
        refine (RN12.out _ (rd_bv A0.out)).mono ?_
        rintro r w9 ⟨rfl, rfl⟩
        clear hHeld
        refine hK.out _ _ trivial (fun hHeld => ?_)
        clear hK K
        try simp only [Act.put, List.getElem_toArray, List.getElem_cons_succ, List.getElem_cons_zero, List.setIfInBounds_toArray, List.set_cons_zero, List.set_cons_succ]
        refine wpAnyH_ready (rs := [5, 7]) (by kernel_rfl) (by simp) ?_
        refine AllReadyH.cons (by rfl) (fun K hK => ?_) (AllReadyH.cons (by rfl) (fun K hK => ?_) AllReadyH.nil)
        · go_simp
          refine (RN14.out _ (rd_bv A0.out)).mono ?_
          rintro r w9 ⟨rfl, rfl⟩
          clear hHeld
          refine hK.out _ _ trivial (fun hHeld => ?_)
          clear hK K
          try simp only [Act.put, List.getElem_toArray, List.getElem_cons_succ, List.getElem_cons_zero, List.setIfInBounds_toArray, List.set_cons_zero, List.set_cons_succ]
          refine wpAnyH_take (i := 6) (v := ?v4) rfl (by kernel_rfl) (by kernel_rfl) (by kernel_rfl) (fun _ _ _ h => h) (Or.inl ⟨by rfl, ?hy4⟩) hHeld ?rest4
          case hy4 =>
            intro w' hSw
            try dsimp only at hSw
            go_simp
            first | done | with_reducible rfl
          try simp only [Act.put, List.getElem_toArray, List.getElem_cons_succ, List.getElem_cons_zero, List.setIfInBounds_toArray, List.set_cons_zero, List.set_cons_succ]
          refine wpAnyH_ready (rs := [7]) (by kernel_rfl) (by simp) ?_
          refine AllReadyH.cons (by rfl) (fun K hK => ?_) AllReadyH.nil
          refine step_alloc23 rfl (by rfl) ?_
          intro g W2 hg hw
          have GG := Lib.hid (show w.heap.size + 1 < g from by rw [hg]; exact A1.out.lt)
          have G := Lib.hid (show Blk W2 g 28 (Hd.cs ⟨0, 0, 0⟩).toArray from by rw [hw, hg]; exact Blk.new _ _ _)
          have A0 := Lib.hid (show Blk W2 _ _ _ from by rw [hw]; exact A0.out.alloc _)
          have A1 := Lib.hid (show Blk W2 _ _ _ from by rw [hw]; exact A1.out.alloc _)
          have AL := Lib.hid (show Below w.heap.size w W2 from by rw [hw]; exact AL.out.alloc AL.out.size _)
          clear hg hw hHeld
          refine hK.out _ _ trivial (fun hHeld => ?_)
          clear hK K
          try simp only [Act.put, List.getElem_toArray, List.getElem_cons_succ, List.getElem_cons_zero, List.setIfInBounds_toArray, List.set_cons_zero, List.set_cons_succ]
          refine wpAnyH_ready (rs := [8]) (by kernel_rfl) (by simp) ?_
          refine AllReadyH.cons (by rfl) (fun K hK => ?_) AllReadyH.nil
          refine step_store8 rfl 28 (.tmp 6) (.tmp 17) rfl (by rfl) (Hd.cs ⟨(e : Int), (a : Int), (o : Int)⟩).toArray (Hd.cs ⟨0, 0, 0⟩).toArray 28 (by rfl) G.out (by kernel_rfl) rfl (one23 _) ?_
          intro W6 j6 f6
          have G := Lib.hid j6
          have A0 := Lib.hid (f6.keepBlk A0.out (by have := GG.out; omega))
          have A1 := Lib.hid (f6.keepBlk A1.out (by have := GG.out; omega))
          have AL := Lib.hid (AL.out.trans (f6.to_below (fun k e => by have := GG.out; omega) AL.out.size))
          clear hHeld j6 f6
          refine hK.out _ _ trivial (fun hHeld => ?_)
          clear hK K
          try simp only [Act.put, List.getElem_toArray, List.getElem_cons_succ, List.getElem_cons_zero]
          refine wpAnyH_done (by kernel_rfl) ?_ _
          refine OnlyN.normal ?_
          exact ⟨g, rfl, rfl, A0.out, A1.out, G.out, AL.out, GG.out⟩
        · refine step_alloc23 rfl (by rfl) ?_
          intro g W2 hg hw
          have GG := Lib.hid (show w.heap.size + 1 < g from by rw [hg]; exact A1.out.lt)
          have G := Lib.hid (show Blk W2 g 28 (Hd.cs ⟨0, 0, 0⟩).toArray from by rw [hw, hg]; exact Blk.new _ _ _)
          have A0 := Lib.hid (show Blk W2 _ _ _ from by rw [hw]; exact A0.out.alloc _)
          have A1 := Lib.hid (show Blk W2 _ _ _ from by rw [hw]; exact A1.out.alloc _)
          have AL := Lib.hid (show Below w.heap.size w W2 from by rw [hw]; exact AL.out.alloc AL.out.size _)
          clear hg hw hHeld
          refine hK.out _ _ trivial (fun hHeld => ?_)
          clear hK K
          try simp only [Act.put, List.getElem_toArray, List.getElem_cons_succ, List.getElem_cons_zero, List.setIfInBounds_toArray, List.set_cons_zero, List.set_cons_succ]
          refine wpAnyH_ready (rs := [5]) (by kernel_rfl) (by simp) ?_
          refine AllReadyH.cons (by rfl) (fun K hK => ?_) AllReadyH.nil
          go_simp
          refine (RN14.out _ (rd_bv A0.out)).mono ?_
          rintro r w9 ⟨rfl, rfl⟩
          clear hHeld
          refine hK.out _ _ trivial (fun hHeld => ?_)
          clear hK K
          try simp only [Act.put, List.getElem_toArray, List.getElem_cons_succ, List.getElem_cons_zero, List.setIfInBounds_toArray, List.set_cons_zero, List.set_cons_succ]
          refine wpAnyH_take (i := 6) (v := ?v5) rfl (by kernel_rfl) (by kernel_rfl) (by kernel_rfl) (fun _ _ _ h => h) (Or.inl ⟨by rfl, ?hy5⟩) hHeld ?rest5
          case hy5 =>
            intro w' hSw
            try dsimp only at hSw
            go_simp
            first | done | with_reducible rfl
          try simp only [Act.put, List.getElem_toArray, List.getElem_cons_succ, List.getElem_cons_zero, List.setIfInBounds_toArray, List.set_cons_zero, List.set_cons_succ]
          refine wpAnyH_ready (rs := [8]) (by kernel_rfl) (by simp) ?_
          refine AllReadyH.cons (by rfl) (fun K hK => ?_) AllReadyH.nil
          refine step_store8 rfl 28 (.tmp 6) (.tmp 17) rfl (by rfl) (Hd.cs ⟨(e : Int), (a : Int), (o : Int)⟩).toArray (Hd.cs ⟨0, 0, 0⟩).toArray 28 (by rfl) G.out (by kernel_rfl) rfl (one23 _) ?_
          intro W6 j6 f6
          have G := Lib.hid j6
          have A0 := Lib.hid (f6.keepBlk A0.out (by have := GG.out; omega))
          have A1 := Lib.hid (f6.keepBlk A1.out (by have := GG.out; omega))
          have AL := Lib.hid (AL.out.trans (f6.to_below (fun k e => by have := GG.out; omega) AL.out.size))
          clear hHeld j6 f6
          refine hK.out _ _ trivial (fun hHeld => ?_)
          clear hK K
          try simp only [Act.put, List.getElem_toArray, List.getElem_cons_succ, List.getElem_cons_zero]
          refine wpAnyH_done (by kernel_rfl) ?_ _
          refine OnlyN.normal ?_
          exact ⟨g, rfl, rfl, A0.out, A1.out, G.out, AL.out, GG.out⟩
      · refine step_alloc23 rfl (by rfl) ?_
        intro g W2 hg hw
        have GG := Lib.hid (show w.heap.size + 1 < g from by rw [hg]; exact A1.out.lt)
        have G := Lib.hid (show Blk W2 g 28 (Hd.cs ⟨0, 0, 0⟩).toArray from by rw [hw, hg]; exact Blk.new _ _ _)
        have A0 := Lib.hid (show Blk W2 _ _ _ from by rw [hw]; exact A0.out.alloc _)
        have A1 := Lib.hid (show Blk W2 _ _ _ from by rw [hw]; exact A1.out.alloc _)
        have AL := Lib.hid (show Below w.heap.size w W2 from by rw [hw]; exact AL.out.alloc AL.out.size _)
        clear hg hw hHeld
        refine hK.out _ _ trivial (fun hHeld => ?_)
        clear hK K
        try simp only [Act.put, List.getElem_toArray, List.getElem_cons_succ, List.getElem_cons_zero, List.setIfInBounds_toArray, List.set_cons_zero, List.set_cons_succ]
        refine wpAnyH_ready (rs := [3]) (by kernel_rfl) (by simp) ?_
        refine AllReadyH.cons (by rfl) (fun K hK => ?_) AllReadyH.nil
        go_simp
        refine (RN12.out _ (rd_bv A0.out)).mono ?_
        rintro r w9 ⟨rfl, rfl⟩
        clear hHeld
        refine hK.out _ _ trivial (fun hHeld => ?_)
        clear hK K
        try simp only [Act.put, List.getElem_toArray, List.getElem_cons_succ, List.getElem_cons_zero, List.setIfInBounds_toArray, List.set_cons_zero, List.set_cons_succ]
        refine wpAnyH_ready (rs := [5]) (by kernel_rfl) (by simp) ?_
        refine AllReadyH.cons (by rfl) (fun K hK => ?_) AllReadyH.nil
        go_simp
        refine (RN14.out _ (rd_bv A0.out)).mono ?_
        rintro r w9 ⟨rfl, rfl⟩
        clear hHeld
        refine hK.out _ _ trivial (fun hHeld => ?_)
        clear hK K
        try simp only [Act.put, List.getElem_toArray, List.getElem_cons_succ, List.getElem_cons_zero, List.setIfInBounds_toArray, List.set_cons_zero, List.set_cons_succ]
        refine wpAnyH_take (i := 6) (v := ?v6) rfl (by kernel_rfl) (by kernel_rfl) (by kernel_rfl) (fun _ _ _ h => h) (Or.inl ⟨by rfl, ?hy6⟩) hHeld ?rest6
        case hy6 =>
          intro w' hSw
          try dsimp only at hSw
          go_simp
          first | done | with_reducible rfl
        try simp only [Act.put, List.getElem_toArray, List.getElem_cons_succ, List.getElem_cons_zero, List.setIfInBounds_toArray, List.set_cons_zero, List.set_cons_succ]
        refine wpAnyH_ready (rs := [8]) (by kernel_rfl) (by simp) ?_
        refine AllReadyH.cons (by rfl) (fun K hK => ?_) AllReadyH.nil
        refine step_store8 rfl 28 (.tmp 6) (.tmp 17) rfl (by rfl) (Hd.cs ⟨(e : Int), (a : Int), (o : Int)⟩).toArray (Hd.cs ⟨0, 0, 0⟩).toArray 28 (by rfl) G.out (by kernel_rfl) rfl (one23 _) ?_
        intro W6 j6 f6
        have G := Lib.hid j6
        have A0 := Lib.hid (f6.keepBlk A0.out (by have := GG.out; omega))
        have A1 := Lib.hid (f6.keepBlk A1.out (by have := GG.out; omega))
        have AL := Lib.hid (AL.out.trans (f6.to_below (fun k e => by have := GG.out; omega) AL.out.size))
        clear hHeld j6 f6
        refine hK.out _ _ trivial (fun hHeld => ?_)
        clear hK K
        try simp only [Act.put, List.getElem_toArray, List.getElem_cons_succ, List.getElem_cons_zero]
        refine wpAnyH_done (by kernel_rfl) ?_ _
        refine OnlyN.normal ?_
        exact ⟨g, rfl, rfl, A0.out, A1.out, G.out, AL.out, GG.out⟩
    · refine step_alloc23 rfl (by rfl) ?_
      intro g W2 hg hw
      have GG := Lib.hid (show w.heap.size + 1 < g from by rw [hg]; exact A1.out.lt)
      have G := Lib.hid (show Blk W2 g 28 (Hd.cs ⟨0, 0, 0⟩).toArray from by rw [hw, hg]; exact Blk.new _ _ _)
      have A0 := Lib.hid (show Blk W2 _ _ _ from by rw [hw]; exact A0.out.alloc _)
      have A1 := Lib.hid (show Blk W2 _ _ _ from by rw [hw]; exact A1.out.alloc _)
      have AL := Lib.hid (show Below w.heap.size w W2 from by rw [hw]; exact AL.out.alloc AL.out.size _)
      clear hg hw hHeld
      refine hK.out _ _ trivial (fun hHeld => ?_)
      clear hK K
      try simp only [Act.put, List.getElem_toArray, List.getElem_cons_succ, List.getElem_cons_zero, List.setIfInBounds_toArray, List.set_cons_zero, List.set_cons_succ]
      refine wpAnyH_ready (rs := [1]) (by kernel_rfl) (by simp) ?_
      refine AllReadyH.cons (by rfl) (fun K hK => ?_) AllReadyH.nil
      go_simp
      refine (RN4.out _ (rd_bv A0.out)).mono ?_
      rintro r w9 ⟨rfl, rfl⟩
      clear hHeld
      refine hK.out _ _ trivial (fun hHeld => ?_)
      clear hK K
      try simp only [Act.put, List.getElem_toArray, List.getElem_cons_succ, List.getElem_cons_zero, List.setIfInBounds_toArray, List.set_cons_zero, List.set_cons_succ]
      refine wpAnyH_ready (rs := [3]) (by kernel_rfl) (by simp) ?_
      refine AllReadyH.cons (by rfl) (fun K hK => ?_) AllReadyH.nil
      go_simp
      refine (RN12.out _ (rd_bv A0.out)).mono ?_
      rintro r w9 ⟨rfl, rfl⟩
      clear hHeld
      refine hK.out _ _ trivial (fun hHeld => ?_)
      clear hK K
      try simp only [Act.put, List.getElem_toArray, List.getElem_cons_succ, List.getElem_cons_zero, List.setIfInBounds_toArray, List.set_cons_zero, List.set_cons_succ]
      refine wpAnyH_ready (rs := [5]) (by kernel_rfl) (by simp) ?_
      refine AllReadyH.cons (by rfl) (fun K hK => ?_) AllReadyH.nil
      go_simp
      refine (RN14.out _ (rd_bv A0.out)).mono ?_
      rintro r w9 ⟨rfl, rfl⟩
      clear hHeld
      refine hK.out _ _ trivial (fun hHeld => ?_)
      clear hK K
      try simp only [Act.put, List.getElem_toArray, List.getElem_cons_succ, List.getElem_cons_zero, List.setIfInBounds_toArray, List.set_cons_zero, List.set_cons_succ]
      refine wpAnyH_take (i := 6) (v := ?v7) rfl (by kernel_rfl) (by kernel_rfl) (by kernel_rfl) (fun _ _ _ h => h) (Or.inl ⟨by rfl, ?hy7⟩) hHeld ?rest7
      case hy7 =>
        intro w' hSw
        try dsimp only at hSw
        go_simp
        first | done | with_reducible rfl
      try simp only [Act.put, List.getElem_toArray, List.getElem_cons_succ, List.getElem_cons_zero, List.setIfInBounds_toArray, List.set_cons_zero, List.set_cons_succ]
      refine wpAnyH_ready (rs := [8]) (by kernel_rfl) (by simp) ?_
      refine AllReadyH.cons (by rfl) (fun K hK => ?_) AllReadyH.nil
      refine step_store8 rfl 28 (.tmp 6) (.tmp 17) rfl (by rfl) (Hd.cs ⟨(e : Int), (a : Int), (o : Int)⟩).toArray (Hd.cs ⟨0, 0, 0⟩).toArray 28 (by rfl) G.out (by kernel_rfl) rfl (one23 _) ?_
      intro W6 j6 f6
      have G := Lib.hid j6
      have A0 := Lib.hid (f6.keepBlk A0.out (by have := GG.out; omega))
      have A1 := Lib.hid (f6.keepBlk A1.out (by have := GG.out; omega))
      have AL := Lib.hid (AL.out.trans (f6.to_below (fun k e => by have := GG.out; omega) AL.out.size))
      clear hHeld j6 f6
      refine hK.out _ _ trivial (fun hHeld => ?_)
      clear hK K
      try simp only [Act.put, List.getElem_toArray, List.getElem_cons_succ, List.getElem_cons_zero]
      refine wpAnyH_done (by kernel_rfl) ?_ _
      refine OnlyN.normal ?_
      exact ⟨g, rfl, rfl, A0.out, A1.out, G.out, AL.out, GG.out⟩
  case' restR =>
    rintro g W3 ⟨a0, a1, gh, al, gg⟩
    have A0 := Lib.hid (blk_drew a0)
    have A1 := Lib.hid (blk_drew a1)
    have G := Lib.hid (blk_drew gh)
    have AL := Lib.hid al.drew
    clear a0 a1 gh al gg
    simp only [Act.put, List.setIfInBounds_toArray, List.set_cons_zero, List.set_cons_succ]
    go_wp2_with fail
    refine wp_region_only (S := fun w' => w'.cell? ⟨g, 2, none⟩ = some (.int .i64 (o : Int)) ∧ Blk w' g 28 (Hd.cs ⟨(e : Int), (a : Int), (o : Int)⟩).toArray ∧ Blk w' w.heap.size 56 (bv l).toArray) (by kernel_rfl) (⟨(G.out.cell 2).trans rfl, G.out, A0.out⟩) (fun hHeld => ?_)
    refine wpAnyH_take (i := 0) rfl (by kernel_rfl) (by kernel_rfl) (by kernel_rfl) (fun _ _ _ h => h) (yieldsIf_load_mid (by rfl) 28 (.tmp 6) (by rfl) g 0 (by rfl) (Hd.cs ⟨(e : Int), (a : Int), (o : Int)⟩) _ (fun w' hSw => Blk.rangeAt (l := (Hd.cs ⟨(e : Int), (a : Int), (o : Int)⟩)) hSw.2.1) Try.underlying28 rfl (size23 _)) hHeld ?_
    try simp only [Act.put, List.getElem_toArray, List.getElem_cons_zero, List.setIfInBounds_toArray, List.set_cons_zero, List.set_cons_succ]
    refine wpAnyH_ready (rs := [1]) (by kernel_rfl) (by simp) ?_
    refine AllReadyH.cons (by rfl) (fun K hK => ?_) AllReadyH.nil
    go_simp
    refine (rcheck_any ⟨(e : Int), (a : Int), (o : Int)⟩ _).mono ?_
    rw [HNO.out]
    rintro r w1 ⟨rfl, hb⟩
    have A0 := Lib.hid (A0.out.below hb A0.out.lt)
    have A1 := Lib.hid (A1.out.below hb A1.out.lt)
    have G := Lib.hid (G.out.below hb G.out.lt)
    have AL := Lib.hid (AL.out.trans (hb.mono AL.out.size))
    clear hb hHeld
    refine hK.out _ _ (⟨(G.out.cell 2).trans rfl, G.out, A0.out⟩) (fun hHeld => ?_)
    clear hK K
    try simp only [Act.put, List.getElem_toArray, List.getElem_cons_succ, List.getElem_cons_zero, List.setIfInBounds_toArray, List.set_cons_zero, List.set_cons_succ]
    refine wpAnyH_take (i := 2) (v := ?v29) rfl (by kernel_rfl) (by kernel_rfl) (by kernel_rfl) (fun _ _ _ h => h) (Or.inl ⟨by rfl, ?hy29⟩) hHeld ?rest29
    case hy29 =>
      intro w' hSw
      try dsimp only at hSw
      go_simp
      first | done | with_reducible rfl
    try simp only [Act.put, List.getElem_toArray, List.getElem_cons_succ, List.getElem_cons_zero, List.setIfInBounds_toArray, List.set_cons_zero, List.set_cons_succ]
    refine wpAnyH_take (i := 3) (v := ?v30) rfl (by kernel_rfl) (by kernel_rfl) (by kernel_rfl) (fun _ _ _ h => h) (Or.inl ⟨by rfl, ?hy30⟩) hHeld ?rest30
    case hy30 =>
      intro w' hSw
      try dsimp only at hSw
      go_simp
      first | done | with_reducible rfl
    try simp only [Act.put, List.getElem_toArray, List.getElem_cons_succ, List.getElem_cons_zero, List.setIfInBounds_toArray, List.set_cons_zero, List.set_cons_succ]
    refine wpAnyH_take (i := 4) rfl (by kernel_rfl) (by kernel_rfl) (by kernel_rfl) (fun _ _ _ h => h) (yieldsIf_load_mid (by rfl) 28 (.tmp 6) (by rfl) g 0 (by rfl) (Hd.cs ⟨(e : Int), (a : Int), (o : Int)⟩) _ (fun w' hSw => Blk.rangeAt (l := (Hd.cs ⟨(e : Int), (a : Int), (o : Int)⟩)) hSw.2.1) Try.underlying28 rfl (size23 _)) hHeld ?_
    try simp only [Act.put, List.getElem_toArray, List.getElem_cons_succ, List.getElem_cons_zero, List.setIfInBounds_toArray, List.set_cons_zero, List.set_cons_succ]
    refine wpAnyH_take (i := 6) rfl (by kernel_rfl) (by kernel_rfl) (by kernel_rfl) (fun _ _ _ h => h) (yieldsIf_load_mid (by rfl) 56 (.tmp 2) (by rfl) w.heap.size 0 (by rfl) (bv l) _ (fun w' hSw => Blk.rangeAt (l := bv l) hSw.2.2) Try.underlying56 rfl (by rw [bv_length, HL.out]; exact size47)) hHeld ?_
    try simp only [Act.put, List.getElem_toArray, List.getElem_cons_succ, List.getElem_cons_zero, List.setIfInBounds_toArray, List.set_cons_zero, List.set_cons_succ]
    refine wpAnyH_ready (rs := [5]) (by kernel_rfl) (by simp) ?_
    refine AllReadyH.cons (by rfl) (fun K hK => ?_) AllReadyH.nil
    go_simp
    refine (rheader8 _ e a o HE.out HA.out HO.out).mono ?_
    rintro r w5 ⟨rfl, hb⟩
    have A0 := Lib.hid (A0.out.below hb A0.out.lt)
    have A1 := Lib.hid (A1.out.below hb A1.out.lt)
    have G := Lib.hid (G.out.below hb G.out.lt)
    have AL := Lib.hid (AL.out.trans (hb.mono AL.out.size))
    clear hb hHeld
    refine hK.out _ _ (⟨(G.out.cell 2).trans rfl, G.out, A0.out⟩) (fun hHeld => ?_)
    clear hK K
    try simp only [Act.put, List.getElem_toArray, List.getElem_cons_succ, List.getElem_cons_zero, List.setIfInBounds_toArray, List.set_cons_zero, List.set_cons_succ]
    refine wpAnyH_take (i := 7) rfl (by kernel_rfl) (by kernel_rfl) (by kernel_rfl) (fun _ _ _ h => h) (yields_neq47b (by rfl) (.tmp 23) (.tmp 24) (by rfl) (hdS e a o) l _ HQ.out (by rfl) (by rfl) (hdS_length _ _ _) HL.out) hHeld ?_
    try simp only [Act.put, List.getElem_toArray, List.getElem_cons_succ, List.getElem_cons_zero, List.setIfInBounds_toArray, List.set_cons_zero, List.set_cons_succ]
    refine wpAnyH_take (i := 8) (v := ?v31) rfl (by kernel_rfl) (by kernel_rfl) (by kernel_rfl) (fun _ _ _ h => h) (Or.inl ⟨by rfl, ?hy31⟩) hHeld ?rest31
    case hy31 =>
      intro w' hSw
      try dsimp only at hSw
      go_simp
      first | done | with_reducible rfl
    try simp only [Act.put, List.getElem_toArray, List.getElem_cons_succ, List.getElem_cons_zero, List.setIfInBounds_toArray, List.set_cons_zero, List.set_cons_succ]
    refine wpAnyH_take (i := 9) (v := ?v32) rfl (by kernel_rfl) (by kernel_rfl) (by kernel_rfl) (fun _ _ _ h => h) (Or.inl ⟨by rfl, ?hy32⟩) hHeld ?rest32
    case hy32 =>
      intro w' hSw
      try dsimp only at hSw
      go_simp
      first | done | with_reducible rfl
    try simp only [Act.put, List.getElem_toArray, List.getElem_cons_succ, List.getElem_cons_zero, List.setIfInBounds_toArray, List.set_cons_zero, List.set_cons_succ]
    refine wpAnyH_take (i := 10) (v := ?v33) rfl (by kernel_rfl) (by kernel_rfl) (by kernel_rfl) (fun _ _ _ h => h) (Or.inl ⟨by rfl, ?hy33⟩) hHeld ?rest33
    case hy33 =>
      intro w' hSw
      try dsimp only at hSw
      go_simp
      first | done | with_reducible rfl
    try simp only [Act.put, List.getElem_toArray, List.getElem_cons_succ, List.getElem_cons_zero, List.setIfInBounds_toArray, List.set_cons_zero, List.set_cons_succ]
    refine wpAnyH_take (i := 11) (v := ?v34) rfl (by kernel_rfl) (by kernel_rfl) (by kernel_rfl) (fun _ _ _ h => h) (Or.inl ⟨by rfl, ?hy34⟩) hHeld ?rest34
    case hy34 =>
      intro w' hSw
      try dsimp only at hSw
      go_simp
      first | done | with_reducible rfl
    try simp only [Act.put, List.getElem_toArray, List.getElem_cons_succ, List.getElem_cons_zero, List.setIfInBounds_toArray, List.set_cons_zero, List.set_cons_succ]
    refine wpAnyH_take (i := 12) (v := ?v35) rfl (by kernel_rfl) (by kernel_rfl) (by kernel_rfl) (fun _ _ _ h => h) (Or.inl ⟨by rfl, ?hy35⟩) hHeld ?rest35
    case hy35 =>
      intro w' hSw
      try dsimp only at hSw
      go_simp
      first | done | with_reducible rfl
    try simp only [Act.put, List.getElem_toArray, List.getElem_cons_succ, List.getElem_cons_zero, List.setIfInBounds_toArray, List.set_cons_zero, List.set_cons_succ]
    refine wpAnyH_take (i := 15) (v := ?v36) rfl (by kernel_rfl) (by kernel_rfl) (by kernel_rfl) (fun _ _ _ h => h) (Or.inl ⟨by rfl, ?hy36⟩) hHeld ?rest36
    case hy36 =>
      intro w' hSw
      try dsimp only at hSw
      go_simp
      first | done | with_reducible rfl
    try simp only [Act.put, List.getElem_toArray, List.getElem_cons_succ, List.getElem_cons_zero, List.setIfInBounds_toArray, List.set_cons_zero, List.set_cons_succ]
    refine wpAnyH_ready (rs := [13]) (by kernel_rfl) (by simp) ?_
    refine AllReadyH.cons (by rfl) (fun K hK => ?_) AllReadyH.nil
    go_simp
    refine (V.refall_yes o _ HO2.out).mono ?_
    rintro r w13 ⟨⟨g5, c5, rfl, _⟩, hb⟩
    have A0 := Lib.hid (A0.out.below hb A0.out.lt)
    have A1 := Lib.hid (A1.out.below hb A1.out.lt)
    have G := Lib.hid (G.out.below hb G.out.lt)
    have AL := Lib.hid (AL.out.trans (hb.mono AL.out.size))
    clear hb hHeld
    refine hK.out _ _ (⟨(G.out.cell 2).trans rfl, G.out, A0.out⟩) (fun hHeld => ?_)
    clear hK K
    try simp only [Act.put, List.getElem_toArray, List.getElem_cons_succ, List.getElem_cons_zero, List.setIfInBounds_toArray, List.set_cons_zero, List.set_cons_succ]
    refine wpAnyH_take (i := 14) (v := ?v37) rfl (by kernel_rfl) (by kernel_rfl) (by kernel_rfl) (fun _ _ _ h => h) (Or.inl ⟨by rfl, ?hy37⟩) hHeld ?rest37
    case hy37 =>
      intro w' hSw
      try dsimp only at hSw
      go_simp
      first | done | with_reducible rfl
    try simp only [Act.put, List.getElem_toArray, List.getElem_cons_succ, List.getElem_cons_zero, List.setIfInBounds_toArray, List.set_cons_zero, List.set_cons_succ]
    refine wpAnyH_take (i := 16) (v := ?v38) rfl (by kernel_rfl) (by kernel_rfl) (by kernel_rfl) (fun _ _ _ h => h) (Or.inl ⟨by rfl, ?hy38⟩) hHeld ?rest38
    case hy38 =>
      intro w' hSw
      try dsimp only at hSw
      go_simp
      first | done | with_reducible rfl
    try simp only [Act.put, List.getElem_toArray, List.getElem_cons_succ, List.getElem_cons_zero, List.setIfInBounds_toArray, List.set_cons_zero, List.set_cons_succ]
    refine wpAnyH_take (i := 17) (v := ?v39) rfl (by kernel_rfl) (by kernel_rfl) (by kernel_rfl) (fun _ _ _ h => h) (Or.inl ⟨by rfl, ?hy39⟩) hHeld ?rest39
    case hy39 =>
      intro w' hSw
      try dsimp only at hSw
      go_simp
      first | done | with_reducible rfl
    try simp only [Act.put, List.getElem_toArray, List.getElem_cons_succ, List.getElem_cons_zero, List.setIfInBounds_toArray, List.set_cons_zero, List.set_cons_succ]
    refine wpAnyH_done (by kernel_rfl) ?_ _
    refine OnlyN.normal ?_
    try clear hHeld
    go_wp2_with (first
      | (refine wpList_load_mid rfl 28 (.tmp 6) rfl g 0 rfl (Hd.cs ⟨(e : Int), (a : Int), (o : Int)⟩) _ (Blk.rangeAt (l := (Hd.cs ⟨(e : Int), (a : Int), (o : Int)⟩)) G.out) Try.underlying28 rfl (size23 _) ?_)
      | (refine wpList_store_row rfl 28 (.tmp 4) (.tmp 37) rfl (w.heap.size + 1) (Hd.cs ⟨(e : Int), (a : Int), (o : Int)⟩).toArray rfl rfl 28 _ A1.out (by kernel_rfl) rfl (one23 _) ?_))
    exact bodyPost_ret (results_hd rfl _ _ (w.heap.size + 1) ⟨(e : Int), (a : Int), (o : Int)⟩ rfl (A1.out.setRow _)) rfl ⟨rfl, below_setRow AL.out (by omega) _⟩
set_option maxRecDepth 8000 in
theorem rof_any {w : World} (l : List UInt8) (hl : l.length = 512) (z : Nat) : Calls Try.prog 48 #[sec l, .int .i64 (z : Int)] w fun r w' => r = .returned (.tuple #[Hd.val (gotH z l), .bool (gotB z l)]) ∧ Below w.heap.size w w' := by
  by_cases he : eB l ≤ 9223372036854775807
  · by_cases hk : aB l < 2 ∧ 1 ≤ oB l ∧ oB l ≤ 64
    · by_cases hq : l = hdS (eB l) (aB l) (oB l)
      · by_cases hz2 : 20 + 3 * oB l = z
        · exact rof_yes l hl z he hk hq hz2
        · exact rof_off l hl z he hk hq hz2
      · exact rof_ne l hl z he hk hq
    · exact rof_bad l hl z he hk
  · exact rof_big l hl z he
end Go.Proofs.Ytcfkoglehjkkdaa

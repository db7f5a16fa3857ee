/- banks: isBank: whether a node is a bank. -/
import Derived.Test.YteodgefnbmiblaaDoorBFst
import Derived.Test.YteodgefnbmiblaaDoorR12
namespace Go.Proofs.YteodgefnbmiblaaDoor
open Go.RowKit
/-- a drawn region that makes two blocks: what follows is said once -/
theorem region_twoB {P : Program} {id : Nat} {ops : Array Oper} {Q : Exit → Act → World → Prop} {a : Act} {w : World} (F : Act → Nat → Nat → Act) (Fx : Nat → Nat → World → Prop) (H : (Code.region id ops true).wp P (fun e a' w' => ∃ g h, e = .normal ∧ a' = F a g h ∧ Fx g h w') a w) (K : ∀ g h W, Fx g h W → Q .normal (F a g h) W) : (Code.region id ops true).wp P Q a w :=
  Code.wp_mono (fun e a' w' ⟨g, h, e1, e2, e3⟩ => by subst e1 e2; exact K g h w' e3) H
theorem y_kyB {ops : Array Oper} {o : Oper} {a : Act} {S : World → Prop} (hw : Region.wanted o (yielded ops a.tmps) = true) (x : Operand) (ho : o.op = .load 33 x) (g off : Nat) (hx : a.eval x = .pointer (some ⟨g, off, none⟩)) (k : Ky) (hS : ∀ w, S w → KeyAt w g off k) : YieldsIf Tryd.prog ops S o k.val a :=
  yieldsIf_load_mid hw 33 x ho g off hx (kl k) _ (fun w h j v hj => by
    obtain ⟨h0, h1, h2, h3, h4, h5⟩ := hS w h
    match j, hj with
    | 0, hj => simp only [kl, List.getElem?_cons_zero, Option.some.injEq] at hj; subst hj; exact h0
    | 1, hj => simp only [kl, List.getElem?_cons_succ, List.getElem?_cons_zero, Option.some.injEq] at hj; subst hj; exact h1
    | 2, hj => simp only [kl, List.getElem?_cons_succ, List.getElem?_cons_zero, Option.some.injEq] at hj; subst hj; exact h2
    | 3, hj => simp only [kl, List.getElem?_cons_succ, List.getElem?_cons_zero, Option.some.injEq] at hj; subst hj; exact h3
    | 4, hj => simp only [kl, List.getElem?_cons_succ, List.getElem?_cons_zero, Option.some.injEq] at hj; subst hj; exact h4
    | 5, hj => simp only [kl, List.getElem?_cons_succ, List.getElem?_cons_zero, Option.some.injEq] at hj; subst hj; exact h5
    | j + 6, hj => simp [kl] at hj) Tryd.underlying33 rfl size30
/-- two keys' blocks behind a bank's -/
structure Iw (w W : World) (p : Nat) (x : Int) (u : Oj) (g h : Nat) (y z : Ky) : Prop where
  bel : Below w.heap.size w W
  bk : Blk W w.heap.size 78 (bkc p x u).toArray
  kg : Blk W g 33 (kl y).toArray
  kh : Blk W h 33 (kl z).toArray
  gg : w.heap.size < g
  hh : w.heap.size < h
  ne : g ≠ h
section
variable {w W : World} {p g h : Nat} {x : Int} {u : Oj} {y z v : Ky}
theorem Iw.setg (i : Iw w W p x u g h y z) : Iw w (W.setRow g (kl v).toArray) p x u g h v z := ⟨below_setRow i.bel (by have := i.gg; omega) _, Blk.row_far i.bk (by have := i.gg; omega) _, i.kg.setRow _, Blk.row_far i.kh (Ne.symm i.ne) _, i.gg, i.hh, i.ne⟩
theorem Iw.seth (i : Iw w W p x u g h y z) : Iw w (W.setRow h (kl v).toArray) p x u g h y v := ⟨below_setRow i.bel (by have := i.hh; omega) _, Blk.row_far i.bk (by have := i.hh; omega) _, Blk.row_far i.kg i.ne _, i.kh.setRow _, i.gg, i.hh, i.ne⟩
end
section
variable {w : World} {base p : Nat} {A : Option Addr} {cap : Nat} {ps : List Nat} {os : List Oj}
set_option maxRecDepth 100000 in
set_option maxHeartbeats 4000000 in
theorem isb_k0 (x : Int) (u : Oj) (h : (sl0 u).k ≠ 1) : Calls Tryd.prog 69 #[bkv p x u] w fun e w' => e = .returned (.bool false) ∧ Below w.heap.size w w' := by
  have hbl := bkc_len p x u
  have HK0 := Lib.hid (Blk.new w 78 (bkc p x u).toArray)
  have HB0 := Lib.hid ((Below.refl w.heap.size w).alloc (Nat.le_refl _) (.cells (bkc p x u).toArray 78))
  have d0 : ((sl0 u).k != 1) = true := by simpa using h
  clear h
  go_enter Tryd.func69, Tryd.ntmps69
  go_wp2_with fail
  refine region_twoB (fun ac g h => ((((((((((ac.put (some 5) (.pointer (some ⟨w.heap.size, 0, none⟩))).put (some 6) (.pointer (some ⟨w.heap.size, 3, none⟩))).put (some 7) (.pointer (some ⟨w.heap.size, 3, none⟩))).put (some 8) (sl0 u).val).put (some 9) (.pointer (some ⟨w.heap.size, 0, none⟩))).put (some 10) (.pointer (some ⟨w.heap.size, 3, none⟩))).put (some 11) (.pointer (some ⟨w.heap.size, 9, none⟩))).put (some 12) (sl1 u).val).put (some 3) (.pointer (some ⟨g, 0, none⟩))).put (some 4) (.pointer (some ⟨h, 0, none⟩)))) (fun g h W => Iw w W p x u g h (sl0 u) (sl1 u)) ?mkTwo ?mkRest
  case mkTwo =>
    refine wp_region_only (S := fun w' => BkAt w' w.heap.size 0 p x u) (by kernel_rfl) HK0.out.drew.bk (fun hHeld => ?_)
    refine wpAnyH_take (i := 0) (v := ?v1) rfl (by kernel_rfl) (by kernel_rfl) (by kernel_rfl) (fun _ _ _ h => h) (Or.inl ⟨by rfl, ?hy1⟩) hHeld ?rest1
    case hy1 =>
      intro w' hSw
      try dsimp only at hSw
      go_simp
      first | done | with_reducible rfl
    try simp only [Act.put, List.getElem_toArray, List.getElem_cons_zero, List.setIfInBounds_toArray, List.set_cons_zero, List.set_cons_succ]
    refine wpAnyH_take (i := 1) (v := ?v2) rfl (by kernel_rfl) (by kernel_rfl) (by kernel_rfl) (fun _ _ _ h => h) (Or.inl ⟨by rfl, ?hy2⟩) hHeld ?rest2
    case hy2 =>
      intro w' hSw
      try dsimp only at hSw
      go_simp
      first | done | with_reducible rfl
    try simp only [Act.put, List.getElem_toArray, List.getElem_cons_succ, List.getElem_cons_zero, List.setIfInBounds_toArray, List.set_cons_zero, List.set_cons_succ]
    refine wpAnyH_take (i := 2) (v := ?v3) rfl (by kernel_rfl) (by kernel_rfl) (by kernel_rfl) (fun _ _ _ h => h) (Or.inl ⟨by rfl, ?hy3⟩) hHeld ?rest3
    case hy3 =>
      intro w' hSw
      try dsimp only at hSw
      go_simp
      first | done | with_reducible rfl
    try simp only [Act.put, List.getElem_toArray, List.getElem_cons_succ, List.getElem_cons_zero, List.setIfInBounds_toArray, List.set_cons_zero, List.set_cons_succ]
    refine wpAnyH_take (i := 3) rfl (by kernel_rfl) (by kernel_rfl) (by kernel_rfl) (fun _ _ _ h => h) (y_kyB (by rfl) (.tmp 7) (by rfl) w.heap.size 3 (by rfl) (sl0 u) (fun _ h => h.s0)) hHeld ?_
    try simp only [Act.put, List.getElem_toArray, List.getElem_cons_succ, List.getElem_cons_zero, List.setIfInBounds_toArray, List.set_cons_zero, List.set_cons_succ]
    refine wpAnyH_take (i := 4) (v := ?v4) rfl (by kernel_rfl) (by kernel_rfl) (by kernel_rfl) (fun _ _ _ h => h) (Or.inl ⟨by rfl, ?hy4⟩) hHeld ?rest4
    case hy4 =>
      intro w' hSw
      try dsimp only at hSw
      go_simp
      first | done | with_reducible rfl
    try simp only [Act.put, List.getElem_toArray, List.getElem_cons_succ, List.getElem_cons_zero, List.setIfInBounds_toArray, List.set_cons_zero, List.set_cons_succ]
    refine wpAnyH_take (i := 5) (v := ?v5) rfl (by kernel_rfl) (by kernel_rfl) (by kernel_rfl) (fun _ _ _ h => h) (Or.inl ⟨by rfl, ?hy5⟩) hHeld ?rest5
    case hy5 =>
      intro w' hSw
      try dsimp only at hSw
      go_simp
      first | done | with_reducible rfl
    try simp only [Act.put, List.getElem_toArray, List.getElem_cons_succ, List.getElem_cons_zero, List.setIfInBounds_toArray, List.set_cons_zero, List.set_cons_succ]
    refine wpAnyH_take (i := 6) (v := ?v6) rfl (by kernel_rfl) (by kernel_rfl) (by kernel_rfl) (fun _ _ _ h => h) (Or.inl ⟨by rfl, ?hy6⟩) hHeld ?rest6
    case hy6 =>
      intro w' hSw
      try dsimp only at hSw
      go_simp
      first | done | with_reducible rfl
    try simp only [Act.put, List.getElem_toArray, List.getElem_cons_succ, List.getElem_cons_zero, List.setIfInBounds_toArray, List.set_cons_zero, List.set_cons_succ]
    refine wpAnyH_take (i := 7) rfl (by kernel_rfl) (by kernel_rfl) (by kernel_rfl) (fun _ _ _ h => h) (y_kyB (by rfl) (.tmp 11) (by rfl) w.heap.size 9 (by rfl) (sl1 u) (fun _ h => h.s1)) hHeld ?_
    try simp only [Act.put, List.getElem_toArray, List.getElem_cons_succ, List.getElem_cons_zero, List.setIfInBounds_toArray, List.set_cons_zero, List.set_cons_succ]
    refine wpAnyH_ready (rs := [8, 9]) (by kernel_rfl) (by simp) ?_
    refine AllReadyH.cons (by rfl) (fun K hK => ?_) (AllReadyH.cons (by rfl) (fun K hK => ?_) AllReadyH.nil)
    · refine step_alloc30 rfl (by rfl) ?_
      intro g w1 hg hw
      have HB1 : Hid (Below w.heap.size w w1) := Lib.hid (by subst hw; exact (below_drew HB0.out).alloc HB0.out.size _)
      have HK1 : Hid (Blk w1 w.heap.size 78 (bkc p x u).toArray) := Lib.hid (by subst hw; exact Blk.alloc HK0.out.drew _)
      have HG1 : Hid (Blk w1 g 33 (kl zk).toArray) := Lib.hid (by subst hw hg; exact Blk.new _ _ _)
      have HE1 : Hid (w.heap.size < g) := Lib.hid (by have h1 := HK0.out.lt; subst hg; exact h1)
      clear hg hw hHeld
      refine hK.out _ _ HK1.out.bk (fun hHeld => ?_)
      clear hK K
      try simp only [Act.put, List.getElem_toArray, List.getElem_cons_succ, List.getElem_cons_zero, List.setIfInBounds_toArray, List.set_cons_zero, List.set_cons_succ]
      refine wpAnyH_ready (rs := [9]) (by kernel_rfl) (by simp) ?_
      refine AllReadyH.cons (by rfl) (fun K hK => ?_) AllReadyH.nil
      refine step_alloc30 rfl (by rfl) ?_
      intro h w2 hg hw
      have HI2 : Hid (Iw w w2 p x u g h zk zk) := Lib.hid (by subst hw hg; exact ⟨HB1.out.alloc HB1.out.size _, HK1.out.alloc _, HG1.out.alloc _, Blk.new _ _ _, HE1.out, HK1.out.lt, fun e => by have := HG1.out.lt; omega⟩)
      clear hg hw hHeld
      refine hK.out _ _ HI2.out.bk.bk (fun hHeld => ?_)
      clear hK K
      try simp only [Act.put, List.getElem_toArray, List.getElem_cons_succ, List.getElem_cons_zero, List.setIfInBounds_toArray, List.set_cons_zero, List.set_cons_succ]
      refine wpAnyH_ready (rs := [10]) (by kernel_rfl) (by simp) ?_
      refine AllReadyH.cons (by rfl) (fun K hK => ?_) AllReadyH.nil
      refine step_store_big HI2.out.kg rfl (.tmp 3) (.tmp 8) (ty := 33) (l := kl (sl0 u)) rfl (by rfl) (by rfl) size30 rfl (kl_one _) ?_
      have HI3 := Lib.hid (HI2.out.setg (v := sl0 u))
      generalize w2.setRow g (kl (sl0 u)).toArray = w3 at HI3 ⊢
      refine hK.out _ _ HI3.out.bk.bk (fun hHeld => ?_)
      clear hK K
      try simp only [Act.put, List.getElem_toArray, List.getElem_cons_succ, List.getElem_cons_zero]
      refine wpAnyH_ready (rs := [11]) (by kernel_rfl) (by simp) ?_
      refine AllReadyH.cons (by rfl) (fun K hK => ?_) AllReadyH.nil
      refine step_store_big HI3.out.kh rfl (.tmp 4) (.tmp 12) (ty := 33) (l := kl (sl1 u)) rfl (by rfl) (by rfl) size30 rfl (kl_one _) ?_
      have HI4 := Lib.hid (HI3.out.seth (v := sl1 u))
      generalize w3.setRow h (kl (sl1 u)).toArray = w4 at HI4 ⊢
      refine hK.out _ _ HI4.out.bk.bk (fun hHeld => ?_)
      clear hK K
      try simp only [Act.put, List.getElem_toArray, List.getElem_cons_succ, List.getElem_cons_zero]
      refine wpAnyH_done (by kernel_rfl) ?_ _
      refine OnlyN.normal ?_
      exact ⟨g, h, rfl, rfl, HI4.out⟩
    · refine step_alloc30 rfl (by rfl) ?_
      intro h w1 hg hw
      have HB1 : Hid (Below w.heap.size w w1) := Lib.hid (by subst hw; exact (below_drew HB0.out).alloc HB0.out.size _)
      have HK1 : Hid (Blk w1 w.heap.size 78 (bkc p x u).toArray) := Lib.hid (by subst hw; exact Blk.alloc HK0.out.drew _)
      have HG1 : Hid (Blk w1 h 33 (kl zk).toArray) := Lib.hid (by subst hw hg; exact Blk.new _ _ _)
      have HE1 : Hid (w.heap.size < h) := Lib.hid (by have h1 := HK0.out.lt; subst hg; exact h1)
      clear hg hw hHeld
      refine hK.out _ _ HK1.out.bk (fun hHeld => ?_)
      clear hK K
      try simp only [Act.put, List.getElem_toArray, List.getElem_cons_succ, List.getElem_cons_zero, List.setIfInBounds_toArray, List.set_cons_zero, List.set_cons_succ]
      refine wpAnyH_ready (rs := [8]) (by kernel_rfl) (by simp) ?_
      refine AllReadyH.cons (by rfl) (fun K hK => ?_) AllReadyH.nil
      refine step_alloc30 rfl (by rfl) ?_
      intro g w2 hg hw
      have HI2 : Hid (Iw w w2 p x u g h zk zk) := Lib.hid (by subst hw hg; exact ⟨HB1.out.alloc HB1.out.size _, HK1.out.alloc _, Blk.new _ _ _, HG1.out.alloc _, HK1.out.lt, HE1.out, fun e => by have := HG1.out.lt; omega⟩)
      clear hg hw hHeld
      refine hK.out _ _ HI2.out.bk.bk (fun hHeld => ?_)
      clear hK K
      try simp only [Act.put, List.getElem_toArray, List.getElem_cons_succ, List.getElem_cons_zero, List.setIfInBounds_toArray, List.set_cons_zero, List.set_cons_succ]
      refine wpAnyH_ready (rs := [10]) (by kernel_rfl) (by simp) ?_
      refine AllReadyH.cons (by rfl) (fun K hK => ?_) AllReadyH.nil
      refine step_store_big HI2.out.kg rfl (.tmp 3) (.tmp 8) (ty := 33) (l := kl (sl0 u)) rfl (by rfl) (by rfl) size30 rfl (kl_one _) ?_
      have HI3 := Lib.hid (HI2.out.setg (v := sl0 u))
      generalize w2.setRow g (kl (sl0 u)).toArray = w3 at HI3 ⊢
      refine hK.out _ _ HI3.out.bk.bk (fun hHeld => ?_)
      clear hK K
      try simp only [Act.put, List.getElem_toArray, List.getElem_cons_succ, List.getElem_cons_zero]
      refine wpAnyH_ready (rs := [11]) (by kernel_rfl) (by simp) ?_
      refine AllReadyH.cons (by rfl) (fun K hK => ?_) AllReadyH.nil
      refine step_store_big HI3.out.kh rfl (.tmp 4) (.tmp 12) (ty := 33) (l := kl (sl1 u)) rfl (by rfl) (by rfl) size30 rfl (kl_one _) ?_
      have HI4 := Lib.hid (HI3.out.seth (v := sl1 u))
      generalize w3.setRow h (kl (sl1 u)).toArray = w4 at HI4 ⊢
      refine hK.out _ _ HI4.out.bk.bk (fun hHeld => ?_)
      clear hK K
      try simp only [Act.put, List.getElem_toArray, List.getElem_cons_succ, List.getElem_cons_zero]
      refine wpAnyH_done (by kernel_rfl) ?_ _
      refine OnlyN.normal ?_
      exact ⟨g, h, rfl, rfl, HI4.out⟩
  intro g h W hi
  have HI := Lib.hid hi
  clear hi
  obtain ⟨g0, g1, g2, g3, g4, g5⟩ := HI.out.kg.six
  obtain ⟨h0, h1, h2, h3, h4, h5⟩ := HI.out.kh.six
  have hst := HI.out.bk.bk.st
  simp only [Act.put, List.setIfInBounds_toArray, List.set_cons_zero, List.set_cons_succ]
  go_wp2_with fail
  go_ret
  exact ⟨rfl, HI.out.bel⟩
set_option maxRecDepth 100000 in
set_option maxHeartbeats 4000000 in
theorem isb_k1 (x : Int) (u : Oj) (h : (sl0 u).k = 1) (h1 : (sl1 u).k ≠ 1) : Calls Tryd.prog 69 #[bkv p x u] w fun e w' => e = .returned (.bool false) ∧ Below w.heap.size w w' := by
  have hbl := bkc_len p x u
  have HK0 := Lib.hid (Blk.new w 78 (bkc p x u).toArray)
  have HB0 := Lib.hid ((Below.refl w.heap.size w).alloc (Nat.le_refl _) (.cells (bkc p x u).toArray 78))
  have d0 : ((sl0 u).k != 1) = false := by simpa using h
  have d1 : ((sl1 u).k != 1) = true := by simpa using h1
  clear h h1
  go_enter Tryd.func69, Tryd.ntmps69
  go_wp2_with fail
  refine region_twoB (fun ac g h => ((((((((((ac.put (some 5) (.pointer (some ⟨w.heap.size, 0, none⟩))).put (some 6) (.pointer (some ⟨w.heap.size, 3, none⟩))).put (some 7) (.pointer (some ⟨w.heap.size, 3, none⟩))).put (some 8) (sl0 u).val).put (some 9) (.pointer (some ⟨w.heap.size, 0, none⟩))).put (some 10) (.pointer (some ⟨w.heap.size, 3, none⟩))).put (some 11) (.pointer (some ⟨w.heap.size, 9, none⟩))).put (some 12) (sl1 u).val).put (some 3) (.pointer (some ⟨g, 0, none⟩))).put (some 4) (.pointer (some ⟨h, 0, none⟩)))) (fun g h W => Iw w W p x u g h (sl0 u) (sl1 u)) ?mkTwo ?mkRest
  case mkTwo =>
    refine wp_region_only (S := fun w' => BkAt w' w.heap.size 0 p x u) (by kernel_rfl) HK0.out.drew.bk (fun hHeld => ?_)
    refine wpAnyH_take (i := 0) (v := ?v7) rfl (by kernel_rfl) (by kernel_rfl) (by kernel_rfl) (fun _ _ _ h => h) (Or.inl ⟨by rfl, ?hy7⟩) hHeld ?rest7
    case hy7 =>
      intro w' hSw
      try dsimp only at hSw
      go_simp
      first | done | with_reducible rfl
    try simp only [Act.put, List.getElem_toArray, List.getElem_cons_zero, List.setIfInBounds_toArray, List.set_cons_zero, List.set_cons_succ]
    refine wpAnyH_take (i := 1) (v := ?v8) rfl (by kernel_rfl) (by kernel_rfl) (by kernel_rfl) (fun _ _ _ h => h) (Or.inl ⟨by rfl, ?hy8⟩) hHeld ?rest8
    case hy8 =>
      intro w' hSw
      try dsimp only at hSw
      go_simp
      first | done | with_reducible rfl
    try simp only [Act.put, List.getElem_toArray, List.getElem_cons_succ, List.getElem_cons_zero, List.setIfInBounds_toArray, List.set_cons_zero, List.set_cons_succ]
    refine wpAnyH_take (i := 2) (v := ?v9) rfl (by kernel_rfl) (by kernel_rfl) (by kernel_rfl) (fun _ _ _ h => h) (Or.inl ⟨by rfl, ?hy9⟩) hHeld ?rest9
    case hy9 =>
      intro w' hSw
      try dsimp only at hSw
      go_simp
      first | done | with_reducible rfl
    try simp only [Act.put, List.getElem_toArray, List.getElem_cons_succ, List.getElem_cons_zero, List.setIfInBounds_toArray, List.set_cons_zero, List.set_cons_succ]
    refine wpAnyH_take (i := 3) rfl (by kernel_rfl) (by kernel_rfl) (by kernel_rfl) (fun _ _ _ h => h) (y_kyB (by rfl) (.tmp 7) (by rfl) w.heap.size 3 (by rfl) (sl0 u) (fun _ h => h.s0)) hHeld ?_
    try simp only [Act.put, List.getElem_toArray, List.getElem_cons_succ, List.getElem_cons_zero, List.setIfInBounds_toArray, List.set_cons_zero, List.set_cons_succ]
    refine wpAnyH_take (i := 4) (v := ?v10) rfl (by kernel_rfl) (by kernel_rfl) (by kernel_rfl) (fun _ _ _ h => h) (Or.inl ⟨by rfl, ?hy10⟩) hHeld ?rest10
    case hy10 =>
      intro w' hSw
      try dsimp only at hSw
      go_simp
      first | done | with_reducible rfl
    try simp only [Act.put, List.getElem_toArray, List.getElem_cons_succ, List.getElem_cons_zero, List.setIfInBounds_toArray, List.set_cons_zero, List.set_cons_succ]
    refine wpAnyH_take (i := 5) (v := ?v11) rfl (by kernel_rfl) (by kernel_rfl) (by kernel_rfl) (fun _ _ _ h => h) (Or.inl ⟨by rfl, ?hy11⟩) hHeld ?rest11
    case hy11 =>
      intro w' hSw
      try dsimp only at hSw
      go_simp
      first | done | with_reducible rfl
    try simp only [Act.put, List.getElem_toArray, List.getElem_cons_succ, List.getElem_cons_zero, List.setIfInBounds_toArray, List.set_cons_zero, List.set_cons_succ]
    refine wpAnyH_take (i := 6) (v := ?v12) rfl (by kernel_rfl) (by kernel_rfl) (by kernel_rfl) (fun _ _ _ h => h) (Or.inl ⟨by rfl, ?hy12⟩) hHeld ?rest12
    case hy12 =>
      intro w' hSw
      try dsimp only at hSw
      go_simp
      first | done | with_reducible rfl
    try simp only [Act.put, List.getElem_toArray, List.getElem_cons_succ, List.getElem_cons_zero, List.setIfInBounds_toArray, List.set_cons_zero, List.set_cons_succ]
    refine wpAnyH_take (i := 7) rfl (by kernel_rfl) (by kernel_rfl) (by kernel_rfl) (fun _ _ _ h => h) (y_kyB (by rfl) (.tmp 11) (by rfl) w.heap.size 9 (by rfl) (sl1 u) (fun _ h => h.s1)) hHeld ?_
    try simp only [Act.put, List.getElem_toArray, List.getElem_cons_succ, List.getElem_cons_zero, List.setIfInBounds_toArray, List.set_cons_zero, List.set_cons_succ]
    refine wpAnyH_ready (rs := [8, 9]) (by kernel_rfl) (by simp) ?_
    refine AllReadyH.cons (by rfl) (fun K hK => ?_) (AllReadyH.cons (by rfl) (fun K hK => ?_) AllReadyH.nil)
    · refine step_alloc30 rfl (by rfl) ?_
      intro g w1 hg hw
      have HB1 : Hid (Below w.heap.size w w1) := Lib.hid (by subst hw; exact (below_drew HB0.out).alloc HB0.out.size _)
      have HK1 : Hid (Blk w1 w.heap.size 78 (bkc p x u).toArray) := Lib.hid (by subst hw; exact Blk.alloc HK0.out.drew _)
      have HG1 : Hid (Blk w1 g 33 (kl zk).toArray) := Lib.hid (by subst hw hg; exact Blk.new _ _ _)
      have HE1 : Hid (w.heap.size < g) := Lib.hid (by have h1 := HK0.out.lt; subst hg; exact h1)
      clear hg hw hHeld
      refine hK.out _ _ HK1.out.bk (fun hHeld => ?_)
      clear hK K
      try simp only [Act.put, List.getElem_toArray, List.getElem_cons_succ, List.getElem_cons_zero, List.setIfInBounds_toArray, List.set_cons_zero, List.set_cons_succ]
      refine wpAnyH_ready (rs := [9]) (by kernel_rfl) (by simp) ?_
      refine AllReadyH.cons (by rfl) (fun K hK => ?_) AllReadyH.nil
      refine step_alloc30 rfl (by rfl) ?_
      intro h w2 hg hw
      have HI2 : Hid (Iw w w2 p x u g h zk zk) := Lib.hid (by subst hw hg; exact ⟨HB1.out.alloc HB1.out.size _, HK1.out.alloc _, HG1.out.alloc _, Blk.new _ _ _, HE1.out, HK1.out.lt, fun e => by have := HG1.out.lt; omega⟩)
      clear hg hw hHeld
      refine hK.out _ _ HI2.out.bk.bk (fun hHeld => ?_)
      clear hK K
      try simp only [Act.put, List.getElem_toArray, List.getElem_cons_succ, List.getElem_cons_zero, List.setIfInBounds_toArray, List.set_cons_zero, List.set_cons_succ]
      refine wpAnyH_ready (rs := [10]) (by kernel_rfl) (by simp) ?_
      refine AllReadyH.cons (by rfl) (fun K hK => ?_) AllReadyH.nil
      refine step_store_big HI2.out.kg rfl (.tmp 3) (.tmp 8) (ty := 33) (l := kl (sl0 u)) rfl (by rfl) (by rfl) size30 rfl (kl_one _) ?_
      have HI3 := Lib.hid (HI2.out.setg (v := sl0 u))
      generalize w2.setRow g (kl (sl0 u)).toArray = w3 at HI3 ⊢
      refine hK.out _ _ HI3.out.bk.bk (fun hHeld => ?_)
      clear hK K
      try simp only [Act.put, List.getElem_toArray, List.getElem_cons_succ, List.getElem_cons_zero]
      refine wpAnyH_ready (rs := [11]) (by kernel_rfl) (by simp) ?_
      refine AllReadyH.cons (by rfl) (fun K hK => ?_) AllReadyH.nil
      refine step_store_big HI3.out.kh rfl (.tmp 4) (.tmp 12) (ty := 33) (l := kl (sl1 u)) rfl (by rfl) (by rfl) size30 rfl (kl_one _) ?_
      have HI4 := Lib.hid (HI3.out.seth (v := sl1 u))
      generalize w3.setRow h (kl (sl1 u)).toArray = w4 at HI4 ⊢
      refine hK.out _ _ HI4.out.bk.bk (fun hHeld => ?_)
      clear hK K
      try simp only [Act.put, List.getElem_toArray, List.getElem_cons_succ, List.getElem_cons_zero]
      refine wpAnyH_done (by kernel_rfl) ?_ _
      refine OnlyN.normal ?_
      exact ⟨g, h, rfl, rfl, HI4.out⟩
    · refine step_alloc30 rfl (by rfl) ?_
      intro h w1 hg hw
      have HB1 : Hid (Below w.heap.size w w1) := Lib.hid (by subst hw; exact (below_drew HB0.out).alloc HB0.out.size _)
      have HK1 : Hid (Blk w1 w.heap.size 78 (bkc p x u).toArray) := Lib.hid (by subst hw; exact Blk.alloc HK0.out.drew _)
      have HG1 : Hid (Blk w1 h 33 (kl zk).toArray) := Lib.hid (by subst hw hg; exact Blk.new _ _ _)
      have HE1 : Hid (w.heap.size < h) := Lib.hid (by have h1 := HK0.out.lt; subst hg; exact h1)
      clear hg hw hHeld
      refine hK.out _ _ HK1.out.bk (fun hHeld => ?_)
      clear hK K
      try simp only [Act.put, List.getElem_toArray, List.getElem_cons_succ, List.getElem_cons_zero, List.setIfInBounds_toArray, List.set_cons_zero, List.set_cons_succ]
      refine wpAnyH_ready (rs := [8]) (by kernel_rfl) (by simp) ?_
      refine AllReadyH.cons (by rfl) (fun K hK => ?_) AllReadyH.nil
      refine step_alloc30 rfl (by rfl) ?_
      intro g w2 hg hw
      have HI2 : Hid (Iw w w2 p x u g h zk zk) := Lib.hid (by subst hw hg; exact ⟨HB1.out.alloc HB1.out.size _, HK1.out.alloc _, Blk.new _ _ _, HG1.out.alloc _, HK1.out.lt, HE1.out, fun e => by have := HG1.out.lt; omega⟩)
      clear hg hw hHeld
      refine hK.out _ _ HI2.out.bk.bk (fun hHeld => ?_)
      clear hK K
      try simp only [Act.put, List.getElem_toArray, List.getElem_cons_succ, List.getElem_cons_zero, List.setIfInBounds_toArray, List.set_cons_zero, List.set_cons_succ]
      refine wpAnyH_ready (rs := [10]) (by kernel_rfl) (by simp) ?_
      refine AllReadyH.cons (by rfl) (fun K hK => ?_) AllReadyH.nil
      refine step_store_big HI2.out.kg rfl (.tmp 3) (.tmp 8) (ty := 33) (l := kl (sl0 u)) rfl (by rfl) (by rfl) size30 rfl (kl_one _) ?_
      have HI3 := Lib.hid (HI2.out.setg (v := sl0 u))
      generalize w2.setRow g (kl (sl0 u)).toArray = w3 at HI3 ⊢
      refine hK.out _ _ HI3.out.bk.bk (fun hHeld => ?_)
      clear hK K
      try simp only [Act.put, List.getElem_toArray, List.getElem_cons_succ, List.getElem_cons_zero]
      refine wpAnyH_ready (rs := [11]) (by kernel_rfl) (by simp) ?_
      refine AllReadyH.cons (by rfl) (fun K hK => ?_) AllReadyH.nil
      refine step_store_big HI3.out.kh rfl (.tmp 4) (.tmp 12) (ty := 33) (l := kl (sl1 u)) rfl (by rfl) (by rfl) size30 rfl (kl_one _) ?_
      have HI4 := Lib.hid (HI3.out.seth (v := sl1 u))
      generalize w3.setRow h (kl (sl1 u)).toArray = w4 at HI4 ⊢
      refine hK.out _ _ HI4.out.bk.bk (fun hHeld => ?_)
      clear hK K
      try simp only [Act.put, List.getElem_toArray, List.getElem_cons_succ, List.getElem_cons_zero]
      refine wpAnyH_done (by kernel_rfl) ?_ _
      refine OnlyN.normal ?_
      exact ⟨g, h, rfl, rfl, HI4.out⟩
  intro g h W hi
  have HI := Lib.hid hi
  clear hi
  obtain ⟨g0, g1, g2, g3, g4, g5⟩ := HI.out.kg.six
  obtain ⟨h0, h1, h2, h3, h4, h5⟩ := HI.out.kh.six
  have hst := HI.out.bk.bk.st
  simp only [Act.put, List.setIfInBounds_toArray, List.set_cons_zero, List.set_cons_succ]
  go_wp2_with fail
  go_ret
  exact ⟨rfl, HI.out.bel⟩
set_option maxRecDepth 100000 in
set_option maxHeartbeats 4000000 in
theorem isb_neg (x : Int) (u : Oj) (h : (sl0 u).k = 1) (h1 : (sl1 u).k = 1) (h2 : ¬ 0 ≤ (sl0 u).v) : Calls Tryd.prog 69 #[bkv p x u] w fun e w' => e = .returned (.bool false) ∧ Below w.heap.size w w' := by
  have hbl := bkc_len p x u
  have HK0 := Lib.hid (Blk.new w 78 (bkc p x u).toArray)
  have HB0 := Lib.hid ((Below.refl w.heap.size w).alloc (Nat.le_refl _) (.cells (bkc p x u).toArray 78))
  have d0 : ((sl0 u).k != 1) = false := by simpa using h
  have d1 : ((sl1 u).k != 1) = false := by simpa using h1
  have d2 : decide (0 ≤ (sl0 u).v) = false := decide_eq_false h2
  clear h h1 h2
  go_enter Tryd.func69, Tryd.ntmps69
  go_wp2_with fail
  refine region_twoB (fun ac g h => ((((((((((ac.put (some 5) (.pointer (some ⟨w.heap.size, 0, none⟩))).put (some 6) (.pointer (some ⟨w.heap.size, 3, none⟩))).put (some 7) (.pointer (some ⟨w.heap.size, 3, none⟩))).put (some 8) (sl0 u).val).put (some 9) (.pointer (some ⟨w.heap.size, 0, none⟩))).put (some 10) (.pointer (some ⟨w.heap.size, 3, none⟩))).put (some 11) (.pointer (some ⟨w.heap.size, 9, none⟩))).put (some 12) (sl1 u).val).put (some 3) (.pointer (some ⟨g, 0, none⟩))).put (some 4) (.pointer (some ⟨h, 0, none⟩)))) (fun g h W => Iw w W p x u g h (sl0 u) (sl1 u)) ?mkTwo ?mkRest
  case mkTwo =>
    refine wp_region_only (S := fun w' => BkAt w' w.heap.size 0 p x u) (by kernel_rfl) HK0.out.drew.bk (fun hHeld => ?_)
    refine wpAnyH_take (i := 0) (v := ?v13) rfl (by kernel_rfl) (by kernel_rfl) (by kernel_rfl) (fun _ _ _ h => h) (Or.inl ⟨by rfl, ?hy13⟩) hHeld ?rest13
    case hy13 =>
      intro w' hSw
      try dsimp only at hSw
      go_simp
      first | done | with_reducible rfl
    try simp only [Act.put, List.getElem_toArray, List.getElem_cons_zero, List.setIfInBounds_toArray, List.set_cons_zero, List.set_cons_succ]
    refine wpAnyH_take (i := 1) (v := ?v14) rfl (by kernel_rfl) (by kernel_rfl) (by kernel_rfl) (fun _ _ _ h => h) (Or.inl ⟨by rfl, ?hy14⟩) hHeld ?rest14
    case hy14 =>
      intro w' hSw
      try dsimp only at hSw
      go_simp
      first | done | with_reducible rfl
    try simp only [Act.put, List.getElem_toArray, List.getElem_cons_succ, List.getElem_cons_zero, List.setIfInBounds_toArray, List.set_cons_zero, List.set_cons_succ]
    refine wpAnyH_take (i := 2) (v := ?v15) rfl (by kernel_rfl) (by kernel_rfl) (by kernel_rfl) (fun _ _ _ h => h) (Or.inl ⟨by rfl, ?hy15⟩) hHeld ?rest15
    case hy15 =>
      intro w' hSw
      try dsimp only at hSw
      go_simp
      first | done | with_reducible rfl
    try simp only [Act.put, List.getElem_toArray, List.getElem_cons_succ, List.getElem_cons_zero, List.setIfInBounds_toArray, List.set_cons_zero, List.set_cons_succ]
    refine wpAnyH_take (i := 3) rfl (by kernel_rfl) (by kernel_rfl) (by kernel_rfl) (fun _ _ _ h => h) (y_kyB (by rfl) (.tmp 7) (by rfl) w.heap.size 3 (by rfl) (sl0 u) (fun _ h => h.s0)) hHeld ?_
    try simp only [Act.put, List.getElem_toArray, List.getElem_cons_succ, List.getElem_cons_zero, List.setIfInBounds_toArray, List.set_cons_zero, List.set_cons_succ]
    refine wpAnyH_take (i := 4) (v := ?v16) rfl (by kernel_rfl) (by kernel_rfl) (by kernel_rfl) (fun _ _ _ h => h) (Or.inl ⟨by rfl, ?hy16⟩) hHeld ?rest16
    case hy16 =>
      intro w' hSw
      try dsimp only at hSw
      go_simp
      first | done | with_reducible rfl
    try simp only [Act.put, List.getElem_toArray, List.getElem_cons_succ, List.getElem_cons_zero, List.setIfInBounds_toArray, List.set_cons_zero, List.set_cons_succ]
    refine wpAnyH_take (i := 5) (v := ?v17) rfl (by kernel_rfl) (by kernel_rfl) (by kernel_rfl) (fun _ _ _ h => h) (Or.inl ⟨by rfl, ?hy17⟩) hHeld ?rest17
    case hy17 =>
      intro w' hSw
      try dsimp only at hSw
      go_simp
      first | done | with_reducible rfl
    try simp only [Act.put, List.getElem_toArray, List.getElem_cons_succ, List.getElem_cons_zero, List.setIfInBounds_toArray, List.set_cons_zero, List.set_cons_succ]
    refine wpAnyH_take (i := 6) (v := ?v18) rfl (by kernel_rfl) (by kernel_rfl) (by kernel_rfl) (fun _ _ _ h => h) (Or.inl ⟨by rfl, ?hy18⟩) hHeld ?rest18
    case hy18 =>
      intro w' hSw
      try dsimp only at hSw
      go_simp
      first | done | with_reducible rfl
    try simp only [Act.put, List.getElem_toArray, List.getElem_cons_succ, List.getElem_cons_zero, List.setIfInBounds_toArray, List.set_cons_zero, List.set_cons_succ]
    refine wpAnyH_take (i := 7) rfl (by kernel_rfl) (by kernel_rfl) (by kernel_rfl) (fun _ _ _ h => h) (y_kyB (by rfl) (.tmp 11) (by rfl) w.heap.size 9 (by rfl) (sl1 u) (fun _ h => h.s1)) hHeld ?_
    try simp only [Act.put, List.getElem_toArray, List.getElem_cons_succ, List.getElem_cons_zero, List.setIfInBounds_toArray, List.set_cons_zero, List.set_cons_succ]
    refine wpAnyH_ready (rs := [8, 9]) (by kernel_rfl) (by simp) ?_
    refine AllReadyH.cons (by rfl) (fun K hK => ?_) (AllReadyH.cons (by rfl) (fun K hK => ?_) AllReadyH.nil)
    · refine step_alloc30 rfl (by rfl) ?_
      intro g w1 hg hw
      have HB1 : Hid (Below w.heap.size w w1) := Lib.hid (by subst hw; exact (below_drew HB0.out).alloc HB0.out.size _)
      have HK1 : Hid (Blk w1 w.heap.size 78 (bkc p x u).toArray) := Lib.hid (by subst hw; exact Blk.alloc HK0.out.drew _)
      have HG1 : Hid (Blk w1 g 33 (kl zk).toArray) := Lib.hid (by subst hw hg; exact Blk.new _ _ _)
      have HE1 : Hid (w.heap.size < g) := Lib.hid (by have h1 := HK0.out.lt; subst hg; exact h1)
      clear hg hw hHeld
      refine hK.out _ _ HK1.out.bk (fun hHeld => ?_)
      clear hK K
      try simp only [Act.put, List.getElem_toArray, List.getElem_cons_succ, List.getElem_cons_zero, List.setIfInBounds_toArray, List.set_cons_zero, List.set_cons_succ]
      refine wpAnyH_ready (rs := [9]) (by kernel_rfl) (by simp) ?_
      refine AllReadyH.cons (by rfl) (fun K hK => ?_) AllReadyH.nil
      refine step_alloc30 rfl (by rfl) ?_
      intro h w2 hg hw
      have HI2 : Hid (Iw w w2 p x u g h zk zk) := Lib.hid (by subst hw hg; exact ⟨HB1.out.alloc HB1.out.size _, HK1.out.alloc _, HG1.out.alloc _, Blk.new _ _ _, HE1.out, HK1.out.lt, fun e => by have := HG1.out.lt; omega⟩)
      clear hg hw hHeld
      refine hK.out _ _ HI2.out.bk.bk (fun hHeld => ?_)
      clear hK K
      try simp only [Act.put, List.getElem_toArray, List.getElem_cons_succ, List.getElem_cons_zero, List.setIfInBounds_toArray, List.set_cons_zero, List.set_cons_succ]
      refine wpAnyH_ready (rs := [10]) (by kernel_rfl) (by simp) ?_
      refine AllReadyH.cons (by rfl) (fun K hK => ?_) AllReadyH.nil
      refine step_store_big HI2.out.kg rfl (.tmp 3) (.tmp 8) (ty := 33) (l := kl (sl0 u)) rfl (by rfl) (by rfl) size30 rfl (kl_one _) ?_
      have HI3 := Lib.hid (HI2.out.setg (v := sl0 u))
      generalize w2.setRow g (kl (sl0 u)).toArray = w3 at HI3 ⊢
      refine hK.out _ _ HI3.out.bk.bk (fun hHeld => ?_)
      clear hK K
      try simp only [Act.put, List.getElem_toArray, List.getElem_cons_succ, List.getElem_cons_zero]
      refine wpAnyH_ready (rs := [11]) (by kernel_rfl) (by simp) ?_
      refine AllReadyH.cons (by rfl) (fun K hK => ?_) AllReadyH.nil
      refine step_store_big HI3.out.kh rfl (.tmp 4) (.tmp 12) (ty := 33) (l := kl (sl1 u)) rfl (by rfl) (by rfl) size30 rfl (kl_one _) ?_
      have HI4 := Lib.hid (HI3.out.seth (v := sl1 u))
      generalize w3.setRow h (kl (sl1 u)).toArray = w4 at HI4 ⊢
      refine hK.out _ _ HI4.out.bk.bk (fun hHeld => ?_)
      clear hK K
      try simp only [Act.put, List.getElem_toArray, List.getElem_cons_succ, List.getElem_cons_zero]
      refine wpAnyH_done (by kernel_rfl) ?_ _
      refine OnlyN.normal ?_
      exact ⟨g, h, rfl, rfl, HI4.out⟩
    · refine step_alloc30 rfl (by rfl) ?_
      intro h w1 hg hw
      have HB1 : Hid (Below w.heap.size w w1) := Lib.hid (by subst hw; exact (below_drew HB0.out).alloc HB0.out.size _)
      have HK1 : Hid (Blk w1 w.heap.size 78 (bkc p x u).toArray) := Lib.hid (by subst hw; exact Blk.alloc HK0.out.drew _)
      have HG1 : Hid (Blk w1 h 33 (kl zk).toArray) := Lib.hid (by subst hw hg; exact Blk.new _ _ _)
      have HE1 : Hid (w.heap.size < h) := Lib.hid (by have h1 := HK0.out.lt; subst hg; exact h1)
      clear hg hw hHeld
      refine hK.out _ _ HK1.out.bk (fun hHeld => ?_)
      clear hK K
      try simp only [Act.put, List.getElem_toArray, List.getElem_cons_succ, List.getElem_cons_zero, List.setIfInBounds_toArray, List.set_cons_zero, List.set_cons_succ]
      refine wpAnyH_ready (rs := [8]) (by kernel_rfl) (by simp) ?_
      refine AllReadyH.cons (by rfl) (fun K hK => ?_) AllReadyH.nil
      refine step_alloc30 rfl (by rfl) ?_
      intro g w2 hg hw
      have HI2 : Hid (Iw w w2 p x u g h zk zk) := Lib.hid (by subst hw hg; exact ⟨HB1.out.alloc HB1.out.size _, HK1.out.alloc _, Blk.new _ _ _, HG1.out.alloc _, HK1.out.lt, HE1.out, fun e => by have := HG1.out.lt; omega⟩)
      clear hg hw hHeld
      refine hK.out _ _ HI2.out.bk.bk (fun hHeld => ?_)
      clear hK K
      try simp only [Act.put, List.getElem_toArray, List.getElem_cons_succ, List.getElem_cons_zero, List.setIfInBounds_toArray, List.set_cons_zero, List.set_cons_succ]
      refine wpAnyH_ready (rs := [10]) (by kernel_rfl) (by simp) ?_
      refine AllReadyH.cons (by rfl) (fun K hK => ?_) AllReadyH.nil
      refine step_store_big HI2.out.kg rfl (.tmp 3) (.tmp 8) (ty := 33) (l := kl (sl0 u)) rfl (by rfl) (by rfl) size30 rfl (kl_one _) ?_
      have HI3 := Lib.hid (HI2.out.setg (v := sl0 u))
      generalize w2.setRow g (kl (sl0 u)).toArray = w3 at HI3 ⊢
      refine hK.out _ _ HI3.out.bk.bk (fun hHeld => ?_)
      clear hK K
      try simp only [Act.put, List.getElem_toArray, List.getElem_cons_succ, List.getElem_cons_zero]
      refine wpAnyH_ready (rs := [11]) (by kernel_rfl) (by simp) ?_
      refine AllReadyH.cons (by rfl) (fun K hK => ?_) AllReadyH.nil
      refine step_store_big HI3.out.kh rfl (.tmp 4) (.tmp 12) (ty := 33) (l := kl (sl1 u)) rfl (by rfl) (by rfl) size30 rfl (kl_one _) ?_
      have HI4 := Lib.hid (HI3.out.seth (v := sl1 u))
      generalize w3.setRow h (kl (sl1 u)).toArray = w4 at HI4 ⊢
      refine hK.out _ _ HI4.out.bk.bk (fun hHeld => ?_)
      clear hK K
      try simp only [Act.put, List.getElem_toArray, List.getElem_cons_succ, List.getElem_cons_zero]
      refine wpAnyH_done (by kernel_rfl) ?_ _
      refine OnlyN.normal ?_
      exact ⟨g, h, rfl, rfl, HI4.out⟩
  intro g h W hi
  have HI := Lib.hid hi
  clear hi
  obtain ⟨g0, g1, g2, g3, g4, g5⟩ := HI.out.kg.six
  obtain ⟨h0, h1, h2, h3, h4, h5⟩ := HI.out.kh.six
  have hst := HI.out.bk.bk.st
  simp only [Act.put, List.setIfInBounds_toArray, List.set_cons_zero, List.set_cons_succ]
  go_wp2_with fail
  refine wp_region_only (S := fun w' => w'.cell? ⟨g, 5, none⟩ = some (.int .i64 (sl0 u).v) ∧ w'.cell? ⟨h, 5, none⟩ = some (.int .i64 (sl1 u).v) ∧ w'.cell? ⟨w.heap.size, 164, none⟩ = some (pv p)) (by kernel_rfl) ⟨g5, h5, by simpa using hst⟩ (fun hHeld => ?_)
  refine wpAnyH_take (i := 0) (v := ?v19) rfl (by kernel_rfl) (by kernel_rfl) (by kernel_rfl) (fun _ _ _ h => h) (Or.inl ⟨by rfl, ?hy19⟩) hHeld ?rest19
  case hy19 =>
    intro w' hSw
    try dsimp only at hSw
    go_simp
    first | done | with_reducible rfl
  try simp only [Act.put, List.getElem_toArray, List.getElem_cons_zero, List.setIfInBounds_toArray, List.set_cons_zero, List.set_cons_succ]
  refine wpAnyH_take (i := 1) (v := ?v20) rfl (by kernel_rfl) (by kernel_rfl) (by kernel_rfl) (fun _ _ _ h => h) (Or.inl ⟨by rfl, ?hy20⟩) hHeld ?rest20
  case hy20 =>
    intro w' hSw
    try dsimp only at hSw
    go_simp
    first | done | with_reducible rfl
  try simp only [Act.put, List.getElem_toArray, List.getElem_cons_succ, List.getElem_cons_zero, List.setIfInBounds_toArray, List.set_cons_zero, List.set_cons_succ]
  refine wpAnyH_take (i := 2) (v := ?v21) rfl (by kernel_rfl) (by kernel_rfl) (by kernel_rfl) (fun _ _ _ h => h) (Or.inl ⟨by rfl, ?hy21⟩) hHeld ?rest21
  case hy21 =>
    intro w' hSw
    try dsimp only at hSw
    go_simp
    first | done | with_reducible rfl
  try simp only [Act.put, List.getElem_toArray, List.getElem_cons_succ, List.getElem_cons_zero, List.setIfInBounds_toArray, List.set_cons_zero, List.set_cons_succ]
  refine wpAnyH_take (i := 3) (v := ?v22) rfl (by kernel_rfl) (by kernel_rfl) (by kernel_rfl) (fun _ _ _ h => h) (Or.inl ⟨by rfl, ?hy22⟩) hHeld ?rest22
  case hy22 =>
    intro w' hSw
    try dsimp only at hSw
    go_simp
    first | done | with_reducible rfl
  try simp only [Act.put, List.getElem_toArray, List.getElem_cons_succ, List.getElem_cons_zero, List.setIfInBounds_toArray, List.set_cons_zero, List.set_cons_succ]
  refine wpAnyH_take (i := 4) (v := undef) rfl (by kernel_rfl) (by kernel_rfl) (by kernel_rfl) (fun _ _ _ h => h) (Or.inr ⟨by rfl, rfl⟩) hHeld ?_
  try simp only [Act.put, List.getElem_toArray, List.getElem_cons_succ, List.getElem_cons_zero, List.setIfInBounds_toArray, List.set_cons_zero, List.set_cons_succ]
  refine wpAnyH_take (i := 5) (v := undef) rfl (by kernel_rfl) (by kernel_rfl) (by kernel_rfl) (fun _ _ _ h => h) (Or.inr ⟨by rfl, rfl⟩) hHeld ?_
  try simp only [Act.put, List.getElem_toArray, List.getElem_cons_succ, List.getElem_cons_zero, List.setIfInBounds_toArray, List.set_cons_zero, List.set_cons_succ]
  refine wpAnyH_take (i := 6) (v := undef) rfl (by kernel_rfl) (by kernel_rfl) (by kernel_rfl) (fun _ _ _ h => h) (Or.inr ⟨by rfl, rfl⟩) hHeld ?_
  try simp only [Act.put, List.getElem_toArray, List.getElem_cons_succ, List.getElem_cons_zero, List.setIfInBounds_toArray, List.set_cons_zero, List.set_cons_succ]
  refine wpAnyH_take (i := 7) (v := undef) rfl (by kernel_rfl) (by kernel_rfl) (by kernel_rfl) (fun _ _ _ h => h) (Or.inr ⟨by rfl, rfl⟩) hHeld ?_
  try simp only [Act.put, List.getElem_toArray, List.getElem_cons_succ, List.getElem_cons_zero, List.setIfInBounds_toArray, List.set_cons_zero, List.set_cons_succ]
  refine wpAnyH_take (i := 8) (v := undef) rfl (by kernel_rfl) (by kernel_rfl) (by kernel_rfl) (fun _ _ _ h => h) (Or.inr ⟨by rfl, rfl⟩) hHeld ?_
  try simp only [Act.put, List.getElem_toArray, List.getElem_cons_succ, List.getElem_cons_zero, List.setIfInBounds_toArray, List.set_cons_zero, List.set_cons_succ]
  refine wpAnyH_take (i := 9) (v := ?v23) rfl (by kernel_rfl) (by kernel_rfl) (by kernel_rfl) (fun _ _ _ h => h) (Or.inl ⟨by rfl, ?hy23⟩) hHeld ?rest23
  case hy23 =>
    intro w' hSw
    try dsimp only at hSw
    go_simp
    first | done | with_reducible rfl
  try simp only [Act.put, List.getElem_toArray, List.getElem_cons_succ, List.getElem_cons_zero, List.setIfInBounds_toArray, List.set_cons_zero, List.set_cons_succ]
  refine wpAnyH_take (i := 10) (v := ?v24) rfl (by kernel_rfl) (by kernel_rfl) (by kernel_rfl) (fun _ _ _ h => h) (Or.inl ⟨by rfl, ?hy24⟩) hHeld ?rest24
  case hy24 =>
    intro w' hSw
    try dsimp only at hSw
    go_simp
    first | done | with_reducible rfl
  try simp only [Act.put, List.getElem_toArray, List.getElem_cons_succ, List.getElem_cons_zero, List.setIfInBounds_toArray, List.set_cons_zero, List.set_cons_succ]
  refine wpAnyH_take (i := 11) (v := undef) rfl (by kernel_rfl) (by kernel_rfl) (by kernel_rfl) (fun _ _ _ h => h) (Or.inr ⟨by rfl, rfl⟩) hHeld ?_
  try simp only [Act.put, List.getElem_toArray, List.getElem_cons_succ, List.getElem_cons_zero, List.setIfInBounds_toArray, List.set_cons_zero, List.set_cons_succ]
  refine wpAnyH_take (i := 12) (v := undef) rfl (by kernel_rfl) (by kernel_rfl) (by kernel_rfl) (fun _ _ _ h => h) (Or.inr ⟨by rfl, rfl⟩) hHeld ?_
  try simp only [Act.put, List.getElem_toArray, List.getElem_cons_succ, List.getElem_cons_zero, List.setIfInBounds_toArray, List.set_cons_zero, List.set_cons_succ]
  refine wpAnyH_take (i := 13) (v := undef) rfl (by kernel_rfl) (by kernel_rfl) (by kernel_rfl) (fun _ _ _ h => h) (Or.inr ⟨by rfl, rfl⟩) hHeld ?_
  try simp only [Act.put, List.getElem_toArray, List.getElem_cons_succ, List.getElem_cons_zero, List.setIfInBounds_toArray, List.set_cons_zero, List.set_cons_succ]
  refine wpAnyH_take (i := 14) (v := undef) rfl (by kernel_rfl) (by kernel_rfl) (by kernel_rfl) (fun _ _ _ h => h) (Or.inr ⟨by rfl, rfl⟩) hHeld ?_
  try simp only [Act.put, List.getElem_toArray, List.getElem_cons_succ, List.getElem_cons_zero, List.setIfInBounds_toArray, List.set_cons_zero, List.set_cons_succ]
  refine wpAnyH_take (i := 15) (v := undef) rfl (by kernel_rfl) (by kernel_rfl) (by kernel_rfl) (fun _ _ _ h => h) (Or.inr ⟨by rfl, rfl⟩) hHeld ?_
  try simp only [Act.put, List.getElem_toArray, List.getElem_cons_succ, List.getElem_cons_zero, List.setIfInBounds_toArray, List.set_cons_zero, List.set_cons_succ]
  refine wpAnyH_take (i := 16) (v := undef) rfl (by kernel_rfl) (by kernel_rfl) (by kernel_rfl) (fun _ _ _ h => h) (Or.inr ⟨by rfl, rfl⟩) hHeld ?_
  try simp only [Act.put, List.getElem_toArray, List.getElem_cons_succ, List.getElem_cons_zero, List.setIfInBounds_toArray, List.set_cons_zero, List.set_cons_succ]
  refine wpAnyH_take (i := 17) (v := ?v25) rfl (by kernel_rfl) (by kernel_rfl) (by kernel_rfl) (fun _ _ _ h => h) (Or.inl ⟨by rfl, ?hy25⟩) hHeld ?rest25
  case hy25 =>
    intro w' hSw
    try dsimp only at hSw
    go_simp
    first | done | with_reducible rfl
  try simp only [Act.put, List.getElem_toArray, List.getElem_cons_succ, List.getElem_cons_zero, List.setIfInBounds_toArray, List.set_cons_zero, List.set_cons_succ]
  refine wpAnyH_take (i := 18) (v := ?v26) rfl (by kernel_rfl) (by kernel_rfl) (by kernel_rfl) (fun _ _ _ h => h) (Or.inl ⟨by rfl, ?hy26⟩) hHeld ?rest26
  case hy26 =>
    intro w' hSw
    try dsimp only at hSw
    go_simp
    first | done | with_reducible rfl
  try simp only [Act.put, List.getElem_toArray, List.getElem_cons_succ, List.getElem_cons_zero, List.setIfInBounds_toArray, List.set_cons_zero, List.set_cons_succ]
  refine wpAnyH_done (by kernel_rfl) ?_ _
  refine OnlyN.normal ?_
  go_wp2_with fail
  go_ret
  exact ⟨rfl, below_drew HI.out.bel⟩
set_option maxRecDepth 100000 in
set_option maxHeartbeats 4000000 in
theorem isb_lss (x : Int) (u : Oj) (h : (sl0 u).k = 1) (h1 : (sl1 u).k = 1) (h2 : 0 ≤ (sl0 u).v) (h3 : ¬ (sl0 u).v ≤ (sl1 u).v) : Calls Tryd.prog 69 #[bkv p x u] w fun e w' => e = .returned (.bool false) ∧ Below w.heap.size w w' := by
  have hbl := bkc_len p x u
  have HK0 := Lib.hid (Blk.new w 78 (bkc p x u).toArray)
  have HB0 := Lib.hid ((Below.refl w.heap.size w).alloc (Nat.le_refl _) (.cells (bkc p x u).toArray 78))
  have d0 : ((sl0 u).k != 1) = false := by simpa using h
  have d1 : ((sl1 u).k != 1) = false := by simpa using h1
  have d2 : decide (0 ≤ (sl0 u).v) = true := decide_eq_true h2
  have d3 : decide ((sl0 u).v ≤ (sl1 u).v) = false := decide_eq_false h3
  clear h h1 h2 h3
  go_enter Tryd.func69, Tryd.ntmps69
  go_wp2_with fail
  refine region_twoB (fun ac g h => ((((((((((ac.put (some 5) (.pointer (some ⟨w.heap.size, 0, none⟩))).put (some 6) (.pointer (some ⟨w.heap.size, 3, none⟩))).put (some 7) (.pointer (some ⟨w.heap.size, 3, none⟩))).put (some 8) (sl0 u).val).put (some 9) (.pointer (some ⟨w.heap.size, 0, none⟩))).put (some 10) (.pointer (some ⟨w.heap.size, 3, none⟩))).put (some 11) (.pointer (some ⟨w.heap.size, 9, none⟩))).put (some 12) (sl1 u).val).put (some 3) (.pointer (some ⟨g, 0, none⟩))).put (some 4) (.pointer (some ⟨h, 0, none⟩)))) (fun g h W => Iw w W p x u g h (sl0 u) (sl1 u)) ?mkTwo ?mkRest
  case mkTwo =>
    refine wp_region_only (S := fun w' => BkAt w' w.heap.size 0 p x u) (by kernel_rfl) HK0.out.drew.bk (fun hHeld => ?_)
    refine wpAnyH_take (i := 0) (v := ?v27) rfl (by kernel_rfl) (by kernel_rfl) (by kernel_rfl) (fun _ _ _ h => h) (Or.inl ⟨by rfl, ?hy27⟩) hHeld ?rest27
    case hy27 =>
      intro w' hSw
      try dsimp only at hSw
      go_simp
      first | done | with_reducible rfl
    try simp only [Act.put, List.getElem_toArray, List.getElem_cons_zero, List.setIfInBounds_toArray, List.set_cons_zero, List.set_cons_succ]
    refine wpAnyH_take (i := 1) (v := ?v28) rfl (by kernel_rfl) (by kernel_rfl) (by kernel_rfl) (fun _ _ _ h => h) (Or.inl ⟨by rfl, ?hy28⟩) hHeld ?rest28
    case hy28 =>
      intro w' hSw
      try dsimp only at hSw
      go_simp
      first | done | with_reducible rfl
    try simp only [Act.put, List.getElem_toArray, List.getElem_cons_succ, List.getElem_cons_zero, List.setIfInBounds_toArray, List.set_cons_zero, List.set_cons_succ]
    refine wpAnyH_take (i := 2) (v := ?v29) rfl (by kernel_rfl) (by kernel_rfl) (by kernel_rfl) (fun _ _ _ h => h) (Or.inl ⟨by rfl, ?hy29⟩) hHeld ?rest29
    case hy29 =>
      intro w' hSw
      try dsimp only at hSw
      go_simp
      first | done | with_reducible rfl
    try simp only [Act.put, List.getElem_toArray, List.getElem_cons_succ, List.getElem_cons_zero, List.setIfInBounds_toArray, List.set_cons_zero, List.set_cons_succ]
    refine wpAnyH_take (i := 3) rfl (by kernel_rfl) (by kernel_rfl) (by kernel_rfl) (fun _ _ _ h => h) (y_kyB (by rfl) (.tmp 7) (by rfl) w.heap.size 3 (by rfl) (sl0 u) (fun _ h => h.s0)) hHeld ?_
    try simp only [Act.put, List.getElem_toArray, List.getElem_cons_succ, List.getElem_cons_zero, List.setIfInBounds_toArray, List.set_cons_zero, List.set_cons_succ]
    refine wpAnyH_take (i := 4) (v := ?v30) rfl (by kernel_rfl) (by kernel_rfl) (by kernel_rfl) (fun _ _ _ h => h) (Or.inl ⟨by rfl, ?hy30⟩) hHeld ?rest30
    case hy30 =>
      intro w' hSw
      try dsimp only at hSw
      go_simp
      first | done | with_reducible rfl
    try simp only [Act.put, List.getElem_toArray, List.getElem_cons_succ, List.getElem_cons_zero, List.setIfInBounds_toArray, List.set_cons_zero, List.set_cons_succ]
    refine wpAnyH_take (i := 5) (v := ?v31) rfl (by kernel_rfl) (by kernel_rfl) (by kernel_rfl) (fun _ _ _ h => h) (Or.inl ⟨by rfl, ?hy31⟩) hHeld ?rest31
    case hy31 =>
      intro w' hSw
      try dsimp only at hSw
      go_simp
      first | done | with_reducible rfl
    try simp only [Act.put, List.getElem_toArray, List.getElem_cons_succ, List.getElem_cons_zero, List.setIfInBounds_toArray, List.set_cons_zero, List.set_cons_succ]
    refine wpAnyH_take (i := 6) (v := ?v32) rfl (by kernel_rfl) (by kernel_rfl) (by kernel_rfl) (fun _ _ _ h => h) (Or.inl ⟨by rfl, ?hy32⟩) hHeld ?rest32
    case hy32 =>
      intro w' hSw
      try dsimp only at hSw
      go_simp
      first | done | with_reducible rfl
    try simp only [Act.put, List.getElem_toArray, List.getElem_cons_succ, List.getElem_cons_zero, List.setIfInBounds_toArray, List.set_cons_zero, List.set_cons_succ]
    refine wpAnyH_take (i := 7) rfl (by kernel_rfl) (by kernel_rfl) (by kernel_rfl) (fun _ _ _ h => h) (y_kyB (by rfl) (.tmp 11) (by rfl) w.heap.size 9 (by rfl) (sl1 u) (fun _ h => h.s1)) hHeld ?_
    try simp only [Act.put, List.getElem_toArray, List.getElem_cons_succ, List.getElem_cons_zero, List.setIfInBounds_toArray, List.set_cons_zero, List.set_cons_succ]
    refine wpAnyH_ready (rs := [8, 9]) (by kernel_rfl) (by simp) ?_
    refine AllReadyH.cons (by rfl) (fun K hK => ?_) (AllReadyH.cons (by rfl) (fun K hK => ?_) AllReadyH.nil)
    · refine step_alloc30 rfl (by rfl) ?_
      intro g w1 hg hw
      have HB1 : Hid (Below w.heap.size w w1) := Lib.hid (by subst hw; exact (below_drew HB0.out).alloc HB0.out.size _)
      have HK1 : Hid (Blk w1 w.heap.size 78 (bkc p x u).toArray) := Lib.hid (by subst hw; exact Blk.alloc HK0.out.drew _)
      have HG1 : Hid (Blk w1 g 33 (kl zk).toArray) := Lib.hid (by subst hw hg; exact Blk.new _ _ _)
      have HE1 : Hid (w.heap.size < g) := Lib.hid (by have h1 := HK0.out.lt; subst hg; exact h1)
      clear hg hw hHeld
      refine hK.out _ _ HK1.out.bk (fun hHeld => ?_)
      clear hK K
      try simp only [Act.put, List.getElem_toArray, List.getElem_cons_succ, List.getElem_cons_zero, List.setIfInBounds_toArray, List.set_cons_zero, List.set_cons_succ]
      refine wpAnyH_ready (rs := [9]) (by kernel_rfl) (by simp) ?_
      refine AllReadyH.cons (by rfl) (fun K hK => ?_) AllReadyH.nil
      refine step_alloc30 rfl (by rfl) ?_
      intro h w2 hg hw
      have HI2 : Hid (Iw w w2 p x u g h zk zk) := Lib.hid (by subst hw hg; exact ⟨HB1.out.alloc HB1.out.size _, HK1.out.alloc _, HG1.out.alloc _, Blk.new _ _ _, HE1.out, HK1.out.lt, fun e => by have := HG1.out.lt; omega⟩)
      clear hg hw hHeld
      refine hK.out _ _ HI2.out.bk.bk (fun hHeld => ?_)
      clear hK K
      try simp only [Act.put, List.getElem_toArray, List.getElem_cons_succ, List.getElem_cons_zero, List.setIfInBounds_toArray, List.set_cons_zero, List.set_cons_succ]
      refine wpAnyH_ready (rs := [10]) (by kernel_rfl) (by simp) ?_
      refine AllReadyH.cons (by rfl) (fun K hK => ?_) AllReadyH.nil
      refine step_store_big HI2.out.kg rfl (.tmp 3) (.tmp 8) (ty := 33) (l := kl (sl0 u)) rfl (by rfl) (by rfl) size30 rfl (kl_one _) ?_
      have HI3 := Lib.hid (HI2.out.setg (v := sl0 u))
      generalize w2.setRow g (kl (sl0 u)).toArray = w3 at HI3 ⊢
      refine hK.out _ _ HI3.out.bk.bk (fun hHeld => ?_)
      clear hK K
      try simp only [Act.put, List.getElem_toArray, List.getElem_cons_succ, List.getElem_cons_zero]
      refine wpAnyH_ready (rs := [11]) (by kernel_rfl) (by simp) ?_
      refine AllReadyH.cons (by rfl) (fun K hK => ?_) AllReadyH.nil
      refine step_store_big HI3.out.kh rfl (.tmp 4) (.tmp 12) (ty := 33) (l := kl (sl1 u)) rfl (by rfl) (by rfl) size30 rfl (kl_one _) ?_
      have HI4 := Lib.hid (HI3.out.seth (v := sl1 u))
      generalize w3.setRow h (kl (sl1 u)).toArray = w4 at HI4 ⊢
      refine hK.out _ _ HI4.out.bk.bk (fun hHeld => ?_)
      clear hK K
      try simp only [Act.put, List.getElem_toArray, List.getElem_cons_succ, List.getElem_cons_zero]
      refine wpAnyH_done (by kernel_rfl) ?_ _
      refine OnlyN.normal ?_
      exact ⟨g, h, rfl, rfl, HI4.out⟩
    · refine step_alloc30 rfl (by rfl) ?_
      intro h w1 hg hw
      have HB1 : Hid (Below w.heap.size w w1) := Lib.hid (by subst hw; exact (below_drew HB0.out).alloc HB0.out.size _)
      have HK1 : Hid (Blk w1 w.heap.size 78 (bkc p x u).toArray) := Lib.hid (by subst hw; exact Blk.alloc HK0.out.drew _)
      have HG1 : Hid (Blk w1 h 33 (kl zk).toArray) := Lib.hid (by subst hw hg; exact Blk.new _ _ _)
      have HE1 : Hid (w.heap.size < h) := Lib.hid (by have h1 := HK0.out.lt; subst hg; exact h1)
      clear hg hw hHeld
      refine hK.out _ _ HK1.out.bk (fun hHeld => ?_)
      clear hK K
      try simp only [Act.put, List.getElem_toArray, List.getElem_cons_succ, List.getElem_cons_zero, List.setIfInBounds_toArray, List.set_cons_zero, List.set_cons_succ]
      refine wpAnyH_ready (rs := [8]) (by kernel_rfl) (by simp) ?_
      refine AllReadyH.cons (by rfl) (fun K hK => ?_) AllReadyH.nil
      refine step_alloc30 rfl (by rfl) ?_
      intro g w2 hg hw
      have HI2 : Hid (Iw w w2 p x u g h zk zk) := Lib.hid (by subst hw hg; exact ⟨HB1.out.alloc HB1.out.size _, HK1.out.alloc _, Blk.new _ _ _, HG1.out.alloc _, HK1.out.lt, HE1.out, fun e => by have := HG1.out.lt; omega⟩)
      clear hg hw hHeld
      refine hK.out _ _ HI2.out.bk.bk (fun hHeld => ?_)
      clear hK K
      try simp only [Act.put, List.getElem_toArray, List.getElem_cons_succ, List.getElem_cons_zero, List.setIfInBounds_toArray, List.set_cons_zero, List.set_cons_succ]
      refine wpAnyH_ready (rs := [10]) (by kernel_rfl) (by simp) ?_
      refine AllReadyH.cons (by rfl) (fun K hK => ?_) AllReadyH.nil
      refine step_store_big HI2.out.kg rfl (.tmp 3) (.tmp 8) (ty := 33) (l := kl (sl0 u)) rfl (by rfl) (by rfl) size30 rfl (kl_one _) ?_
      have HI3 := Lib.hid (HI2.out.setg (v := sl0 u))
      generalize w2.setRow g (kl (sl0 u)).toArray = w3 at HI3 ⊢
      refine hK.out _ _ HI3.out.bk.bk (fun hHeld => ?_)
      clear hK K
      try simp only [Act.put, List.getElem_toArray, List.getElem_cons_succ, List.getElem_cons_zero]
      refine wpAnyH_ready (rs := [11]) (by kernel_rfl) (by simp) ?_
      refine AllReadyH.cons (by rfl) (fun K hK => ?_) AllReadyH.nil
      refine step_store_big HI3.out.kh rfl (.tmp 4) (.tmp 12) (ty := 33) (l := kl (sl1 u)) rfl (by rfl) (by rfl) size30 rfl (kl_one _) ?_
      have HI4 := Lib.hid (HI3.out.seth (v := sl1 u))
      generalize w3.setRow h (kl (sl1 u)).toArray = w4 at HI4 ⊢
      refine hK.out _ _ HI4.out.bk.bk (fun hHeld => ?_)
      clear hK K
      try simp only [Act.put, List.getElem_toArray, List.getElem_cons_succ, List.getElem_cons_zero]
      refine wpAnyH_done (by kernel_rfl) ?_ _
      refine OnlyN.normal ?_
      exact ⟨g, h, rfl, rfl, HI4.out⟩
  intro g h W hi
  have HI := Lib.hid hi
  clear hi
  obtain ⟨g0, g1, g2, g3, g4, g5⟩ := HI.out.kg.six
  obtain ⟨h0, h1, h2, h3, h4, h5⟩ := HI.out.kh.six
  have hst := HI.out.bk.bk.st
  simp only [Act.put, List.setIfInBounds_toArray, List.set_cons_zero, List.set_cons_succ]
  go_wp2_with fail
  refine wp_region_only (S := fun w' => w'.cell? ⟨g, 5, none⟩ = some (.int .i64 (sl0 u).v) ∧ w'.cell? ⟨h, 5, none⟩ = some (.int .i64 (sl1 u).v) ∧ w'.cell? ⟨w.heap.size, 164, none⟩ = some (pv p)) (by kernel_rfl) ⟨g5, h5, by simpa using hst⟩ (fun hHeld => ?_)
  refine wpAnyH_take (i := 0) (v := ?v33) rfl (by kernel_rfl) (by kernel_rfl) (by kernel_rfl) (fun _ _ _ h => h) (Or.inl ⟨by rfl, ?hy33⟩) hHeld ?rest33
  case hy33 =>
    intro w' hSw
    try dsimp only at hSw
    go_simp
    first | done | with_reducible rfl
  try simp only [Act.put, List.getElem_toArray, List.getElem_cons_zero, List.setIfInBounds_toArray, List.set_cons_zero, List.set_cons_succ]
  refine wpAnyH_take (i := 1) (v := ?v34) rfl (by kernel_rfl) (by kernel_rfl) (by kernel_rfl) (fun _ _ _ h => h) (Or.inl ⟨by rfl, ?hy34⟩) hHeld ?rest34
  case hy34 =>
    intro w' hSw
    try dsimp only at hSw
    go_simp
    first | done | with_reducible rfl
  try simp only [Act.put, List.getElem_toArray, List.getElem_cons_succ, List.getElem_cons_zero, List.setIfInBounds_toArray, List.set_cons_zero, List.set_cons_succ]
  refine wpAnyH_take (i := 2) (v := ?v35) rfl (by kernel_rfl) (by kernel_rfl) (by kernel_rfl) (fun _ _ _ h => h) (Or.inl ⟨by rfl, ?hy35⟩) hHeld ?rest35
  case hy35 =>
    intro w' hSw
    try dsimp only at hSw
    go_simp
    first | done | with_reducible rfl
  try simp only [Act.put, List.getElem_toArray, List.getElem_cons_succ, List.getElem_cons_zero, List.setIfInBounds_toArray, List.set_cons_zero, List.set_cons_succ]
  refine wpAnyH_take (i := 3) (v := ?v36) rfl (by kernel_rfl) (by kernel_rfl) (by kernel_rfl) (fun _ _ _ h => h) (Or.inl ⟨by rfl, ?hy36⟩) hHeld ?rest36
  case hy36 =>
    intro w' hSw
    try dsimp only at hSw
    go_simp
    first | done | with_reducible rfl
  try simp only [Act.put, List.getElem_toArray, List.getElem_cons_succ, List.getElem_cons_zero, List.setIfInBounds_toArray, List.set_cons_zero, List.set_cons_succ]
  refine wpAnyH_take (i := 4) (v := ?v37) rfl (by kernel_rfl) (by kernel_rfl) (by kernel_rfl) (fun _ _ _ h => h) (Or.inl ⟨by rfl, ?hy37⟩) hHeld ?rest37
  case hy37 =>
    intro w' hSw
    try dsimp only at hSw
    go_simp
    first | done | with_reducible rfl
  try simp only [Act.put, List.getElem_toArray, List.getElem_cons_succ, List.getElem_cons_zero, List.setIfInBounds_toArray, List.set_cons_zero, List.set_cons_succ]
  refine wpAnyH_take (i := 5) (v := ?v38) rfl (by kernel_rfl) (by kernel_rfl) (by kernel_rfl) (fun _ _ _ h => h) (Or.inl ⟨by rfl, ?hy38⟩) hHeld ?rest38
  case hy38 =>
    intro w' hSw
    try dsimp only at hSw
    go_simp
    first | done | with_reducible rfl
  try simp only [Act.put, List.getElem_toArray, List.getElem_cons_succ, List.getElem_cons_zero, List.setIfInBounds_toArray, List.set_cons_zero, List.set_cons_succ]
  refine wpAnyH_take (i := 6) (v := ?v39) rfl (by kernel_rfl) (by kernel_rfl) (by kernel_rfl) (fun _ _ _ h => h) (Or.inl ⟨by rfl, ?hy39⟩) hHeld ?rest39
  case hy39 =>
    intro w' hSw
    try dsimp only at hSw
    go_simp
    first | done | with_reducible rfl
  try simp only [Act.put, List.getElem_toArray, List.getElem_cons_succ, List.getElem_cons_zero, List.setIfInBounds_toArray, List.set_cons_zero, List.set_cons_succ]
  refine wpAnyH_take (i := 7) (v := ?v40) rfl (by kernel_rfl) (by kernel_rfl) (by kernel_rfl) (fun _ _ _ h => h) (Or.inl ⟨by rfl, ?hy40⟩) hHeld ?rest40
  case hy40 =>
    intro w' hSw
    try dsimp only at hSw
    go_simp
    first | done | with_reducible rfl
  try simp only [Act.put, List.getElem_toArray, List.getElem_cons_succ, List.getElem_cons_zero, List.setIfInBounds_toArray, List.set_cons_zero, List.set_cons_succ]
  refine wpAnyH_take (i := 8) (v := ?v41) rfl (by kernel_rfl) (by kernel_rfl) (by kernel_rfl) (fun _ _ _ h => h) (Or.inl ⟨by rfl, ?hy41⟩) hHeld ?rest41
  case hy41 =>
    intro w' hSw
    try dsimp only at hSw
    go_simp
    first | done | with_reducible rfl
  try simp only [Act.put, List.getElem_toArray, List.getElem_cons_succ, List.getElem_cons_zero, List.setIfInBounds_toArray, List.set_cons_zero, List.set_cons_succ]
  refine wpAnyH_take (i := 9) (v := ?v42) rfl (by kernel_rfl) (by kernel_rfl) (by kernel_rfl) (fun _ _ _ h => h) (Or.inl ⟨by rfl, ?hy42⟩) hHeld ?rest42
  case hy42 =>
    intro w' hSw
    try dsimp only at hSw
    go_simp
    first | done | with_reducible rfl
  try simp only [Act.put, List.getElem_toArray, List.getElem_cons_succ, List.getElem_cons_zero, List.setIfInBounds_toArray, List.set_cons_zero, List.set_cons_succ]
  refine wpAnyH_take (i := 10) (v := ?v43) rfl (by kernel_rfl) (by kernel_rfl) (by kernel_rfl) (fun _ _ _ h => h) (Or.inl ⟨by rfl, ?hy43⟩) hHeld ?rest43
  case hy43 =>
    intro w' hSw
    try dsimp only at hSw
    go_simp
    first | done | with_reducible rfl
  try simp only [Act.put, List.getElem_toArray, List.getElem_cons_succ, List.getElem_cons_zero, List.setIfInBounds_toArray, List.set_cons_zero, List.set_cons_succ]
  refine wpAnyH_take (i := 11) (v := undef) rfl (by kernel_rfl) (by kernel_rfl) (by kernel_rfl) (fun _ _ _ h => h) (Or.inr ⟨by rfl, rfl⟩) hHeld ?_
  try simp only [Act.put, List.getElem_toArray, List.getElem_cons_succ, List.getElem_cons_zero, List.setIfInBounds_toArray, List.set_cons_zero, List.set_cons_succ]
  refine wpAnyH_take (i := 12) (v := undef) rfl (by kernel_rfl) (by kernel_rfl) (by kernel_rfl) (fun _ _ _ h => h) (Or.inr ⟨by rfl, rfl⟩) hHeld ?_
  try simp only [Act.put, List.getElem_toArray, List.getElem_cons_succ, List.getElem_cons_zero, List.setIfInBounds_toArray, List.set_cons_zero, List.set_cons_succ]
  refine wpAnyH_take (i := 13) (v := undef) rfl (by kernel_rfl) (by kernel_rfl) (by kernel_rfl) (fun _ _ _ h => h) (Or.inr ⟨by rfl, rfl⟩) hHeld ?_
  try simp only [Act.put, List.getElem_toArray, List.getElem_cons_succ, List.getElem_cons_zero, List.setIfInBounds_toArray, List.set_cons_zero, List.set_cons_succ]
  refine wpAnyH_take (i := 14) (v := undef) rfl (by kernel_rfl) (by kernel_rfl) (by kernel_rfl) (fun _ _ _ h => h) (Or.inr ⟨by rfl, rfl⟩) hHeld ?_
  try simp only [Act.put, List.getElem_toArray, List.getElem_cons_succ, List.getElem_cons_zero, List.setIfInBounds_toArray, List.set_cons_zero, List.set_cons_succ]
  refine wpAnyH_take (i := 15) (v := undef) rfl (by kernel_rfl) (by kernel_rfl) (by kernel_rfl) (fun _ _ _ h => h) (Or.inr ⟨by rfl, rfl⟩) hHeld ?_
  try simp only [Act.put, List.getElem_toArray, List.getElem_cons_succ, List.getElem_cons_zero, List.setIfInBounds_toArray, List.set_cons_zero, List.set_cons_succ]
  refine wpAnyH_take (i := 16) (v := undef) rfl (by kernel_rfl) (by kernel_rfl) (by kernel_rfl) (fun _ _ _ h => h) (Or.inr ⟨by rfl, rfl⟩) hHeld ?_
  try simp only [Act.put, List.getElem_toArray, List.getElem_cons_succ, List.getElem_cons_zero, List.setIfInBounds_toArray, List.set_cons_zero, List.set_cons_succ]
  refine wpAnyH_take (i := 17) (v := ?v44) rfl (by kernel_rfl) (by kernel_rfl) (by kernel_rfl) (fun _ _ _ h => h) (Or.inl ⟨by rfl, ?hy44⟩) hHeld ?rest44
  case hy44 =>
    intro w' hSw
    try dsimp only at hSw
    go_simp
    first | done | with_reducible rfl
  try simp only [Act.put, List.getElem_toArray, List.getElem_cons_succ, List.getElem_cons_zero, List.setIfInBounds_toArray, List.set_cons_zero, List.set_cons_succ]
  refine wpAnyH_take (i := 18) (v := ?v45) rfl (by kernel_rfl) (by kernel_rfl) (by kernel_rfl) (fun _ _ _ h => h) (Or.inl ⟨by rfl, ?hy45⟩) hHeld ?rest45
  case hy45 =>
    intro w' hSw
    try dsimp only at hSw
    go_simp
    first | done | with_reducible rfl
  try simp only [Act.put, List.getElem_toArray, List.getElem_cons_succ, List.getElem_cons_zero, List.setIfInBounds_toArray, List.set_cons_zero, List.set_cons_succ]
  refine wpAnyH_done (by kernel_rfl) ?_ _
  refine OnlyN.normal ?_
  go_wp2_with fail
  go_ret
  exact ⟨rfl, below_drew HI.out.bel⟩
set_option maxRecDepth 100000 in
set_option maxHeartbeats 4000000 in
theorem isb_end (hs : StAt w base p A cap ps os) (hn : 0 < os.length) (b : Bool) (x : Int) (u : Oj) (h : (sl0 u).k = 1) (h1 : (sl1 u).k = 1) (h2 : 0 ≤ (sl0 u).v) (h3 : (sl0 u).v ≤ (sl1 u).v) (h4 : decide ((sl1 u).v < (os.length : Int)) = b) : Calls Tryd.prog 69 #[bkv p x u] w fun e w' => e = .returned (.bool b) ∧ Below w.heap.size w w' := by
  have hbl := bkc_len p x u
  have HK0 := Lib.hid (Blk.new w 78 (bkc p x u).toArray)
  have HB0 := Lib.hid ((Below.refl w.heap.size w).alloc (Nat.le_refl _) (.cells (bkc p x u).toArray 78))
  have d0 : ((sl0 u).k != 1) = false := by simpa using h
  have d1 : ((sl1 u).k != 1) = false := by simpa using h1
  have d2 : decide (0 ≤ (sl0 u).v) = true := decide_eq_true h2
  have d3 : decide ((sl0 u).v ≤ (sl1 u).v) = true := decide_eq_true h3
  have HS := Lib.hid hs
  have HN := Lib.hid hn
  clear h h1 h2 h3 hs hn
  go_enter Tryd.func69, Tryd.ntmps69
  go_wp2_with fail
  refine region_twoB (fun ac g h => ((((((((((ac.put (some 5) (.pointer (some ⟨w.heap.size, 0, none⟩))).put (some 6) (.pointer (some ⟨w.heap.size, 3, none⟩))).put (some 7) (.pointer (some ⟨w.heap.size, 3, none⟩))).put (some 8) (sl0 u).val).put (some 9) (.pointer (some ⟨w.heap.size, 0, none⟩))).put (some 10) (.pointer (some ⟨w.heap.size, 3, none⟩))).put (some 11) (.pointer (some ⟨w.heap.size, 9, none⟩))).put (some 12) (sl1 u).val).put (some 3) (.pointer (some ⟨g, 0, none⟩))).put (some 4) (.pointer (some ⟨h, 0, none⟩)))) (fun g h W => Iw w W p x u g h (sl0 u) (sl1 u)) ?mkTwo ?mkRest
  case mkTwo =>
    refine wp_region_only (S := fun w' => BkAt w' w.heap.size 0 p x u) (by kernel_rfl) HK0.out.drew.bk (fun hHeld => ?_)
    refine wpAnyH_take (i := 0) (v := ?v46) rfl (by kernel_rfl) (by kernel_rfl) (by kernel_rfl) (fun _ _ _ h => h) (Or.inl ⟨by rfl, ?hy46⟩) hHeld ?rest46
    case hy46 =>
      intro w' hSw
      try dsimp only at hSw
      go_simp
      first | done | with_reducible rfl
    try simp only [Act.put, List.getElem_toArray, List.getElem_cons_zero, List.setIfInBounds_toArray, List.set_cons_zero, List.set_cons_succ]
    refine wpAnyH_take (i := 1) (v := ?v47) rfl (by kernel_rfl) (by kernel_rfl) (by kernel_rfl) (fun _ _ _ h => h) (Or.inl ⟨by rfl, ?hy47⟩) hHeld ?rest47
    case hy47 =>
      intro w' hSw
      try dsimp only at hSw
      go_simp
      first | done | with_reducible rfl
    try simp only [Act.put, List.getElem_toArray, List.getElem_cons_succ, List.getElem_cons_zero, List.setIfInBounds_toArray, List.set_cons_zero, List.set_cons_succ]
    refine wpAnyH_take (i := 2) (v := ?v48) rfl (by kernel_rfl) (by kernel_rfl) (by kernel_rfl) (fun _ _ _ h => h) (Or.inl ⟨by rfl, ?hy48⟩) hHeld ?rest48
    case hy48 =>
      intro w' hSw
      try dsimp only at hSw
      go_simp
      first | done | with_reducible rfl
    try simp only [Act.put, List.getElem_toArray, List.getElem_cons_succ, List.getElem_cons_zero, List.setIfInBounds_toArray, List.set_cons_zero, List.set_cons_succ]
    refine wpAnyH_take (i := 3) rfl (by kernel_rfl) (by kernel_rfl) (by kernel_rfl) (fun _ _ _ h => h) (y_kyB (by rfl) (.tmp 7) (by rfl) w.heap.size 3 (by rfl) (sl0 u) (fun _ h => h.s0)) hHeld ?_
    try simp only [Act.put, List.getElem_toArray, List.getElem_cons_succ, List.getElem_cons_zero, List.setIfInBounds_toArray, List.set_cons_zero, List.set_cons_succ]
    refine wpAnyH_take (i := 4) (v := ?v49) rfl (by kernel_rfl) (by kernel_rfl) (by kernel_rfl) (fun _ _ _ h => h) (Or.inl ⟨by rfl, ?hy49⟩) hHeld ?rest49
    case hy49 =>
      intro w' hSw
      try dsimp only at hSw
      go_simp
      first | done | with_reducible rfl
    try simp only [Act.put, List.getElem_toArray, List.getElem_cons_succ, List.getElem_cons_zero, List.setIfInBounds_toArray, List.set_cons_zero, List.set_cons_succ]
    refine wpAnyH_take (i := 5) (v := ?v50) rfl (by kernel_rfl) (by kernel_rfl) (by kernel_rfl) (fun _ _ _ h => h) (Or.inl ⟨by rfl, ?hy50⟩) hHeld ?rest50
    case hy50 =>
      intro w' hSw
      try dsimp only at hSw
      go_simp
      first | done | with_reducible rfl
    try simp only [Act.put, List.getElem_toArray, List.getElem_cons_succ, List.getElem_cons_zero, List.setIfInBounds_toArray, List.set_cons_zero, List.set_cons_succ]
    refine wpAnyH_take (i := 6) (v := ?v51) rfl (by kernel_rfl) (by kernel_rfl) (by kernel_rfl) (fun _ _ _ h => h) (Or.inl ⟨by rfl, ?hy51⟩) hHeld ?rest51
    case hy51 =>
      intro w' hSw
      try dsimp only at hSw
      go_simp
      first | done | with_reducible rfl
    try simp only [Act.put, List.getElem_toArray, List.getElem_cons_succ, List.getElem_cons_zero, List.setIfInBounds_toArray, List.set_cons_zero, List.set_cons_succ]
    refine wpAnyH_take (i := 7) rfl (by kernel_rfl) (by kernel_rfl) (by kernel_rfl) (fun _ _ _ h => h) (y_kyB (by rfl) (.tmp 11) (by rfl) w.heap.size 9 (by rfl) (sl1 u) (fun _ h => h.s1)) hHeld ?_
    try simp only [Act.put, List.getElem_toArray, List.getElem_cons_succ, List.getElem_cons_zero, List.setIfInBounds_toArray, List.set_cons_zero, List.set_cons_succ]
    refine wpAnyH_ready (rs := [8, 9]) (by kernel_rfl) (by simp) ?_
    refine AllReadyH.cons (by rfl) (fun K hK => ?_) (AllReadyH.cons (by rfl) (fun K hK => ?_) AllReadyH.nil)
    · refine step_alloc30 rfl (by rfl) ?_
      intro g w1 hg hw
      have HB1 : Hid (Below w.heap.size w w1) := Lib.hid (by subst hw; exact (below_drew HB0.out).alloc HB0.out.size _)
      have HK1 : Hid (Blk w1 w.heap.size 78 (bkc p x u).toArray) := Lib.hid (by subst hw; exact Blk.alloc HK0.out.drew _)
      have HG1 : Hid (Blk w1 g 33 (kl zk).toArray) := Lib.hid (by subst hw hg; exact Blk.new _ _ _)
      have HE1 : Hid (w.heap.size < g) := Lib.hid (by have h1 := HK0.out.lt; subst hg; exact h1)
      clear hg hw hHeld
      refine hK.out _ _ HK1.out.bk (fun hHeld => ?_)
      clear hK K
      try simp only [Act.put, List.getElem_toArray, List.getElem_cons_succ, List.getElem_cons_zero, List.setIfInBounds_toArray, List.set_cons_zero, List.set_cons_succ]
      refine wpAnyH_ready (rs := [9]) (by kernel_rfl) (by simp) ?_
      refine AllReadyH.cons (by rfl) (fun K hK => ?_) AllReadyH.nil
      refine step_alloc30 rfl (by rfl) ?_
      intro h w2 hg hw
      have HI2 : Hid (Iw w w2 p x u g h zk zk) := Lib.hid (by subst hw hg; exact ⟨HB1.out.alloc HB1.out.size _, HK1.out.alloc _, HG1.out.alloc _, Blk.new _ _ _, HE1.out, HK1.out.lt, fun e => by have := HG1.out.lt; omega⟩)
      clear hg hw hHeld
      refine hK.out _ _ HI2.out.bk.bk (fun hHeld => ?_)
      clear hK K
      try simp only [Act.put, List.getElem_toArray, List.getElem_cons_succ, List.getElem_cons_zero, List.setIfInBounds_toArray, List.set_cons_zero, List.set_cons_succ]
      refine wpAnyH_ready (rs := [10]) (by kernel_rfl) (by simp) ?_
      refine AllReadyH.cons (by rfl) (fun K hK => ?_) AllReadyH.nil
      refine step_store_big HI2.out.kg rfl (.tmp 3) (.tmp 8) (ty := 33) (l := kl (sl0 u)) rfl (by rfl) (by rfl) size30 rfl (kl_one _) ?_
      have HI3 := Lib.hid (HI2.out.setg (v := sl0 u))
      generalize w2.setRow g (kl (sl0 u)).toArray = w3 at HI3 ⊢
      refine hK.out _ _ HI3.out.bk.bk (fun hHeld => ?_)
      clear hK K
      try simp only [Act.put, List.getElem_toArray, List.getElem_cons_succ, List.getElem_cons_zero]
      refine wpAnyH_ready (rs := [11]) (by kernel_rfl) (by simp) ?_
      refine AllReadyH.cons (by rfl) (fun K hK => ?_) AllReadyH.nil
      refine step_store_big HI3.out.kh rfl (.tmp 4) (.tmp 12) (ty := 33) (l := kl (sl1 u)) rfl (by rfl) (by rfl) size30 rfl (kl_one _) ?_
      have HI4 := Lib.hid (HI3.out.seth (v := sl1 u))
      generalize w3.setRow h (kl (sl1 u)).toArray = w4 at HI4 ⊢
      refine hK.out _ _ HI4.out.bk.bk (fun hHeld => ?_)
      clear hK K
      try simp only [Act.put, List.getElem_toArray, List.getElem_cons_succ, List.getElem_cons_zero]
      refine wpAnyH_done (by kernel_rfl) ?_ _
      refine OnlyN.normal ?_
      exact ⟨g, h, rfl, rfl, HI4.out⟩
    · refine step_alloc30 rfl (by rfl) ?_
      intro h w1 hg hw
      have HB1 : Hid (Below w.heap.size w w1) := Lib.hid (by subst hw; exact (below_drew HB0.out).alloc HB0.out.size _)
      have HK1 : Hid (Blk w1 w.heap.size 78 (bkc p x u).toArray) := Lib.hid (by subst hw; exact Blk.alloc HK0.out.drew _)
      have HG1 : Hid (Blk w1 h 33 (kl zk).toArray) := Lib.hid (by subst hw hg; exact Blk.new _ _ _)
      have HE1 : Hid (w.heap.size < h) := Lib.hid (by have h1 := HK0.out.lt; subst hg; exact h1)
      clear hg hw hHeld
      refine hK.out _ _ HK1.out.bk (fun hHeld => ?_)
      clear hK K
      try simp only [Act.put, List.getElem_toArray, List.getElem_cons_succ, List.getElem_cons_zero, List.setIfInBounds_toArray, List.set_cons_zero, List.set_cons_succ]
      refine wpAnyH_ready (rs := [8]) (by kernel_rfl) (by simp) ?_
      refine AllReadyH.cons (by rfl) (fun K hK => ?_) AllReadyH.nil
      refine step_alloc30 rfl (by rfl) ?_
      intro g w2 hg hw
      have HI2 : Hid (Iw w w2 p x u g h zk zk) := Lib.hid (by subst hw hg; exact ⟨HB1.out.alloc HB1.out.size _, HK1.out.alloc _, Blk.new _ _ _, HG1.out.alloc _, HK1.out.lt, HE1.out, fun e => by have := HG1.out.lt; omega⟩)
      clear hg hw hHeld
      refine hK.out _ _ HI2.out.bk.bk (fun hHeld => ?_)
      clear hK K
      try simp only [Act.put, List.getElem_toArray, List.getElem_cons_succ, List.getElem_cons_zero, List.setIfInBounds_toArray, List.set_cons_zero, List.set_cons_succ]
      refine wpAnyH_ready (rs := [10]) (by kernel_rfl) (by simp) ?_
      refine AllReadyH.cons (by rfl) (fun K hK => ?_) AllReadyH.nil
      refine step_store_big HI2.out.kg rfl (.tmp 3) (.tmp 8) (ty := 33) (l := kl (sl0 u)) rfl (by rfl) (by rfl) size30 rfl (kl_one _) ?_
      have HI3 := Lib.hid (HI2.out.setg (v := sl0 u))
      generalize w2.setRow g (kl (sl0 u)).toArray = w3 at HI3 ⊢
      refine hK.out _ _ HI3.out.bk.bk (fun hHeld => ?_)
      clear hK K
      try simp only [Act.put, List.getElem_toArray, List.getElem_cons_succ, List.getElem_cons_zero]
      refine wpAnyH_ready (rs := [11]) (by kernel_rfl) (by simp) ?_
      refine AllReadyH.cons (by rfl) (fun K hK => ?_) AllReadyH.nil
      refine step_store_big HI3.out.kh rfl (.tmp 4) (.tmp 12) (ty := 33) (l := kl (sl1 u)) rfl (by rfl) (by rfl) size30 rfl (kl_one _) ?_
      have HI4 := Lib.hid (HI3.out.seth (v := sl1 u))
      generalize w3.setRow h (kl (sl1 u)).toArray = w4 at HI4 ⊢
      refine hK.out _ _ HI4.out.bk.bk (fun hHeld => ?_)
      clear hK K
      try simp only [Act.put, List.getElem_toArray, List.getElem_cons_succ, List.getElem_cons_zero]
      refine wpAnyH_done (by kernel_rfl) ?_ _
      refine OnlyN.normal ?_
      exact ⟨g, h, rfl, rfl, HI4.out⟩
  intro g h W hi
  have HI := Lib.hid hi
  clear hi
  obtain ⟨g0, g1, g2, g3, g4, g5⟩ := HI.out.kg.six
  obtain ⟨h0, h1, h2, h3, h4, h5⟩ := HI.out.kh.six
  have hst := HI.out.bk.bk.st
  simp only [Act.put, List.setIfInBounds_toArray, List.set_cons_zero, List.set_cons_succ]
  go_wp2_with fail
  refine wp_region_only (S := fun w' => w'.cell? ⟨g, 5, none⟩ = some (.int .i64 (sl0 u).v) ∧ w'.cell? ⟨h, 5, none⟩ = some (.int .i64 (sl1 u).v) ∧ w'.cell? ⟨w.heap.size, 164, none⟩ = some (pv p)) (by kernel_rfl) ⟨g5, h5, by simpa using hst⟩ (fun hHeld => ?_)
  refine wpAnyH_take (i := 0) (v := ?v52) rfl (by kernel_rfl) (by kernel_rfl) (by kernel_rfl) (fun _ _ _ h => h) (Or.inl ⟨by rfl, ?hy52⟩) hHeld ?rest52
  case hy52 =>
    intro w' hSw
    try dsimp only at hSw
    go_simp
    first | done | with_reducible rfl
  try simp only [Act.put, List.getElem_toArray, List.getElem_cons_zero, List.setIfInBounds_toArray, List.set_cons_zero, List.set_cons_succ]
  refine wpAnyH_take (i := 1) (v := ?v53) rfl (by kernel_rfl) (by kernel_rfl) (by kernel_rfl) (fun _ _ _ h => h) (Or.inl ⟨by rfl, ?hy53⟩) hHeld ?rest53
  case hy53 =>
    intro w' hSw
    try dsimp only at hSw
    go_simp
    first | done | with_reducible rfl
  try simp only [Act.put, List.getElem_toArray, List.getElem_cons_succ, List.getElem_cons_zero, List.setIfInBounds_toArray, List.set_cons_zero, List.set_cons_succ]
  refine wpAnyH_take (i := 2) (v := ?v54) rfl (by kernel_rfl) (by kernel_rfl) (by kernel_rfl) (fun _ _ _ h => h) (Or.inl ⟨by rfl, ?hy54⟩) hHeld ?rest54
  case hy54 =>
    intro w' hSw
    try dsimp only at hSw
    go_simp
    first | done | with_reducible rfl
  try simp only [Act.put, List.getElem_toArray, List.getElem_cons_succ, List.getElem_cons_zero, List.setIfInBounds_toArray, List.set_cons_zero, List.set_cons_succ]
  refine wpAnyH_take (i := 3) (v := ?v55) rfl (by kernel_rfl) (by kernel_rfl) (by kernel_rfl) (fun _ _ _ h => h) (Or.inl ⟨by rfl, ?hy55⟩) hHeld ?rest55
  case hy55 =>
    intro w' hSw
    try dsimp only at hSw
    go_simp
    first | done | with_reducible rfl
  try simp only [Act.put, List.getElem_toArray, List.getElem_cons_succ, List.getElem_cons_zero, List.setIfInBounds_toArray, List.set_cons_zero, List.set_cons_succ]
  refine wpAnyH_take (i := 4) (v := ?v56) rfl (by kernel_rfl) (by kernel_rfl) (by kernel_rfl) (fun _ _ _ h => h) (Or.inl ⟨by rfl, ?hy56⟩) hHeld ?rest56
  case hy56 =>
    intro w' hSw
    try dsimp only at hSw
    go_simp
    first | done | with_reducible rfl
  try simp only [Act.put, List.getElem_toArray, List.getElem_cons_succ, List.getElem_cons_zero, List.setIfInBounds_toArray, List.set_cons_zero, List.set_cons_succ]
  refine wpAnyH_take (i := 5) (v := ?v57) rfl (by kernel_rfl) (by kernel_rfl) (by kernel_rfl) (fun _ _ _ h => h) (Or.inl ⟨by rfl, ?hy57⟩) hHeld ?rest57
  case hy57 =>
    intro w' hSw
    try dsimp only at hSw
    go_simp
    first | done | with_reducible rfl
  try simp only [Act.put, List.getElem_toArray, List.getElem_cons_succ, List.getElem_cons_zero, List.setIfInBounds_toArray, List.set_cons_zero, List.set_cons_succ]
  refine wpAnyH_take (i := 6) (v := ?v58) rfl (by kernel_rfl) (by kernel_rfl) (by kernel_rfl) (fun _ _ _ h => h) (Or.inl ⟨by rfl, ?hy58⟩) hHeld ?rest58
  case hy58 =>
    intro w' hSw
    try dsimp only at hSw
    go_simp
    first | done | with_reducible rfl
  try simp only [Act.put, List.getElem_toArray, List.getElem_cons_succ, List.getElem_cons_zero, List.setIfInBounds_toArray, List.set_cons_zero, List.set_cons_succ]
  refine wpAnyH_take (i := 7) (v := ?v59) rfl (by kernel_rfl) (by kernel_rfl) (by kernel_rfl) (fun _ _ _ h => h) (Or.inl ⟨by rfl, ?hy59⟩) hHeld ?rest59
  case hy59 =>
    intro w' hSw
    try dsimp only at hSw
    go_simp
    first | done | with_reducible rfl
  try simp only [Act.put, List.getElem_toArray, List.getElem_cons_succ, List.getElem_cons_zero, List.setIfInBounds_toArray, List.set_cons_zero, List.set_cons_succ]
  refine wpAnyH_take (i := 8) (v := ?v60) rfl (by kernel_rfl) (by kernel_rfl) (by kernel_rfl) (fun _ _ _ h => h) (Or.inl ⟨by rfl, ?hy60⟩) hHeld ?rest60
  case hy60 =>
    intro w' hSw
    try dsimp only at hSw
    go_simp
    first | done | with_reducible rfl
  try simp only [Act.put, List.getElem_toArray, List.getElem_cons_succ, List.getElem_cons_zero, List.setIfInBounds_toArray, List.set_cons_zero, List.set_cons_succ]
  refine wpAnyH_take (i := 9) (v := ?v61) rfl (by kernel_rfl) (by kernel_rfl) (by kernel_rfl) (fun _ _ _ h => h) (Or.inl ⟨by rfl, ?hy61⟩) hHeld ?rest61
  case hy61 =>
    intro w' hSw
    try dsimp only at hSw
    go_simp
    first | done | with_reducible rfl
  try simp only [Act.put, List.getElem_toArray, List.getElem_cons_succ, List.getElem_cons_zero, List.setIfInBounds_toArray, List.set_cons_zero, List.set_cons_succ]
  refine wpAnyH_take (i := 10) (v := ?v62) rfl (by kernel_rfl) (by kernel_rfl) (by kernel_rfl) (fun _ _ _ h => h) (Or.inl ⟨by rfl, ?hy62⟩) hHeld ?rest62
  case hy62 =>
    intro w' hSw
    try dsimp only at hSw
    go_simp
    first | done | with_reducible rfl
  try simp only [Act.put, List.getElem_toArray, List.getElem_cons_succ, List.getElem_cons_zero, List.setIfInBounds_toArray, List.set_cons_zero, List.set_cons_succ]
  refine wpAnyH_take (i := 11) (v := ?v63) rfl (by kernel_rfl) (by kernel_rfl) (by kernel_rfl) (fun _ _ _ h => h) (Or.inl ⟨by rfl, ?hy63⟩) hHeld ?rest63
  case hy63 =>
    intro w' hSw
    try dsimp only at hSw
    go_simp
    first | done | with_reducible rfl
  try simp only [Act.put, List.getElem_toArray, List.getElem_cons_succ, List.getElem_cons_zero, List.setIfInBounds_toArray, List.set_cons_zero, List.set_cons_succ]
  refine wpAnyH_take (i := 12) (v := ?v64) rfl (by kernel_rfl) (by kernel_rfl) (by kernel_rfl) (fun _ _ _ h => h) (Or.inl ⟨by rfl, ?hy64⟩) hHeld ?rest64
  case hy64 =>
    intro w' hSw
    try dsimp only at hSw
    go_simp
    first | done | with_reducible rfl
  try simp only [Act.put, List.getElem_toArray, List.getElem_cons_succ, List.getElem_cons_zero, List.setIfInBounds_toArray, List.set_cons_zero, List.set_cons_succ]
  refine wpAnyH_take (i := 13) (v := ?v65) rfl (by kernel_rfl) (by kernel_rfl) (by kernel_rfl) (fun _ _ _ h => h) (Or.inl ⟨by rfl, ?hy65⟩) hHeld ?rest65
  case hy65 =>
    intro w' hSw
    try dsimp only at hSw
    go_simp
    first | done | with_reducible rfl
  try simp only [Act.put, List.getElem_toArray, List.getElem_cons_succ, List.getElem_cons_zero, List.setIfInBounds_toArray, List.set_cons_zero, List.set_cons_succ]
  refine wpAnyH_take (i := 14) (v := ?v66) rfl (by kernel_rfl) (by kernel_rfl) (by kernel_rfl) (fun _ _ _ h => h) (Or.inl ⟨by rfl, ?hy66⟩) hHeld ?rest66
  case hy66 =>
    intro w' hSw
    try dsimp only at hSw
    go_simp
    first | done | with_reducible rfl
  try simp only [Act.put, List.getElem_toArray, List.getElem_cons_succ, List.getElem_cons_zero, List.setIfInBounds_toArray, List.set_cons_zero, List.set_cons_succ]
  refine wpAnyH_ready (rs := [15]) (by kernel_rfl) (by simp) ?_
  refine AllReadyH.cons (by rfl) (fun K hK => ?_) AllReadyH.nil
  go_simp
  refine (size_at (HS.out.below HI.out.bel).drew HN.out).mono ?_
  rintro e w5 ⟨rfl, rfl⟩
  clear hHeld
  go_wp2_with fail
  refine hK.out _ _ ⟨g5, h5, by simpa using hst⟩ (fun hHeld => ?_)
  clear hK K
  try simp only [Act.put, List.getElem_toArray, List.getElem_cons_succ, List.getElem_cons_zero, List.setIfInBounds_toArray, List.set_cons_zero, List.set_cons_succ]
  refine wpAnyH_take (i := 16) (v := ?v67) rfl (by kernel_rfl) (by kernel_rfl) (by kernel_rfl) (fun _ _ _ h => h) (Or.inl ⟨by rfl, ?hy67⟩) hHeld ?rest67
  case hy67 =>
    intro w' hSw
    try dsimp only at hSw
    go_simp
    first | done | with_reducible rfl
  try simp only [Act.put, List.getElem_toArray, List.getElem_cons_succ, List.getElem_cons_zero, List.setIfInBounds_toArray, List.set_cons_zero, List.set_cons_succ]
  refine wpAnyH_take (i := 17) (v := ?v68) rfl (by kernel_rfl) (by kernel_rfl) (by kernel_rfl) (fun _ _ _ h => h) (Or.inl ⟨by rfl, ?hy68⟩) hHeld ?rest68
  case hy68 =>
    intro w' hSw
    try dsimp only at hSw
    go_simp
    first | done | with_reducible rfl
  try simp only [Act.put, List.getElem_toArray, List.getElem_cons_succ, List.getElem_cons_zero, List.setIfInBounds_toArray, List.set_cons_zero, List.set_cons_succ]
  refine wpAnyH_take (i := 18) (v := ?v69) rfl (by kernel_rfl) (by kernel_rfl) (by kernel_rfl) (fun _ _ _ h => h) (Or.inl ⟨by rfl, ?hy69⟩) hHeld ?rest69
  case hy69 =>
    intro w' hSw
    try dsimp only at hSw
    go_simp
    first | done | with_reducible rfl
  try simp only [Act.put, List.getElem_toArray, List.getElem_cons_succ, List.getElem_cons_zero, List.setIfInBounds_toArray, List.set_cons_zero, List.set_cons_succ]
  refine wpAnyH_done (by kernel_rfl) ?_ _
  refine OnlyN.normal ?_
  go_wp2_with fail
  go_ret
  exact ⟨rfl, below_drew HI.out.bel⟩
set_option maxRecDepth 8000 in
theorem isb_any (hs : StAt w base p A cap ps os) (hn : 0 < os.length) (x : Int) (u : Oj) : Calls Tryd.prog 69 #[bkv p x u] w fun e w' => e = .returned (.bool (decide (BkP os.length u))) ∧ Below w.heap.size w w' := by
  by_cases h0 : (sl0 u).k = 1
  · by_cases h1 : (sl1 u).k = 1
    · by_cases h2 : 0 ≤ (sl0 u).v
      · by_cases h3 : (sl0 u).v ≤ (sl1 u).v
        · rw [show decide (BkP os.length u) = decide ((sl1 u).v < (os.length : Int)) from decide_eq_decide.2 ⟨fun h => h.2.2.2.2, fun h => ⟨h0, h1, h2, h3, h⟩⟩]
          exact isb_end hs hn _ x u h0 h1 h2 h3 rfl
        · rw [show decide (BkP os.length u) = false from decide_eq_false fun h => h3 h.2.2.2.1]
          exact isb_lss x u h0 h1 h2 h3
      · rw [show decide (BkP os.length u) = false from decide_eq_false fun h => h2 h.2.2.1]
        exact isb_neg x u h0 h1 h2
    · rw [show decide (BkP os.length u) = false from decide_eq_false fun h => h1 h.2.1]
      exact isb_k1 x u h0 h1
  · rw [show decide (BkP os.length u) = false from decide_eq_false fun h => h0 h.1]
    exact isb_k0 x u h0
end
end Go.Proofs.YteodgefnbmiblaaDoor

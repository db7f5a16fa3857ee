/- The document's own answer: the object of a sector. -/
import Derived.Test.YtjfpmadnlpcpfaaDoorFr7
import Derived.Test.YtjfpmadnlpcpfaaDoorRegIn
namespace Go.Proofs.YtjfpmadnlpcpfaaDoor
open Go.RowKit
attribute [local go_sem] Oper.semAt_some
/-- while the object comes up, in block B -/
structure GS (w W : World) (l : List UInt8) (B : Nat) (o : Oj) : Prop where
  sec : Blk W w.heap.size 45 (bv l).toArray
  res : Blk W (w.heap.size + 1) 44 oz.cells.toArray
  ob : Blk W B 44 o.cells.toArray
  lt : w.heap.size + 2 ≤ B
  below : Below w.heap.size w W
section
variable {w W W' : World} {l : List UInt8} {B : Nat} {o : Oj}
theorem GS.call (h : GS w W l B o) (hb : Below W.heap.size W W') : GS w W' l B o := ⟨h.sec.keep hb, h.res.keep hb, h.ob.keep hb, h.lt, h.below.trans (hb.mono h.below.size)⟩
theorem GS.alloc (h : GS w W l B o) (u : Obj) : GS w (W.alloc u) l B o := h.call ((Below.refl _ _).alloc (Nat.le_refl _) _)
theorem GS.set_ (h : GS w W l B o) (i : Nat) (v : Value) {o' : Oj} (he : o.cells.toArray.setIfInBounds i v = o'.cells.toArray) : GS w (W.setCell ⟨B, i, none⟩ v) l B o' :=
  ⟨h.sec.far (by have := h.lt; simp; omega) _, h.res.far (by have := h.lt; simp; omega) _, he ▸ h.ob.set_ i v, h.lt, h.below.setCell (p := ⟨B, i, none⟩) (by have := h.lt; simp; omega) _⟩
theorem GS.row (h : GS w W l B o) (o' : Oj) : GS w (W.setRow B o'.cells.toArray) l B o' :=
  ⟨(setRow_other W B _ _ (by have := h.lt; omega)).trans h.sec, (setRow_other W B _ _ (by have := h.lt; omega)).trans h.res, setRow_heap W B o.cells.toArray o'.cells.toArray 44 (0, 0) h.ob, h.lt, h.below.trans (below_lt (setRow_fr W _ _) h.below.size (fun j hj => by have := h.lt; omega))⟩
end
set_option maxRecDepth 8000 in
theorem first_b0 {l : List UInt8} (h : 0 < l.length) : l[0]'h = b0 l := by
  cases l with
  | nil => simp at h
  | cons x l => rfl
set_option maxRecDepth 8000 in
theorem rnum_0 (b i n c : Nat) (l : List UInt8) (w : World) (hl : i + n ≤ l.length) (hr : Rd w (some ⟨b, 0, none⟩) l) (h8 : n ≤ 8) :
    Calls Tryd.prog 32 #[.slice (some ⟨b, i, none⟩) n c] w fun e w' => e = .returned (.int .u64 (numLE ((l.drop i).take n) : Int)) ∧ w = w' := by
  have h := rnum_at b 0 i n c l w hl hr h8
  rwa [Nat.zero_add] at h
theorem z34r (w : World) : (zeroValue 44).run Tryd.prog w = .ok oz.val w := z34 w
set_option maxRecDepth 8000 in
theorem rcget_arg (l : List UInt8) (n : Int) (w : World) (h : ¬ (1 ≤ n ∧ n ≤ 64)) :
    Calls Tryd.prog 20 #[sv l, .int .i64 n] w fun e w' => e = .returned (.tuple #[oz.val, .int .i64 2]) ∧ Below w.heap.size w w' := by
  have hz := z34
  have hbl := oz_len
  have HB := Lib.hid (((Below.refl w.heap.size w).alloc (Nat.le_refl _) (.cells (bv l).toArray 45)).alloc (by simp) (.cells oz.cells.toArray 44))
  have H1 := Lib.hid (Blk.new_of (w.alloc (.cells (bv l).toArray 45)) 44 oz.cells.toArray (g := w.heap.size + 1) (by simp))
  have fin : ∀ W, W = (w.alloc (.cells (bv l).toArray 45)).alloc (.cells oz.cells.toArray 44) → Below w.heap.size w (W.setRow (w.heap.size + 1) oz.cells.toArray) ∧ Blk (W.setRow (w.heap.size + 1) oz.cells.toArray) (w.heap.size + 1) 44 oz.cells.toArray := fun W e => by
    subst e
    exact ⟨HB.out.trans (below_lt (setRow_fr _ _ _) HB.out.size (fun j hj => by omega)), setRow_heap _ (w.heap.size + 1) oz.cells.toArray oz.cells.toArray 44 (0, 0) H1.out⟩
  have FIN := Lib.hid fin
  clear fin
  by_cases h1 : n < 1
  · have d1 : decide (n < 1) = true := decide_eq_true h1
    clear h h1
    go_enter Tryd.func20, Tryd.ntmps20
    go_wp2_with (first
      | (show wpList _ _ _ ({ dst := some 21, op := .build _ _, type := _, pos := _, after := _, guard := _ } :: _) _ _; refine wpList_yields (S := fun _ => True) (y_build (by rfl) (by rfl) built34) trivial ?_)
      | (show wpList _ _ _ ({ dst := none, op := .store _ _ _, type := _, pos := _, after := _, guard := _ } :: _) _ _; refine wpList_store_row rfl 44 (.tmp 4) (.tmp 21) rfl (w.heap.size + 1) oz.cells.toArray rfl rfl 44 oz.cells.toArray H1.out (by rw [List.size_toArray, Oj.len]; exact size34) rfl (Oj.allOne _) ?_))
    obtain ⟨f1, f2⟩ := FIN.out _ rfl
    exact bodyPost_ret (res_1t rfl _ _ (w.heap.size + 1) _ _ rfl rfl (load_ob _ f2)) rfl ⟨rfl, f1⟩
  · have d1 : decide (n < 1) = false := decide_eq_false h1
    have d2 : decide (64 < n) = true := decide_eq_true (by omega)
    clear h h1
    go_enter Tryd.func20, Tryd.ntmps20
    go_wp2_with (first
      | (show wpList _ _ _ ({ dst := some 21, op := .build _ _, type := _, pos := _, after := _, guard := _ } :: _) _ _; refine wpList_yields (S := fun _ => True) (y_build (by rfl) (by rfl) built34) trivial ?_)
      | (show wpList _ _ _ ({ dst := none, op := .store _ _ _, type := _, pos := _, after := _, guard := _ } :: _) _ _; refine wpList_store_row rfl 44 (.tmp 4) (.tmp 21) rfl (w.heap.size + 1) oz.cells.toArray rfl rfl 44 oz.cells.toArray H1.out (by rw [List.size_toArray, Oj.len]; exact size34) rfl (Oj.allOne _) ?_))
    obtain ⟨f1, f2⟩ := FIN.out _ rfl
    exact bodyPost_ret (res_1t rfl _ _ (w.heap.size + 1) _ _ rfl rfl (load_ob _ f2)) rfl ⟨rfl, f1⟩
set_option maxRecDepth 8000 in
theorem rcget_sum (l : List UInt8) (hl : l.length = 512) (n : Int) (w : World) (h : 1 ≤ n ∧ n ≤ 64) (hs : ¬ sumok l) :
    Calls Tryd.prog 20 #[sv l, .int .i64 n] w fun e w' => e = .returned (.tuple #[oz.val, .int .i64 150]) ∧ Below w.heap.size w w' := by
  have hz := z34
  have hbl := oz_len
  have HB := Lib.hid (((Below.refl w.heap.size w).alloc (Nat.le_refl _) (.cells (bv l).toArray 45)).alloc (by simp) (.cells oz.cells.toArray 44))
  have H0 := Lib.hid ((Blk.new w 45 (bv l).toArray).alloc (.cells oz.cells.toArray 44))
  have H1 := Lib.hid (Blk.new_of (w.alloc (.cells (bv l).toArray 45)) 44 oz.cells.toArray (g := w.heap.size + 1) (by simp))
  have d1 : decide (n < 1) = false := decide_eq_false (by omega)
  have d2 : decide (64 < n) = false := decide_eq_false (by omega)
  have HL := Lib.hid hl
  have HS := Lib.hid (sum_no hl hs)
  clear h hs hl
  go_enter Tryd.func20, Tryd.ntmps20
  go_wp2_with (first
    | (go_at_call 43; refine (rsealed_any false _ 508 512 l _ HL.out (by decide) (rd_blk H0.out) (by decide) HS.out).mono ?_; rintro e w1 ⟨v, rfl, -, hb⟩; have B1 := Lib.hid (HB.out.trans (hb.mono HB.out.size)); have R1 := Lib.hid (Blk.keep H1.out hb); clear hb)
    | (show wpList _ _ _ ({ dst := some 29, op := .build _ _, type := _, pos := _, after := _, guard := _ } :: _) _ _; refine wpList_yields (S := fun _ => True) (y_build (by rfl) (by rfl) built34) trivial ?_)
    | (show wpList _ _ _ ({ dst := none, op := .store _ _ _, type := _, pos := _, after := _, guard := _ } :: _) _ _; refine wpList_store_row rfl 44 (.tmp 4) (.tmp 29) rfl (w.heap.size + 1) oz.cells.toArray rfl rfl 44 oz.cells.toArray R1.out (by rw [List.size_toArray, Oj.len]; exact size34) rfl (Oj.allOne _) ?_))
  have h4 := setRow_heap w1 (w.heap.size + 1) oz.cells.toArray oz.cells.toArray 44 (0, 0) R1.out
  have h5 : Below w.heap.size w (w1.setRow (w.heap.size + 1) oz.cells.toArray) := B1.out.trans (below_lt (setRow_fr w1 _ _) B1.out.size (fun j hj => by omega))
  exact bodyPost_ret (res_1t rfl _ _ (w.heap.size + 1) _ _ rfl rfl (load_ob _ h4)) rfl ⟨rfl, h5⟩
set_option maxRecDepth 100000 in
set_option maxHeartbeats 16000000 in
theorem rcget_3 (l : List UInt8) (hl : l.length = 512) (n : Int) (w : World) (h : 1 ≤ n ∧ n ≤ 64) (hs : sumok l) :
    Calls Tryd.prog 20 #[sv l, .int .i64 n] w fun e w' => (∃ v e0, e = .returned (.tuple #[Oj.val v, .int .i64 e0]) ∧ ((Gok n l ∧ v = obof (l.take 508) ∧ e0 = 0) ∨ (¬ Gok n l ∧ v = oz ∧ e0 = 151))) ∧ Below w.heap.size w w' := by
  have hz := z34
  have hbl := oz_len
  have HB := Lib.hid (((Below.refl w.heap.size w).alloc (Nat.le_refl _) (.cells (bv l).toArray 45)).alloc (by simp) (.cells oz.cells.toArray 44))
  have H0 := Lib.hid ((Blk.new w 45 (bv l).toArray).alloc (.cells oz.cells.toArray 44))
  have H1 := Lib.hid (Blk.new_of (w.alloc (.cells (bv l).toArray 45)) 44 oz.cells.toArray (g := w.heap.size + 1) (by simp))
  have d1 : decide (n < 1) = false := decide_eq_false (by omega)
  have d2 : decide (64 < n) = false := decide_eq_false (by omega)
  have HL := Lib.hid hl
  have HS := Lib.hid (sum_yes hl hs)
  have HSU := Lib.hid hs
  have HU0 := Lib.hid (show Oj.cells ⟨((b0 l).toNat : Int), (numLE ((l.drop 4).take 4) : Int), (numLE ((l.drop 8).take 4) : Int), zks, zbs, List.length_replicate, List.length_replicate⟩ = (part (obof (l.take 508)) 0 0).cells by
    unfold part
    simp only [List.take_zero, List.drop_zero, List.nil_append]
    show Oj.cells _ = Oj.cells _
    have e0 : b0 (l.take 508) = b0 l := b0_take l 508 (by decide)
    have e1 : ((l.take 508).drop 4).take 4 = (l.drop 4).take 4 := by rw [List.drop_take, List.take_take]; rfl
    have e2 : ((l.take 508).drop 8).take 4 = (l.drop 8).take 4 := by rw [List.drop_take, List.take_take]; rfl
    unfold Oj.cells
    simp only [obof, e0, e1, e2])
  have w1 := wrap_i64u (b0 l)
  have w4 := wrap_i64n (numLE ((l.drop 4).take 4)) (by have h := numLE_lt ((l.drop 4).take 4); rw [show ((l.drop 4).take 4).length = 4 by rw [List.length_take, List.length_drop]; omega] at h; omega)
  have w8 := wrap_i64n (numLE ((l.drop 8).take 4)) (by have h := numLE_lt ((l.drop 8).take 4); rw [show ((l.drop 8).take 4).length = 4 by rw [List.length_take, List.length_drop]; omega] at h; omega)
  clear h hs hl
  go_enter Tryd.func20, Tryd.ntmps20
  go_wp2_with (go_at_call 43; refine (rsealed_any true _ 508 512 l _ HL.out (by decide) (rd_blk H0.out) (by decide) HS.out).mono ?_; rintro e u1 ⟨v, rfl, -, hb⟩; have B1 := Lib.hid (HB.out.trans (hb.mono HB.out.size)); have R0 := Lib.hid (Blk.keep H0.out hb); have R1 := Lib.hid (Blk.keep H1.out hb); clear hb)
  refine wp_region_only (S := fun w' => w'.cell? ⟨w.heap.size, 0, none⟩ = some (.int .u8 ((b0 l).toNat : Int)) ∧ Rd w' (some ⟨w.heap.size, 0, none⟩) l) (by kernel_rfl) ⟨by have := byte_of_range (rd_range (rd_blk (Blk.drew R0.out))) 0 (by have := HL.out; omega); rw [first_b0] at this; simpa using this, rd_blk (Blk.drew R0.out)⟩ (fun hHeld => ?_)
  refine wpAnyH_take (i := 0) (v := ?v1) rfl (by kernel_rfl) (by kernel_rfl) (by kernel_rfl) (fun _ _ _ h => h) (Or.inl ⟨by rfl, ?hy1⟩) hHeld ?rest1
  case hy1 =>
    intro w' hSw
    try dsimp only at hSw
    go_simp
    first | done | with_reducible rfl
  try simp only [Act.put, List.getElem_toArray, List.getElem_cons_zero, List.setIfInBounds_toArray, List.set_cons_zero, List.set_cons_succ]
  refine wpAnyH_take (i := 1) (v := ?v2) rfl (by kernel_rfl) (by kernel_rfl) (by kernel_rfl) (fun _ _ _ h => h) (Or.inl ⟨by rfl, ?hy2⟩) hHeld ?rest2
  case hy2 =>
    intro w' hSw
    try dsimp only at hSw
    go_simp
    first | done | with_reducible rfl
  try simp only [Act.put, List.getElem_toArray, List.getElem_cons_succ, List.getElem_cons_zero, List.setIfInBounds_toArray, List.set_cons_zero, List.set_cons_succ]
  refine wpAnyH_take (i := 2) (v := ?v3) rfl (by kernel_rfl) (by kernel_rfl) (by kernel_rfl) (fun _ _ _ h => h) (Or.inl ⟨by rfl, ?hy3⟩) hHeld ?rest3
  case hy3 =>
    intro w' hSw
    try dsimp only at hSw
    go_simp
    first | done | with_reducible rfl
  try simp only [Act.put, List.getElem_toArray, List.getElem_cons_succ, List.getElem_cons_zero, List.setIfInBounds_toArray, List.set_cons_zero, List.set_cons_succ]
  refine wpAnyH_take (i := 3) (v := ?v4) rfl (by kernel_rfl) (by kernel_rfl) (by kernel_rfl) (fun _ _ _ h => h) (Or.inl ⟨by rfl, ?hy4⟩) hHeld ?rest4
  case hy4 =>
    intro w' hSw
    try dsimp only at hSw
    go_simp
    first | done | with_reducible rfl
  try simp only [Act.put, List.getElem_toArray, List.getElem_cons_succ, List.getElem_cons_zero, List.setIfInBounds_toArray, List.set_cons_zero, List.set_cons_succ]
  refine wpAnyH_take (i := 6) (v := ?v5) rfl (by kernel_rfl) (by kernel_rfl) (by kernel_rfl) (fun _ _ _ h => h) (Or.inl ⟨by rfl, ?hy5⟩) hHeld ?rest5
  case hy5 =>
    intro w' hSw
    try dsimp only at hSw
    go_simp
    first | done | with_reducible rfl
  try simp only [Act.put, List.getElem_toArray, List.getElem_cons_succ, List.getElem_cons_zero, List.setIfInBounds_toArray, List.set_cons_zero, List.set_cons_succ]
  refine wpAnyH_ready (rs := [4, 10]) (by kernel_rfl) (by simp) ?_
  refine AllReadyH.cons (by rfl) (fun K hK => ?_) (AllReadyH.cons (by rfl) (fun K hK => ?_) AllReadyH.nil)
  · go_simp
    refine (rnum_0 w.heap.size 4 4 _ l _ (by have := HL.out; omega) (rd_blk (Blk.drew R0.out)) (by decide)).mono ?_
    rintro e y1 ⟨rfl, rfl⟩
    clear hHeld
    go_wp2_with fail
    refine hK.out _ _ ⟨by have := byte_of_range (rd_range (rd_blk (Blk.drew R0.out))) 0 (by have := HL.out; omega); rw [first_b0] at this; simpa using this, rd_blk (Blk.drew R0.out)⟩ (fun hHeld => ?_)
    clear hK K
    try simp only [Act.put, List.getElem_toArray, List.getElem_cons_succ, List.getElem_cons_zero, List.setIfInBounds_toArray, List.set_cons_zero, List.set_cons_succ]
    refine wpAnyH_take (i := 5) (v := ?v6) rfl (by kernel_rfl) (by kernel_rfl) (by kernel_rfl) (fun _ _ _ h => h) (Or.inl ⟨by rfl, ?hy6⟩) hHeld ?rest6
    case hy6 =>
      intro w' hSw
      try dsimp only at hSw
      go_simp
      first | done | with_reducible rfl
    try simp only [Act.put, List.getElem_toArray, List.getElem_cons_succ, List.getElem_cons_zero, List.setIfInBounds_toArray, List.set_cons_zero, List.set_cons_succ]
    refine wpAnyH_ready (rs := [7, 10]) (by kernel_rfl) (by simp) ?_
    refine AllReadyH.cons (by rfl) (fun K hK => ?_) (AllReadyH.cons (by rfl) (fun K hK => ?_) AllReadyH.nil)
    · go_simp
      refine (rnum_0 w.heap.size 8 4 _ l _ (by have := HL.out; omega) (rd_blk (Blk.drew R0.out)) (by decide)).mono ?_
      rintro e y2 ⟨rfl, rfl⟩
      clear hHeld
      go_wp2_with fail
      refine hK.out _ _ ⟨by have := byte_of_range (rd_range (rd_blk (Blk.drew R0.out))) 0 (by have := HL.out; omega); rw [first_b0] at this; simpa using this, rd_blk (Blk.drew R0.out)⟩ (fun hHeld => ?_)
      clear hK K
      try simp only [Act.put, List.getElem_toArray, List.getElem_cons_succ, List.getElem_cons_zero, List.setIfInBounds_toArray, List.set_cons_zero, List.set_cons_succ]
      refine wpAnyH_take (i := 8) (v := ?v7) rfl (by kernel_rfl) (by kernel_rfl) (by kernel_rfl) (fun _ _ _ h => h) (Or.inl ⟨by rfl, ?hy7⟩) hHeld ?rest7
      case hy7 =>
        intro w' hSw
        try dsimp only at hSw
        go_simp
        first | done | with_reducible rfl
      try simp only [Act.put, List.getElem_toArray, List.getElem_cons_succ, List.getElem_cons_zero, List.setIfInBounds_toArray, List.set_cons_zero, List.set_cons_succ]
      refine wpAnyH_take (i := 9) rfl (by kernel_rfl) (by kernel_rfl) (by kernel_rfl) (fun _ _ _ h => h) (y_build_3 (.tmp 32) (.tmp 35) (.tmp 38) _ _ _ (by rfl) rfl (by rfl) (by rfl) (by rfl) (built_o3 _ _ _)) hHeld ?_
      try simp only [Act.put, List.getElem_toArray, List.getElem_cons_succ, List.getElem_cons_zero, List.setIfInBounds_toArray, List.set_cons_zero, List.set_cons_succ]
      refine wpAnyH_ready (rs := [10]) (by kernel_rfl) (by simp) ?_
      refine AllReadyH.cons (by rfl) (fun K hK => ?_) AllReadyH.nil
      go_simp
      clear hHeld
      refine hK.out _ _ ⟨by have := byte_of_range (rd_range (rd_blk (Blk.drew (Blk.alloc R0.out (.cells oz.cells.toArray 44))))) 0 (by have := HL.out; omega); rw [first_b0] at this; simpa using this, rd_blk (Blk.drew (Blk.alloc R0.out (.cells oz.cells.toArray 44)))⟩ (fun hHeld => ?_)
      clear hK K
      try simp only [Act.put, List.getElem_toArray, List.getElem_cons_succ, List.getElem_cons_zero, List.setIfInBounds_toArray, List.set_cons_zero, List.set_cons_succ]
      refine wpAnyH_ready (rs := [11]) (by kernel_rfl) (by simp) ?_
      refine AllReadyH.cons (by rfl) (fun K hK => ?_) AllReadyH.nil
      clear hHeld
      refine step_store_newd rfl 44 (.tmp 8) (.tmp 39) rfl (by first | rfl | (simp; rfl)) (Oj.cells ⟨((b0 l).toNat : Int), (numLE ((l.drop 4).take 4) : Int), (numLE ((l.drop 8).take 4) : Int), zks, zbs, List.length_replicate, List.length_replicate⟩).toArray oz.cells.toArray rfl (by rw [List.size_toArray, Oj.len]; exact size34) (by simp only [List.size_toArray, Oj.len]) (Oj.allOne _) ?_
      refine hK.out _ _ ⟨by have := byte_of_range (rd_range (rd_blk (Blk.drew (Blk.alloc R0.out (.cells (Oj.cells ⟨((b0 l).toNat : Int), (numLE ((l.drop 4).take 4) : Int), (numLE ((l.drop 8).take 4) : Int), zks, zbs, List.length_replicate, List.length_replicate⟩).toArray 44))))) 0 (by have := HL.out; omega); rw [first_b0] at this; simpa using this, rd_blk (Blk.drew (Blk.alloc R0.out (.cells (Oj.cells ⟨((b0 l).toNat : Int), (numLE ((l.drop 4).take 4) : Int), (numLE ((l.drop 8).take 4) : Int), zks, zbs, List.length_replicate, List.length_replicate⟩).toArray 44)))⟩ (fun hHeld => ?_)
      clear hK K
      try simp only [Act.put, List.getElem_toArray, List.getElem_cons_succ, List.getElem_cons_zero]
      refine wpAnyH_done (by kernel_rfl) ?_ _
      refine OnlyN.normal ?_
      have hg : GS w ((u1.alloc (.cells (Oj.cells ⟨((b0 l).toNat : Int), (numLE ((l.drop 4).take 4) : Int), (numLE ((l.drop 8).take 4) : Int), zks, zbs, List.length_replicate, List.length_replicate⟩).toArray 44)).drew) l u1.heap.size (part (obof (l.take 508)) 0 0) :=
        ⟨Blk.drew (Blk.alloc R0.out _), Blk.drew (Blk.alloc R1.out _), by rw [← HU0.out]; exact Blk.drew (Blk.new u1 44 _), Blk.lt R1.out, (B1.out.alloc B1.out.size _).drew⟩
      have HG := Lib.hid hg
      clear hg hHeld w1 w4 w8 R0 R1 B1 HB H0 H1 HU0 HS d1 d2
      go_wp2
      generalize ((u1.alloc (.cells (Oj.cells ⟨((b0 l).toNat : Int), (numLE ((l.drop 4).take 4) : Int), (numLE ((l.drop 8).take 4) : Int), zks, zbs, List.length_replicate, List.length_replicate⟩).toArray 44)).drew) = W6 at HG ⊢
      generalize u1.heap.size = B at HG ⊢
      obtain ⟨U, hU⟩ : ∃ U, obof (l.take 508) = U := ⟨_, rfl⟩
      rw [hU] at HG
      have HU := Lib.hid hU
      clear hU
      go_loopw [9] (fun v wr => ∃ i : Nat, i ≤ 16 ∧ v = .int .i64 i ∧ GS w wr l B (part U i 0)) (fun v _ => 17 - (intOf v).toNat)
      case atStart => exact ⟨0, by omega, rfl, HG.out⟩
      case round =>
        clear HG
        obtain ⟨i, hi, rfl, hg⟩ := hrel
        have HG := Lib.hid hg
        clear hg
        by_cases hlt : i < 16
        · have hsl := cut_slot w.heap.size i hlt
          have i1 : (i : Int) < 16 := by omega
          have HQ := Lib.hid (slotB_length HL.out hlt)
          have RQ := Lib.hid (slot_rd (rd_blk HG.out.sec) i)
          have hx := slot_get (l := l) hlt
          rw [HU.out] at hx
          have HPK := Lib.hid (grow_key U i hlt _ hx)
          have HXS := Lib.hid (List.mem_of_getElem? hx)
          have HLT := Lib.hid hlt
          by_cases hok : (kof (slotB l i)).ok
          · have HOK := Lib.hid hok
            clear hok hx
            go_wp2_with (first
              | (go_at_call 16; refine (rgetkey_yes w.heap.size (12 + 20 * i) _ (slotB l i) _ HOK.out HQ.out (by omega) RQ.out).mono ?_; rintro e w7 ⟨rfl, hb⟩; have G7 := Lib.hid ((HG.out.call hb).alloc (.cells (kl (kof (slotB l i))).toArray 25)); clear hb)
              | (show wpList _ _ _ ({ dst := none, op := .store 25 (.tmp 61) (.tmp 59), type := _, pos := _, after := _, guard := _ } :: _) _ _; refine wpList_store_mid (ys := kl (kof (slotB l i))) (l := (part U i 0).cells) rfl 25 (.tmp 61) (.tmp 59) rfl G7.out.ob rfl rfl (by have := HLT.out; rw [Oj.len]; show 3 + i * 6 + 6 ≤ 163; omega) size25 (kl_one _) ?_; rw [HPK.out]; have G8 := Lib.hid (G7.out.row (part U (i + 1) 0))))
            go_roundw
            case rel => exact ⟨i + 1, by omega, by go_num, G8.out⟩
            case measure => simp [intOf]; omega
          · have HNG := Lib.hid (show ¬ Gok n l from fun h => hok (slot_ok (HU.out ▸ h.2.2) _ HXS.out))
            have HOK := Lib.hid hok
            clear hok hx
            go_wp2_with (first
              | (go_at_call 16; refine (rgetkey_no w.heap.size (12 + 20 * i) _ (slotB l i) _ HOK.out HQ.out (by omega) RQ.out).mono ?_; rintro e w7 ⟨rfl, hb⟩; have G7 := Lib.hid ((HG.out.call hb).alloc (.cells (kl zk).toArray 25)); clear hb)
              | (show wpList _ _ _ ({ dst := some 57, op := .build _ _, type := _, pos := _, after := _, guard := _ } :: _) _ _; refine wpList_yields (S := fun _ => True) (y_build (by rfl) (by rfl) built34) trivial ?_)
              | (show wpList _ _ _ ({ dst := none, op := .store 44 (.tmp 4) (.tmp 57), type := _, pos := _, after := _, guard := _ } :: _) _ _; refine wpList_store_row rfl 44 (.tmp 4) (.tmp 57) rfl (w.heap.size + 1) oz.cells.toArray rfl rfl 44 oz.cells.toArray G7.out.res (by rw [List.size_toArray, Oj.len]; exact size34) rfl (Oj.allOne _) ?_))
            have h4 := setRow_heap (w7.alloc (.cells (kl zk).toArray 25)) (w.heap.size + 1) oz.cells.toArray oz.cells.toArray 44 (0, 0) G7.out.res
            have h5 : Below w.heap.size w ((w7.alloc (.cells (kl zk).toArray 25)).setRow (w.heap.size + 1) oz.cells.toArray) := G7.out.below.trans (below_lt (setRow_fr _ _ _) G7.out.below.size (fun j hj => by omega))
            exact bodyPost_ret (res_1t rfl _ _ (w.heap.size + 1) _ _ rfl rfl (load_ob _ h4)) rfl ⟨⟨oz, 151, rfl, .inr ⟨HNG.out, rfl, rfl⟩⟩, h5⟩
        · obtain rfl : i = 16 := by omega
          rw [show ((16 : Nat) : Int) = 16 from rfl]
          go_wp2
          go_loopw [12] (fun v wr => ∃ j : Nat, j ≤ 64 ∧ v = .int .i64 j ∧ GS w wr l B (part U 16 j)) (fun v _ => 65 - (intOf v).toNat)
          case atStart => exact ⟨0, by omega, rfl, HG.out⟩
          case round =>
            clear HG
            obtain ⟨j, hj, rfl, hg⟩ := hrel
            by_cases hlt : j < 64
            · have hx := byte_get HL.out hlt
              rw [HU.out, List.getElem?_eq_getElem (show 332 + j < l.length by have := HL.out; omega)] at hx
              have c0 := byte_of_range (rd_range (rd_blk hg.sec)) (332 + j) (by have := HL.out; omega)
              rw [Nat.zero_add] at c0
              obtain ⟨x, hxe⟩ : ∃ x, l[332 + j]'(by have := HL.out; omega) = x := ⟨_, rfl⟩
              rw [hxe] at hx c0
              obtain ⟨y, hy⟩ : ∃ y, (part U 16 j).cells.toArray[99 + j]? = some y := ⟨_, Array.getElem?_eq_getElem (by rw [List.size_toArray, Oj.len]; omega)⟩
              have c2 : wr.cell? ⟨B, 99 + j, none⟩ = some y := (hg.ob.cell (99 + j)).trans hy
              have f2 : wr.frozen? ⟨B, 99 + j, none⟩ = false := hg.ob.frozen (99 + j)
              have G8 := Lib.hid (hg.set_ (99 + j) (.int .u8 (x.toNat : Int)) (grow_byte U j hlt x hx))
              have i1 : (j : Int) < 64 := by omega
              have i3 : 332 + (j : Int) < 512 := by omega
              clear hg hx hxe hy
              go_wp2
              go_roundw
              case rel => exact ⟨j + 1, by omega, by go_num, G8.out⟩
              case measure => simp [intOf]; omega
            · obtain rfl : j = 64 := by omega
              rw [show ((64 : Nat) : Int) = 64 from rfl]
              rw [part_all] at hg
              have HG := Lib.hid hg
              clear hg
              by_cases hok : U.ok n
              · have HOK := Lib.hid hok
                have HF := Lib.hid (show U.fit from HU.out ▸ part_fit (n := n) (HU.out.symm ▸ hok))
                have HLS := Lib.hid (sealed_len U)
                have HA := Lib.hid (show (Tryd.prog.info? 45).map (·.size) = some (bv (sealN (obs U))).toArray.size by rw [List.size_toArray, bv_length, HLS.out]; exact size45)
                have HO2 := Lib.hid (show (bv z512).toArray.size = (bv (sealN (obs U))).toArray.size by rw [List.size_toArray, List.size_toArray, bv_length, bv_length, HLS.out]; rfl)
                have hzz := z45
                by_cases heq : sealN (obs U) = l
                · have HGK := Lib.hid (show Gok n l by
                    have h := (again_iff HL.out HSU.out).1 (HU.out.symm ▸ heq)
                    exact ⟨h.1, h.2, HU.out.symm ▸ hok⟩)
                  have hne : (!decide (sealN (obs U) = l)) = false := by rw [decide_eq_true heq]; rfl
                  clear hok heq
                  go_wp2_with (first
                    | (show wpList _ _ _ ({ dst := some 74, op := .load 44 (.tmp 8), type := _, pos := _, after := _, guard := _ } :: _) _ _; refine wpList_yields (S := fun w' => ObAt w' B 0 U) (y_ob (by rfl) (.tmp 8) (by rfl) B 0 (by rfl) U (fun _ h => h)) HG.out.ob.ob ?_)
                    | (go_at_call 18; refine (rcput_yes U n _ HOK.out HF.out).mono ?_; rintro e w7 ⟨rfl, hb⟩; have G7 := Lib.hid ((HG.out.call hb).alloc (.cells (bv (sealN (obs U))).toArray 45)); clear hb)
                    | (show wpList _ _ _ ({ dst := none, op := .store 45 (.tmp 13) (.tmp 77), type := _, pos := _, after := _, guard := _ } :: _) _ _; refine wpList_store_new rfl 45 (.tmp 13) (.tmp 77) rfl w7.heap.size rfl rfl (bv (sealN (obs U))).toArray (bv z512).toArray rfl HA.out HO2.out (bv_all _) ?_)
                    | (show wpList _ _ _ ({ dst := some 82, op := .load 45 (.tmp 13), type := _, pos := _, after := _, guard := _ } :: _) _ _; refine wpList_yields (S := fun w' => w'.rangeAt w7.heap.size 0 (bv (sealN (obs U)))) (y_sec (by rfl) (.tmp 13) (by rfl) w7.heap.size 0 (by rfl) _ HLS.out (fun _ h => h)) (rd_range (rd_blk (Blk.new w7 45 _))) ?_)
                    | (show wpList _ _ _ ({ dst := some 83, op := .load 45 (.tmp 2), type := _, pos := _, after := _, guard := _ } :: _) _ _; refine wpList_yields (S := fun w' => w'.rangeAt w.heap.size 0 (bv l)) (y_sec (by rfl) (.tmp 2) (by rfl) w.heap.size 0 (by rfl) _ HL.out (fun _ h => h)) (rd_range (rd_blk G7.out.sec)) ?_)
                    | (show wpList _ _ _ ({ dst := some 84, op := .binOp .neq 45 (.tmp 82) (.tmp 83) 45, type := _, pos := _, after := _, guard := _ } :: _) _ _; refine wpList_yields (S := fun _ => True) (y_secne (by rfl) (by rfl) (sealN (obs U)) l HLS.out HL.out false hne (by rfl) (by rfl)) trivial ?_)
                    | (show wpList _ _ _ ({ dst := some 87, op := .load 44 (.tmp 8), type := _, pos := _, after := _, guard := _ } :: _) _ _; refine wpList_yields (S := fun w' => ObAt w' B 0 U) (y_ob (by rfl) (.tmp 8) (by rfl) B 0 (by rfl) U (fun _ h => h)) G7.out.ob.ob ?_)
                    | (show wpList _ _ _ ({ dst := none, op := .store 44 (.tmp 4) (.tmp 87), type := _, pos := _, after := _, guard := _ } :: _) _ _; refine wpList_store_row rfl 44 (.tmp 4) (.tmp 87) rfl (w.heap.size + 1) U.cells.toArray rfl rfl 44 oz.cells.toArray G7.out.res (by rw [List.size_toArray, Oj.len]; exact size34) (by simp only [List.size_toArray, Oj.len]) (Oj.allOne _) ?_))
                  have h4 := setRow_heap (w7.alloc (.cells (bv (sealN (obs U))).toArray 45)) (w.heap.size + 1) oz.cells.toArray U.cells.toArray 44 (0, 0) G7.out.res
                  have h5 : Below w.heap.size w ((w7.alloc (.cells (bv (sealN (obs U))).toArray 45)).setRow (w.heap.size + 1) U.cells.toArray) := G7.out.below.trans (below_lt (setRow_fr _ _ _) G7.out.below.size (fun j hj => by omega))
                  exact bodyPost_ret (res_1t rfl _ _ (w.heap.size + 1) _ _ rfl rfl (load_ob _ h4)) rfl ⟨⟨U, 0, rfl, .inl ⟨HGK.out, HU.out.symm, rfl⟩⟩, h5⟩
                · have HNG := Lib.hid (show ¬ Gok n l from fun h => heq (HU.out ▸ (again_iff HL.out HSU.out).2 ⟨h.1, h.2.1⟩))
                  have hne : (!decide (sealN (obs U) = l)) = true := by rw [decide_eq_false heq]; rfl
                  clear hok heq
                  go_wp2_with (first
                    | (show wpList _ _ _ ({ dst := some 74, op := .load 44 (.tmp 8), type := _, pos := _, after := _, guard := _ } :: _) _ _; refine wpList_yields (S := fun w' => ObAt w' B 0 U) (y_ob (by rfl) (.tmp 8) (by rfl) B 0 (by rfl) U (fun _ h => h)) HG.out.ob.ob ?_)
                    | (go_at_call 18; refine (rcput_yes U n _ HOK.out HF.out).mono ?_; rintro e w7 ⟨rfl, hb⟩; have G7 := Lib.hid ((HG.out.call hb).alloc (.cells (bv (sealN (obs U))).toArray 45)); clear hb)
                    | (show wpList _ _ _ ({ dst := none, op := .store 45 (.tmp 13) (.tmp 77), type := _, pos := _, after := _, guard := _ } :: _) _ _; refine wpList_store_new rfl 45 (.tmp 13) (.tmp 77) rfl w7.heap.size rfl rfl (bv (sealN (obs U))).toArray (bv z512).toArray rfl HA.out HO2.out (bv_all _) ?_)
                    | (show wpList _ _ _ ({ dst := some 82, op := .load 45 (.tmp 13), type := _, pos := _, after := _, guard := _ } :: _) _ _; refine wpList_yields (S := fun w' => w'.rangeAt w7.heap.size 0 (bv (sealN (obs U)))) (y_sec (by rfl) (.tmp 13) (by rfl) w7.heap.size 0 (by rfl) _ HLS.out (fun _ h => h)) (rd_range (rd_blk (Blk.new w7 45 _))) ?_)
                    | (show wpList _ _ _ ({ dst := some 83, op := .load 45 (.tmp 2), type := _, pos := _, after := _, guard := _ } :: _) _ _; refine wpList_yields (S := fun w' => w'.rangeAt w.heap.size 0 (bv l)) (y_sec (by rfl) (.tmp 2) (by rfl) w.heap.size 0 (by rfl) _ HL.out (fun _ h => h)) (rd_range (rd_blk G7.out.sec)) ?_)
                    | (show wpList _ _ _ ({ dst := some 84, op := .binOp .neq 45 (.tmp 82) (.tmp 83) 45, type := _, pos := _, after := _, guard := _ } :: _) _ _; refine wpList_yields (S := fun _ => True) (y_secne (by rfl) (by rfl) (sealN (obs U)) l HLS.out HL.out true hne (by rfl) (by rfl)) trivial ?_)
                    | (show wpList _ _ _ ({ dst := some 86, op := .build _ _, type := _, pos := _, after := _, guard := _ } :: _) _ _; refine wpList_yields (S := fun _ => True) (y_build (by rfl) (by rfl) built34) trivial ?_)
                    | (show wpList _ _ _ ({ dst := none, op := .store 44 (.tmp 4) (.tmp 86), type := _, pos := _, after := _, guard := _ } :: _) _ _; refine wpList_store_row rfl 44 (.tmp 4) (.tmp 86) rfl (w.heap.size + 1) oz.cells.toArray rfl rfl 44 oz.cells.toArray G7.out.res (by rw [List.size_toArray, Oj.len]; exact size34) rfl (Oj.allOne _) ?_))
                  have h4 := setRow_heap (w7.alloc (.cells (bv (sealN (obs U))).toArray 45)) (w.heap.size + 1) oz.cells.toArray oz.cells.toArray 44 (0, 0) G7.out.res
                  have h5 : Below w.heap.size w ((w7.alloc (.cells (bv (sealN (obs U))).toArray 45)).setRow (w.heap.size + 1) oz.cells.toArray) := G7.out.below.trans (below_lt (setRow_fr _ _ _) G7.out.below.size (fun j hj => by omega))
                  exact bodyPost_ret (res_1t rfl _ _ (w.heap.size + 1) _ _ rfl rfl (load_ob _ h4)) rfl ⟨⟨oz, 151, rfl, .inr ⟨HNG.out, rfl, rfl⟩⟩, h5⟩
              · have HNG := Lib.hid (show ¬ Gok n l from fun h => hok (HU.out ▸ h.2.2))
                have HOK := Lib.hid hok
                have HA := Lib.hid (show (Tryd.prog.info? 45).map (·.size) = some (bv z512).toArray.size by rw [List.size_toArray, bv_length]; exact size45)
                have hzz := z45
                clear hok
                go_wp2_with (first
                  | (show wpList _ _ _ ({ dst := some 74, op := .load 44 (.tmp 8), type := _, pos := _, after := _, guard := _ } :: _) _ _; refine wpList_yields (S := fun w' => ObAt w' B 0 U) (y_ob (by rfl) (.tmp 8) (by rfl) B 0 (by rfl) U (fun _ h => h)) HG.out.ob.ob ?_)
                  | (go_at_call 18; refine (rcput_no U n _ HOK.out).mono ?_; rintro e w7 ⟨rfl, hb⟩; have G7 := Lib.hid ((HG.out.call hb).alloc (.cells (bv z512).toArray 45)); clear hb)
                  | (show wpList _ _ _ ({ dst := none, op := .store 45 (.tmp 13) (.tmp 77), type := _, pos := _, after := _, guard := _ } :: _) _ _; refine wpList_store_new rfl 45 (.tmp 13) (.tmp 77) rfl w7.heap.size rfl rfl (bv z512).toArray (bv z512).toArray rfl HA.out rfl (bv_all _) ?_)
                  | (show wpList _ _ _ ({ dst := some 86, op := .build _ _, type := _, pos := _, after := _, guard := _ } :: _) _ _; refine wpList_yields (S := fun _ => True) (y_build (by rfl) (by rfl) built34) trivial ?_)
                  | (show wpList _ _ _ ({ dst := none, op := .store 44 (.tmp 4) (.tmp 86), type := _, pos := _, after := _, guard := _ } :: _) _ _; refine wpList_store_row rfl 44 (.tmp 4) (.tmp 86) rfl (w.heap.size + 1) oz.cells.toArray rfl rfl 44 oz.cells.toArray G7.out.res (by rw [List.size_toArray, Oj.len]; exact size34) rfl (Oj.allOne _) ?_))
                have h4 := setRow_heap (w7.alloc (.cells (bv z512).toArray 45)) (w.heap.size + 1) oz.cells.toArray oz.cells.toArray 44 (0, 0) G7.out.res
                have h5 : Below w.heap.size w ((w7.alloc (.cells (bv z512).toArray 45)).setRow (w.heap.size + 1) oz.cells.toArray) := G7.out.below.trans (below_lt (setRow_fr _ _ _) G7.out.below.size (fun j hj => by omega))
                exact bodyPost_ret (res_1t rfl _ _ (w.heap.size + 1) _ _ rfl rfl (load_ob _ h4)) rfl ⟨⟨oz, 151, rfl, .inr ⟨HNG.out, rfl, rfl⟩⟩, h5⟩
    · go_simp
      clear hHeld
      refine hK.out _ _ ⟨by have := byte_of_range (rd_range (rd_blk (Blk.drew (Blk.alloc R0.out (.cells oz.cells.toArray 44))))) 0 (by have := HL.out; omega); rw [first_b0] at this; simpa using this, rd_blk (Blk.drew (Blk.alloc R0.out (.cells oz.cells.toArray 44)))⟩ (fun hHeld => ?_)
      clear hK K
      try simp only [Act.put, List.getElem_toArray, List.getElem_cons_succ, List.getElem_cons_zero, List.setIfInBounds_toArray, List.set_cons_zero, List.set_cons_succ]
      refine wpAnyH_ready (rs := [7]) (by kernel_rfl) (by simp) ?_
      refine AllReadyH.cons (by rfl) (fun K hK => ?_) AllReadyH.nil
      go_simp
      refine (rnum_0 w.heap.size 8 4 _ l _ (by have := HL.out; omega) (rd_blk (Blk.drew (Blk.alloc R0.out (.cells oz.cells.toArray 44)))) (by decide)).mono ?_
      rintro e y3 ⟨rfl, rfl⟩
      clear hHeld
      go_wp2_with fail
      refine hK.out _ _ ⟨by have := byte_of_range (rd_range (rd_blk (Blk.drew (Blk.alloc R0.out (.cells oz.cells.toArray 44))))) 0 (by have := HL.out; omega); rw [first_b0] at this; simpa using this, rd_blk (Blk.drew (Blk.alloc R0.out (.cells oz.cells.toArray 44)))⟩ (fun hHeld => ?_)
      clear hK K
      try simp only [Act.put, List.getElem_toArray, List.getElem_cons_succ, List.getElem_cons_zero, List.setIfInBounds_toArray, List.set_cons_zero, List.set_cons_succ]
      refine wpAnyH_take (i := 8) (v := ?v8) rfl (by kernel_rfl) (by kernel_rfl) (by kernel_rfl) (fun _ _ _ h => h) (Or.inl ⟨by rfl, ?hy8⟩) hHeld ?rest8
      case hy8 =>
        intro w' hSw
        try dsimp only at hSw
        go_simp
        first | done | with_reducible rfl
      try simp only [Act.put, List.getElem_toArray, List.getElem_cons_succ, List.getElem_cons_zero, List.setIfInBounds_toArray, List.set_cons_zero, List.set_cons_succ]
      refine wpAnyH_take (i := 9) rfl (by kernel_rfl) (by kernel_rfl) (by kernel_rfl) (fun _ _ _ h => h) (y_build_3 (.tmp 32) (.tmp 35) (.tmp 38) _ _ _ (by rfl) rfl (by rfl) (by rfl) (by rfl) (built_o3 _ _ _)) hHeld ?_
      try simp only [Act.put, List.getElem_toArray, List.getElem_cons_succ, List.getElem_cons_zero, List.setIfInBounds_toArray, List.set_cons_zero, List.set_cons_succ]
      refine wpAnyH_ready (rs := [11]) (by kernel_rfl) (by simp) ?_
      refine AllReadyH.cons (by rfl) (fun K hK => ?_) AllReadyH.nil
      clear hHeld
      refine step_store_newd rfl 44 (.tmp 8) (.tmp 39) rfl (by first | rfl | (simp; rfl)) (Oj.cells ⟨((b0 l).toNat : Int), (numLE ((l.drop 4).take 4) : Int), (numLE ((l.drop 8).take 4) : Int), zks, zbs, List.length_replicate, List.length_replicate⟩).toArray oz.cells.toArray rfl (by rw [List.size_toArray, Oj.len]; exact size34) (by simp only [List.size_toArray, Oj.len]) (Oj.allOne _) ?_
      refine hK.out _ _ ⟨by have := byte_of_range (rd_range (rd_blk (Blk.drew (Blk.alloc R0.out (.cells (Oj.cells ⟨((b0 l).toNat : Int), (numLE ((l.drop 4).take 4) : Int), (numLE ((l.drop 8).take 4) : Int), zks, zbs, List.length_replicate, List.length_replicate⟩).toArray 44))))) 0 (by have := HL.out; omega); rw [first_b0] at this; simpa using this, rd_blk (Blk.drew (Blk.alloc R0.out (.cells (Oj.cells ⟨((b0 l).toNat : Int), (numLE ((l.drop 4).take 4) : Int), (numLE ((l.drop 8).take 4) : Int), zks, zbs, List.length_replicate, List.length_replicate⟩).toArray 44)))⟩ (fun hHeld => ?_)
      clear hK K
      try simp only [Act.put, List.getElem_toArray, List.getElem_cons_succ, List.getElem_cons_zero]
      refine wpAnyH_done (by kernel_rfl) ?_ _
      refine OnlyN.normal ?_
      have hg : GS w ((u1.alloc (.cells (Oj.cells ⟨((b0 l).toNat : Int), (numLE ((l.drop 4).take 4) : Int), (numLE ((l.drop 8).take 4) : Int), zks, zbs, List.length_replicate, List.length_replicate⟩).toArray 44)).drew) l u1.heap.size (part (obof (l.take 508)) 0 0) :=
        ⟨Blk.drew (Blk.alloc R0.out _), Blk.drew (Blk.alloc R1.out _), by rw [← HU0.out]; exact Blk.drew (Blk.new u1 44 _), Blk.lt R1.out, (B1.out.alloc B1.out.size _).drew⟩
      have HG := Lib.hid hg
      clear hg hHeld w1 w4 w8 R0 R1 B1 HB H0 H1 HU0 HS d1 d2
      go_wp2
      generalize ((u1.alloc (.cells (Oj.cells ⟨((b0 l).toNat : Int), (numLE ((l.drop 4).take 4) : Int), (numLE ((l.drop 8).take 4) : Int), zks, zbs, List.length_replicate, List.length_replicate⟩).toArray 44)).drew) = W6 at HG ⊢
      generalize u1.heap.size = B at HG ⊢
      obtain ⟨U, hU⟩ : ∃ U, obof (l.take 508) = U := ⟨_, rfl⟩
      rw [hU] at HG
      have HU := Lib.hid hU
      clear hU
      go_loopw [9] (fun v wr => ∃ i : Nat, i ≤ 16 ∧ v = .int .i64 i ∧ GS w wr l B (part U i 0)) (fun v _ => 17 - (intOf v).toNat)
      case atStart => exact ⟨0, by omega, rfl, HG.out⟩
      case round =>
        clear HG
        obtain ⟨i, hi, rfl, hg⟩ := hrel
        have HG := Lib.hid hg
        clear hg
        by_cases hlt : i < 16
        · have hsl := cut_slot w.heap.size i hlt
          have i1 : (i : Int) < 16 := by omega
          have HQ := Lib.hid (slotB_length HL.out hlt)
          have RQ := Lib.hid (slot_rd (rd_blk HG.out.sec) i)
          have hx := slot_get (l := l) hlt
          rw [HU.out] at hx
          have HPK := Lib.hid (grow_key U i hlt _ hx)
          have HXS := Lib.hid (List.mem_of_getElem? hx)
          have HLT := Lib.hid hlt
          by_cases hok : (kof (slotB l i)).ok
          · have HOK := Lib.hid hok
            clear hok hx
            go_wp2_with (first
              | (go_at_call 16; refine (rgetkey_yes w.heap.size (12 + 20 * i) _ (slotB l i) _ HOK.out HQ.out (by omega) RQ.out).mono ?_; rintro e w7 ⟨rfl, hb⟩; have G7 := Lib.hid ((HG.out.call hb).alloc (.cells (kl (kof (slotB l i))).toArray 25)); clear hb)
              | (show wpList _ _ _ ({ dst := none, op := .store 25 (.tmp 61) (.tmp 59), type := _, pos := _, after := _, guard := _ } :: _) _ _; refine wpList_store_mid (ys := kl (kof (slotB l i))) (l := (part U i 0).cells) rfl 25 (.tmp 61) (.tmp 59) rfl G7.out.ob rfl rfl (by have := HLT.out; rw [Oj.len]; show 3 + i * 6 + 6 ≤ 163; omega) size25 (kl_one _) ?_; rw [HPK.out]; have G8 := Lib.hid (G7.out.row (part U (i + 1) 0))))
            go_roundw
            case rel => exact ⟨i + 1, by omega, by go_num, G8.out⟩
            case measure => simp [intOf]; omega
          · have HNG := Lib.hid (show ¬ Gok n l from fun h => hok (slot_ok (HU.out ▸ h.2.2) _ HXS.out))
            have HOK := Lib.hid hok
            clear hok hx
            go_wp2_with (first
              | (go_at_call 16; refine (rgetkey_no w.heap.size (12 + 20 * i) _ (slotB l i) _ HOK.out HQ.out (by omega) RQ.out).mono ?_; rintro e w7 ⟨rfl, hb⟩; have G7 := Lib.hid ((HG.out.call hb).alloc (.cells (kl zk).toArray 25)); clear hb)
              | (show wpList _ _ _ ({ dst := some 57, op := .build _ _, type := _, pos := _, after := _, guard := _ } :: _) _ _; refine wpList_yields (S := fun _ => True) (y_build (by rfl) (by rfl) built34) trivial ?_)
              | (show wpList _ _ _ ({ dst := none, op := .store 44 (.tmp 4) (.tmp 57), type := _, pos := _, after := _, guard := _ } :: _) _ _; refine wpList_store_row rfl 44 (.tmp 4) (.tmp 57) rfl (w.heap.size + 1) oz.cells.toArray rfl rfl 44 oz.cells.toArray G7.out.res (by rw [List.size_toArray, Oj.len]; exact size34) rfl (Oj.allOne _) ?_))
            have h4 := setRow_heap (w7.alloc (.cells (kl zk).toArray 25)) (w.heap.size + 1) oz.cells.toArray oz.cells.toArray 44 (0, 0) G7.out.res
            have h5 : Below w.heap.size w ((w7.alloc (.cells (kl zk).toArray 25)).setRow (w.heap.size + 1) oz.cells.toArray) := G7.out.below.trans (below_lt (setRow_fr _ _ _) G7.out.below.size (fun j hj => by omega))
            exact bodyPost_ret (res_1t rfl _ _ (w.heap.size + 1) _ _ rfl rfl (load_ob _ h4)) rfl ⟨⟨oz, 151, rfl, .inr ⟨HNG.out, rfl, rfl⟩⟩, h5⟩
        · obtain rfl : i = 16 := by omega
          rw [show ((16 : Nat) : Int) = 16 from rfl]
          go_wp2
          go_loopw [12] (fun v wr => ∃ j : Nat, j ≤ 64 ∧ v = .int .i64 j ∧ GS w wr l B (part U 16 j)) (fun v _ => 65 - (intOf v).toNat)
          case atStart => exact ⟨0, by omega, rfl, HG.out⟩
          case round =>
            clear HG
            obtain ⟨j, hj, rfl, hg⟩ := hrel
            by_cases hlt : j < 64
            · have hx := byte_get HL.out hlt
              rw [HU.out, List.getElem?_eq_getElem (show 332 + j < l.length by have := HL.out; omega)] at hx
              have c0 := byte_of_range (rd_range (rd_blk hg.sec)) (332 + j) (by have := HL.out; omega)
              rw [Nat.zero_add] at c0
              obtain ⟨x, hxe⟩ : ∃ x, l[332 + j]'(by have := HL.out; omega) = x := ⟨_, rfl⟩
              rw [hxe] at hx c0
              obtain ⟨y, hy⟩ : ∃ y, (part U 16 j).cells.toArray[99 + j]? = some y := ⟨_, Array.getElem?_eq_getElem (by rw [List.size_toArray, Oj.len]; omega)⟩
              have c2 : wr.cell? ⟨B, 99 + j, none⟩ = some y := (hg.ob.cell (99 + j)).trans hy
              have f2 : wr.frozen? ⟨B, 99 + j, none⟩ = false := hg.ob.frozen (99 + j)
              have G8 := Lib.hid (hg.set_ (99 + j) (.int .u8 (x.toNat : Int)) (grow_byte U j hlt x hx))
              have i1 : (j : Int) < 64 := by omega
              have i3 : 332 + (j : Int) < 512 := by omega
              clear hg hx hxe hy
              go_wp2
              go_roundw
              case rel => exact ⟨j + 1, by omega, by go_num, G8.out⟩
              case measure => simp [intOf]; omega
            · obtain rfl : j = 64 := by omega
              rw [show ((64 : Nat) : Int) = 64 from rfl]
              rw [part_all] at hg
              have HG := Lib.hid hg
              clear hg
              by_cases hok : U.ok n
              · have HOK := Lib.hid hok
                have HF := Lib.hid (show U.fit from HU.out ▸ part_fit (n := n) (HU.out.symm ▸ hok))
                have HLS := Lib.hid (sealed_len U)
                have HA := Lib.hid (show (Tryd.prog.info? 45).map (·.size) = some (bv (sealN (obs U))).toArray.size by rw [List.size_toArray, bv_length, HLS.out]; exact size45)
                have HO2 := Lib.hid (show (bv z512).toArray.size = (bv (sealN (obs U))).toArray.size by rw [List.size_toArray, List.size_toArray, bv_length, bv_length, HLS.out]; rfl)
                have hzz := z45
                by_cases heq : sealN (obs U) = l
                · have HGK := Lib.hid (show Gok n l by
                    have h := (again_iff HL.out HSU.out).1 (HU.out.symm ▸ heq)
                    exact ⟨h.1, h.2, HU.out.symm ▸ hok⟩)
                  have hne : (!decide (sealN (obs U) = l)) = false := by rw [decide_eq_true heq]; rfl
                  clear hok heq
                  go_wp2_with (first
                    | (show wpList _ _ _ ({ dst := some 74, op := .load 44 (.tmp 8), type := _, pos := _, after := _, guard := _ } :: _) _ _; refine wpList_yields (S := fun w' => ObAt w' B 0 U) (y_ob (by rfl) (.tmp 8) (by rfl) B 0 (by rfl) U (fun _ h => h)) HG.out.ob.ob ?_)
                    | (go_at_call 18; refine (rcput_yes U n _ HOK.out HF.out).mono ?_; rintro e w7 ⟨rfl, hb⟩; have G7 := Lib.hid ((HG.out.call hb).alloc (.cells (bv (sealN (obs U))).toArray 45)); clear hb)
                    | (show wpList _ _ _ ({ dst := none, op := .store 45 (.tmp 13) (.tmp 77), type := _, pos := _, after := _, guard := _ } :: _) _ _; refine wpList_store_new rfl 45 (.tmp 13) (.tmp 77) rfl w7.heap.size rfl rfl (bv (sealN (obs U))).toArray (bv z512).toArray rfl HA.out HO2.out (bv_all _) ?_)
                    | (show wpList _ _ _ ({ dst := some 82, op := .load 45 (.tmp 13), type := _, pos := _, after := _, guard := _ } :: _) _ _; refine wpList_yields (S := fun w' => w'.rangeAt w7.heap.size 0 (bv (sealN (obs U)))) (y_sec (by rfl) (.tmp 13) (by rfl) w7.heap.size 0 (by rfl) _ HLS.out (fun _ h => h)) (rd_range (rd_blk (Blk.new w7 45 _))) ?_)
                    | (show wpList _ _ _ ({ dst := some 83, op := .load 45 (.tmp 2), type := _, pos := _, after := _, guard := _ } :: _) _ _; refine wpList_yields (S := fun w' => w'.rangeAt w.heap.size 0 (bv l)) (y_sec (by rfl) (.tmp 2) (by rfl) w.heap.size 0 (by rfl) _ HL.out (fun _ h => h)) (rd_range (rd_blk G7.out.sec)) ?_)
                    | (show wpList _ _ _ ({ dst := some 84, op := .binOp .neq 45 (.tmp 82) (.tmp 83) 45, type := _, pos := _, after := _, guard := _ } :: _) _ _; refine wpList_yields (S := fun _ => True) (y_secne (by rfl) (by rfl) (sealN (obs U)) l HLS.out HL.out false hne (by rfl) (by rfl)) trivial ?_)
                    | (show wpList _ _ _ ({ dst := some 87, op := .load 44 (.tmp 8), type := _, pos := _, after := _, guard := _ } :: _) _ _; refine wpList_yields (S := fun w' => ObAt w' B 0 U) (y_ob (by rfl) (.tmp 8) (by rfl) B 0 (by rfl) U (fun _ h => h)) G7.out.ob.ob ?_)
                    | (show wpList _ _ _ ({ dst := none, op := .store 44 (.tmp 4) (.tmp 87), type := _, pos := _, after := _, guard := _ } :: _) _ _; refine wpList_store_row rfl 44 (.tmp 4) (.tmp 87) rfl (w.heap.size + 1) U.cells.toArray rfl rfl 44 oz.cells.toArray G7.out.res (by rw [List.size_toArray, Oj.len]; exact size34) (by simp only [List.size_toArray, Oj.len]) (Oj.allOne _) ?_))
                  have h4 := setRow_heap (w7.alloc (.cells (bv (sealN (obs U))).toArray 45)) (w.heap.size + 1) oz.cells.toArray U.cells.toArray 44 (0, 0) G7.out.res
                  have h5 : Below w.heap.size w ((w7.alloc (.cells (bv (sealN (obs U))).toArray 45)).setRow (w.heap.size + 1) U.cells.toArray) := G7.out.below.trans (below_lt (setRow_fr _ _ _) G7.out.below.size (fun j hj => by omega))
                  exact bodyPost_ret (res_1t rfl _ _ (w.heap.size + 1) _ _ rfl rfl (load_ob _ h4)) rfl ⟨⟨U, 0, rfl, .inl ⟨HGK.out, HU.out.symm, rfl⟩⟩, h5⟩
                · have HNG := Lib.hid (show ¬ Gok n l from fun h => heq (HU.out ▸ (again_iff HL.out HSU.out).2 ⟨h.1, h.2.1⟩))
                  have hne : (!decide (sealN (obs U) = l)) = true := by rw [decide_eq_false heq]; rfl
                  clear hok heq
                  go_wp2_with (first
                    | (show wpList _ _ _ ({ dst := some 74, op := .load 44 (.tmp 8), type := _, pos := _, after := _, guard := _ } :: _) _ _; refine wpList_yields (S := fun w' => ObAt w' B 0 U) (y_ob (by rfl) (.tmp 8) (by rfl) B 0 (by rfl) U (fun _ h => h)) HG.out.ob.ob ?_)
                    | (go_at_call 18; refine (rcput_yes U n _ HOK.out HF.out).mono ?_; rintro e w7 ⟨rfl, hb⟩; have G7 := Lib.hid ((HG.out.call hb).alloc (.cells (bv (sealN (obs U))).toArray 45)); clear hb)
                    | (show wpList _ _ _ ({ dst := none, op := .store 45 (.tmp 13) (.tmp 77), type := _, pos := _, after := _, guard := _ } :: _) _ _; refine wpList_store_new rfl 45 (.tmp 13) (.tmp 77) rfl w7.heap.size rfl rfl (bv (sealN (obs U))).toArray (bv z512).toArray rfl HA.out HO2.out (bv_all _) ?_)
                    | (show wpList _ _ _ ({ dst := some 82, op := .load 45 (.tmp 13), type := _, pos := _, after := _, guard := _ } :: _) _ _; refine wpList_yields (S := fun w' => w'.rangeAt w7.heap.size 0 (bv (sealN (obs U)))) (y_sec (by rfl) (.tmp 13) (by rfl) w7.heap.size 0 (by rfl) _ HLS.out (fun _ h => h)) (rd_range (rd_blk (Blk.new w7 45 _))) ?_)
                    | (show wpList _ _ _ ({ dst := some 83, op := .load 45 (.tmp 2), type := _, pos := _, after := _, guard := _ } :: _) _ _; refine wpList_yields (S := fun w' => w'.rangeAt w.heap.size 0 (bv l)) (y_sec (by rfl) (.tmp 2) (by rfl) w.heap.size 0 (by rfl) _ HL.out (fun _ h => h)) (rd_range (rd_blk G7.out.sec)) ?_)
                    | (show wpList _ _ _ ({ dst := some 84, op := .binOp .neq 45 (.tmp 82) (.tmp 83) 45, type := _, pos := _, after := _, guard := _ } :: _) _ _; refine wpList_yields (S := fun _ => True) (y_secne (by rfl) (by rfl) (sealN (obs U)) l HLS.out HL.out true hne (by rfl) (by rfl)) trivial ?_)
                    | (show wpList _ _ _ ({ dst := some 86, op := .build _ _, type := _, pos := _, after := _, guard := _ } :: _) _ _; refine wpList_yields (S := fun _ => True) (y_build (by rfl) (by rfl) built34) trivial ?_)
                    | (show wpList _ _ _ ({ dst := none, op := .store 44 (.tmp 4) (.tmp 86), type := _, pos := _, after := _, guard := _ } :: _) _ _; refine wpList_store_row rfl 44 (.tmp 4) (.tmp 86) rfl (w.heap.size + 1) oz.cells.toArray rfl rfl 44 oz.cells.toArray G7.out.res (by rw [List.size_toArray, Oj.len]; exact size34) rfl (Oj.allOne _) ?_))
                  have h4 := setRow_heap (w7.alloc (.cells (bv (sealN (obs U))).toArray 45)) (w.heap.size + 1) oz.cells.toArray oz.cells.toArray 44 (0, 0) G7.out.res
                  have h5 : Below w.heap.size w ((w7.alloc (.cells (bv (sealN (obs U))).toArray 45)).setRow (w.heap.size + 1) oz.cells.toArray) := G7.out.below.trans (below_lt (setRow_fr _ _ _) G7.out.below.size (fun j hj => by omega))
                  exact bodyPost_ret (res_1t rfl _ _ (w.heap.size + 1) _ _ rfl rfl (load_ob _ h4)) rfl ⟨⟨oz, 151, rfl, .inr ⟨HNG.out, rfl, rfl⟩⟩, h5⟩
              · have HNG := Lib.hid (show ¬ Gok n l from fun h => hok (HU.out ▸ h.2.2))
                have HOK := Lib.hid hok
                have HA := Lib.hid (show (Tryd.prog.info? 45).map (·.size) = some (bv z512).toArray.size by rw [List.size_toArray, bv_length]; exact size45)
                have hzz := z45
                clear hok
                go_wp2_with (first
                  | (show wpList _ _ _ ({ dst := some 74, op := .load 44 (.tmp 8), type := _, pos := _, after := _, guard := _ } :: _) _ _; refine wpList_yields (S := fun w' => ObAt w' B 0 U) (y_ob (by rfl) (.tmp 8) (by rfl) B 0 (by rfl) U (fun _ h => h)) HG.out.ob.ob ?_)
                  | (go_at_call 18; refine (rcput_no U n _ HOK.out).mono ?_; rintro e w7 ⟨rfl, hb⟩; have G7 := Lib.hid ((HG.out.call hb).alloc (.cells (bv z512).toArray 45)); clear hb)
                  | (show wpList _ _ _ ({ dst := none, op := .store 45 (.tmp 13) (.tmp 77), type := _, pos := _, after := _, guard := _ } :: _) _ _; refine wpList_store_new rfl 45 (.tmp 13) (.tmp 77) rfl w7.heap.size rfl rfl (bv z512).toArray (bv z512).toArray rfl HA.out rfl (bv_all _) ?_)
                  | (show wpList _ _ _ ({ dst := some 86, op := .build _ _, type := _, pos := _, after := _, guard := _ } :: _) _ _; refine wpList_yields (S := fun _ => True) (y_build (by rfl) (by rfl) built34) trivial ?_)
                  | (show wpList _ _ _ ({ dst := none, op := .store 44 (.tmp 4) (.tmp 86), type := _, pos := _, after := _, guard := _ } :: _) _ _; refine wpList_store_row rfl 44 (.tmp 4) (.tmp 86) rfl (w.heap.size + 1) oz.cells.toArray rfl rfl 44 oz.cells.toArray G7.out.res (by rw [List.size_toArray, Oj.len]; exact size34) rfl (Oj.allOne _) ?_))
                have h4 := setRow_heap (w7.alloc (.cells (bv z512).toArray 45)) (w.heap.size + 1) oz.cells.toArray oz.cells.toArray 44 (0, 0) G7.out.res
                have h5 : Below w.heap.size w ((w7.alloc (.cells (bv z512).toArray 45)).setRow (w.heap.size + 1) oz.cells.toArray) := G7.out.below.trans (below_lt (setRow_fr _ _ _) G7.out.below.size (fun j hj => by omega))
                exact bodyPost_ret (res_1t rfl _ _ (w.heap.size + 1) _ _ rfl rfl (load_ob _ h4)) rfl ⟨⟨oz, 151, rfl, .inr ⟨HNG.out, rfl, rfl⟩⟩, h5⟩
  · go_simp
    clear hHeld
    refine hK.out _ _ ⟨by have := byte_of_range (rd_range (rd_blk (Blk.drew (Blk.alloc R0.out (.cells oz.cells.toArray 44))))) 0 (by have := HL.out; omega); rw [first_b0] at this; simpa using this, rd_blk (Blk.drew (Blk.alloc R0.out (.cells oz.cells.toArray 44)))⟩ (fun hHeld => ?_)
    clear hK K
    try simp only [Act.put, List.getElem_toArray, List.getElem_cons_succ, List.getElem_cons_zero, List.setIfInBounds_toArray, List.set_cons_zero, List.set_cons_succ]
    refine wpAnyH_ready (rs := [4]) (by kernel_rfl) (by simp) ?_
    refine AllReadyH.cons (by rfl) (fun K hK => ?_) AllReadyH.nil
    go_simp
    refine (rnum_0 w.heap.size 4 4 _ l _ (by have := HL.out; omega) (rd_blk (Blk.drew (Blk.alloc R0.out (.cells oz.cells.toArray 44)))) (by decide)).mono ?_
    rintro e y4 ⟨rfl, rfl⟩
    clear hHeld
    go_wp2_with fail
    refine hK.out _ _ ⟨by have := byte_of_range (rd_range (rd_blk (Blk.drew (Blk.alloc R0.out (.cells oz.cells.toArray 44))))) 0 (by have := HL.out; omega); rw [first_b0] at this; simpa using this, rd_blk (Blk.drew (Blk.alloc R0.out (.cells oz.cells.toArray 44)))⟩ (fun hHeld => ?_)
    clear hK K
    try simp only [Act.put, List.getElem_toArray, List.getElem_cons_succ, List.getElem_cons_zero, List.setIfInBounds_toArray, List.set_cons_zero, List.set_cons_succ]
    refine wpAnyH_take (i := 5) (v := ?v9) rfl (by kernel_rfl) (by kernel_rfl) (by kernel_rfl) (fun _ _ _ h => h) (Or.inl ⟨by rfl, ?hy9⟩) hHeld ?rest9
    case hy9 =>
      intro w' hSw
      try dsimp only at hSw
      go_simp
      first | done | with_reducible rfl
    try simp only [Act.put, List.getElem_toArray, List.getElem_cons_succ, List.getElem_cons_zero, List.setIfInBounds_toArray, List.set_cons_zero, List.set_cons_succ]
    refine wpAnyH_ready (rs := [7]) (by kernel_rfl) (by simp) ?_
    refine AllReadyH.cons (by rfl) (fun K hK => ?_) AllReadyH.nil
    go_simp
    refine (rnum_0 w.heap.size 8 4 _ l _ (by have := HL.out; omega) (rd_blk (Blk.drew (Blk.alloc R0.out (.cells oz.cells.toArray 44)))) (by decide)).mono ?_
    rintro e y5 ⟨rfl, rfl⟩
    clear hHeld
    go_wp2_with fail
    refine hK.out _ _ ⟨by have := byte_of_range (rd_range (rd_blk (Blk.drew (Blk.alloc R0.out (.cells oz.cells.toArray 44))))) 0 (by have := HL.out; omega); rw [first_b0] at this; simpa using this, rd_blk (Blk.drew (Blk.alloc R0.out (.cells oz.cells.toArray 44)))⟩ (fun hHeld => ?_)
    clear hK K
    try simp only [Act.put, List.getElem_toArray, List.getElem_cons_succ, List.getElem_cons_zero, List.setIfInBounds_toArray, List.set_cons_zero, List.set_cons_succ]
    refine wpAnyH_take (i := 8) (v := ?v10) rfl (by kernel_rfl) (by kernel_rfl) (by kernel_rfl) (fun _ _ _ h => h) (Or.inl ⟨by rfl, ?hy10⟩) hHeld ?rest10
    case hy10 =>
      intro w' hSw
      try dsimp only at hSw
      go_simp
      first | done | with_reducible rfl
    try simp only [Act.put, List.getElem_toArray, List.getElem_cons_succ, List.getElem_cons_zero, List.setIfInBounds_toArray, List.set_cons_zero, List.set_cons_succ]
    refine wpAnyH_take (i := 9) rfl (by kernel_rfl) (by kernel_rfl) (by kernel_rfl) (fun _ _ _ h => h) (y_build_3 (.tmp 32) (.tmp 35) (.tmp 38) _ _ _ (by rfl) rfl (by rfl) (by rfl) (by rfl) (built_o3 _ _ _)) hHeld ?_
    try simp only [Act.put, List.getElem_toArray, List.getElem_cons_succ, List.getElem_cons_zero, List.setIfInBounds_toArray, List.set_cons_zero, List.set_cons_succ]
    refine wpAnyH_ready (rs := [11]) (by kernel_rfl) (by simp) ?_
    refine AllReadyH.cons (by rfl) (fun K hK => ?_) AllReadyH.nil
    clear hHeld
    refine step_store_newd rfl 44 (.tmp 8) (.tmp 39) rfl (by first | rfl | (simp; rfl)) (Oj.cells ⟨((b0 l).toNat : Int), (numLE ((l.drop 4).take 4) : Int), (numLE ((l.drop 8).take 4) : Int), zks, zbs, List.length_replicate, List.length_replicate⟩).toArray oz.cells.toArray rfl (by rw [List.size_toArray, Oj.len]; exact size34) (by simp only [List.size_toArray, Oj.len]) (Oj.allOne _) ?_
    refine hK.out _ _ ⟨by have := byte_of_range (rd_range (rd_blk (Blk.drew (Blk.alloc R0.out (.cells (Oj.cells ⟨((b0 l).toNat : Int), (numLE ((l.drop 4).take 4) : Int), (numLE ((l.drop 8).take 4) : Int), zks, zbs, List.length_replicate, List.length_replicate⟩).toArray 44))))) 0 (by have := HL.out; omega); rw [first_b0] at this; simpa using this, rd_blk (Blk.drew (Blk.alloc R0.out (.cells (Oj.cells ⟨((b0 l).toNat : Int), (numLE ((l.drop 4).take 4) : Int), (numLE ((l.drop 8).take 4) : Int), zks, zbs, List.length_replicate, List.length_replicate⟩).toArray 44)))⟩ (fun hHeld => ?_)
    clear hK K
    try simp only [Act.put, List.getElem_toArray, List.getElem_cons_succ, List.getElem_cons_zero]
    refine wpAnyH_done (by kernel_rfl) ?_ _
    refine OnlyN.normal ?_
    have hg : GS w ((u1.alloc (.cells (Oj.cells ⟨((b0 l).toNat : Int), (numLE ((l.drop 4).take 4) : Int), (numLE ((l.drop 8).take 4) : Int), zks, zbs, List.length_replicate, List.length_replicate⟩).toArray 44)).drew) l u1.heap.size (part (obof (l.take 508)) 0 0) :=
      ⟨Blk.drew (Blk.alloc R0.out _), Blk.drew (Blk.alloc R1.out _), by rw [← HU0.out]; exact Blk.drew (Blk.new u1 44 _), Blk.lt R1.out, (B1.out.alloc B1.out.size _).drew⟩
    have HG := Lib.hid hg
    clear hg hHeld w1 w4 w8 R0 R1 B1 HB H0 H1 HU0 HS d1 d2
    go_wp2
    generalize ((u1.alloc (.cells (Oj.cells ⟨((b0 l).toNat : Int), (numLE ((l.drop 4).take 4) : Int), (numLE ((l.drop 8).take 4) : Int), zks, zbs, List.length_replicate, List.length_replicate⟩).toArray 44)).drew) = W6 at HG ⊢
    generalize u1.heap.size = B at HG ⊢
    obtain ⟨U, hU⟩ : ∃ U, obof (l.take 508) = U := ⟨_, rfl⟩
    rw [hU] at HG
    have HU := Lib.hid hU
    clear hU
    go_loopw [9] (fun v wr => ∃ i : Nat, i ≤ 16 ∧ v = .int .i64 i ∧ GS w wr l B (part U i 0)) (fun v _ => 17 - (intOf v).toNat)
    case atStart => exact ⟨0, by omega, rfl, HG.out⟩
    case round =>
      clear HG
      obtain ⟨i, hi, rfl, hg⟩ := hrel
      have HG := Lib.hid hg
      clear hg
      by_cases hlt : i < 16
      · have hsl := cut_slot w.heap.size i hlt
        have i1 : (i : Int) < 16 := by omega
        have HQ := Lib.hid (slotB_length HL.out hlt)
        have RQ := Lib.hid (slot_rd (rd_blk HG.out.sec) i)
        have hx := slot_get (l := l) hlt
        rw [HU.out] at hx
        have HPK := Lib.hid (grow_key U i hlt _ hx)
        have HXS := Lib.hid (List.mem_of_getElem? hx)
        have HLT := Lib.hid hlt
        by_cases hok : (kof (slotB l i)).ok
        · have HOK := Lib.hid hok
          clear hok hx
          go_wp2_with (first
            | (go_at_call 16; refine (rgetkey_yes w.heap.size (12 + 20 * i) _ (slotB l i) _ HOK.out HQ.out (by omega) RQ.out).mono ?_; rintro e w7 ⟨rfl, hb⟩; have G7 := Lib.hid ((HG.out.call hb).alloc (.cells (kl (kof (slotB l i))).toArray 25)); clear hb)
            | (show wpList _ _ _ ({ dst := none, op := .store 25 (.tmp 61) (.tmp 59), type := _, pos := _, after := _, guard := _ } :: _) _ _; refine wpList_store_mid (ys := kl (kof (slotB l i))) (l := (part U i 0).cells) rfl 25 (.tmp 61) (.tmp 59) rfl G7.out.ob rfl rfl (by have := HLT.out; rw [Oj.len]; show 3 + i * 6 + 6 ≤ 163; omega) size25 (kl_one _) ?_; rw [HPK.out]; have G8 := Lib.hid (G7.out.row (part U (i + 1) 0))))
          go_roundw
          case rel => exact ⟨i + 1, by omega, by go_num, G8.out⟩
          case measure => simp [intOf]; omega
        · have HNG := Lib.hid (show ¬ Gok n l from fun h => hok (slot_ok (HU.out ▸ h.2.2) _ HXS.out))
          have HOK := Lib.hid hok
          clear hok hx
          go_wp2_with (first
            | (go_at_call 16; refine (rgetkey_no w.heap.size (12 + 20 * i) _ (slotB l i) _ HOK.out HQ.out (by omega) RQ.out).mono ?_; rintro e w7 ⟨rfl, hb⟩; have G7 := Lib.hid ((HG.out.call hb).alloc (.cells (kl zk).toArray 25)); clear hb)
            | (show wpList _ _ _ ({ dst := some 57, op := .build _ _, type := _, pos := _, after := _, guard := _ } :: _) _ _; refine wpList_yields (S := fun _ => True) (y_build (by rfl) (by rfl) built34) trivial ?_)
            | (show wpList _ _ _ ({ dst := none, op := .store 44 (.tmp 4) (.tmp 57), type := _, pos := _, after := _, guard := _ } :: _) _ _; refine wpList_store_row rfl 44 (.tmp 4) (.tmp 57) rfl (w.heap.size + 1) oz.cells.toArray rfl rfl 44 oz.cells.toArray G7.out.res (by rw [List.size_toArray, Oj.len]; exact size34) rfl (Oj.allOne _) ?_))
          have h4 := setRow_heap (w7.alloc (.cells (kl zk).toArray 25)) (w.heap.size + 1) oz.cells.toArray oz.cells.toArray 44 (0, 0) G7.out.res
          have h5 : Below w.heap.size w ((w7.alloc (.cells (kl zk).toArray 25)).setRow (w.heap.size + 1) oz.cells.toArray) := G7.out.below.trans (below_lt (setRow_fr _ _ _) G7.out.below.size (fun j hj => by omega))
          exact bodyPost_ret (res_1t rfl _ _ (w.heap.size + 1) _ _ rfl rfl (load_ob _ h4)) rfl ⟨⟨oz, 151, rfl, .inr ⟨HNG.out, rfl, rfl⟩⟩, h5⟩
      · obtain rfl : i = 16 := by omega
        rw [show ((16 : Nat) : Int) = 16 from rfl]
        go_wp2
        go_loopw [12] (fun v wr => ∃ j : Nat, j ≤ 64 ∧ v = .int .i64 j ∧ GS w wr l B (part U 16 j)) (fun v _ => 65 - (intOf v).toNat)
        case atStart => exact ⟨0, by omega, rfl, HG.out⟩
        case round =>
          clear HG
          obtain ⟨j, hj, rfl, hg⟩ := hrel
          by_cases hlt : j < 64
          · have hx := byte_get HL.out hlt
            rw [HU.out, List.getElem?_eq_getElem (show 332 + j < l.length by have := HL.out; omega)] at hx
            have c0 := byte_of_range (rd_range (rd_blk hg.sec)) (332 + j) (by have := HL.out; omega)
            rw [Nat.zero_add] at c0
            obtain ⟨x, hxe⟩ : ∃ x, l[332 + j]'(by have := HL.out; omega) = x := ⟨_, rfl⟩
            rw [hxe] at hx c0
            obtain ⟨y, hy⟩ : ∃ y, (part U 16 j).cells.toArray[99 + j]? = some y := ⟨_, Array.getElem?_eq_getElem (by rw [List.size_toArray, Oj.len]; omega)⟩
            have c2 : wr.cell? ⟨B, 99 + j, none⟩ = some y := (hg.ob.cell (99 + j)).trans hy
            have f2 : wr.frozen? ⟨B, 99 + j, none⟩ = false := hg.ob.frozen (99 + j)
            have G8 := Lib.hid (hg.set_ (99 + j) (.int .u8 (x.toNat : Int)) (grow_byte U j hlt x hx))
            have i1 : (j : Int) < 64 := by omega
            have i3 : 332 + (j : Int) < 512 := by omega
            clear hg hx hxe hy
            go_wp2
            go_roundw
            case rel => exact ⟨j + 1, by omega, by go_num, G8.out⟩
            case measure => simp [intOf]; omega
          · obtain rfl : j = 64 := by omega
            rw [show ((64 : Nat) : Int) = 64 from rfl]
            rw [part_all] at hg
            have HG := Lib.hid hg
            clear hg
            by_cases hok : U.ok n
            · have HOK := Lib.hid hok
              have HF := Lib.hid (show U.fit from HU.out ▸ part_fit (n := n) (HU.out.symm ▸ hok))
              have HLS := Lib.hid (sealed_len U)
              have HA := Lib.hid (show (Tryd.prog.info? 45).map (·.size) = some (bv (sealN (obs U))).toArray.size by rw [List.size_toArray, bv_length, HLS.out]; exact size45)
              have HO2 := Lib.hid (show (bv z512).toArray.size = (bv (sealN (obs U))).toArray.size by rw [List.size_toArray, List.size_toArray, bv_length, bv_length, HLS.out]; rfl)
              have hzz := z45
              by_cases heq : sealN (obs U) = l
              · have HGK := Lib.hid (show Gok n l by
                  have h := (again_iff HL.out HSU.out).1 (HU.out.symm ▸ heq)
                  exact ⟨h.1, h.2, HU.out.symm ▸ hok⟩)
                have hne : (!decide (sealN (obs U) = l)) = false := by rw [decide_eq_true heq]; rfl
                clear hok heq
                go_wp2_with (first
                  | (show wpList _ _ _ ({ dst := some 74, op := .load 44 (.tmp 8), type := _, pos := _, after := _, guard := _ } :: _) _ _; refine wpList_yields (S := fun w' => ObAt w' B 0 U) (y_ob (by rfl) (.tmp 8) (by rfl) B 0 (by rfl) U (fun _ h => h)) HG.out.ob.ob ?_)
                  | (go_at_call 18; refine (rcput_yes U n _ HOK.out HF.out).mono ?_; rintro e w7 ⟨rfl, hb⟩; have G7 := Lib.hid ((HG.out.call hb).alloc (.cells (bv (sealN (obs U))).toArray 45)); clear hb)
                  | (show wpList _ _ _ ({ dst := none, op := .store 45 (.tmp 13) (.tmp 77), type := _, pos := _, after := _, guard := _ } :: _) _ _; refine wpList_store_new rfl 45 (.tmp 13) (.tmp 77) rfl w7.heap.size rfl rfl (bv (sealN (obs U))).toArray (bv z512).toArray rfl HA.out HO2.out (bv_all _) ?_)
                  | (show wpList _ _ _ ({ dst := some 82, op := .load 45 (.tmp 13), type := _, pos := _, after := _, guard := _ } :: _) _ _; refine wpList_yields (S := fun w' => w'.rangeAt w7.heap.size 0 (bv (sealN (obs U)))) (y_sec (by rfl) (.tmp 13) (by rfl) w7.heap.size 0 (by rfl) _ HLS.out (fun _ h => h)) (rd_range (rd_blk (Blk.new w7 45 _))) ?_)
                  | (show wpList _ _ _ ({ dst := some 83, op := .load 45 (.tmp 2), type := _, pos := _, after := _, guard := _ } :: _) _ _; refine wpList_yields (S := fun w' => w'.rangeAt w.heap.size 0 (bv l)) (y_sec (by rfl) (.tmp 2) (by rfl) w.heap.size 0 (by rfl) _ HL.out (fun _ h => h)) (rd_range (rd_blk G7.out.sec)) ?_)
                  | (show wpList _ _ _ ({ dst := some 84, op := .binOp .neq 45 (.tmp 82) (.tmp 83) 45, type := _, pos := _, after := _, guard := _ } :: _) _ _; refine wpList_yields (S := fun _ => True) (y_secne (by rfl) (by rfl) (sealN (obs U)) l HLS.out HL.out false hne (by rfl) (by rfl)) trivial ?_)
                  | (show wpList _ _ _ ({ dst := some 87, op := .load 44 (.tmp 8), type := _, pos := _, after := _, guard := _ } :: _) _ _; refine wpList_yields (S := fun w' => ObAt w' B 0 U) (y_ob (by rfl) (.tmp 8) (by rfl) B 0 (by rfl) U (fun _ h => h)) G7.out.ob.ob ?_)
                  | (show wpList _ _ _ ({ dst := none, op := .store 44 (.tmp 4) (.tmp 87), type := _, pos := _, after := _, guard := _ } :: _) _ _; refine wpList_store_row rfl 44 (.tmp 4) (.tmp 87) rfl (w.heap.size + 1) U.cells.toArray rfl rfl 44 oz.cells.toArray G7.out.res (by rw [List.size_toArray, Oj.len]; exact size34) (by simp only [List.size_toArray, Oj.len]) (Oj.allOne _) ?_))
                have h4 := setRow_heap (w7.alloc (.cells (bv (sealN (obs U))).toArray 45)) (w.heap.size + 1) oz.cells.toArray U.cells.toArray 44 (0, 0) G7.out.res
                have h5 : Below w.heap.size w ((w7.alloc (.cells (bv (sealN (obs U))).toArray 45)).setRow (w.heap.size + 1) U.cells.toArray) := G7.out.below.trans (below_lt (setRow_fr _ _ _) G7.out.below.size (fun j hj => by omega))
                exact bodyPost_ret (res_1t rfl _ _ (w.heap.size + 1) _ _ rfl rfl (load_ob _ h4)) rfl ⟨⟨U, 0, rfl, .inl ⟨HGK.out, HU.out.symm, rfl⟩⟩, h5⟩
              · have HNG := Lib.hid (show ¬ Gok n l from fun h => heq (HU.out ▸ (again_iff HL.out HSU.out).2 ⟨h.1, h.2.1⟩))
                have hne : (!decide (sealN (obs U) = l)) = true := by rw [decide_eq_false heq]; rfl
                clear hok heq
                go_wp2_with (first
                  | (show wpList _ _ _ ({ dst := some 74, op := .load 44 (.tmp 8), type := _, pos := _, after := _, guard := _ } :: _) _ _; refine wpList_yields (S := fun w' => ObAt w' B 0 U) (y_ob (by rfl) (.tmp 8) (by rfl) B 0 (by rfl) U (fun _ h => h)) HG.out.ob.ob ?_)
                  | (go_at_call 18; refine (rcput_yes U n _ HOK.out HF.out).mono ?_; rintro e w7 ⟨rfl, hb⟩; have G7 := Lib.hid ((HG.out.call hb).alloc (.cells (bv (sealN (obs U))).toArray 45)); clear hb)
                  | (show wpList _ _ _ ({ dst := none, op := .store 45 (.tmp 13) (.tmp 77), type := _, pos := _, after := _, guard := _ } :: _) _ _; refine wpList_store_new rfl 45 (.tmp 13) (.tmp 77) rfl w7.heap.size rfl rfl (bv (sealN (obs U))).toArray (bv z512).toArray rfl HA.out HO2.out (bv_all _) ?_)
                  | (show wpList _ _ _ ({ dst := some 82, op := .load 45 (.tmp 13), type := _, pos := _, after := _, guard := _ } :: _) _ _; refine wpList_yields (S := fun w' => w'.rangeAt w7.heap.size 0 (bv (sealN (obs U)))) (y_sec (by rfl) (.tmp 13) (by rfl) w7.heap.size 0 (by rfl) _ HLS.out (fun _ h => h)) (rd_range (rd_blk (Blk.new w7 45 _))) ?_)
                  | (show wpList _ _ _ ({ dst := some 83, op := .load 45 (.tmp 2), type := _, pos := _, after := _, guard := _ } :: _) _ _; refine wpList_yields (S := fun w' => w'.rangeAt w.heap.size 0 (bv l)) (y_sec (by rfl) (.tmp 2) (by rfl) w.heap.size 0 (by rfl) _ HL.out (fun _ h => h)) (rd_range (rd_blk G7.out.sec)) ?_)
                  | (show wpList _ _ _ ({ dst := some 84, op := .binOp .neq 45 (.tmp 82) (.tmp 83) 45, type := _, pos := _, after := _, guard := _ } :: _) _ _; refine wpList_yields (S := fun _ => True) (y_secne (by rfl) (by rfl) (sealN (obs U)) l HLS.out HL.out true hne (by rfl) (by rfl)) trivial ?_)
                  | (show wpList _ _ _ ({ dst := some 86, op := .build _ _, type := _, pos := _, after := _, guard := _ } :: _) _ _; refine wpList_yields (S := fun _ => True) (y_build (by rfl) (by rfl) built34) trivial ?_)
                  | (show wpList _ _ _ ({ dst := none, op := .store 44 (.tmp 4) (.tmp 86), type := _, pos := _, after := _, guard := _ } :: _) _ _; refine wpList_store_row rfl 44 (.tmp 4) (.tmp 86) rfl (w.heap.size + 1) oz.cells.toArray rfl rfl 44 oz.cells.toArray G7.out.res (by rw [List.size_toArray, Oj.len]; exact size34) rfl (Oj.allOne _) ?_))
                have h4 := setRow_heap (w7.alloc (.cells (bv (sealN (obs U))).toArray 45)) (w.heap.size + 1) oz.cells.toArray oz.cells.toArray 44 (0, 0) G7.out.res
                have h5 : Below w.heap.size w ((w7.alloc (.cells (bv (sealN (obs U))).toArray 45)).setRow (w.heap.size + 1) oz.cells.toArray) := G7.out.below.trans (below_lt (setRow_fr _ _ _) G7.out.below.size (fun j hj => by omega))
                exact bodyPost_ret (res_1t rfl _ _ (w.heap.size + 1) _ _ rfl rfl (load_ob _ h4)) rfl ⟨⟨oz, 151, rfl, .inr ⟨HNG.out, rfl, rfl⟩⟩, h5⟩
            · have HNG := Lib.hid (show ¬ Gok n l from fun h => hok (HU.out ▸ h.2.2))
              have HOK := Lib.hid hok
              have HA := Lib.hid (show (Tryd.prog.info? 45).map (·.size) = some (bv z512).toArray.size by rw [List.size_toArray, bv_length]; exact size45)
              have hzz := z45
              clear hok
              go_wp2_with (first
                | (show wpList _ _ _ ({ dst := some 74, op := .load 44 (.tmp 8), type := _, pos := _, after := _, guard := _ } :: _) _ _; refine wpList_yields (S := fun w' => ObAt w' B 0 U) (y_ob (by rfl) (.tmp 8) (by rfl) B 0 (by rfl) U (fun _ h => h)) HG.out.ob.ob ?_)
                | (go_at_call 18; refine (rcput_no U n _ HOK.out).mono ?_; rintro e w7 ⟨rfl, hb⟩; have G7 := Lib.hid ((HG.out.call hb).alloc (.cells (bv z512).toArray 45)); clear hb)
                | (show wpList _ _ _ ({ dst := none, op := .store 45 (.tmp 13) (.tmp 77), type := _, pos := _, after := _, guard := _ } :: _) _ _; refine wpList_store_new rfl 45 (.tmp 13) (.tmp 77) rfl w7.heap.size rfl rfl (bv z512).toArray (bv z512).toArray rfl HA.out rfl (bv_all _) ?_)
                | (show wpList _ _ _ ({ dst := some 86, op := .build _ _, type := _, pos := _, after := _, guard := _ } :: _) _ _; refine wpList_yields (S := fun _ => True) (y_build (by rfl) (by rfl) built34) trivial ?_)
                | (show wpList _ _ _ ({ dst := none, op := .store 44 (.tmp 4) (.tmp 86), type := _, pos := _, after := _, guard := _ } :: _) _ _; refine wpList_store_row rfl 44 (.tmp 4) (.tmp 86) rfl (w.heap.size + 1) oz.cells.toArray rfl rfl 44 oz.cells.toArray G7.out.res (by rw [List.size_toArray, Oj.len]; exact size34) rfl (Oj.allOne _) ?_))
              have h4 := setRow_heap (w7.alloc (.cells (bv z512).toArray 45)) (w.heap.size + 1) oz.cells.toArray oz.cells.toArray 44 (0, 0) G7.out.res
              have h5 : Below w.heap.size w ((w7.alloc (.cells (bv z512).toArray 45)).setRow (w.heap.size + 1) oz.cells.toArray) := G7.out.below.trans (below_lt (setRow_fr _ _ _) G7.out.below.size (fun j hj => by omega))
              exact bodyPost_ret (res_1t rfl _ _ (w.heap.size + 1) _ _ rfl rfl (load_ob _ h4)) rfl ⟨⟨oz, 151, rfl, .inr ⟨HNG.out, rfl, rfl⟩⟩, h5⟩
end Go.Proofs.YtjfpmadnlpcpfaaDoor

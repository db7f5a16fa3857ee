/- The law NodesWeak returns true for every input: what is got by a weak key is weak, on any way, and such a key changes nothing. No condition but that the listed variables read as the program's own text lays them; the card ties them to it. -/
import Derived.Test.YtliakhknmckdgaaDoorNDo
import Derived.Test.YtliakhknmckdgaaDoorR12
import Derived.Test.YtliakhknmckdgaaDoorR05
import Derived.Test.YtliakhknmckdgaaDoorNWays
import Derived.Test.YtliakhknmckdgaaDoorR09
namespace Go.Proofs.YtliakhknmckdgaaDoor.nodesWeak
open Go.ChangeShapes Go.WideShapes Go.ChangeAt Go.RowKit
attribute [local go_sem] Oper.semAt_some
set_option maxRecDepth 8000 in
set_option maxHeartbeats 1000000 in
theorem walk_no (w : World) (hT : Tab w) (A : Option Addr) (l : List Oj) (cap : Nat) (k : Ky) (yA : Option Addr) (zs : List Int) (yc : Nat) (z : Ky) (hr : RdO w A l) (h : ¬ madeP l) :
    Calls Tryd.prog 5 #[.slice A l.length cap, k.val, .agg (wyc yA zs.length yc z)] w fun e w' => e = .returned (.bool true) ∧ Below w.heap.size w w' := by
  have HT := Lib.hid hT
  have HR := Lib.hid hr
  have H := Lib.hid h
  have HB := Lib.hid (((Below.refl w.heap.size w).alloc (Nat.le_refl _) (.cells (kc k.k k.o k.c k.l k.r k.v) 32)).alloc (by simp) (.cells (wyc yA zs.length yc z) 39))
  have HK0 := Lib.hid ((Blk.new w 32 (kc k.k k.o k.c k.l k.r k.v)).alloc (.cells (wyc yA zs.length yc z) 39))
  have HY0 := Lib.hid (Blk.new_of (w.alloc (.cells (kc k.k k.o k.c k.l k.r k.v) 32)) 39 (wyc yA zs.length yc z) (g := w.heap.size + 1) (by simp))
  clear hT hr h
  go_enter Tryd.func5, Tryd.ntmps5
  go_wp2_with (first
    | (go_at_call 9; refine (made_no ((HR.out.alloc _).alloc _) H.out).mono ?_; rintro e w1 ⟨rfl, b1⟩; have HB1 := Lib.hid (HB.out.trans (b1.mono HB.out.size)); clear b1)
    | (go_at_call 10; refine (known_any _ (HT.out.below HB1.out)).mono ?_; rintro e v9 ⟨rfl, b_⟩; have B9 := Lib.hid (HB1.out.trans (b_.mono (HB1.out).size)); clear b_))
  go_ret
  exact ⟨rfl, B9.out⟩
set_option maxRecDepth 8000 in
set_option maxHeartbeats 1000000 in
theorem walk_big (w : World) (hT : Tab w) (A : Option Addr) (l : List Oj) (cap : Nat) (k : Ky) (yA : Option Addr) (zs : List Int) (yc : Nat) (z : Ky) (hr : RdO w A l) (h : madeP l) (hl : 6 < zs.length) :
    Calls Tryd.prog 5 #[.slice A l.length cap, k.val, .agg (wyc yA zs.length yc z)] w fun e w' => e = .returned (.bool true) ∧ Below w.heap.size w w' := by
  have HT := Lib.hid hT
  have HR := Lib.hid hr
  have H := Lib.hid h
  have HB := Lib.hid (((Below.refl w.heap.size w).alloc (Nat.le_refl _) (.cells (kc k.k k.o k.c k.l k.r k.v) 32)).alloc (by simp) (.cells (wyc yA zs.length yc z) 39))
  have HK0 := Lib.hid ((Blk.new w 32 (kc k.k k.o k.c k.l k.r k.v)).alloc (.cells (wyc yA zs.length yc z) 39))
  have HY0 := Lib.hid (Blk.new_of (w.alloc (.cells (kc k.k k.o k.c k.l k.r k.v) 32)) 39 (wyc yA zs.length yc z) (g := w.heap.size + 1) (by simp))
  have d0 : decide ((6 : Int) < (zs.length : Int)) = true := decide_eq_true (by omega)
  have d1 : decide (6 < zs.length) = true := decide_eq_true hl
  clear hT hr h hl
  go_enter Tryd.func5, Tryd.ntmps5
  go_wp2_with (first
    | (go_at_call 9; refine (made_yes (HT.out.below HB.out) ((HR.out.alloc _).alloc _) H.out).mono ?_; rintro e w1 ⟨q, rfl, hq, hs, b1⟩; have HB1 := Lib.hid (HB.out.trans (b1.mono HB.out.size)); have HY1 := Lib.hid (HY0.out.keep b1); have HK1 := Lib.hid (HK0.out.keep b1); have y0 := HY1.out.wy_.1; obtain ⟨c0, c1, c2, c3, c4, c5⟩ := HK1.out.six; clear b1)
    | (go_at_call 10; refine (known_any _ (HT.out.below HB1.out)).mono ?_; rintro e v9 ⟨rfl, b_⟩; have B9 := Lib.hid (HB1.out.trans (b_.mono (HB1.out).size)); clear b_))
  go_ret
  exact ⟨rfl, B9.out⟩
set_option maxRecDepth 8000 in
set_option maxHeartbeats 1000000 in
theorem walk_bad (w : World) (hT : Tab w) (A : Option Addr) (l : List Oj) (cap : Nat) (k : Ky) (yA : Option Addr) (zs : List Int) (yc : Nat) (z : Ky) (hr : RdO w A l) (h : madeP l) (hl : zs.length ≤ 6) (hk : ¬ k.ok) :
    Calls Tryd.prog 5 #[.slice A l.length cap, k.val, .agg (wyc yA zs.length yc z)] w fun e w' => e = .returned (.bool true) ∧ Below w.heap.size w w' := by
  have HT := Lib.hid hT
  have HR := Lib.hid hr
  have H := Lib.hid h
  have HKO := Lib.hid hk
  have HB := Lib.hid (((Below.refl w.heap.size w).alloc (Nat.le_refl _) (.cells (kc k.k k.o k.c k.l k.r k.v) 32)).alloc (by simp) (.cells (wyc yA zs.length yc z) 39))
  have HK0 := Lib.hid ((Blk.new w 32 (kc k.k k.o k.c k.l k.r k.v)).alloc (.cells (wyc yA zs.length yc z) 39))
  have HY0 := Lib.hid (Blk.new_of (w.alloc (.cells (kc k.k k.o k.c k.l k.r k.v) 32)) 39 (wyc yA zs.length yc z) (g := w.heap.size + 1) (by simp))
  have d0 : decide ((6 : Int) < (zs.length : Int)) = false := decide_eq_false (by omega)
  have d1 : decide (6 < zs.length) = false := decide_eq_false (by omega)
  clear hT hr h hl hk
  go_enter Tryd.func5, Tryd.ntmps5
  go_wp2_with (first
    | (go_at_call 9; refine (made_yes (HT.out.below HB.out) ((HR.out.alloc _).alloc _) H.out).mono ?_; rintro e w1 ⟨q, rfl, hq, hs, b1⟩; have HB1 := Lib.hid (HB.out.trans (b1.mono HB.out.size)); have HY1 := Lib.hid (HY0.out.keep b1); have HK1 := Lib.hid (HK0.out.keep b1); have y0 := HY1.out.wy_.1; obtain ⟨c0, c1, c2, c3, c4, c5⟩ := HK1.out.six; clear b1)
    | (go_at_call 13; refine (cweak_no k HKO.out _).mono ?_; rintro e w2 ⟨rfl, b2⟩; have HB2 := Lib.hid ((HB1.out.trans (b2.mono HB1.out.size)).alloc (Nat.le_trans HB1.out.size b2.size) (.cells (kl zk).toArray 32)); clear b2)
    | (show wpList _ _ _ ({ dst := none, op := .store _ (.tmp 8) (.tmp 33), type := _, pos := _, after := _, guard := _ } :: _) _ _; refine wpList_store_new (l := kl zk) (l0 := kl zk) (ty := 32) rfl (.tmp 8) (.tmp 33) (by rfl) _ rfl (by rfl) (by rfl) size30 rfl (kl_one _) ?_)
    | (go_at_call 10; refine (known_any _ (HT.out.below HB2.out)).mono ?_; rintro e v9 ⟨rfl, b_⟩; have B9 := Lib.hid (HB2.out.trans (b_.mono (HB2.out).size)); clear b_))
  go_ret
  exact ⟨rfl, B9.out⟩
/-- how the law stands -/
structure Wq (w W : World) (q : Nat) (A' : Option Addr) (cap' : Nat) (ps : List Nat) (l : List Oj) (k : Ky) (yA : Option Addr) (n yc : Nat) (z : Ky) (kb : Nat) (x : Ky) : Prop where
  bel : Below w.heap.size w W
  st : StAt W q q A' cap' ps l
  ge : w.heap.size ≤ q
  kk : Blk W w.heap.size 32 (kl k).toArray
  wy : Blk W (w.heap.size + 1) 39 (wyc yA n yc z)
  kx : Blk W kb 32 (kl x).toArray
section
variable {w W W' W0 : World} {q : Nat} {A' : Option Addr} {cap' : Nat} {ps : List Nat} {l : List Oj} {k : Ky} {yA : Option Addr} {n yc : Nat} {z : Ky} {kb : Nat} {x y : Ky}
theorem Wq.below (h : Wq w W q A' cap' ps l k yA n yc z kb x) (hb : Below W.heap.size W W') : Wq w W' q A' cap' ps l k yA n yc z kb x := ⟨h.bel.trans (hb.mono h.bel.size), h.st.below hb, h.ge, h.kk.keep hb, h.wy.keep hb, h.kx.keep hb⟩
theorem Wq.alloc (h : Wq w W q A' cap' ps l k yA n yc z kb x) (o : Obj) : Wq w (W.alloc o) q A' cap' ps l k yA n yc z kb x := h.below ((Below.refl _ _).alloc (Nat.le_refl _) _)
theorem Wq.drew (h : Wq w W q A' cap' ps l k yA n yc z kb x) : Wq w W.drew q A' cap' ps l k yA n yc z kb x := h.below (below_drew (Below.refl _ _))
theorem Wq.set (h : Wq w W q A' cap' ps l k yA n yc z kb x) (h0 : Wq w W0 q A' cap' ps l k yA n yc z kb y) {g : Nat} (hg : W0.heap.size ≤ g) (c : Array Value) : Wq w (W.setRow g c) q A' cap' ps l k yA n yc z kb x :=
  ⟨below_setRow h.bel (Nat.le_trans h0.bel.size hg) c, h.st.keep fun i hi => setRow_other W g i c (by have := (h0.st.lt i hi).2; omega), h.ge, Blk.row_far h.kk (by have := h0.kk.lt; omega) c, Blk.row_far h.wy (by have := h0.wy.lt; omega) c, Blk.row_far h.kx (by have := h0.kx.lt; omega) c⟩
/-- the key that leads on is another one -/
theorem Wq.turn (h : Wq w W q A' cap' ps l k yA n yc z kb x) (hs : ∀ i, stHas q A' ps i → i ≠ kb) (h1 : w.heap.size + 1 < kb) : Wq w (W.setRow kb (kl y).toArray) q A' cap' ps l k yA n yc z kb y :=
  ⟨below_setRow h.bel (by omega) _, h.st.keep fun i hi => setRow_other W kb i _ (hs i hi), h.ge, Blk.row_far h.kk (by omega) _, Blk.row_far h.wy (by omega) _, h.kx.setRow _⟩
end
set_option maxRecDepth 100000 in
set_option maxHeartbeats 8000000 in
theorem walk_ok (w : World) (hT : Tab w) (A : Option Addr) (l : List Oj) (cap : Nat) (k : Ky) (yA : Option Addr) (zs : List Int) (yc : Nat) (z : Ky) (hr : RdO w A l) (hz : RdJ w yA zs) (h : madeP l) (hl : zs.length ≤ 6) (hk : k.ok) :
    Calls Tryd.prog 5 #[.slice A l.length cap, k.val, .agg (wyc yA zs.length yc z)] w fun e w' => e = .returned (.bool true) ∧ Below w.heap.size w w' := by
  have HT := Lib.hid hT
  have HR := Lib.hid hr
  have HZ := Lib.hid hz
  have HKO := Lib.hid hk
  obtain ⟨m, hm⟩ : ∃ m, l.length = m := ⟨_, rfl⟩
  obtain ⟨n, hn⟩ : ∃ n, zs.length = n := ⟨_, rfl⟩
  have HNZ := Lib.hid hn
  have HN := Lib.hid (show 0 < l.length by have := h.2.1; omega)
  have HN0 := Lib.hid (show 0 < m by have := h.2.1; omega)
  have HN' := Lib.hid (show m ≤ 1000 by have := h.1; omega)
  have HMD := Lib.hid (fun (W : World) (hT : Tab W) (hr : RdO W A l) => hm ▸ made_yes (cap := cap) hT hr h)
  have HLN := Lib.hid hm
  have hn6 : n ≤ 6 := by omega
  rw [hm, hn]
  have d0 : decide ((6 : Int) < (n : Int)) = false := decide_eq_false (by omega)
  have d1 : decide (6 < n) = false := decide_eq_false (by omega)
  have HB := Lib.hid (((Below.refl w.heap.size w).alloc (Nat.le_refl _) (.cells (kc k.k k.o k.c k.l k.r k.v) 32)).alloc (by simp) (.cells (wyc yA n yc z) 39))
  have HK0 := Lib.hid ((Blk.new w 32 (kc k.k k.o k.c k.l k.r k.v)).alloc (.cells (wyc yA n yc z) 39))
  have HY0 := Lib.hid (Blk.new_of (w.alloc (.cells (kc k.k k.o k.c k.l k.r k.v) 32)) 39 (wyc yA n yc z) (g := w.heap.size + 1) (by simp))
  clear hT hr hz h hl hk hm hn
  go_enter Tryd.func5, Tryd.ntmps5
  go_wp2_with (first
    | (go_at_call 9; refine (HMD.out _ (HT.out.below HB.out) ((HR.out.alloc _).alloc _)).mono ?_; rintro e w1 ⟨q, rfl, hq, ⟨A', cap', ps, hs⟩, b1⟩; have HB1 := Lib.hid (HB.out.trans (b1.mono HB.out.size)); have HY1 := Lib.hid (HY0.out.keep b1); have HK1 := Lib.hid (HK0.out.keep b1); have HS1 := Lib.hid hs; have HQ1 := Lib.hid (Nat.le_trans HB.out.size hq); have y0 := HY1.out.wy_.1; obtain ⟨c0, c1, c2, c3, c4, c5⟩ := HK1.out.six; clear b1 hs hq)
    | (go_at_call 13; refine (cweak_yes k HKO.out _).mono ?_; rintro e w2 ⟨rfl, b2⟩; have HI : Hid (Wq w (w2.alloc (.cells (kl k.weak).toArray 32)) q A' cap' ps l k yA n yc z w2.heap.size k.weak) := Lib.hid ⟨(HB1.out.trans (b2.mono HB1.out.size)).alloc (Nat.le_trans HB1.out.size b2.size) _, (HS1.out.below b2).alloc _, HQ1.out, (show Blk _ _ _ (kl k).toArray from HK1.out.keep b2).alloc _, (HY1.out.keep b2).alloc _, Blk.new w2 32 (kl k.weak).toArray⟩; have HKS := Lib.hid (show ∀ i, stHas q A' ps i → i ≠ w2.heap.size from fun i hi => by have h1 := (HS1.out.lt i hi).2; have h2 := b2.size; omega); have HKB := Lib.hid (show w.heap.size + 1 < w2.heap.size from Nat.lt_of_lt_of_le HY1.out.lt b2.size); clear b2 y0 c0 c1 c2 c3 c4 c5)
    | (show wpList _ _ _ ({ dst := none, op := .store _ (.tmp 8) (.tmp 33), type := _, pos := _, after := _, guard := _ } :: _) _ _; refine wpList_store_new (l := kl k.weak) (l0 := kl zk) (ty := 32) rfl (.tmp 8) (.tmp 33) (by rfl) _ rfl (by rfl) (by rfl) size30 rfl (kl_one _) ?_))
  generalize w2.heap.size = kb at HI HKS HKB ⊢
  go_loopw [10, 11, 12, 13, 14, 15, 16, 17, 18] (fun q10 _ _ _ _ _ _ _ _ wr => ∃ i : Nat, i ≤ n ∧ q10 = .int .i64 i ∧ ∃ x, Wkd x ∧ Wq w wr q A' cap' ps l k yA n yc z kb x) (fun q10 _ _ _ _ _ _ _ _ _ => n + 1 - (intOf q10).toNat)
  case atStart => exact ⟨0, by omega, rfl, _, wkd_weak HKO.out, HI.out⟩
  case round =>
    obtain ⟨i, hi, rfl, x, hx, hq⟩ := hrel
    clear HI HB1 HY1 HK1 HS1 HQ1
    have HK := Lib.hid hq
    clear hq
    have y0 := HK.out.wy.wy_.1
    by_cases hlt : i < n
    · obtain ⟨yb, yo, rfl, _⟩ := HZ.out i (by rw [HNZ.out]; exact hlt)
      obtain ⟨si, hsi⟩ : ∃ si, zs[i]'(by rw [HNZ.out]; exact hlt) = si := ⟨_, rfl⟩
      have HJ := Lib.hid (show ∀ W, Below w.heap.size w W → W.cell? ⟨yb, yo + i, none⟩ = some (.int .i64 si) from fun W hW => by
        obtain ⟨b', o', e', hc⟩ := HZ.out i (by rw [HNZ.out]; exact hlt)
        injection e' with e'
        injection e' with e1 e2
        subst e1 e2
        rw [hsi] at hc
        exact (hW.cell (p := ⟨yb, yo + i, none⟩) (cell_lt hc)).trans hc)
      clear hsi
      have e0 : decide ((i : Int) < (n : Int)) = true := decide_eq_true (by omega)
      have e1 : decide (i < n) = true := decide_eq_true hlt
      have e2 : (i : Int) < (n : Int) := by omega
      obtain ⟨⟨g, c⟩, hg⟩ : ∃ p, getA l x si = p := ⟨_, rfl⟩
      have HGE := Lib.hid (show ∀ W, Wq w W q A' cap' ps l k (some ⟨yb, yo, none⟩) n yc z kb x → Calls Tryd.prog 14 #[pv q, x.val, .int .i64 si] W fun e w' => e = .returned (.tuple #[g.val, .int .i64 c]) ∧ Below W.heap.size W w' from fun W hW => by
        have := get_all hW.st HN.out (HT.out.below hW.bel) x si
        rw [hg] at this
        exact this)
      by_cases hc : c = 0
      · subst hc
        obtain ⟨ha, hw, hgw⟩ := getA_wk hx (i := si) (by rw [hg])
        rw [hg] at hw hgw
        have HW := Lib.hid hw
        have HA_ := Lib.hid ha
        have HR3 := Lib.hid (show x.r % 4 ≠ 0 by have := (hx.2 ha.2).1; omega)
        have HCW := Lib.hid (show ∀ W, Calls Tryd.prog 13 #[g.val] W fun e w' => e = .returned (.tuple #[g.val, .bool true]) ∧ Below W.heap.size W w' from fun W => by
          have := cweak_yes g hw.1 W
          rw [hgw] at this
          exact this)
        clear hg hw hgw ha hx
        go_wp2_with fail
        clear y0
        refine wp_region_only (S := fun W => KeyAt W kb 0 x ∧ W.cell? ⟨w.heap.size + 1, 0, none⟩ = some (.slice (some ⟨yb, yo, none⟩) n yc) ∧ W.cell? ⟨yb, yo + i, none⟩ = some (.int .i64 si) ∧ KeyAt W (w.heap.size + 1) 1 z) (by kernel_rfl) ⟨HK.out.drew.kx.kat, HK.out.drew.wy.wy_.1, HJ.out _ HK.out.drew.bel, HK.out.drew.wy.wy_.2⟩ (fun hHeld => ?_)
        refine wpAnyH_take (i := 0) (v := ?v31) rfl (by kernel_rfl) (by kernel_rfl) (by kernel_rfl) (fun _ _ _ h => h) (Or.inl ⟨by rfl, ?hy31⟩) hHeld ?rest31
        case hy31 =>
          intro w' hSw
          try dsimp only at hSw
          go_simp
          first | done | with_reducible rfl
        try simp only [Act.put, List.getElem_toArray, List.getElem_cons_zero, List.setIfInBounds_toArray, List.set_cons_zero, List.set_cons_succ]
        refine wpAnyH_take (i := 1) rfl (by kernel_rfl) (by kernel_rfl) (by kernel_rfl) (fun _ _ _ h => h) (y_ky (by rfl) (.tmp 8) (by rfl) kb 0 (by rfl) x (fun _ h => h.1)) hHeld ?_
        try simp only [Act.put, List.getElem_toArray, List.getElem_cons_succ, List.getElem_cons_zero, List.setIfInBounds_toArray, List.set_cons_zero, List.set_cons_succ]
        refine wpAnyH_take (i := 2) (v := ?v32) rfl (by kernel_rfl) (by kernel_rfl) (by kernel_rfl) (fun _ _ _ h => h) (Or.inl ⟨by rfl, ?hy32⟩) hHeld ?rest32
        case hy32 =>
          intro w' hSw
          try dsimp only at hSw
          go_simp
          first | done | with_reducible rfl
        try simp only [Act.put, List.getElem_toArray, List.getElem_cons_succ, List.getElem_cons_zero, List.setIfInBounds_toArray, List.set_cons_zero, List.set_cons_succ]
        refine wpAnyH_take (i := 3) (v := ?v33) rfl (by kernel_rfl) (by kernel_rfl) (by kernel_rfl) (fun _ _ _ h => h) (Or.inl ⟨by rfl, ?hy33⟩) hHeld ?rest33
        case hy33 =>
          intro w' hSw
          try dsimp only at hSw
          go_simp
          first | done | with_reducible rfl
        try simp only [Act.put, List.getElem_toArray, List.getElem_cons_succ, List.getElem_cons_zero, List.setIfInBounds_toArray, List.set_cons_zero, List.set_cons_succ]
        refine wpAnyH_take (i := 4) (v := ?v34) rfl (by kernel_rfl) (by kernel_rfl) (by kernel_rfl) (fun _ _ _ h => h) (Or.inl ⟨by rfl, ?hy34⟩) hHeld ?rest34
        case hy34 =>
          intro w' hSw
          try dsimp only at hSw
          go_simp
          first | done | with_reducible rfl
        try simp only [Act.put, List.getElem_toArray, List.getElem_cons_succ, List.getElem_cons_zero, List.setIfInBounds_toArray, List.set_cons_zero, List.set_cons_succ]
        refine wpAnyH_take (i := 5) (v := ?v35) rfl (by kernel_rfl) (by kernel_rfl) (by kernel_rfl) (fun _ _ _ h => h) (Or.inl ⟨by rfl, ?hy35⟩) hHeld ?rest35
        case hy35 =>
          intro w' hSw
          try dsimp only at hSw
          go_simp
          first | done | with_reducible rfl
        try simp only [Act.put, List.getElem_toArray, List.getElem_cons_succ, List.getElem_cons_zero, List.setIfInBounds_toArray, List.set_cons_zero, List.set_cons_succ]
        refine wpAnyH_take (i := 6) (v := ?v36) rfl (by kernel_rfl) (by kernel_rfl) (by kernel_rfl) (fun _ _ _ h => h) (Or.inl ⟨by rfl, ?hy36⟩) hHeld ?rest36
        case hy36 =>
          intro w' hSw
          try dsimp only at hSw
          go_simp
          first | done | with_reducible rfl
        try simp only [Act.put, List.getElem_toArray, List.getElem_cons_succ, List.getElem_cons_zero, List.setIfInBounds_toArray, List.set_cons_zero, List.set_cons_succ]
        refine wpAnyH_ready (rs := [7, 11]) (by kernel_rfl) (by simp) ?_
        refine AllReadyH.cons (by rfl) (fun K hK => ?_) (AllReadyH.cons (by rfl) (fun K hK => ?_) AllReadyH.nil)
        · go_simp
          refine (HGE.out _ HK.out.drew).mono ?_
          rintro e_ aw2 ⟨rfl, b_⟩
          have aK2 := Lib.hid (HK.out.drew.below b_)
          have aS2 : Hid (wr.heap.size ≤ aw2.heap.size) := Lib.hid b_.size
          clear b_ hHeld
          go_wp2_with fail
          refine hK.out _ _ ⟨aK2.out.kx.kat, aK2.out.wy.wy_.1, HJ.out _ aK2.out.bel, aK2.out.wy.wy_.2⟩ (fun hHeld => ?_)
          clear hK K
          try simp only [Act.put, List.getElem_toArray, List.getElem_cons_succ, List.getElem_cons_zero, List.setIfInBounds_toArray, List.set_cons_zero, List.set_cons_succ]
          refine wpAnyH_take (i := 8) (v := ?v37) rfl (by kernel_rfl) (by kernel_rfl) (by kernel_rfl) (fun _ _ _ h => h) (Or.inl ⟨by rfl, ?hy37⟩) hHeld ?rest37
          case hy37 =>
            intro w' hSw
            try dsimp only at hSw
            go_simp
            first | done | with_reducible rfl
          try simp only [Act.put, List.getElem_toArray, List.getElem_cons_succ, List.getElem_cons_zero, List.setIfInBounds_toArray, List.set_cons_zero, List.set_cons_succ]
          refine wpAnyH_take (i := 9) (v := ?v38) rfl (by kernel_rfl) (by kernel_rfl) (by kernel_rfl) (fun _ _ _ h => h) (Or.inl ⟨by rfl, ?hy38⟩) hHeld ?rest38
          case hy38 =>
            intro w' hSw
            try dsimp only at hSw
            go_simp
            first | done | with_reducible rfl
          try simp only [Act.put, List.getElem_toArray, List.getElem_cons_succ, List.getElem_cons_zero, List.setIfInBounds_toArray, List.set_cons_zero, List.set_cons_succ]
          refine wpAnyH_take (i := 10) (v := ?v39) rfl (by kernel_rfl) (by kernel_rfl) (by kernel_rfl) (fun _ _ _ h => h) (Or.inl ⟨by rfl, ?hy39⟩) hHeld ?rest39
          case hy39 =>
            intro w' hSw
            try dsimp only at hSw
            go_simp
            first | done | with_reducible rfl
          try simp only [Act.put, List.getElem_toArray, List.getElem_cons_succ, List.getElem_cons_zero, List.setIfInBounds_toArray, List.set_cons_zero, List.set_cons_succ]
          refine wpAnyH_ready (rs := [11]) (by kernel_rfl) (by simp) ?_
          refine AllReadyH.cons (by rfl) (fun K hK => ?_) AllReadyH.nil
          refine step_alloc30 rfl (by rfl) ?_
          intro ag aw3 hg hw
          have aK3 : Hid (Wq w aw3 q A' cap' ps l k (some ⟨yb, yo, none⟩) n yc z kb x) := Lib.hid (by subst hw; exact aK2.out.alloc _)
          have aG3 : Hid (Blk aw3 ag 32 (kl zk).toArray) := Lib.hid (by subst hw hg; exact Blk.new _ _ _)
          have aL : Hid (wr.heap.size ≤ ag) := Lib.hid (by subst hg; exact aS2.out)
          clear hg hw hHeld
          refine hK.out _ _ ⟨aK3.out.kx.kat, aK3.out.wy.wy_.1, HJ.out _ aK3.out.bel, aK3.out.wy.wy_.2⟩ (fun hHeld => ?_)
          clear hK K
          try simp only [Act.put, List.getElem_toArray, List.getElem_cons_succ, List.getElem_cons_zero, List.setIfInBounds_toArray, List.set_cons_zero, List.set_cons_succ]
          refine wpAnyH_ready (rs := [12]) (by kernel_rfl) (by simp) ?_
          refine AllReadyH.cons (by rfl) (fun K hK => ?_) AllReadyH.nil
          refine step_store_big aG3.out rfl (.tmp 11) (.tmp 54) (ty := 32) (l := kl g) rfl (by rfl) (by rfl) size30 rfl (kl_one g) ?_
          have aK9 := Lib.hid (aK3.out.set HK.out aL.out (kl g).toArray)
          have aG9 := Lib.hid (aG3.out.setRow (kl g).toArray)
          generalize aw3.setRow ag (kl g).toArray = aW at aK9 aG9 ⊢
          refine hK.out _ _ ⟨aK9.out.kx.kat, aK9.out.wy.wy_.1, HJ.out _ aK9.out.bel, aK9.out.wy.wy_.2⟩ (fun hHeld => ?_)
          clear hK K
          try simp only [Act.put, List.getElem_toArray, List.getElem_cons_succ, List.getElem_cons_zero]
          refine wpAnyH_take (i := 13) (v := ?v40) rfl (by kernel_rfl) (by kernel_rfl) (by kernel_rfl) (fun _ _ _ h => h) (Or.inl ⟨by rfl, ?hy40⟩) hHeld ?rest40
          case hy40 =>
            intro w' hSw
            try dsimp only at hSw
            go_simp
            first | done | with_reducible rfl
          try simp only [Act.put, List.getElem_toArray, List.getElem_cons_succ, List.getElem_cons_zero, List.setIfInBounds_toArray, List.set_cons_zero, List.set_cons_succ]
          refine wpAnyH_done (by kernel_rfl) ?_ _
          refine OnlyN.normal ?_
          clear hHeld
          obtain ⟨g0, g1, g2, g3, g4, g5⟩ := aG9.out.six
          go_wp2_with (first
            | (go_at_call 13; refine (HCW.out _).mono ?_; rintro e_ w5 ⟨rfl, b_⟩; have HK6 := Lib.hid ((aK9.out.below b_).alloc (.cells (kl g).toArray 32)); have HG := Lib.hid ((aG9.out.keep b_).alloc (.cells (kl g).toArray 32)); have HU := Lib.hid (Blk.new w5 32 (kl g).toArray); clear b_ g0 g1 g2 g3 g4 g5; obtain ⟨g0, g1, g2, g3, g4, g5⟩ := HG.out.six; obtain ⟨h0, h1, h2, h3, h4, h5⟩ := HU.out.six)
            | (show wpList _ _ _ ({ dst := none, op := .store _ (.tmp 13) (.tmp 61), type := _, pos := _, after := _, guard := _ } :: _) _ _; refine wpList_store_new (l := kl g) (l0 := kl zk) (ty := 32) rfl (.tmp 13) (.tmp 61) (by rfl) _ rfl (by rfl) (by rfl) size30 rfl (kl_one _) ?_)
            | (show wpList _ _ _ ({ dst := some 68, op := .binOp .neq _ _ _ _, type := _, pos := _, after := _, guard := _ } :: _) _ _; refine wpList_yields (S := fun _ => True) (y_kyne_me (by rfl) (by rfl) g (by rfl) (by rfl)) trivial ?_))
          clear g0 g1 g2 g3 g4 g5 h0 h1 h2 h3 h4 h5
          have HGLT : Hid (ag < (w5.alloc (.cells (kl g).toArray 32)).heap.size) := Lib.hid HG.out.lt
          generalize w5.alloc (.cells (kl g).toArray 32) = w6 at HK6 HG HGLT ⊢
          refine wp_region_only (S := fun W => KeyAt W kb 0 x ∧ W.cell? ⟨w.heap.size + 1, 0, none⟩ = some (.slice (some ⟨yb, yo, none⟩) n yc) ∧ W.cell? ⟨yb, yo + i, none⟩ = some (.int .i64 si) ∧ KeyAt W (w.heap.size + 1) 1 z) (by kernel_rfl) ⟨HK6.out.drew.kx.kat, HK6.out.drew.wy.wy_.1, HJ.out _ HK6.out.drew.bel, HK6.out.drew.wy.wy_.2⟩ (fun hHeld => ?_)
          refine wpAnyH_take (i := 0) (v := ?v1) rfl (by kernel_rfl) (by kernel_rfl) (by kernel_rfl) (fun _ _ _ h => h) (Or.inl ⟨by rfl, ?hy1⟩) hHeld ?rest1
          case hy1 =>
            intro w' hSw
            try dsimp only at hSw
            go_simp
            first | done | with_reducible rfl
          try simp only [Act.put, List.getElem_toArray, List.getElem_cons_zero, List.setIfInBounds_toArray, List.set_cons_zero, List.set_cons_succ]
          refine wpAnyH_take (i := 1) rfl (by kernel_rfl) (by kernel_rfl) (by kernel_rfl) (fun _ _ _ h => h) (y_ky (by rfl) (.tmp 8) (by rfl) kb 0 (by rfl) x (fun _ h => h.1)) hHeld ?_
          try simp only [Act.put, List.getElem_toArray, List.getElem_cons_succ, List.getElem_cons_zero, List.setIfInBounds_toArray, List.set_cons_zero, List.set_cons_succ]
          refine wpAnyH_take (i := 2) (v := ?v2) rfl (by kernel_rfl) (by kernel_rfl) (by kernel_rfl) (fun _ _ _ h => h) (Or.inl ⟨by rfl, ?hy2⟩) hHeld ?rest2
          case hy2 =>
            intro w' hSw
            try dsimp only at hSw
            go_simp
            first | done | with_reducible rfl
          try simp only [Act.put, List.getElem_toArray, List.getElem_cons_succ, List.getElem_cons_zero, List.setIfInBounds_toArray, List.set_cons_zero, List.set_cons_succ]
          refine wpAnyH_take (i := 3) (v := ?v3) rfl (by kernel_rfl) (by kernel_rfl) (by kernel_rfl) (fun _ _ _ h => h) (Or.inl ⟨by rfl, ?hy3⟩) hHeld ?rest3
          case hy3 =>
            intro w' hSw
            try dsimp only at hSw
            go_simp
            first | done | with_reducible rfl
          try simp only [Act.put, List.getElem_toArray, List.getElem_cons_succ, List.getElem_cons_zero, List.setIfInBounds_toArray, List.set_cons_zero, List.set_cons_succ]
          refine wpAnyH_take (i := 4) (v := ?v4) rfl (by kernel_rfl) (by kernel_rfl) (by kernel_rfl) (fun _ _ _ h => h) (Or.inl ⟨by rfl, ?hy4⟩) hHeld ?rest4
          case hy4 =>
            intro w' hSw
            try dsimp only at hSw
            go_simp
            first | done | with_reducible rfl
          try simp only [Act.put, List.getElem_toArray, List.getElem_cons_succ, List.getElem_cons_zero, List.setIfInBounds_toArray, List.set_cons_zero, List.set_cons_succ]
          refine wpAnyH_take (i := 5) (v := ?v5) rfl (by kernel_rfl) (by kernel_rfl) (by kernel_rfl) (fun _ _ _ h => h) (Or.inl ⟨by rfl, ?hy5⟩) hHeld ?rest5
          case hy5 =>
            intro w' hSw
            try dsimp only at hSw
            go_simp
            first | done | with_reducible rfl
          try simp only [Act.put, List.getElem_toArray, List.getElem_cons_succ, List.getElem_cons_zero, List.setIfInBounds_toArray, List.set_cons_zero, List.set_cons_succ]
          refine wpAnyH_take (i := 6) (v := ?v6) rfl (by kernel_rfl) (by kernel_rfl) (by kernel_rfl) (fun _ _ _ h => h) (Or.inl ⟨by rfl, ?hy6⟩) hHeld ?rest6
          case hy6 =>
            intro w' hSw
            try dsimp only at hSw
            go_simp
            first | done | with_reducible rfl
          try simp only [Act.put, List.getElem_toArray, List.getElem_cons_succ, List.getElem_cons_zero, List.setIfInBounds_toArray, List.set_cons_zero, List.set_cons_succ]
          refine wpAnyH_take (i := 7) (v := ?v7) rfl (by kernel_rfl) (by kernel_rfl) (by kernel_rfl) (fun _ _ _ h => h) (Or.inl ⟨by rfl, ?hy7⟩) hHeld ?rest7
          case hy7 =>
            intro w' hSw
            try dsimp only at hSw
            go_simp
            first | done | with_reducible rfl
          try simp only [Act.put, List.getElem_toArray, List.getElem_cons_succ, List.getElem_cons_zero, List.setIfInBounds_toArray, List.set_cons_zero, List.set_cons_succ]
          refine wpAnyH_take (i := 8) rfl (by kernel_rfl) (by kernel_rfl) (by kernel_rfl) (fun _ _ _ h => h) (y_ky (by rfl) (.tmp 78) (by rfl) (w.heap.size + 1) 1 (by rfl) z (fun _ h => h.2.2.2)) hHeld ?_
          try simp only [Act.put, List.getElem_toArray, List.getElem_cons_succ, List.getElem_cons_zero, List.setIfInBounds_toArray, List.set_cons_zero, List.set_cons_succ]
          refine wpAnyH_ready (rs := [9, 13]) (by kernel_rfl) (by simp) ?_
          refine AllReadyH.cons (by rfl) (fun K hK => ?_) (AllReadyH.cons (by rfl) (fun K hK => ?_) AllReadyH.nil)
          · go_simp
            refine (put_wk HK6.out.drew.st HN.out (HT.out.below HK6.out.drew.bel) x z si HA_.out HR3.out).mono ?_
            rintro e_ bw2 ⟨rfl, b_⟩
            have bK2 := Lib.hid (HK6.out.drew.below b_)
            have HGx2 := Lib.hid (HG.out.drew.keep b_)
            have bS2 : Hid (w6.heap.size ≤ bw2.heap.size) := Lib.hid b_.size
            clear b_ hHeld
            go_wp2_with fail
            refine hK.out _ _ ⟨bK2.out.kx.kat, bK2.out.wy.wy_.1, HJ.out _ bK2.out.bel, bK2.out.wy.wy_.2⟩ (fun hHeld => ?_)
            clear hK K
            try simp only [Act.put, List.getElem_toArray, List.getElem_cons_succ, List.getElem_cons_zero, List.setIfInBounds_toArray, List.set_cons_zero, List.set_cons_succ]
            refine wpAnyH_take (i := 10) (v := ?v8) rfl (by kernel_rfl) (by kernel_rfl) (by kernel_rfl) (fun _ _ _ h => h) (Or.inl ⟨by rfl, ?hy8⟩) hHeld ?rest8
            case hy8 =>
              intro w' hSw
              try dsimp only at hSw
              go_simp
              first | done | with_reducible rfl
            try simp only [Act.put, List.getElem_toArray, List.getElem_cons_succ, List.getElem_cons_zero, List.setIfInBounds_toArray, List.set_cons_zero, List.set_cons_succ]
            refine wpAnyH_take (i := 11) (v := ?v9) rfl (by kernel_rfl) (by kernel_rfl) (by kernel_rfl) (fun _ _ _ h => h) (Or.inl ⟨by rfl, ?hy9⟩) hHeld ?rest9
            case hy9 =>
              intro w' hSw
              try dsimp only at hSw
              go_simp
              first | done | with_reducible rfl
            try simp only [Act.put, List.getElem_toArray, List.getElem_cons_succ, List.getElem_cons_zero, List.setIfInBounds_toArray, List.set_cons_zero, List.set_cons_succ]
            refine wpAnyH_take (i := 12) (v := ?v10) rfl (by kernel_rfl) (by kernel_rfl) (by kernel_rfl) (fun _ _ _ h => h) (Or.inl ⟨by rfl, ?hy10⟩) hHeld ?rest10
            case hy10 =>
              intro w' hSw
              try dsimp only at hSw
              go_simp
              first | done | with_reducible rfl
            try simp only [Act.put, List.getElem_toArray, List.getElem_cons_succ, List.getElem_cons_zero, List.setIfInBounds_toArray, List.set_cons_zero, List.set_cons_succ]
            refine wpAnyH_ready (rs := [13]) (by kernel_rfl) (by simp) ?_
            refine AllReadyH.cons (by rfl) (fun K hK => ?_) AllReadyH.nil
            refine step_alloc30 rfl (by rfl) ?_
            intro bg bw3 hg hw
            have bK3 : Hid (Wq w bw3 q A' cap' ps l k (some ⟨yb, yo, none⟩) n yc z kb x) := Lib.hid (by subst hw; exact bK2.out.alloc _)
            have HGx3 : Hid (Blk bw3 ag 32 (kl g).toArray) := Lib.hid (by subst hw; exact HGx2.out.alloc _)
            have bG3 : Hid (Blk bw3 bg 32 (kl zk).toArray) := Lib.hid (by subst hw hg; exact Blk.new _ _ _)
            have bL : Hid (w6.heap.size ≤ bg) := Lib.hid (by subst hg; exact bS2.out)
            clear hg hw hHeld
            refine hK.out _ _ ⟨bK3.out.kx.kat, bK3.out.wy.wy_.1, HJ.out _ bK3.out.bel, bK3.out.wy.wy_.2⟩ (fun hHeld => ?_)
            clear hK K
            try simp only [Act.put, List.getElem_toArray, List.getElem_cons_succ, List.getElem_cons_zero, List.setIfInBounds_toArray, List.set_cons_zero, List.set_cons_succ]
            refine wpAnyH_ready (rs := [14]) (by kernel_rfl) (by simp) ?_
            refine AllReadyH.cons (by rfl) (fun K hK => ?_) AllReadyH.nil
            refine step_store_big bG3.out rfl (.tmp 15) (.tmp 81) (ty := 32) (l := kl zk) rfl (by rfl) (by rfl) size30 rfl (kl_one zk) ?_
            have bK9 := Lib.hid (bK3.out.set HK6.out bL.out (kl zk).toArray)
            have HGx9 := Lib.hid (Blk.row_far (g := ag) HGx3.out (show ag ≠ bg by have h1 := bL.out; have h2 : ag < w6.heap.size := HGLT.out; omega) (kl zk).toArray)
            have bG9 := Lib.hid (bG3.out.setRow (kl zk).toArray)
            generalize bw3.setRow bg (kl zk).toArray = bW at bK9 bG9 HGx9 ⊢
            refine hK.out _ _ ⟨bK9.out.kx.kat, bK9.out.wy.wy_.1, HJ.out _ bK9.out.bel, bK9.out.wy.wy_.2⟩ (fun hHeld => ?_)
            clear hK K
            try simp only [Act.put, List.getElem_toArray, List.getElem_cons_succ, List.getElem_cons_zero]
            refine wpAnyH_take (i := 15) (v := ?v11) rfl (by kernel_rfl) (by kernel_rfl) (by kernel_rfl) (fun _ _ _ h => h) (Or.inl ⟨by rfl, ?hy11⟩) hHeld ?rest11
            case hy11 =>
              intro w' hSw
              try dsimp only at hSw
              go_simp
              first | done | with_reducible rfl
            try simp only [Act.put, List.getElem_toArray, List.getElem_cons_succ, List.getElem_cons_zero, List.setIfInBounds_toArray, List.set_cons_zero, List.set_cons_succ]
            refine wpAnyH_done (by kernel_rfl) ?_ _
            refine OnlyN.normal ?_
            clear hHeld
            obtain ⟨x0, x1, x2, x3, x4, x5⟩ := bK9.out.kx.six
            go_wp2_with (first
              | (go_at_call 16; refine (clear_wk bK9.out.st HN.out (HT.out.below bK9.out.bel) x HA_.out HR3.out).mono ?_; rintro e_ w7 ⟨rfl, b_⟩; have HK7 := Lib.hid (bK9.out.below b_); have HG7 := Lib.hid (HGx9.out.keep b_); clear b_ x0 x1 x2 x3 x4 x5; obtain ⟨x0, x1, x2, x3, x4, x5⟩ := HK7.out.kx.six; obtain ⟨k0, k1, k2, k3, k4, k5⟩ := HK7.out.kk.six)
              | (go_at_call 17; refine (clone_wk HK7.out.st HN.out (HT.out.below HK7.out.bel) x k HA_.out HR3.out).mono ?_; rintro e_ w8 ⟨rfl, b_⟩; have HK8 := Lib.hid (HK7.out.below b_); have HG8 := Lib.hid (HG7.out.keep b_); clear b_ x0 x1 x2 x3 x4 x5 k0 k1 k2 k3 k4 k5)
              | (go_at_call 12; refine (same_n HK8.out.st HLN.out HN0.out HN'.out _ _ (HR.out.below HK8.out.bel)).mono ?_; rintro e_ w9 ⟨rfl, b_⟩; have HK9 := Lib.hid (HK8.out.below b_); have HG9 := Lib.hid (HG8.out.keep b_); clear b_; obtain ⟨g0, g1, g2, g3, g4, g5⟩ := HG9.out.six)
              | (show wpList _ _ _ ({ dst := none, op := .store _ (.tmp 8) (.tmp 106), type := _, pos := _, after := _, guard := _ } :: _) _ _; refine wpList_store_big (l0 := kl x) HK9.out.kx rfl (.tmp 8) (.tmp 106) (ty := 32) (l := kl g) rfl (by rfl) (by rfl) size30 rfl (kl_one _) ?_))
            go_roundw
            case rel => exact ⟨i + 1, by omega, by go_num, g, HW.out, HK9.out.turn HKS.out HKB.out⟩
            case measure => simp [intOf]; omega
          · refine step_alloc30 rfl (by rfl) ?_
            intro bg bw1 hg hw
            have bK1 : Hid (Wq w bw1 q A' cap' ps l k (some ⟨yb, yo, none⟩) n yc z kb x) := Lib.hid (by subst hw; exact HK6.out.drew.alloc _)
            have HGx1 : Hid (Blk bw1 ag 32 (kl g).toArray) := Lib.hid (by subst hw; exact HG.out.drew.alloc _)
            have bG1 : Hid (Blk bw1 bg 32 (kl zk).toArray) := Lib.hid (by subst hw hg; exact Blk.new _ _ _)
            have bL : Hid (w6.heap.size ≤ bg) := Lib.hid (by subst hg; exact Nat.le_refl _)
            clear hg hw hHeld
            refine hK.out _ _ ⟨bK1.out.kx.kat, bK1.out.wy.wy_.1, HJ.out _ bK1.out.bel, bK1.out.wy.wy_.2⟩ (fun hHeld => ?_)
            clear hK K
            try simp only [Act.put, List.getElem_toArray, List.getElem_cons_succ, List.getElem_cons_zero, List.setIfInBounds_toArray, List.set_cons_zero, List.set_cons_succ]
            refine wpAnyH_ready (rs := [9]) (by kernel_rfl) (by simp) ?_
            refine AllReadyH.cons (by rfl) (fun K hK => ?_) AllReadyH.nil
            go_simp
            refine (put_wk bK1.out.st HN.out (HT.out.below bK1.out.bel) x z si HA_.out HR3.out).mono ?_
            rintro e_ bw3 ⟨rfl, b_⟩
            have bK3 := Lib.hid (bK1.out.below b_)
            have HGx3 := Lib.hid (HGx1.out.keep b_)
            have bG3 := Lib.hid (bG1.out.keep b_)
            clear b_ hHeld
            go_wp2_with fail
            refine hK.out _ _ ⟨bK3.out.kx.kat, bK3.out.wy.wy_.1, HJ.out _ bK3.out.bel, bK3.out.wy.wy_.2⟩ (fun hHeld => ?_)
            clear hK K
            try simp only [Act.put, List.getElem_toArray, List.getElem_cons_succ, List.getElem_cons_zero, List.setIfInBounds_toArray, List.set_cons_zero, List.set_cons_succ]
            refine wpAnyH_take (i := 10) (v := ?v12) rfl (by kernel_rfl) (by kernel_rfl) (by kernel_rfl) (fun _ _ _ h => h) (Or.inl ⟨by rfl, ?hy12⟩) hHeld ?rest12
            case hy12 =>
              intro w' hSw
              try dsimp only at hSw
              go_simp
              first | done | with_reducible rfl
            try simp only [Act.put, List.getElem_toArray, List.getElem_cons_succ, List.getElem_cons_zero, List.setIfInBounds_toArray, List.set_cons_zero, List.set_cons_succ]
            refine wpAnyH_take (i := 11) (v := ?v13) rfl (by kernel_rfl) (by kernel_rfl) (by kernel_rfl) (fun _ _ _ h => h) (Or.inl ⟨by rfl, ?hy13⟩) hHeld ?rest13
            case hy13 =>
              intro w' hSw
              try dsimp only at hSw
              go_simp
              first | done | with_reducible rfl
            try simp only [Act.put, List.getElem_toArray, List.getElem_cons_succ, List.getElem_cons_zero, List.setIfInBounds_toArray, List.set_cons_zero, List.set_cons_succ]
            refine wpAnyH_take (i := 12) (v := ?v14) rfl (by kernel_rfl) (by kernel_rfl) (by kernel_rfl) (fun _ _ _ h => h) (Or.inl ⟨by rfl, ?hy14⟩) hHeld ?rest14
            case hy14 =>
              intro w' hSw
              try dsimp only at hSw
              go_simp
              first | done | with_reducible rfl
            try simp only [Act.put, List.getElem_toArray, List.getElem_cons_succ, List.getElem_cons_zero, List.setIfInBounds_toArray, List.set_cons_zero, List.set_cons_succ]
            refine wpAnyH_ready (rs := [14]) (by kernel_rfl) (by simp) ?_
            refine AllReadyH.cons (by rfl) (fun K hK => ?_) AllReadyH.nil
            refine step_store_big bG3.out rfl (.tmp 15) (.tmp 81) (ty := 32) (l := kl zk) rfl (by rfl) (by rfl) size30 rfl (kl_one zk) ?_
            have bK9 := Lib.hid (bK3.out.set HK6.out bL.out (kl zk).toArray)
            have HGx9 := Lib.hid (Blk.row_far (g := ag) HGx3.out (show ag ≠ bg by have h1 := bL.out; have h2 : ag < w6.heap.size := HGLT.out; omega) (kl zk).toArray)
            have bG9 := Lib.hid (bG3.out.setRow (kl zk).toArray)
            generalize bw3.setRow bg (kl zk).toArray = bW at bK9 bG9 HGx9 ⊢
            refine hK.out _ _ ⟨bK9.out.kx.kat, bK9.out.wy.wy_.1, HJ.out _ bK9.out.bel, bK9.out.wy.wy_.2⟩ (fun hHeld => ?_)
            clear hK K
            try simp only [Act.put, List.getElem_toArray, List.getElem_cons_succ, List.getElem_cons_zero]
            refine wpAnyH_take (i := 15) (v := ?v15) rfl (by kernel_rfl) (by kernel_rfl) (by kernel_rfl) (fun _ _ _ h => h) (Or.inl ⟨by rfl, ?hy15⟩) hHeld ?rest15
            case hy15 =>
              intro w' hSw
              try dsimp only at hSw
              go_simp
              first | done | with_reducible rfl
            try simp only [Act.put, List.getElem_toArray, List.getElem_cons_succ, List.getElem_cons_zero, List.setIfInBounds_toArray, List.set_cons_zero, List.set_cons_succ]
            refine wpAnyH_done (by kernel_rfl) ?_ _
            refine OnlyN.normal ?_
            clear hHeld
            obtain ⟨x0, x1, x2, x3, x4, x5⟩ := bK9.out.kx.six
            go_wp2_with (first
              | (go_at_call 16; refine (clear_wk bK9.out.st HN.out (HT.out.below bK9.out.bel) x HA_.out HR3.out).mono ?_; rintro e_ w7 ⟨rfl, b_⟩; have HK7 := Lib.hid (bK9.out.below b_); have HG7 := Lib.hid (HGx9.out.keep b_); clear b_ x0 x1 x2 x3 x4 x5; obtain ⟨x0, x1, x2, x3, x4, x5⟩ := HK7.out.kx.six; obtain ⟨k0, k1, k2, k3, k4, k5⟩ := HK7.out.kk.six)
              | (go_at_call 17; refine (clone_wk HK7.out.st HN.out (HT.out.below HK7.out.bel) x k HA_.out HR3.out).mono ?_; rintro e_ w8 ⟨rfl, b_⟩; have HK8 := Lib.hid (HK7.out.below b_); have HG8 := Lib.hid (HG7.out.keep b_); clear b_ x0 x1 x2 x3 x4 x5 k0 k1 k2 k3 k4 k5)
              | (go_at_call 12; refine (same_n HK8.out.st HLN.out HN0.out HN'.out _ _ (HR.out.below HK8.out.bel)).mono ?_; rintro e_ w9 ⟨rfl, b_⟩; have HK9 := Lib.hid (HK8.out.below b_); have HG9 := Lib.hid (HG8.out.keep b_); clear b_; obtain ⟨g0, g1, g2, g3, g4, g5⟩ := HG9.out.six)
              | (show wpList _ _ _ ({ dst := none, op := .store _ (.tmp 8) (.tmp 106), type := _, pos := _, after := _, guard := _ } :: _) _ _; refine wpList_store_big (l0 := kl x) HK9.out.kx rfl (.tmp 8) (.tmp 106) (ty := 32) (l := kl g) rfl (by rfl) (by rfl) size30 rfl (kl_one _) ?_))
            go_roundw
            case rel => exact ⟨i + 1, by omega, by go_num, g, HW.out, HK9.out.turn HKS.out HKB.out⟩
            case measure => simp [intOf]; omega
        · refine step_alloc30 rfl (by rfl) ?_
          intro ag aw1 hg hw
          have aK1 : Hid (Wq w aw1 q A' cap' ps l k (some ⟨yb, yo, none⟩) n yc z kb x) := Lib.hid (by subst hw; exact HK.out.drew.alloc _)
          have aG1 : Hid (Blk aw1 ag 32 (kl zk).toArray) := Lib.hid (by subst hw hg; exact Blk.new _ _ _)
          have aL : Hid (wr.heap.size ≤ ag) := Lib.hid (by subst hg; exact Nat.le_refl _)
          clear hg hw hHeld
          refine hK.out _ _ ⟨aK1.out.kx.kat, aK1.out.wy.wy_.1, HJ.out _ aK1.out.bel, aK1.out.wy.wy_.2⟩ (fun hHeld => ?_)
          clear hK K
          try simp only [Act.put, List.getElem_toArray, List.getElem_cons_succ, List.getElem_cons_zero, List.setIfInBounds_toArray, List.set_cons_zero, List.set_cons_succ]
          refine wpAnyH_ready (rs := [7]) (by kernel_rfl) (by simp) ?_
          refine AllReadyH.cons (by rfl) (fun K hK => ?_) AllReadyH.nil
          go_simp
          refine (HGE.out _ aK1.out).mono ?_
          rintro e_ aw3 ⟨rfl, b_⟩
          have aK3 := Lib.hid (aK1.out.below b_)
          have aG3 := Lib.hid (aG1.out.keep b_)
          clear b_ hHeld
          go_wp2_with fail
          refine hK.out _ _ ⟨aK3.out.kx.kat, aK3.out.wy.wy_.1, HJ.out _ aK3.out.bel, aK3.out.wy.wy_.2⟩ (fun hHeld => ?_)
          clear hK K
          try simp only [Act.put, List.getElem_toArray, List.getElem_cons_succ, List.getElem_cons_zero, List.setIfInBounds_toArray, List.set_cons_zero, List.set_cons_succ]
          refine wpAnyH_take (i := 8) (v := ?v41) rfl (by kernel_rfl) (by kernel_rfl) (by kernel_rfl) (fun _ _ _ h => h) (Or.inl ⟨by rfl, ?hy41⟩) hHeld ?rest41
          case hy41 =>
            intro w' hSw
            try dsimp only at hSw
            go_simp
            first | done | with_reducible rfl
          try simp only [Act.put, List.getElem_toArray, List.getElem_cons_succ, List.getElem_cons_zero, List.setIfInBounds_toArray, List.set_cons_zero, List.set_cons_succ]
          refine wpAnyH_take (i := 9) (v := ?v42) rfl (by kernel_rfl) (by kernel_rfl) (by kernel_rfl) (fun _ _ _ h => h) (Or.inl ⟨by rfl, ?hy42⟩) hHeld ?rest42
          case hy42 =>
            intro w' hSw
            try dsimp only at hSw
            go_simp
            first | done | with_reducible rfl
          try simp only [Act.put, List.getElem_toArray, List.getElem_cons_succ, List.getElem_cons_zero, List.setIfInBounds_toArray, List.set_cons_zero, List.set_cons_succ]
          refine wpAnyH_take (i := 10) (v := ?v43) rfl (by kernel_rfl) (by kernel_rfl) (by kernel_rfl) (fun _ _ _ h => h) (Or.inl ⟨by rfl, ?hy43⟩) hHeld ?rest43
          case hy43 =>
            intro w' hSw
            try dsimp only at hSw
            go_simp
            first | done | with_reducible rfl
          try simp only [Act.put, List.getElem_toArray, List.getElem_cons_succ, List.getElem_cons_zero, List.setIfInBounds_toArray, List.set_cons_zero, List.set_cons_succ]
          refine wpAnyH_ready (rs := [12]) (by kernel_rfl) (by simp) ?_
          refine AllReadyH.cons (by rfl) (fun K hK => ?_) AllReadyH.nil
          refine step_store_big aG3.out rfl (.tmp 11) (.tmp 54) (ty := 32) (l := kl g) rfl (by rfl) (by rfl) size30 rfl (kl_one g) ?_
          have aK9 := Lib.hid (aK3.out.set HK.out aL.out (kl g).toArray)
          have aG9 := Lib.hid (aG3.out.setRow (kl g).toArray)
          generalize aw3.setRow ag (kl g).toArray = aW at aK9 aG9 ⊢
          refine hK.out _ _ ⟨aK9.out.kx.kat, aK9.out.wy.wy_.1, HJ.out _ aK9.out.bel, aK9.out.wy.wy_.2⟩ (fun hHeld => ?_)
          clear hK K
          try simp only [Act.put, List.getElem_toArray, List.getElem_cons_succ, List.getElem_cons_zero]
          refine wpAnyH_take (i := 13) (v := ?v44) rfl (by kernel_rfl) (by kernel_rfl) (by kernel_rfl) (fun _ _ _ h => h) (Or.inl ⟨by rfl, ?hy44⟩) hHeld ?rest44
          case hy44 =>
            intro w' hSw
            try dsimp only at hSw
            go_simp
            first | done | with_reducible rfl
          try simp only [Act.put, List.getElem_toArray, List.getElem_cons_succ, List.getElem_cons_zero, List.setIfInBounds_toArray, List.set_cons_zero, List.set_cons_succ]
          refine wpAnyH_done (by kernel_rfl) ?_ _
          refine OnlyN.normal ?_
          clear hHeld
          obtain ⟨g0, g1, g2, g3, g4, g5⟩ := aG9.out.six
          go_wp2_with (first
            | (go_at_call 13; refine (HCW.out _).mono ?_; rintro e_ w5 ⟨rfl, b_⟩; have HK6 := Lib.hid ((aK9.out.below b_).alloc (.cells (kl g).toArray 32)); have HG := Lib.hid ((aG9.out.keep b_).alloc (.cells (kl g).toArray 32)); have HU := Lib.hid (Blk.new w5 32 (kl g).toArray); clear b_ g0 g1 g2 g3 g4 g5; obtain ⟨g0, g1, g2, g3, g4, g5⟩ := HG.out.six; obtain ⟨h0, h1, h2, h3, h4, h5⟩ := HU.out.six)
            | (show wpList _ _ _ ({ dst := none, op := .store _ (.tmp 13) (.tmp 61), type := _, pos := _, after := _, guard := _ } :: _) _ _; refine wpList_store_new (l := kl g) (l0 := kl zk) (ty := 32) rfl (.tmp 13) (.tmp 61) (by rfl) _ rfl (by rfl) (by rfl) size30 rfl (kl_one _) ?_)
            | (show wpList _ _ _ ({ dst := some 68, op := .binOp .neq _ _ _ _, type := _, pos := _, after := _, guard := _ } :: _) _ _; refine wpList_yields (S := fun _ => True) (y_kyne_me (by rfl) (by rfl) g (by rfl) (by rfl)) trivial ?_))
          clear g0 g1 g2 g3 g4 g5 h0 h1 h2 h3 h4 h5
          have HGLT : Hid (ag < (w5.alloc (.cells (kl g).toArray 32)).heap.size) := Lib.hid HG.out.lt
          generalize w5.alloc (.cells (kl g).toArray 32) = w6 at HK6 HG HGLT ⊢
          refine wp_region_only (S := fun W => KeyAt W kb 0 x ∧ W.cell? ⟨w.heap.size + 1, 0, none⟩ = some (.slice (some ⟨yb, yo, none⟩) n yc) ∧ W.cell? ⟨yb, yo + i, none⟩ = some (.int .i64 si) ∧ KeyAt W (w.heap.size + 1) 1 z) (by kernel_rfl) ⟨HK6.out.drew.kx.kat, HK6.out.drew.wy.wy_.1, HJ.out _ HK6.out.drew.bel, HK6.out.drew.wy.wy_.2⟩ (fun hHeld => ?_)
          refine wpAnyH_take (i := 0) (v := ?v16) rfl (by kernel_rfl) (by kernel_rfl) (by kernel_rfl) (fun _ _ _ h => h) (Or.inl ⟨by rfl, ?hy16⟩) hHeld ?rest16
          case hy16 =>
            intro w' hSw
            try dsimp only at hSw
            go_simp
            first | done | with_reducible rfl
          try simp only [Act.put, List.getElem_toArray, List.getElem_cons_zero, List.setIfInBounds_toArray, List.set_cons_zero, List.set_cons_succ]
          refine wpAnyH_take (i := 1) rfl (by kernel_rfl) (by kernel_rfl) (by kernel_rfl) (fun _ _ _ h => h) (y_ky (by rfl) (.tmp 8) (by rfl) kb 0 (by rfl) x (fun _ h => h.1)) hHeld ?_
          try simp only [Act.put, List.getElem_toArray, List.getElem_cons_succ, List.getElem_cons_zero, List.setIfInBounds_toArray, List.set_cons_zero, List.set_cons_succ]
          refine wpAnyH_take (i := 2) (v := ?v17) rfl (by kernel_rfl) (by kernel_rfl) (by kernel_rfl) (fun _ _ _ h => h) (Or.inl ⟨by rfl, ?hy17⟩) hHeld ?rest17
          case hy17 =>
            intro w' hSw
            try dsimp only at hSw
            go_simp
            first | done | with_reducible rfl
          try simp only [Act.put, List.getElem_toArray, List.getElem_cons_succ, List.getElem_cons_zero, List.setIfInBounds_toArray, List.set_cons_zero, List.set_cons_succ]
          refine wpAnyH_take (i := 3) (v := ?v18) rfl (by kernel_rfl) (by kernel_rfl) (by kernel_rfl) (fun _ _ _ h => h) (Or.inl ⟨by rfl, ?hy18⟩) hHeld ?rest18
          case hy18 =>
            intro w' hSw
            try dsimp only at hSw
            go_simp
            first | done | with_reducible rfl
          try simp only [Act.put, List.getElem_toArray, List.getElem_cons_succ, List.getElem_cons_zero, List.setIfInBounds_toArray, List.set_cons_zero, List.set_cons_succ]
          refine wpAnyH_take (i := 4) (v := ?v19) rfl (by kernel_rfl) (by kernel_rfl) (by kernel_rfl) (fun _ _ _ h => h) (Or.inl ⟨by rfl, ?hy19⟩) hHeld ?rest19
          case hy19 =>
            intro w' hSw
            try dsimp only at hSw
            go_simp
            first | done | with_reducible rfl
          try simp only [Act.put, List.getElem_toArray, List.getElem_cons_succ, List.getElem_cons_zero, List.setIfInBounds_toArray, List.set_cons_zero, List.set_cons_succ]
          refine wpAnyH_take (i := 5) (v := ?v20) rfl (by kernel_rfl) (by kernel_rfl) (by kernel_rfl) (fun _ _ _ h => h) (Or.inl ⟨by rfl, ?hy20⟩) hHeld ?rest20
          case hy20 =>
            intro w' hSw
            try dsimp only at hSw
            go_simp
            first | done | with_reducible rfl
          try simp only [Act.put, List.getElem_toArray, List.getElem_cons_succ, List.getElem_cons_zero, List.setIfInBounds_toArray, List.set_cons_zero, List.set_cons_succ]
          refine wpAnyH_take (i := 6) (v := ?v21) rfl (by kernel_rfl) (by kernel_rfl) (by kernel_rfl) (fun _ _ _ h => h) (Or.inl ⟨by rfl, ?hy21⟩) hHeld ?rest21
          case hy21 =>
            intro w' hSw
            try dsimp only at hSw
            go_simp
            first | done | with_reducible rfl
          try simp only [Act.put, List.getElem_toArray, List.getElem_cons_succ, List.getElem_cons_zero, List.setIfInBounds_toArray, List.set_cons_zero, List.set_cons_succ]
          refine wpAnyH_take (i := 7) (v := ?v22) rfl (by kernel_rfl) (by kernel_rfl) (by kernel_rfl) (fun _ _ _ h => h) (Or.inl ⟨by rfl, ?hy22⟩) hHeld ?rest22
          case hy22 =>
            intro w' hSw
            try dsimp only at hSw
            go_simp
            first | done | with_reducible rfl
          try simp only [Act.put, List.getElem_toArray, List.getElem_cons_succ, List.getElem_cons_zero, List.setIfInBounds_toArray, List.set_cons_zero, List.set_cons_succ]
          refine wpAnyH_take (i := 8) rfl (by kernel_rfl) (by kernel_rfl) (by kernel_rfl) (fun _ _ _ h => h) (y_ky (by rfl) (.tmp 78) (by rfl) (w.heap.size + 1) 1 (by rfl) z (fun _ h => h.2.2.2)) hHeld ?_
          try simp only [Act.put, List.getElem_toArray, List.getElem_cons_succ, List.getElem_cons_zero, List.setIfInBounds_toArray, List.set_cons_zero, List.set_cons_succ]
          refine wpAnyH_ready (rs := [9, 13]) (by kernel_rfl) (by simp) ?_
          refine AllReadyH.cons (by rfl) (fun K hK => ?_) (AllReadyH.cons (by rfl) (fun K hK => ?_) AllReadyH.nil)
          · go_simp
            refine (put_wk HK6.out.drew.st HN.out (HT.out.below HK6.out.drew.bel) x z si HA_.out HR3.out).mono ?_
            rintro e_ bw2 ⟨rfl, b_⟩
            have bK2 := Lib.hid (HK6.out.drew.below b_)
            have HGx2 := Lib.hid (HG.out.drew.keep b_)
            have bS2 : Hid (w6.heap.size ≤ bw2.heap.size) := Lib.hid b_.size
            clear b_ hHeld
            go_wp2_with fail
            refine hK.out _ _ ⟨bK2.out.kx.kat, bK2.out.wy.wy_.1, HJ.out _ bK2.out.bel, bK2.out.wy.wy_.2⟩ (fun hHeld => ?_)
            clear hK K
            try simp only [Act.put, List.getElem_toArray, List.getElem_cons_succ, List.getElem_cons_zero, List.setIfInBounds_toArray, List.set_cons_zero, List.set_cons_succ]
            refine wpAnyH_take (i := 10) (v := ?v23) rfl (by kernel_rfl) (by kernel_rfl) (by kernel_rfl) (fun _ _ _ h => h) (Or.inl ⟨by rfl, ?hy23⟩) hHeld ?rest23
            case hy23 =>
              intro w' hSw
              try dsimp only at hSw
              go_simp
              first | done | with_reducible rfl
            try simp only [Act.put, List.getElem_toArray, List.getElem_cons_succ, List.getElem_cons_zero, List.setIfInBounds_toArray, List.set_cons_zero, List.set_cons_succ]
            refine wpAnyH_take (i := 11) (v := ?v24) rfl (by kernel_rfl) (by kernel_rfl) (by kernel_rfl) (fun _ _ _ h => h) (Or.inl ⟨by rfl, ?hy24⟩) hHeld ?rest24
            case hy24 =>
              intro w' hSw
              try dsimp only at hSw
              go_simp
              first | done | with_reducible rfl
            try simp only [Act.put, List.getElem_toArray, List.getElem_cons_succ, List.getElem_cons_zero, List.setIfInBounds_toArray, List.set_cons_zero, List.set_cons_succ]
            refine wpAnyH_take (i := 12) (v := ?v25) rfl (by kernel_rfl) (by kernel_rfl) (by kernel_rfl) (fun _ _ _ h => h) (Or.inl ⟨by rfl, ?hy25⟩) hHeld ?rest25
            case hy25 =>
              intro w' hSw
              try dsimp only at hSw
              go_simp
              first | done | with_reducible rfl
            try simp only [Act.put, List.getElem_toArray, List.getElem_cons_succ, List.getElem_cons_zero, List.setIfInBounds_toArray, List.set_cons_zero, List.set_cons_succ]
            refine wpAnyH_ready (rs := [13]) (by kernel_rfl) (by simp) ?_
            refine AllReadyH.cons (by rfl) (fun K hK => ?_) AllReadyH.nil
            refine step_alloc30 rfl (by rfl) ?_
            intro bg bw3 hg hw
            have bK3 : Hid (Wq w bw3 q A' cap' ps l k (some ⟨yb, yo, none⟩) n yc z kb x) := Lib.hid (by subst hw; exact bK2.out.alloc _)
            have HGx3 : Hid (Blk bw3 ag 32 (kl g).toArray) := Lib.hid (by subst hw; exact HGx2.out.alloc _)
            have bG3 : Hid (Blk bw3 bg 32 (kl zk).toArray) := Lib.hid (by subst hw hg; exact Blk.new _ _ _)
            have bL : Hid (w6.heap.size ≤ bg) := Lib.hid (by subst hg; exact bS2.out)
            clear hg hw hHeld
            refine hK.out _ _ ⟨bK3.out.kx.kat, bK3.out.wy.wy_.1, HJ.out _ bK3.out.bel, bK3.out.wy.wy_.2⟩ (fun hHeld => ?_)
            clear hK K
            try simp only [Act.put, List.getElem_toArray, List.getElem_cons_succ, List.getElem_cons_zero, List.setIfInBounds_toArray, List.set_cons_zero, List.set_cons_succ]
            refine wpAnyH_ready (rs := [14]) (by kernel_rfl) (by simp) ?_
            refine AllReadyH.cons (by rfl) (fun K hK => ?_) AllReadyH.nil
            refine step_store_big bG3.out rfl (.tmp 15) (.tmp 81) (ty := 32) (l := kl zk) rfl (by rfl) (by rfl) size30 rfl (kl_one zk) ?_
            have bK9 := Lib.hid (bK3.out.set HK6.out bL.out (kl zk).toArray)
            have HGx9 := Lib.hid (Blk.row_far (g := ag) HGx3.out (show ag ≠ bg by have h1 := bL.out; have h2 : ag < w6.heap.size := HGLT.out; omega) (kl zk).toArray)
            have bG9 := Lib.hid (bG3.out.setRow (kl zk).toArray)
            generalize bw3.setRow bg (kl zk).toArray = bW at bK9 bG9 HGx9 ⊢
            refine hK.out _ _ ⟨bK9.out.kx.kat, bK9.out.wy.wy_.1, HJ.out _ bK9.out.bel, bK9.out.wy.wy_.2⟩ (fun hHeld => ?_)
            clear hK K
            try simp only [Act.put, List.getElem_toArray, List.getElem_cons_succ, List.getElem_cons_zero]
            refine wpAnyH_take (i := 15) (v := ?v26) rfl (by kernel_rfl) (by kernel_rfl) (by kernel_rfl) (fun _ _ _ h => h) (Or.inl ⟨by rfl, ?hy26⟩) hHeld ?rest26
            case hy26 =>
              intro w' hSw
              try dsimp only at hSw
              go_simp
              first | done | with_reducible rfl
            try simp only [Act.put, List.getElem_toArray, List.getElem_cons_succ, List.getElem_cons_zero, List.setIfInBounds_toArray, List.set_cons_zero, List.set_cons_succ]
            refine wpAnyH_done (by kernel_rfl) ?_ _
            refine OnlyN.normal ?_
            clear hHeld
            obtain ⟨x0, x1, x2, x3, x4, x5⟩ := bK9.out.kx.six
            go_wp2_with (first
              | (go_at_call 16; refine (clear_wk bK9.out.st HN.out (HT.out.below bK9.out.bel) x HA_.out HR3.out).mono ?_; rintro e_ w7 ⟨rfl, b_⟩; have HK7 := Lib.hid (bK9.out.below b_); have HG7 := Lib.hid (HGx9.out.keep b_); clear b_ x0 x1 x2 x3 x4 x5; obtain ⟨x0, x1, x2, x3, x4, x5⟩ := HK7.out.kx.six; obtain ⟨k0, k1, k2, k3, k4, k5⟩ := HK7.out.kk.six)
              | (go_at_call 17; refine (clone_wk HK7.out.st HN.out (HT.out.below HK7.out.bel) x k HA_.out HR3.out).mono ?_; rintro e_ w8 ⟨rfl, b_⟩; have HK8 := Lib.hid (HK7.out.below b_); have HG8 := Lib.hid (HG7.out.keep b_); clear b_ x0 x1 x2 x3 x4 x5 k0 k1 k2 k3 k4 k5)
              | (go_at_call 12; refine (same_n HK8.out.st HLN.out HN0.out HN'.out _ _ (HR.out.below HK8.out.bel)).mono ?_; rintro e_ w9 ⟨rfl, b_⟩; have HK9 := Lib.hid (HK8.out.below b_); have HG9 := Lib.hid (HG8.out.keep b_); clear b_; obtain ⟨g0, g1, g2, g3, g4, g5⟩ := HG9.out.six)
              | (show wpList _ _ _ ({ dst := none, op := .store _ (.tmp 8) (.tmp 106), type := _, pos := _, after := _, guard := _ } :: _) _ _; refine wpList_store_big (l0 := kl x) HK9.out.kx rfl (.tmp 8) (.tmp 106) (ty := 32) (l := kl g) rfl (by rfl) (by rfl) size30 rfl (kl_one _) ?_))
            go_roundw
            case rel => exact ⟨i + 1, by omega, by go_num, g, HW.out, HK9.out.turn HKS.out HKB.out⟩
            case measure => simp [intOf]; omega
          · refine step_alloc30 rfl (by rfl) ?_
            intro bg bw1 hg hw
            have bK1 : Hid (Wq w bw1 q A' cap' ps l k (some ⟨yb, yo, none⟩) n yc z kb x) := Lib.hid (by subst hw; exact HK6.out.drew.alloc _)
            have HGx1 : Hid (Blk bw1 ag 32 (kl g).toArray) := Lib.hid (by subst hw; exact HG.out.drew.alloc _)
            have bG1 : Hid (Blk bw1 bg 32 (kl zk).toArray) := Lib.hid (by subst hw hg; exact Blk.new _ _ _)
            have bL : Hid (w6.heap.size ≤ bg) := Lib.hid (by subst hg; exact Nat.le_refl _)
            clear hg hw hHeld
            refine hK.out _ _ ⟨bK1.out.kx.kat, bK1.out.wy.wy_.1, HJ.out _ bK1.out.bel, bK1.out.wy.wy_.2⟩ (fun hHeld => ?_)
            clear hK K
            try simp only [Act.put, List.getElem_toArray, List.getElem_cons_succ, List.getElem_cons_zero, List.setIfInBounds_toArray, List.set_cons_zero, List.set_cons_succ]
            refine wpAnyH_ready (rs := [9]) (by kernel_rfl) (by simp) ?_
            refine AllReadyH.cons (by rfl) (fun K hK => ?_) AllReadyH.nil
            go_simp
            refine (put_wk bK1.out.st HN.out (HT.out.below bK1.out.bel) x z si HA_.out HR3.out).mono ?_
            rintro e_ bw3 ⟨rfl, b_⟩
            have bK3 := Lib.hid (bK1.out.below b_)
            have HGx3 := Lib.hid (HGx1.out.keep b_)
            have bG3 := Lib.hid (bG1.out.keep b_)
            clear b_ hHeld
            go_wp2_with fail
            refine hK.out _ _ ⟨bK3.out.kx.kat, bK3.out.wy.wy_.1, HJ.out _ bK3.out.bel, bK3.out.wy.wy_.2⟩ (fun hHeld => ?_)
            clear hK K
            try simp only [Act.put, List.getElem_toArray, List.getElem_cons_succ, List.getElem_cons_zero, List.setIfInBounds_toArray, List.set_cons_zero, List.set_cons_succ]
            refine wpAnyH_take (i := 10) (v := ?v27) rfl (by kernel_rfl) (by kernel_rfl) (by kernel_rfl) (fun _ _ _ h => h) (Or.inl ⟨by rfl, ?hy27⟩) hHeld ?rest27
            case hy27 =>
              intro w' hSw
              try dsimp only at hSw
              go_simp
              first | done | with_reducible rfl
            try simp only [Act.put, List.getElem_toArray, List.getElem_cons_succ, List.getElem_cons_zero, List.setIfInBounds_toArray, List.set_cons_zero, List.set_cons_succ]
            refine wpAnyH_take (i := 11) (v := ?v28) rfl (by kernel_rfl) (by kernel_rfl) (by kernel_rfl) (fun _ _ _ h => h) (Or.inl ⟨by rfl, ?hy28⟩) hHeld ?rest28
            case hy28 =>
              intro w' hSw
              try dsimp only at hSw
              go_simp
              first | done | with_reducible rfl
            try simp only [Act.put, List.getElem_toArray, List.getElem_cons_succ, List.getElem_cons_zero, List.setIfInBounds_toArray, List.set_cons_zero, List.set_cons_succ]
            refine wpAnyH_take (i := 12) (v := ?v29) rfl (by kernel_rfl) (by kernel_rfl) (by kernel_rfl) (fun _ _ _ h => h) (Or.inl ⟨by rfl, ?hy29⟩) hHeld ?rest29
            case hy29 =>
              intro w' hSw
              try dsimp only at hSw
              go_simp
              first | done | with_reducible rfl
            try simp only [Act.put, List.getElem_toArray, List.getElem_cons_succ, List.getElem_cons_zero, List.setIfInBounds_toArray, List.set_cons_zero, List.set_cons_succ]
            refine wpAnyH_ready (rs := [14]) (by kernel_rfl) (by simp) ?_
            refine AllReadyH.cons (by rfl) (fun K hK => ?_) AllReadyH.nil
            refine step_store_big bG3.out rfl (.tmp 15) (.tmp 81) (ty := 32) (l := kl zk) rfl (by rfl) (by rfl) size30 rfl (kl_one zk) ?_
            have bK9 := Lib.hid (bK3.out.set HK6.out bL.out (kl zk).toArray)
            have HGx9 := Lib.hid (Blk.row_far (g := ag) HGx3.out (show ag ≠ bg by have h1 := bL.out; have h2 : ag < w6.heap.size := HGLT.out; omega) (kl zk).toArray)
            have bG9 := Lib.hid (bG3.out.setRow (kl zk).toArray)
            generalize bw3.setRow bg (kl zk).toArray = bW at bK9 bG9 HGx9 ⊢
            refine hK.out _ _ ⟨bK9.out.kx.kat, bK9.out.wy.wy_.1, HJ.out _ bK9.out.bel, bK9.out.wy.wy_.2⟩ (fun hHeld => ?_)
            clear hK K
            try simp only [Act.put, List.getElem_toArray, List.getElem_cons_succ, List.getElem_cons_zero]
            refine wpAnyH_take (i := 15) (v := ?v30) rfl (by kernel_rfl) (by kernel_rfl) (by kernel_rfl) (fun _ _ _ h => h) (Or.inl ⟨by rfl, ?hy30⟩) hHeld ?rest30
            case hy30 =>
              intro w' hSw
              try dsimp only at hSw
              go_simp
              first | done | with_reducible rfl
            try simp only [Act.put, List.getElem_toArray, List.getElem_cons_succ, List.getElem_cons_zero, List.setIfInBounds_toArray, List.set_cons_zero, List.set_cons_succ]
            refine wpAnyH_done (by kernel_rfl) ?_ _
            refine OnlyN.normal ?_
            clear hHeld
            obtain ⟨x0, x1, x2, x3, x4, x5⟩ := bK9.out.kx.six
            go_wp2_with (first
              | (go_at_call 16; refine (clear_wk bK9.out.st HN.out (HT.out.below bK9.out.bel) x HA_.out HR3.out).mono ?_; rintro e_ w7 ⟨rfl, b_⟩; have HK7 := Lib.hid (bK9.out.below b_); have HG7 := Lib.hid (HGx9.out.keep b_); clear b_ x0 x1 x2 x3 x4 x5; obtain ⟨x0, x1, x2, x3, x4, x5⟩ := HK7.out.kx.six; obtain ⟨k0, k1, k2, k3, k4, k5⟩ := HK7.out.kk.six)
              | (go_at_call 17; refine (clone_wk HK7.out.st HN.out (HT.out.below HK7.out.bel) x k HA_.out HR3.out).mono ?_; rintro e_ w8 ⟨rfl, b_⟩; have HK8 := Lib.hid (HK7.out.below b_); have HG8 := Lib.hid (HG7.out.keep b_); clear b_ x0 x1 x2 x3 x4 x5 k0 k1 k2 k3 k4 k5)
              | (go_at_call 12; refine (same_n HK8.out.st HLN.out HN0.out HN'.out _ _ (HR.out.below HK8.out.bel)).mono ?_; rintro e_ w9 ⟨rfl, b_⟩; have HK9 := Lib.hid (HK8.out.below b_); have HG9 := Lib.hid (HG8.out.keep b_); clear b_; obtain ⟨g0, g1, g2, g3, g4, g5⟩ := HG9.out.six)
              | (show wpList _ _ _ ({ dst := none, op := .store _ (.tmp 8) (.tmp 106), type := _, pos := _, after := _, guard := _ } :: _) _ _; refine wpList_store_big (l0 := kl x) HK9.out.kx rfl (.tmp 8) (.tmp 106) (ty := 32) (l := kl g) rfl (by rfl) (by rfl) size30 rfl (kl_one _) ?_))
            go_roundw
            case rel => exact ⟨i + 1, by omega, by go_num, g, HW.out, HK9.out.turn HKS.out HKB.out⟩
            case measure => simp [intOf]; omega
      · have dc : (c != 0) = true := by simpa using hc
        clear hg hx hc
        go_wp2_with fail
        clear y0
        refine wp_region_only (S := fun W => KeyAt W kb 0 x ∧ W.cell? ⟨w.heap.size + 1, 0, none⟩ = some (.slice (some ⟨yb, yo, none⟩) n yc) ∧ W.cell? ⟨yb, yo + i, none⟩ = some (.int .i64 si) ∧ KeyAt W (w.heap.size + 1) 1 z) (by kernel_rfl) ⟨HK.out.drew.kx.kat, HK.out.drew.wy.wy_.1, HJ.out _ HK.out.drew.bel, HK.out.drew.wy.wy_.2⟩ (fun hHeld => ?_)
        refine wpAnyH_take (i := 0) (v := ?v45) rfl (by kernel_rfl) (by kernel_rfl) (by kernel_rfl) (fun _ _ _ h => h) (Or.inl ⟨by rfl, ?hy45⟩) hHeld ?rest45
        case hy45 =>
          intro w' hSw
          try dsimp only at hSw
          go_simp
          first | done | with_reducible rfl
        try simp only [Act.put, List.getElem_toArray, List.getElem_cons_zero, List.setIfInBounds_toArray, List.set_cons_zero, List.set_cons_succ]
        refine wpAnyH_take (i := 1) rfl (by kernel_rfl) (by kernel_rfl) (by kernel_rfl) (fun _ _ _ h => h) (y_ky (by rfl) (.tmp 8) (by rfl) kb 0 (by rfl) x (fun _ h => h.1)) hHeld ?_
        try simp only [Act.put, List.getElem_toArray, List.getElem_cons_succ, List.getElem_cons_zero, List.setIfInBounds_toArray, List.set_cons_zero, List.set_cons_succ]
        refine wpAnyH_take (i := 2) (v := ?v46) rfl (by kernel_rfl) (by kernel_rfl) (by kernel_rfl) (fun _ _ _ h => h) (Or.inl ⟨by rfl, ?hy46⟩) hHeld ?rest46
        case hy46 =>
          intro w' hSw
          try dsimp only at hSw
          go_simp
          first | done | with_reducible rfl
        try simp only [Act.put, List.getElem_toArray, List.getElem_cons_succ, List.getElem_cons_zero, List.setIfInBounds_toArray, List.set_cons_zero, List.set_cons_succ]
        refine wpAnyH_take (i := 3) (v := ?v47) rfl (by kernel_rfl) (by kernel_rfl) (by kernel_rfl) (fun _ _ _ h => h) (Or.inl ⟨by rfl, ?hy47⟩) hHeld ?rest47
        case hy47 =>
          intro w' hSw
          try dsimp only at hSw
          go_simp
          first | done | with_reducible rfl
        try simp only [Act.put, List.getElem_toArray, List.getElem_cons_succ, List.getElem_cons_zero, List.setIfInBounds_toArray, List.set_cons_zero, List.set_cons_succ]
        refine wpAnyH_take (i := 4) (v := ?v48) rfl (by kernel_rfl) (by kernel_rfl) (by kernel_rfl) (fun _ _ _ h => h) (Or.inl ⟨by rfl, ?hy48⟩) hHeld ?rest48
        case hy48 =>
          intro w' hSw
          try dsimp only at hSw
          go_simp
          first | done | with_reducible rfl
        try simp only [Act.put, List.getElem_toArray, List.getElem_cons_succ, List.getElem_cons_zero, List.setIfInBounds_toArray, List.set_cons_zero, List.set_cons_succ]
        refine wpAnyH_take (i := 5) (v := ?v49) rfl (by kernel_rfl) (by kernel_rfl) (by kernel_rfl) (fun _ _ _ h => h) (Or.inl ⟨by rfl, ?hy49⟩) hHeld ?rest49
        case hy49 =>
          intro w' hSw
          try dsimp only at hSw
          go_simp
          first | done | with_reducible rfl
        try simp only [Act.put, List.getElem_toArray, List.getElem_cons_succ, List.getElem_cons_zero, List.setIfInBounds_toArray, List.set_cons_zero, List.set_cons_succ]
        refine wpAnyH_take (i := 6) (v := ?v50) rfl (by kernel_rfl) (by kernel_rfl) (by kernel_rfl) (fun _ _ _ h => h) (Or.inl ⟨by rfl, ?hy50⟩) hHeld ?rest50
        case hy50 =>
          intro w' hSw
          try dsimp only at hSw
          go_simp
          first | done | with_reducible rfl
        try simp only [Act.put, List.getElem_toArray, List.getElem_cons_succ, List.getElem_cons_zero, List.setIfInBounds_toArray, List.set_cons_zero, List.set_cons_succ]
        refine wpAnyH_ready (rs := [7, 11]) (by kernel_rfl) (by simp) ?_
        refine AllReadyH.cons (by rfl) (fun K hK => ?_) (AllReadyH.cons (by rfl) (fun K hK => ?_) AllReadyH.nil)
        · go_simp
          refine (HGE.out _ HK.out.drew).mono ?_
          rintro e_ aw2 ⟨rfl, b_⟩
          have aK2 := Lib.hid (HK.out.drew.below b_)
          have aS2 : Hid (wr.heap.size ≤ aw2.heap.size) := Lib.hid b_.size
          clear b_ hHeld
          go_wp2_with fail
          refine hK.out _ _ ⟨aK2.out.kx.kat, aK2.out.wy.wy_.1, HJ.out _ aK2.out.bel, aK2.out.wy.wy_.2⟩ (fun hHeld => ?_)
          clear hK K
          try simp only [Act.put, List.getElem_toArray, List.getElem_cons_succ, List.getElem_cons_zero, List.setIfInBounds_toArray, List.set_cons_zero, List.set_cons_succ]
          refine wpAnyH_take (i := 8) (v := ?v51) rfl (by kernel_rfl) (by kernel_rfl) (by kernel_rfl) (fun _ _ _ h => h) (Or.inl ⟨by rfl, ?hy51⟩) hHeld ?rest51
          case hy51 =>
            intro w' hSw
            try dsimp only at hSw
            go_simp
            first | done | with_reducible rfl
          try simp only [Act.put, List.getElem_toArray, List.getElem_cons_succ, List.getElem_cons_zero, List.setIfInBounds_toArray, List.set_cons_zero, List.set_cons_succ]
          refine wpAnyH_take (i := 9) (v := ?v52) rfl (by kernel_rfl) (by kernel_rfl) (by kernel_rfl) (fun _ _ _ h => h) (Or.inl ⟨by rfl, ?hy52⟩) hHeld ?rest52
          case hy52 =>
            intro w' hSw
            try dsimp only at hSw
            go_simp
            first | done | with_reducible rfl
          try simp only [Act.put, List.getElem_toArray, List.getElem_cons_succ, List.getElem_cons_zero, List.setIfInBounds_toArray, List.set_cons_zero, List.set_cons_succ]
          refine wpAnyH_take (i := 10) (v := ?v53) rfl (by kernel_rfl) (by kernel_rfl) (by kernel_rfl) (fun _ _ _ h => h) (Or.inl ⟨by rfl, ?hy53⟩) hHeld ?rest53
          case hy53 =>
            intro w' hSw
            try dsimp only at hSw
            go_simp
            first | done | with_reducible rfl
          try simp only [Act.put, List.getElem_toArray, List.getElem_cons_succ, List.getElem_cons_zero, List.setIfInBounds_toArray, List.set_cons_zero, List.set_cons_succ]
          refine wpAnyH_ready (rs := [11]) (by kernel_rfl) (by simp) ?_
          refine AllReadyH.cons (by rfl) (fun K hK => ?_) AllReadyH.nil
          refine step_alloc30 rfl (by rfl) ?_
          intro ag aw3 hg hw
          have aK3 : Hid (Wq w aw3 q A' cap' ps l k (some ⟨yb, yo, none⟩) n yc z kb x) := Lib.hid (by subst hw; exact aK2.out.alloc _)
          have aG3 : Hid (Blk aw3 ag 32 (kl zk).toArray) := Lib.hid (by subst hw hg; exact Blk.new _ _ _)
          have aL : Hid (wr.heap.size ≤ ag) := Lib.hid (by subst hg; exact aS2.out)
          clear hg hw hHeld
          refine hK.out _ _ ⟨aK3.out.kx.kat, aK3.out.wy.wy_.1, HJ.out _ aK3.out.bel, aK3.out.wy.wy_.2⟩ (fun hHeld => ?_)
          clear hK K
          try simp only [Act.put, List.getElem_toArray, List.getElem_cons_succ, List.getElem_cons_zero, List.setIfInBounds_toArray, List.set_cons_zero, List.set_cons_succ]
          refine wpAnyH_ready (rs := [12]) (by kernel_rfl) (by simp) ?_
          refine AllReadyH.cons (by rfl) (fun K hK => ?_) AllReadyH.nil
          refine step_store_big aG3.out rfl (.tmp 11) (.tmp 54) (ty := 32) (l := kl g) rfl (by rfl) (by rfl) size30 rfl (kl_one g) ?_
          have aK9 := Lib.hid (aK3.out.set HK.out aL.out (kl g).toArray)
          have aG9 := Lib.hid (aG3.out.setRow (kl g).toArray)
          generalize aw3.setRow ag (kl g).toArray = aW at aK9 aG9 ⊢
          refine hK.out _ _ ⟨aK9.out.kx.kat, aK9.out.wy.wy_.1, HJ.out _ aK9.out.bel, aK9.out.wy.wy_.2⟩ (fun hHeld => ?_)
          clear hK K
          try simp only [Act.put, List.getElem_toArray, List.getElem_cons_succ, List.getElem_cons_zero]
          refine wpAnyH_take (i := 13) (v := ?v54) rfl (by kernel_rfl) (by kernel_rfl) (by kernel_rfl) (fun _ _ _ h => h) (Or.inl ⟨by rfl, ?hy54⟩) hHeld ?rest54
          case hy54 =>
            intro w' hSw
            try dsimp only at hSw
            go_simp
            first | done | with_reducible rfl
          try simp only [Act.put, List.getElem_toArray, List.getElem_cons_succ, List.getElem_cons_zero, List.setIfInBounds_toArray, List.set_cons_zero, List.set_cons_succ]
          refine wpAnyH_done (by kernel_rfl) ?_ _
          refine OnlyN.normal ?_
          clear hHeld
          go_wp2_with (first
            | (go_at_call 10; refine (known_any _ (HT.out.below aK9.out.bel)).mono ?_; rintro e v9 ⟨rfl, b_⟩; have B9 := Lib.hid (aK9.out.bel.trans (b_.mono (aK9.out.bel).size)); clear b_))
          go_ret
          exact ⟨rfl, B9.out⟩
        · refine step_alloc30 rfl (by rfl) ?_
          intro ag aw1 hg hw
          have aK1 : Hid (Wq w aw1 q A' cap' ps l k (some ⟨yb, yo, none⟩) n yc z kb x) := Lib.hid (by subst hw; exact HK.out.drew.alloc _)
          have aG1 : Hid (Blk aw1 ag 32 (kl zk).toArray) := Lib.hid (by subst hw hg; exact Blk.new _ _ _)
          have aL : Hid (wr.heap.size ≤ ag) := Lib.hid (by subst hg; exact Nat.le_refl _)
          clear hg hw hHeld
          refine hK.out _ _ ⟨aK1.out.kx.kat, aK1.out.wy.wy_.1, HJ.out _ aK1.out.bel, aK1.out.wy.wy_.2⟩ (fun hHeld => ?_)
          clear hK K
          try simp only [Act.put, List.getElem_toArray, List.getElem_cons_succ, List.getElem_cons_zero, List.setIfInBounds_toArray, List.set_cons_zero, List.set_cons_succ]
          refine wpAnyH_ready (rs := [7]) (by kernel_rfl) (by simp) ?_
          refine AllReadyH.cons (by rfl) (fun K hK => ?_) AllReadyH.nil
          go_simp
          refine (HGE.out _ aK1.out).mono ?_
          rintro e_ aw3 ⟨rfl, b_⟩
          have aK3 := Lib.hid (aK1.out.below b_)
          have aG3 := Lib.hid (aG1.out.keep b_)
          clear b_ hHeld
          go_wp2_with fail
          refine hK.out _ _ ⟨aK3.out.kx.kat, aK3.out.wy.wy_.1, HJ.out _ aK3.out.bel, aK3.out.wy.wy_.2⟩ (fun hHeld => ?_)
          clear hK K
          try simp only [Act.put, List.getElem_toArray, List.getElem_cons_succ, List.getElem_cons_zero, List.setIfInBounds_toArray, List.set_cons_zero, List.set_cons_succ]
          refine wpAnyH_take (i := 8) (v := ?v55) rfl (by kernel_rfl) (by kernel_rfl) (by kernel_rfl) (fun _ _ _ h => h) (Or.inl ⟨by rfl, ?hy55⟩) hHeld ?rest55
          case hy55 =>
            intro w' hSw
            try dsimp only at hSw
            go_simp
            first | done | with_reducible rfl
          try simp only [Act.put, List.getElem_toArray, List.getElem_cons_succ, List.getElem_cons_zero, List.setIfInBounds_toArray, List.set_cons_zero, List.set_cons_succ]
          refine wpAnyH_take (i := 9) (v := ?v56) rfl (by kernel_rfl) (by kernel_rfl) (by kernel_rfl) (fun _ _ _ h => h) (Or.inl ⟨by rfl, ?hy56⟩) hHeld ?rest56
          case hy56 =>
            intro w' hSw
            try dsimp only at hSw
            go_simp
            first | done | with_reducible rfl
          try simp only [Act.put, List.getElem_toArray, List.getElem_cons_succ, List.getElem_cons_zero, List.setIfInBounds_toArray, List.set_cons_zero, List.set_cons_succ]
          refine wpAnyH_take (i := 10) (v := ?v57) rfl (by kernel_rfl) (by kernel_rfl) (by kernel_rfl) (fun _ _ _ h => h) (Or.inl ⟨by rfl, ?hy57⟩) hHeld ?rest57
          case hy57 =>
            intro w' hSw
            try dsimp only at hSw
            go_simp
            first | done | with_reducible rfl
          try simp only [Act.put, List.getElem_toArray, List.getElem_cons_succ, List.getElem_cons_zero, List.setIfInBounds_toArray, List.set_cons_zero, List.set_cons_succ]
          refine wpAnyH_ready (rs := [12]) (by kernel_rfl) (by simp) ?_
          refine AllReadyH.cons (by rfl) (fun K hK => ?_) AllReadyH.nil
          refine step_store_big aG3.out rfl (.tmp 11) (.tmp 54) (ty := 32) (l := kl g) rfl (by rfl) (by rfl) size30 rfl (kl_one g) ?_
          have aK9 := Lib.hid (aK3.out.set HK.out aL.out (kl g).toArray)
          have aG9 := Lib.hid (aG3.out.setRow (kl g).toArray)
          generalize aw3.setRow ag (kl g).toArray = aW at aK9 aG9 ⊢
          refine hK.out _ _ ⟨aK9.out.kx.kat, aK9.out.wy.wy_.1, HJ.out _ aK9.out.bel, aK9.out.wy.wy_.2⟩ (fun hHeld => ?_)
          clear hK K
          try simp only [Act.put, List.getElem_toArray, List.getElem_cons_succ, List.getElem_cons_zero]
          refine wpAnyH_take (i := 13) (v := ?v58) rfl (by kernel_rfl) (by kernel_rfl) (by kernel_rfl) (fun _ _ _ h => h) (Or.inl ⟨by rfl, ?hy58⟩) hHeld ?rest58
          case hy58 =>
            intro w' hSw
            try dsimp only at hSw
            go_simp
            first | done | with_reducible rfl
          try simp only [Act.put, List.getElem_toArray, List.getElem_cons_succ, List.getElem_cons_zero, List.setIfInBounds_toArray, List.set_cons_zero, List.set_cons_succ]
          refine wpAnyH_done (by kernel_rfl) ?_ _
          refine OnlyN.normal ?_
          clear hHeld
          go_wp2_with (first
            | (go_at_call 10; refine (known_any _ (HT.out.below aK9.out.bel)).mono ?_; rintro e v9 ⟨rfl, b_⟩; have B9 := Lib.hid (aK9.out.bel.trans (b_.mono (aK9.out.bel).size)); clear b_))
          go_ret
          exact ⟨rfl, B9.out⟩
    · have e0 : decide ((i : Int) < (n : Int)) = false := decide_eq_false (by omega)
      have e1 : decide (i < n) = false := decide_eq_false hlt
      go_wp2_with (first
        | (go_at_call 10; refine (known_any _ (HT.out.below HK.out.bel)).mono ?_; rintro e v9 ⟨rfl, b_⟩; have B9 := Lib.hid (HK.out.bel.trans (b_.mono (HK.out.bel).size)); clear b_))
      go_ret
      exact ⟨rfl, B9.out⟩
set_option maxRecDepth 8000 in
theorem walk (w : World) (hL : laidMetH Tryd.prog laidK w) (A : Option Addr) (l : List Oj) (cap : Nat) (hr : RdO w A l) (k : Ky) (yA : Option Addr) (yc : Nat) (zs : List Int) (z : Ky) (hz : RdJ w yA zs) : Calls Tryd.prog 5 #[.slice A l.length cap, k.val, .agg (wyc yA zs.length yc z)] w fun e w' => e = .returned (.bool true) ∧ Below w.heap.size w w' := by
  by_cases h : madeP l
  · by_cases hl : zs.length ≤ 6
    · by_cases hk : k.ok
      · exact walk_ok w (tab_of hL) A l cap k yA zs yc z hr hz h hl hk
      · exact walk_bad w (tab_of hL) A l cap k yA zs yc z hr h hl hk
    · exact walk_big w (tab_of hL) A l cap k yA zs yc z hr h (by omega)
  · exact walk_no w (tab_of hL) A l cap k yA zs yc z hr h
set_option maxRecDepth 100000 in
theorem lifted (os : Os) (started : os.Started) (H : Type) (enc : TypeId × Value → H) :
    ReturnsInHanded {} Tryd.checked os 5 .any (fun w args => (Rows.nodesWeakSpec.pre enc Tryd.prog Tryd.f5 [] false w args ∧ laidMetH Tryd.prog laidK w) ∧ sizedMet enc Tryd.prog Tryd.f5 (OpenSpec.ofChange Rows.nodesWeakSpec) false w args) (Rows.nodesWeakSpec.post enc Tryd.prog Tryd.f5 false true false false) := by
  refine returnsInHanded_of_change_and (C := Tryd.checked) (X := fun w _ => laidMetH Tryd.prog laidK w) (fun _ _ _ hh h => h.of_heap hh) own started (by kernel_rfl) Tryd.func5
    (ChangeSpec.witness_shaped (enc := enc) (C := Tryd.checked) (os := os) (X := fun w _ => laidMetH Tryd.prog laidK w) false (World.doorLaid Tryd.prog 40 os) #[.slice none 0 0, .agg #[.int .i64 0, .int .i64 0, .int .i64 0, .int .i64 0, .int .i64 0, .int .i64 0], .agg #[.slice none 0 0, .int .i64 0, .int .i64 0, .int .i64 0, .int .i64 0, .int .i64 0, .int .i64 0]] 8 rfl (World.shaped_of_RefB (by kernel_rfl) (by kernel_rfl)) (by kernel_rfl) (by kernel_rfl) (by kernel_rfl) (door_met os _)) ?_
  intro W base args ds gs before hval0 hW _ _ hL _
  have hval : ∀ (j : Nat) t v, Tryd.f5.params[j]? = some t → args[j]? = some v → Value.okWide Tryd.prog W .any base t v := hval0
  have hW' := hW
  obtain ⟨p, q, hA0, hV, rfl, hfz, hnd⟩ := hW
  have hA : DataW.TrodAll enc Tryd.prog W 0 (fun _ => true) true Tryd.f5.params.toList args.toList ds p := hA0
  rw [Tryd.params5] at hA hval
  obtain ⟨v0, vs0, d0, ds0, p0, q0, hargs, rfl, rfl, h0, t0⟩ := trodAll_cons hA
  obtain ⟨v1, vs1, d1, ds1, p1, q1, rfl, rfl, rfl, h1, t1⟩ := trodAll_cons t0
  obtain ⟨v2, vs2, d2, ds2, p2, q2, rfl, rfl, rfl, h2, t2⟩ := trodAll_cons t1
  obtain ⟨rfl, rfl, rfl⟩ := trodAll_nil t2
  obtain rfl : args = #[v0, v1, v2] := by cases args; simp_all
  obtain ⟨rfl, rfl⟩ := trodVars_none hV
  have k0 := h0
  have lt0 : ∀ x ∈ p0, x.block < W.heap.size := by obtain ⟨m, hm⟩ := k0; exact DataW.trod_lt m _ _ _ hm
  obtain ⟨A0, l0, c0, rfl, hlc0, hcm0, hr0⟩ := open_obs (hval 0 22 v0 rfl rfl) h0
  have k1 := h1
  have lt1 : ∀ x ∈ p1, x.block < W.heap.size := by obtain ⟨m, hm⟩ := k1; exact DataW.trod_lt m _ _ _ hm
  obtain ⟨x1, rfl⟩ := open_key (hval 1 32 v1 rfl rfl) h1
  have k2 := h2
  have lt2 : ∀ x ∈ p2, x.block < W.heap.size := by obtain ⟨m, hm⟩ := k2; exact DataW.trod_lt m _ _ _ hm
  obtain ⟨A2, c2, l2, z2, rfl, hr2⟩ := open_way (hval 2 39 v2 rfl rfl) h2
  clear hA0 hval0
  refine (walk W hL A0 l0 c0 hr0 x1 A2 c2 l2 z2 hr2).mono fun e W' ⟨he, bel⟩ => ?_
  subst he
  exact ⟨_, rfl, _, _, _, [], _, [], hW', trodAll_mk1 (shut_bool Tryd.underlying4 _), (trodAll_cons_mk (Below.trod laidOut (by kernel_rfl) (of_decide_eq_true (by kernel_rfl)) k0 bel lt0) (trodAll_cons_mk (Below.trod laidOut (by kernel_rfl) (of_decide_eq_true (by kernel_rfl)) k1 bel lt1) (trodAll_cons_mk (Below.trod laidOut (by kernel_rfl) (of_decide_eq_true (by kernel_rfl)) k2 bel lt2) trodAll_mk0))), rfl, bel.frame _, fun h => by cases h⟩
theorem over : Rows.nodesWeakRow.holds Tryd.pinned (OpenSpec.ofChange Rows.nodesWeakSpec) :=
  OpenClaim.holds_of_wide 5 Tryd.f5 rfl rfl rfl rfl rfl rfl rfl ⟨rfl, rfl, rfl, rfl, rfl⟩ rfl rfl rfl rfl rfl (by kernel_rfl) Tryd.func5 (by kernel_rfl)
    (of_decide_eq_true (by kernel_rfl)) (by unfold Func.isWrapper; first | (rw [if_pos (by decide +kernel)]; kernel_rfl) | (rw [if_neg (by decide +kernel)]; exact ⟨rfl, rfl⟩))
    (fun os started H enc _ => lifted os started H enc)
set_option maxRecDepth 8000 in
theorem proved : Rows.NodesWeakCardSaid :=
  Claim7.holds_tied_plain_at .later [] [.data] true Rows.nodesWeakCard.stood.harness true
    over (fun _ h => by cases h) (by kernel_rfl) (fun _ h => by cases h) nodesWeak_row_tie rfl ⟨rfl, rfl⟩ (by kernel_rfl) rfl
    (fun f fn hf hfn => by
      obtain rfl : f = 5 := Option.some.inj ((show Tryd.prog.funcNamed "chatelaine/chatelainelaw09.NodesWeak" = some 5 by kernel_rfl).symm.trans hf) |>.symm
      obtain rfl : fn = Tryd.f5 := (Option.some.inj (Tryd.func5.symm.trans hfn)).symm
      exact ⟨by kernel_rfl, fun j t ht => by
        rw [Tryd.params5] at ht
        have hm : t ∈ [22, 32, 39] := by simpa using Array.mem_of_getElem? ht
        have hall : ([22, 32, 39].all fun u => !Tryd.prog.wantsStandIn u) = true := by kernel_rfl
        exact (show Tryd.prog.wantsStandIn t = false by simpa using List.all_eq_true.1 hall t hm)⟩)
    (by kernel_rfl)
end Go.Proofs.YtliakhknmckdgaaDoor.nodesWeak

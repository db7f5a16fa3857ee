/- The law PagesBounds returns true for every input: a page reads and takes bytes at just those places, and of those numbers, that the document names (at most 40 places, at most 100 bytes). No condition but that the listed variables read as the program's own text lays them; the card ties them to it. -/
import Derived.Test.YtedlacdijkggjaaDoorGDo
import Derived.Test.YtedlacdijkggjaaDoorR12
import Derived.Test.YtedlacdijkggjaaDoorR05
import Derived.Test.YtedlacdijkggjaaDoorGBd
namespace Go.Proofs.YtedlacdijkggjaaDoor.pagesBounds
open Go.ChangeShapes Go.WideShapes Go.ChangeAt Go.RowKit
attribute [local go_sem] Oper.semAt_some
def ub : Oj := ⟨2, 2, 0, zks, zbs, rfl, rfl⟩
set_option maxRecDepth 8000 in
theorem builtU : Tryd.prog.built 49 [(0, .int .i64 2), (1, .int .i64 2)] = some ub.cells.toArray := by kernel_rfl
set_option maxRecDepth 8000 in
theorem builtK : Tryd.prog.built 30 [(0, .int .i64 3), (2, .int .i64 2)] = some (kl ⟨3, 0, 2, 0, 0, 0⟩).toArray := by kernel_rfl
set_option maxRecDepth 8000 in
theorem built1 (x : Ky) (z n : Int) : Tryd.prog.built 32 [(0, .int .i64 1), (3, x.val), (1, .int .i64 z), (2, .int .i64 n)] = some (pa 1 z n x zk []) := by kernel_rfl
set_option maxRecDepth 8000 in
theorem built2 (x : Ky) (z : Int) (s : List UInt8) : Tryd.prog.built 32 [(0, .int .i64 2), (3, x.val), (1, .int .i64 z), (5, .string (st s))] = some (pa 2 z 0 x zk s) := by kernel_rfl
theorem ub_made : madeP [ub] := ⟨by decide, by decide, by decide, fun x hx => by
  rw [List.mem_singleton.1 hx]
  exact ⟨by decide, by decide, by decide, .inr (.inl ⟨rfl, by decide⟩)⟩⟩
/-- how the law stands -/
structure Bd (w W : World) (G KB BB : Nat) (K : Ky) (z : List UInt8) : Prop where
  bel : Below w.heap.size w W
  gu : Blk W G 49 ub.cells.toArray
  gk : Blk W KB 30 (kl K).toArray
  gb : Blk W BB 5 (bv z).toArray
theorem Bd.below {w W W' : World} {G KB BB : Nat} {K : Ky} {z : List UInt8} (h : Bd w W G KB BB K z) (hb : Below W.heap.size W W') : Bd w W' G KB BB K z := ⟨h.bel.trans (hb.mono h.bel.size), h.gu.keep hb, h.gk.keep hb, h.gb.keep hb⟩
theorem Bd.drew {w W : World} {G KB BB : Nat} {K : Ky} {z : List UInt8} (h : Bd w W G KB BB K z) : Bd w W.drew G KB BB K z := h.below (below_drew (Below.refl _ _))
set_option maxRecDepth 8000 in
set_option maxHeartbeats 1000000 in
theorem walk_big (w : World) (hT : Tab w) (A : Option Addr) (l : List Int) (cap : Nat) (n : Int) (only : Bool) (hb : 40 < l.length ∨ (l.length ≤ 40 ∧ 100 < n)) :
    Calls Tryd.prog 5 #[.slice A l.length cap, .int .i64 n, .bool only] w fun e w' => e = .returned (.bool true) ∧ Below w.heap.size w w' := by
  have HT := Lib.hid hT
  have HB := Lib.hid (Below.refl w.heap.size w)
  clear hT
  rcases hb with h1 | ⟨h1, h2⟩
  · have d0 : decide ((40 : Int) < (l.length : Int)) = true := decide_eq_true (by omega)
    have d1 : decide (40 < l.length) = true := decide_eq_true h1
    clear h1
    go_enter Tryd.func5, Tryd.ntmps5
    go_wp2_with (first
      | (go_at_call 9; refine (known_any _ (HT.out.below HB.out)).mono ?_; rintro e v9 ⟨rfl, b_⟩; have B9 := Lib.hid (HB.out.trans (b_.mono (HB.out).size)); clear b_))
    go_ret
    exact ⟨rfl, B9.out⟩
  · have d0 : decide ((40 : Int) < (l.length : Int)) = false := decide_eq_false (by omega)
    have d1 : decide (40 < l.length) = false := decide_eq_false (by omega)
    have d2 : decide (100 < n) = true := decide_eq_true h2
    clear h1 h2
    go_enter Tryd.func5, Tryd.ntmps5
    go_wp2_with (first
      | (go_at_call 9; refine (known_any _ (HT.out.below HB.out)).mono ?_; rintro e v9 ⟨rfl, b_⟩; have B9 := Lib.hid (HB.out.trans (b_.mono (HB.out).size)); clear b_))
    go_ret
    exact ⟨rfl, B9.out⟩
theorem Bd.fr {w W W' : World} {G KB BB : Nat} {K : Ky} {z : List UInt8} (h : Bd w W G KB BB K z) {ps : List Nat} (hf : Fr (fun i => i ∈ ps) W W') (hp : ∀ i ∈ ps, w.heap.size ≤ i ∧ i ≠ G ∧ i ≠ KB ∧ i ≠ BB) : Bd w W' G KB BB K z :=
  ⟨h.bel.trans (hf.to_below (fun i hi => (hp i hi).1) h.bel.size), (hf.block _ h.gu.lt (fun hm => (hp _ hm).2.1 rfl)).trans h.gu, (hf.block _ h.gk.lt (fun hm => (hp _ hm).2.2.1 rfl)).trans h.gk, (hf.block _ h.gb.lt (fun hm => (hp _ hm).2.2.2 rfl)).trans h.gb⟩
set_option maxRecDepth 100000 in
set_option maxHeartbeats 4000000 in
theorem walk_false (w : World) (hT : Tab w) (A : Option Addr) (l : List Int) (cap : Nat) (n : Int) (hr : RdZ w A l) (hzs : ∀ z ∈ l, z ≤ 9223372036854775807) (hl : l.length ≤ 40) (hn : n ≤ 100) :
    Calls Tryd.prog 5 #[.slice A l.length cap, .int .i64 n, .bool false] w fun e w' => e = .returned (.bool true) ∧ Below w.heap.size w w' := by
  have HT := Lib.hid hT
  have HR := Lib.hid hr
  have HZS := Lib.hid hzs
  obtain ⟨m, hm⟩ : ∃ m : Nat, m = n.toNat := ⟨_, rfl⟩
  have hmx : (if n < 0 then 0 else n) = (m : Int) := by split <;> omega
  have hmx2 : max n 0 = (m : Int) := by omega
  have hmk := run_mk0G m (by omega)
  have d0 : decide ((40 : Int) < (l.length : Int)) = false := decide_eq_false (by omega)
  have d1 : decide (40 < l.length) = false := decide_eq_false (by omega)
  have d2 : decide (100 < n) = false := decide_eq_false (by omega)
  obtain ⟨kx, hK⟩ : ∃ kx : Ky, kx = (⟨3, 0, 2, 0, 0, 0⟩ : Ky) := ⟨_, rfl⟩
  have HBD0 : Hid (Bd w (((w.alloc (.cells ub.cells.toArray 49)).alloc (.cells (kl ⟨3, 0, 2, 0, 0, 0⟩).toArray 30)).alloc (.cells (bv (List.replicate m 0)).toArray 5)) w.heap.size (w.heap.size + 1) (w.heap.size + 1 + 1) kx (List.replicate m 0)) := Lib.hid (by
    subst hK
    exact ⟨(((Below.refl w.heap.size w).alloc (Nat.le_refl _) _).alloc (by simp) _).alloc (by simp; omega) _, ((Blk.new w _ _).alloc _).alloc _, (Blk.new_of (w.alloc (.cells ub.cells.toArray 49)) _ (kl ⟨3, 0, 2, 0, 0, 0⟩).toArray (by simp)).alloc _, Blk.new_of ((w.alloc (.cells ub.cells.toArray 49)).alloc (.cells (kl ⟨3, 0, 2, 0, 0, 0⟩).toArray 30)) _ _ (by simp)⟩)
  clear hT hr hzs hn hm hK
  go_enter Tryd.func5, Tryd.ntmps5
  go_wp2_with (first
    | (show wpList _ _ _ ({ dst := some 24, op := .build _ _, type := _, pos := _, after := _, guard := _ } :: _) _ _; refine wpList_yields (S := fun _ => True) (y_build2 (by rfl) (by rfl) builtU) trivial ?_)
    | (refine wpList_buildSlice34 rfl (.tmp 24) rfl ub rfl ?_)
    | (show wpList _ _ _ ({ dst := some 26, op := .build _ _, type := _, pos := _, after := _, guard := _ } :: _) _ _; refine wpList_yields (S := fun _ => True) (y_build2 (by rfl) (by rfl) builtK) trivial ?_)
    | (show wpList _ _ _ ({ dst := none, op := .store _ (.tmp 8) (.tmp 26), type := _, pos := _, after := _, guard := _ } :: _) _ _; refine wpList_store_new (l := kl ⟨3, 0, 2, 0, 0, 0⟩) (l0 := kl zk) (ty := 30) rfl (.tmp 8) (.tmp 26) (by rfl) (w.heap.size + 1) (by simp) (by rfl) (by rfl) size30 rfl (kl_one _) ?_))
  generalize (((w.alloc (.cells ub.cells.toArray 49)).alloc (.cells (kl ⟨3, 0, 2, 0, 0, 0⟩).toArray 30)).alloc (.cells (bv (List.replicate m 0)).toArray 5)) = W0 at HBD0 ⊢
  have hl40 := hl
  go_loopw [10, 11, 12, 13, 14, 15] (fun q _ _ _ _ _ wr => ∃ k : Nat, k ≤ l.length ∧ q = .int .i64 k ∧ Bd w wr w.heap.size (w.heap.size + 1) (w.heap.size + 1 + 1) kx (List.replicate m 0)) (fun q _ _ _ _ _ _ => l.length + 1 - (intOf q).toNat)
  case atStart => exact ⟨0, by omega, rfl, HBD0.out⟩
  case round =>
    obtain ⟨k, hk, rfl, hbd⟩ := hrel
    clear HBD0
    have HBD := Lib.hid hbd
    clear hbd
    by_cases hlt : k < l.length
    · obtain ⟨bz, ofz, hA2, hcz0⟩ := HR.out k hlt
      have HZB := Lib.hid (HZS.out _ (List.getElem_mem hlt))
      obtain ⟨z, hz⟩ : ∃ z, z = l[k] := ⟨_, rfl⟩
      rw [← hz] at hcz0 HZB
      have HZ : Hid (∀ W, Below w.heap.size w W → W.cell? ⟨bz, ofz + k, none⟩ = some (.int .i64 z)) := Lib.hid (fun W hW => (World.cell?_of_block (a := ⟨bz, ofz + k, none⟩) (hW.block bz (cell_lt hcz0))).trans hcz0)
      subst hA2
      have e0 : decide ((k : Int) < (l.length : Int)) = true := decide_eq_true (by omega)
      have e1 : decide (k < l.length) = true := decide_eq_true hlt
      have e2 : (k : Int) < (l.length : Int) := by omega
      clear hcz0 hz
      go_wp2_with (go_at_call 8; refine (made_yes (HT.out.below HBD.out.bel) (rdo_one HBD.out.gu) ub_made).mono ?_; rintro e w1 ⟨q, rfl, hq, ⟨A', cap', ps, hs⟩, b1⟩; have HBD1 := Lib.hid (HBD.out.below b1); have HS1 := Lib.hid hs; have HQ : Hid (w.heap.size + 1 + 1 < q ∧ w.heap.size + 1 < q ∧ w.heap.size < q) := Lib.hid (by have h1 := HBD.out.gb.lt; have h2 := HBD.out.gk.lt; have h3 := HBD.out.gu.lt; omega); have HFAR := Lib.hid (show ∀ a, (some ⟨w.heap.size, 0, none⟩ : Option Addr) = some a → a.block ∉ ps from fun a e hm => by have h1 := (hs.pps _ hm).1; have h2 := HQ.out; injection e with e; subst e; simp only at h1; omega); clear b1 hq)
      refine wp_region_only (S := fun W => KeyAt W (w.heap.size + 1) 0 kx ∧ W.cell? ⟨bz, ofz + k, none⟩ = some (.int .i64 z) ∧ Rd W (some ⟨w.heap.size + 1 + 1, 0, none⟩) (List.replicate m 0)) (by kernel_rfl) ⟨HBD1.out.drew.gk.klat, (HZ.out _ HBD1.out.drew.bel), rd_blkG HBD1.out.drew.gb⟩ (fun hHeld => ?_)
      refine wpAnyH_take (i := 0) (v := ?v1) rfl (by kernel_rfl) (by kernel_rfl) (by kernel_rfl) (fun _ _ _ h => h) (Or.inl ⟨by rfl, ?hy1⟩) hHeld ?rest1
      case hy1 =>
        intro w' hSw
        try dsimp only at hSw
        have hcz := hSw.2.1
        go_simp
        first | done | with_reducible rfl
      try simp only [Act.put, List.getElem_toArray, List.getElem_cons_zero, List.setIfInBounds_toArray, List.set_cons_zero, List.set_cons_succ]
      refine wpAnyH_take (i := 1) (v := ?v2) rfl (by kernel_rfl) (by kernel_rfl) (by kernel_rfl) (fun _ _ _ h => h) (Or.inl ⟨by rfl, ?hy2⟩) hHeld ?rest2
      case hy2 =>
        intro w' hSw
        try dsimp only at hSw
        have hcz := hSw.2.1
        go_simp
        first | done | with_reducible rfl
      try simp only [Act.put, List.getElem_toArray, List.getElem_cons_succ, List.getElem_cons_zero, List.setIfInBounds_toArray, List.set_cons_zero, List.set_cons_succ]
      refine wpAnyH_take (i := 2) rfl (by kernel_rfl) (by kernel_rfl) (by kernel_rfl) (fun _ _ _ h => h) (y_kyG (by rfl) (.tmp 8) (by rfl) (w.heap.size + 1) 0 (by rfl) kx (fun _ h => h.1)) hHeld ?_
      try simp only [Act.put, List.getElem_toArray, List.getElem_cons_succ, List.getElem_cons_zero, List.setIfInBounds_toArray, List.set_cons_zero, List.set_cons_succ]
      refine wpAnyH_take (i := 3) (v := ?v3) rfl (by kernel_rfl) (by kernel_rfl) (by kernel_rfl) (fun _ _ _ h => h) (Or.inl ⟨by rfl, ?hy3⟩) hHeld ?rest3
      case hy3 =>
        intro w' hSw
        try dsimp only at hSw
        have hcz := hSw.2.1
        go_simp
        first | done | with_reducible rfl
      try simp only [Act.put, List.getElem_toArray, List.getElem_cons_succ, List.getElem_cons_zero, List.setIfInBounds_toArray, List.set_cons_zero, List.set_cons_succ]
      refine wpAnyH_take (i := 4) (v := ?v4) rfl (by kernel_rfl) (by kernel_rfl) (by kernel_rfl) (fun _ _ _ h => h) (Or.inl ⟨by rfl, ?hy4⟩) hHeld ?rest4
      case hy4 =>
        intro w' hSw
        try dsimp only at hSw
        have hcz := hSw.2.1
        go_simp
        first | done | with_reducible rfl
      try simp only [Act.put, List.getElem_toArray, List.getElem_cons_succ, List.getElem_cons_zero, List.setIfInBounds_toArray, List.set_cons_zero, List.set_cons_succ]
      refine wpAnyH_take (i := 5) (v := ?v5) rfl (by kernel_rfl) (by kernel_rfl) (by kernel_rfl) (fun _ _ _ h => h) (Or.inl ⟨by rfl, ?hy5⟩) hHeld ?rest5
      case hy5 =>
        intro w' hSw
        try dsimp only at hSw
        have hcz := hSw.2.1
        go_simp
        first | done | with_reducible rfl
      try simp only [Act.put, List.getElem_toArray, List.getElem_cons_succ, List.getElem_cons_zero, List.setIfInBounds_toArray, List.set_cons_zero, List.set_cons_succ]
      refine wpAnyH_take (i := 6) (v := ?v6) rfl (by kernel_rfl) (by kernel_rfl) (by kernel_rfl) (fun _ _ _ h => h) (Or.inl ⟨by rfl, ?hy6⟩) hHeld ?rest6
      case hy6 =>
        intro w' hSw
        try dsimp only at hSw
        have hcz := hSw.2.1
        go_simp
        first | done | with_reducible rfl
      try simp only [Act.put, List.getElem_toArray, List.getElem_cons_succ, List.getElem_cons_zero, List.setIfInBounds_toArray, List.set_cons_zero, List.set_cons_succ]
      refine wpAnyH_take (i := 7) (v := ?v7) rfl (by kernel_rfl) (by kernel_rfl) (by kernel_rfl) (fun _ _ _ h => h) (Or.inl ⟨by rfl, ?hy7⟩) hHeld ?rest7
      case hy7 =>
        intro w' hSw
        try dsimp only at hSw
        have hcz := hSw.2.1
        go_simp
        first | done | with_reducible rfl
      try simp only [Act.put, List.getElem_toArray, List.getElem_cons_succ, List.getElem_cons_zero, List.setIfInBounds_toArray, List.set_cons_zero, List.set_cons_succ]
      refine wpAnyH_take (i := 8) rfl (by kernel_rfl) (by kernel_rfl) (by kernel_rfl) (fun _ _ _ h => h) (y_b4 (by rfl) _ _ _ _ (by rfl) (by rfl) (by rfl) (by rfl) (by rfl) (built1 kx z n)) hHeld ?_
      try simp only [Act.put, List.getElem_toArray, List.getElem_cons_succ, List.getElem_cons_zero, List.setIfInBounds_toArray, List.set_cons_zero, List.set_cons_succ]
      refine wpAnyH_ready (rs := [9]) (by kernel_rfl) (by simp) ?_
      refine AllReadyH.cons (by rfl) (fun K hK => ?_) AllReadyH.nil
      go_simp
      refine (does_rd (HS1.out.drew) rfl (by decide) (by decide) (HT.out.below HBD1.out.drew.bel) (rdo_one HBD1.out.drew.gu) z n HZB.out kx zk []).mono ?_
      rintro e_ w2 ⟨rfl, c_⟩
      have HBD2 := Lib.hid (HBD1.out.drew.below c_)
      have HS2 := Lib.hid (HS1.out.drew.below c_)
      clear c_ hHeld
      go_wp2_with fail
      refine hK.out _ _ ⟨HBD2.out.gk.klat, (HZ.out _ HBD2.out.bel), rd_blkG HBD2.out.gb⟩ (fun hHeld => ?_)
      clear hK K
      try simp only [Act.put, List.getElem_toArray, List.getElem_cons_succ, List.getElem_cons_zero, List.setIfInBounds_toArray, List.set_cons_zero, List.set_cons_succ]
      refine wpAnyH_take (i := 10) (v := ?v8) rfl (by kernel_rfl) (by kernel_rfl) (by kernel_rfl) (fun _ _ _ h => h) (Or.inl ⟨by rfl, ?hy8⟩) hHeld ?rest8
      case hy8 =>
        intro w' hSw
        try dsimp only at hSw
        have hcz := hSw.2.1
        go_simp
        first | done | with_reducible rfl
      try simp only [Act.put, List.getElem_toArray, List.getElem_cons_succ, List.getElem_cons_zero, List.setIfInBounds_toArray, List.set_cons_zero, List.set_cons_succ]
      refine wpAnyH_take (i := 11) (v := ?v9) rfl (by kernel_rfl) (by kernel_rfl) (by kernel_rfl) (fun _ _ _ h => h) (Or.inl ⟨by rfl, ?hy9⟩) hHeld ?rest9
      case hy9 =>
        intro w' hSw
        try dsimp only at hSw
        have hcz := hSw.2.1
        go_simp
        first | done | with_reducible rfl
      try simp only [Act.put, List.getElem_toArray, List.getElem_cons_succ, List.getElem_cons_zero, List.setIfInBounds_toArray, List.set_cons_zero, List.set_cons_succ]
      refine wpAnyH_take (i := 12) (v := ?v10) rfl (by kernel_rfl) (by kernel_rfl) (by kernel_rfl) (fun _ _ _ h => h) (Or.inl ⟨by rfl, ?hy10⟩) hHeld ?rest10
      case hy10 =>
        intro w' hSw
        try dsimp only at hSw
        have hcz := hSw.2.1
        go_simp
        first | done | with_reducible rfl
      try simp only [Act.put, List.getElem_toArray, List.getElem_cons_succ, List.getElem_cons_zero, List.setIfInBounds_toArray, List.set_cons_zero, List.set_cons_succ]
      refine wpAnyH_take (i := 13) (v := ?v11) rfl (by kernel_rfl) (by kernel_rfl) (by kernel_rfl) (fun _ _ _ h => h) (Or.inl ⟨by rfl, ?hy11⟩) hHeld ?rest11
      case hy11 =>
        intro w' hSw
        try dsimp only at hSw
        have hcz := hSw.2.1
        go_simp
        first | done | with_reducible rfl
      try simp only [Act.put, List.getElem_toArray, List.getElem_cons_succ, List.getElem_cons_zero, List.setIfInBounds_toArray, List.set_cons_zero, List.set_cons_succ]
      refine wpAnyH_take (i := 14) (v := ?v12) rfl (by kernel_rfl) (by kernel_rfl) (by kernel_rfl) (fun _ _ _ h => h) (Or.inl ⟨by rfl, ?hy12⟩) hHeld ?rest12
      case hy12 =>
        intro w' hSw
        try dsimp only at hSw
        have hcz := hSw.2.1
        go_simp
        first | done | with_reducible rfl
      try simp only [Act.put, List.getElem_toArray, List.getElem_cons_succ, List.getElem_cons_zero, List.setIfInBounds_toArray, List.set_cons_zero, List.set_cons_succ]
      refine wpAnyH_done (by kernel_rfl) ?_ _
      refine OnlyN.normal ?_
      clear hHeld
      go_wp2_with fail
      refine wp_region_only (S := fun W => KeyAt W (w.heap.size + 1) 0 kx ∧ W.cell? ⟨bz, ofz + k, none⟩ = some (.int .i64 z) ∧ Rd W (some ⟨w.heap.size + 1 + 1, 0, none⟩) (List.replicate m 0)) (by kernel_rfl) ⟨HBD2.out.drew.gk.klat, (HZ.out _ HBD2.out.drew.bel), rd_blkG HBD2.out.drew.gb⟩ (fun hHeld => ?_)
      refine wpAnyH_take (i := 0) (v := ?v13) rfl (by kernel_rfl) (by kernel_rfl) (by kernel_rfl) (fun _ _ _ h => h) (Or.inl ⟨by rfl, ?hy13⟩) hHeld ?rest13
      case hy13 =>
        intro w' hSw
        try dsimp only at hSw
        have hcz := hSw.2.1
        go_simp
        first | done | with_reducible rfl
      try simp only [Act.put, List.getElem_toArray, List.getElem_cons_zero, List.setIfInBounds_toArray, List.set_cons_zero, List.set_cons_succ]
      refine wpAnyH_take (i := 1) (v := ?v14) rfl (by kernel_rfl) (by kernel_rfl) (by kernel_rfl) (fun _ _ _ h => h) (Or.inl ⟨by rfl, ?hy14⟩) hHeld ?rest14
      case hy14 =>
        intro w' hSw
        try dsimp only at hSw
        have hcz := hSw.2.1
        go_simp
        first | done | with_reducible rfl
      try simp only [Act.put, List.getElem_toArray, List.getElem_cons_succ, List.getElem_cons_zero, List.setIfInBounds_toArray, List.set_cons_zero, List.set_cons_succ]
      refine wpAnyH_take (i := 2) rfl (by kernel_rfl) (by kernel_rfl) (by kernel_rfl) (fun _ _ _ h => h) (y_kyG (by rfl) (.tmp 8) (by rfl) (w.heap.size + 1) 0 (by rfl) kx (fun _ h => h.1)) hHeld ?_
      try simp only [Act.put, List.getElem_toArray, List.getElem_cons_succ, List.getElem_cons_zero, List.setIfInBounds_toArray, List.set_cons_zero, List.set_cons_succ]
      refine wpAnyH_take (i := 3) (v := ?v15) rfl (by kernel_rfl) (by kernel_rfl) (by kernel_rfl) (fun _ _ _ h => h) (Or.inl ⟨by rfl, ?hy15⟩) hHeld ?rest15
      case hy15 =>
        intro w' hSw
        try dsimp only at hSw
        have hcz := hSw.2.1
        go_simp
        first | done | with_reducible rfl
      try simp only [Act.put, List.getElem_toArray, List.getElem_cons_succ, List.getElem_cons_zero, List.setIfInBounds_toArray, List.set_cons_zero, List.set_cons_succ]
      refine wpAnyH_take (i := 4) (v := ?v16) rfl (by kernel_rfl) (by kernel_rfl) (by kernel_rfl) (fun _ _ _ h => h) (Or.inl ⟨by rfl, ?hy16⟩) hHeld ?rest16
      case hy16 =>
        intro w' hSw
        try dsimp only at hSw
        have hcz := hSw.2.1
        go_simp
        first | done | with_reducible rfl
      try simp only [Act.put, List.getElem_toArray, List.getElem_cons_succ, List.getElem_cons_zero, List.setIfInBounds_toArray, List.set_cons_zero, List.set_cons_succ]
      refine wpAnyH_take (i := 5) (v := ?v17) rfl (by kernel_rfl) (by kernel_rfl) (by kernel_rfl) (fun _ _ _ h => h) (Or.inl ⟨by rfl, ?hy17⟩) hHeld ?rest17
      case hy17 =>
        intro w' hSw
        try dsimp only at hSw
        have hcz := hSw.2.1
        go_simp
        first | done | with_reducible rfl
      try simp only [Act.put, List.getElem_toArray, List.getElem_cons_succ, List.getElem_cons_zero, List.setIfInBounds_toArray, List.set_cons_zero, List.set_cons_succ]
      refine wpAnyH_take (i := 6) (v := ?v18) rfl (by kernel_rfl) (by kernel_rfl) (by kernel_rfl) (fun _ _ _ h => h) (Or.inl ⟨by rfl, ?hy18⟩) hHeld ?rest18
      case hy18 =>
        intro w' hSw
        try dsimp only at hSw
        have hcz := hSw.2.1
        go_simp
        first | done | with_reducible rfl
      try simp only [Act.put, List.getElem_toArray, List.getElem_cons_succ, List.getElem_cons_zero, List.setIfInBounds_toArray, List.set_cons_zero, List.set_cons_succ]
      refine wpAnyH_take (i := 7) (v := ?v19) rfl (by kernel_rfl) (by kernel_rfl) (by kernel_rfl) (fun _ _ _ h => h) (Or.inl ⟨by rfl, ?hy19⟩) hHeld ?rest19
      case hy19 =>
        intro w' hSw
        try dsimp only at hSw
        have hcz := hSw.2.1
        go_simp
        first | done | with_reducible rfl
      try simp only [Act.put, List.getElem_toArray, List.getElem_cons_succ, List.getElem_cons_zero, List.setIfInBounds_toArray, List.set_cons_zero, List.set_cons_succ]
      refine wpAnyH_take (i := 8) rfl (by kernel_rfl) (by kernel_rfl) (by kernel_rfl) (fun _ _ _ h => h) (y_cstr (by rfl) (.tmp 61) (by rfl) (some ⟨w.heap.size + 1 + 1, 0, none⟩) m m (List.replicate m 0) (by rfl) List.length_replicate (fun _ h => h.2.2)) hHeld ?_
      try simp only [Act.put, List.getElem_toArray, List.getElem_cons_succ, List.getElem_cons_zero, List.setIfInBounds_toArray, List.set_cons_zero, List.set_cons_succ]
      refine wpAnyH_take (i := 9) rfl (by kernel_rfl) (by kernel_rfl) (by kernel_rfl) (fun _ _ _ h => h) (y_b4 (by rfl) _ _ _ _ (by rfl) (by rfl) (by rfl) (by rfl) (by rfl) (built2 kx z (List.replicate m 0))) hHeld ?_
      try simp only [Act.put, List.getElem_toArray, List.getElem_cons_succ, List.getElem_cons_zero, List.setIfInBounds_toArray, List.set_cons_zero, List.set_cons_succ]
      refine wpAnyH_ready (rs := [10]) (by kernel_rfl) (by simp) ?_
      refine AllReadyH.cons (by rfl) (fun K hK => ?_) AllReadyH.nil
      go_simp
      refine (does_any (HS2.out.drew) rfl (by decide) (by decide) ub_made.2.2.2 (HT.out.below HBD2.out.drew.bel) (rdo_one HBD2.out.drew.gu) HFAR.out ⟨2, z, 0, kx, zk, List.replicate m 0, HZB.out⟩).mono ?_
      rintro e_ w3 ⟨L3, c3', rfl, hL3, ⟨os3, hs3, hr3, hl3, ho3⟩, hf3⟩
      have HBD3 := Lib.hid (show Bd w w3 w.heap.size (w.heap.size + 1) (w.heap.size + 1 + 1) kx (List.replicate m 0) from HBD2.out.drew.fr hf3 (fun i hi => by have := (hs.pps i hi).1; have := HQ.out; omega))
      have HS3 := Lib.hid hs3
      have HR3 := Lib.hid hr3
      have HL3 := Lib.hid hl3
      clear hf3 hs3 hr3 hl3
      clear hL3 ho3 hHeld
      go_wp2_with fail
      refine hK.out _ _ ⟨HBD3.out.gk.klat, (HZ.out _ HBD3.out.bel), rd_blkG HBD3.out.gb⟩ (fun hHeld => ?_)
      clear hK K
      try simp only [Act.put, List.getElem_toArray, List.getElem_cons_succ, List.getElem_cons_zero, List.setIfInBounds_toArray, List.set_cons_zero, List.set_cons_succ]
      refine wpAnyH_take (i := 11) (v := ?v20) rfl (by kernel_rfl) (by kernel_rfl) (by kernel_rfl) (fun _ _ _ h => h) (Or.inl ⟨by rfl, ?hy20⟩) hHeld ?rest20
      case hy20 =>
        intro w' hSw
        try dsimp only at hSw
        have hcz := hSw.2.1
        go_simp
        first | done | with_reducible rfl
      try simp only [Act.put, List.getElem_toArray, List.getElem_cons_succ, List.getElem_cons_zero, List.setIfInBounds_toArray, List.set_cons_zero, List.set_cons_succ]
      refine wpAnyH_take (i := 12) (v := ?v21) rfl (by kernel_rfl) (by kernel_rfl) (by kernel_rfl) (fun _ _ _ h => h) (Or.inl ⟨by rfl, ?hy21⟩) hHeld ?rest21
      case hy21 =>
        intro w' hSw
        try dsimp only at hSw
        have hcz := hSw.2.1
        go_simp
        first | done | with_reducible rfl
      try simp only [Act.put, List.getElem_toArray, List.getElem_cons_succ, List.getElem_cons_zero, List.setIfInBounds_toArray, List.set_cons_zero, List.set_cons_succ]
      refine wpAnyH_take (i := 13) (v := ?v22) rfl (by kernel_rfl) (by kernel_rfl) (by kernel_rfl) (fun _ _ _ h => h) (Or.inl ⟨by rfl, ?hy22⟩) hHeld ?rest22
      case hy22 =>
        intro w' hSw
        try dsimp only at hSw
        have hcz := hSw.2.1
        go_simp
        first | done | with_reducible rfl
      try simp only [Act.put, List.getElem_toArray, List.getElem_cons_succ, List.getElem_cons_zero, List.setIfInBounds_toArray, List.set_cons_zero, List.set_cons_succ]
      refine wpAnyH_take (i := 14) (v := ?v23) rfl (by kernel_rfl) (by kernel_rfl) (by kernel_rfl) (fun _ _ _ h => h) (Or.inl ⟨by rfl, ?hy23⟩) hHeld ?rest23
      case hy23 =>
        intro w' hSw
        try dsimp only at hSw
        have hcz := hSw.2.1
        go_simp
        first | done | with_reducible rfl
      try simp only [Act.put, List.getElem_toArray, List.getElem_cons_succ, List.getElem_cons_zero, List.setIfInBounds_toArray, List.set_cons_zero, List.set_cons_succ]
      refine wpAnyH_take (i := 15) (v := ?v24) rfl (by kernel_rfl) (by kernel_rfl) (by kernel_rfl) (fun _ _ _ h => h) (Or.inl ⟨by rfl, ?hy24⟩) hHeld ?rest24
      case hy24 =>
        intro w' hSw
        try dsimp only at hSw
        have hcz := hSw.2.1
        go_simp
        first | done | with_reducible rfl
      try simp only [Act.put, List.getElem_toArray, List.getElem_cons_succ, List.getElem_cons_zero, List.setIfInBounds_toArray, List.set_cons_zero, List.set_cons_succ]
      refine wpAnyH_done (by kernel_rfl) ?_ _
      refine OnlyN.normal ?_
      clear hHeld
      go_wp2_with (go_at_call 11; refine (same_n HS3.out HL3.out (by decide) (by decide) _ _ HR3.out).mono ?_; rintro e w4 ⟨rfl, b4⟩; have HBD4 := Lib.hid (HBD3.out.below b4); clear b4)
      go_roundw
      case rel => exact ⟨k + 1, by omega, by go_num, HBD4.out⟩
      case measure => simp [intOf]; omega
    · obtain rfl : k = l.length := by omega
      have e0 : decide ((l.length : Int) < (l.length : Int)) = false := decide_eq_false (by omega)
      have e1 : decide (l.length < l.length) = false := decide_eq_false (by omega)
      go_wp2_with (first
        | (go_at_call 9; refine (known_any _ (HT.out.below HBD.out.bel)).mono ?_; rintro e v9 ⟨rfl, b_⟩; have B9 := Lib.hid (HBD.out.bel.trans (b_.mono (HBD.out.bel).size)); clear b_))
      go_ret
      exact ⟨rfl, B9.out⟩
set_option maxRecDepth 100000 in
set_option maxHeartbeats 4000000 in
theorem walk_true (w : World) (hT : Tab w) (A : Option Addr) (l : List Int) (cap : Nat) (n : Int) (hr : RdZ w A l) (hzs : ∀ z ∈ l, z ≤ 9223372036854775807) (hl : l.length ≤ 40) (hn : n ≤ 100) :
    Calls Tryd.prog 5 #[.slice A l.length cap, .int .i64 n, .bool true] w fun e w' => e = .returned (.bool true) ∧ Below w.heap.size w w' := by
  have HT := Lib.hid hT
  have HR := Lib.hid hr
  have HZS := Lib.hid hzs
  obtain ⟨m, hm⟩ : ∃ m : Nat, m = n.toNat := ⟨_, rfl⟩
  have hmx : (if n < 0 then 0 else n) = (m : Int) := by split <;> omega
  have hmx2 : max n 0 = (m : Int) := by omega
  have hmk := run_mk0G m (by omega)
  have d0 : decide ((40 : Int) < (l.length : Int)) = false := decide_eq_false (by omega)
  have d1 : decide (40 < l.length) = false := decide_eq_false (by omega)
  have d2 : decide (100 < n) = false := decide_eq_false (by omega)
  obtain ⟨kx, hK⟩ : ∃ kx : Ky, kx = (⟨3, 0, 2, 0, 1, 0⟩ : Ky) := ⟨_, rfl⟩
  have HBD0 : Hid (Bd w (((w.alloc (.cells ub.cells.toArray 49)).alloc (.cells ((kl ⟨3, 0, 2, 0, 0, 0⟩).set 4 (.int .i64 1)).toArray 30)).alloc (.cells (bv (List.replicate m 0)).toArray 5)) w.heap.size (w.heap.size + 1) (w.heap.size + 1 + 1) kx (List.replicate m 0)) := Lib.hid (by
    subst hK
    exact ⟨(((Below.refl w.heap.size w).alloc (Nat.le_refl _) _).alloc (by simp) _).alloc (by simp; omega) _, ((Blk.new w _ _).alloc _).alloc _, (Blk.new_of (w.alloc (.cells ub.cells.toArray 49)) _ ((kl ⟨3, 0, 2, 0, 0, 0⟩).set 4 (.int .i64 1)).toArray (by simp)).alloc _, Blk.new_of ((w.alloc (.cells ub.cells.toArray 49)).alloc (.cells ((kl ⟨3, 0, 2, 0, 0, 0⟩).set 4 (.int .i64 1)).toArray 30)) _ _ (by simp)⟩)
  have HK1 := Lib.hid (Blk.new_of (w.alloc (.cells ub.cells.toArray 49)) 30 (kl ⟨3, 0, 2, 0, 0, 0⟩).toArray (g := w.heap.size + 1) (by simp))
  have hc4 := HK1.out.cell 4
  have hf4 := HK1.out.frozen 4
  clear hT hr hzs hn hm hK
  go_enter Tryd.func5, Tryd.ntmps5
  go_wp2_with (first
    | (show wpList _ _ _ ({ dst := some 24, op := .build _ _, type := _, pos := _, after := _, guard := _ } :: _) _ _; refine wpList_yields (S := fun _ => True) (y_build2 (by rfl) (by rfl) builtU) trivial ?_)
    | (refine wpList_buildSlice34 rfl (.tmp 24) rfl ub rfl ?_)
    | (show wpList _ _ _ ({ dst := some 26, op := .build _ _, type := _, pos := _, after := _, guard := _ } :: _) _ _; refine wpList_yields (S := fun _ => True) (y_build2 (by rfl) (by rfl) builtK) trivial ?_)
    | (show wpList _ _ _ ({ dst := none, op := .store _ (.tmp 8) (.tmp 26), type := _, pos := _, after := _, guard := _ } :: _) _ _; refine wpList_store_new (l := kl ⟨3, 0, 2, 0, 0, 0⟩) (l0 := kl zk) (ty := 30) rfl (.tmp 8) (.tmp 26) (by rfl) (w.heap.size + 1) (by simp) (by rfl) (by rfl) size30 rfl (kl_one _) ?_))
  generalize (((w.alloc (.cells ub.cells.toArray 49)).alloc (.cells ((kl ⟨3, 0, 2, 0, 0, 0⟩).set 4 (.int .i64 1)).toArray 30)).alloc (.cells (bv (List.replicate m 0)).toArray 5)) = W0 at HBD0 ⊢
  have hl40 := hl
  go_loopw [10, 11, 12, 13, 14, 15] (fun q _ _ _ _ _ wr => ∃ k : Nat, k ≤ l.length ∧ q = .int .i64 k ∧ Bd w wr w.heap.size (w.heap.size + 1) (w.heap.size + 1 + 1) kx (List.replicate m 0)) (fun q _ _ _ _ _ _ => l.length + 1 - (intOf q).toNat)
  case atStart => exact ⟨0, by omega, rfl, HBD0.out⟩
  case round =>
    obtain ⟨k, hk, rfl, hbd⟩ := hrel
    clear HBD0
    have HBD := Lib.hid hbd
    clear hbd
    by_cases hlt : k < l.length
    · obtain ⟨bz, ofz, hA2, hcz0⟩ := HR.out k hlt
      have HZB := Lib.hid (HZS.out _ (List.getElem_mem hlt))
      obtain ⟨z, hz⟩ : ∃ z, z = l[k] := ⟨_, rfl⟩
      rw [← hz] at hcz0 HZB
      have HZ : Hid (∀ W, Below w.heap.size w W → W.cell? ⟨bz, ofz + k, none⟩ = some (.int .i64 z)) := Lib.hid (fun W hW => (World.cell?_of_block (a := ⟨bz, ofz + k, none⟩) (hW.block bz (cell_lt hcz0))).trans hcz0)
      subst hA2
      have e0 : decide ((k : Int) < (l.length : Int)) = true := decide_eq_true (by omega)
      have e1 : decide (k < l.length) = true := decide_eq_true hlt
      have e2 : (k : Int) < (l.length : Int) := by omega
      clear hcz0 hz
      go_wp2_with (go_at_call 8; refine (made_yes (HT.out.below HBD.out.bel) (rdo_one HBD.out.gu) ub_made).mono ?_; rintro e w1 ⟨q, rfl, hq, ⟨A', cap', ps, hs⟩, b1⟩; have HBD1 := Lib.hid (HBD.out.below b1); have HS1 := Lib.hid hs; have HQ : Hid (w.heap.size + 1 + 1 < q ∧ w.heap.size + 1 < q ∧ w.heap.size < q) := Lib.hid (by have h1 := HBD.out.gb.lt; have h2 := HBD.out.gk.lt; have h3 := HBD.out.gu.lt; omega); have HFAR := Lib.hid (show ∀ a, (some ⟨w.heap.size, 0, none⟩ : Option Addr) = some a → a.block ∉ ps from fun a e hm => by have h1 := (hs.pps _ hm).1; have h2 := HQ.out; injection e with e; subst e; simp only at h1; omega); clear b1 hq)
      refine wp_region_only (S := fun W => KeyAt W (w.heap.size + 1) 0 kx ∧ W.cell? ⟨bz, ofz + k, none⟩ = some (.int .i64 z) ∧ Rd W (some ⟨w.heap.size + 1 + 1, 0, none⟩) (List.replicate m 0)) (by kernel_rfl) ⟨HBD1.out.drew.gk.klat, (HZ.out _ HBD1.out.drew.bel), rd_blkG HBD1.out.drew.gb⟩ (fun hHeld => ?_)
      refine wpAnyH_take (i := 0) (v := ?v25) rfl (by kernel_rfl) (by kernel_rfl) (by kernel_rfl) (fun _ _ _ h => h) (Or.inl ⟨by rfl, ?hy25⟩) hHeld ?rest25
      case hy25 =>
        intro w' hSw
        try dsimp only at hSw
        have hcz := hSw.2.1
        go_simp
        first | done | with_reducible rfl
      try simp only [Act.put, List.getElem_toArray, List.getElem_cons_zero, List.setIfInBounds_toArray, List.set_cons_zero, List.set_cons_succ]
      refine wpAnyH_take (i := 1) (v := ?v26) rfl (by kernel_rfl) (by kernel_rfl) (by kernel_rfl) (fun _ _ _ h => h) (Or.inl ⟨by rfl, ?hy26⟩) hHeld ?rest26
      case hy26 =>
        intro w' hSw
        try dsimp only at hSw
        have hcz := hSw.2.1
        go_simp
        first | done | with_reducible rfl
      try simp only [Act.put, List.getElem_toArray, List.getElem_cons_succ, List.getElem_cons_zero, List.setIfInBounds_toArray, List.set_cons_zero, List.set_cons_succ]
      refine wpAnyH_take (i := 2) rfl (by kernel_rfl) (by kernel_rfl) (by kernel_rfl) (fun _ _ _ h => h) (y_kyG (by rfl) (.tmp 8) (by rfl) (w.heap.size + 1) 0 (by rfl) kx (fun _ h => h.1)) hHeld ?_
      try simp only [Act.put, List.getElem_toArray, List.getElem_cons_succ, List.getElem_cons_zero, List.setIfInBounds_toArray, List.set_cons_zero, List.set_cons_succ]
      refine wpAnyH_take (i := 3) (v := ?v27) rfl (by kernel_rfl) (by kernel_rfl) (by kernel_rfl) (fun _ _ _ h => h) (Or.inl ⟨by rfl, ?hy27⟩) hHeld ?rest27
      case hy27 =>
        intro w' hSw
        try dsimp only at hSw
        have hcz := hSw.2.1
        go_simp
        first | done | with_reducible rfl
      try simp only [Act.put, List.getElem_toArray, List.getElem_cons_succ, List.getElem_cons_zero, List.setIfInBounds_toArray, List.set_cons_zero, List.set_cons_succ]
      refine wpAnyH_take (i := 4) (v := ?v28) rfl (by kernel_rfl) (by kernel_rfl) (by kernel_rfl) (fun _ _ _ h => h) (Or.inl ⟨by rfl, ?hy28⟩) hHeld ?rest28
      case hy28 =>
        intro w' hSw
        try dsimp only at hSw
        have hcz := hSw.2.1
        go_simp
        first | done | with_reducible rfl
      try simp only [Act.put, List.getElem_toArray, List.getElem_cons_succ, List.getElem_cons_zero, List.setIfInBounds_toArray, List.set_cons_zero, List.set_cons_succ]
      refine wpAnyH_take (i := 5) (v := ?v29) rfl (by kernel_rfl) (by kernel_rfl) (by kernel_rfl) (fun _ _ _ h => h) (Or.inl ⟨by rfl, ?hy29⟩) hHeld ?rest29
      case hy29 =>
        intro w' hSw
        try dsimp only at hSw
        have hcz := hSw.2.1
        go_simp
        first | done | with_reducible rfl
      try simp only [Act.put, List.getElem_toArray, List.getElem_cons_succ, List.getElem_cons_zero, List.setIfInBounds_toArray, List.set_cons_zero, List.set_cons_succ]
      refine wpAnyH_take (i := 6) (v := ?v30) rfl (by kernel_rfl) (by kernel_rfl) (by kernel_rfl) (fun _ _ _ h => h) (Or.inl ⟨by rfl, ?hy30⟩) hHeld ?rest30
      case hy30 =>
        intro w' hSw
        try dsimp only at hSw
        have hcz := hSw.2.1
        go_simp
        first | done | with_reducible rfl
      try simp only [Act.put, List.getElem_toArray, List.getElem_cons_succ, List.getElem_cons_zero, List.setIfInBounds_toArray, List.set_cons_zero, List.set_cons_succ]
      refine wpAnyH_take (i := 7) (v := ?v31) rfl (by kernel_rfl) (by kernel_rfl) (by kernel_rfl) (fun _ _ _ h => h) (Or.inl ⟨by rfl, ?hy31⟩) hHeld ?rest31
      case hy31 =>
        intro w' hSw
        try dsimp only at hSw
        have hcz := hSw.2.1
        go_simp
        first | done | with_reducible rfl
      try simp only [Act.put, List.getElem_toArray, List.getElem_cons_succ, List.getElem_cons_zero, List.setIfInBounds_toArray, List.set_cons_zero, List.set_cons_succ]
      refine wpAnyH_take (i := 8) rfl (by kernel_rfl) (by kernel_rfl) (by kernel_rfl) (fun _ _ _ h => h) (y_b4 (by rfl) _ _ _ _ (by rfl) (by rfl) (by rfl) (by rfl) (by rfl) (built1 kx z n)) hHeld ?_
      try simp only [Act.put, List.getElem_toArray, List.getElem_cons_succ, List.getElem_cons_zero, List.setIfInBounds_toArray, List.set_cons_zero, List.set_cons_succ]
      refine wpAnyH_ready (rs := [9]) (by kernel_rfl) (by simp) ?_
      refine AllReadyH.cons (by rfl) (fun K hK => ?_) AllReadyH.nil
      go_simp
      refine (does_rd (HS1.out.drew) rfl (by decide) (by decide) (HT.out.below HBD1.out.drew.bel) (rdo_one HBD1.out.drew.gu) z n HZB.out kx zk []).mono ?_
      rintro e_ w2 ⟨rfl, c_⟩
      have HBD2 := Lib.hid (HBD1.out.drew.below c_)
      have HS2 := Lib.hid (HS1.out.drew.below c_)
      clear c_ hHeld
      go_wp2_with fail
      refine hK.out _ _ ⟨HBD2.out.gk.klat, (HZ.out _ HBD2.out.bel), rd_blkG HBD2.out.gb⟩ (fun hHeld => ?_)
      clear hK K
      try simp only [Act.put, List.getElem_toArray, List.getElem_cons_succ, List.getElem_cons_zero, List.setIfInBounds_toArray, List.set_cons_zero, List.set_cons_succ]
      refine wpAnyH_take (i := 10) (v := ?v32) rfl (by kernel_rfl) (by kernel_rfl) (by kernel_rfl) (fun _ _ _ h => h) (Or.inl ⟨by rfl, ?hy32⟩) hHeld ?rest32
      case hy32 =>
        intro w' hSw
        try dsimp only at hSw
        have hcz := hSw.2.1
        go_simp
        first | done | with_reducible rfl
      try simp only [Act.put, List.getElem_toArray, List.getElem_cons_succ, List.getElem_cons_zero, List.setIfInBounds_toArray, List.set_cons_zero, List.set_cons_succ]
      refine wpAnyH_take (i := 11) (v := ?v33) rfl (by kernel_rfl) (by kernel_rfl) (by kernel_rfl) (fun _ _ _ h => h) (Or.inl ⟨by rfl, ?hy33⟩) hHeld ?rest33
      case hy33 =>
        intro w' hSw
        try dsimp only at hSw
        have hcz := hSw.2.1
        go_simp
        first | done | with_reducible rfl
      try simp only [Act.put, List.getElem_toArray, List.getElem_cons_succ, List.getElem_cons_zero, List.setIfInBounds_toArray, List.set_cons_zero, List.set_cons_succ]
      refine wpAnyH_take (i := 12) (v := ?v34) rfl (by kernel_rfl) (by kernel_rfl) (by kernel_rfl) (fun _ _ _ h => h) (Or.inl ⟨by rfl, ?hy34⟩) hHeld ?rest34
      case hy34 =>
        intro w' hSw
        try dsimp only at hSw
        have hcz := hSw.2.1
        go_simp
        first | done | with_reducible rfl
      try simp only [Act.put, List.getElem_toArray, List.getElem_cons_succ, List.getElem_cons_zero, List.setIfInBounds_toArray, List.set_cons_zero, List.set_cons_succ]
      refine wpAnyH_take (i := 13) (v := ?v35) rfl (by kernel_rfl) (by kernel_rfl) (by kernel_rfl) (fun _ _ _ h => h) (Or.inl ⟨by rfl, ?hy35⟩) hHeld ?rest35
      case hy35 =>
        intro w' hSw
        try dsimp only at hSw
        have hcz := hSw.2.1
        go_simp
        first | done | with_reducible rfl
      try simp only [Act.put, List.getElem_toArray, List.getElem_cons_succ, List.getElem_cons_zero, List.setIfInBounds_toArray, List.set_cons_zero, List.set_cons_succ]
      refine wpAnyH_take (i := 14) (v := ?v36) rfl (by kernel_rfl) (by kernel_rfl) (by kernel_rfl) (fun _ _ _ h => h) (Or.inl ⟨by rfl, ?hy36⟩) hHeld ?rest36
      case hy36 =>
        intro w' hSw
        try dsimp only at hSw
        have hcz := hSw.2.1
        go_simp
        first | done | with_reducible rfl
      try simp only [Act.put, List.getElem_toArray, List.getElem_cons_succ, List.getElem_cons_zero, List.setIfInBounds_toArray, List.set_cons_zero, List.set_cons_succ]
      refine wpAnyH_done (by kernel_rfl) ?_ _
      refine OnlyN.normal ?_
      clear hHeld
      go_wp2_with fail
      refine wp_region_only (S := fun W => KeyAt W (w.heap.size + 1) 0 kx ∧ W.cell? ⟨bz, ofz + k, none⟩ = some (.int .i64 z) ∧ Rd W (some ⟨w.heap.size + 1 + 1, 0, none⟩) (List.replicate m 0)) (by kernel_rfl) ⟨HBD2.out.drew.gk.klat, (HZ.out _ HBD2.out.drew.bel), rd_blkG HBD2.out.drew.gb⟩ (fun hHeld => ?_)
      refine wpAnyH_take (i := 0) (v := ?v37) rfl (by kernel_rfl) (by kernel_rfl) (by kernel_rfl) (fun _ _ _ h => h) (Or.inl ⟨by rfl, ?hy37⟩) hHeld ?rest37
      case hy37 =>
        intro w' hSw
        try dsimp only at hSw
        have hcz := hSw.2.1
        go_simp
        first | done | with_reducible rfl
      try simp only [Act.put, List.getElem_toArray, List.getElem_cons_zero, List.setIfInBounds_toArray, List.set_cons_zero, List.set_cons_succ]
      refine wpAnyH_take (i := 1) (v := ?v38) rfl (by kernel_rfl) (by kernel_rfl) (by kernel_rfl) (fun _ _ _ h => h) (Or.inl ⟨by rfl, ?hy38⟩) hHeld ?rest38
      case hy38 =>
        intro w' hSw
        try dsimp only at hSw
        have hcz := hSw.2.1
        go_simp
        first | done | with_reducible rfl
      try simp only [Act.put, List.getElem_toArray, List.getElem_cons_succ, List.getElem_cons_zero, List.setIfInBounds_toArray, List.set_cons_zero, List.set_cons_succ]
      refine wpAnyH_take (i := 2) rfl (by kernel_rfl) (by kernel_rfl) (by kernel_rfl) (fun _ _ _ h => h) (y_kyG (by rfl) (.tmp 8) (by rfl) (w.heap.size + 1) 0 (by rfl) kx (fun _ h => h.1)) hHeld ?_
      try simp only [Act.put, List.getElem_toArray, List.getElem_cons_succ, List.getElem_cons_zero, List.setIfInBounds_toArray, List.set_cons_zero, List.set_cons_succ]
      refine wpAnyH_take (i := 3) (v := ?v39) rfl (by kernel_rfl) (by kernel_rfl) (by kernel_rfl) (fun _ _ _ h => h) (Or.inl ⟨by rfl, ?hy39⟩) hHeld ?rest39
      case hy39 =>
        intro w' hSw
        try dsimp only at hSw
        have hcz := hSw.2.1
        go_simp
        first | done | with_reducible rfl
      try simp only [Act.put, List.getElem_toArray, List.getElem_cons_succ, List.getElem_cons_zero, List.setIfInBounds_toArray, List.set_cons_zero, List.set_cons_succ]
      refine wpAnyH_take (i := 4) (v := ?v40) rfl (by kernel_rfl) (by kernel_rfl) (by kernel_rfl) (fun _ _ _ h => h) (Or.inl ⟨by rfl, ?hy40⟩) hHeld ?rest40
      case hy40 =>
        intro w' hSw
        try dsimp only at hSw
        have hcz := hSw.2.1
        go_simp
        first | done | with_reducible rfl
      try simp only [Act.put, List.getElem_toArray, List.getElem_cons_succ, List.getElem_cons_zero, List.setIfInBounds_toArray, List.set_cons_zero, List.set_cons_succ]
      refine wpAnyH_take (i := 5) (v := ?v41) rfl (by kernel_rfl) (by kernel_rfl) (by kernel_rfl) (fun _ _ _ h => h) (Or.inl ⟨by rfl, ?hy41⟩) hHeld ?rest41
      case hy41 =>
        intro w' hSw
        try dsimp only at hSw
        have hcz := hSw.2.1
        go_simp
        first | done | with_reducible rfl
      try simp only [Act.put, List.getElem_toArray, List.getElem_cons_succ, List.getElem_cons_zero, List.setIfInBounds_toArray, List.set_cons_zero, List.set_cons_succ]
      refine wpAnyH_take (i := 6) (v := ?v42) rfl (by kernel_rfl) (by kernel_rfl) (by kernel_rfl) (fun _ _ _ h => h) (Or.inl ⟨by rfl, ?hy42⟩) hHeld ?rest42
      case hy42 =>
        intro w' hSw
        try dsimp only at hSw
        have hcz := hSw.2.1
        go_simp
        first | done | with_reducible rfl
      try simp only [Act.put, List.getElem_toArray, List.getElem_cons_succ, List.getElem_cons_zero, List.setIfInBounds_toArray, List.set_cons_zero, List.set_cons_succ]
      refine wpAnyH_take (i := 7) (v := ?v43) rfl (by kernel_rfl) (by kernel_rfl) (by kernel_rfl) (fun _ _ _ h => h) (Or.inl ⟨by rfl, ?hy43⟩) hHeld ?rest43
      case hy43 =>
        intro w' hSw
        try dsimp only at hSw
        have hcz := hSw.2.1
        go_simp
        first | done | with_reducible rfl
      try simp only [Act.put, List.getElem_toArray, List.getElem_cons_succ, List.getElem_cons_zero, List.setIfInBounds_toArray, List.set_cons_zero, List.set_cons_succ]
      refine wpAnyH_take (i := 8) rfl (by kernel_rfl) (by kernel_rfl) (by kernel_rfl) (fun _ _ _ h => h) (y_cstr (by rfl) (.tmp 61) (by rfl) (some ⟨w.heap.size + 1 + 1, 0, none⟩) m m (List.replicate m 0) (by rfl) List.length_replicate (fun _ h => h.2.2)) hHeld ?_
      try simp only [Act.put, List.getElem_toArray, List.getElem_cons_succ, List.getElem_cons_zero, List.setIfInBounds_toArray, List.set_cons_zero, List.set_cons_succ]
      refine wpAnyH_take (i := 9) rfl (by kernel_rfl) (by kernel_rfl) (by kernel_rfl) (fun _ _ _ h => h) (y_b4 (by rfl) _ _ _ _ (by rfl) (by rfl) (by rfl) (by rfl) (by rfl) (built2 kx z (List.replicate m 0))) hHeld ?_
      try simp only [Act.put, List.getElem_toArray, List.getElem_cons_succ, List.getElem_cons_zero, List.setIfInBounds_toArray, List.set_cons_zero, List.set_cons_succ]
      refine wpAnyH_ready (rs := [10]) (by kernel_rfl) (by simp) ?_
      refine AllReadyH.cons (by rfl) (fun K hK => ?_) AllReadyH.nil
      go_simp
      refine (does_any (HS2.out.drew) rfl (by decide) (by decide) ub_made.2.2.2 (HT.out.below HBD2.out.drew.bel) (rdo_one HBD2.out.drew.gu) HFAR.out ⟨2, z, 0, kx, zk, List.replicate m 0, HZB.out⟩).mono ?_
      rintro e_ w3 ⟨L3, c3', rfl, hL3, ⟨os3, hs3, hr3, hl3, ho3⟩, hf3⟩
      have HBD3 := Lib.hid (show Bd w w3 w.heap.size (w.heap.size + 1) (w.heap.size + 1 + 1) kx (List.replicate m 0) from HBD2.out.drew.fr hf3 (fun i hi => by have := (hs.pps i hi).1; have := HQ.out; omega))
      have HS3 := Lib.hid hs3
      have HR3 := Lib.hid hr3
      have HL3 := Lib.hid hl3
      clear hf3 hs3 hr3 hl3
      clear hL3 ho3 hHeld
      go_wp2_with fail
      refine hK.out _ _ ⟨HBD3.out.gk.klat, (HZ.out _ HBD3.out.bel), rd_blkG HBD3.out.gb⟩ (fun hHeld => ?_)
      clear hK K
      try simp only [Act.put, List.getElem_toArray, List.getElem_cons_succ, List.getElem_cons_zero, List.setIfInBounds_toArray, List.set_cons_zero, List.set_cons_succ]
      refine wpAnyH_take (i := 11) (v := ?v44) rfl (by kernel_rfl) (by kernel_rfl) (by kernel_rfl) (fun _ _ _ h => h) (Or.inl ⟨by rfl, ?hy44⟩) hHeld ?rest44
      case hy44 =>
        intro w' hSw
        try dsimp only at hSw
        have hcz := hSw.2.1
        go_simp
        first | done | with_reducible rfl
      try simp only [Act.put, List.getElem_toArray, List.getElem_cons_succ, List.getElem_cons_zero, List.setIfInBounds_toArray, List.set_cons_zero, List.set_cons_succ]
      refine wpAnyH_take (i := 12) (v := ?v45) rfl (by kernel_rfl) (by kernel_rfl) (by kernel_rfl) (fun _ _ _ h => h) (Or.inl ⟨by rfl, ?hy45⟩) hHeld ?rest45
      case hy45 =>
        intro w' hSw
        try dsimp only at hSw
        have hcz := hSw.2.1
        go_simp
        first | done | with_reducible rfl
      try simp only [Act.put, List.getElem_toArray, List.getElem_cons_succ, List.getElem_cons_zero, List.setIfInBounds_toArray, List.set_cons_zero, List.set_cons_succ]
      refine wpAnyH_take (i := 13) (v := ?v46) rfl (by kernel_rfl) (by kernel_rfl) (by kernel_rfl) (fun _ _ _ h => h) (Or.inl ⟨by rfl, ?hy46⟩) hHeld ?rest46
      case hy46 =>
        intro w' hSw
        try dsimp only at hSw
        have hcz := hSw.2.1
        go_simp
        first | done | with_reducible rfl
      try simp only [Act.put, List.getElem_toArray, List.getElem_cons_succ, List.getElem_cons_zero, List.setIfInBounds_toArray, List.set_cons_zero, List.set_cons_succ]
      refine wpAnyH_take (i := 14) (v := ?v47) rfl (by kernel_rfl) (by kernel_rfl) (by kernel_rfl) (fun _ _ _ h => h) (Or.inl ⟨by rfl, ?hy47⟩) hHeld ?rest47
      case hy47 =>
        intro w' hSw
        try dsimp only at hSw
        have hcz := hSw.2.1
        go_simp
        first | done | with_reducible rfl
      try simp only [Act.put, List.getElem_toArray, List.getElem_cons_succ, List.getElem_cons_zero, List.setIfInBounds_toArray, List.set_cons_zero, List.set_cons_succ]
      refine wpAnyH_take (i := 15) (v := ?v48) rfl (by kernel_rfl) (by kernel_rfl) (by kernel_rfl) (fun _ _ _ h => h) (Or.inl ⟨by rfl, ?hy48⟩) hHeld ?rest48
      case hy48 =>
        intro w' hSw
        try dsimp only at hSw
        have hcz := hSw.2.1
        go_simp
        first | done | with_reducible rfl
      try simp only [Act.put, List.getElem_toArray, List.getElem_cons_succ, List.getElem_cons_zero, List.setIfInBounds_toArray, List.set_cons_zero, List.set_cons_succ]
      refine wpAnyH_done (by kernel_rfl) ?_ _
      refine OnlyN.normal ?_
      clear hHeld
      go_wp2_with (go_at_call 11; refine (same_n HS3.out HL3.out (by decide) (by decide) _ _ HR3.out).mono ?_; rintro e w4 ⟨rfl, b4⟩; have HBD4 := Lib.hid (HBD3.out.below b4); clear b4)
      go_roundw
      case rel => exact ⟨k + 1, by omega, by go_num, HBD4.out⟩
      case measure => simp [intOf]; omega
    · obtain rfl : k = l.length := by omega
      have e0 : decide ((l.length : Int) < (l.length : Int)) = false := decide_eq_false (by omega)
      have e1 : decide (l.length < l.length) = false := decide_eq_false (by omega)
      go_wp2_with (first
        | (go_at_call 9; refine (known_any _ (HT.out.below HBD.out.bel)).mono ?_; rintro e v9 ⟨rfl, b_⟩; have B9 := Lib.hid (HBD.out.bel.trans (b_.mono (HBD.out.bel).size)); clear b_))
      go_ret
      exact ⟨rfl, B9.out⟩
set_option maxRecDepth 8000 in
theorem walk (w : World) (hL : laidMetH Tryd.prog laidK w) (A : Option Addr) (l : List Int) (cap : Nat) (hr : RdZ w A l) (hzs : ∀ z ∈ l, z ≤ 9223372036854775807) (n : Int) (only : Bool) : Calls Tryd.prog 5 #[.slice A l.length cap, .int .i64 n, .bool only] w fun e w' => e = .returned (.bool true) ∧ Below w.heap.size w w' := by
  by_cases h1 : l.length ≤ 40
  · by_cases h2 : n ≤ 100
    · cases only with
      | true => exact walk_true w (tab_of hL) A l cap n hr hzs h1 h2
      | false => exact walk_false w (tab_of hL) A l cap n hr hzs h1 h2
    · exact walk_big w (tab_of hL) A l cap n only (.inr ⟨h1, by omega⟩)
  · exact walk_big w (tab_of hL) A l cap n only (.inl (by omega))
set_option maxRecDepth 100000 in
theorem lifted (os : Os) (started : os.Started) (H : Type) (enc : TypeId × Value → H) :
    ReturnsInHanded {} Tryd.checked os 5 .any (fun w args => (Rows.pagesBoundsSpec.pre enc Tryd.prog Tryd.f5 [] false w args ∧ laidMetH Tryd.prog laidK w) ∧ sizedMet enc Tryd.prog Tryd.f5 (OpenSpec.ofChange Rows.pagesBoundsSpec) false w args) (Rows.pagesBoundsSpec.post enc Tryd.prog Tryd.f5 false true false false) := by
  refine returnsInHanded_of_change_and (C := Tryd.checked) (X := fun w _ => laidMetH Tryd.prog laidK w) (fun _ _ _ hh h => h.of_heap hh) own started (by kernel_rfl) Tryd.func5
    (ChangeSpec.witness_shaped (enc := enc) (C := Tryd.checked) (os := os) (X := fun w _ => laidMetH Tryd.prog laidK w) false (World.doorLaid Tryd.prog 40 os) #[.slice none 0 0, .int .i64 0, .bool false] 8 rfl (World.shaped_of_RefB (by kernel_rfl) (by kernel_rfl)) (by kernel_rfl) (by kernel_rfl) (by kernel_rfl) (door_met os _)) ?_
  intro W base args ds gs before hval0 hW _ _ hL _
  have hval : ∀ (j : Nat) t v, Tryd.f5.params[j]? = some t → args[j]? = some v → Value.okWide Tryd.prog W .any base t v := hval0
  have hW' := hW
  obtain ⟨p, q, hA0, hV, rfl, hfz, hnd⟩ := hW
  have hA : DataW.TrodAll enc Tryd.prog W 0 (fun _ => true) true Tryd.f5.params.toList args.toList ds p := hA0
  rw [Tryd.params5] at hA hval
  obtain ⟨v0, vs0, d0, ds0, p0, q0, hargs, rfl, rfl, h0, t0⟩ := trodAll_cons hA
  obtain ⟨v1, vs1, d1, ds1, p1, q1, rfl, rfl, rfl, h1, t1⟩ := trodAll_cons t0
  obtain ⟨v2, vs2, d2, ds2, p2, q2, rfl, rfl, rfl, h2, t2⟩ := trodAll_cons t1
  obtain ⟨rfl, rfl, rfl⟩ := trodAll_nil t2
  obtain rfl : args = #[v0, v1, v2] := by cases args; simp_all
  obtain ⟨rfl, rfl⟩ := trodVars_none hV
  have k0 := h0
  have lt0 : ∀ x ∈ p0, x.block < W.heap.size := by obtain ⟨m, hm⟩ := k0; exact DataW.trod_lt m _ _ _ hm
  obtain ⟨A0, l0, c0, rfl, hr0, hz0⟩ := open_zs (hval 0 44 v0 rfl rfl) h0
  have k1 := h1
  have lt1 : ∀ x ∈ p1, x.block < W.heap.size := by obtain ⟨m, hm⟩ := k1; exact DataW.trod_lt m _ _ _ hm
  obtain ⟨a1, rfl, rfl, rfl, _⟩ := open_int Tryd.underlying3 (hval 1 3 v1 rfl rfl) h1
  have k2 := h2
  have lt2 : ∀ x ∈ p2, x.block < W.heap.size := by obtain ⟨m, hm⟩ := k2; exact DataW.trod_lt m _ _ _ hm
  obtain ⟨a2, rfl, rfl, rfl⟩ := open_bool Tryd.underlying4 (hval 2 4 v2 rfl rfl) h2
  clear hA0 hval0
  refine (walk W hL A0 l0 c0 hr0 hz0 a1 a2).mono fun e W' ⟨he, bel⟩ => ?_
  subst he
  exact ⟨_, rfl, _, _, _, [], _, [], hW', trodAll_mk1 (shut_bool Tryd.underlying4 _), (trodAll_cons_mk (Below.trod laidOut (by kernel_rfl) (of_decide_eq_true (by kernel_rfl)) k0 bel lt0) (trodAll_cons_mk (Below.trod laidOut (by kernel_rfl) (of_decide_eq_true (by kernel_rfl)) k1 bel lt1) (trodAll_cons_mk (Below.trod laidOut (by kernel_rfl) (of_decide_eq_true (by kernel_rfl)) k2 bel lt2) trodAll_mk0))), rfl, bel.frame _, fun h => by cases h⟩
theorem over : Rows.pagesBoundsRow.holds Tryd.pinned (OpenSpec.ofChange Rows.pagesBoundsSpec) :=
  OpenClaim.holds_of_wide 5 Tryd.f5 rfl rfl rfl rfl rfl rfl rfl ⟨rfl, rfl, rfl, rfl, rfl⟩ rfl rfl rfl rfl rfl (by kernel_rfl) Tryd.func5 (by kernel_rfl)
    (of_decide_eq_true (by kernel_rfl)) (by unfold Func.isWrapper; first | (rw [if_pos (by decide +kernel)]; kernel_rfl) | (rw [if_neg (by decide +kernel)]; exact ⟨rfl, rfl⟩))
    (fun os started H enc _ => lifted os started H enc)
set_option maxRecDepth 8000 in
theorem proved : Rows.PagesBoundsCardSaid :=
  Claim7.holds_tied_plain_at .later [] [.data] true Rows.pagesBoundsCard.stood.harness false
    over (fun _ h => by cases h) (by kernel_rfl) (fun _ h => by cases h) pagesBounds_row_tie rfl ⟨rfl, rfl⟩ (by kernel_rfl) rfl
    (fun f fn hf hfn => by
      obtain rfl : f = 5 := Option.some.inj ((show Tryd.prog.funcNamed "chatelaine/chatelainelaw10.PagesBounds" = some 5 by kernel_rfl).symm.trans hf) |>.symm
      obtain rfl : fn = Tryd.f5 := (Option.some.inj (Tryd.func5.symm.trans hfn)).symm
      exact ⟨by kernel_rfl, fun j t ht => by
        rw [Tryd.params5] at ht
        have hm : t ∈ [44, 3, 4] := by simpa using Array.mem_of_getElem? ht
        have hall : ([44, 3, 4].all fun u => !Tryd.prog.wantsStandIn u) = true := by kernel_rfl
        exact (show Tryd.prog.wantsStandIn t = false by simpa using List.all_eq_true.1 hall t hm)⟩)
    (by kernel_rfl)
end Go.Proofs.YtedlacdijkggjaaDoor.pagesBounds

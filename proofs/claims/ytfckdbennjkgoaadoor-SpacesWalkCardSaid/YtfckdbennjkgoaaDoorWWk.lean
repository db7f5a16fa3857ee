/- The law SpacesWalk: its walk, the document's Walk a premise. -/
import Derived.Test.YtfckdbennjkgoaaDoorWKn
import Derived.Test.YtfckdbennjkgoaaDoorWEq
import Derived.Test.YtfckdbennjkgoaaDoorWSame
import Derived.Test.YtfckdbennjkgoaaDoorWArgs
import Derived.Test.YtfckdbennjkgoaaDoorR05
namespace Go.Proofs.YtfckdbennjkgoaaDoor.spacesWalk
open Go.ChangeShapes Go.WideShapes Go.ChangeAt Go.RowKit
attribute [local go_sem] Oper.semAt_some
set_option maxRecDepth 8000 in
theorem ld_i6 (b off : Nat) (z : Int) (w : World) (h : w.cell? ⟨b, off, none⟩ = some (.int .i64 z)) : (loadVar 2 ⟨b, off, none⟩).run Tryd.prog w = .ok (.int .i64 z) w := by simp [go_sem, h]
set_option maxRecDepth 8000 in
set_option maxHeartbeats 1000000 in
theorem walk_no (w : World) (hT : Tab w) (A : Option Addr) (l : List Oj) (cap : Nat) (A2 : Option Addr) (xs : List Ky) (cap2 : Nat) (A3 : Option Addr) (zs : List Int) (cap3 : Nat) (hr : RdO w A l) (h : ¬ madeP l) : Calls Tryd.prog 3 #[.slice A l.length cap, .slice A2 xs.length cap2, .slice A3 zs.length cap3] w fun e w' => e = .returned (.bool true) ∧ Below w.heap.size w w' := by
  have HMD := Lib.hid (made_n (cap := cap) hr h)
  have HT := Lib.hid hT
  have HB := Lib.hid (Below.refl w.heap.size w)
  clear hT hr h
  go_enter Tryd.func3, Tryd.ntmps3
  go_wp2_with (first
    | (go_at_call 9; refine HMD.out.mono ?_; rintro e w1 ⟨rfl, b1⟩; have HB1 := Lib.hid (HB.out.trans b1); clear b1)
    | (go_at_call 10; refine (known_w _ (HT.out.below HB1.out)).mono ?_; rintro e v9 ⟨rfl, b_⟩; have B9 := Lib.hid (HB1.out.trans (b_.mono (HB1.out).size)); clear b_))
  go_ret
  exact ⟨rfl, B9.out⟩
set_option maxRecDepth 8000 in
set_option maxHeartbeats 1000000 in
theorem walk_big (w : World) (hT : Tab w) (A : Option Addr) (l : List Oj) (cap : Nat) (A2 : Option Addr) (xs : List Ky) (cap2 : Nat) (A3 : Option Addr) (zs : List Int) (cap3 : Nat) (hr : RdO w A l) (h : madeP l) (hb : 20 < xs.length ∨ 20 < zs.length) : Calls Tryd.prog 3 #[.slice A l.length cap, .slice A2 xs.length cap2, .slice A3 zs.length cap3] w fun e w' => e = .returned (.bool true) ∧ Below w.heap.size w w' := by
  have HMD := Lib.hid (made_w (cap := cap) hT hr h)
  have HT := Lib.hid hT
  have HB := Lib.hid (Below.refl w.heap.size w)
  clear hT hr h
  by_cases h2 : 20 < xs.length
  · have d0 : decide ((20 : Int) < (xs.length : Int)) = true := decide_eq_true (by omega)
    have d1 : decide (20 < xs.length) = true := decide_eq_true h2
    clear hb h2
    go_enter Tryd.func3, Tryd.ntmps3
    go_wp2_with (first
      | (go_at_call 9; refine HMD.out.mono ?_; rintro e w1 ⟨q, rfl, hq, ⟨A', cap', ps, hs⟩, b1⟩; have HB1 := Lib.hid (HB.out.trans b1); clear b1 hs hq)
      | (go_at_call 10; refine (known_w _ (HT.out.below HB1.out)).mono ?_; rintro e v9 ⟨rfl, b_⟩; have B9 := Lib.hid (HB1.out.trans (b_.mono (HB1.out).size)); clear b_))
    go_ret
    exact ⟨rfl, B9.out⟩
  · have d0 : decide ((20 : Int) < (xs.length : Int)) = false := decide_eq_false (by omega)
    have d1 : decide (20 < xs.length) = false := decide_eq_false h2
    have d2 : decide ((20 : Int) < (zs.length : Int)) = true := decide_eq_true (by omega)
    have d3 : decide (20 < zs.length) = true := decide_eq_true (by omega)
    clear hb h2
    go_enter Tryd.func3, Tryd.ntmps3
    go_wp2_with (first
      | (go_at_call 9; refine HMD.out.mono ?_; rintro e w1 ⟨q, rfl, hq, ⟨A', cap', ps, hs⟩, b1⟩; have HB1 := Lib.hid (HB.out.trans b1); clear b1 hs hq)
      | (go_at_call 10; refine (known_w _ (HT.out.below HB1.out)).mono ?_; rintro e v9 ⟨rfl, b_⟩; have B9 := Lib.hid (HB1.out.trans (b_.mono (HB1.out).size)); clear b_))
    go_ret
    exact ⟨rfl, B9.out⟩
set_option maxRecDepth 100000 in
set_option maxHeartbeats 8000000 in
theorem walk_ok (w : World) (hT : Tab w) (A : Option Addr) (l : List Oj) (cap : Nat) (A2 : Option Addr) (xs : List Ky) (cap2 : Nat) (A3 : Option Addr) (zs : List Int) (cap3 : Nat) (hr : RdO w A l) (hk : RdK w A2 xs) (hz : RdZ w A3 zs) (hi : ∀ z ∈ zs, i64 z) (h : madeP l) (h1 : xs.length ≤ 20) (h2 : zs.length ≤ 20)
    (hRW : ∀ (W : World) (x : Ky) (a : Int), RdO W A l → i64 a → Calls Tryd.prog 12 #[.slice A l.length cap, x.val, .int .i64 a] W fun e w' => e = .returned (.tuple #[(walkA l x a).1.val, (walkA l x a).2.1.val, .int .i64 (walkA l x a).2.2]) ∧ Below W.heap.size W w') : Calls Tryd.prog 3 #[.slice A l.length cap, .slice A2 xs.length cap2, .slice A3 zs.length cap3] w fun e w' => e = .returned (.bool true) ∧ Below w.heap.size w w' := by
  have HMD := Lib.hid (made_w (cap := cap) hT hr h)
  have HT := Lib.hid hT
  have HR := Lib.hid hr
  have HK := Lib.hid hk
  have HZ := Lib.hid hz
  have HI := Lib.hid hi
  have HRWA := Lib.hid hRW
  have HOK := Lib.hid h.2.2.2
  have HN0 := Lib.hid h.2.1
  have HNB := Lib.hid h.1
  have HB := Lib.hid (Below.refl w.heap.size w)
  have d0 : decide ((20 : Int) < (xs.length : Int)) = false := decide_eq_false (by omega)
  have d1 : decide (20 < xs.length) = false := decide_eq_false (by omega)
  have d2 : decide ((20 : Int) < (zs.length : Int)) = false := decide_eq_false (by omega)
  have d3 : decide (20 < zs.length) = false := decide_eq_false (by omega)
  obtain ⟨n, hn⟩ : ∃ n, n = l.length := ⟨_, rfl⟩
  have HLN := Lib.hid hn.symm
  rw [← hn] at HMD HRWA ⊢
  clear hT hr hk hz hi h hRW hn
  go_enter Tryd.func3, Tryd.ntmps3
  go_wp2_with (first
    | (go_at_call 9; refine HMD.out.mono ?_; rintro e w1 ⟨q, rfl, hq, ⟨A', cap', ps, hs⟩, b1⟩; have HB1 := Lib.hid (HB.out.trans b1); have HS1 := Lib.hid hs; have HT1 := Lib.hid (HT.out.below b1); have HR1 := Lib.hid (HR.out.below b1); have HK1 := Lib.hid (HK.out.keep b1); have HZ1 := Lib.hid (HZ.out.below b1); clear b1 hs hq HMD))
  clear HT HR HK HZ HB
  have HX0 := Lib.hid (Below.refl w1.heap.size w1)
  go_loopw [8, 9, 10, 11, 12, 13, 14, 15] (fun q8 _ _ _ _ _ _ _ wr => ∃ i : Nat, i ≤ xs.length ∧ q8 = .int .i64 i ∧ Below w1.heap.size w1 wr) (fun q8 _ _ _ _ _ _ _ _ => xs.length + 1 - (intOf q8).toNat)
  case atStart => exact ⟨0, by omega, rfl, HX0.out⟩
  case round =>
    obtain ⟨i, hi, rfl, hx⟩ := hrel
    clear HX0
    have HX := Lib.hid hx
    clear hx
    by_cases hlt : i < xs.length
    · obtain ⟨b, off, hA, hkx⟩ := HK1.out i hlt
      subst hA
      obtain ⟨x, hx⟩ : ∃ x, x = xs[i] := ⟨_, rfl⟩
      rw [← hx] at hkx
      have HKX := Lib.hid hkx
      clear hkx hx
      have e0 : decide ((i : Int) < (xs.length : Int)) = true := decide_eq_true (by omega)
      have e1 : decide (i < xs.length) = true := decide_eq_true hlt
      go_wp2_with fail
      go_loopw [9, 10, 11, 12, 13, 14, 15] (fun q9 _ _ _ _ _ _ wr => ∃ k : Nat, k ≤ zs.length ∧ q9 = .int .i64 k ∧ Below w1.heap.size w1 wr) (fun q9 _ _ _ _ _ _ _ => zs.length + 1 - (intOf q9).toNat)
      case atStart => exact ⟨0, by omega, rfl, HX.out⟩
      case round =>
        obtain ⟨k, hk, rfl, hx⟩ := hrel
        clear HX
        have HX := Lib.hid hx
        clear hx
        by_cases hlt2 : k < zs.length
        · obtain ⟨b2, off2, hA3, hkz⟩ := HZ1.out k hlt2
          subst hA3
          have hia : i64 zs[k] := HI.out _ (List.getElem_mem hlt2)
          obtain ⟨a, ha⟩ : ∃ a, a = zs[k] := ⟨_, rfl⟩
          rw [← ha] at hkz hia
          have HSX := Lib.hid (fun (W : World) (hb : Below w1.heap.size w1 W) => (⟨HKX.out.keep hb, (World.cell?_of_block (a := ⟨b2, off2 + k, none⟩) (hb.block b2 (cell_lt hkz))).trans hkz⟩ : KeyAt W b (off + i * 6) x ∧ W.cell? ⟨b2, off2 + k, none⟩ = some (.int .i64 a)))
          have hw0 := fun (W : World) (hb : Below w1.heap.size w1 W) => walk_all (HS1.out.below hb) HN0.out HOK.out (HT1.out.below hb) x a hia.2
          have hw1 := fun (W : World) (hb : Below w1.heap.size w1 W) => HRWA.out W x a (HR1.out.below hb) hia
          obtain ⟨fo, hfo⟩ : ∃ fo, fo = (walkA l x a).1 := ⟨_, rfl⟩
          obtain ⟨fa, hfa⟩ : ∃ fa, fa = (walkA l x a).2.1 := ⟨_, rfl⟩
          obtain ⟨m, hm⟩ : ∃ m, m = (walkA l x a).2.2 := ⟨_, rfl⟩
          rw [← hfo, ← hfa, ← hm] at hw0 hw1
          have HPW := Lib.hid hw0
          have HRW := Lib.hid hw1
          have f0 : decide ((k : Int) < (zs.length : Int)) = true := decide_eq_true (by omega)
          have f1 : decide (k < zs.length) = true := decide_eq_true hlt2
          clear hkz hia ha hfo hfa hm hw0 hw1
          go_wp2_with fail
          refine region_two11 (fun ac g h => (((((((((((((((((ac.put (some 44) (pv q)).put (some 45) (.slice (some ⟨b, off, none⟩) xs.length cap2)).put (some 46) (.int .i64 (i : Int))).put (some 47) (.pointer (some ⟨b, off + i * 6, none⟩))).put (some 48) (x.val)).put (some 49) (.slice (some ⟨b2, off2, none⟩) zs.length cap3)).put (some 50) (.int .i64 (k : Int))).put (some 51) (.pointer (some ⟨b2, off2 + k, none⟩))).put (some 52) (.int .i64 a)).put (some 53) (.tuple #[fo.val, fa.val, .int .i64 m])).put (some 43) (.tuple #[fo.val, fa.val, .int .i64 m])).put (some 54) (fo.val)).put (some 55) (fa.val)).put (some 56) (.int .i64 m)).put (some 10) (.pointer (some ⟨g, 0, none⟩))).put (some 11) (.pointer (some ⟨h, 0, none⟩))).put (some 12) (.int .i64 m))) (fun g h W => Below w1.heap.size w1 W ∧ Nx w1.heap.size W g 33 (Fo.cells fo).toArray ∧ Nx w1.heap.size W h 36 (Fa.cells fa).toArray) ?mkTwoW3 ?mkRestW3
          case mkTwoW3 =>
            refine wp_region_only (S := fun W => KeyAt W b (off + i * 6) x ∧ W.cell? ⟨b2, off2 + k, none⟩ = some (.int .i64 a)) (by kernel_rfl) (HSX.out _ (below_drew HX.out)) (fun hHeld => ?_)
            refine wpAnyH_take (i := 0) (v := ?v1) rfl (by kernel_rfl) (by kernel_rfl) (by kernel_rfl) (fun _ _ _ h => h) (Or.inl ⟨by rfl, ?hy1⟩) hHeld ?rest1
            case hy1 =>
              intro w' hSw
              try dsimp only at hSw
              go_simp
              first | done | with_reducible rfl
            try simp only [Act.put, List.getElem_toArray, List.getElem_cons_zero, List.setIfInBounds_toArray, List.set_cons_zero, List.set_cons_succ]
            refine wpAnyH_take (i := 1) (v := ?v2) rfl (by kernel_rfl) (by kernel_rfl) (by kernel_rfl) (fun _ _ _ h => h) (Or.inl ⟨by rfl, ?hy2⟩) hHeld ?rest2
            case hy2 =>
              intro w' hSw
              try dsimp only at hSw
              go_simp
              first | done | with_reducible rfl
            try simp only [Act.put, List.getElem_toArray, List.getElem_cons_succ, List.getElem_cons_zero, List.setIfInBounds_toArray, List.set_cons_zero, List.set_cons_succ]
            refine wpAnyH_take (i := 2) (v := ?v3) rfl (by kernel_rfl) (by kernel_rfl) (by kernel_rfl) (fun _ _ _ h => h) (Or.inl ⟨by rfl, ?hy3⟩) hHeld ?rest3
            case hy3 =>
              intro w' hSw
              try dsimp only at hSw
              go_simp
              first | done | with_reducible rfl
            try simp only [Act.put, List.getElem_toArray, List.getElem_cons_succ, List.getElem_cons_zero, List.setIfInBounds_toArray, List.set_cons_zero, List.set_cons_succ]
            refine wpAnyH_take (i := 3) (v := ?v4) rfl (by kernel_rfl) (by kernel_rfl) (by kernel_rfl) (fun _ _ _ h => h) (Or.inl ⟨by rfl, ?hy4⟩) hHeld ?rest4
            case hy4 =>
              intro w' hSw
              try dsimp only at hSw
              go_simp
              first | done | with_reducible rfl
            try simp only [Act.put, List.getElem_toArray, List.getElem_cons_succ, List.getElem_cons_zero, List.setIfInBounds_toArray, List.set_cons_zero, List.set_cons_succ]
            refine wpAnyH_take (i := 4) rfl (by kernel_rfl) (by kernel_rfl) (by kernel_rfl) (fun _ _ _ h => h) (y_kyG (by rfl) (.tmp 47) (by rfl) b (off + i * 6) (by rfl) x (fun _ h => h.1)) hHeld ?_
            try simp only [Act.put, List.getElem_toArray, List.getElem_cons_succ, List.getElem_cons_zero, List.setIfInBounds_toArray, List.set_cons_zero, List.set_cons_succ]
            refine wpAnyH_take (i := 5) (v := ?v5) rfl (by kernel_rfl) (by kernel_rfl) (by kernel_rfl) (fun _ _ _ h => h) (Or.inl ⟨by rfl, ?hy5⟩) hHeld ?rest5
            case hy5 =>
              intro w' hSw
              try dsimp only at hSw
              go_simp
              first | done | with_reducible rfl
            try simp only [Act.put, List.getElem_toArray, List.getElem_cons_succ, List.getElem_cons_zero, List.setIfInBounds_toArray, List.set_cons_zero, List.set_cons_succ]
            refine wpAnyH_take (i := 6) (v := ?v6) rfl (by kernel_rfl) (by kernel_rfl) (by kernel_rfl) (fun _ _ _ h => h) (Or.inl ⟨by rfl, ?hy6⟩) hHeld ?rest6
            case hy6 =>
              intro w' hSw
              try dsimp only at hSw
              go_simp
              first | done | with_reducible rfl
            try simp only [Act.put, List.getElem_toArray, List.getElem_cons_succ, List.getElem_cons_zero, List.setIfInBounds_toArray, List.set_cons_zero, List.set_cons_succ]
            refine wpAnyH_take (i := 7) (v := ?v7) rfl (by kernel_rfl) (by kernel_rfl) (by kernel_rfl) (fun _ _ _ h => h) (Or.inl ⟨by rfl, ?hy7⟩) hHeld ?rest7
            case hy7 =>
              intro w' hSw
              try dsimp only at hSw
              go_simp
              first | done | with_reducible rfl
            try simp only [Act.put, List.getElem_toArray, List.getElem_cons_succ, List.getElem_cons_zero, List.setIfInBounds_toArray, List.set_cons_zero, List.set_cons_succ]
            refine wpAnyH_take (i := 8) rfl (by kernel_rfl) (by kernel_rfl) (by kernel_rfl) (fun _ _ _ h => h) (y_cell (by rfl) 2 (.tmp 51) (by rfl) b2 (off2 + k) (by rfl) (.int .i64 a) (ld_i6 _ _ _) (fun _ h => h.2)) hHeld ?_
            try simp only [Act.put, List.getElem_toArray, List.getElem_cons_succ, List.getElem_cons_zero, List.setIfInBounds_toArray, List.set_cons_zero, List.set_cons_succ]
            refine wpAnyH_ready (rs := [9, 14, 15]) (by kernel_rfl) (by simp) ?_
            refine AllReadyH.cons (by rfl) (fun K hK => ?_) (AllReadyH.cons (by rfl) (fun K hK => ?_) (AllReadyH.cons (by rfl) (fun K hK => ?_) AllReadyH.nil))
            · go_simp
              refine (HPW.out _ (below_drew HX.out)).mono ?_
              rintro e_ rw1 ⟨rfl, c_⟩
              have RK1 := Lib.hid (Below.trans (below_drew HX.out) (c_.mono ((below_drew HX.out)).size))
              clear c_ hHeld
              go_wp2_with fail
              refine hK.out _ _ (HSX.out _ RK1.out) (fun hHeld => ?_)
              clear hK K
              try simp only [Act.put, List.getElem_toArray, List.getElem_cons_succ, List.getElem_cons_zero, List.setIfInBounds_toArray, List.set_cons_zero, List.set_cons_succ]
              refine wpAnyH_take (i := 10) (v := ?v8) rfl (by kernel_rfl) (by kernel_rfl) (by kernel_rfl) (fun _ _ _ h => h) (Or.inl ⟨by rfl, ?hy8⟩) hHeld ?rest8
              case hy8 =>
                intro w' hSw
                try dsimp only at hSw
                go_simp
                first | done | with_reducible rfl
              try simp only [Act.put, List.getElem_toArray, List.getElem_cons_succ, List.getElem_cons_zero, List.setIfInBounds_toArray, List.set_cons_zero, List.set_cons_succ]
              refine wpAnyH_take (i := 11) (v := ?v9) rfl (by kernel_rfl) (by kernel_rfl) (by kernel_rfl) (fun _ _ _ h => h) (Or.inl ⟨by rfl, ?hy9⟩) hHeld ?rest9
              case hy9 =>
                intro w' hSw
                try dsimp only at hSw
                go_simp
                first | done | with_reducible rfl
              try simp only [Act.put, List.getElem_toArray, List.getElem_cons_succ, List.getElem_cons_zero, List.setIfInBounds_toArray, List.set_cons_zero, List.set_cons_succ]
              refine wpAnyH_take (i := 12) (v := ?v10) rfl (by kernel_rfl) (by kernel_rfl) (by kernel_rfl) (fun _ _ _ h => h) (Or.inl ⟨by rfl, ?hy10⟩) hHeld ?rest10
              case hy10 =>
                intro w' hSw
                try dsimp only at hSw
                go_simp
                first | done | with_reducible rfl
              try simp only [Act.put, List.getElem_toArray, List.getElem_cons_succ, List.getElem_cons_zero, List.setIfInBounds_toArray, List.set_cons_zero, List.set_cons_succ]
              refine wpAnyH_take (i := 13) (v := ?v11) rfl (by kernel_rfl) (by kernel_rfl) (by kernel_rfl) (fun _ _ _ h => h) (Or.inl ⟨by rfl, ?hy11⟩) hHeld ?rest11
              case hy11 =>
                intro w' hSw
                try dsimp only at hSw
                go_simp
                first | done | with_reducible rfl
              try simp only [Act.put, List.getElem_toArray, List.getElem_cons_succ, List.getElem_cons_zero, List.setIfInBounds_toArray, List.set_cons_zero, List.set_cons_succ]
              refine wpAnyH_ready (rs := [14, 15]) (by kernel_rfl) (by simp) ?_
              refine AllReadyH.cons (by rfl) (fun K hK => ?_) (AllReadyH.cons (by rfl) (fun K hK => ?_) AllReadyH.nil)
              · refine step_allocFo rfl (by rfl) ?_
                intro g10 rw2 hg hw
                have RK2 : Hid (Below w1.heap.size w1 rw2) := Lib.hid (by subst hw; exact Below.alloc RK1.out (Below.size RK1.out) _)
                have RG10_2 : Hid (Nx w1.heap.size rw2 g10 33 zfo.cells.toArray) := Lib.hid ⟨by subst hg; exact Below.size RK1.out, by subst hw hg; exact Blk.new _ _ _⟩
                clear hg hw hHeld
                refine hK.out _ _ (HSX.out _ RK2.out) (fun hHeld => ?_)
                clear hK K
                try simp only [Act.put, List.getElem_toArray, List.getElem_cons_succ, List.getElem_cons_zero, List.setIfInBounds_toArray, List.set_cons_zero, List.set_cons_succ]
                refine wpAnyH_ready (rs := [15]) (by kernel_rfl) (by simp) ?_
                refine AllReadyH.cons (by rfl) (fun K hK => ?_) AllReadyH.nil
                · refine step_allocFa rfl (by rfl) ?_
                  intro g11 rw3 hg hw
                  have RK3 : Hid (Below w1.heap.size w1 rw3) := Lib.hid (by subst hw; exact Below.alloc RK2.out (Below.size RK2.out) _)
                  have RG10_3 : Hid (Nx w1.heap.size rw3 g10 33 zfo.cells.toArray) := Lib.hid (by subst hw; exact Nx.alloc RG10_2.out _)
                  have RNE10_11 : Hid (g10 ≠ g11) := Lib.hid (by have h1 := Blk.lt (Nx.blk RG10_2.out); subst hg; exact Nat.ne_of_lt h1)
                  have RG11_3 : Hid (Nx w1.heap.size rw3 g11 36 zfa.cells.toArray) := Lib.hid ⟨by subst hg; exact Below.size RK2.out, by subst hw hg; exact Blk.new _ _ _⟩
                  clear hg hw hHeld
                  refine hK.out _ _ (HSX.out _ RK3.out) (fun hHeld => ?_)
                  clear hK K
                  try simp only [Act.put, List.getElem_toArray, List.getElem_cons_succ, List.getElem_cons_zero, List.setIfInBounds_toArray, List.set_cons_zero, List.set_cons_succ]
                  refine wpAnyH_ready (rs := [16]) (by kernel_rfl) (by simp) ?_
                  refine AllReadyH.cons (by rfl) (fun K hK => ?_) AllReadyH.nil
                  refine step_store_big (Nx.blk RG10_3.out) rfl (.tmp 10) (.tmp 54) (ty := 33) (l := Fo.cells fo) rfl (by rfl) (by rfl) sizeFo rfl (Fo.one fo) ?_
                  have SK := Lib.hid (below_setRow RK3.out (Nx.ge RG10_3.out) (Fo.cells fo).toArray)
                  have S10 := Lib.hid (Nx.put RG10_3.out (Fo.cells fo).toArray)
                  have S11 := Lib.hid (Nx.set RG11_3.out (Ne.symm RNE10_11.out) (Fo.cells fo).toArray)
                  generalize rw3.setRow g10 (Fo.cells fo).toArray = SW at SK S10 S11 ⊢
                  refine hK.out _ _ (HSX.out _ SK.out) (fun hHeld => ?_)
                  clear hK K
                  try simp only [Act.put, List.getElem_toArray, List.getElem_cons_succ, List.getElem_cons_zero]
                  refine wpAnyH_ready (rs := [17]) (by kernel_rfl) (by simp) ?_
                  refine AllReadyH.cons (by rfl) (fun K hK => ?_) AllReadyH.nil
                  refine step_store_big S11.out.blk rfl (.tmp 11) (.tmp 55) (ty := 36) (l := Fa.cells fa) rfl (by rfl) (by rfl) sizeFa rfl (Fa.one fa) ?_
                  have UK := Lib.hid (below_setRow SK.out S11.out.ge (Fa.cells fa).toArray)
                  have U11 := Lib.hid (Nx.put S11.out (Fa.cells fa).toArray)
                  have U10 := Lib.hid (Nx.set S10.out RNE10_11.out (Fa.cells fa).toArray)
                  generalize SW.setRow g11 (Fa.cells fa).toArray = UW at UK U10 U11 ⊢
                  refine hK.out _ _ (HSX.out _ UK.out) (fun hHeld => ?_)
                  clear hK K
                  try simp only [Act.put, List.getElem_toArray, List.getElem_cons_succ, List.getElem_cons_zero]
                  refine wpAnyH_take (i := 18) (v := ?v12) rfl (by kernel_rfl) (by kernel_rfl) (by kernel_rfl) (fun _ _ _ h => h) (Or.inl ⟨by rfl, ?hy12⟩) hHeld ?rest12
                  case hy12 =>
                    intro w' hSw
                    try dsimp only at hSw
                    go_simp
                    first | done | with_reducible rfl
                  try simp only [Act.put, List.getElem_toArray, List.getElem_cons_succ, List.getElem_cons_zero, List.setIfInBounds_toArray, List.set_cons_zero, List.set_cons_succ]
                  refine wpAnyH_done (by kernel_rfl) ?_ _
                  refine OnlyN.normal ?_
                  exact ⟨g10, g11, rfl, rfl, UK.out, U10.out, U11.out⟩
              · refine step_allocFa rfl (by rfl) ?_
                intro g11 rw4 hg hw
                have RK4 : Hid (Below w1.heap.size w1 rw4) := Lib.hid (by subst hw; exact Below.alloc RK1.out (Below.size RK1.out) _)
                have RG11_4 : Hid (Nx w1.heap.size rw4 g11 36 zfa.cells.toArray) := Lib.hid ⟨by subst hg; exact Below.size RK1.out, by subst hw hg; exact Blk.new _ _ _⟩
                clear hg hw hHeld
                refine hK.out _ _ (HSX.out _ RK4.out) (fun hHeld => ?_)
                clear hK K
                try simp only [Act.put, List.getElem_toArray, List.getElem_cons_succ, List.getElem_cons_zero, List.setIfInBounds_toArray, List.set_cons_zero, List.set_cons_succ]
                refine wpAnyH_ready (rs := [14]) (by kernel_rfl) (by simp) ?_
                refine AllReadyH.cons (by rfl) (fun K hK => ?_) AllReadyH.nil
                · refine step_allocFo rfl (by rfl) ?_
                  intro g10 rw5 hg hw
                  have RK5 : Hid (Below w1.heap.size w1 rw5) := Lib.hid (by subst hw; exact Below.alloc RK4.out (Below.size RK4.out) _)
                  have RG11_5 : Hid (Nx w1.heap.size rw5 g11 36 zfa.cells.toArray) := Lib.hid (by subst hw; exact Nx.alloc RG11_4.out _)
                  have RNE11_10 : Hid (g11 ≠ g10) := Lib.hid (by have h1 := Blk.lt (Nx.blk RG11_4.out); subst hg; exact Nat.ne_of_lt h1)
                  have RG10_5 : Hid (Nx w1.heap.size rw5 g10 33 zfo.cells.toArray) := Lib.hid ⟨by subst hg; exact Below.size RK4.out, by subst hw hg; exact Blk.new _ _ _⟩
                  clear hg hw hHeld
                  refine hK.out _ _ (HSX.out _ RK5.out) (fun hHeld => ?_)
                  clear hK K
                  try simp only [Act.put, List.getElem_toArray, List.getElem_cons_succ, List.getElem_cons_zero, List.setIfInBounds_toArray, List.set_cons_zero, List.set_cons_succ]
                  refine wpAnyH_ready (rs := [16]) (by kernel_rfl) (by simp) ?_
                  refine AllReadyH.cons (by rfl) (fun K hK => ?_) AllReadyH.nil
                  refine step_store_big (Nx.blk RG10_5.out) rfl (.tmp 10) (.tmp 54) (ty := 33) (l := Fo.cells fo) rfl (by rfl) (by rfl) sizeFo rfl (Fo.one fo) ?_
                  have SK := Lib.hid (below_setRow RK5.out (Nx.ge RG10_5.out) (Fo.cells fo).toArray)
                  have S10 := Lib.hid (Nx.put RG10_5.out (Fo.cells fo).toArray)
                  have S11 := Lib.hid (Nx.set RG11_5.out RNE11_10.out (Fo.cells fo).toArray)
                  generalize rw5.setRow g10 (Fo.cells fo).toArray = SW at SK S11 S10 ⊢
                  refine hK.out _ _ (HSX.out _ SK.out) (fun hHeld => ?_)
                  clear hK K
                  try simp only [Act.put, List.getElem_toArray, List.getElem_cons_succ, List.getElem_cons_zero]
                  refine wpAnyH_ready (rs := [17]) (by kernel_rfl) (by simp) ?_
                  refine AllReadyH.cons (by rfl) (fun K hK => ?_) AllReadyH.nil
                  refine step_store_big S11.out.blk rfl (.tmp 11) (.tmp 55) (ty := 36) (l := Fa.cells fa) rfl (by rfl) (by rfl) sizeFa rfl (Fa.one fa) ?_
                  have UK := Lib.hid (below_setRow SK.out S11.out.ge (Fa.cells fa).toArray)
                  have U11 := Lib.hid (Nx.put S11.out (Fa.cells fa).toArray)
                  have U10 := Lib.hid (Nx.set S10.out (Ne.symm RNE11_10.out) (Fa.cells fa).toArray)
                  generalize SW.setRow g11 (Fa.cells fa).toArray = UW at UK U11 U10 ⊢
                  refine hK.out _ _ (HSX.out _ UK.out) (fun hHeld => ?_)
                  clear hK K
                  try simp only [Act.put, List.getElem_toArray, List.getElem_cons_succ, List.getElem_cons_zero]
                  refine wpAnyH_take (i := 18) (v := ?v13) rfl (by kernel_rfl) (by kernel_rfl) (by kernel_rfl) (fun _ _ _ h => h) (Or.inl ⟨by rfl, ?hy13⟩) hHeld ?rest13
                  case hy13 =>
                    intro w' hSw
                    try dsimp only at hSw
                    go_simp
                    first | done | with_reducible rfl
                  try simp only [Act.put, List.getElem_toArray, List.getElem_cons_succ, List.getElem_cons_zero, List.setIfInBounds_toArray, List.set_cons_zero, List.set_cons_succ]
                  refine wpAnyH_done (by kernel_rfl) ?_ _
                  refine OnlyN.normal ?_
                  exact ⟨g10, g11, rfl, rfl, UK.out, U10.out, U11.out⟩
            · refine step_allocFo rfl (by rfl) ?_
              intro g10 rw6 hg hw
              have RK6 : Hid (Below w1.heap.size w1 rw6) := Lib.hid (by subst hw; exact Below.alloc (below_drew HX.out) (Below.size (below_drew HX.out)) _)
              have RG10_6 : Hid (Nx w1.heap.size rw6 g10 33 zfo.cells.toArray) := Lib.hid ⟨by subst hg; exact Below.size (below_drew HX.out), by subst hw hg; exact Blk.new _ _ _⟩
              clear hg hw hHeld
              refine hK.out _ _ (HSX.out _ RK6.out) (fun hHeld => ?_)
              clear hK K
              try simp only [Act.put, List.getElem_toArray, List.getElem_cons_succ, List.getElem_cons_zero, List.setIfInBounds_toArray, List.set_cons_zero, List.set_cons_succ]
              refine wpAnyH_ready (rs := [9, 15]) (by kernel_rfl) (by simp) ?_
              refine AllReadyH.cons (by rfl) (fun K hK => ?_) (AllReadyH.cons (by rfl) (fun K hK => ?_) AllReadyH.nil)
              · go_simp
                refine (HPW.out _ RK6.out).mono ?_
                rintro e_ rw7 ⟨rfl, c_⟩
                have RK7 := Lib.hid (Below.trans RK6.out (c_.mono (RK6.out).size))
                have RG10_7 := Lib.hid (RG10_6.out.below c_)
                clear c_ hHeld
                go_wp2_with fail
                refine hK.out _ _ (HSX.out _ RK7.out) (fun hHeld => ?_)
                clear hK K
                try simp only [Act.put, List.getElem_toArray, List.getElem_cons_succ, List.getElem_cons_zero, List.setIfInBounds_toArray, List.set_cons_zero, List.set_cons_succ]
                refine wpAnyH_take (i := 10) (v := ?v14) rfl (by kernel_rfl) (by kernel_rfl) (by kernel_rfl) (fun _ _ _ h => h) (Or.inl ⟨by rfl, ?hy14⟩) hHeld ?rest14
                case hy14 =>
                  intro w' hSw
                  try dsimp only at hSw
                  go_simp
                  first | done | with_reducible rfl
                try simp only [Act.put, List.getElem_toArray, List.getElem_cons_succ, List.getElem_cons_zero, List.setIfInBounds_toArray, List.set_cons_zero, List.set_cons_succ]
                refine wpAnyH_take (i := 11) (v := ?v15) rfl (by kernel_rfl) (by kernel_rfl) (by kernel_rfl) (fun _ _ _ h => h) (Or.inl ⟨by rfl, ?hy15⟩) hHeld ?rest15
                case hy15 =>
                  intro w' hSw
                  try dsimp only at hSw
                  go_simp
                  first | done | with_reducible rfl
                try simp only [Act.put, List.getElem_toArray, List.getElem_cons_succ, List.getElem_cons_zero, List.setIfInBounds_toArray, List.set_cons_zero, List.set_cons_succ]
                refine wpAnyH_take (i := 12) (v := ?v16) rfl (by kernel_rfl) (by kernel_rfl) (by kernel_rfl) (fun _ _ _ h => h) (Or.inl ⟨by rfl, ?hy16⟩) hHeld ?rest16
                case hy16 =>
                  intro w' hSw
                  try dsimp only at hSw
                  go_simp
                  first | done | with_reducible rfl
                try simp only [Act.put, List.getElem_toArray, List.getElem_cons_succ, List.getElem_cons_zero, List.setIfInBounds_toArray, List.set_cons_zero, List.set_cons_succ]
                refine wpAnyH_take (i := 13) (v := ?v17) rfl (by kernel_rfl) (by kernel_rfl) (by kernel_rfl) (fun _ _ _ h => h) (Or.inl ⟨by rfl, ?hy17⟩) hHeld ?rest17
                case hy17 =>
                  intro w' hSw
                  try dsimp only at hSw
                  go_simp
                  first | done | with_reducible rfl
                try simp only [Act.put, List.getElem_toArray, List.getElem_cons_succ, List.getElem_cons_zero, List.setIfInBounds_toArray, List.set_cons_zero, List.set_cons_succ]
                refine wpAnyH_ready (rs := [15]) (by kernel_rfl) (by simp) ?_
                refine AllReadyH.cons (by rfl) (fun K hK => ?_) AllReadyH.nil
                · refine step_allocFa rfl (by rfl) ?_
                  intro g11 rw8 hg hw
                  have RK8 : Hid (Below w1.heap.size w1 rw8) := Lib.hid (by subst hw; exact Below.alloc RK7.out (Below.size RK7.out) _)
                  have RG10_8 : Hid (Nx w1.heap.size rw8 g10 33 zfo.cells.toArray) := Lib.hid (by subst hw; exact Nx.alloc RG10_7.out _)
                  have RNE10_11 : Hid (g10 ≠ g11) := Lib.hid (by have h1 := Blk.lt (Nx.blk RG10_7.out); subst hg; exact Nat.ne_of_lt h1)
                  have RG11_8 : Hid (Nx w1.heap.size rw8 g11 36 zfa.cells.toArray) := Lib.hid ⟨by subst hg; exact Below.size RK7.out, by subst hw hg; exact Blk.new _ _ _⟩
                  clear hg hw hHeld
                  refine hK.out _ _ (HSX.out _ RK8.out) (fun hHeld => ?_)
                  clear hK K
                  try simp only [Act.put, List.getElem_toArray, List.getElem_cons_succ, List.getElem_cons_zero, List.setIfInBounds_toArray, List.set_cons_zero, List.set_cons_succ]
                  refine wpAnyH_ready (rs := [16]) (by kernel_rfl) (by simp) ?_
                  refine AllReadyH.cons (by rfl) (fun K hK => ?_) AllReadyH.nil
                  refine step_store_big (Nx.blk RG10_8.out) rfl (.tmp 10) (.tmp 54) (ty := 33) (l := Fo.cells fo) rfl (by rfl) (by rfl) sizeFo rfl (Fo.one fo) ?_
                  have SK := Lib.hid (below_setRow RK8.out (Nx.ge RG10_8.out) (Fo.cells fo).toArray)
                  have S10 := Lib.hid (Nx.put RG10_8.out (Fo.cells fo).toArray)
                  have S11 := Lib.hid (Nx.set RG11_8.out (Ne.symm RNE10_11.out) (Fo.cells fo).toArray)
                  generalize rw8.setRow g10 (Fo.cells fo).toArray = SW at SK S10 S11 ⊢
                  refine hK.out _ _ (HSX.out _ SK.out) (fun hHeld => ?_)
                  clear hK K
                  try simp only [Act.put, List.getElem_toArray, List.getElem_cons_succ, List.getElem_cons_zero]
                  refine wpAnyH_ready (rs := [17]) (by kernel_rfl) (by simp) ?_
                  refine AllReadyH.cons (by rfl) (fun K hK => ?_) AllReadyH.nil
                  refine step_store_big S11.out.blk rfl (.tmp 11) (.tmp 55) (ty := 36) (l := Fa.cells fa) rfl (by rfl) (by rfl) sizeFa rfl (Fa.one fa) ?_
                  have UK := Lib.hid (below_setRow SK.out S11.out.ge (Fa.cells fa).toArray)
                  have U11 := Lib.hid (Nx.put S11.out (Fa.cells fa).toArray)
                  have U10 := Lib.hid (Nx.set S10.out RNE10_11.out (Fa.cells fa).toArray)
                  generalize SW.setRow g11 (Fa.cells fa).toArray = UW at UK U10 U11 ⊢
                  refine hK.out _ _ (HSX.out _ UK.out) (fun hHeld => ?_)
                  clear hK K
                  try simp only [Act.put, List.getElem_toArray, List.getElem_cons_succ, List.getElem_cons_zero]
                  refine wpAnyH_take (i := 18) (v := ?v18) rfl (by kernel_rfl) (by kernel_rfl) (by kernel_rfl) (fun _ _ _ h => h) (Or.inl ⟨by rfl, ?hy18⟩) hHeld ?rest18
                  case hy18 =>
                    intro w' hSw
                    try dsimp only at hSw
                    go_simp
                    first | done | with_reducible rfl
                  try simp only [Act.put, List.getElem_toArray, List.getElem_cons_succ, List.getElem_cons_zero, List.setIfInBounds_toArray, List.set_cons_zero, List.set_cons_succ]
                  refine wpAnyH_done (by kernel_rfl) ?_ _
                  refine OnlyN.normal ?_
                  exact ⟨g10, g11, rfl, rfl, UK.out, U10.out, U11.out⟩
              · refine step_allocFa rfl (by rfl) ?_
                intro g11 rw9 hg hw
                have RK9 : Hid (Below w1.heap.size w1 rw9) := Lib.hid (by subst hw; exact Below.alloc RK6.out (Below.size RK6.out) _)
                have RG10_9 : Hid (Nx w1.heap.size rw9 g10 33 zfo.cells.toArray) := Lib.hid (by subst hw; exact Nx.alloc RG10_6.out _)
                have RNE10_11 : Hid (g10 ≠ g11) := Lib.hid (by have h1 := Blk.lt (Nx.blk RG10_6.out); subst hg; exact Nat.ne_of_lt h1)
                have RG11_9 : Hid (Nx w1.heap.size rw9 g11 36 zfa.cells.toArray) := Lib.hid ⟨by subst hg; exact Below.size RK6.out, by subst hw hg; exact Blk.new _ _ _⟩
                clear hg hw hHeld
                refine hK.out _ _ (HSX.out _ RK9.out) (fun hHeld => ?_)
                clear hK K
                try simp only [Act.put, List.getElem_toArray, List.getElem_cons_succ, List.getElem_cons_zero, List.setIfInBounds_toArray, List.set_cons_zero, List.set_cons_succ]
                refine wpAnyH_ready (rs := [9]) (by kernel_rfl) (by simp) ?_
                refine AllReadyH.cons (by rfl) (fun K hK => ?_) AllReadyH.nil
                · go_simp
                  refine (HPW.out _ RK9.out).mono ?_
                  rintro e_ rw10 ⟨rfl, c_⟩
                  have RK10 := Lib.hid (Below.trans RK9.out (c_.mono (RK9.out).size))
                  have RG10_10 := Lib.hid (RG10_9.out.below c_)
                  have RG11_10 := Lib.hid (RG11_9.out.below c_)
                  clear c_ hHeld
                  go_wp2_with fail
                  refine hK.out _ _ (HSX.out _ RK10.out) (fun hHeld => ?_)
                  clear hK K
                  try simp only [Act.put, List.getElem_toArray, List.getElem_cons_succ, List.getElem_cons_zero, List.setIfInBounds_toArray, List.set_cons_zero, List.set_cons_succ]
                  refine wpAnyH_take (i := 10) (v := ?v19) rfl (by kernel_rfl) (by kernel_rfl) (by kernel_rfl) (fun _ _ _ h => h) (Or.inl ⟨by rfl, ?hy19⟩) hHeld ?rest19
                  case hy19 =>
                    intro w' hSw
                    try dsimp only at hSw
                    go_simp
                    first | done | with_reducible rfl
                  try simp only [Act.put, List.getElem_toArray, List.getElem_cons_succ, List.getElem_cons_zero, List.setIfInBounds_toArray, List.set_cons_zero, List.set_cons_succ]
                  refine wpAnyH_take (i := 11) (v := ?v20) rfl (by kernel_rfl) (by kernel_rfl) (by kernel_rfl) (fun _ _ _ h => h) (Or.inl ⟨by rfl, ?hy20⟩) hHeld ?rest20
                  case hy20 =>
                    intro w' hSw
                    try dsimp only at hSw
                    go_simp
                    first | done | with_reducible rfl
                  try simp only [Act.put, List.getElem_toArray, List.getElem_cons_succ, List.getElem_cons_zero, List.setIfInBounds_toArray, List.set_cons_zero, List.set_cons_succ]
                  refine wpAnyH_take (i := 12) (v := ?v21) rfl (by kernel_rfl) (by kernel_rfl) (by kernel_rfl) (fun _ _ _ h => h) (Or.inl ⟨by rfl, ?hy21⟩) hHeld ?rest21
                  case hy21 =>
                    intro w' hSw
                    try dsimp only at hSw
                    go_simp
                    first | done | with_reducible rfl
                  try simp only [Act.put, List.getElem_toArray, List.getElem_cons_succ, List.getElem_cons_zero, List.setIfInBounds_toArray, List.set_cons_zero, List.set_cons_succ]
                  refine wpAnyH_take (i := 13) (v := ?v22) rfl (by kernel_rfl) (by kernel_rfl) (by kernel_rfl) (fun _ _ _ h => h) (Or.inl ⟨by rfl, ?hy22⟩) hHeld ?rest22
                  case hy22 =>
                    intro w' hSw
                    try dsimp only at hSw
                    go_simp
                    first | done | with_reducible rfl
                  try simp only [Act.put, List.getElem_toArray, List.getElem_cons_succ, List.getElem_cons_zero, List.setIfInBounds_toArray, List.set_cons_zero, List.set_cons_succ]
                  refine wpAnyH_ready (rs := [16]) (by kernel_rfl) (by simp) ?_
                  refine AllReadyH.cons (by rfl) (fun K hK => ?_) AllReadyH.nil
                  refine step_store_big (Nx.blk RG10_10.out) rfl (.tmp 10) (.tmp 54) (ty := 33) (l := Fo.cells fo) rfl (by rfl) (by rfl) sizeFo rfl (Fo.one fo) ?_
                  have SK := Lib.hid (below_setRow RK10.out (Nx.ge RG10_10.out) (Fo.cells fo).toArray)
                  have S10 := Lib.hid (Nx.put RG10_10.out (Fo.cells fo).toArray)
                  have S11 := Lib.hid (Nx.set RG11_10.out (Ne.symm RNE10_11.out) (Fo.cells fo).toArray)
                  generalize rw10.setRow g10 (Fo.cells fo).toArray = SW at SK S10 S11 ⊢
                  refine hK.out _ _ (HSX.out _ SK.out) (fun hHeld => ?_)
                  clear hK K
                  try simp only [Act.put, List.getElem_toArray, List.getElem_cons_succ, List.getElem_cons_zero]
                  refine wpAnyH_ready (rs := [17]) (by kernel_rfl) (by simp) ?_
                  refine AllReadyH.cons (by rfl) (fun K hK => ?_) AllReadyH.nil
                  refine step_store_big S11.out.blk rfl (.tmp 11) (.tmp 55) (ty := 36) (l := Fa.cells fa) rfl (by rfl) (by rfl) sizeFa rfl (Fa.one fa) ?_
                  have UK := Lib.hid (below_setRow SK.out S11.out.ge (Fa.cells fa).toArray)
                  have U11 := Lib.hid (Nx.put S11.out (Fa.cells fa).toArray)
                  have U10 := Lib.hid (Nx.set S10.out RNE10_11.out (Fa.cells fa).toArray)
                  generalize SW.setRow g11 (Fa.cells fa).toArray = UW at UK U10 U11 ⊢
                  refine hK.out _ _ (HSX.out _ UK.out) (fun hHeld => ?_)
                  clear hK K
                  try simp only [Act.put, List.getElem_toArray, List.getElem_cons_succ, List.getElem_cons_zero]
                  refine wpAnyH_take (i := 18) (v := ?v23) rfl (by kernel_rfl) (by kernel_rfl) (by kernel_rfl) (fun _ _ _ h => h) (Or.inl ⟨by rfl, ?hy23⟩) hHeld ?rest23
                  case hy23 =>
                    intro w' hSw
                    try dsimp only at hSw
                    go_simp
                    first | done | with_reducible rfl
                  try simp only [Act.put, List.getElem_toArray, List.getElem_cons_succ, List.getElem_cons_zero, List.setIfInBounds_toArray, List.set_cons_zero, List.set_cons_succ]
                  refine wpAnyH_done (by kernel_rfl) ?_ _
                  refine OnlyN.normal ?_
                  exact ⟨g10, g11, rfl, rfl, UK.out, U10.out, U11.out⟩
            · refine step_allocFa rfl (by rfl) ?_
              intro g11 rw11 hg hw
              have RK11 : Hid (Below w1.heap.size w1 rw11) := Lib.hid (by subst hw; exact Below.alloc (below_drew HX.out) (Below.size (below_drew HX.out)) _)
              have RG11_11 : Hid (Nx w1.heap.size rw11 g11 36 zfa.cells.toArray) := Lib.hid ⟨by subst hg; exact Below.size (below_drew HX.out), by subst hw hg; exact Blk.new _ _ _⟩
              clear hg hw hHeld
              refine hK.out _ _ (HSX.out _ RK11.out) (fun hHeld => ?_)
              clear hK K
              try simp only [Act.put, List.getElem_toArray, List.getElem_cons_succ, List.getElem_cons_zero, List.setIfInBounds_toArray, List.set_cons_zero, List.set_cons_succ]
              refine wpAnyH_ready (rs := [9, 14]) (by kernel_rfl) (by simp) ?_
              refine AllReadyH.cons (by rfl) (fun K hK => ?_) (AllReadyH.cons (by rfl) (fun K hK => ?_) AllReadyH.nil)
              · go_simp
                refine (HPW.out _ RK11.out).mono ?_
                rintro e_ rw12 ⟨rfl, c_⟩
                have RK12 := Lib.hid (Below.trans RK11.out (c_.mono (RK11.out).size))
                have RG11_12 := Lib.hid (RG11_11.out.below c_)
                clear c_ hHeld
                go_wp2_with fail
                refine hK.out _ _ (HSX.out _ RK12.out) (fun hHeld => ?_)
                clear hK K
                try simp only [Act.put, List.getElem_toArray, List.getElem_cons_succ, List.getElem_cons_zero, List.setIfInBounds_toArray, List.set_cons_zero, List.set_cons_succ]
                refine wpAnyH_take (i := 10) (v := ?v24) rfl (by kernel_rfl) (by kernel_rfl) (by kernel_rfl) (fun _ _ _ h => h) (Or.inl ⟨by rfl, ?hy24⟩) hHeld ?rest24
                case hy24 =>
                  intro w' hSw
                  try dsimp only at hSw
                  go_simp
                  first | done | with_reducible rfl
                try simp only [Act.put, List.getElem_toArray, List.getElem_cons_succ, List.getElem_cons_zero, List.setIfInBounds_toArray, List.set_cons_zero, List.set_cons_succ]
                refine wpAnyH_take (i := 11) (v := ?v25) rfl (by kernel_rfl) (by kernel_rfl) (by kernel_rfl) (fun _ _ _ h => h) (Or.inl ⟨by rfl, ?hy25⟩) hHeld ?rest25
                case hy25 =>
                  intro w' hSw
                  try dsimp only at hSw
                  go_simp
                  first | done | with_reducible rfl
                try simp only [Act.put, List.getElem_toArray, List.getElem_cons_succ, List.getElem_cons_zero, List.setIfInBounds_toArray, List.set_cons_zero, List.set_cons_succ]
                refine wpAnyH_take (i := 12) (v := ?v26) rfl (by kernel_rfl) (by kernel_rfl) (by kernel_rfl) (fun _ _ _ h => h) (Or.inl ⟨by rfl, ?hy26⟩) hHeld ?rest26
                case hy26 =>
                  intro w' hSw
                  try dsimp only at hSw
                  go_simp
                  first | done | with_reducible rfl
                try simp only [Act.put, List.getElem_toArray, List.getElem_cons_succ, List.getElem_cons_zero, List.setIfInBounds_toArray, List.set_cons_zero, List.set_cons_succ]
                refine wpAnyH_take (i := 13) (v := ?v27) rfl (by kernel_rfl) (by kernel_rfl) (by kernel_rfl) (fun _ _ _ h => h) (Or.inl ⟨by rfl, ?hy27⟩) hHeld ?rest27
                case hy27 =>
                  intro w' hSw
                  try dsimp only at hSw
                  go_simp
                  first | done | with_reducible rfl
                try simp only [Act.put, List.getElem_toArray, List.getElem_cons_succ, List.getElem_cons_zero, List.setIfInBounds_toArray, List.set_cons_zero, List.set_cons_succ]
                refine wpAnyH_ready (rs := [14]) (by kernel_rfl) (by simp) ?_
                refine AllReadyH.cons (by rfl) (fun K hK => ?_) AllReadyH.nil
                · refine step_allocFo rfl (by rfl) ?_
                  intro g10 rw13 hg hw
                  have RK13 : Hid (Below w1.heap.size w1 rw13) := Lib.hid (by subst hw; exact Below.alloc RK12.out (Below.size RK12.out) _)
                  have RG11_13 : Hid (Nx w1.heap.size rw13 g11 36 zfa.cells.toArray) := Lib.hid (by subst hw; exact Nx.alloc RG11_12.out _)
                  have RNE11_10 : Hid (g11 ≠ g10) := Lib.hid (by have h1 := Blk.lt (Nx.blk RG11_12.out); subst hg; exact Nat.ne_of_lt h1)
                  have RG10_13 : Hid (Nx w1.heap.size rw13 g10 33 zfo.cells.toArray) := Lib.hid ⟨by subst hg; exact Below.size RK12.out, by subst hw hg; exact Blk.new _ _ _⟩
                  clear hg hw hHeld
                  refine hK.out _ _ (HSX.out _ RK13.out) (fun hHeld => ?_)
                  clear hK K
                  try simp only [Act.put, List.getElem_toArray, List.getElem_cons_succ, List.getElem_cons_zero, List.setIfInBounds_toArray, List.set_cons_zero, List.set_cons_succ]
                  refine wpAnyH_ready (rs := [16]) (by kernel_rfl) (by simp) ?_
                  refine AllReadyH.cons (by rfl) (fun K hK => ?_) AllReadyH.nil
                  refine step_store_big (Nx.blk RG10_13.out) rfl (.tmp 10) (.tmp 54) (ty := 33) (l := Fo.cells fo) rfl (by rfl) (by rfl) sizeFo rfl (Fo.one fo) ?_
                  have SK := Lib.hid (below_setRow RK13.out (Nx.ge RG10_13.out) (Fo.cells fo).toArray)
                  have S10 := Lib.hid (Nx.put RG10_13.out (Fo.cells fo).toArray)
                  have S11 := Lib.hid (Nx.set RG11_13.out RNE11_10.out (Fo.cells fo).toArray)
                  generalize rw13.setRow g10 (Fo.cells fo).toArray = SW at SK S11 S10 ⊢
                  refine hK.out _ _ (HSX.out _ SK.out) (fun hHeld => ?_)
                  clear hK K
                  try simp only [Act.put, List.getElem_toArray, List.getElem_cons_succ, List.getElem_cons_zero]
                  refine wpAnyH_ready (rs := [17]) (by kernel_rfl) (by simp) ?_
                  refine AllReadyH.cons (by rfl) (fun K hK => ?_) AllReadyH.nil
                  refine step_store_big S11.out.blk rfl (.tmp 11) (.tmp 55) (ty := 36) (l := Fa.cells fa) rfl (by rfl) (by rfl) sizeFa rfl (Fa.one fa) ?_
                  have UK := Lib.hid (below_setRow SK.out S11.out.ge (Fa.cells fa).toArray)
                  have U11 := Lib.hid (Nx.put S11.out (Fa.cells fa).toArray)
                  have U10 := Lib.hid (Nx.set S10.out (Ne.symm RNE11_10.out) (Fa.cells fa).toArray)
                  generalize SW.setRow g11 (Fa.cells fa).toArray = UW at UK U11 U10 ⊢
                  refine hK.out _ _ (HSX.out _ UK.out) (fun hHeld => ?_)
                  clear hK K
                  try simp only [Act.put, List.getElem_toArray, List.getElem_cons_succ, List.getElem_cons_zero]
                  refine wpAnyH_take (i := 18) (v := ?v28) rfl (by kernel_rfl) (by kernel_rfl) (by kernel_rfl) (fun _ _ _ h => h) (Or.inl ⟨by rfl, ?hy28⟩) hHeld ?rest28
                  case hy28 =>
                    intro w' hSw
                    try dsimp only at hSw
                    go_simp
                    first | done | with_reducible rfl
                  try simp only [Act.put, List.getElem_toArray, List.getElem_cons_succ, List.getElem_cons_zero, List.setIfInBounds_toArray, List.set_cons_zero, List.set_cons_succ]
                  refine wpAnyH_done (by kernel_rfl) ?_ _
                  refine OnlyN.normal ?_
                  exact ⟨g10, g11, rfl, rfl, UK.out, U10.out, U11.out⟩
              · refine step_allocFo rfl (by rfl) ?_
                intro g10 rw14 hg hw
                have RK14 : Hid (Below w1.heap.size w1 rw14) := Lib.hid (by subst hw; exact Below.alloc RK11.out (Below.size RK11.out) _)
                have RG11_14 : Hid (Nx w1.heap.size rw14 g11 36 zfa.cells.toArray) := Lib.hid (by subst hw; exact Nx.alloc RG11_11.out _)
                have RNE11_10 : Hid (g11 ≠ g10) := Lib.hid (by have h1 := Blk.lt (Nx.blk RG11_11.out); subst hg; exact Nat.ne_of_lt h1)
                have RG10_14 : Hid (Nx w1.heap.size rw14 g10 33 zfo.cells.toArray) := Lib.hid ⟨by subst hg; exact Below.size RK11.out, by subst hw hg; exact Blk.new _ _ _⟩
                clear hg hw hHeld
                refine hK.out _ _ (HSX.out _ RK14.out) (fun hHeld => ?_)
                clear hK K
                try simp only [Act.put, List.getElem_toArray, List.getElem_cons_succ, List.getElem_cons_zero, List.setIfInBounds_toArray, List.set_cons_zero, List.set_cons_succ]
                refine wpAnyH_ready (rs := [9]) (by kernel_rfl) (by simp) ?_
                refine AllReadyH.cons (by rfl) (fun K hK => ?_) AllReadyH.nil
                · go_simp
                  refine (HPW.out _ RK14.out).mono ?_
                  rintro e_ rw15 ⟨rfl, c_⟩
                  have RK15 := Lib.hid (Below.trans RK14.out (c_.mono (RK14.out).size))
                  have RG11_15 := Lib.hid (RG11_14.out.below c_)
                  have RG10_15 := Lib.hid (RG10_14.out.below c_)
                  clear c_ hHeld
                  go_wp2_with fail
                  refine hK.out _ _ (HSX.out _ RK15.out) (fun hHeld => ?_)
                  clear hK K
                  try simp only [Act.put, List.getElem_toArray, List.getElem_cons_succ, List.getElem_cons_zero, List.setIfInBounds_toArray, List.set_cons_zero, List.set_cons_succ]
                  refine wpAnyH_take (i := 10) (v := ?v29) rfl (by kernel_rfl) (by kernel_rfl) (by kernel_rfl) (fun _ _ _ h => h) (Or.inl ⟨by rfl, ?hy29⟩) hHeld ?rest29
                  case hy29 =>
                    intro w' hSw
                    try dsimp only at hSw
                    go_simp
                    first | done | with_reducible rfl
                  try simp only [Act.put, List.getElem_toArray, List.getElem_cons_succ, List.getElem_cons_zero, List.setIfInBounds_toArray, List.set_cons_zero, List.set_cons_succ]
                  refine wpAnyH_take (i := 11) (v := ?v30) rfl (by kernel_rfl) (by kernel_rfl) (by kernel_rfl) (fun _ _ _ h => h) (Or.inl ⟨by rfl, ?hy30⟩) hHeld ?rest30
                  case hy30 =>
                    intro w' hSw
                    try dsimp only at hSw
                    go_simp
                    first | done | with_reducible rfl
                  try simp only [Act.put, List.getElem_toArray, List.getElem_cons_succ, List.getElem_cons_zero, List.setIfInBounds_toArray, List.set_cons_zero, List.set_cons_succ]
                  refine wpAnyH_take (i := 12) (v := ?v31) rfl (by kernel_rfl) (by kernel_rfl) (by kernel_rfl) (fun _ _ _ h => h) (Or.inl ⟨by rfl, ?hy31⟩) hHeld ?rest31
                  case hy31 =>
                    intro w' hSw
                    try dsimp only at hSw
                    go_simp
                    first | done | with_reducible rfl
                  try simp only [Act.put, List.getElem_toArray, List.getElem_cons_succ, List.getElem_cons_zero, List.setIfInBounds_toArray, List.set_cons_zero, List.set_cons_succ]
                  refine wpAnyH_take (i := 13) (v := ?v32) rfl (by kernel_rfl) (by kernel_rfl) (by kernel_rfl) (fun _ _ _ h => h) (Or.inl ⟨by rfl, ?hy32⟩) hHeld ?rest32
                  case hy32 =>
                    intro w' hSw
                    try dsimp only at hSw
                    go_simp
                    first | done | with_reducible rfl
                  try simp only [Act.put, List.getElem_toArray, List.getElem_cons_succ, List.getElem_cons_zero, List.setIfInBounds_toArray, List.set_cons_zero, List.set_cons_succ]
                  refine wpAnyH_ready (rs := [16]) (by kernel_rfl) (by simp) ?_
                  refine AllReadyH.cons (by rfl) (fun K hK => ?_) AllReadyH.nil
                  refine step_store_big (Nx.blk RG10_15.out) rfl (.tmp 10) (.tmp 54) (ty := 33) (l := Fo.cells fo) rfl (by rfl) (by rfl) sizeFo rfl (Fo.one fo) ?_
                  have SK := Lib.hid (below_setRow RK15.out (Nx.ge RG10_15.out) (Fo.cells fo).toArray)
                  have S10 := Lib.hid (Nx.put RG10_15.out (Fo.cells fo).toArray)
                  have S11 := Lib.hid (Nx.set RG11_15.out RNE11_10.out (Fo.cells fo).toArray)
                  generalize rw15.setRow g10 (Fo.cells fo).toArray = SW at SK S11 S10 ⊢
                  refine hK.out _ _ (HSX.out _ SK.out) (fun hHeld => ?_)
                  clear hK K
                  try simp only [Act.put, List.getElem_toArray, List.getElem_cons_succ, List.getElem_cons_zero]
                  refine wpAnyH_ready (rs := [17]) (by kernel_rfl) (by simp) ?_
                  refine AllReadyH.cons (by rfl) (fun K hK => ?_) AllReadyH.nil
                  refine step_store_big S11.out.blk rfl (.tmp 11) (.tmp 55) (ty := 36) (l := Fa.cells fa) rfl (by rfl) (by rfl) sizeFa rfl (Fa.one fa) ?_
                  have UK := Lib.hid (below_setRow SK.out S11.out.ge (Fa.cells fa).toArray)
                  have U11 := Lib.hid (Nx.put S11.out (Fa.cells fa).toArray)
                  have U10 := Lib.hid (Nx.set S10.out (Ne.symm RNE11_10.out) (Fa.cells fa).toArray)
                  generalize SW.setRow g11 (Fa.cells fa).toArray = UW at UK U11 U10 ⊢
                  refine hK.out _ _ (HSX.out _ UK.out) (fun hHeld => ?_)
                  clear hK K
                  try simp only [Act.put, List.getElem_toArray, List.getElem_cons_succ, List.getElem_cons_zero]
                  refine wpAnyH_take (i := 18) (v := ?v33) rfl (by kernel_rfl) (by kernel_rfl) (by kernel_rfl) (fun _ _ _ h => h) (Or.inl ⟨by rfl, ?hy33⟩) hHeld ?rest33
                  case hy33 =>
                    intro w' hSw
                    try dsimp only at hSw
                    go_simp
                    first | done | with_reducible rfl
                  try simp only [Act.put, List.getElem_toArray, List.getElem_cons_succ, List.getElem_cons_zero, List.setIfInBounds_toArray, List.set_cons_zero, List.set_cons_succ]
                  refine wpAnyH_done (by kernel_rfl) ?_ _
                  refine OnlyN.normal ?_
                  exact ⟨g10, g11, rfl, rfl, UK.out, U10.out, U11.out⟩
          rintro g10 g11 W3 ⟨hk, h10, h11⟩
          have HXW3 := Lib.hid hk
          have H10 := Lib.hid h10
          have H11 := Lib.hid h11
          clear hk h10 h11
          simp only [Act.put, List.setIfInBounds_toArray, List.set_cons_zero, List.set_cons_succ]
          go_wp2_with fail
          refine region_two11 (fun ac g h => (((((((((((((((((ac.put (some 58) (.slice A n cap)).put (some 59) (.slice (some ⟨b, off, none⟩) xs.length cap2)).put (some 60) (.int .i64 (i : Int))).put (some 61) (.pointer (some ⟨b, off + i * 6, none⟩))).put (some 62) (x.val)).put (some 63) (.slice (some ⟨b2, off2, none⟩) zs.length cap3)).put (some 64) (.int .i64 (k : Int))).put (some 65) (.pointer (some ⟨b2, off2 + k, none⟩))).put (some 66) (.int .i64 a)).put (some 67) (.tuple #[fo.val, fa.val, .int .i64 m])).put (some 57) (.tuple #[fo.val, fa.val, .int .i64 m])).put (some 68) (fo.val)).put (some 69) (fa.val)).put (some 70) (.int .i64 m)).put (some 13) (.pointer (some ⟨g, 0, none⟩))).put (some 14) (.pointer (some ⟨h, 0, none⟩))).put (some 15) (.int .i64 m))) (fun g h W => Below w1.heap.size w1 W ∧ Nx w1.heap.size W g10 33 (Fo.cells fo).toArray ∧ Nx w1.heap.size W g11 36 (Fa.cells fa).toArray ∧ Nx w1.heap.size W g 33 (Fo.cells fo).toArray ∧ Nx w1.heap.size W h 36 (Fa.cells fa).toArray) ?mkTwoW4 ?mkRestW4
          case mkTwoW4 =>
            refine wp_region_only (S := fun W => KeyAt W b (off + i * 6) x ∧ W.cell? ⟨b2, off2 + k, none⟩ = some (.int .i64 a)) (by kernel_rfl) (HSX.out _ (below_drew HXW3.out)) (fun hHeld => ?_)
            refine wpAnyH_take (i := 0) (v := ?v34) rfl (by kernel_rfl) (by kernel_rfl) (by kernel_rfl) (fun _ _ _ h => h) (Or.inl ⟨by rfl, ?hy34⟩) hHeld ?rest34
            case hy34 =>
              intro w' hSw
              try dsimp only at hSw
              go_simp
              first | done | with_reducible rfl
            try simp only [Act.put, List.getElem_toArray, List.getElem_cons_zero, List.setIfInBounds_toArray, List.set_cons_zero, List.set_cons_succ]
            refine wpAnyH_take (i := 1) (v := ?v35) rfl (by kernel_rfl) (by kernel_rfl) (by kernel_rfl) (fun _ _ _ h => h) (Or.inl ⟨by rfl, ?hy35⟩) hHeld ?rest35
            case hy35 =>
              intro w' hSw
              try dsimp only at hSw
              go_simp
              first | done | with_reducible rfl
            try simp only [Act.put, List.getElem_toArray, List.getElem_cons_succ, List.getElem_cons_zero, List.setIfInBounds_toArray, List.set_cons_zero, List.set_cons_succ]
            refine wpAnyH_take (i := 2) (v := ?v36) rfl (by kernel_rfl) (by kernel_rfl) (by kernel_rfl) (fun _ _ _ h => h) (Or.inl ⟨by rfl, ?hy36⟩) hHeld ?rest36
            case hy36 =>
              intro w' hSw
              try dsimp only at hSw
              go_simp
              first | done | with_reducible rfl
            try simp only [Act.put, List.getElem_toArray, List.getElem_cons_succ, List.getElem_cons_zero, List.setIfInBounds_toArray, List.set_cons_zero, List.set_cons_succ]
            refine wpAnyH_take (i := 3) (v := ?v37) rfl (by kernel_rfl) (by kernel_rfl) (by kernel_rfl) (fun _ _ _ h => h) (Or.inl ⟨by rfl, ?hy37⟩) hHeld ?rest37
            case hy37 =>
              intro w' hSw
              try dsimp only at hSw
              go_simp
              first | done | with_reducible rfl
            try simp only [Act.put, List.getElem_toArray, List.getElem_cons_succ, List.getElem_cons_zero, List.setIfInBounds_toArray, List.set_cons_zero, List.set_cons_succ]
            refine wpAnyH_take (i := 4) rfl (by kernel_rfl) (by kernel_rfl) (by kernel_rfl) (fun _ _ _ h => h) (y_kyG (by rfl) (.tmp 61) (by rfl) b (off + i * 6) (by rfl) x (fun _ h => h.1)) hHeld ?_
            try simp only [Act.put, List.getElem_toArray, List.getElem_cons_succ, List.getElem_cons_zero, List.setIfInBounds_toArray, List.set_cons_zero, List.set_cons_succ]
            refine wpAnyH_take (i := 5) (v := ?v38) rfl (by kernel_rfl) (by kernel_rfl) (by kernel_rfl) (fun _ _ _ h => h) (Or.inl ⟨by rfl, ?hy38⟩) hHeld ?rest38
            case hy38 =>
              intro w' hSw
              try dsimp only at hSw
              go_simp
              first | done | with_reducible rfl
            try simp only [Act.put, List.getElem_toArray, List.getElem_cons_succ, List.getElem_cons_zero, List.setIfInBounds_toArray, List.set_cons_zero, List.set_cons_succ]
            refine wpAnyH_take (i := 6) (v := ?v39) rfl (by kernel_rfl) (by kernel_rfl) (by kernel_rfl) (fun _ _ _ h => h) (Or.inl ⟨by rfl, ?hy39⟩) hHeld ?rest39
            case hy39 =>
              intro w' hSw
              try dsimp only at hSw
              go_simp
              first | done | with_reducible rfl
            try simp only [Act.put, List.getElem_toArray, List.getElem_cons_succ, List.getElem_cons_zero, List.setIfInBounds_toArray, List.set_cons_zero, List.set_cons_succ]
            refine wpAnyH_take (i := 7) (v := ?v40) rfl (by kernel_rfl) (by kernel_rfl) (by kernel_rfl) (fun _ _ _ h => h) (Or.inl ⟨by rfl, ?hy40⟩) hHeld ?rest40
            case hy40 =>
              intro w' hSw
              try dsimp only at hSw
              go_simp
              first | done | with_reducible rfl
            try simp only [Act.put, List.getElem_toArray, List.getElem_cons_succ, List.getElem_cons_zero, List.setIfInBounds_toArray, List.set_cons_zero, List.set_cons_succ]
            refine wpAnyH_take (i := 8) rfl (by kernel_rfl) (by kernel_rfl) (by kernel_rfl) (fun _ _ _ h => h) (y_cell (by rfl) 2 (.tmp 65) (by rfl) b2 (off2 + k) (by rfl) (.int .i64 a) (ld_i6 _ _ _) (fun _ h => h.2)) hHeld ?_
            try simp only [Act.put, List.getElem_toArray, List.getElem_cons_succ, List.getElem_cons_zero, List.setIfInBounds_toArray, List.set_cons_zero, List.set_cons_succ]
            refine wpAnyH_ready (rs := [9, 14, 15]) (by kernel_rfl) (by simp) ?_
            refine AllReadyH.cons (by rfl) (fun K hK => ?_) (AllReadyH.cons (by rfl) (fun K hK => ?_) (AllReadyH.cons (by rfl) (fun K hK => ?_) AllReadyH.nil))
            · go_simp
              refine (HRW.out _ (below_drew HXW3.out)).mono ?_
              rintro e_ rw16 ⟨rfl, c_⟩
              have RK16 := Lib.hid (Below.trans (below_drew HXW3.out) (c_.mono ((below_drew HXW3.out)).size))
              have RG10_16 := Lib.hid (H10.out.drew.below c_)
              have RG11_16 := Lib.hid (H11.out.drew.below c_)
              clear c_ hHeld
              go_wp2_with fail
              refine hK.out _ _ (HSX.out _ RK16.out) (fun hHeld => ?_)
              clear hK K
              try simp only [Act.put, List.getElem_toArray, List.getElem_cons_succ, List.getElem_cons_zero, List.setIfInBounds_toArray, List.set_cons_zero, List.set_cons_succ]
              refine wpAnyH_take (i := 10) (v := ?v41) rfl (by kernel_rfl) (by kernel_rfl) (by kernel_rfl) (fun _ _ _ h => h) (Or.inl ⟨by rfl, ?hy41⟩) hHeld ?rest41
              case hy41 =>
                intro w' hSw
                try dsimp only at hSw
                go_simp
                first | done | with_reducible rfl
              try simp only [Act.put, List.getElem_toArray, List.getElem_cons_succ, List.getElem_cons_zero, List.setIfInBounds_toArray, List.set_cons_zero, List.set_cons_succ]
              refine wpAnyH_take (i := 11) (v := ?v42) rfl (by kernel_rfl) (by kernel_rfl) (by kernel_rfl) (fun _ _ _ h => h) (Or.inl ⟨by rfl, ?hy42⟩) hHeld ?rest42
              case hy42 =>
                intro w' hSw
                try dsimp only at hSw
                go_simp
                first | done | with_reducible rfl
              try simp only [Act.put, List.getElem_toArray, List.getElem_cons_succ, List.getElem_cons_zero, List.setIfInBounds_toArray, List.set_cons_zero, List.set_cons_succ]
              refine wpAnyH_take (i := 12) (v := ?v43) rfl (by kernel_rfl) (by kernel_rfl) (by kernel_rfl) (fun _ _ _ h => h) (Or.inl ⟨by rfl, ?hy43⟩) hHeld ?rest43
              case hy43 =>
                intro w' hSw
                try dsimp only at hSw
                go_simp
                first | done | with_reducible rfl
              try simp only [Act.put, List.getElem_toArray, List.getElem_cons_succ, List.getElem_cons_zero, List.setIfInBounds_toArray, List.set_cons_zero, List.set_cons_succ]
              refine wpAnyH_take (i := 13) (v := ?v44) rfl (by kernel_rfl) (by kernel_rfl) (by kernel_rfl) (fun _ _ _ h => h) (Or.inl ⟨by rfl, ?hy44⟩) hHeld ?rest44
              case hy44 =>
                intro w' hSw
                try dsimp only at hSw
                go_simp
                first | done | with_reducible rfl
              try simp only [Act.put, List.getElem_toArray, List.getElem_cons_succ, List.getElem_cons_zero, List.setIfInBounds_toArray, List.set_cons_zero, List.set_cons_succ]
              refine wpAnyH_ready (rs := [14, 15]) (by kernel_rfl) (by simp) ?_
              refine AllReadyH.cons (by rfl) (fun K hK => ?_) (AllReadyH.cons (by rfl) (fun K hK => ?_) AllReadyH.nil)
              · refine step_allocFo rfl (by rfl) ?_
                intro g13 rw17 hg hw
                have RK17 : Hid (Below w1.heap.size w1 rw17) := Lib.hid (by subst hw; exact Below.alloc RK16.out (Below.size RK16.out) _)
                have RG10_17 : Hid (Nx w1.heap.size rw17 g10 33 (Fo.cells fo).toArray) := Lib.hid (by subst hw; exact Nx.alloc RG10_16.out _)
                have RNE10_13 : Hid (g10 ≠ g13) := Lib.hid (by have h1 := Blk.lt (Nx.blk RG10_16.out); subst hg; exact Nat.ne_of_lt h1)
                have RG11_17 : Hid (Nx w1.heap.size rw17 g11 36 (Fa.cells fa).toArray) := Lib.hid (by subst hw; exact Nx.alloc RG11_16.out _)
                have RNE11_13 : Hid (g11 ≠ g13) := Lib.hid (by have h1 := Blk.lt (Nx.blk RG11_16.out); subst hg; exact Nat.ne_of_lt h1)
                have RG13_17 : Hid (Nx w1.heap.size rw17 g13 33 zfo.cells.toArray) := Lib.hid ⟨by subst hg; exact Below.size RK16.out, by subst hw hg; exact Blk.new _ _ _⟩
                clear hg hw hHeld
                refine hK.out _ _ (HSX.out _ RK17.out) (fun hHeld => ?_)
                clear hK K
                try simp only [Act.put, List.getElem_toArray, List.getElem_cons_succ, List.getElem_cons_zero, List.setIfInBounds_toArray, List.set_cons_zero, List.set_cons_succ]
                refine wpAnyH_ready (rs := [15]) (by kernel_rfl) (by simp) ?_
                refine AllReadyH.cons (by rfl) (fun K hK => ?_) AllReadyH.nil
                · refine step_allocFa rfl (by rfl) ?_
                  intro g14 rw18 hg hw
                  have RK18 : Hid (Below w1.heap.size w1 rw18) := Lib.hid (by subst hw; exact Below.alloc RK17.out (Below.size RK17.out) _)
                  have RG10_18 : Hid (Nx w1.heap.size rw18 g10 33 (Fo.cells fo).toArray) := Lib.hid (by subst hw; exact Nx.alloc RG10_17.out _)
                  have RNE10_14 : Hid (g10 ≠ g14) := Lib.hid (by have h1 := Blk.lt (Nx.blk RG10_17.out); subst hg; exact Nat.ne_of_lt h1)
                  have RG11_18 : Hid (Nx w1.heap.size rw18 g11 36 (Fa.cells fa).toArray) := Lib.hid (by subst hw; exact Nx.alloc RG11_17.out _)
                  have RNE11_14 : Hid (g11 ≠ g14) := Lib.hid (by have h1 := Blk.lt (Nx.blk RG11_17.out); subst hg; exact Nat.ne_of_lt h1)
                  have RG13_18 : Hid (Nx w1.heap.size rw18 g13 33 zfo.cells.toArray) := Lib.hid (by subst hw; exact Nx.alloc RG13_17.out _)
                  have RNE13_14 : Hid (g13 ≠ g14) := Lib.hid (by have h1 := Blk.lt (Nx.blk RG13_17.out); subst hg; exact Nat.ne_of_lt h1)
                  have RG14_18 : Hid (Nx w1.heap.size rw18 g14 36 zfa.cells.toArray) := Lib.hid ⟨by subst hg; exact Below.size RK17.out, by subst hw hg; exact Blk.new _ _ _⟩
                  clear hg hw hHeld
                  refine hK.out _ _ (HSX.out _ RK18.out) (fun hHeld => ?_)
                  clear hK K
                  try simp only [Act.put, List.getElem_toArray, List.getElem_cons_succ, List.getElem_cons_zero, List.setIfInBounds_toArray, List.set_cons_zero, List.set_cons_succ]
                  refine wpAnyH_ready (rs := [16]) (by kernel_rfl) (by simp) ?_
                  refine AllReadyH.cons (by rfl) (fun K hK => ?_) AllReadyH.nil
                  refine step_store_big (Nx.blk RG13_18.out) rfl (.tmp 13) (.tmp 68) (ty := 33) (l := Fo.cells fo) rfl (by rfl) (by rfl) sizeFo rfl (Fo.one fo) ?_
                  have SK := Lib.hid (below_setRow RK18.out (Nx.ge RG13_18.out) (Fo.cells fo).toArray)
                  have S13 := Lib.hid (Nx.put RG13_18.out (Fo.cells fo).toArray)
                  have S10 := Lib.hid (Nx.set RG10_18.out RNE10_13.out (Fo.cells fo).toArray)
                  have S11 := Lib.hid (Nx.set RG11_18.out RNE11_13.out (Fo.cells fo).toArray)
                  have S14 := Lib.hid (Nx.set RG14_18.out (Ne.symm RNE13_14.out) (Fo.cells fo).toArray)
                  generalize rw18.setRow g13 (Fo.cells fo).toArray = SW at SK S10 S11 S13 S14 ⊢
                  refine hK.out _ _ (HSX.out _ SK.out) (fun hHeld => ?_)
                  clear hK K
                  try simp only [Act.put, List.getElem_toArray, List.getElem_cons_succ, List.getElem_cons_zero]
                  refine wpAnyH_ready (rs := [17]) (by kernel_rfl) (by simp) ?_
                  refine AllReadyH.cons (by rfl) (fun K hK => ?_) AllReadyH.nil
                  refine step_store_big S14.out.blk rfl (.tmp 14) (.tmp 69) (ty := 36) (l := Fa.cells fa) rfl (by rfl) (by rfl) sizeFa rfl (Fa.one fa) ?_
                  have UK := Lib.hid (below_setRow SK.out S14.out.ge (Fa.cells fa).toArray)
                  have U14 := Lib.hid (Nx.put S14.out (Fa.cells fa).toArray)
                  have U10 := Lib.hid (Nx.set S10.out RNE10_14.out (Fa.cells fa).toArray)
                  have U11 := Lib.hid (Nx.set S11.out RNE11_14.out (Fa.cells fa).toArray)
                  have U13 := Lib.hid (Nx.set S13.out RNE13_14.out (Fa.cells fa).toArray)
                  generalize SW.setRow g14 (Fa.cells fa).toArray = UW at UK U10 U11 U13 U14 ⊢
                  refine hK.out _ _ (HSX.out _ UK.out) (fun hHeld => ?_)
                  clear hK K
                  try simp only [Act.put, List.getElem_toArray, List.getElem_cons_succ, List.getElem_cons_zero]
                  refine wpAnyH_take (i := 18) (v := ?v45) rfl (by kernel_rfl) (by kernel_rfl) (by kernel_rfl) (fun _ _ _ h => h) (Or.inl ⟨by rfl, ?hy45⟩) hHeld ?rest45
                  case hy45 =>
                    intro w' hSw
                    try dsimp only at hSw
                    go_simp
                    first | done | with_reducible rfl
                  try simp only [Act.put, List.getElem_toArray, List.getElem_cons_succ, List.getElem_cons_zero, List.setIfInBounds_toArray, List.set_cons_zero, List.set_cons_succ]
                  refine wpAnyH_done (by kernel_rfl) ?_ _
                  refine OnlyN.normal ?_
                  exact ⟨g13, g14, rfl, rfl, UK.out, U10.out, U11.out, U13.out, U14.out⟩
              · refine step_allocFa rfl (by rfl) ?_
                intro g14 rw19 hg hw
                have RK19 : Hid (Below w1.heap.size w1 rw19) := Lib.hid (by subst hw; exact Below.alloc RK16.out (Below.size RK16.out) _)
                have RG10_19 : Hid (Nx w1.heap.size rw19 g10 33 (Fo.cells fo).toArray) := Lib.hid (by subst hw; exact Nx.alloc RG10_16.out _)
                have RNE10_14 : Hid (g10 ≠ g14) := Lib.hid (by have h1 := Blk.lt (Nx.blk RG10_16.out); subst hg; exact Nat.ne_of_lt h1)
                have RG11_19 : Hid (Nx w1.heap.size rw19 g11 36 (Fa.cells fa).toArray) := Lib.hid (by subst hw; exact Nx.alloc RG11_16.out _)
                have RNE11_14 : Hid (g11 ≠ g14) := Lib.hid (by have h1 := Blk.lt (Nx.blk RG11_16.out); subst hg; exact Nat.ne_of_lt h1)
                have RG14_19 : Hid (Nx w1.heap.size rw19 g14 36 zfa.cells.toArray) := Lib.hid ⟨by subst hg; exact Below.size RK16.out, by subst hw hg; exact Blk.new _ _ _⟩
                clear hg hw hHeld
                refine hK.out _ _ (HSX.out _ RK19.out) (fun hHeld => ?_)
                clear hK K
                try simp only [Act.put, List.getElem_toArray, List.getElem_cons_succ, List.getElem_cons_zero, List.setIfInBounds_toArray, List.set_cons_zero, List.set_cons_succ]
                refine wpAnyH_ready (rs := [14]) (by kernel_rfl) (by simp) ?_
                refine AllReadyH.cons (by rfl) (fun K hK => ?_) AllReadyH.nil
                · refine step_allocFo rfl (by rfl) ?_
                  intro g13 rw20 hg hw
                  have RK20 : Hid (Below w1.heap.size w1 rw20) := Lib.hid (by subst hw; exact Below.alloc RK19.out (Below.size RK19.out) _)
                  have RG10_20 : Hid (Nx w1.heap.size rw20 g10 33 (Fo.cells fo).toArray) := Lib.hid (by subst hw; exact Nx.alloc RG10_19.out _)
                  have RNE10_13 : Hid (g10 ≠ g13) := Lib.hid (by have h1 := Blk.lt (Nx.blk RG10_19.out); subst hg; exact Nat.ne_of_lt h1)
                  have RG11_20 : Hid (Nx w1.heap.size rw20 g11 36 (Fa.cells fa).toArray) := Lib.hid (by subst hw; exact Nx.alloc RG11_19.out _)
                  have RNE11_13 : Hid (g11 ≠ g13) := Lib.hid (by have h1 := Blk.lt (Nx.blk RG11_19.out); subst hg; exact Nat.ne_of_lt h1)
                  have RG14_20 : Hid (Nx w1.heap.size rw20 g14 36 zfa.cells.toArray) := Lib.hid (by subst hw; exact Nx.alloc RG14_19.out _)
                  have RNE14_13 : Hid (g14 ≠ g13) := Lib.hid (by have h1 := Blk.lt (Nx.blk RG14_19.out); subst hg; exact Nat.ne_of_lt h1)
                  have RG13_20 : Hid (Nx w1.heap.size rw20 g13 33 zfo.cells.toArray) := Lib.hid ⟨by subst hg; exact Below.size RK19.out, by subst hw hg; exact Blk.new _ _ _⟩
                  clear hg hw hHeld
                  refine hK.out _ _ (HSX.out _ RK20.out) (fun hHeld => ?_)
                  clear hK K
                  try simp only [Act.put, List.getElem_toArray, List.getElem_cons_succ, List.getElem_cons_zero, List.setIfInBounds_toArray, List.set_cons_zero, List.set_cons_succ]
                  refine wpAnyH_ready (rs := [16]) (by kernel_rfl) (by simp) ?_
                  refine AllReadyH.cons (by rfl) (fun K hK => ?_) AllReadyH.nil
                  refine step_store_big (Nx.blk RG13_20.out) rfl (.tmp 13) (.tmp 68) (ty := 33) (l := Fo.cells fo) rfl (by rfl) (by rfl) sizeFo rfl (Fo.one fo) ?_
                  have SK := Lib.hid (below_setRow RK20.out (Nx.ge RG13_20.out) (Fo.cells fo).toArray)
                  have S13 := Lib.hid (Nx.put RG13_20.out (Fo.cells fo).toArray)
                  have S10 := Lib.hid (Nx.set RG10_20.out RNE10_13.out (Fo.cells fo).toArray)
                  have S11 := Lib.hid (Nx.set RG11_20.out RNE11_13.out (Fo.cells fo).toArray)
                  have S14 := Lib.hid (Nx.set RG14_20.out RNE14_13.out (Fo.cells fo).toArray)
                  generalize rw20.setRow g13 (Fo.cells fo).toArray = SW at SK S10 S11 S14 S13 ⊢
                  refine hK.out _ _ (HSX.out _ SK.out) (fun hHeld => ?_)
                  clear hK K
                  try simp only [Act.put, List.getElem_toArray, List.getElem_cons_succ, List.getElem_cons_zero]
                  refine wpAnyH_ready (rs := [17]) (by kernel_rfl) (by simp) ?_
                  refine AllReadyH.cons (by rfl) (fun K hK => ?_) AllReadyH.nil
                  refine step_store_big S14.out.blk rfl (.tmp 14) (.tmp 69) (ty := 36) (l := Fa.cells fa) rfl (by rfl) (by rfl) sizeFa rfl (Fa.one fa) ?_
                  have UK := Lib.hid (below_setRow SK.out S14.out.ge (Fa.cells fa).toArray)
                  have U14 := Lib.hid (Nx.put S14.out (Fa.cells fa).toArray)
                  have U10 := Lib.hid (Nx.set S10.out RNE10_14.out (Fa.cells fa).toArray)
                  have U11 := Lib.hid (Nx.set S11.out RNE11_14.out (Fa.cells fa).toArray)
                  have U13 := Lib.hid (Nx.set S13.out (Ne.symm RNE14_13.out) (Fa.cells fa).toArray)
                  generalize SW.setRow g14 (Fa.cells fa).toArray = UW at UK U10 U11 U14 U13 ⊢
                  refine hK.out _ _ (HSX.out _ UK.out) (fun hHeld => ?_)
                  clear hK K
                  try simp only [Act.put, List.getElem_toArray, List.getElem_cons_succ, List.getElem_cons_zero]
                  refine wpAnyH_take (i := 18) (v := ?v46) rfl (by kernel_rfl) (by kernel_rfl) (by kernel_rfl) (fun _ _ _ h => h) (Or.inl ⟨by rfl, ?hy46⟩) hHeld ?rest46
                  case hy46 =>
                    intro w' hSw
                    try dsimp only at hSw
                    go_simp
                    first | done | with_reducible rfl
                  try simp only [Act.put, List.getElem_toArray, List.getElem_cons_succ, List.getElem_cons_zero, List.setIfInBounds_toArray, List.set_cons_zero, List.set_cons_succ]
                  refine wpAnyH_done (by kernel_rfl) ?_ _
                  refine OnlyN.normal ?_
                  exact ⟨g13, g14, rfl, rfl, UK.out, U10.out, U11.out, U13.out, U14.out⟩
            · refine step_allocFo rfl (by rfl) ?_
              intro g13 rw21 hg hw
              have RK21 : Hid (Below w1.heap.size w1 rw21) := Lib.hid (by subst hw; exact Below.alloc (below_drew HXW3.out) (Below.size (below_drew HXW3.out)) _)
              have RG10_21 : Hid (Nx w1.heap.size rw21 g10 33 (Fo.cells fo).toArray) := Lib.hid (by subst hw; exact Nx.alloc H10.out.drew _)
              have RNE10_13 : Hid (g10 ≠ g13) := Lib.hid (by have h1 := Blk.lt (Nx.blk H10.out.drew); subst hg; exact Nat.ne_of_lt h1)
              have RG11_21 : Hid (Nx w1.heap.size rw21 g11 36 (Fa.cells fa).toArray) := Lib.hid (by subst hw; exact Nx.alloc H11.out.drew _)
              have RNE11_13 : Hid (g11 ≠ g13) := Lib.hid (by have h1 := Blk.lt (Nx.blk H11.out.drew); subst hg; exact Nat.ne_of_lt h1)
              have RG13_21 : Hid (Nx w1.heap.size rw21 g13 33 zfo.cells.toArray) := Lib.hid ⟨by subst hg; exact Below.size (below_drew HXW3.out), by subst hw hg; exact Blk.new _ _ _⟩
              clear hg hw hHeld
              refine hK.out _ _ (HSX.out _ RK21.out) (fun hHeld => ?_)
              clear hK K
              try simp only [Act.put, List.getElem_toArray, List.getElem_cons_succ, List.getElem_cons_zero, List.setIfInBounds_toArray, List.set_cons_zero, List.set_cons_succ]
              refine wpAnyH_ready (rs := [9, 15]) (by kernel_rfl) (by simp) ?_
              refine AllReadyH.cons (by rfl) (fun K hK => ?_) (AllReadyH.cons (by rfl) (fun K hK => ?_) AllReadyH.nil)
              · go_simp
                refine (HRW.out _ RK21.out).mono ?_
                rintro e_ rw22 ⟨rfl, c_⟩
                have RK22 := Lib.hid (Below.trans RK21.out (c_.mono (RK21.out).size))
                have RG10_22 := Lib.hid (RG10_21.out.below c_)
                have RG11_22 := Lib.hid (RG11_21.out.below c_)
                have RG13_22 := Lib.hid (RG13_21.out.below c_)
                clear c_ hHeld
                go_wp2_with fail
                refine hK.out _ _ (HSX.out _ RK22.out) (fun hHeld => ?_)
                clear hK K
                try simp only [Act.put, List.getElem_toArray, List.getElem_cons_succ, List.getElem_cons_zero, List.setIfInBounds_toArray, List.set_cons_zero, List.set_cons_succ]
                refine wpAnyH_take (i := 10) (v := ?v47) rfl (by kernel_rfl) (by kernel_rfl) (by kernel_rfl) (fun _ _ _ h => h) (Or.inl ⟨by rfl, ?hy47⟩) hHeld ?rest47
                case hy47 =>
                  intro w' hSw
                  try dsimp only at hSw
                  go_simp
                  first | done | with_reducible rfl
                try simp only [Act.put, List.getElem_toArray, List.getElem_cons_succ, List.getElem_cons_zero, List.setIfInBounds_toArray, List.set_cons_zero, List.set_cons_succ]
                refine wpAnyH_take (i := 11) (v := ?v48) rfl (by kernel_rfl) (by kernel_rfl) (by kernel_rfl) (fun _ _ _ h => h) (Or.inl ⟨by rfl, ?hy48⟩) hHeld ?rest48
                case hy48 =>
                  intro w' hSw
                  try dsimp only at hSw
                  go_simp
                  first | done | with_reducible rfl
                try simp only [Act.put, List.getElem_toArray, List.getElem_cons_succ, List.getElem_cons_zero, List.setIfInBounds_toArray, List.set_cons_zero, List.set_cons_succ]
                refine wpAnyH_take (i := 12) (v := ?v49) rfl (by kernel_rfl) (by kernel_rfl) (by kernel_rfl) (fun _ _ _ h => h) (Or.inl ⟨by rfl, ?hy49⟩) hHeld ?rest49
                case hy49 =>
                  intro w' hSw
                  try dsimp only at hSw
                  go_simp
                  first | done | with_reducible rfl
                try simp only [Act.put, List.getElem_toArray, List.getElem_cons_succ, List.getElem_cons_zero, List.setIfInBounds_toArray, List.set_cons_zero, List.set_cons_succ]
                refine wpAnyH_take (i := 13) (v := ?v50) rfl (by kernel_rfl) (by kernel_rfl) (by kernel_rfl) (fun _ _ _ h => h) (Or.inl ⟨by rfl, ?hy50⟩) hHeld ?rest50
                case hy50 =>
                  intro w' hSw
                  try dsimp only at hSw
                  go_simp
                  first | done | with_reducible rfl
                try simp only [Act.put, List.getElem_toArray, List.getElem_cons_succ, List.getElem_cons_zero, List.setIfInBounds_toArray, List.set_cons_zero, List.set_cons_succ]
                refine wpAnyH_ready (rs := [15]) (by kernel_rfl) (by simp) ?_
                refine AllReadyH.cons (by rfl) (fun K hK => ?_) AllReadyH.nil
                · refine step_allocFa rfl (by rfl) ?_
                  intro g14 rw23 hg hw
                  have RK23 : Hid (Below w1.heap.size w1 rw23) := Lib.hid (by subst hw; exact Below.alloc RK22.out (Below.size RK22.out) _)
                  have RG10_23 : Hid (Nx w1.heap.size rw23 g10 33 (Fo.cells fo).toArray) := Lib.hid (by subst hw; exact Nx.alloc RG10_22.out _)
                  have RNE10_14 : Hid (g10 ≠ g14) := Lib.hid (by have h1 := Blk.lt (Nx.blk RG10_22.out); subst hg; exact Nat.ne_of_lt h1)
                  have RG11_23 : Hid (Nx w1.heap.size rw23 g11 36 (Fa.cells fa).toArray) := Lib.hid (by subst hw; exact Nx.alloc RG11_22.out _)
                  have RNE11_14 : Hid (g11 ≠ g14) := Lib.hid (by have h1 := Blk.lt (Nx.blk RG11_22.out); subst hg; exact Nat.ne_of_lt h1)
                  have RG13_23 : Hid (Nx w1.heap.size rw23 g13 33 zfo.cells.toArray) := Lib.hid (by subst hw; exact Nx.alloc RG13_22.out _)
                  have RNE13_14 : Hid (g13 ≠ g14) := Lib.hid (by have h1 := Blk.lt (Nx.blk RG13_22.out); subst hg; exact Nat.ne_of_lt h1)
                  have RG14_23 : Hid (Nx w1.heap.size rw23 g14 36 zfa.cells.toArray) := Lib.hid ⟨by subst hg; exact Below.size RK22.out, by subst hw hg; exact Blk.new _ _ _⟩
                  clear hg hw hHeld
                  refine hK.out _ _ (HSX.out _ RK23.out) (fun hHeld => ?_)
                  clear hK K
                  try simp only [Act.put, List.getElem_toArray, List.getElem_cons_succ, List.getElem_cons_zero, List.setIfInBounds_toArray, List.set_cons_zero, List.set_cons_succ]
                  refine wpAnyH_ready (rs := [16]) (by kernel_rfl) (by simp) ?_
                  refine AllReadyH.cons (by rfl) (fun K hK => ?_) AllReadyH.nil
                  refine step_store_big (Nx.blk RG13_23.out) rfl (.tmp 13) (.tmp 68) (ty := 33) (l := Fo.cells fo) rfl (by rfl) (by rfl) sizeFo rfl (Fo.one fo) ?_
                  have SK := Lib.hid (below_setRow RK23.out (Nx.ge RG13_23.out) (Fo.cells fo).toArray)
                  have S13 := Lib.hid (Nx.put RG13_23.out (Fo.cells fo).toArray)
                  have S10 := Lib.hid (Nx.set RG10_23.out RNE10_13.out (Fo.cells fo).toArray)
                  have S11 := Lib.hid (Nx.set RG11_23.out RNE11_13.out (Fo.cells fo).toArray)
                  have S14 := Lib.hid (Nx.set RG14_23.out (Ne.symm RNE13_14.out) (Fo.cells fo).toArray)
                  generalize rw23.setRow g13 (Fo.cells fo).toArray = SW at SK S10 S11 S13 S14 ⊢
                  refine hK.out _ _ (HSX.out _ SK.out) (fun hHeld => ?_)
                  clear hK K
                  try simp only [Act.put, List.getElem_toArray, List.getElem_cons_succ, List.getElem_cons_zero]
                  refine wpAnyH_ready (rs := [17]) (by kernel_rfl) (by simp) ?_
                  refine AllReadyH.cons (by rfl) (fun K hK => ?_) AllReadyH.nil
                  refine step_store_big S14.out.blk rfl (.tmp 14) (.tmp 69) (ty := 36) (l := Fa.cells fa) rfl (by rfl) (by rfl) sizeFa rfl (Fa.one fa) ?_
                  have UK := Lib.hid (below_setRow SK.out S14.out.ge (Fa.cells fa).toArray)
                  have U14 := Lib.hid (Nx.put S14.out (Fa.cells fa).toArray)
                  have U10 := Lib.hid (Nx.set S10.out RNE10_14.out (Fa.cells fa).toArray)
                  have U11 := Lib.hid (Nx.set S11.out RNE11_14.out (Fa.cells fa).toArray)
                  have U13 := Lib.hid (Nx.set S13.out RNE13_14.out (Fa.cells fa).toArray)
                  generalize SW.setRow g14 (Fa.cells fa).toArray = UW at UK U10 U11 U13 U14 ⊢
                  refine hK.out _ _ (HSX.out _ UK.out) (fun hHeld => ?_)
                  clear hK K
                  try simp only [Act.put, List.getElem_toArray, List.getElem_cons_succ, List.getElem_cons_zero]
                  refine wpAnyH_take (i := 18) (v := ?v51) rfl (by kernel_rfl) (by kernel_rfl) (by kernel_rfl) (fun _ _ _ h => h) (Or.inl ⟨by rfl, ?hy51⟩) hHeld ?rest51
                  case hy51 =>
                    intro w' hSw
                    try dsimp only at hSw
                    go_simp
                    first | done | with_reducible rfl
                  try simp only [Act.put, List.getElem_toArray, List.getElem_cons_succ, List.getElem_cons_zero, List.setIfInBounds_toArray, List.set_cons_zero, List.set_cons_succ]
                  refine wpAnyH_done (by kernel_rfl) ?_ _
                  refine OnlyN.normal ?_
                  exact ⟨g13, g14, rfl, rfl, UK.out, U10.out, U11.out, U13.out, U14.out⟩
              · refine step_allocFa rfl (by rfl) ?_
                intro g14 rw24 hg hw
                have RK24 : Hid (Below w1.heap.size w1 rw24) := Lib.hid (by subst hw; exact Below.alloc RK21.out (Below.size RK21.out) _)
                have RG10_24 : Hid (Nx w1.heap.size rw24 g10 33 (Fo.cells fo).toArray) := Lib.hid (by subst hw; exact Nx.alloc RG10_21.out _)
                have RNE10_14 : Hid (g10 ≠ g14) := Lib.hid (by have h1 := Blk.lt (Nx.blk RG10_21.out); subst hg; exact Nat.ne_of_lt h1)
                have RG11_24 : Hid (Nx w1.heap.size rw24 g11 36 (Fa.cells fa).toArray) := Lib.hid (by subst hw; exact Nx.alloc RG11_21.out _)
                have RNE11_14 : Hid (g11 ≠ g14) := Lib.hid (by have h1 := Blk.lt (Nx.blk RG11_21.out); subst hg; exact Nat.ne_of_lt h1)
                have RG13_24 : Hid (Nx w1.heap.size rw24 g13 33 zfo.cells.toArray) := Lib.hid (by subst hw; exact Nx.alloc RG13_21.out _)
                have RNE13_14 : Hid (g13 ≠ g14) := Lib.hid (by have h1 := Blk.lt (Nx.blk RG13_21.out); subst hg; exact Nat.ne_of_lt h1)
                have RG14_24 : Hid (Nx w1.heap.size rw24 g14 36 zfa.cells.toArray) := Lib.hid ⟨by subst hg; exact Below.size RK21.out, by subst hw hg; exact Blk.new _ _ _⟩
                clear hg hw hHeld
                refine hK.out _ _ (HSX.out _ RK24.out) (fun hHeld => ?_)
                clear hK K
                try simp only [Act.put, List.getElem_toArray, List.getElem_cons_succ, List.getElem_cons_zero, List.setIfInBounds_toArray, List.set_cons_zero, List.set_cons_succ]
                refine wpAnyH_ready (rs := [9]) (by kernel_rfl) (by simp) ?_
                refine AllReadyH.cons (by rfl) (fun K hK => ?_) AllReadyH.nil
                · go_simp
                  refine (HRW.out _ RK24.out).mono ?_
                  rintro e_ rw25 ⟨rfl, c_⟩
                  have RK25 := Lib.hid (Below.trans RK24.out (c_.mono (RK24.out).size))
                  have RG10_25 := Lib.hid (RG10_24.out.below c_)
                  have RG11_25 := Lib.hid (RG11_24.out.below c_)
                  have RG13_25 := Lib.hid (RG13_24.out.below c_)
                  have RG14_25 := Lib.hid (RG14_24.out.below c_)
                  clear c_ hHeld
                  go_wp2_with fail
                  refine hK.out _ _ (HSX.out _ RK25.out) (fun hHeld => ?_)
                  clear hK K
                  try simp only [Act.put, List.getElem_toArray, List.getElem_cons_succ, List.getElem_cons_zero, List.setIfInBounds_toArray, List.set_cons_zero, List.set_cons_succ]
                  refine wpAnyH_take (i := 10) (v := ?v52) rfl (by kernel_rfl) (by kernel_rfl) (by kernel_rfl) (fun _ _ _ h => h) (Or.inl ⟨by rfl, ?hy52⟩) hHeld ?rest52
                  case hy52 =>
                    intro w' hSw
                    try dsimp only at hSw
                    go_simp
                    first | done | with_reducible rfl
                  try simp only [Act.put, List.getElem_toArray, List.getElem_cons_succ, List.getElem_cons_zero, List.setIfInBounds_toArray, List.set_cons_zero, List.set_cons_succ]
                  refine wpAnyH_take (i := 11) (v := ?v53) rfl (by kernel_rfl) (by kernel_rfl) (by kernel_rfl) (fun _ _ _ h => h) (Or.inl ⟨by rfl, ?hy53⟩) hHeld ?rest53
                  case hy53 =>
                    intro w' hSw
                    try dsimp only at hSw
                    go_simp
                    first | done | with_reducible rfl
                  try simp only [Act.put, List.getElem_toArray, List.getElem_cons_succ, List.getElem_cons_zero, List.setIfInBounds_toArray, List.set_cons_zero, List.set_cons_succ]
                  refine wpAnyH_take (i := 12) (v := ?v54) rfl (by kernel_rfl) (by kernel_rfl) (by kernel_rfl) (fun _ _ _ h => h) (Or.inl ⟨by rfl, ?hy54⟩) hHeld ?rest54
                  case hy54 =>
                    intro w' hSw
                    try dsimp only at hSw
                    go_simp
                    first | done | with_reducible rfl
                  try simp only [Act.put, List.getElem_toArray, List.getElem_cons_succ, List.getElem_cons_zero, List.setIfInBounds_toArray, List.set_cons_zero, List.set_cons_succ]
                  refine wpAnyH_take (i := 13) (v := ?v55) rfl (by kernel_rfl) (by kernel_rfl) (by kernel_rfl) (fun _ _ _ h => h) (Or.inl ⟨by rfl, ?hy55⟩) hHeld ?rest55
                  case hy55 =>
                    intro w' hSw
                    try dsimp only at hSw
                    go_simp
                    first | done | with_reducible rfl
                  try simp only [Act.put, List.getElem_toArray, List.getElem_cons_succ, List.getElem_cons_zero, List.setIfInBounds_toArray, List.set_cons_zero, List.set_cons_succ]
                  refine wpAnyH_ready (rs := [16]) (by kernel_rfl) (by simp) ?_
                  refine AllReadyH.cons (by rfl) (fun K hK => ?_) AllReadyH.nil
                  refine step_store_big (Nx.blk RG13_25.out) rfl (.tmp 13) (.tmp 68) (ty := 33) (l := Fo.cells fo) rfl (by rfl) (by rfl) sizeFo rfl (Fo.one fo) ?_
                  have SK := Lib.hid (below_setRow RK25.out (Nx.ge RG13_25.out) (Fo.cells fo).toArray)
                  have S13 := Lib.hid (Nx.put RG13_25.out (Fo.cells fo).toArray)
                  have S10 := Lib.hid (Nx.set RG10_25.out RNE10_13.out (Fo.cells fo).toArray)
                  have S11 := Lib.hid (Nx.set RG11_25.out RNE11_13.out (Fo.cells fo).toArray)
                  have S14 := Lib.hid (Nx.set RG14_25.out (Ne.symm RNE13_14.out) (Fo.cells fo).toArray)
                  generalize rw25.setRow g13 (Fo.cells fo).toArray = SW at SK S10 S11 S13 S14 ⊢
                  refine hK.out _ _ (HSX.out _ SK.out) (fun hHeld => ?_)
                  clear hK K
                  try simp only [Act.put, List.getElem_toArray, List.getElem_cons_succ, List.getElem_cons_zero]
                  refine wpAnyH_ready (rs := [17]) (by kernel_rfl) (by simp) ?_
                  refine AllReadyH.cons (by rfl) (fun K hK => ?_) AllReadyH.nil
                  refine step_store_big S14.out.blk rfl (.tmp 14) (.tmp 69) (ty := 36) (l := Fa.cells fa) rfl (by rfl) (by rfl) sizeFa rfl (Fa.one fa) ?_
                  have UK := Lib.hid (below_setRow SK.out S14.out.ge (Fa.cells fa).toArray)
                  have U14 := Lib.hid (Nx.put S14.out (Fa.cells fa).toArray)
                  have U10 := Lib.hid (Nx.set S10.out RNE10_14.out (Fa.cells fa).toArray)
                  have U11 := Lib.hid (Nx.set S11.out RNE11_14.out (Fa.cells fa).toArray)
                  have U13 := Lib.hid (Nx.set S13.out RNE13_14.out (Fa.cells fa).toArray)
                  generalize SW.setRow g14 (Fa.cells fa).toArray = UW at UK U10 U11 U13 U14 ⊢
                  refine hK.out _ _ (HSX.out _ UK.out) (fun hHeld => ?_)
                  clear hK K
                  try simp only [Act.put, List.getElem_toArray, List.getElem_cons_succ, List.getElem_cons_zero]
                  refine wpAnyH_take (i := 18) (v := ?v56) rfl (by kernel_rfl) (by kernel_rfl) (by kernel_rfl) (fun _ _ _ h => h) (Or.inl ⟨by rfl, ?hy56⟩) hHeld ?rest56
                  case hy56 =>
                    intro w' hSw
                    try dsimp only at hSw
                    go_simp
                    first | done | with_reducible rfl
                  try simp only [Act.put, List.getElem_toArray, List.getElem_cons_succ, List.getElem_cons_zero, List.setIfInBounds_toArray, List.set_cons_zero, List.set_cons_succ]
                  refine wpAnyH_done (by kernel_rfl) ?_ _
                  refine OnlyN.normal ?_
                  exact ⟨g13, g14, rfl, rfl, UK.out, U10.out, U11.out, U13.out, U14.out⟩
            · refine step_allocFa rfl (by rfl) ?_
              intro g14 rw26 hg hw
              have RK26 : Hid (Below w1.heap.size w1 rw26) := Lib.hid (by subst hw; exact Below.alloc (below_drew HXW3.out) (Below.size (below_drew HXW3.out)) _)
              have RG10_26 : Hid (Nx w1.heap.size rw26 g10 33 (Fo.cells fo).toArray) := Lib.hid (by subst hw; exact Nx.alloc H10.out.drew _)
              have RNE10_14 : Hid (g10 ≠ g14) := Lib.hid (by have h1 := Blk.lt (Nx.blk H10.out.drew); subst hg; exact Nat.ne_of_lt h1)
              have RG11_26 : Hid (Nx w1.heap.size rw26 g11 36 (Fa.cells fa).toArray) := Lib.hid (by subst hw; exact Nx.alloc H11.out.drew _)
              have RNE11_14 : Hid (g11 ≠ g14) := Lib.hid (by have h1 := Blk.lt (Nx.blk H11.out.drew); subst hg; exact Nat.ne_of_lt h1)
              have RG14_26 : Hid (Nx w1.heap.size rw26 g14 36 zfa.cells.toArray) := Lib.hid ⟨by subst hg; exact Below.size (below_drew HXW3.out), by subst hw hg; exact Blk.new _ _ _⟩
              clear hg hw hHeld
              refine hK.out _ _ (HSX.out _ RK26.out) (fun hHeld => ?_)
              clear hK K
              try simp only [Act.put, List.getElem_toArray, List.getElem_cons_succ, List.getElem_cons_zero, List.setIfInBounds_toArray, List.set_cons_zero, List.set_cons_succ]
              refine wpAnyH_ready (rs := [9, 14]) (by kernel_rfl) (by simp) ?_
              refine AllReadyH.cons (by rfl) (fun K hK => ?_) (AllReadyH.cons (by rfl) (fun K hK => ?_) AllReadyH.nil)
              · go_simp
                refine (HRW.out _ RK26.out).mono ?_
                rintro e_ rw27 ⟨rfl, c_⟩
                have RK27 := Lib.hid (Below.trans RK26.out (c_.mono (RK26.out).size))
                have RG10_27 := Lib.hid (RG10_26.out.below c_)
                have RG11_27 := Lib.hid (RG11_26.out.below c_)
                have RG14_27 := Lib.hid (RG14_26.out.below c_)
                clear c_ hHeld
                go_wp2_with fail
                refine hK.out _ _ (HSX.out _ RK27.out) (fun hHeld => ?_)
                clear hK K
                try simp only [Act.put, List.getElem_toArray, List.getElem_cons_succ, List.getElem_cons_zero, List.setIfInBounds_toArray, List.set_cons_zero, List.set_cons_succ]
                refine wpAnyH_take (i := 10) (v := ?v57) rfl (by kernel_rfl) (by kernel_rfl) (by kernel_rfl) (fun _ _ _ h => h) (Or.inl ⟨by rfl, ?hy57⟩) hHeld ?rest57
                case hy57 =>
                  intro w' hSw
                  try dsimp only at hSw
                  go_simp
                  first | done | with_reducible rfl
                try simp only [Act.put, List.getElem_toArray, List.getElem_cons_succ, List.getElem_cons_zero, List.setIfInBounds_toArray, List.set_cons_zero, List.set_cons_succ]
                refine wpAnyH_take (i := 11) (v := ?v58) rfl (by kernel_rfl) (by kernel_rfl) (by kernel_rfl) (fun _ _ _ h => h) (Or.inl ⟨by rfl, ?hy58⟩) hHeld ?rest58
                case hy58 =>
                  intro w' hSw
                  try dsimp only at hSw
                  go_simp
                  first | done | with_reducible rfl
                try simp only [Act.put, List.getElem_toArray, List.getElem_cons_succ, List.getElem_cons_zero, List.setIfInBounds_toArray, List.set_cons_zero, List.set_cons_succ]
                refine wpAnyH_take (i := 12) (v := ?v59) rfl (by kernel_rfl) (by kernel_rfl) (by kernel_rfl) (fun _ _ _ h => h) (Or.inl ⟨by rfl, ?hy59⟩) hHeld ?rest59
                case hy59 =>
                  intro w' hSw
                  try dsimp only at hSw
                  go_simp
                  first | done | with_reducible rfl
                try simp only [Act.put, List.getElem_toArray, List.getElem_cons_succ, List.getElem_cons_zero, List.setIfInBounds_toArray, List.set_cons_zero, List.set_cons_succ]
                refine wpAnyH_take (i := 13) (v := ?v60) rfl (by kernel_rfl) (by kernel_rfl) (by kernel_rfl) (fun _ _ _ h => h) (Or.inl ⟨by rfl, ?hy60⟩) hHeld ?rest60
                case hy60 =>
                  intro w' hSw
                  try dsimp only at hSw
                  go_simp
                  first | done | with_reducible rfl
                try simp only [Act.put, List.getElem_toArray, List.getElem_cons_succ, List.getElem_cons_zero, List.setIfInBounds_toArray, List.set_cons_zero, List.set_cons_succ]
                refine wpAnyH_ready (rs := [14]) (by kernel_rfl) (by simp) ?_
                refine AllReadyH.cons (by rfl) (fun K hK => ?_) AllReadyH.nil
                · refine step_allocFo rfl (by rfl) ?_
                  intro g13 rw28 hg hw
                  have RK28 : Hid (Below w1.heap.size w1 rw28) := Lib.hid (by subst hw; exact Below.alloc RK27.out (Below.size RK27.out) _)
                  have RG10_28 : Hid (Nx w1.heap.size rw28 g10 33 (Fo.cells fo).toArray) := Lib.hid (by subst hw; exact Nx.alloc RG10_27.out _)
                  have RNE10_13 : Hid (g10 ≠ g13) := Lib.hid (by have h1 := Blk.lt (Nx.blk RG10_27.out); subst hg; exact Nat.ne_of_lt h1)
                  have RG11_28 : Hid (Nx w1.heap.size rw28 g11 36 (Fa.cells fa).toArray) := Lib.hid (by subst hw; exact Nx.alloc RG11_27.out _)
                  have RNE11_13 : Hid (g11 ≠ g13) := Lib.hid (by have h1 := Blk.lt (Nx.blk RG11_27.out); subst hg; exact Nat.ne_of_lt h1)
                  have RG14_28 : Hid (Nx w1.heap.size rw28 g14 36 zfa.cells.toArray) := Lib.hid (by subst hw; exact Nx.alloc RG14_27.out _)
                  have RNE14_13 : Hid (g14 ≠ g13) := Lib.hid (by have h1 := Blk.lt (Nx.blk RG14_27.out); subst hg; exact Nat.ne_of_lt h1)
                  have RG13_28 : Hid (Nx w1.heap.size rw28 g13 33 zfo.cells.toArray) := Lib.hid ⟨by subst hg; exact Below.size RK27.out, by subst hw hg; exact Blk.new _ _ _⟩
                  clear hg hw hHeld
                  refine hK.out _ _ (HSX.out _ RK28.out) (fun hHeld => ?_)
                  clear hK K
                  try simp only [Act.put, List.getElem_toArray, List.getElem_cons_succ, List.getElem_cons_zero, List.setIfInBounds_toArray, List.set_cons_zero, List.set_cons_succ]
                  refine wpAnyH_ready (rs := [16]) (by kernel_rfl) (by simp) ?_
                  refine AllReadyH.cons (by rfl) (fun K hK => ?_) AllReadyH.nil
                  refine step_store_big (Nx.blk RG13_28.out) rfl (.tmp 13) (.tmp 68) (ty := 33) (l := Fo.cells fo) rfl (by rfl) (by rfl) sizeFo rfl (Fo.one fo) ?_
                  have SK := Lib.hid (below_setRow RK28.out (Nx.ge RG13_28.out) (Fo.cells fo).toArray)
                  have S13 := Lib.hid (Nx.put RG13_28.out (Fo.cells fo).toArray)
                  have S10 := Lib.hid (Nx.set RG10_28.out RNE10_13.out (Fo.cells fo).toArray)
                  have S11 := Lib.hid (Nx.set RG11_28.out RNE11_13.out (Fo.cells fo).toArray)
                  have S14 := Lib.hid (Nx.set RG14_28.out RNE14_13.out (Fo.cells fo).toArray)
                  generalize rw28.setRow g13 (Fo.cells fo).toArray = SW at SK S10 S11 S14 S13 ⊢
                  refine hK.out _ _ (HSX.out _ SK.out) (fun hHeld => ?_)
                  clear hK K
                  try simp only [Act.put, List.getElem_toArray, List.getElem_cons_succ, List.getElem_cons_zero]
                  refine wpAnyH_ready (rs := [17]) (by kernel_rfl) (by simp) ?_
                  refine AllReadyH.cons (by rfl) (fun K hK => ?_) AllReadyH.nil
                  refine step_store_big S14.out.blk rfl (.tmp 14) (.tmp 69) (ty := 36) (l := Fa.cells fa) rfl (by rfl) (by rfl) sizeFa rfl (Fa.one fa) ?_
                  have UK := Lib.hid (below_setRow SK.out S14.out.ge (Fa.cells fa).toArray)
                  have U14 := Lib.hid (Nx.put S14.out (Fa.cells fa).toArray)
                  have U10 := Lib.hid (Nx.set S10.out RNE10_14.out (Fa.cells fa).toArray)
                  have U11 := Lib.hid (Nx.set S11.out RNE11_14.out (Fa.cells fa).toArray)
                  have U13 := Lib.hid (Nx.set S13.out (Ne.symm RNE14_13.out) (Fa.cells fa).toArray)
                  generalize SW.setRow g14 (Fa.cells fa).toArray = UW at UK U10 U11 U14 U13 ⊢
                  refine hK.out _ _ (HSX.out _ UK.out) (fun hHeld => ?_)
                  clear hK K
                  try simp only [Act.put, List.getElem_toArray, List.getElem_cons_succ, List.getElem_cons_zero]
                  refine wpAnyH_take (i := 18) (v := ?v61) rfl (by kernel_rfl) (by kernel_rfl) (by kernel_rfl) (fun _ _ _ h => h) (Or.inl ⟨by rfl, ?hy61⟩) hHeld ?rest61
                  case hy61 =>
                    intro w' hSw
                    try dsimp only at hSw
                    go_simp
                    first | done | with_reducible rfl
                  try simp only [Act.put, List.getElem_toArray, List.getElem_cons_succ, List.getElem_cons_zero, List.setIfInBounds_toArray, List.set_cons_zero, List.set_cons_succ]
                  refine wpAnyH_done (by kernel_rfl) ?_ _
                  refine OnlyN.normal ?_
                  exact ⟨g13, g14, rfl, rfl, UK.out, U10.out, U11.out, U13.out, U14.out⟩
              · refine step_allocFo rfl (by rfl) ?_
                intro g13 rw29 hg hw
                have RK29 : Hid (Below w1.heap.size w1 rw29) := Lib.hid (by subst hw; exact Below.alloc RK26.out (Below.size RK26.out) _)
                have RG10_29 : Hid (Nx w1.heap.size rw29 g10 33 (Fo.cells fo).toArray) := Lib.hid (by subst hw; exact Nx.alloc RG10_26.out _)
                have RNE10_13 : Hid (g10 ≠ g13) := Lib.hid (by have h1 := Blk.lt (Nx.blk RG10_26.out); subst hg; exact Nat.ne_of_lt h1)
                have RG11_29 : Hid (Nx w1.heap.size rw29 g11 36 (Fa.cells fa).toArray) := Lib.hid (by subst hw; exact Nx.alloc RG11_26.out _)
                have RNE11_13 : Hid (g11 ≠ g13) := Lib.hid (by have h1 := Blk.lt (Nx.blk RG11_26.out); subst hg; exact Nat.ne_of_lt h1)
                have RG14_29 : Hid (Nx w1.heap.size rw29 g14 36 zfa.cells.toArray) := Lib.hid (by subst hw; exact Nx.alloc RG14_26.out _)
                have RNE14_13 : Hid (g14 ≠ g13) := Lib.hid (by have h1 := Blk.lt (Nx.blk RG14_26.out); subst hg; exact Nat.ne_of_lt h1)
                have RG13_29 : Hid (Nx w1.heap.size rw29 g13 33 zfo.cells.toArray) := Lib.hid ⟨by subst hg; exact Below.size RK26.out, by subst hw hg; exact Blk.new _ _ _⟩
                clear hg hw hHeld
                refine hK.out _ _ (HSX.out _ RK29.out) (fun hHeld => ?_)
                clear hK K
                try simp only [Act.put, List.getElem_toArray, List.getElem_cons_succ, List.getElem_cons_zero, List.setIfInBounds_toArray, List.set_cons_zero, List.set_cons_succ]
                refine wpAnyH_ready (rs := [9]) (by kernel_rfl) (by simp) ?_
                refine AllReadyH.cons (by rfl) (fun K hK => ?_) AllReadyH.nil
                · go_simp
                  refine (HRW.out _ RK29.out).mono ?_
                  rintro e_ rw30 ⟨rfl, c_⟩
                  have RK30 := Lib.hid (Below.trans RK29.out (c_.mono (RK29.out).size))
                  have RG10_30 := Lib.hid (RG10_29.out.below c_)
                  have RG11_30 := Lib.hid (RG11_29.out.below c_)
                  have RG14_30 := Lib.hid (RG14_29.out.below c_)
                  have RG13_30 := Lib.hid (RG13_29.out.below c_)
                  clear c_ hHeld
                  go_wp2_with fail
                  refine hK.out _ _ (HSX.out _ RK30.out) (fun hHeld => ?_)
                  clear hK K
                  try simp only [Act.put, List.getElem_toArray, List.getElem_cons_succ, List.getElem_cons_zero, List.setIfInBounds_toArray, List.set_cons_zero, List.set_cons_succ]
                  refine wpAnyH_take (i := 10) (v := ?v62) rfl (by kernel_rfl) (by kernel_rfl) (by kernel_rfl) (fun _ _ _ h => h) (Or.inl ⟨by rfl, ?hy62⟩) hHeld ?rest62
                  case hy62 =>
                    intro w' hSw
                    try dsimp only at hSw
                    go_simp
                    first | done | with_reducible rfl
                  try simp only [Act.put, List.getElem_toArray, List.getElem_cons_succ, List.getElem_cons_zero, List.setIfInBounds_toArray, List.set_cons_zero, List.set_cons_succ]
                  refine wpAnyH_take (i := 11) (v := ?v63) rfl (by kernel_rfl) (by kernel_rfl) (by kernel_rfl) (fun _ _ _ h => h) (Or.inl ⟨by rfl, ?hy63⟩) hHeld ?rest63
                  case hy63 =>
                    intro w' hSw
                    try dsimp only at hSw
                    go_simp
                    first | done | with_reducible rfl
                  try simp only [Act.put, List.getElem_toArray, List.getElem_cons_succ, List.getElem_cons_zero, List.setIfInBounds_toArray, List.set_cons_zero, List.set_cons_succ]
                  refine wpAnyH_take (i := 12) (v := ?v64) rfl (by kernel_rfl) (by kernel_rfl) (by kernel_rfl) (fun _ _ _ h => h) (Or.inl ⟨by rfl, ?hy64⟩) hHeld ?rest64
                  case hy64 =>
                    intro w' hSw
                    try dsimp only at hSw
                    go_simp
                    first | done | with_reducible rfl
                  try simp only [Act.put, List.getElem_toArray, List.getElem_cons_succ, List.getElem_cons_zero, List.setIfInBounds_toArray, List.set_cons_zero, List.set_cons_succ]
                  refine wpAnyH_take (i := 13) (v := ?v65) rfl (by kernel_rfl) (by kernel_rfl) (by kernel_rfl) (fun _ _ _ h => h) (Or.inl ⟨by rfl, ?hy65⟩) hHeld ?rest65
                  case hy65 =>
                    intro w' hSw
                    try dsimp only at hSw
                    go_simp
                    first | done | with_reducible rfl
                  try simp only [Act.put, List.getElem_toArray, List.getElem_cons_succ, List.getElem_cons_zero, List.setIfInBounds_toArray, List.set_cons_zero, List.set_cons_succ]
                  refine wpAnyH_ready (rs := [16]) (by kernel_rfl) (by simp) ?_
                  refine AllReadyH.cons (by rfl) (fun K hK => ?_) AllReadyH.nil
                  refine step_store_big (Nx.blk RG13_30.out) rfl (.tmp 13) (.tmp 68) (ty := 33) (l := Fo.cells fo) rfl (by rfl) (by rfl) sizeFo rfl (Fo.one fo) ?_
                  have SK := Lib.hid (below_setRow RK30.out (Nx.ge RG13_30.out) (Fo.cells fo).toArray)
                  have S13 := Lib.hid (Nx.put RG13_30.out (Fo.cells fo).toArray)
                  have S10 := Lib.hid (Nx.set RG10_30.out RNE10_13.out (Fo.cells fo).toArray)
                  have S11 := Lib.hid (Nx.set RG11_30.out RNE11_13.out (Fo.cells fo).toArray)
                  have S14 := Lib.hid (Nx.set RG14_30.out RNE14_13.out (Fo.cells fo).toArray)
                  generalize rw30.setRow g13 (Fo.cells fo).toArray = SW at SK S10 S11 S14 S13 ⊢
                  refine hK.out _ _ (HSX.out _ SK.out) (fun hHeld => ?_)
                  clear hK K
                  try simp only [Act.put, List.getElem_toArray, List.getElem_cons_succ, List.getElem_cons_zero]
                  refine wpAnyH_ready (rs := [17]) (by kernel_rfl) (by simp) ?_
                  refine AllReadyH.cons (by rfl) (fun K hK => ?_) AllReadyH.nil
                  refine step_store_big S14.out.blk rfl (.tmp 14) (.tmp 69) (ty := 36) (l := Fa.cells fa) rfl (by rfl) (by rfl) sizeFa rfl (Fa.one fa) ?_
                  have UK := Lib.hid (below_setRow SK.out S14.out.ge (Fa.cells fa).toArray)
                  have U14 := Lib.hid (Nx.put S14.out (Fa.cells fa).toArray)
                  have U10 := Lib.hid (Nx.set S10.out RNE10_14.out (Fa.cells fa).toArray)
                  have U11 := Lib.hid (Nx.set S11.out RNE11_14.out (Fa.cells fa).toArray)
                  have U13 := Lib.hid (Nx.set S13.out (Ne.symm RNE14_13.out) (Fa.cells fa).toArray)
                  generalize SW.setRow g14 (Fa.cells fa).toArray = UW at UK U10 U11 U14 U13 ⊢
                  refine hK.out _ _ (HSX.out _ UK.out) (fun hHeld => ?_)
                  clear hK K
                  try simp only [Act.put, List.getElem_toArray, List.getElem_cons_succ, List.getElem_cons_zero]
                  refine wpAnyH_take (i := 18) (v := ?v66) rfl (by kernel_rfl) (by kernel_rfl) (by kernel_rfl) (fun _ _ _ h => h) (Or.inl ⟨by rfl, ?hy66⟩) hHeld ?rest66
                  case hy66 =>
                    intro w' hSw
                    try dsimp only at hSw
                    go_simp
                    first | done | with_reducible rfl
                  try simp only [Act.put, List.getElem_toArray, List.getElem_cons_succ, List.getElem_cons_zero, List.setIfInBounds_toArray, List.set_cons_zero, List.set_cons_succ]
                  refine wpAnyH_done (by kernel_rfl) ?_ _
                  refine OnlyN.normal ?_
                  exact ⟨g13, g14, rfl, rfl, UK.out, U10.out, U11.out, U13.out, U14.out⟩
          rintro g13 g14 W4 ⟨hk, h10, h11, h13, h14⟩
          clear H10 H11
          have HXW4 := Lib.hid hk
          have H10 := Lib.hid h10
          have H11 := Lib.hid h11
          have H13 := Lib.hid h13
          have H14 := Lib.hid h14
          clear hk h10 h11 h13 h14
          simp only [Act.put, List.setIfInBounds_toArray, List.set_cons_zero, List.set_cons_succ]
          go_wp2_with (first
            | (show wpList _ _ _ ({ dst := some 71, op := .load _ _, type := _, pos := _, after := _, guard := _ } :: _) _ _; refine wpList_yields (S := fun W => W.rangeAt g10 0 (Fo.cells fo)) (y_fo (by rfl) (.tmp 10) (by rfl) g10 0 (by rfl) fo (fun _ h => h)) H10.out.blk.range ?_)
            | (show wpList _ _ _ ({ dst := some 72, op := .load _ _, type := _, pos := _, after := _, guard := _ } :: _) _ _; refine wpList_yields (S := fun W => W.rangeAt g13 0 (Fo.cells fo)) (y_fo (by rfl) (.tmp 13) (by rfl) g13 0 (by rfl) fo (fun _ h => h)) H13.out.blk.range ?_)
            | (show wpList _ _ _ ({ dst := some 73, op := .binOp _ _ _ _ _, type := _, pos := _, after := _, guard := _ } :: _) _ _; refine wpList_yields (S := fun _ => True) (y_fone (by rfl) (by rfl) fo (by rfl) (by rfl)) trivial ?_)
            | (show wpList _ _ _ ({ dst := some 75, op := .load _ _, type := _, pos := _, after := _, guard := _ } :: _) _ _; refine wpList_yields (S := fun W => W.rangeAt g11 0 (Fa.cells fa)) (y_fa (by rfl) (.tmp 11) (by rfl) g11 0 (by rfl) fa (fun _ h => h)) H11.out.blk.range ?_)
            | (show wpList _ _ _ ({ dst := some 76, op := .load _ _, type := _, pos := _, after := _, guard := _ } :: _) _ _; refine wpList_yields (S := fun W => W.rangeAt g14 0 (Fa.cells fa)) (y_fa (by rfl) (.tmp 14) (by rfl) g14 0 (by rfl) fa (fun _ h => h)) H14.out.blk.range ?_)
            | (show wpList _ _ _ ({ dst := some 77, op := .binOp _ _ _ _ _, type := _, pos := _, after := _, guard := _ } :: _) _ _; refine wpList_yields (S := fun _ => True) (y_fane (by rfl) (by rfl) fa (by rfl) (by rfl)) trivial ?_))
          go_roundw
          case rel => exact ⟨k + 1, by omega, by go_num, HXW4.out⟩
          case measure => simp [intOf]; omega
        · obtain rfl : k = zs.length := by omega
          have f0 : decide ((zs.length : Int) < (zs.length : Int)) = false := decide_eq_false (by omega)
          have f1 : decide (zs.length < zs.length) = false := decide_eq_false (by omega)
          clear hk hlt2
          go_wp2_with fail
          go_roundw
          case rel => exact ⟨i + 1, by omega, by go_num, HX.out⟩
          case measure => simp [intOf]; omega
    · obtain rfl : i = xs.length := by omega
      have e0 : decide ((xs.length : Int) < (xs.length : Int)) = false := decide_eq_false (by omega)
      have e1 : decide (xs.length < xs.length) = false := decide_eq_false (by omega)
      clear hi hlt
      go_wp2_with (first
        | (go_at_call 13; refine (same_n (HS1.out.below HX.out) HLN.out (by have := HN0.out; have := HLN.out; omega) (by have := HNB.out; have := HLN.out; omega) A cap (HR1.out.below HX.out)).mono ?_; rintro e w5 ⟨rfl, b5⟩; have HB5 := Lib.hid (HB1.out.trans ((HX.out.trans (b5.mono HX.out.size)).mono HB1.out.size)); have HT5 := Lib.hid ((HT1.out.below HX.out).below b5); clear b5)
        | (go_at_call 10; refine (known_w _ (HT5.out)).mono ?_; rintro e v9 ⟨rfl, b_⟩; have B9 := Lib.hid (HB5.out.trans (b_.mono (HB5.out).size)); clear b_))
      go_ret
      exact ⟨rfl, B9.out⟩
end Go.Proofs.YtfckdbennjkgoaaDoor.spacesWalk

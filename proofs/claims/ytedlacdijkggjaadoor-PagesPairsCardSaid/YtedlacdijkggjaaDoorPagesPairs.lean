/- The law PagesPairs returns true for every input: copies between two pages, by keys with and without ReadOnly, of Counts that are and are not, are answered as the document says (any two texts of at most 64 bytes). No condition but that the listed variables read as the program's own text lays them; the card ties them to it. -/
import Derived.Test.YtedlacdijkggjaaDoorGDo
import Derived.Test.YtedlacdijkggjaaDoorR12
import Derived.Test.YtedlacdijkggjaaDoorR05
import Derived.Test.YtedlacdijkggjaaDoorGPr
namespace Go.Proofs.YtedlacdijkggjaaDoor.pagesPairs
open Go.ChangeShapes Go.WideShapes Go.ChangeAt Go.RowKit
attribute [local go_sem] Oper.semAt_some
def u2 : Oj := ⟨2, 2, 0, zks, zbs, rfl, rfl⟩
def u3 : Oj := ⟨1, 1, 0, zks, zbs, rfl, rfl⟩
set_option maxRecDepth 8000 in
theorem builtU2 : Tryd.prog.built 49 [(0, .int .i64 2), (1, .int .i64 2)] = some u2.cells.toArray := by kernel_rfl
set_option maxRecDepth 8000 in
theorem builtU3 : Tryd.prog.built 49 [(0, .int .i64 1), (1, .int .i64 1)] = some u3.cells.toArray := by kernel_rfl
set_option maxRecDepth 8000 in
theorem builtK (o c r : Int) : Tryd.prog.built 30 [(0, .int .i64 3), (1, .int .i64 o), (2, .int .i64 c), (4, .int .i64 r)] = some (kl ⟨3, o, c, 0, r, 0⟩).toArray := by kernel_rfl
set_option maxRecDepth 8000 in
theorem builtA (k : Int) (x y : Ky) : Tryd.prog.built 32 [(0, .int .i64 k), (3, x.val), (4, y.val)] = some (pa k 0 0 x y []) := by kernel_rfl
theorem three_made (a b : List UInt8) : madeP [layO kn10 0 a, layO u2 0 b, u3] := ⟨by simp, by simp, by simp, fun x hx => by
  have h1 : kn10.ok (3 : Int) := ⟨by decide, by decide, by decide, .inr (.inl ⟨rfl, by decide⟩)⟩
  have h2 : u2.ok (3 : Int) := ⟨by decide, by decide, by decide, .inr (.inl ⟨rfl, by decide⟩)⟩
  have h3 : u3.ok (3 : Int) := ⟨by decide, by decide, by decide, .inl ⟨rfl, zks_may 3⟩⟩
  show x.ok (3 : Int)
  simp only [List.mem_cons, List.not_mem_nil, or_false] at hx
  rcases hx with rfl | rfl | rfl
  · exact layO_ok h1 rfl 0 a
  · exact layO_ok h2 rfl 0 b
  · exact h3⟩
theorem Kb.less {w W : World} {b : Nat × TypeId × Array Value} {bs : List (Nat × TypeId × Array Value)} {N : Nat} (h : Kb w (b :: bs) N W) : Kb w bs N W := ⟨h.bel, h.n0, h.sz, fun c hc => h.blk c (List.mem_cons_of_mem _ hc)⟩
set_option maxRecDepth 8000 in
set_option maxHeartbeats 1000000 in
theorem walk_big (w : World) (hT : Tab w) (a b : List UInt8) (hb : 64 < a.length ∨ (a.length ≤ 64 ∧ 64 < b.length)) :
    Calls Tryd.prog 7 #[.string (st a), .string (st b)] w fun e w' => e = .returned (.bool true) ∧ Below w.heap.size w w' := by
  have HT := Lib.hid hT
  have HB := Lib.hid (Below.refl w.heap.size w)
  have ha := st_size a
  have hb' := st_size b
  clear hT
  rcases hb with h1 | ⟨h1, h2⟩
  · have d0 : decide ((64 : Int) < (a.length : Int)) = true := decide_eq_true (by omega)
    have d1 : decide (64 < a.length) = true := decide_eq_true h1
    clear h1
    go_enter Tryd.func7, Tryd.ntmps7
    go_wp2_with (first
      | (go_at_call 9; refine (known_any _ (HT.out.below HB.out)).mono ?_; rintro e v9 ⟨rfl, b_⟩; have B9 := Lib.hid (HB.out.trans (b_.mono (HB.out).size)); clear b_))
    go_ret
    exact ⟨rfl, B9.out⟩
  · have d0 : decide ((64 : Int) < (a.length : Int)) = false := decide_eq_false (by omega)
    have d1 : decide (64 < a.length) = false := decide_eq_false (by omega)
    have d2 : decide ((64 : Int) < (b.length : Int)) = true := decide_eq_true (by omega)
    have d3 : decide (64 < b.length) = true := decide_eq_true h2
    clear h1 h2
    go_enter Tryd.func7, Tryd.ntmps7
    go_wp2_with (first
      | (go_at_call 9; refine (known_any _ (HT.out.below HB.out)).mono ?_; rintro e v9 ⟨rfl, b_⟩; have B9 := Lib.hid (HB.out.trans (b_.mono (HB.out).size)); clear b_))
    go_ret
    exact ⟨rfl, B9.out⟩
set_option maxRecDepth 100000 in
set_option maxHeartbeats 8000000 in
theorem walk_ok (w : World) (hT : Tab w) (a b : List UInt8) (ha : a.length ≤ 64) (hb : b.length ≤ 64) :
    Calls Tryd.prog 7 #[.string (st a), .string (st b)] w fun e w' => e = .returned (.bool true) ∧ Below w.heap.size w w' := by
  have HT := Lib.hid hT
  have hsa := st_size a
  have hsb := st_size b
  have d0 : decide ((64 : Int) < (a.length : Int)) = false := decide_eq_false (by omega)
  have d1 : decide (64 < a.length) = false := decide_eq_false (by omega)
  have d2 : decide ((64 : Int) < (b.length : Int)) = false := decide_eq_false (by omega)
  have d3 : decide (64 < b.length) = false := decide_eq_false (by omega)
  have HLA := Lib.hid ha
  have HLB := Lib.hid hb
  have hsl := fun off => run_cut_all w.heap.size off
  have G0 := Lib.hid (Blk.new w 49 (ocs [kn10, u2, u3]).toArray)
  have G1 := Lib.hid (G0.out.setRow (ocs [layO kn10 0 a, u2, u3]).toArray)
  have HKB0 : Hid (Kb w [(w.heap.size, 49, (ocs [layO kn10 0 a, layO u2 0 b, u3]).toArray)] (w.heap.size + 1) (((w.alloc (.cells (ocs [kn10, u2, u3]).toArray 49)).setRow w.heap.size (ocs [layO kn10 0 a, u2, u3]).toArray).setRow w.heap.size (ocs [layO kn10 0 a, layO u2 0 b, u3]).toArray)) := Lib.hid ⟨below_setRow (below_setRow ((Below.refl w.heap.size w).alloc (Nat.le_refl _) _) (Nat.le_refl _) _) (Nat.le_refl _) _, by omega, by simp [World.setRow], fun c hc => by
    obtain rfl := List.mem_singleton.1 hc
    exact ⟨Nat.lt_succ_self _, G1.out.setRow _⟩⟩
  have HM3 := Lib.hid (three_made a b)
  have M0 := Lib.hid True.intro
  clear hT ha hb
  go_enter Tryd.func7, Tryd.ntmps7
  go_wp2_with (first
    | (show wpList _ _ _ ({ dst := some 22, op := .build _ _, type := _, pos := _, after := _, guard := _ } :: _) _ _; refine wpList_yields (S := fun _ => True) (y_build2 (by rfl) (by rfl) built10) trivial ?_)
    | (show wpList _ _ _ ({ dst := some 23, op := .build _ _, type := _, pos := _, after := _, guard := _ } :: _) _ _; refine wpList_yields (S := fun _ => True) (y_build2 (by rfl) (by rfl) builtU2) trivial ?_)
    | (show wpList _ _ _ ({ dst := some 24, op := .build _ _, type := _, pos := _, after := _, guard := _ } :: _) _ _; refine wpList_yields (S := fun _ => True) (y_build2 (by rfl) (by rfl) builtU3) trivial ?_)
    | (refine wpList_buildSlice3 rfl (.tmp 22) (.tmp 23) (.tmp 24) rfl kn10 u2 u3 rfl rfl rfl ?_)
    | (show wpList _ _ _ ({ dst := some 31, op := _, type := _, pos := _, after := _, guard := _ } :: _) _ _; refine wpList_copy_ocs rfl (.tmp 29) (.tmp 30) (by rfl) [kn10, u2, u3] 0 (by decide) a HLA.out 99 rfl (by rfl) (by rfl) G0.out [layO kn10 0 a, u2, u3] rfl ?_)
    | (show wpList _ _ _ ({ dst := some 37, op := _, type := _, pos := _, after := _, guard := _ } :: _) _ _; refine wpList_copy_ocs rfl (.tmp 35) (.tmp 36) (by rfl) [layO kn10 0 a, u2, u3] 1 (by simp) b HLB.out 262 rfl (by rfl) (by rfl) G1.out [layO kn10 0 a, layO u2 0 b, u3] rfl ?_))
  generalize (((w.alloc (.cells (ocs [kn10, u2, u3]).toArray 49)).setRow w.heap.size (ocs [layO kn10 0 a, u2, u3]).toArray).setRow w.heap.size (ocs [layO kn10 0 a, layO u2 0 b, u3]).toArray) = W0 at HKB0 ⊢
  clear G0 G1
  obtain ⟨l, hl⟩ : ∃ l, l = [layO kn10 0 a, layO u2 0 b, u3] := ⟨_, rfl⟩
  have hl3 : l.length = 3 := by rw [hl]; rfl
  rw [← hl] at HKB0 HM3
  have HL3 := Lib.hid hl3
  have HRD := Lib.hid (show ∀ W, Blk W w.heap.size 49 (ocs l).toArray → RdO W (some ⟨w.heap.size, 0, none⟩) l from fun W h => row_rdo h (List.take_of_length_le (by rw [ocs_length]; exact Nat.le_refl _)))
  have HMD := Lib.hid (fun (W : World) (hT : Tab W) (hr : RdO W (some ⟨w.heap.size, 0, none⟩) l) => (hl3 ▸ made_yes (cap := 3) hT hr HM3.out : Calls Tryd.prog 8 #[.slice (some ⟨w.heap.size, 0, none⟩) 3 3] W _))
  have HOK := Lib.hid (hl3 ▸ HM3.out.2.2.2 : okAll (3 : Nat) l)
  clear hl hl3
  go_loopw [6, 7, 8, 9, 10, 11, 12] (fun q6 _ _ _ _ _ _ wr => ∃ i : Nat, i ≤ 64 ∧ q6 = .int .i64 i ∧ ∃ N, Kb w [(w.heap.size, 49, (ocs l).toArray)] N wr) (fun q6 _ _ _ _ _ _ _ => 65 - (intOf q6).toNat)
  case atStart => exact ⟨0, by omega, rfl, _, HKB0.out⟩
  case round =>
    obtain ⟨i, hi, rfl, N, hkb⟩ := hrel
    clear HKB0
    have HKB := Lib.hid hkb
    clear hkb
    by_cases hlt : i < 64
    · have t0 : decide ((i : Int) < 64) = true := decide_eq_true (by omega)
      have t1 : decide (i < 64) = true := decide_eq_true hlt
      obtain ⟨a1, ha1⟩ : ∃ n : Nat, n = i % 2 := ⟨_, rfl⟩
      have qa1 : (i : Int).tmod 2 = (a1 : Int) := by rw [ha1]; exact Int.tmod_eq_emod_of_nonneg (by omega)
      have qa2 : (a1 : Int) ≤ 9223372036854775807 := by omega
      obtain ⟨e0, he0⟩ : ∃ n : Nat, n = i / 8 := ⟨_, rfl⟩
      obtain ⟨e1, he1⟩ : ∃ n : Nat, n = e0 % 2 := ⟨_, rfl⟩
      have qe0 : (i : Int).tdiv 8 = (e0 : Int) := by rw [he0]; exact Int.tdiv_eq_ediv_of_nonneg (by omega)
      have qe1 : (e0 : Int).tmod 2 = (e1 : Int) := by rw [he1]; exact Int.tmod_eq_emod_of_nonneg (by omega)
      have qe2 : (e0 : Int) ≤ 9223372036854775807 := by omega
      have qe3 : (e1 : Int) ≤ 9223372036854775807 := by omega
      have qe4 : (e1 : Int) ≤ 1 := by omega
      obtain ⟨f0, hf0⟩ : ∃ n : Nat, n = i / 16 := ⟨_, rfl⟩
      obtain ⟨f1, hf1⟩ : ∃ n : Nat, n = f0 % 2 := ⟨_, rfl⟩
      have qf0 : (i : Int).tdiv 16 = (f0 : Int) := by rw [hf0]; exact Int.tdiv_eq_ediv_of_nonneg (by omega)
      have qf1 : (f0 : Int).tmod 2 = (f1 : Int) := by rw [hf1]; exact Int.tmod_eq_emod_of_nonneg (by omega)
      have qf2 : (f0 : Int) ≤ 9223372036854775807 := by omega
      have qf3 : (f1 : Int) ≤ 9223372036854775807 := by omega
      have qf4 : (f1 : Int) ≤ 1 := by omega
      obtain ⟨g0, hg0⟩ : ∃ n : Nat, n = i / 32 := ⟨_, rfl⟩
      obtain ⟨g1, hg1⟩ : ∃ n : Nat, n = g0 % 2 := ⟨_, rfl⟩
      have qg0 : (i : Int).tdiv 32 = (g0 : Int) := by rw [hg0]; exact Int.tdiv_eq_ediv_of_nonneg (by omega)
      have qg1 : (g0 : Int).tmod 2 = (g1 : Int) := by rw [hg1]; exact Int.tmod_eq_emod_of_nonneg (by omega)
      have qg2 : (g0 : Int) ≤ 9223372036854775807 := by omega
      have qg3 : (g1 : Int) ≤ 9223372036854775807 := by omega
      have qg4 : (g1 : Int) ≤ 1 := by omega
      obtain ⟨c0, hc0⟩ : ∃ n : Nat, n = i / 4 := ⟨_, rfl⟩
      obtain ⟨c1, hc1⟩ : ∃ n : Nat, n = c0 % 2 := ⟨_, rfl⟩
      have qc0 : (i : Int).tdiv 4 = (c0 : Int) := by rw [hc0]; exact Int.tdiv_eq_ediv_of_nonneg (by omega)
      have qc1 : (c0 : Int).tmod 2 = (c1 : Int) := by rw [hc1]; exact Int.tmod_eq_emod_of_nonneg (by omega)
      have qc2 : (c0 : Int) ≤ 9223372036854775807 := by omega
      have qc3 : (c1 : Int) ≤ 9223372036854775807 := by omega
      have qc4 : (c1 : Int) ≤ 1 := by omega
      obtain ⟨b0, hb0⟩ : ∃ n : Nat, n = i / 2 := ⟨_, rfl⟩
      obtain ⟨b1, hb1⟩ : ∃ n : Nat, n = b0 % 2 := ⟨_, rfl⟩
      have qb0 : (i : Int).tdiv 2 = (b0 : Int) := by rw [hb0]; exact Int.tdiv_eq_ediv_of_nonneg (by omega)
      have qb1 : (b0 : Int).tmod 2 = (b1 : Int) := by rw [hb1]; exact Int.tmod_eq_emod_of_nonneg (by omega)
      have qb2 : (b0 : Int) ≤ 9223372036854775807 := by omega
      have qb3 : (b1 : Int) ≤ 9223372036854775807 := by omega
      have qb4 : (b1 : Int) ≤ 1 := by omega
      have HLT := Lib.hid hlt
      clear hi hlt ha1 hb0 hb1 hc0 hc1 he0 he1 hf0 hf1 hg0 hg1
      obtain ⟨x, hx⟩ : ∃ x : Ky, (⟨3, (a1 : Int), 1 + (b1 : Int), 0, (c1 : Int), 0⟩ : Ky) = x := ⟨_, rfl⟩
      obtain ⟨y, hy⟩ : ∃ y : Ky, (⟨3, (e1 : Int), 1 + (f1 : Int), 0, (g1 : Int), 0⟩ : Ky) = y := ⟨_, rfl⟩
      have HBX := Lib.hid (hx ▸ builtK (a1 : Int) (1 + (b1 : Int)) (c1 : Int))
      have HBY := Lib.hid (hy ▸ builtK (e1 : Int) (1 + (f1 : Int)) (g1 : Int))
      clear hx hy
      go_wp2_with (first
        | (show wpList _ _ _ ({ dst := some 51, op := .build _ _, type := _, pos := _, after := _, guard := _ } :: _) _ _; refine wpList_yields (S := fun _ => True) (y_b4 (by rfl) _ _ _ _ (by rfl) (by rfl) (by rfl) (by rfl) (by rfl) HBX.out) trivial ?_)
        | (show wpList _ _ _ ({ dst := some 62, op := .build _ _, type := _, pos := _, after := _, guard := _ } :: _) _ _; refine wpList_yields (S := fun _ => True) (y_b4 (by rfl) _ _ _ _ (by rfl) (by rfl) (by rfl) (by rfl) (by rfl) HBY.out) trivial ?_)
        | (show wpList _ _ _ ({ dst := none, op := .store _ (.tmp 7) (.tmp 51), type := _, pos := _, after := _, guard := _ } :: _) _ _; refine wpList_store_new (l := kl x) (l0 := kl zk) (ty := 30) rfl (.tmp 7) (.tmp 51) (by rfl) (wr.heap.size) rfl (by rfl) (by rfl) size30 rfl (kl_one _) ?_)
        | (show wpList _ _ _ ({ dst := none, op := .store _ (.tmp 8) (.tmp 62), type := _, pos := _, after := _, guard := _ } :: _) _ _; refine wpList_store_new (l := kl y) (l0 := kl zk) (ty := 30) rfl (.tmp 8) (.tmp 62) (by rfl) (wr.heap.size + 1) (by simp) (by rfl) (by rfl) size30 rfl (kl_one _) ?_))
      have HKY := Lib.hid (((HKB.out.alloc (.cells (kl x).toArray 30)).more (Blk.new wr 30 (kl x).toArray)).alloc (.cells (kl y).toArray 30) |>.more (Blk.new_of (wr.alloc (.cells (kl x).toArray 30)) 30 (kl y).toArray (g := wr.heap.size + 1) (by simp)))
      generalize ((wr.alloc (.cells (kl x).toArray 30)).alloc (.cells (kl y).toArray 30)) = W2 at HKY ⊢
      generalize W2.heap.size = N2 at HKY
      generalize wr.heap.size = kb at HKY ⊢
      clear HKB
      go_loopw [9, 10, 11, 12] (fun q9 _ _ _ W => ∃ k : Nat, k ≤ 5 ∧ q9 = .int .i64 k ∧ Kb w [(kb + 1, 30, (kl y).toArray), (kb, 30, (kl x).toArray), (w.heap.size, 49, (ocs l).toArray)] N2 W) (fun q9 _ _ _ _ => 6 - (intOf q9).toNat)
      case atStart => exact ⟨3, by omega, rfl, HKY.out⟩
      case round =>
        obtain ⟨k, hk, rfl, hkb⟩ := hrel
        clear HKY
        have HK1 := Lib.hid hkb
        clear hkb
        by_cases hlt : k < 5
        · have g0' : decide ((k : Int) < 5) = true := decide_eq_true (by omega)
          have g1' : decide (k < 5) = true := decide_eq_true hlt
          go_wp2_with (first
            | (go_at_call 8; refine (HMD.out _ (HT.out.below HK1.out.bel) (HRD.out _ (HK1.out.blk _ (List.mem_cons_of_mem _ (List.mem_cons_of_mem _ List.mem_cons_self))).2)).mono ?_; rintro e w1 ⟨q, rfl, hq, ⟨A', cap', ps, hs⟩, b1⟩; have HK2 := Lib.hid (HK1.out.below b1); have HS1 := Lib.hid hs; have HPS := Lib.hid (show ∀ i ∈ ps, N2 ≤ i from fun i hi => by have h1 := (hs.pps i hi).1; have h2 := HK1.out.sz; omega); have HFAR := Lib.hid (show ∀ a, (some ⟨w.heap.size, 0, none⟩ : Option Addr) = some a → a.block ∉ ps from fun a e hm => by have h1 := (hs.pps _ hm).1; have h2 := HK1.out.sz; have h3 := (HK1.out.blk _ (List.mem_cons_of_mem _ (List.mem_cons_of_mem _ List.mem_cons_self))).1; injection e with e; subst e; simp only at h1 h3; omega); clear b1 hq hs)
            | (show wpList _ _ _ ({ dst := some 73, op := .load _ _, type := _, pos := _, after := _, guard := _ } :: _) _ _; refine wpList_yields (S := fun w' => KeyAt w' kb 0 x) (y_kyG (by rfl) (.tmp 7) (by rfl) kb 0 (by rfl) x (fun _ h => h)) (HK2.out.blk _ (List.mem_cons_of_mem _ List.mem_cons_self)).2.klat ?_)
            | (show wpList _ _ _ ({ dst := some 74, op := .load _ _, type := _, pos := _, after := _, guard := _ } :: _) _ _; refine wpList_yields (S := fun w' => KeyAt w' (kb + 1) 0 y) (y_kyG (by rfl) (.tmp 8) (by rfl) (kb + 1) 0 (by rfl) y (fun _ h => h)) (HK2.out.blk _ List.mem_cons_self).2.klat ?_)
            | (show wpList _ _ _ ({ dst := some 75, op := .build _ _, type := _, pos := _, after := _, guard := _ } :: _) _ _; refine wpList_yields (S := fun _ => True) (y_b3 (by rfl) _ _ _ (by rfl) (by rfl) (by rfl) (by rfl) (builtA (k : Int) x y)) trivial ?_)
            | (go_at_call 10; refine (does_any HS1.out HL3.out (by decide) (by decide) HOK.out (HT.out.below HK2.out.bel) (HRD.out _ (HK2.out.blk _ (List.mem_cons_of_mem _ (List.mem_cons_of_mem _ List.mem_cons_self))).2) HFAR.out ⟨(k : Int), 0, 0, x, y, [], by decide⟩).mono ?_; rintro e w2 ⟨L2, c2, rfl, hL2, ⟨os2, hs2, hr2, hl2, ho2⟩, hf2⟩; have HK3 := Lib.hid (HK2.out.fr hf2 HPS.out); have HS2 := Lib.hid hs2; have HR2 := Lib.hid hr2; have HL2 := Lib.hid hl2; clear hL2 hs2 hr2 hl2 ho2 hf2)
            | (go_at_call 11; refine (same_n HS2.out HL2.out (by decide) (by decide) _ _ HR2.out).mono ?_; rintro e w3 ⟨rfl, b3⟩; have HK4 := Lib.hid (HK3.out.below b3); clear b3))
          go_roundw
          case rel => exact ⟨k + 1, by omega, by go_num, HK4.out⟩
          case measure => simp [intOf]; omega
        · have g0' : decide ((k : Int) < 5) = false := decide_eq_false (by omega)
          have g1' : decide (k < 5) = false := decide_eq_false hlt
          clear hk hlt
          have hi64 := HLT.out
          go_wp2_with fail
          go_roundw
          case rel => exact ⟨i + 1, by omega, by go_num, _, Kb.less (Kb.less HK1.out)⟩
          case measure => simp [intOf]; omega
    · obtain rfl : i = 64 := by omega
      have e0 : decide ((64 : Int) < 64) = false := rfl
      go_wp2_with (first
        | (go_at_call 9; refine (known_any _ (HT.out.below HKB.out.bel)).mono ?_; rintro e v9 ⟨rfl, b_⟩; have B9 := Lib.hid (HKB.out.bel.trans (b_.mono (HKB.out.bel).size)); clear b_))
      go_ret
      exact ⟨rfl, B9.out⟩
set_option maxRecDepth 8000 in
theorem walk (w : World) (hL : laidMetH Tryd.prog laidK w) (a b : List UInt8) : Calls Tryd.prog 7 #[.string (st a), .string (st b)] w fun e w' => e = .returned (.bool true) ∧ Below w.heap.size w w' := by
  by_cases h1 : a.length ≤ 64
  · by_cases h2 : b.length ≤ 64
    · exact walk_ok w (tab_of hL) a b h1 h2
    · exact walk_big w (tab_of hL) a b (.inr ⟨h1, by omega⟩)
  · exact walk_big w (tab_of hL) a b (.inl (by omega))
set_option maxRecDepth 100000 in
theorem lifted (os : Os) (started : os.Started) (H : Type) (enc : TypeId × Value → H) :
    ReturnsInHanded {} Tryd.checked os 7 .any (fun w args => (Rows.pagesPairsSpec.pre enc Tryd.prog Tryd.f7 [] false w args ∧ laidMetH Tryd.prog laidK w) ∧ sizedMet enc Tryd.prog Tryd.f7 (OpenSpec.ofChange Rows.pagesPairsSpec) false w args) (Rows.pagesPairsSpec.post enc Tryd.prog Tryd.f7 false true false false) := by
  refine returnsInHanded_of_change_and (C := Tryd.checked) (X := fun w _ => laidMetH Tryd.prog laidK w) (fun _ _ _ hh h => h.of_heap hh) own started (by kernel_rfl) Tryd.func7
    (ChangeSpec.witness_shaped (enc := enc) (C := Tryd.checked) (os := os) (X := fun w _ => laidMetH Tryd.prog laidK w) false (World.doorLaid Tryd.prog 40 os) #[.string { data := #[] }, .string { data := #[] }] 8 rfl (World.shaped_of_RefB (by kernel_rfl) (by kernel_rfl)) (by kernel_rfl) (by kernel_rfl) (by kernel_rfl) (door_met os _)) ?_
  intro W base args ds gs before hval0 hW _ _ hL _
  have hval : ∀ (j : Nat) t v, Tryd.f7.params[j]? = some t → args[j]? = some v → Value.okWide Tryd.prog W .any base t v := hval0
  have hW' := hW
  obtain ⟨p, q, hA0, hV, rfl, hfz, hnd⟩ := hW
  have hA : DataW.TrodAll enc Tryd.prog W 0 (fun _ => true) true Tryd.f7.params.toList args.toList ds p := hA0
  rw [Tryd.params7] at hA hval
  obtain ⟨v0, vs0, d0, ds0, p0, q0, hargs, rfl, rfl, h0, t0⟩ := trodAll_cons hA
  obtain ⟨v1, vs1, d1, ds1, p1, q1, rfl, rfl, rfl, h1, t1⟩ := trodAll_cons t0
  obtain ⟨rfl, rfl, rfl⟩ := trodAll_nil t1
  obtain rfl : args = #[v0, v1] := by cases args; simp_all
  obtain ⟨rfl, rfl⟩ := trodVars_none hV
  have k0 := h0
  have lt0 : ∀ x ∈ p0, x.block < W.heap.size := by obtain ⟨m, hm⟩ := k0; exact DataW.trod_lt m _ _ _ hm
  obtain ⟨s0, rfl⟩ := open_st (hval 0 9 v0 rfl rfl) h0
  have k1 := h1
  have lt1 : ∀ x ∈ p1, x.block < W.heap.size := by obtain ⟨m, hm⟩ := k1; exact DataW.trod_lt m _ _ _ hm
  obtain ⟨s1, rfl⟩ := open_st (hval 1 9 v1 rfl rfl) h1
  clear hA0 hval0
  refine (walk W hL s0 s1).mono fun e W' ⟨he, bel⟩ => ?_
  subst he
  exact ⟨_, rfl, _, _, _, [], _, [], hW', trodAll_mk1 (shut_bool Tryd.underlying4 _), (trodAll_cons_mk (Below.trod laidOut (by kernel_rfl) (of_decide_eq_true (by kernel_rfl)) k0 bel lt0) (trodAll_cons_mk (Below.trod laidOut (by kernel_rfl) (of_decide_eq_true (by kernel_rfl)) k1 bel lt1) trodAll_mk0)), rfl, bel.frame _, fun h => by cases h⟩
theorem over : Rows.pagesPairsRow.holds Tryd.pinned (OpenSpec.ofChange Rows.pagesPairsSpec) :=
  OpenClaim.holds_of_wide 7 Tryd.f7 rfl rfl rfl rfl rfl rfl rfl ⟨rfl, rfl, rfl, rfl, rfl⟩ rfl rfl rfl rfl rfl (by kernel_rfl) Tryd.func7 (by kernel_rfl)
    (of_decide_eq_true (by kernel_rfl)) (by unfold Func.isWrapper; first | (rw [if_pos (by decide +kernel)]; kernel_rfl) | (rw [if_neg (by decide +kernel)]; exact ⟨rfl, rfl⟩))
    (fun os started H enc _ => lifted os started H enc)
set_option maxRecDepth 8000 in
theorem proved : Rows.PagesPairsCardSaid :=
  Claim7.holds_tied_plain_at .later [] [.data] true Rows.pagesPairsCard.stood.harness false
    over (fun _ h => by cases h) (by kernel_rfl) (fun _ h => by cases h) pagesPairs_row_tie rfl ⟨rfl, rfl⟩ (by kernel_rfl) rfl
    (fun f fn hf hfn => by
      obtain rfl : f = 7 := Option.some.inj ((show Tryd.prog.funcNamed "chatelaine/chatelainelaw10.PagesPairs" = some 7 by kernel_rfl).symm.trans hf) |>.symm
      obtain rfl : fn = Tryd.f7 := (Option.some.inj (Tryd.func7.symm.trans hfn)).symm
      exact ⟨by kernel_rfl, fun j t ht => by
        rw [Tryd.params7] at ht
        have hm : t ∈ [9, 9] := by simpa using Array.mem_of_getElem? ht
        have hall : ([9, 9].all fun u => !Tryd.prog.wantsStandIn u) = true := by kernel_rfl
        exact (show Tryd.prog.wantsStandIn t = false by simpa using List.all_eq_true.1 hall t hm)⟩)
    (by kernel_rfl)
end Go.Proofs.YtedlacdijkggjaaDoor.pagesPairs

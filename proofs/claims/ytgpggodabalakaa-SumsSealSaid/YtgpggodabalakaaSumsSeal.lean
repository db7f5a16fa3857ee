/- The law SumsSeal holds for every slice of bytes: sums.Seal tells the bytes with their sum's bytes behind, in memory of its own, and the bytes stay. No condition. -/
import Derived.Test.YtgpggodabalakaaBump
import Derived.Deep.DrawnRows
import Derived.Deep.RegionHeld3
namespace Go.Proofs.Ytgpggodabalakaa.sumsSeal
open Go.ChangeShapes Go.WideShapes Go.ChangeAt Go.RowKit
attribute [local go_sem ↓] Go.wp_at_zero Go.wp_at_succ
theorem rd77s (w : World) (t : TypeId) : Rd (w.alloc (.cells #[.int .u8 77, .int .u8 77, .int .u8 77, .int .u8 77, .int .u8 77] t)) (some ⟨w.heap.size, 0, none⟩) [77, 77, 77, 77, 77] := rd_cells w [77, 77, 77, 77, 77] t (0, 0)
set_option maxHeartbeats 800000 in
theorem walk_long (A : Option Addr) (n c : Nat) (w : World) (h : 3000 < n) :
    Calls Try.prog 7 #[.slice A n c] w fun e w' => e = .returned (.bool true) ∧ Below w.heap.size w w' := by
  go_enter Try.func7, Try.ntmps7
  go_wp2_with (go_at_call 11; refine (works_any _).mono ?_; rintro e w9 ⟨rfl, hb9⟩)
  go_ret
  exact ⟨rfl, hb9⟩
theorem cut_more (g k cap : Nat) (h : k + 1 ≤ cap) (hk : k ≤ 3000) (W : World) : (Instr.slice 22 (.slice (some ⟨g, 0, none⟩) k cap) none (some (.int .i64 ((k : Int) + 1))) none).run Try.prog W = .ok (.slice (some ⟨g, 0, none⟩) (k + 1) cap) W := by
  have hw2 : (0 : Int) ≤ (k : Int) + 1 := by omega
  have hw3 : (k : Int) + 1 ≤ (cap : Int) := by omega
  have hw4 : ((k : Int) + 1).toNat = k + 1 := by omega
  have hw1 : IntKind.i64.wrap ((k : Int) + 1) = (k : Int) + 1 := wrap_i64_of _ hw2 (by omega)
  go_simp
theorem after_seal (wr w w5 : World) (v5 : Value) (g k g3 cap3 : Nat) (l : List UInt8) (hn : l.length = k) (hrx : Rd wr (some ⟨g3, 0, none⟩) (sealN l)) (hgw : g < wr.heap.size) (hc : wr.cell? ⟨g, k, none⟩ = some (.int .u8 77)) (hB : Below w.heap.size w wr)
    (hown : w5.ownsRow wr.drew.heap.size 5 1 v5 (k + 4) (bv (sealN l))) (hb : Below wr.drew.heap.size wr.drew w5) :
    ∃ g5 cap5, v5 = .slice (some ⟨g5, 0, none⟩) (k + 4) cap5 ∧ (convert 22 9 (.slice (some ⟨g5, 0, none⟩) (k + 4) cap5)).run Try.prog w5 = .ok (.string (st (sealN l))) w5 ∧
      (convert 22 9 (.slice (some ⟨g3, 0, none⟩) (k + 4) cap3)).run Try.prog w5 = .ok (.string (st (sealN l))) w5 ∧ w5.cell? ⟨g, k, none⟩ = some (.int .u8 77) ∧ Hid (Below w.heap.size w w5) ∧ Hid (Rd w5 (some ⟨g3, 0, none⟩) (sealN l)) := by
  obtain ⟨g5, cap5, rfl, _⟩ := own_some hown (by omega)
  have hl : (sealN l).length = k + 4 := by rw [sealN_length, hn]
  exact ⟨g5, cap5, rfl, run_str w5 Try.underlying22 Try.underlying5 Try.underlying9 hl (Rd.of_own hown), run_str w5 Try.underlying22 Try.underlying5 Try.underlying9 hl (hrx.drew.below hb), (hb.cell (p := ⟨g, k, none⟩) hgw).trans hc, hB.drew.trans (hb.mono hB.size), hrx.drew.below hb⟩
set_option maxHeartbeats 400000 in
theorem walk_short (A : Option Addr) (n c : Nat) (l : List UInt8) (w : World) (hs : n ≤ 3000) (hn : l.length = n) (hr : Rd w A l) :
    Calls Try.prog 7 #[.slice A n c] w fun e w' => e = .returned (.bool true) ∧ Below w.heap.size w w' := by
  have HR := Lib.hid hr
  have HN := Lib.hid hn
  have HR0 := Lib.hid (hr.below (below_lit0 w))
  clear hr hn
  go_enter Try.func7, Try.ntmps7
  go_wp2_with (first
    | (at_builtin; refine wpList_append_bytes _ rfl (.tmp 10) (.tmp 11) _ rfl Try.underlying22 infoU8 rfl (lit0 w) rfl HR0.out HN.out (by omega) (by simp) ?_; intro v1 w1 hown1 hg1 hat1; simp only [Nat.zero_add, List.nil_append] at hown1; have HO1 := Lib.hid hown1; have HB1 := Lib.hid (below_append (below_lit0 w) (lit0 w) hg1 (Nat.le_refl _) (by simp)); have hz1 := HB1.out.size; clear hown1 hg1 hat1)
    | (at_builtin; refine wpList_append_bytes _ rfl (.tmp 12) (.tmp 13) _ rfl Try.underlying22 infoU8 rfl (HO1.out.alloc _) rfl (rd77s _ _) rfl (by omega) (by simp; omega) ?_; intro v2 w2 hown2 hg2 hat2; have HB2 := Lib.hid (below_append (HB1.out.alloc hz1 _) (HO1.out.alloc _) hg2 (Nat.le_refl _) (by simp; omega)); obtain ⟨g, cap, rfl, hcap⟩ := own_some hown2 (by omega); have HO2 := Lib.hid hown2; have HR2 := Lib.hid (Rd.of_own hown2); have hi1 := cast_nonneg n; have hi2 := cast_le_of (show n ≤ cap by omega); have hi3 := cast_le_of (show n + 1 ≤ cap by omega); clear hown2 hg2 hat2)
    | (go_at_call 20; refine (seal_any _ n _ l _ HN.out (by have := HR2.out.take n; rw [List.take_left' HN.out] at this; exact this) (by omega)).mono ?_; rintro e w3 ⟨v3, rfl, hown3, hb3⟩; obtain ⟨g3, cap3, rfl, hcap3⟩ := own_some hown3 (by omega); have HO3 := Lib.hid hown3; have HB3 := Lib.hid (HB2.out.trans (hb3.mono HB2.out.size)); have HO3m := Lib.hid (own_below HO2.out hb3); clear hb3 hown3))
  have hgl := (HO2.out.lt g rfl).2
  have hgb := (HO2.out.lt g rfl).1
  have hg3 := (HO3.out.lt g3 rfl).1
  obtain ⟨L, hL⟩ : ∃ L : List UInt8, L = l ++ [77, 77, 77, 77, 77] := ⟨_, rfl⟩
  have HL := Lib.hid hL
  have HLn := Lib.hid (show L.length = n + 5 by rw [hL, List.length_append, HN.out]; rfl)
  have HM := Lib.hid (show w3.ownsRow w.heap.size 5 1 (.slice (some ⟨g, 0, none⟩) (n + 5) cap) (n + 5) (bv L) from hL ▸ HO3m.out)
  clear hL
  go_loopw [5] (fun i wr => ∃ k : Nat, k ≤ n ∧ i = .int .i64 k ∧ wr.ownsRow w.heap.size 5 1 (.slice (some ⟨g, 0, none⟩) (n + 5) cap) (n + 5) (bv (bump k L)) ∧ w3.grownBy wr (some g)) (fun i _ => n - (intOf i).toNat)
  case atStart => exact ⟨0, by omega, rfl, by rw [bump_zero]; exact HM.out, World.grownBy.refl _ _⟩
  case round =>
    obtain ⟨k, hk, rfl, hown, hgr⟩ := hrel
    by_cases hlt : k < n
    · have hkL : k < L.length := by have := HLn.out; omega
      have hc := hown.cellAt k (by omega)
      have hf := hown.frozenAt k
      rw [bv_get, bump_get k L k (Nat.le_refl _) hkL] at hc
      simp only [Option.map_some] at hc
      have HS := Lib.hid (hown.stored k (.int .u8 ((L[k] + 1).toNat : Int)))
      have HG := Lib.hid hgr
      have HU := Lib.hid (u8_succ L[k])
      have HX := Lib.hid (bump_set k L hkL)
      clear hown hgr
      go_wp2
      go_roundw
      case rel =>
        rw [HU.out]
        have h1 := HS.out.1
        rw [HX.out] at h1
        exact ⟨k + 1, by omega, by go_num, h1, grow_trans HG.out HS.out.2⟩
      case measure => simp [intOf]; omega
    · obtain rfl : k = n := by omega
      have hO3 := HO3.out.kept hgr (.inr (by simp [Value.ownBlock]; omega))
      have hBr := below_grow HB3.out hgr hgb HB3.out.size
      have hcell := hown.cellAt k (by omega)
      rw [bv_get, bump_get k L k (Nat.le_refl _) (by have := HLn.out; omega)] at hcell
      have h77 : L[k]'(by have := HLn.out; omega) = 77 := by
        have : L[k]? = some 77 := by rw [HL.out, List.getElem?_append_right (by have := HN.out; omega), HN.out, Nat.sub_self]; rfl
        rw [List.getElem?_eq_getElem (by have := HLn.out; omega)] at this
        injection this
      rw [h77] at hcell
      simp only [Option.map_some] at hcell
      have hx0 := run_str (P := Try.prog) wr.drew Try.underlying22 Try.underlying5 Try.underlying9 (c := cap3) (by rw [sealN_length, HN.out]) (Rd.of_own hO3).drew
      have HRX := Lib.hid (Rd.of_own hO3)
      have HRr := Lib.hid (HR.out.below hBr)
      have HBr := Lib.hid hBr
      have HC : Hid (wr.cell? ⟨g, k, none⟩ = some (.int .u8 77)) := hcell
      have hgw : g < wr.heap.size := Nat.lt_of_lt_of_le (HO3m.out.lt g rfl).2 hgr.size
      clear hO3 hBr hcell h77 hown hgr
      have HSEAL := Lib.hid (rseal_any A k c l wr.drew HN.out HRr.out.drew (by omega))
      have HAFT := Lib.hid (fun w5 v5 => after_seal wr w w5 v5 g k g3 cap3 l HN.out HRX.out hgw HC.out HBr.out)
      clear HR HR0 HB1 hz1 HB2 HR2 HO2 HO3m HL HLn HM HO1 HO3 HRX HRr HC hgw hcap3 hcap hgl hgb hg3 HB3
      have hw2 : (0 : Int) ≤ (k : Int) + 1 := by omega
      have hw3 : (k : Int) + 1 ≤ (cap : Int) := by omega
      have hw4 : ((k : Int) + 1).toNat = k + 1 := by omega
      have hw5 : (k : Int) < (k : Int) + 1 := by omega
      have hw1 : IntKind.i64.wrap ((k : Int) + 1) = (k : Int) + 1 := wrap_i64_of _ hw2 (by omega)
      have hcm := cut_more g k cap (by omega) hs
      go_wp2_with fail
      refine wp_region_held_drew (S := fun w' => (convert 22 9 (.slice (some ⟨g3, 0, none⟩) (k + 4) cap3)).run Try.prog w' = .ok (.string (st (sealN l))) w') (by kernel_rfl) hx0 (fun hHeld => ?_)
      refine wpAnyH_take (i := 0) (v := ?v0) rfl (by kernel_rfl) (by kernel_rfl) (by kernel_rfl) (fun _ _ _ h => h) (Or.inl ⟨by rfl, ?hy0⟩) hHeld ?rest0
      case hy0 =>
        intro w' hSw
        go_simp
        first | done | with_reducible rfl
      simp only [Act.put, List.getElem_toArray, List.getElem_cons_zero, List.setIfInBounds_toArray, List.set_cons_zero, List.set_cons_succ]
      refine wpAnyH_take (i := 1) (v := ?v1) rfl (by kernel_rfl) (by kernel_rfl) (by kernel_rfl) (fun _ _ _ h => h) (Or.inl ⟨by rfl, ?hy1⟩) hHeld ?rest1
      case hy1 =>
        intro w' hSw
        go_simp
        first | done | with_reducible rfl
      simp only [Act.put, List.getElem_toArray, List.getElem_cons_succ, List.getElem_cons_zero, List.setIfInBounds_toArray, List.set_cons_zero, List.set_cons_succ]
      refine wpAnyH_take (i := 2) (v := ?v2) rfl (by kernel_rfl) (by kernel_rfl) (by kernel_rfl) (fun _ _ _ h => h) (Or.inl ⟨by rfl, ?hy2⟩) hHeld ?rest2
      case hy2 =>
        intro w' hSw
        go_simp
        first | done | with_reducible rfl
      simp only [Act.put, List.getElem_toArray, List.getElem_cons_succ, List.getElem_cons_zero, List.setIfInBounds_toArray, List.set_cons_zero, List.set_cons_succ]
      refine wpAnyH_ready (rs := [3]) (by kernel_rfl) (by simp) ?_
      refine AllReadyH.cons rfl (fun K hK => ?_) AllReadyH.nil
      go_simp
      refine HSEAL.out.mono ?_
      rintro e w5 ⟨v5, rfl, hown5, hb5⟩
      obtain ⟨g5, cap5, rfl, hs5, hs6, hc5, HB5, HRX5⟩ := HAFT.out w5 v5 hown5 hb5
      clear hown5 hb5
      go_wp2_with fail
      refine hK.out _ _ hs6 (fun hHeld => ?_)
      clear hK K
      try simp only [Act.put, List.getElem_toArray, List.getElem_cons_succ, List.getElem_cons_zero, List.setIfInBounds_toArray, List.set_cons_zero, List.set_cons_succ]
      refine wpAnyH_ready (rs := [4]) (by kernel_rfl) (by simp) ?_
      refine AllReadyH.cons rfl (fun K hK => ?_) AllReadyH.nil
      go_simp
      refine hK.out _ _ hs6 (fun hHeld => ?_)
      clear hK K
      try simp only [Act.put, List.getElem_toArray, List.getElem_cons_succ, List.getElem_cons_zero, List.setIfInBounds_toArray, List.set_cons_zero, List.set_cons_succ]
      refine wpAnyH_take (i := 5) (v := ?v5) rfl (by kernel_rfl) (by kernel_rfl) (by kernel_rfl) (fun _ _ _ h => h) (Or.inl ⟨by rfl, ?hy5⟩) hHeld ?rest5
      case hy5 =>
        intro w' hSw
        go_simp
        first | done | with_reducible rfl
      simp only [Act.put, List.getElem_toArray, List.getElem_cons_succ, List.getElem_cons_zero, List.setIfInBounds_toArray, List.set_cons_zero, List.set_cons_succ]
      refine wpAnyH_take (i := 6) (v := ?v6) rfl (by kernel_rfl) (by kernel_rfl) (by kernel_rfl) (fun _ _ _ h => h) (Or.inl ⟨by rfl, ?hy6⟩) hHeld ?rest6
      case hy6 =>
        intro w' hSw
        go_simp
        first | done | with_reducible rfl
      simp only [Act.put, List.getElem_toArray, List.getElem_cons_succ, List.getElem_cons_zero, List.setIfInBounds_toArray, List.set_cons_zero, List.set_cons_succ]
      refine wpAnyH_take (i := 7) (v := ?v7) rfl (by kernel_rfl) (by kernel_rfl) (by kernel_rfl) (fun _ _ _ h => h) (Or.inl ⟨by rfl, ?hy7⟩) hHeld ?rest7
      case hy7 =>
        intro w' hSw
        go_simp
        first | done | with_reducible rfl
      simp only [Act.put, List.getElem_toArray, List.getElem_cons_succ, List.getElem_cons_zero, List.setIfInBounds_toArray, List.set_cons_zero, List.set_cons_succ]
      refine wpAnyH_take (i := 8) (v := ?v8) rfl (by kernel_rfl) (by kernel_rfl) (by kernel_rfl) (fun _ _ _ h => h) (Or.inl ⟨by rfl, ?hy8⟩) hHeld ?rest8
      case hy8 =>
        intro w' hSw
        go_simp
        first | done | with_reducible rfl
      simp only [Act.put, List.getElem_toArray, List.getElem_cons_succ, List.getElem_cons_zero, List.setIfInBounds_toArray, List.set_cons_zero, List.set_cons_succ]
      refine wpAnyH_take (i := 9) (v := ?v9) rfl (by kernel_rfl) (by kernel_rfl) (by kernel_rfl) (fun _ _ _ h => h) (Or.inl ⟨by rfl, ?hy9⟩) hHeld ?rest9
      case hy9 =>
        intro w' hSw
        go_simp
        first | done | with_reducible rfl
      simp only [Act.put, List.getElem_toArray, List.getElem_cons_succ, List.getElem_cons_zero, List.setIfInBounds_toArray, List.set_cons_zero, List.set_cons_succ]
      refine wpAnyH_take (i := 10) (v := ?v10) rfl (by kernel_rfl) (by kernel_rfl) (by kernel_rfl) (fun _ _ _ h => h) (Or.inl ⟨by rfl, ?hy10⟩) hHeld ?rest10
      case hy10 =>
        intro w' hSw
        go_simp
        first | done | with_reducible rfl
      simp only [Act.put, List.getElem_toArray, List.getElem_cons_succ, List.getElem_cons_zero, List.setIfInBounds_toArray, List.set_cons_zero, List.set_cons_succ]
      refine wpAnyH_take (i := 11) (v := ?v11) rfl (by kernel_rfl) (by kernel_rfl) (by kernel_rfl) (fun _ _ _ h => h) (Or.inl ⟨by rfl, ?hy11⟩) hHeld ?rest11
      case hy11 =>
        intro w' hSw
        go_simp
        first | done | with_reducible rfl
      simp only [Act.put, List.getElem_toArray, List.getElem_cons_succ, List.getElem_cons_zero, List.setIfInBounds_toArray, List.set_cons_zero, List.set_cons_succ]
      refine wpAnyH_take (i := 12) (v := ?v12) rfl (by kernel_rfl) (by kernel_rfl) (by kernel_rfl) (fun _ _ _ h => h) (Or.inl ⟨by rfl, ?hy12⟩) hHeld ?rest12
      case hy12 =>
        intro w' hSw
        go_simp
        first | done | with_reducible rfl
      simp only [Act.put, List.getElem_toArray, List.getElem_cons_succ, List.getElem_cons_zero, List.setIfInBounds_toArray, List.set_cons_zero, List.set_cons_succ]
      refine wpAnyH_take (i := 13) (v := ?v13) rfl (by kernel_rfl) (by kernel_rfl) (by kernel_rfl) (fun _ _ _ h => h) (Or.inl ⟨by rfl, ?hy13⟩) hHeld ?rest13
      case hy13 =>
        intro w' hSw
        go_simp
        first | done | with_reducible rfl
      simp only [Act.put, List.getElem_toArray, List.getElem_cons_succ, List.getElem_cons_zero, List.setIfInBounds_toArray, List.set_cons_zero, List.set_cons_succ]
      refine wpAnyH_take (i := 14) (v := ?v14) rfl (by kernel_rfl) (by kernel_rfl) (by kernel_rfl) (fun _ _ _ h => h) (Or.inl ⟨by rfl, ?hy14⟩) hHeld ?rest14
      case hy14 =>
        intro w' hSw
        go_simp
        first | done | with_reducible rfl
      simp only [Act.put, List.getElem_toArray, List.getElem_cons_succ, List.getElem_cons_zero, List.setIfInBounds_toArray, List.set_cons_zero, List.set_cons_succ]
      refine wpAnyH_ready (rs := [15]) (by kernel_rfl) (by simp) ?_
      refine AllReadyH.cons rfl (fun K hK => ?_) AllReadyH.nil
      go_simp
      refine hK.out _ _ hs6 (fun hHeld => ?_)
      clear hK K
      try simp only [Act.put, List.getElem_toArray, List.getElem_cons_succ, List.getElem_cons_zero, List.setIfInBounds_toArray, List.set_cons_zero, List.set_cons_succ]
      refine wpAnyH_take (i := 16) (v := ?v16) rfl (by kernel_rfl) (by kernel_rfl) (by kernel_rfl) (fun _ _ _ h => h) (Or.inl ⟨by rfl, ?hy16⟩) hHeld ?rest16
      case hy16 =>
        intro w' hSw
        go_simp
        first | done | with_reducible rfl
      simp only [Act.put, List.getElem_toArray, List.getElem_cons_succ, List.getElem_cons_zero, List.setIfInBounds_toArray, List.set_cons_zero, List.set_cons_succ]
      refine wpAnyH_take (i := 17) (v := ?v17) rfl (by kernel_rfl) (by kernel_rfl) (by kernel_rfl) (fun _ _ _ h => h) (Or.inl ⟨by rfl, ?hy17⟩) hHeld ?rest17
      case hy17 =>
        intro w' hSw
        go_simp
        first | done | with_reducible rfl
      simp only [Act.put, List.getElem_toArray, List.getElem_cons_succ, List.getElem_cons_zero, List.setIfInBounds_toArray, List.set_cons_zero, List.set_cons_succ]
      refine wpAnyH_take (i := 18) (v := ?v18) rfl (by kernel_rfl) (by kernel_rfl) (by kernel_rfl) (fun _ _ _ h => h) (Or.inl ⟨by rfl, ?hy18⟩) hHeld ?rest18
      case hy18 =>
        intro w' hSw
        go_simp
        first | done | with_reducible rfl
      simp only [Act.put, List.getElem_toArray, List.getElem_cons_succ, List.getElem_cons_zero, List.setIfInBounds_toArray, List.set_cons_zero, List.set_cons_succ]
      refine wpAnyH_ready (rs := [19]) (by kernel_rfl) (by simp) ?_
      refine AllReadyH.cons rfl (fun K hK => ?_) AllReadyH.nil
      go_simp
      refine (works_any _).mono ?_
      rintro e w9 ⟨rfl, hb9⟩
      have hs9 := run_str (P := Try.prog) w9 Try.underlying22 Try.underlying5 Try.underlying9 (c := cap3) (by rw [sealN_length, HN.out]) (HRX5.out.below hb9)
      go_wp2_with fail
      refine hK.out _ _ hs9 (fun hHeld => ?_)
      clear hK K
      try simp only [Act.put, List.getElem_toArray, List.getElem_cons_succ, List.getElem_cons_zero, List.setIfInBounds_toArray, List.set_cons_zero, List.set_cons_succ]
      refine wpAnyH_take (i := 20) (v := ?v20) rfl (by kernel_rfl) (by kernel_rfl) (by kernel_rfl) (fun _ _ _ h => h) (Or.inl ⟨by rfl, ?hy20⟩) hHeld ?rest20
      case hy20 =>
        intro w' hSw
        go_simp
        first | done | with_reducible rfl
      simp only [Act.put, List.getElem_toArray, List.getElem_cons_succ, List.getElem_cons_zero, List.setIfInBounds_toArray, List.set_cons_zero, List.set_cons_succ]
      refine wpAnyH_take (i := 21) (v := ?v21) rfl (by kernel_rfl) (by kernel_rfl) (by kernel_rfl) (fun _ _ _ h => h) (Or.inl ⟨by rfl, ?hy21⟩) hHeld ?rest21
      case hy21 =>
        intro w' hSw
        go_simp
        first | done | with_reducible rfl
      simp only [Act.put, List.getElem_toArray, List.getElem_cons_succ, List.getElem_cons_zero, List.setIfInBounds_toArray, List.set_cons_zero, List.set_cons_succ]
      refine wpAnyH_done (by kernel_rfl) ?_ _
      go_wp2
      go_ret
      exact ⟨rfl, HB5.out.trans (hb9.mono HB5.out.size)⟩
theorem walk (w : World) (A : Option Addr) (n c : Nat) (zs : List Int) (r0 : IsRow .u8 w A n c zs) :
    Calls Try.prog 7 #[.slice A n c] w fun e w' => e = .returned (.bool true) ∧ Below w.heap.size w w' := by
  obtain ⟨l, hn, _, hr⟩ := row_bytes r0
  by_cases hs : 3000 < n
  · exact walk_long A n c w hs
  · exact walk_short A n c l w (by omega) hn hr
set_option maxRecDepth 100000 in
theorem lifted (os : Os) (started : os.Started) (H : Type) (enc : TypeId × Value → H) :
    ReturnsInHanded {} Try.checked os 7 .any (Rows.sumsSealSpec.pre6 enc Try.prog Try.f7 Rows.sumsSealRow.domain false) (Rows.sumsSealSpec.post enc Try.prog Try.f7 false true false false) := by
  refine returnsInHanded_of_change (C := Try.checked) own started (by kernel_rfl) Try.func7
    (ChangeSpec.witness6 (enc := enc) (C := Try.checked) false ⟨#[], #[.slice none 0 0], []⟩ 8 (by kernel_rfl) (by kernel_rfl) (by kernel_rfl) (by kernel_rfl)) ?_
  intro W base args ds gs before hval0 hW hcnd _
  have hval : ∀ (j : Nat) t v, Try.f7.params[j]? = some t → args[j]? = some v → Value.okWide Try.prog W .any base t v := hval0
  have hW' := hW
  obtain ⟨p, q, hA0, hV, rfl, hfz, hnd⟩ := hW
  have hA : DataW.TrodAll enc Try.prog W 0 (fun _ => true) true Try.f7.params.toList args.toList ds p := hA0
  rw [Try.params7] at hA hval
  obtain ⟨v0, vs0, d0, ds0, p0, q0, hargs, rfl, rfl, h0, t0⟩ := trodAll_cons hA
  obtain ⟨rfl, rfl, rfl⟩ := trodAll_nil t0
  obtain rfl : args = #[v0] := by cases args; simp_all
  obtain ⟨rfl, rfl⟩ := trodVars_none hV
  obtain ⟨a0, len0, cap0, rfl⟩ := okWide_slice Try.underlying22 (hval 0 22 v0 rfl rfl)
  have k0 := h0
  have lt0 : ∀ x ∈ p0, x.block < W.heap.size := by obtain ⟨m, hm⟩ := k0; exact DataW.trod_lt m _ _ _ hm
  obtain ⟨z0, r0⟩ : ∃ zs, IsRow .u8 W a0 len0 cap0 zs := by
    obtain ⟨fuel, hf⟩ := h0
    rcases open_ints Try.underlying22 Try.underlying5 (by kernel_rfl) hf with ⟨hcs, _⟩ | ⟨x, l, c, zs, hcs, _, hl, hm, hz, _, hcell, hwz⟩
    · simp [Value.cells] at hcs
      obtain ⟨rfl, rfl, rfl⟩ := hcs
      exact ⟨[], .inl ⟨rfl, rfl, rfl, rfl⟩⟩
    · simp [Value.cells] at hcs
      obtain ⟨rfl, rfl, rfl⟩ := hcs
      exact ⟨zs, .inr ⟨_, rfl, hl, hm, by simpa using hz, hcell, hwz⟩⟩
  clear hA0 hval0
  refine (walk W a0 len0 cap0 z0 r0).mono fun e W' ⟨he, bel⟩ => ?_
  subst he
  exact ⟨_, rfl, _, _, _, [], _, [], hW', trodAll_mk1 (shut_bool Try.underlying4 _), (trodAll_cons_mk (Below.trod laidOut (by kernel_rfl) (of_decide_eq_true (by kernel_rfl)) k0 bel lt0) trodAll_mk0), rfl, bel.frame _, fun h => by cases h⟩
theorem over : Rows.sumsSealRow.holds Try.pinned (OpenSpec.ofChange Rows.sumsSealSpec) :=
  OpenClaim.holds_of_wide 7 Try.f7 rfl rfl rfl rfl rfl rfl rfl ⟨rfl, rfl, rfl, rfl, rfl⟩ rfl rfl rfl rfl rfl (by kernel_rfl) Try.func7 (by kernel_rfl)
    (of_decide_eq_true (by kernel_rfl)) (by unfold Func.isWrapper; first | (rw [if_pos (by decide +kernel)]; kernel_rfl) | (rw [if_neg (by decide +kernel)]; exact ⟨rfl, rfl⟩))
    (fun os started H enc _ => lifted os started H enc)
theorem proved : Rows.SumsSealSaid := over
end Go.Proofs.Ytgpggodabalakaa.sumsSeal

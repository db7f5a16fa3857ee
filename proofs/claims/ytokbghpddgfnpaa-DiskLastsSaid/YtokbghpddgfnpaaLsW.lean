/- law 2: DiskLasts, its walk: the writes. -/
import Derived.Test.YtokbghpddgfnpaaLs
import Derived.Test.YtokbghpddgfnpaaFlush
import Derived.Test.YtokbghpddgfnpaaWorks
import Derived.Test.YtokbghpddgfnpaaFailsS
import Derived.Test.YtokbghpddgfnpaaRegIn
namespace Go.Proofs.Ytokbghpddgfnpaa.diskLasts
open Go.RowKit
attribute [local go_sem] Oper.semAt_some
set_option maxRecDepth 8000 in
theorem zeroC : (Try.prog.info? 26).map (fun i => (i.zero, i.size)) = some (some (.agg #[.slice none 0 0, .int .i64 0, .int .i64 0]), 3) := by kernel_rfl
theorem zC (w : World) : (zeroValue 26).run Try.prog w = .ok (.agg #[.slice none 0 0, .int .i64 0, .int .i64 0]) w := (zero_of_info zeroC).1 w
theorem str_run {w : World} {A : Option Addr} {n c : Nat} {l : List UInt8} (hn : l.length = n) (hr : Rd w A l) : (convert 22 9 (.slice A n c)).run Try.prog w = .ok (.string (st l)) w :=
  run_str w Try.underlying22 Try.underlying5 Try.underlying9 hn hr
theorem rd_fr {S : Nat → Prop} {w w' : World} {A : Option Addr} {l : List UInt8} (h : Rd w A l) (hf : Fr S w w') (hn : ∀ a, A = some a → ¬ S a.block) : Rd w' A l := fun j hj => by
  obtain ⟨b, off, e, hc⟩ := h j hj
  exact ⟨b, off, e, (hf.cell (p := ⟨b, off + j, none⟩) (cell_lt hc) (hn ⟨b, off, none⟩ e)).trans hc⟩
set_option maxRecDepth 100000 in
set_option maxHeartbeats 8000000 in
theorem walk_main (w : World) (s : Nat) (s1 : 1 ≤ s) (s2 : s ≤ 12) (A : Option Addr) (n c : Nat) (l : List UInt8) (hn : l.length = n) (h3 : n ≤ 3000) (hr : Rd w A l) (SA : Option Addr) (sc : Nat) (la : List Ac) (hra : RdA w SA la) (hls : ∀ x ∈ la, x.lies w) (hlb : la.length ≤ 140737488351232)
    (KA : Option Addr) (kc : Nat) (cr : Cr) (hkr : RdB w KA cr.keep) (hk4 : cr.keep.length ≤ 400) (hb0 : 0 ≤ cr.bytes) (hb5 : cr.bytes ≤ 512) :
    Calls Try.prog 8 #[.int .i64 (s : Int), .slice A n c, .slice SA la.length sc, .agg #[.slice KA cr.keep.length kc, .int .i64 cr.torn, .int .i64 cr.bytes]] w fun e w' => e = .returned (.bool true) ∧ Below w.heap.size w w' := by
  obtain ⟨N, hN⟩ : ∃ N, N = s * 512 := ⟨_, rfl⟩
  have hz := z43
  have NE := Lib.hid hN
  have n1 : ¬ (3000 : Int) < (n : Int) := by omega
  have n2 : ¬ (400 : Int) < (cr.keep.length : Int) := by omega
  have n3 : ¬ cr.bytes < 0 := by omega
  have n4 : ¬ (512 : Int) < cr.bytes := by omega
  have m512 : IntKind.i64.wrap (512 * (s : Int)) = (N : Int) := by rw [show 512 * (s : Int) = (N : Int) by omega]; exact IntWalk.i64_in _ (by omega)
  have HRB := Lib.hid (hr.alloc (.cells #[.slice KA cr.keep.length kc, .int .i64 cr.torn, .int .i64 cr.bytes] 26))
  have HLN0 := Lib.hid hn
  have HN3 := Lib.hid h3
  have HR := Lib.hid hra
  have HRA := Lib.hid (hra.below ((Below.refl _ w).alloc (Nat.le_refl _) (.cells #[.slice KA cr.keep.length kc, .int .i64 cr.torn, .int .i64 cr.bytes] 26)))
  have HLS := Lib.hid (fun x hx => (hls x hx).below ((Below.refl _ w).alloc (Nat.le_refl _) (.cells #[.slice KA cr.keep.length kc, .int .i64 cr.torn, .int .i64 cr.bytes] 26)))
  have HLB := Lib.hid hlb
  have HKR := Lib.hid hkr
  have HC0 := Lib.hid hb0
  have HC5 := Lib.hid hb5
  have B0 := Lib.hid ((Below.refl w.heap.size w).alloc (Nat.le_refl _) (.cells #[.slice KA cr.keep.length kc, .int .i64 cr.torn, .int .i64 cr.bytes] 26))
  have X0 := Lib.hid (Blk.new w 26 #[.slice KA cr.keep.length kc, .int .i64 cr.torn, .int .i64 cr.bytes])
  have SZ0 := Lib.hid (show (w.alloc (.cells #[.slice KA cr.keep.length kc, .int .i64 cr.torn, .int .i64 cr.bytes] 26)).heap.size = w.heap.size + 1 by simp)
  clear hN hr hn h3 hra hls hlb hkr hk4 hb0 hb5
  go_enter Try.func8, Try.ntmps8
  go_wp2_with (go_at_call 9; refine (diskFails.small_yes _ s s1 s2).mono ?_; rintro e w' ⟨rfl, rfl⟩)
  refine (few_any _ SA sc la HRA.out HLS.out HLB.out).mono ?_
  rintro e w1 ⟨rfl | ⟨rfl, ht⟩, hb⟩
  · have B1 := Lib.hid (B0.out.trans (hb.mono B0.out.size))
    clear hb hz
    go_wp2_with (go_at_call 10; refine (works_any _).mono ?_; rintro e w9 ⟨rfl, hb9⟩; have B9 := Lib.hid (B1.out.trans (hb9.mono B1.out.size)); clear hb9)
    go_ret
    exact ⟨rfl, B9.out⟩
  · have B1 := Lib.hid (B0.out.trans (hb.mono B0.out.size))
    have X1 := Lib.hid (X0.out.below hb X0.out.lt)
    have S1 := Lib.hid (show w.heap.size + 1 ≤ w1.heap.size by have := hb.size; rw [SZ0.out] at this; exact this)
    have HL40 := Lib.hid (show la.length ≤ 40 by have := (tot_mem la).1; omega)
    have k0 := (X1.out.cell 0).trans (show _ = some (.slice KA cr.keep.length kc) from rfl)
    have k2 := (X1.out.cell 2).trans (show _ = some (.int .i64 cr.bytes) from rfl)
    have HR1 := Lib.hid (HRB.out.below hb)
    clear hb ht HRA HLS B0 X0 HRB
    go_wp2_with fail
    refine (begun_any w1 s s1 s2 A n c l HLN0.out HN3.out HR1.out).mono ?_
    rintro e w2 ⟨p, pl, rfl, da, bg, hb⟩
    rw [← NE.out] at da bg
    obtain ⟨D0, hD0⟩ : ∃ D0, D0 = ofD (begB l N) s s := ⟨_, rfl⟩
    rw [← hD0] at da
    have D0W := Lib.hid (show D0.waits = [] by rw [hD0]; rfl)
    have D0S := Lib.hid (show D0.size = s by rw [hD0]; rfl)
    have D0Z := Lib.hid (show Wd D0 [] D0 by rw [hD0]; exact Wd.nil _ _ _)
    clear hD0
    obtain ⟨WO, hWO⟩ : ∃ WO, WO = Obj.cells #[.slice (some ⟨w1.heap.size + 1, 0, none⟩) (s * 512) (s * 512), .slice none 0 0, .int .i64 0, .slice none 0 0] 34 := ⟨_, rfl⟩
    have LX := Lib.hid ((show Blk w2 w.heap.size 26 #[.slice KA cr.keep.length kc, .int .i64 cr.torn, .int .i64 cr.bytes] from X1.out.below hb X1.out.lt).alloc WO)
    have LB := Lib.hid ((B1.out.trans (hb.mono B1.out.size)).alloc (Nat.le_trans B1.out.size hb.size) WO)
    have LD := Lib.hid ((da.base (base' := w.heap.size + 3) (by have := S1.out; omega)).alloc WO)
    have LZ := Lib.hid (show w.heap.size + 3 ≤ (w2.alloc WO).heap.size by have := bg.lt; have := S1.out; simp; omega)
    clear da bg hb k0 k2 X1 HR1 B1
    go_wp2_with fail
    rw [← hWO]
    clear hWO
    generalize w2.alloc WO = W2 at LX LB LD LZ ⊢
    refine (bytes_at LD.out (by rw [D0W.out]; exact Nat.zero_le _)).mono ?_
    rintro e w3 ⟨v12, rfl, hown, hb⟩
    obtain ⟨A12, c12, rfl⟩ := own_shape hown
    have SA0 := Lib.hid (show Ls w w3 (w.heap.size + 3) p pl D0 #[.slice KA cr.keep.length kc, .int .i64 cr.torn, .int .i64 cr.bytes] A12 D0.all (.slice none 0 0) 0 from
      { da := LD.out.below hb, be := LB.out.trans (hb.mono LB.out.size), bx := LX.out.below hb LX.out.lt, rw := Rd.of_own hown,
        wn := fun a e => ⟨fun hq => by
          have h1 := (hown.lt a.block (by rw [e]; rfl)).1
          have h2 := (LD.out.lt _ hq).1
          omega, fun e' => (nomatch e')⟩,
        oa := World.ownsRow_nil _ _ _ _, an := fun g e => (nomatch e), hb := by omega, hB := Nat.le_trans LZ.out hb.size, wp := by rw [all_length LD.out, D0S.out]; omega })
    clear hown hb LX LB LD LZ
    rw [D0S.out, ← NE.out]
    go_wp2_with fail
    go_loopw [13, 14] (fun vA i wr => ∃ (k : Nat) (D : Dk) (pl' : Pl), k ≤ la.length ∧ i = .int .i64 (k : Int) ∧ Ls w wr (w.heap.size + 3) p pl' D #[.slice KA cr.keep.length kc, .int .i64 cr.torn, .int .i64 cr.bytes] A12 D0.all vA k ∧ Wd D0 (la.take k) D) (fun _ i _ => la.length - (intOf i).toNat)
    case atStart => exact ⟨0, D0, pl, Nat.zero_le _, rfl, SA0.out, D0Z.out⟩
    case round =>
      obtain ⟨k, D, pl', hk, rfl, hs, hw⟩ := hrel
      clear SA0 D0Z hz
      have M0 := Lib.hid True.intro
      have LS := Lib.hid hs
      have WD := Lib.hid hw
      clear hs hw
      by_cases hlt : k < la.length
      · have i1 : (0 : Int) ≤ (k : Int) := by omega
        have i2 : (k : Int) < (la.length : Int) := by omega
        have HKK := Lib.hid (show k ≤ 1000 by have := HL40.out; omega)
        have kb : k ≤ 1000 := HKK.out
        have HLN := Lib.hid (show (la.take k).length ≤ 100 by have := HL40.out; rw [List.length_take]; omega)
        obtain ⟨x, hx⟩ : ∃ x, la[k]? = some x := ⟨_, List.getElem?_eq_getElem hlt⟩
        have HX := Lib.hid hx
        obtain ⟨b, off, rfl, hc⟩ := (HR.out.below LS.out.be) k x hx
        have HC := Lib.hid hc
        clear hx hc
        go_wp2
        refine wp_region_only (S := fun w' => w'.cell? ⟨b, off + k * 8 + 1, none⟩ = some (.int .i64 x.sector) ∧ w'.cell? ⟨b, off + k * 8 + 3, none⟩ = some (.int .u8 (x.byte.toNat : Int))) (by kernel_rfl) ⟨HC.out 1 _ rfl, HC.out 3 _ rfl⟩ (fun hHeld => ?_)
        refine wpAnyH_take (i := 0) (v := ?v1) rfl (by kernel_rfl) (by kernel_rfl) (by kernel_rfl) (fun _ _ _ h => h) (Or.inl ⟨by rfl, ?hy1⟩) hHeld ?rest1
        case hy1 =>
          intro w' hSw
          try dsimp only at hSw
          go_simp
          first | done | with_reducible rfl
        try simp only [Act.put, List.getElem_toArray, List.getElem_cons_zero, List.setIfInBounds_toArray, List.set_cons_zero, List.set_cons_succ]
        refine wpAnyH_take (i := 1) (v := ?v2) rfl (by kernel_rfl) (by kernel_rfl) (by kernel_rfl) (fun _ _ _ h => h) (Or.inl ⟨by rfl, ?hy2⟩) hHeld ?rest2
        case hy2 =>
          intro w' hSw
          try dsimp only at hSw
          go_simp
          first | done | with_reducible rfl
        try simp only [Act.put, List.getElem_toArray, List.getElem_cons_succ, List.getElem_cons_zero, List.setIfInBounds_toArray, List.set_cons_zero, List.set_cons_succ]
        refine wpAnyH_take (i := 2) (v := ?v3) rfl (by kernel_rfl) (by kernel_rfl) (by kernel_rfl) (fun _ _ _ h => h) (Or.inl ⟨by rfl, ?hy3⟩) hHeld ?rest3
        case hy3 =>
          intro w' hSw
          try dsimp only at hSw
          go_simp
          first | done | with_reducible rfl
        try simp only [Act.put, List.getElem_toArray, List.getElem_cons_succ, List.getElem_cons_zero, List.setIfInBounds_toArray, List.set_cons_zero, List.set_cons_succ]
        refine wpAnyH_take (i := 3) (v := ?v4) rfl (by kernel_rfl) (by kernel_rfl) (by kernel_rfl) (fun _ _ _ h => h) (Or.inl ⟨by rfl, ?hy4⟩) hHeld ?rest4
        case hy4 =>
          intro w' hSw
          try dsimp only at hSw
          go_simp
          first | done | with_reducible rfl
        try simp only [Act.put, List.getElem_toArray, List.getElem_cons_succ, List.getElem_cons_zero, List.setIfInBounds_toArray, List.set_cons_zero, List.set_cons_succ]
        refine wpAnyH_take (i := 4) (v := ?v5) rfl (by kernel_rfl) (by kernel_rfl) (by kernel_rfl) (fun _ _ _ h => h) (Or.inl ⟨by rfl, ?hy5⟩) hHeld ?rest5
        case hy5 =>
          intro w' hSw
          try dsimp only at hSw
          go_simp
          first | done | with_reducible rfl
        try simp only [Act.put, List.getElem_toArray, List.getElem_cons_succ, List.getElem_cons_zero, List.setIfInBounds_toArray, List.set_cons_zero, List.set_cons_succ]
        refine wpAnyH_take (i := 5) (v := ?v6) rfl (by kernel_rfl) (by kernel_rfl) (by kernel_rfl) (fun _ _ _ h => h) (Or.inl ⟨by rfl, ?hy6⟩) hHeld ?rest6
        case hy6 =>
          intro w' hSw
          try dsimp only at hSw
          go_simp
          first | done | with_reducible rfl
        try simp only [Act.put, List.getElem_toArray, List.getElem_cons_succ, List.getElem_cons_zero, List.setIfInBounds_toArray, List.set_cons_zero, List.set_cons_succ]
        refine wpAnyH_take (i := 6) (v := ?v7) rfl (by kernel_rfl) (by kernel_rfl) (by kernel_rfl) (fun _ _ _ h => h) (Or.inl ⟨by rfl, ?hy7⟩) hHeld ?rest7
        case hy7 =>
          intro w' hSw
          try dsimp only at hSw
          go_simp
          first | done | with_reducible rfl
        try simp only [Act.put, List.getElem_toArray, List.getElem_cons_succ, List.getElem_cons_zero, List.setIfInBounds_toArray, List.set_cons_zero, List.set_cons_succ]
        refine wpAnyH_take (i := 7) (v := ?v8) rfl (by kernel_rfl) (by kernel_rfl) (by kernel_rfl) (fun _ _ _ h => h) (Or.inl ⟨by rfl, ?hy8⟩) hHeld ?rest8
        case hy8 =>
          intro w' hSw
          try dsimp only at hSw
          go_simp
          first | done | with_reducible rfl
        try simp only [Act.put, List.getElem_toArray, List.getElem_cons_succ, List.getElem_cons_zero, List.setIfInBounds_toArray, List.set_cons_zero, List.set_cons_succ]
        refine wpAnyH_take (i := 8) (v := ?v9) rfl (by kernel_rfl) (by kernel_rfl) (by kernel_rfl) (fun _ _ _ h => h) (Or.inl ⟨by rfl, ?hy9⟩) hHeld ?rest9
        case hy9 =>
          intro w' hSw
          try dsimp only at hSw
          go_simp
          first | done | with_reducible rfl
        try simp only [Act.put, List.getElem_toArray, List.getElem_cons_succ, List.getElem_cons_zero, List.setIfInBounds_toArray, List.set_cons_zero, List.set_cons_succ]
        refine wpAnyH_take (i := 9) (v := ?v10) rfl (by kernel_rfl) (by kernel_rfl) (by kernel_rfl) (fun _ _ _ h => h) (Or.inl ⟨by rfl, ?hy10⟩) hHeld ?rest10
        case hy10 =>
          intro w' hSw
          try dsimp only at hSw
          go_simp
          first | done | with_reducible rfl
        try simp only [Act.put, List.getElem_toArray, List.getElem_cons_succ, List.getElem_cons_zero, List.setIfInBounds_toArray, List.set_cons_zero, List.set_cons_succ]
        refine wpAnyH_take (i := 10) (v := ?v11) rfl (by kernel_rfl) (by kernel_rfl) (by kernel_rfl) (fun _ _ _ h => h) (Or.inl ⟨by rfl, ?hy11⟩) hHeld ?rest11
        case hy11 =>
          intro w' hSw
          try dsimp only at hSw
          go_simp
          first | done | with_reducible rfl
        try simp only [Act.put, List.getElem_toArray, List.getElem_cons_succ, List.getElem_cons_zero, List.setIfInBounds_toArray, List.set_cons_zero, List.set_cons_succ]
        refine wpAnyH_ready (rs := [11]) (by kernel_rfl) (by simp) ?_
        refine AllReadyH.cons (by rfl) (fun K hK => ?_) AllReadyH.nil
        go_simp
        refine (full_at _ x.byte).mono ?_
        rintro e w3 ⟨rfl, hb⟩
        have L3 := Lib.hid (LS.out.drew.below hb)
        have C3 := Lib.hid (fun j u hu => (hb.cell (p := ⟨b, off + k * 8 + j, none⟩) (cell_lt (HC.out j u hu))).trans (HC.out j u hu))
        clear hb hHeld
        go_wp2_with fail
        refine hK.out _ _ ⟨C3.out 1 _ rfl, C3.out 3 _ rfl⟩ (fun hHeld => ?_)
        clear hK K
        try simp only [Act.put, List.getElem_toArray, List.getElem_cons_succ, List.getElem_cons_zero, List.setIfInBounds_toArray, List.set_cons_zero, List.set_cons_succ]
        refine wpAnyH_ready (rs := [12]) (by kernel_rfl) (by simp) ?_
        refine AllReadyH.cons (by rfl) (fun K hK => ?_) AllReadyH.nil
        go_simp
        refine (ls_write L3.out WD.out HLN.out x).mono ?_
        rintro e w4 ⟨no, pl4, D4, rfl, l4, wd4⟩
        have L4 := Lib.hid l4
        have W4 := Lib.hid wd4
        have C4 := Lib.hid (show ∀ j u, x.cs[j]? = some u → w4.cell? ⟨b, off + k * 8 + j, none⟩ = some u from fun j u hu => by obtain ⟨b', off', e', hc'⟩ := (HR.out.below l4.be) k x HX.out; injection e' with e'; injection e' with e1 e2; subst e1; subst e2; exact hc' j u hu)
        clear l4 wd4 hHeld
        go_wp2_with fail
        refine hK.out _ _ ⟨C4.out 1 _ rfl, C4.out 3 _ rfl⟩ (fun hHeld => ?_)
        clear hK K
        try simp only [Act.put, List.getElem_toArray, List.getElem_cons_succ, List.getElem_cons_zero, List.setIfInBounds_toArray, List.set_cons_zero, List.set_cons_succ]
        refine wpAnyH_done (by kernel_rfl) ?_ _
        refine OnlyN.normal ?_
        clear hHeld
        go_wp2_with (refine wpList_append_true rfl (.tmp 85) (.tmp 86) rfl (by rfl) L4.out.oa (by rfl) HKK.out L4.out.hB ?_; intro g c' w5 ho hg hat; have L5 := Lib.hid (L4.out.push ho hg hat); clear ho hg hat)
        go_roundw
        case rel => exact ⟨k + 1, D4, pl4, by omega, by go_num, L5.out, by rw [act_snoc HX.out]; exact W4.out⟩
        case measure => simp [intOf]; omega
      · obtain rfl : k = la.length := by omega
        have i2 : ¬ (la.length : Int) < (la.length : Int) := by omega
        rw [List.take_length] at WD
        have HDN := Lib.hid (show D.waits.length ≤ 1000000 by have := WD.out.waits; have := HL40.out; omega)
        have HDS := Lib.hid (show D.size = s by rw [WD.out.size]; exact D0S.out)
        have HAL := Lib.hid (show D.all.length = N by rw [all_length LS.out.da, HDS.out]; exact NE.out.symm)
        obtain ⟨gA, cA, rfl⟩ := own_shape LS.out.oa
        have hzC := zC
        go_wp2_with fail
        refine (bytes_at LS.out.da HDN.out).mono ?_
        rintro e w6 ⟨v15, rfl, hown, hb⟩
        obtain ⟨A15, c15, rfl⟩ := own_shape hown
        have RN6 := Lib.hid (show Rd w6 A15 D.all from Rd.of_own hown)
        have NB := Lib.hid (show ∀ a, A15 = some a → wr.heap.size ≤ a.block from fun a e => (hown.lt a.block (by rw [e]; rfl)).1)
        have L6 := Lib.hid (LS.out.below hb)
        rw [HDS.out, ← NE.out]
        have k0 := (L6.out.bx.cell 0).trans (show _ = some (.slice KA cr.keep.length kc) from rfl)
        have k1 := (L6.out.bx.cell 1).trans (show _ = some (.int .i64 cr.torn) from rfl)
        have k2 := (L6.out.bx.cell 2).trans (show _ = some (.int .i64 cr.bytes) from rfl)
        clear hown hb
        go_wp2_with (first
          | (go_at_call 24; clear M0; refine (show Calls Try.prog _ #[.pointer (some ⟨p, 0, none⟩), .agg #[.slice KA cr.keep.length kc, .int .i64 cr.torn, .int .i64 cr.bytes]] w6 _ from crash_ok L6.out.da HDN.out cr KA kc (HKR.out.below L6.out.be) HC0.out HC5.out).mono ?_; rintro e w7 ⟨p2, m2, rfl, dx, b7⟩; have DX7 := Lib.hid dx; have L7 := Lib.hid (L6.out.below b7); have RN7 := Lib.hid (RN6.out.below b7); clear dx b7 k0 k1 k2)
          | (go_at_call 24; refine (crash_true L7.out HDN.out rfl).mono ?_; rintro e w8 ⟨p3, m3, rfl, dy, b8⟩; have DY8 := Lib.hid dy; have DX8 := Lib.hid (DX7.out.below b8); have L8 := Lib.hid (L7.out.below b8); have RN8 := Lib.hid (RN7.out.below b8); clear dy b8))
        have SN := Lib.hid (str_run (c := c15) HAL.out RN8.out.drew)
        refine wp_region_only (S := fun w' => (convert 22 9 (.slice A15 N c15)).run Try.prog w' = .ok (.string (st D.all)) w') (by kernel_rfl) SN.out (fun hHeld => ?_)
        refine wpAnyH_take (i := 0) (v := ?v12) rfl (by kernel_rfl) (by kernel_rfl) (by kernel_rfl) (fun _ _ _ h => h) (Or.inl ⟨by rfl, ?hy12⟩) hHeld ?rest12
        case hy12 =>
          intro w' hSw
          try dsimp only at hSw
          go_simp
          first | done | with_reducible rfl
        try simp only [Act.put, List.getElem_toArray, List.getElem_cons_zero, List.setIfInBounds_toArray, List.set_cons_zero, List.set_cons_succ]
        refine wpAnyH_take (i := 1) (v := ?v13) rfl (by kernel_rfl) (by kernel_rfl) (by kernel_rfl) (fun _ _ _ h => h) (Or.inl ⟨by rfl, ?hy13⟩) hHeld ?rest13
        case hy13 =>
          intro w' hSw
          try dsimp only at hSw
          go_simp
          first | done | with_reducible rfl
        try simp only [Act.put, List.getElem_toArray, List.getElem_cons_succ, List.getElem_cons_zero, List.setIfInBounds_toArray, List.set_cons_zero, List.set_cons_succ]
        refine wpAnyH_take (i := 2) (v := ?v14) rfl (by kernel_rfl) (by kernel_rfl) (by kernel_rfl) (fun _ _ _ h => h) (Or.inl ⟨by rfl, ?hy14⟩) hHeld ?rest14
        case hy14 =>
          intro w' hSw
          try dsimp only at hSw
          go_simp
          first | done | with_reducible rfl
        try simp only [Act.put, List.getElem_toArray, List.getElem_cons_succ, List.getElem_cons_zero, List.setIfInBounds_toArray, List.set_cons_zero, List.set_cons_succ]
        refine wpAnyH_take (i := 3) (v := ?v15) rfl (by kernel_rfl) (by kernel_rfl) (by kernel_rfl) (fun _ _ _ h => h) (Or.inl ⟨by rfl, ?hy15⟩) hHeld ?rest15
        case hy15 =>
          intro w' hSw
          try dsimp only at hSw
          go_simp
          first | done | with_reducible rfl
        try simp only [Act.put, List.getElem_toArray, List.getElem_cons_succ, List.getElem_cons_zero, List.setIfInBounds_toArray, List.set_cons_zero, List.set_cons_succ]
        refine wpAnyH_take (i := 5) (v := ?v16) rfl (by kernel_rfl) (by kernel_rfl) (by kernel_rfl) (fun _ _ _ h => h) (Or.inl ⟨by rfl, ?hy16⟩) hHeld ?rest16
        case hy16 =>
          intro w' hSw
          try dsimp only at hSw
          go_simp
          first | done | with_reducible rfl
        try simp only [Act.put, List.getElem_toArray, List.getElem_cons_succ, List.getElem_cons_zero, List.setIfInBounds_toArray, List.set_cons_zero, List.set_cons_succ]
        refine wpAnyH_ready (rs := [4]) (by kernel_rfl) (by simp) ?_
        refine AllReadyH.cons (by rfl) (fun K hK => ?_) AllReadyH.nil
        go_simp
        refine (num_any _ _).mono ?_
        rintro e y1 ⟨rfl, rfl⟩
        clear hHeld
        go_wp2_with fail
        refine hK.out _ _ SN.out (fun hHeld => ?_)
        clear hK K
        try simp only [Act.put, List.getElem_toArray, List.getElem_cons_succ, List.getElem_cons_zero, List.setIfInBounds_toArray, List.set_cons_zero, List.set_cons_succ]
        refine wpAnyH_ready (rs := [6]) (by kernel_rfl) (by simp) ?_
        refine AllReadyH.cons (by rfl) (fun K hK => ?_) AllReadyH.nil
        go_simp
        refine (num_any _ _).mono ?_
        rintro e y1 ⟨rfl, rfl⟩
        clear hHeld
        go_wp2_with fail
        refine hK.out _ _ SN.out (fun hHeld => ?_)
        clear hK K
        try simp only [Act.put, List.getElem_toArray, List.getElem_cons_succ, List.getElem_cons_zero, List.setIfInBounds_toArray, List.set_cons_zero, List.set_cons_succ]
        refine wpAnyH_take (i := 7) (v := ?v17) rfl (by kernel_rfl) (by kernel_rfl) (by kernel_rfl) (fun _ _ _ h => h) (Or.inl ⟨by rfl, ?hy17⟩) hHeld ?rest17
        case hy17 =>
          intro w' hSw
          try dsimp only at hSw
          go_simp
          first | done | with_reducible rfl
        try simp only [Act.put, List.getElem_toArray, List.getElem_cons_succ, List.getElem_cons_zero, List.setIfInBounds_toArray, List.set_cons_zero, List.set_cons_succ]
        refine wpAnyH_take (i := 8) (v := ?v18) rfl (by kernel_rfl) (by kernel_rfl) (by kernel_rfl) (fun _ _ _ h => h) (Or.inl ⟨by rfl, ?hy18⟩) hHeld ?rest18
        case hy18 =>
          intro w' hSw
          try dsimp only at hSw
          go_simp
          first | done | with_reducible rfl
        try simp only [Act.put, List.getElem_toArray, List.getElem_cons_succ, List.getElem_cons_zero, List.setIfInBounds_toArray, List.set_cons_zero, List.set_cons_succ]
        refine wpAnyH_take (i := 9) (v := ?v19) rfl (by kernel_rfl) (by kernel_rfl) (by kernel_rfl) (fun _ _ _ h => h) (Or.inl ⟨by rfl, ?hy19⟩) hHeld ?rest19
        case hy19 =>
          intro w' hSw
          try dsimp only at hSw
          go_simp
          first | done | with_reducible rfl
        try simp only [Act.put, List.getElem_toArray, List.getElem_cons_succ, List.getElem_cons_zero, List.setIfInBounds_toArray, List.set_cons_zero, List.set_cons_succ]
        refine wpAnyH_take (i := 10) (v := ?v20) rfl (by kernel_rfl) (by kernel_rfl) (by kernel_rfl) (fun _ _ _ h => h) (Or.inl ⟨by rfl, ?hy20⟩) hHeld ?rest20
        case hy20 =>
          intro w' hSw
          try dsimp only at hSw
          go_simp
          first | done | with_reducible rfl
        try simp only [Act.put, List.getElem_toArray, List.getElem_cons_succ, List.getElem_cons_zero, List.setIfInBounds_toArray, List.set_cons_zero, List.set_cons_succ]
        refine wpAnyH_take (i := 11) (v := ?v21) rfl (by kernel_rfl) (by kernel_rfl) (by kernel_rfl) (fun _ _ _ h => h) (Or.inl ⟨by rfl, ?hy21⟩) hHeld ?rest21
        case hy21 =>
          intro w' hSw
          try dsimp only at hSw
          go_simp
          first | done | with_reducible rfl
        try simp only [Act.put, List.getElem_toArray, List.getElem_cons_succ, List.getElem_cons_zero, List.setIfInBounds_toArray, List.set_cons_zero, List.set_cons_succ]
        refine wpAnyH_take (i := 14) (v := ?v22) rfl (by kernel_rfl) (by kernel_rfl) (by kernel_rfl) (fun _ _ _ h => h) (Or.inl ⟨by rfl, ?hy22⟩) hHeld ?rest22
        case hy22 =>
          intro w' hSw
          try dsimp only at hSw
          go_simp
          first | done | with_reducible rfl
        try simp only [Act.put, List.getElem_toArray, List.getElem_cons_succ, List.getElem_cons_zero, List.setIfInBounds_toArray, List.set_cons_zero, List.set_cons_succ]
        refine wpAnyH_take (i := 15) (v := ?v23) rfl (by kernel_rfl) (by kernel_rfl) (by kernel_rfl) (fun _ _ _ h => h) (Or.inl ⟨by rfl, ?hy23⟩) hHeld ?rest23
        case hy23 =>
          intro w' hSw
          try dsimp only at hSw
          go_simp
          first | done | with_reducible rfl
        try simp only [Act.put, List.getElem_toArray, List.getElem_cons_succ, List.getElem_cons_zero, List.setIfInBounds_toArray, List.set_cons_zero, List.set_cons_succ]
        refine wpAnyH_ready (rs := [12]) (by kernel_rfl) (by simp) ?_
        refine AllReadyH.cons (by rfl) (fun K hK => ?_) AllReadyH.nil
        go_simp
        refine (bytes_at DY8.out.drew (Nat.zero_le _)).mono ?_
        rintro e w9 ⟨v, rfl, hown, hb⟩
        obtain ⟨AY, cY, rfl⟩ := own_shape hown
        have s9 := str_run (c := cY) (show (D.crashed ⟨List.replicate la.length true, -1, 0⟩).all.length = (D.crashed ⟨List.replicate la.length true, -1, 0⟩).size * 512 by rw [true_all WD.out, HAL.out, NE.out]; rw [show (D.crashed ⟨List.replicate la.length true, -1, 0⟩).size = s from HDS.out]) (Rd.of_own hown)
        rw [true_all WD.out] at s9
        have L9 := Lib.hid (L8.out.drew.below hb)
        have DX9 := Lib.hid (DX8.out.drew.below hb)
        have RN9 := Lib.hid (RN8.out.drew.below hb)
        have SN9 := Lib.hid (str_run (c := c15) HAL.out RN9.out)
        clear hown hb hHeld
        go_wp2_with fail
        refine hK.out _ _ SN9.out (fun hHeld => ?_)
        clear hK K
        try simp only [Act.put, List.getElem_toArray, List.getElem_cons_succ, List.getElem_cons_zero, List.setIfInBounds_toArray, List.set_cons_zero, List.set_cons_succ]
        refine wpAnyH_ready (rs := [13]) (by kernel_rfl) (by simp) ?_
        refine AllReadyH.cons (by rfl) (fun K hK => ?_) AllReadyH.nil
        go_simp
        go_wp2_with fail
        refine hK.out _ _ SN9.out (fun hHeld => ?_)
        clear hK K
        try simp only [Act.put, List.getElem_toArray, List.getElem_cons_succ, List.getElem_cons_zero, List.setIfInBounds_toArray, List.set_cons_zero, List.set_cons_succ]
        refine wpAnyH_take (i := 16) (v := ?v24) rfl (by kernel_rfl) (by kernel_rfl) (by kernel_rfl) (fun _ _ _ h => h) (Or.inl ⟨by rfl, ?hy24⟩) hHeld ?rest24
        case hy24 =>
          intro w' hSw
          try dsimp only at hSw
          go_simp
          first | done | with_reducible rfl
        try simp only [Act.put, List.getElem_toArray, List.getElem_cons_succ, List.getElem_cons_zero, List.setIfInBounds_toArray, List.set_cons_zero, List.set_cons_succ]
        refine wpAnyH_take (i := 17) (v := ?v25) rfl (by kernel_rfl) (by kernel_rfl) (by kernel_rfl) (fun _ _ _ h => h) (Or.inl ⟨by rfl, ?hy25⟩) hHeld ?rest25
        case hy25 =>
          intro w' hSw
          try dsimp only at hSw
          go_simp
          first | done | with_reducible rfl
        try simp only [Act.put, List.getElem_toArray, List.getElem_cons_succ, List.getElem_cons_zero, List.setIfInBounds_toArray, List.set_cons_zero, List.set_cons_succ]
        refine wpAnyH_take (i := 18) (v := ?v26) rfl (by kernel_rfl) (by kernel_rfl) (by kernel_rfl) (fun _ _ _ h => h) (Or.inl ⟨by rfl, ?hy26⟩) hHeld ?rest26
        case hy26 =>
          intro w' hSw
          try dsimp only at hSw
          go_simp
          first | done | with_reducible rfl
        try simp only [Act.put, List.getElem_toArray, List.getElem_cons_succ, List.getElem_cons_zero, List.setIfInBounds_toArray, List.set_cons_zero, List.set_cons_succ]
        refine wpAnyH_take (i := 19) (v := ?v27) rfl (by kernel_rfl) (by kernel_rfl) (by kernel_rfl) (fun _ _ _ h => h) (Or.inl ⟨by rfl, ?hy27⟩) hHeld ?rest27
        case hy27 =>
          intro w' hSw
          try dsimp only at hSw
          go_simp
          first | done | with_reducible rfl
        try simp only [Act.put, List.getElem_toArray, List.getElem_cons_succ, List.getElem_cons_zero, List.setIfInBounds_toArray, List.set_cons_zero, List.set_cons_succ]
        refine wpAnyH_take (i := 20) (v := ?v28) rfl (by kernel_rfl) (by kernel_rfl) (by kernel_rfl) (fun _ _ _ h => h) (Or.inl ⟨by rfl, ?hy28⟩) hHeld ?rest28
        case hy28 =>
          intro w' hSw
          try dsimp only at hSw
          go_simp
          first | done | with_reducible rfl
        try simp only [Act.put, List.getElem_toArray, List.getElem_cons_succ, List.getElem_cons_zero, List.setIfInBounds_toArray, List.set_cons_zero, List.set_cons_succ]
        refine wpAnyH_take (i := 21) (v := ?v29) rfl (by kernel_rfl) (by kernel_rfl) (by kernel_rfl) (fun _ _ _ h => h) (Or.inl ⟨by rfl, ?hy29⟩) hHeld ?rest29
        case hy29 =>
          intro w' hSw
          try dsimp only at hSw
          go_simp
          first | done | with_reducible rfl
        try simp only [Act.put, List.getElem_toArray, List.getElem_cons_succ, List.getElem_cons_zero, List.setIfInBounds_toArray, List.set_cons_zero, List.set_cons_succ]
        refine wpAnyH_take (i := 22) (v := ?v30) rfl (by kernel_rfl) (by kernel_rfl) (by kernel_rfl) (fun _ _ _ h => h) (Or.inl ⟨by rfl, ?hy30⟩) hHeld ?rest30
        case hy30 =>
          intro w' hSw
          try dsimp only at hSw
          go_simp
          first | done | with_reducible rfl
        try simp only [Act.put, List.getElem_toArray, List.getElem_cons_succ, List.getElem_cons_zero, List.setIfInBounds_toArray, List.set_cons_zero, List.set_cons_succ]
        refine wpAnyH_take (i := 23) (v := ?v31) rfl (by kernel_rfl) (by kernel_rfl) (by kernel_rfl) (fun _ _ _ h => h) (Or.inl ⟨by rfl, ?hy31⟩) hHeld ?rest31
        case hy31 =>
          intro w' hSw
          try dsimp only at hSw
          go_simp
          first | done | with_reducible rfl
        try simp only [Act.put, List.getElem_toArray, List.getElem_cons_succ, List.getElem_cons_zero, List.setIfInBounds_toArray, List.set_cons_zero, List.set_cons_succ]
        refine wpAnyH_take (i := 24) (v := ?v32) rfl (by kernel_rfl) (by kernel_rfl) (by kernel_rfl) (fun _ _ _ h => h) (Or.inl ⟨by rfl, ?hy32⟩) hHeld ?rest32
        case hy32 =>
          intro w' hSw
          try dsimp only at hSw
          go_simp
          first | done | with_reducible rfl
        try simp only [Act.put, List.getElem_toArray, List.getElem_cons_succ, List.getElem_cons_zero, List.setIfInBounds_toArray, List.set_cons_zero, List.set_cons_succ]
        refine wpAnyH_done (by kernel_rfl) ?_ _
        refine OnlyN.normal ?_
        clear hHeld
        go_wp2_with fail
        refine (bytes_at DX9.out (Nat.zero_le _)).mono ?_
        rintro e w10 ⟨v20, rfl, hown, hb⟩
        obtain ⟨AL, cL, rfl⟩ := own_shape hown
        have RL := Lib.hid (show Rd w10 AL (D.crashed cr).all from Rd.of_own hown)
        have L10 := Lib.hid (L9.out.below hb)
        have RN10 := Lib.hid (RN9.out.below hb)
        rw [show (D.crashed cr).size = s from HDS.out, ← NE.out]
        clear hown hb
        go_wp2_with fail
        have RW := Lib.hid L10.out.rw
        have CB := Lib.hid (fun i hi => crashed_byte LS.out.da WD.out D0W.out cr HC0.out HC5.out i hi)
        clear DX7 DX8 DX9 DY8 L6 L7 L8 L9 RN6 RN7 RN8 RN9 SN hzC SN9
        go_loopw [21] (fun i wr2 => ∃ k : Nat, k ≤ N ∧ i = .int .i64 (k : Int) ∧ Below w10.heap.size w10 wr2) (fun i _ => N - (intOf i).toNat)
        case atStart => exact ⟨0, Nat.zero_le _, rfl, Below.refl _ _⟩
        case round =>
          obtain ⟨k, hk, rfl, hb⟩ := hrel
          have HB := Lib.hid hb
          clear hb
          by_cases hlt : k < N
          · have i1 : (0 : Int) ≤ (k : Int) := by omega
            have i2' : (k : Int) < (N : Int) := by omega
            have kb : k ≤ 10000 := by have := NE.out; omega
            obtain ⟨lb, wb, e1, e2, hor⟩ := CB.out k (by rw [HDS.out, ← NE.out]; exact hlt)
            obtain ⟨g1, o1, rfl, c1⟩ := RL.out k (List.getElem?_eq_some_iff.1 e1).1
            obtain ⟨g2, o2, rfl, c2⟩ := (RW.out.below HB.out) k (List.getElem?_eq_some_iff.1 e2).1
            rw [(List.getElem?_eq_some_iff.1 e1).2] at c1
            rw [(List.getElem?_eq_some_iff.1 e2).2] at c2
            have CL0 := Lib.hid c1
            have C1 := Lib.hid ((HB.out.cell (p := ⟨g1, o1 + k, none⟩) (cell_lt c1)).trans c1)
            have C2 := Lib.hid c2
            have HOR := Lib.hid hor
            obtain ⟨q, hq⟩ : ∃ q, ((lb.toNat : Int) == (wb.toNat : Int)) = q := ⟨_, rfl⟩
            have HQ := Lib.hid (show q = false → lb ≠ wb from fun h e => by rw [e, h] at hq; simp at hq)
            clear c1 c2 hor e1 e2
            go_wp2
            refine wp_region_only (S := fun w' => w'.cell? ⟨g1, o1 + k, none⟩ = some (.int .u8 (lb.toNat : Int)) ∧ w'.cell? ⟨g2, o2 + k, none⟩ = some (.int .u8 (wb.toNat : Int))) (by kernel_rfl) ⟨C1.out, C2.out⟩ (fun hHeld => ?_)
            refine wpAnyH_take (i := 0) (v := ?v33) rfl (by kernel_rfl) (by kernel_rfl) (by kernel_rfl) (fun _ _ _ h => h) (Or.inl ⟨by rfl, ?hy33⟩) hHeld ?rest33
            case hy33 =>
              intro w' hSw
              try dsimp only at hSw
              go_simp
              first | done | with_reducible rfl
            try simp only [Act.put, List.getElem_toArray, List.getElem_cons_zero, List.setIfInBounds_toArray, List.set_cons_zero, List.set_cons_succ]
            refine wpAnyH_take (i := 1) (v := ?v34) rfl (by kernel_rfl) (by kernel_rfl) (by kernel_rfl) (fun _ _ _ h => h) (Or.inl ⟨by rfl, ?hy34⟩) hHeld ?rest34
            case hy34 =>
              intro w' hSw
              try dsimp only at hSw
              go_simp
              first | done | with_reducible rfl
            try simp only [Act.put, List.getElem_toArray, List.getElem_cons_succ, List.getElem_cons_zero, List.setIfInBounds_toArray, List.set_cons_zero, List.set_cons_succ]
            refine wpAnyH_take (i := 2) (v := ?v35) rfl (by kernel_rfl) (by kernel_rfl) (by kernel_rfl) (fun _ _ _ h => h) (Or.inl ⟨by rfl, ?hy35⟩) hHeld ?rest35
            case hy35 =>
              intro w' hSw
              try dsimp only at hSw
              go_simp
              first | done | with_reducible rfl
            try simp only [Act.put, List.getElem_toArray, List.getElem_cons_succ, List.getElem_cons_zero, List.setIfInBounds_toArray, List.set_cons_zero, List.set_cons_succ]
            refine wpAnyH_take (i := 3) (v := ?v36) rfl (by kernel_rfl) (by kernel_rfl) (by kernel_rfl) (fun _ _ _ h => h) (Or.inl ⟨by rfl, ?hy36⟩) hHeld ?rest36
            case hy36 =>
              intro w' hSw
              try dsimp only at hSw
              go_simp
              first | done | with_reducible rfl
            try simp only [Act.put, List.getElem_toArray, List.getElem_cons_succ, List.getElem_cons_zero, List.setIfInBounds_toArray, List.set_cons_zero, List.set_cons_succ]
            refine wpAnyH_take (i := 4) (v := ?v37) rfl (by kernel_rfl) (by kernel_rfl) (by kernel_rfl) (fun _ _ _ h => h) (Or.inl ⟨by rfl, ?hy37⟩) hHeld ?rest37
            case hy37 =>
              intro w' hSw
              try dsimp only at hSw
              go_simp
              first | done | with_reducible rfl
            try simp only [Act.put, List.getElem_toArray, List.getElem_cons_succ, List.getElem_cons_zero, List.setIfInBounds_toArray, List.set_cons_zero, List.set_cons_succ]
            refine wpAnyH_take (i := 5) (v := ?v38) rfl (by kernel_rfl) (by kernel_rfl) (by kernel_rfl) (fun _ _ _ h => h) (Or.inl ⟨by rfl, ?hy38⟩) hHeld ?rest38
            case hy38 =>
              intro w' hSw
              try dsimp only at hSw
              go_simp
              first | done | with_reducible rfl
            try simp only [Act.put, List.getElem_toArray, List.getElem_cons_succ, List.getElem_cons_zero, List.setIfInBounds_toArray, List.set_cons_zero, List.set_cons_succ]
            refine wpAnyH_take (i := 6) (v := ?v39) rfl (by kernel_rfl) (by kernel_rfl) (by kernel_rfl) (fun _ _ _ h => h) (Or.inl ⟨by rfl, ?hy39⟩) hHeld ?rest39
            case hy39 =>
              intro w' hSw
              try dsimp only at hSw
              go_simp
              first | done | with_reducible rfl
            try simp only [Act.put, List.getElem_toArray, List.getElem_cons_succ, List.getElem_cons_zero, List.setIfInBounds_toArray, List.set_cons_zero, List.set_cons_succ]
            refine wpAnyH_take (i := 7) (v := ?v40) rfl (by kernel_rfl) (by kernel_rfl) (by kernel_rfl) (fun _ _ _ h => h) (Or.inl ⟨by rfl, ?hy40⟩) hHeld ?rest40
            case hy40 =>
              intro w' hSw
              try dsimp only at hSw
              go_simp
              first | done | with_reducible rfl
            try simp only [Act.put, List.getElem_toArray, List.getElem_cons_succ, List.getElem_cons_zero, List.setIfInBounds_toArray, List.set_cons_zero, List.set_cons_succ]
            refine wpAnyH_take (i := 8) (v := ?v41) rfl (by kernel_rfl) (by kernel_rfl) (by kernel_rfl) (fun _ _ _ h => h) (Or.inl ⟨by rfl, ?hy41⟩) hHeld ?rest41
            case hy41 =>
              intro w' hSw
              try dsimp only at hSw
              go_simp
              first | done | with_reducible rfl
            try simp only [Act.put, List.getElem_toArray, List.getElem_cons_succ, List.getElem_cons_zero, List.setIfInBounds_toArray, List.set_cons_zero, List.set_cons_succ]
            refine wpAnyH_take (i := 9) (v := ?v42) rfl (by kernel_rfl) (by kernel_rfl) (by kernel_rfl) (fun _ _ _ h => h) (Or.inl ⟨by rfl, ?hy42⟩) hHeld ?rest42
            case hy42 =>
              intro w' hSw
              try dsimp only at hSw
              go_simp
              first | done | with_reducible rfl
            try simp only [Act.put, List.getElem_toArray, List.getElem_cons_succ, List.getElem_cons_zero, List.setIfInBounds_toArray, List.set_cons_zero, List.set_cons_succ]
            refine wpAnyH_done (by kernel_rfl) ?_ _
            refine OnlyN.normal ?_
            clear hHeld hq
            go_wp2_with fail
            go_loopw [22, 23] (fun sv jv wr3 => ∃ (q2 : Bool) (j : Nat), j ≤ la.length ∧ sv = .bool q2 ∧ jv = .int .i64 (j : Int) ∧ Below w10.heap.size w10 wr3 ∧ (q2 = false → lb ≠ wb ∧ ∀ x ∈ la.take j, ¬ (x.sector = ((k / 512 : Nat) : Int) ∧ x.byte = lb))) (fun _ jv _ => la.length - (intOf jv).toNat)
            case atStart => exact ⟨q, 0, Nat.zero_le _, rfl, rfl, Below.drew HB.out, fun h => ⟨HQ.out h, by simp⟩⟩
            case round =>
              obtain ⟨q2, j, hj, rfl, rfl, hb, hno⟩ := hrel
              have HB3 := Lib.hid hb
              have HNO := Lib.hid hno
              clear hb hno
              cases q2 with
              | true =>
                by_cases hjl : j < la.length
                · have j2 : (j : Int) < (la.length : Int) := by omega
                  go_wp2
                  go_roundw
                  case rel => exact ⟨k + 1, by omega, by go_num, HB3.out⟩
                  case measure => simp [intOf]; omega
                · have j2 : ¬ (j : Int) < (la.length : Int) := by omega
                  go_wp2
                  go_roundw
                  case rel => exact ⟨k + 1, by omega, by go_num, HB3.out⟩
                  case measure => simp [intOf]; omega
              | false =>
                by_cases hjl : j < la.length
                · have j1 : (0 : Int) ≤ (j : Int) := by omega
                  have j2 : (j : Int) < (la.length : Int) := by omega
                  have jb : j ≤ 1000 := by have := HL40.out; omega
                  obtain ⟨x, hx⟩ : ∃ x, la[j]? = some x := ⟨_, List.getElem?_eq_getElem hjl⟩
                  obtain ⟨b, off, rfl, hc⟩ := (HR.out.below (L10.out.be.trans (HB3.out.mono L10.out.be.size))) j x hx
                  have HX := Lib.hid hx
                  have HC := Lib.hid hc
                  have C3 := Lib.hid (show wr.cell? ⟨g1, o1 + k, none⟩ = some (.int .u8 (lb.toNat : Int)) from (HB3.out.cell (p := ⟨g1, o1 + k, none⟩) (cell_lt CL0.out)).trans CL0.out)
                  have hdiv : (k : Int).tdiv 512 = ((k / 512 : Nat) : Int) := by rw [Int.tdiv_eq_ediv_of_nonneg (by omega)]; omega
                  obtain ⟨qk, hqk⟩ : ∃ qk, k / 512 = qk := ⟨_, rfl⟩
                  rw [hqk] at hdiv
                  have hwq : IntKind.i64.wrap (qk : Int) = (qk : Int) := IntWalk.i64_in _ (by omega)
                  have HQK := Lib.hid hqk
                  clear hx hc hqk
                  by_cases hs : x.sector = (qk : Int)
                  · have hsq : (x.sector == (qk : Int)) = true := beq_iff_eq.2 hs
                    obtain ⟨q4, hq4⟩ : ∃ q4, ((x.byte.toNat : Int) == (lb.toNat : Int)) = q4 := ⟨_, rfl⟩
                    have HQ4 := Lib.hid (show q4 = false → x.byte ≠ lb from fun h e => by rw [e, h] at hq4; simp at hq4)
                    clear hs
                    go_wp2
                    refine wp_region_only (S := fun w' => w'.cell? ⟨b, off + j * 8 + 1, none⟩ = some (.int .i64 x.sector) ∧ w'.cell? ⟨b, off + j * 8 + 3, none⟩ = some (.int .u8 (x.byte.toNat : Int)) ∧ w'.cell? ⟨g1, o1 + k, none⟩ = some (.int .u8 (lb.toNat : Int))) (by kernel_rfl) ⟨HC.out 1 _ rfl, HC.out 3 _ rfl, C3.out⟩ (fun hHeld => ?_)
                    refine wpAnyH_take (i := 0) (v := ?v43) rfl (by kernel_rfl) (by kernel_rfl) (by kernel_rfl) (fun _ _ _ h => h) (Or.inl ⟨by rfl, ?hy43⟩) hHeld ?rest43
                    case hy43 =>
                      intro w' hSw
                      try dsimp only at hSw
                      go_simp
                      first | done | with_reducible rfl
                    try simp only [Act.put, List.getElem_toArray, List.getElem_cons_zero, List.setIfInBounds_toArray, List.set_cons_zero, List.set_cons_succ]
                    refine wpAnyH_take (i := 1) (v := ?v44) rfl (by kernel_rfl) (by kernel_rfl) (by kernel_rfl) (fun _ _ _ h => h) (Or.inl ⟨by rfl, ?hy44⟩) hHeld ?rest44
                    case hy44 =>
                      intro w' hSw
                      try dsimp only at hSw
                      go_simp
                      first | done | with_reducible rfl
                    try simp only [Act.put, List.getElem_toArray, List.getElem_cons_succ, List.getElem_cons_zero, List.setIfInBounds_toArray, List.set_cons_zero, List.set_cons_succ]
                    refine wpAnyH_take (i := 2) (v := ?v45) rfl (by kernel_rfl) (by kernel_rfl) (by kernel_rfl) (fun _ _ _ h => h) (Or.inl ⟨by rfl, ?hy45⟩) hHeld ?rest45
                    case hy45 =>
                      intro w' hSw
                      try dsimp only at hSw
                      go_simp
                      first | done | with_reducible rfl
                    try simp only [Act.put, List.getElem_toArray, List.getElem_cons_succ, List.getElem_cons_zero, List.setIfInBounds_toArray, List.set_cons_zero, List.set_cons_succ]
                    refine wpAnyH_take (i := 3) (v := ?v46) rfl (by kernel_rfl) (by kernel_rfl) (by kernel_rfl) (fun _ _ _ h => h) (Or.inl ⟨by rfl, ?hy46⟩) hHeld ?rest46
                    case hy46 =>
                      intro w' hSw
                      try dsimp only at hSw
                      go_simp
                      first | done | with_reducible rfl
                    try simp only [Act.put, List.getElem_toArray, List.getElem_cons_succ, List.getElem_cons_zero, List.setIfInBounds_toArray, List.set_cons_zero, List.set_cons_succ]
                    refine wpAnyH_take (i := 4) (v := ?v47) rfl (by kernel_rfl) (by kernel_rfl) (by kernel_rfl) (fun _ _ _ h => h) (Or.inl ⟨by rfl, ?hy47⟩) hHeld ?rest47
                    case hy47 =>
                      intro w' hSw
                      try dsimp only at hSw
                      go_simp
                      first | done | with_reducible rfl
                    try simp only [Act.put, List.getElem_toArray, List.getElem_cons_succ, List.getElem_cons_zero, List.setIfInBounds_toArray, List.set_cons_zero, List.set_cons_succ]
                    refine wpAnyH_take (i := 5) (v := ?v48) rfl (by kernel_rfl) (by kernel_rfl) (by kernel_rfl) (fun _ _ _ h => h) (Or.inl ⟨by rfl, ?hy48⟩) hHeld ?rest48
                    case hy48 =>
                      intro w' hSw
                      try dsimp only at hSw
                      go_simp
                      first | done | with_reducible rfl
                    try simp only [Act.put, List.getElem_toArray, List.getElem_cons_succ, List.getElem_cons_zero, List.setIfInBounds_toArray, List.set_cons_zero, List.set_cons_succ]
                    refine wpAnyH_take (i := 6) (v := ?v49) rfl (by kernel_rfl) (by kernel_rfl) (by kernel_rfl) (fun _ _ _ h => h) (Or.inl ⟨by rfl, ?hy49⟩) hHeld ?rest49
                    case hy49 =>
                      intro w' hSw
                      try dsimp only at hSw
                      go_simp
                      first | done | with_reducible rfl
                    try simp only [Act.put, List.getElem_toArray, List.getElem_cons_succ, List.getElem_cons_zero, List.setIfInBounds_toArray, List.set_cons_zero, List.set_cons_succ]
                    refine wpAnyH_take (i := 7) (v := ?v50) rfl (by kernel_rfl) (by kernel_rfl) (by kernel_rfl) (fun _ _ _ h => h) (Or.inl ⟨by rfl, ?hy50⟩) hHeld ?rest50
                    case hy50 =>
                      intro w' hSw
                      try dsimp only at hSw
                      go_simp
                      first | done | with_reducible rfl
                    try simp only [Act.put, List.getElem_toArray, List.getElem_cons_succ, List.getElem_cons_zero, List.setIfInBounds_toArray, List.set_cons_zero, List.set_cons_succ]
                    refine wpAnyH_take (i := 8) (v := ?v51) rfl (by kernel_rfl) (by kernel_rfl) (by kernel_rfl) (fun _ _ _ h => h) (Or.inl ⟨by rfl, ?hy51⟩) hHeld ?rest51
                    case hy51 =>
                      intro w' hSw
                      try dsimp only at hSw
                      go_simp
                      first | done | with_reducible rfl
                    try simp only [Act.put, List.getElem_toArray, List.getElem_cons_succ, List.getElem_cons_zero, List.setIfInBounds_toArray, List.set_cons_zero, List.set_cons_succ]
                    refine wpAnyH_take (i := 9) (v := ?v52) rfl (by kernel_rfl) (by kernel_rfl) (by kernel_rfl) (fun _ _ _ h => h) (Or.inl ⟨by rfl, ?hy52⟩) hHeld ?rest52
                    case hy52 =>
                      intro w' hSw
                      try dsimp only at hSw
                      go_simp
                      first | done | with_reducible rfl
                    try simp only [Act.put, List.getElem_toArray, List.getElem_cons_succ, List.getElem_cons_zero, List.setIfInBounds_toArray, List.set_cons_zero, List.set_cons_succ]
                    refine wpAnyH_take (i := 10) (v := ?v53) rfl (by kernel_rfl) (by kernel_rfl) (by kernel_rfl) (fun _ _ _ h => h) (Or.inl ⟨by rfl, ?hy53⟩) hHeld ?rest53
                    case hy53 =>
                      intro w' hSw
                      try dsimp only at hSw
                      go_simp
                      first | done | with_reducible rfl
                    try simp only [Act.put, List.getElem_toArray, List.getElem_cons_succ, List.getElem_cons_zero, List.setIfInBounds_toArray, List.set_cons_zero, List.set_cons_succ]
                    refine wpAnyH_take (i := 11) (v := ?v54) rfl (by kernel_rfl) (by kernel_rfl) (by kernel_rfl) (fun _ _ _ h => h) (Or.inl ⟨by rfl, ?hy54⟩) hHeld ?rest54
                    case hy54 =>
                      intro w' hSw
                      try dsimp only at hSw
                      go_simp
                      first | done | with_reducible rfl
                    try simp only [Act.put, List.getElem_toArray, List.getElem_cons_succ, List.getElem_cons_zero, List.setIfInBounds_toArray, List.set_cons_zero, List.set_cons_succ]
                    refine wpAnyH_take (i := 12) (v := ?v55) rfl (by kernel_rfl) (by kernel_rfl) (by kernel_rfl) (fun _ _ _ h => h) (Or.inl ⟨by rfl, ?hy55⟩) hHeld ?rest55
                    case hy55 =>
                      intro w' hSw
                      try dsimp only at hSw
                      go_simp
                      first | done | with_reducible rfl
                    try simp only [Act.put, List.getElem_toArray, List.getElem_cons_succ, List.getElem_cons_zero, List.setIfInBounds_toArray, List.set_cons_zero, List.set_cons_succ]
                    refine wpAnyH_take (i := 13) (v := ?v56) rfl (by kernel_rfl) (by kernel_rfl) (by kernel_rfl) (fun _ _ _ h => h) (Or.inl ⟨by rfl, ?hy56⟩) hHeld ?rest56
                    case hy56 =>
                      intro w' hSw
                      try dsimp only at hSw
                      go_simp
                      first | done | with_reducible rfl
                    try simp only [Act.put, List.getElem_toArray, List.getElem_cons_succ, List.getElem_cons_zero, List.setIfInBounds_toArray, List.set_cons_zero, List.set_cons_succ]
                    refine wpAnyH_take (i := 14) (v := ?v57) rfl (by kernel_rfl) (by kernel_rfl) (by kernel_rfl) (fun _ _ _ h => h) (Or.inl ⟨by rfl, ?hy57⟩) hHeld ?rest57
                    case hy57 =>
                      intro w' hSw
                      try dsimp only at hSw
                      go_simp
                      first | done | with_reducible rfl
                    try simp only [Act.put, List.getElem_toArray, List.getElem_cons_succ, List.getElem_cons_zero, List.setIfInBounds_toArray, List.set_cons_zero, List.set_cons_succ]
                    refine wpAnyH_take (i := 15) (v := ?v58) rfl (by kernel_rfl) (by kernel_rfl) (by kernel_rfl) (fun _ _ _ h => h) (Or.inl ⟨by rfl, ?hy58⟩) hHeld ?rest58
                    case hy58 =>
                      intro w' hSw
                      try dsimp only at hSw
                      go_simp
                      first | done | with_reducible rfl
                    try simp only [Act.put, List.getElem_toArray, List.getElem_cons_succ, List.getElem_cons_zero, List.setIfInBounds_toArray, List.set_cons_zero, List.set_cons_succ]
                    refine wpAnyH_take (i := 16) (v := ?v59) rfl (by kernel_rfl) (by kernel_rfl) (by kernel_rfl) (fun _ _ _ h => h) (Or.inl ⟨by rfl, ?hy59⟩) hHeld ?rest59
                    case hy59 =>
                      intro w' hSw
                      try dsimp only at hSw
                      go_simp
                      first | done | with_reducible rfl
                    try simp only [Act.put, List.getElem_toArray, List.getElem_cons_succ, List.getElem_cons_zero, List.setIfInBounds_toArray, List.set_cons_zero, List.set_cons_succ]
                    refine wpAnyH_take (i := 17) (v := ?v60) rfl (by kernel_rfl) (by kernel_rfl) (by kernel_rfl) (fun _ _ _ h => h) (Or.inl ⟨by rfl, ?hy60⟩) hHeld ?rest60
                    case hy60 =>
                      intro w' hSw
                      try dsimp only at hSw
                      go_simp
                      first | done | with_reducible rfl
                    try simp only [Act.put, List.getElem_toArray, List.getElem_cons_succ, List.getElem_cons_zero, List.setIfInBounds_toArray, List.set_cons_zero, List.set_cons_succ]
                    refine wpAnyH_take (i := 18) (v := ?v61) rfl (by kernel_rfl) (by kernel_rfl) (by kernel_rfl) (fun _ _ _ h => h) (Or.inl ⟨by rfl, ?hy61⟩) hHeld ?rest61
                    case hy61 =>
                      intro w' hSw
                      try dsimp only at hSw
                      go_simp
                      first | done | with_reducible rfl
                    try simp only [Act.put, List.getElem_toArray, List.getElem_cons_succ, List.getElem_cons_zero, List.setIfInBounds_toArray, List.set_cons_zero, List.set_cons_succ]
                    refine wpAnyH_take (i := 19) (v := ?v62) rfl (by kernel_rfl) (by kernel_rfl) (by kernel_rfl) (fun _ _ _ h => h) (Or.inl ⟨by rfl, ?hy62⟩) hHeld ?rest62
                    case hy62 =>
                      intro w' hSw
                      try dsimp only at hSw
                      go_simp
                      first | done | with_reducible rfl
                    try simp only [Act.put, List.getElem_toArray, List.getElem_cons_succ, List.getElem_cons_zero, List.setIfInBounds_toArray, List.set_cons_zero, List.set_cons_succ]
                    refine wpAnyH_take (i := 20) (v := ?v63) rfl (by kernel_rfl) (by kernel_rfl) (by kernel_rfl) (fun _ _ _ h => h) (Or.inl ⟨by rfl, ?hy63⟩) hHeld ?rest63
                    case hy63 =>
                      intro w' hSw
                      try dsimp only at hSw
                      go_simp
                      first | done | with_reducible rfl
                    try simp only [Act.put, List.getElem_toArray, List.getElem_cons_succ, List.getElem_cons_zero, List.setIfInBounds_toArray, List.set_cons_zero, List.set_cons_succ]
                    refine wpAnyH_done (by kernel_rfl) ?_ _
                    refine OnlyN.normal ?_
                    clear hHeld hq4
                    go_wp2
                    go_roundw
                    case rel =>
                      refine ⟨q4, j + 1, by omega, rfl, by go_num, Below.drew HB3.out, fun h => ⟨(HNO.out (by first | trivial | rfl)).1, fun y hy => ?_⟩⟩
                      rw [act_snoc HX.out] at hy
                      rcases List.mem_append.1 hy with hy | hy
                      · exact (HNO.out (by first | trivial | rfl)).2 y hy
                      · rw [List.mem_singleton.1 hy]
                        exact fun hh => HQ4.out h hh.2
                    case measure => simp [intOf]; omega
                  · have hsq : (x.sector == (qk : Int)) = false := beq_eq_false_iff_ne.2 hs
                    have HSN := Lib.hid hs
                    clear hs
                    go_wp2
                    refine wp_region_only (S := fun w' => w'.cell? ⟨b, off + j * 8 + 1, none⟩ = some (.int .i64 x.sector) ∧ w'.cell? ⟨b, off + j * 8 + 3, none⟩ = some (.int .u8 (x.byte.toNat : Int)) ∧ w'.cell? ⟨g1, o1 + k, none⟩ = some (.int .u8 (lb.toNat : Int))) (by kernel_rfl) ⟨HC.out 1 _ rfl, HC.out 3 _ rfl, C3.out⟩ (fun hHeld => ?_)
                    refine wpAnyH_take (i := 0) (v := ?v64) rfl (by kernel_rfl) (by kernel_rfl) (by kernel_rfl) (fun _ _ _ h => h) (Or.inl ⟨by rfl, ?hy64⟩) hHeld ?rest64
                    case hy64 =>
                      intro w' hSw
                      try dsimp only at hSw
                      go_simp
                      first | done | with_reducible rfl
                    try simp only [Act.put, List.getElem_toArray, List.getElem_cons_zero, List.setIfInBounds_toArray, List.set_cons_zero, List.set_cons_succ]
                    refine wpAnyH_take (i := 1) (v := ?v65) rfl (by kernel_rfl) (by kernel_rfl) (by kernel_rfl) (fun _ _ _ h => h) (Or.inl ⟨by rfl, ?hy65⟩) hHeld ?rest65
                    case hy65 =>
                      intro w' hSw
                      try dsimp only at hSw
                      go_simp
                      first | done | with_reducible rfl
                    try simp only [Act.put, List.getElem_toArray, List.getElem_cons_succ, List.getElem_cons_zero, List.setIfInBounds_toArray, List.set_cons_zero, List.set_cons_succ]
                    refine wpAnyH_take (i := 2) (v := ?v66) rfl (by kernel_rfl) (by kernel_rfl) (by kernel_rfl) (fun _ _ _ h => h) (Or.inl ⟨by rfl, ?hy66⟩) hHeld ?rest66
                    case hy66 =>
                      intro w' hSw
                      try dsimp only at hSw
                      go_simp
                      first | done | with_reducible rfl
                    try simp only [Act.put, List.getElem_toArray, List.getElem_cons_succ, List.getElem_cons_zero, List.setIfInBounds_toArray, List.set_cons_zero, List.set_cons_succ]
                    refine wpAnyH_take (i := 3) (v := ?v67) rfl (by kernel_rfl) (by kernel_rfl) (by kernel_rfl) (fun _ _ _ h => h) (Or.inl ⟨by rfl, ?hy67⟩) hHeld ?rest67
                    case hy67 =>
                      intro w' hSw
                      try dsimp only at hSw
                      go_simp
                      first | done | with_reducible rfl
                    try simp only [Act.put, List.getElem_toArray, List.getElem_cons_succ, List.getElem_cons_zero, List.setIfInBounds_toArray, List.set_cons_zero, List.set_cons_succ]
                    refine wpAnyH_take (i := 4) (v := ?v68) rfl (by kernel_rfl) (by kernel_rfl) (by kernel_rfl) (fun _ _ _ h => h) (Or.inl ⟨by rfl, ?hy68⟩) hHeld ?rest68
                    case hy68 =>
                      intro w' hSw
                      try dsimp only at hSw
                      go_simp
                      first | done | with_reducible rfl
                    try simp only [Act.put, List.getElem_toArray, List.getElem_cons_succ, List.getElem_cons_zero, List.setIfInBounds_toArray, List.set_cons_zero, List.set_cons_succ]
                    refine wpAnyH_take (i := 5) (v := ?v69) rfl (by kernel_rfl) (by kernel_rfl) (by kernel_rfl) (fun _ _ _ h => h) (Or.inl ⟨by rfl, ?hy69⟩) hHeld ?rest69
                    case hy69 =>
                      intro w' hSw
                      try dsimp only at hSw
                      go_simp
                      first | done | with_reducible rfl
                    try simp only [Act.put, List.getElem_toArray, List.getElem_cons_succ, List.getElem_cons_zero, List.setIfInBounds_toArray, List.set_cons_zero, List.set_cons_succ]
                    refine wpAnyH_take (i := 6) (v := ?v70) rfl (by kernel_rfl) (by kernel_rfl) (by kernel_rfl) (fun _ _ _ h => h) (Or.inl ⟨by rfl, ?hy70⟩) hHeld ?rest70
                    case hy70 =>
                      intro w' hSw
                      try dsimp only at hSw
                      go_simp
                      first | done | with_reducible rfl
                    try simp only [Act.put, List.getElem_toArray, List.getElem_cons_succ, List.getElem_cons_zero, List.setIfInBounds_toArray, List.set_cons_zero, List.set_cons_succ]
                    refine wpAnyH_take (i := 7) (v := ?v71) rfl (by kernel_rfl) (by kernel_rfl) (by kernel_rfl) (fun _ _ _ h => h) (Or.inl ⟨by rfl, ?hy71⟩) hHeld ?rest71
                    case hy71 =>
                      intro w' hSw
                      try dsimp only at hSw
                      go_simp
                      first | done | with_reducible rfl
                    try simp only [Act.put, List.getElem_toArray, List.getElem_cons_succ, List.getElem_cons_zero, List.setIfInBounds_toArray, List.set_cons_zero, List.set_cons_succ]
                    refine wpAnyH_take (i := 8) (v := ?v72) rfl (by kernel_rfl) (by kernel_rfl) (by kernel_rfl) (fun _ _ _ h => h) (Or.inl ⟨by rfl, ?hy72⟩) hHeld ?rest72
                    case hy72 =>
                      intro w' hSw
                      try dsimp only at hSw
                      go_simp
                      first | done | with_reducible rfl
                    try simp only [Act.put, List.getElem_toArray, List.getElem_cons_succ, List.getElem_cons_zero, List.setIfInBounds_toArray, List.set_cons_zero, List.set_cons_succ]
                    refine wpAnyH_take (i := 9) (v := undef) rfl (by kernel_rfl) (by kernel_rfl) (by kernel_rfl) (fun _ _ _ h => h) (Or.inr ⟨by rfl, rfl⟩) hHeld ?_
                    try simp only [Act.put, List.getElem_toArray, List.getElem_cons_succ, List.getElem_cons_zero, List.setIfInBounds_toArray, List.set_cons_zero, List.set_cons_succ]
                    refine wpAnyH_take (i := 10) (v := undef) rfl (by kernel_rfl) (by kernel_rfl) (by kernel_rfl) (fun _ _ _ h => h) (Or.inr ⟨by rfl, rfl⟩) hHeld ?_
                    try simp only [Act.put, List.getElem_toArray, List.getElem_cons_succ, List.getElem_cons_zero, List.setIfInBounds_toArray, List.set_cons_zero, List.set_cons_succ]
                    refine wpAnyH_take (i := 11) (v := undef) rfl (by kernel_rfl) (by kernel_rfl) (by kernel_rfl) (fun _ _ _ h => h) (Or.inr ⟨by rfl, rfl⟩) hHeld ?_
                    try simp only [Act.put, List.getElem_toArray, List.getElem_cons_succ, List.getElem_cons_zero, List.setIfInBounds_toArray, List.set_cons_zero, List.set_cons_succ]
                    refine wpAnyH_take (i := 12) (v := undef) rfl (by kernel_rfl) (by kernel_rfl) (by kernel_rfl) (fun _ _ _ h => h) (Or.inr ⟨by rfl, rfl⟩) hHeld ?_
                    try simp only [Act.put, List.getElem_toArray, List.getElem_cons_succ, List.getElem_cons_zero, List.setIfInBounds_toArray, List.set_cons_zero, List.set_cons_succ]
                    refine wpAnyH_take (i := 13) (v := undef) rfl (by kernel_rfl) (by kernel_rfl) (by kernel_rfl) (fun _ _ _ h => h) (Or.inr ⟨by rfl, rfl⟩) hHeld ?_
                    try simp only [Act.put, List.getElem_toArray, List.getElem_cons_succ, List.getElem_cons_zero, List.setIfInBounds_toArray, List.set_cons_zero, List.set_cons_succ]
                    refine wpAnyH_take (i := 14) (v := undef) rfl (by kernel_rfl) (by kernel_rfl) (by kernel_rfl) (fun _ _ _ h => h) (Or.inr ⟨by rfl, rfl⟩) hHeld ?_
                    try simp only [Act.put, List.getElem_toArray, List.getElem_cons_succ, List.getElem_cons_zero, List.setIfInBounds_toArray, List.set_cons_zero, List.set_cons_succ]
                    refine wpAnyH_take (i := 15) (v := undef) rfl (by kernel_rfl) (by kernel_rfl) (by kernel_rfl) (fun _ _ _ h => h) (Or.inr ⟨by rfl, rfl⟩) hHeld ?_
                    try simp only [Act.put, List.getElem_toArray, List.getElem_cons_succ, List.getElem_cons_zero, List.setIfInBounds_toArray, List.set_cons_zero, List.set_cons_succ]
                    refine wpAnyH_take (i := 16) (v := undef) rfl (by kernel_rfl) (by kernel_rfl) (by kernel_rfl) (fun _ _ _ h => h) (Or.inr ⟨by rfl, rfl⟩) hHeld ?_
                    try simp only [Act.put, List.getElem_toArray, List.getElem_cons_succ, List.getElem_cons_zero, List.setIfInBounds_toArray, List.set_cons_zero, List.set_cons_succ]
                    refine wpAnyH_take (i := 17) (v := undef) rfl (by kernel_rfl) (by kernel_rfl) (by kernel_rfl) (fun _ _ _ h => h) (Or.inr ⟨by rfl, rfl⟩) hHeld ?_
                    try simp only [Act.put, List.getElem_toArray, List.getElem_cons_succ, List.getElem_cons_zero, List.setIfInBounds_toArray, List.set_cons_zero, List.set_cons_succ]
                    refine wpAnyH_take (i := 18) (v := undef) rfl (by kernel_rfl) (by kernel_rfl) (by kernel_rfl) (fun _ _ _ h => h) (Or.inr ⟨by rfl, rfl⟩) hHeld ?_
                    try simp only [Act.put, List.getElem_toArray, List.getElem_cons_succ, List.getElem_cons_zero, List.setIfInBounds_toArray, List.set_cons_zero, List.set_cons_succ]
                    refine wpAnyH_take (i := 19) (v := ?v73) rfl (by kernel_rfl) (by kernel_rfl) (by kernel_rfl) (fun _ _ _ h => h) (Or.inl ⟨by rfl, ?hy73⟩) hHeld ?rest73
                    case hy73 =>
                      intro w' hSw
                      try dsimp only at hSw
                      go_simp
                      first | done | with_reducible rfl
                    try simp only [Act.put, List.getElem_toArray, List.getElem_cons_succ, List.getElem_cons_zero, List.setIfInBounds_toArray, List.set_cons_zero, List.set_cons_succ]
                    refine wpAnyH_take (i := 20) (v := ?v74) rfl (by kernel_rfl) (by kernel_rfl) (by kernel_rfl) (fun _ _ _ h => h) (Or.inl ⟨by rfl, ?hy74⟩) hHeld ?rest74
                    case hy74 =>
                      intro w' hSw
                      try dsimp only at hSw
                      go_simp
                      first | done | with_reducible rfl
                    try simp only [Act.put, List.getElem_toArray, List.getElem_cons_succ, List.getElem_cons_zero, List.setIfInBounds_toArray, List.set_cons_zero, List.set_cons_succ]
                    refine wpAnyH_done (by kernel_rfl) ?_ _
                    refine OnlyN.normal ?_
                    clear hHeld
                    go_wp2
                    go_roundw
                    case rel =>
                      refine ⟨false, j + 1, by omega, rfl, by go_num, Below.drew HB3.out, fun h => ⟨(HNO.out (by first | trivial | rfl)).1, fun y hy => ?_⟩⟩
                      rw [act_snoc HX.out] at hy
                      rcases List.mem_append.1 hy with hy | hy
                      · exact (HNO.out (by first | trivial | rfl)).2 y hy
                      · rw [List.mem_singleton.1 hy]
                        exact fun hh => HSN.out (by rw [hh.1, HQK.out])
                    case measure => simp [intOf]; omega
                · exfalso
                  obtain rfl : j = la.length := by omega
                  have h1 := HNO.out (by first | trivial | rfl)
                  rw [List.take_length] at h1
                  rcases HOR.out with h | ⟨x, hx, h2, h3⟩
                  · exact h1.1 h
                  · exact h1.2 x hx ⟨h2, h3⟩
          · obtain rfl : N = k := by omega
            have i2' : ¬ (N : Int) < (N : Int) := by omega
            have L11 := Lib.hid (L10.out.below HB.out)
            have RN11 := Lib.hid (RN10.out.below HB.out)
            go_wp2_with fail
            refine (flush_goes L11.out.da HDN.out (by have := WD.out.steps; have := HL40.out; omega) WD.out.next).mono ?_
            rintro e w12 ⟨rfl, df, hf⟩
            have L12 := Lib.hid (L11.out.disk df hf (fun q hq => .inl (diskFails.has_empty _ _ _ hq)))
            have RN12 := Lib.hid (rd_fr RN11.out hf (fun a e hq => by have h1 := NB.out a e; have h2 := (LS.out.da.lt _ hq).1; omega))
            have k0 := (L12.out.bx.cell 0).trans (show _ = some (.slice KA cr.keep.length kc) from rfl)
            have k1 := (L12.out.bx.cell 1).trans (show _ = some (.int .i64 cr.torn) from rfl)
            have k2 := (L12.out.bx.cell 2).trans (show _ = some (.int .i64 cr.bytes) from rfl)
            clear df hf
            go_wp2_with (go_at_call 24; refine (show Calls Try.prog _ #[.pointer (some ⟨p, 0, none⟩), .agg #[.slice KA cr.keep.length kc, .int .i64 cr.torn, .int .i64 cr.bytes]] w12 _ from crash_ok L12.out.da (Nat.zero_le _) cr KA kc (HKR.out.below L12.out.be) HC0.out HC5.out).mono ?_; rintro e w13 ⟨p4, m4, rfl, dz, b13⟩; have DZ13 := Lib.hid dz; have L13 := Lib.hid (L12.out.below b13); have RN13 := Lib.hid (RN12.out.below b13); clear dz b13 k0 k1 k2)
            have SN3 := Lib.hid (str_run (c := c15) HAL.out RN13.out.drew)
            refine wp_region_only (S := fun w' => (convert 22 9 (.slice A15 N c15)).run Try.prog w' = .ok (.string (st D.all)) w') (by kernel_rfl) SN3.out (fun hHeld => ?_)
            refine wpAnyH_take (i := 0) (v := ?v75) rfl (by kernel_rfl) (by kernel_rfl) (by kernel_rfl) (fun _ _ _ h => h) (Or.inl ⟨by rfl, ?hy75⟩) hHeld ?rest75
            case hy75 =>
              intro w' hSw
              try dsimp only at hSw
              go_simp
              first | done | with_reducible rfl
            try simp only [Act.put, List.getElem_toArray, List.getElem_cons_zero, List.setIfInBounds_toArray, List.set_cons_zero, List.set_cons_succ]
            refine wpAnyH_take (i := 2) (v := ?v76) rfl (by kernel_rfl) (by kernel_rfl) (by kernel_rfl) (fun _ _ _ h => h) (Or.inl ⟨by rfl, ?hy76⟩) hHeld ?rest76
            case hy76 =>
              intro w' hSw
              try dsimp only at hSw
              go_simp
              first | done | with_reducible rfl
            try simp only [Act.put, List.getElem_toArray, List.getElem_cons_succ, List.getElem_cons_zero, List.setIfInBounds_toArray, List.set_cons_zero, List.set_cons_succ]
            refine wpAnyH_ready (rs := [1]) (by kernel_rfl) (by simp) ?_
            refine AllReadyH.cons (by rfl) (fun K hK => ?_) AllReadyH.nil
            go_simp
            refine (num_any _ _).mono ?_
            rintro e y1 ⟨rfl, rfl⟩
            clear hHeld
            go_wp2_with fail
            refine hK.out _ _ SN3.out (fun hHeld => ?_)
            clear hK K
            try simp only [Act.put, List.getElem_toArray, List.getElem_cons_succ, List.getElem_cons_zero, List.setIfInBounds_toArray, List.set_cons_zero, List.set_cons_succ]
            refine wpAnyH_ready (rs := [3]) (by kernel_rfl) (by simp) ?_
            refine AllReadyH.cons (by rfl) (fun K hK => ?_) AllReadyH.nil
            go_simp
            refine (num_any _ _).mono ?_
            rintro e y1 ⟨rfl, rfl⟩
            clear hHeld
            go_wp2_with fail
            refine hK.out _ _ SN3.out (fun hHeld => ?_)
            clear hK K
            try simp only [Act.put, List.getElem_toArray, List.getElem_cons_succ, List.getElem_cons_zero, List.setIfInBounds_toArray, List.set_cons_zero, List.set_cons_succ]
            refine wpAnyH_take (i := 4) (v := ?v77) rfl (by kernel_rfl) (by kernel_rfl) (by kernel_rfl) (fun _ _ _ h => h) (Or.inl ⟨by rfl, ?hy77⟩) hHeld ?rest77
            case hy77 =>
              intro w' hSw
              try dsimp only at hSw
              go_simp
              first | done | with_reducible rfl
            try simp only [Act.put, List.getElem_toArray, List.getElem_cons_succ, List.getElem_cons_zero, List.setIfInBounds_toArray, List.set_cons_zero, List.set_cons_succ]
            refine wpAnyH_take (i := 5) (v := ?v78) rfl (by kernel_rfl) (by kernel_rfl) (by kernel_rfl) (fun _ _ _ h => h) (Or.inl ⟨by rfl, ?hy78⟩) hHeld ?rest78
            case hy78 =>
              intro w' hSw
              try dsimp only at hSw
              go_simp
              first | done | with_reducible rfl
            try simp only [Act.put, List.getElem_toArray, List.getElem_cons_succ, List.getElem_cons_zero, List.setIfInBounds_toArray, List.set_cons_zero, List.set_cons_succ]
            refine wpAnyH_take (i := 6) (v := ?v79) rfl (by kernel_rfl) (by kernel_rfl) (by kernel_rfl) (fun _ _ _ h => h) (Or.inl ⟨by rfl, ?hy79⟩) hHeld ?rest79
            case hy79 =>
              intro w' hSw
              try dsimp only at hSw
              go_simp
              first | done | with_reducible rfl
            try simp only [Act.put, List.getElem_toArray, List.getElem_cons_succ, List.getElem_cons_zero, List.setIfInBounds_toArray, List.set_cons_zero, List.set_cons_succ]
            refine wpAnyH_take (i := 7) (v := ?v80) rfl (by kernel_rfl) (by kernel_rfl) (by kernel_rfl) (fun _ _ _ h => h) (Or.inl ⟨by rfl, ?hy80⟩) hHeld ?rest80
            case hy80 =>
              intro w' hSw
              try dsimp only at hSw
              go_simp
              first | done | with_reducible rfl
            try simp only [Act.put, List.getElem_toArray, List.getElem_cons_succ, List.getElem_cons_zero, List.setIfInBounds_toArray, List.set_cons_zero, List.set_cons_succ]
            refine wpAnyH_take (i := 10) (v := ?v81) rfl (by kernel_rfl) (by kernel_rfl) (by kernel_rfl) (fun _ _ _ h => h) (Or.inl ⟨by rfl, ?hy81⟩) hHeld ?rest81
            case hy81 =>
              intro w' hSw
              try dsimp only at hSw
              go_simp
              first | done | with_reducible rfl
            try simp only [Act.put, List.getElem_toArray, List.getElem_cons_succ, List.getElem_cons_zero, List.setIfInBounds_toArray, List.set_cons_zero, List.set_cons_succ]
            refine wpAnyH_take (i := 11) (v := ?v82) rfl (by kernel_rfl) (by kernel_rfl) (by kernel_rfl) (fun _ _ _ h => h) (Or.inl ⟨by rfl, ?hy82⟩) hHeld ?rest82
            case hy82 =>
              intro w' hSw
              try dsimp only at hSw
              go_simp
              first | done | with_reducible rfl
            try simp only [Act.put, List.getElem_toArray, List.getElem_cons_succ, List.getElem_cons_zero, List.setIfInBounds_toArray, List.set_cons_zero, List.set_cons_succ]
            refine wpAnyH_ready (rs := [8]) (by kernel_rfl) (by simp) ?_
            refine AllReadyH.cons (by rfl) (fun K hK => ?_) AllReadyH.nil
            go_simp
            refine (bytes_at DZ13.out.drew (Nat.zero_le _)).mono ?_
            rintro e w14 ⟨v, rfl, hown, hb⟩
            obtain ⟨AZ, cZ, rfl⟩ := own_shape hown
            have s9 := str_run (c := cZ) (show (D.stepped.flushed.crashed cr).all.length = (D.stepped.flushed.crashed cr).size * 512 by rw [flushed_all, HAL.out, NE.out]; rw [show (D.stepped.flushed.crashed cr).size = s from HDS.out]) (Rd.of_own hown)
            rw [flushed_all] at s9
            have L14 := Lib.hid (L13.out.drew.below hb)
            have RN14 := Lib.hid (RN13.out.drew.below hb)
            have SN4 := Lib.hid (str_run (c := c15) HAL.out (RN13.out.drew.below hb))
            clear hown hb hHeld
            go_wp2_with fail
            refine hK.out _ _ SN4.out (fun hHeld => ?_)
            clear hK K
            try simp only [Act.put, List.getElem_toArray, List.getElem_cons_succ, List.getElem_cons_zero, List.setIfInBounds_toArray, List.set_cons_zero, List.set_cons_succ]
            refine wpAnyH_ready (rs := [9]) (by kernel_rfl) (by simp) ?_
            refine AllReadyH.cons (by rfl) (fun K hK => ?_) AllReadyH.nil
            go_simp
            go_wp2_with fail
            refine hK.out _ _ SN4.out (fun hHeld => ?_)
            clear hK K
            try simp only [Act.put, List.getElem_toArray, List.getElem_cons_succ, List.getElem_cons_zero, List.setIfInBounds_toArray, List.set_cons_zero, List.set_cons_succ]
            refine wpAnyH_take (i := 12) (v := ?v83) rfl (by kernel_rfl) (by kernel_rfl) (by kernel_rfl) (fun _ _ _ h => h) (Or.inl ⟨by rfl, ?hy83⟩) hHeld ?rest83
            case hy83 =>
              intro w' hSw
              try dsimp only at hSw
              go_simp
              first | done | with_reducible rfl
            try simp only [Act.put, List.getElem_toArray, List.getElem_cons_succ, List.getElem_cons_zero, List.setIfInBounds_toArray, List.set_cons_zero, List.set_cons_succ]
            refine wpAnyH_take (i := 13) (v := ?v84) rfl (by kernel_rfl) (by kernel_rfl) (by kernel_rfl) (fun _ _ _ h => h) (Or.inl ⟨by rfl, ?hy84⟩) hHeld ?rest84
            case hy84 =>
              intro w' hSw
              try dsimp only at hSw
              go_simp
              first | done | with_reducible rfl
            try simp only [Act.put, List.getElem_toArray, List.getElem_cons_succ, List.getElem_cons_zero, List.setIfInBounds_toArray, List.set_cons_zero, List.set_cons_succ]
            refine wpAnyH_take (i := 14) (v := ?v85) rfl (by kernel_rfl) (by kernel_rfl) (by kernel_rfl) (fun _ _ _ h => h) (Or.inl ⟨by rfl, ?hy85⟩) hHeld ?rest85
            case hy85 =>
              intro w' hSw
              try dsimp only at hSw
              go_simp
              first | done | with_reducible rfl
            try simp only [Act.put, List.getElem_toArray, List.getElem_cons_succ, List.getElem_cons_zero, List.setIfInBounds_toArray, List.set_cons_zero, List.set_cons_succ]
            refine wpAnyH_ready (rs := [15]) (by kernel_rfl) (by simp) ?_
            refine AllReadyH.cons (by rfl) (fun K hK => ?_) AllReadyH.nil
            go_simp
            refine (works_any _).mono ?_
            rintro e w15 ⟨rfl, hb⟩
            have B9 := Lib.hid (L14.out.be.trans (hb.mono L14.out.be.size))
            have SN5 := Lib.hid (str_run (c := c15) HAL.out (RN14.out.below hb))
            clear hb hHeld
            go_wp2_with fail
            refine hK.out _ _ SN5.out (fun hHeld => ?_)
            clear hK K
            try simp only [Act.put, List.getElem_toArray, List.getElem_cons_succ, List.getElem_cons_zero, List.setIfInBounds_toArray, List.set_cons_zero, List.set_cons_succ]
            refine wpAnyH_take (i := 16) (v := ?v86) rfl (by kernel_rfl) (by kernel_rfl) (by kernel_rfl) (fun _ _ _ h => h) (Or.inl ⟨by rfl, ?hy86⟩) hHeld ?rest86
            case hy86 =>
              intro w' hSw
              try dsimp only at hSw
              go_simp
              first | done | with_reducible rfl
            try simp only [Act.put, List.getElem_toArray, List.getElem_cons_succ, List.getElem_cons_zero, List.setIfInBounds_toArray, List.set_cons_zero, List.set_cons_succ]
            refine wpAnyH_take (i := 17) (v := ?v87) rfl (by kernel_rfl) (by kernel_rfl) (by kernel_rfl) (fun _ _ _ h => h) (Or.inl ⟨by rfl, ?hy87⟩) hHeld ?rest87
            case hy87 =>
              intro w' hSw
              try dsimp only at hSw
              go_simp
              first | done | with_reducible rfl
            try simp only [Act.put, List.getElem_toArray, List.getElem_cons_succ, List.getElem_cons_zero, List.setIfInBounds_toArray, List.set_cons_zero, List.set_cons_succ]
            refine wpAnyH_done (by kernel_rfl) ?_ _
            refine OnlyN.normal ?_
            clear hHeld
            go_wp2
            go_ret
            exact ⟨rfl, B9.out⟩
end Go.Proofs.Ytokbghpddgfnpaa.diskLasts

/- law 2: begun, of any bytes. -/
import Derived.Test.YtgjamgojjajcnaaQ13
import Derived.Test.YtgjamgojjajcnaaQ10
import Derived.Test.YtgjamgojjajcnaaQ14
import Derived.Test.YtgjamgojjajcnaaQ05
namespace Go.Proofs.Ytgjamgojjajcnaa
open Go.RowKit
attribute [local go_sem] Oper.semAt_some
/-- the first k of N bytes are those, again and again -/
def begK (l : List UInt8) (N k : Nat) : List UInt8 := (List.range N).map fun i => if i < k then l.getD (i % l.length) 0 else 0
def begB (l : List UInt8) (N : Nat) : List UInt8 := begK l N N
set_option maxRecDepth 8000 in
theorem begK_length (l : List UInt8) (N k : Nat) : (begK l N k).length = N := by simp [begK]
theorem begB_length (l : List UInt8) (N : Nat) : (begB l N).length = N := begK_length l N N
set_option maxRecDepth 8000 in
theorem begK_zero (l : List UInt8) (N : Nat) : begK l N 0 = List.replicate N 0 := by
  apply List.ext_getElem?
  intro i
  by_cases h : i < N
  · simp [begK, h]
  · simp [begK, h]
set_option maxRecDepth 8000 in
theorem begB_nil (N : Nat) : begB [] N = List.replicate N 0 := by
  apply List.ext_getElem?
  intro i
  by_cases h : i < N
  · simp [begB, begK, h]
  · simp [begB, begK, h]
set_option maxRecDepth 8000 in
theorem begK_set (l : List UInt8) (N k : Nat) (hk : k < N) (b : UInt8) (hb : l[k % l.length]? = some b) : (begK l N k).set k b = begK l N (k + 1) := by
  apply List.ext_getElem?
  intro i
  rw [List.getElem?_set]
  by_cases h : i < N
  · by_cases e : k = i
    · subst e
      simp [begK, h, List.getD_eq_getElem?_getD, hb]
    · rw [if_neg e]
      simp only [begK, List.getElem?_map, List.getElem?_range h, Option.map_some]
      congr 1
      by_cases h1 : i < k
      · rw [if_pos h1, if_pos (by omega)]
      · rw [if_neg h1, if_neg (by omega)]
  · rw [if_neg (by omega), List.getElem?_eq_none (by rw [begK_length]; omega), List.getElem?_eq_none (by rw [begK_length]; omega)]
set_option maxRecDepth 8000 in
theorem bv_set (S : List UInt8) (q : Nat) (x : UInt8) : (bv S).set q (.int .u8 (x.toNat : Int)) = bv (S.set q x) := by
  simp [bv, List.map_set]
set_option maxRecDepth 8000 in
theorem made_bv (N : Nat) : madeCells #[.int .u8 0] N = (bv (List.replicate N 0)).toArray := by
  rw [bv_replicate]
  apply Array.ext
  · simp [size_madeCells]
  · intro i h1 h2
    simp [madeCells, Nat.mod_one]
set_option maxRecDepth 100000 in
set_option maxHeartbeats 4000000 in
theorem begun_any (w : World) (s : Nat) (s1 : 1 ≤ s) (s2 : s ≤ 12) (A : Option Addr) (n c : Nat) (l : List UInt8) (hn : l.length = n) (h3 : n ≤ 3000) (hr : Rd w A l) :
    Calls Try.prog 10 #[.int .i64 (s : Int), .slice A n c] w fun e w' => ∃ p pl, e = .returned (.tuple #[.pointer (some ⟨p, 0, none⟩), Rp.val ⟨some ⟨w.heap.size + 1, 0, none⟩, s * 512, s * 512, none, 0, 0, none, 0, 0⟩ 0, .bool true]) ∧
      DiskAt w' (w.heap.size + 2) p pl (ofD (begB l (s * 512)) s s) ∧ Blk w' (w.heap.size + 1) 5 (bv (begB l (s * 512))).toArray ∧ Below w.heap.size w w' := by
  have hz := z43
  obtain ⟨N, hN⟩ : ∃ N, N = s * 512 := ⟨_, rfl⟩
  have NE := Lib.hid hN
  have wr1 : IntKind.i64.wrap (512 * (s : Int)) = (N : Int) := by rw [show 512 * (s : Int) = (N : Int) by omega]; exact IntWalk.i64_in _ (by omega)
  have n1 : (N : Int) ≤ 3000000 := by omega
  have n0 : (0 : Int) ≤ (N : Int) := by omega
  have hmk := fun W : World => run_make_row' (P := Try.prog) 22 5 (.int .u8 0) 1 Try.underlying22 infoU8 rfl .i64 .i64 N (by omega) (by omega) W
  have HR := Lib.hid hr
  have HLN := Lib.hid hn
  have HN3 := Lib.hid h3
  clear hN hr hn h3
  go_enter Try.func10, Try.ntmps10
  go_wp2_with fail
  have R1 := Lib.hid (show Blk ((w.alloc (.cells #[.slice none 0 0, .slice none 0 0, .int .i64 0, .slice none 0 0] 34)).alloc (.cells (madeCells #[.int .u8 0] N) 5)) (w.heap.size + 1) 5 (bv (begK l N 0)).toArray by
    rw [begK_zero, ← made_bv]
    have := Blk.new (w.alloc (.cells #[.slice none 0 0, .slice none 0 0, .int .i64 0, .slice none 0 0] 34)) 5 (madeCells #[.int .u8 0] N)
    simpa using this)
  have P1 := Lib.hid ((Blk.new w 34 #[.slice none 0 0, .slice none 0 0, .int .i64 0, .slice none 0 0]).alloc (.cells (madeCells #[.int .u8 0] N) 5))
  have B1 := Lib.hid (((Below.refl w.heap.size w).alloc (Nat.le_refl _) (.cells #[.slice none 0 0, .slice none 0 0, .int .i64 0, .slice none 0 0] 34)).alloc (by simp) (.cells (madeCells #[.int .u8 0] N) 5))
  generalize (w.alloc (.cells #[.slice none 0 0, .slice none 0 0, .int .i64 0, .slice none 0 0] 34)).alloc (.cells (madeCells #[.int .u8 0] N) 5) = W at R1 P1 B1 ⊢
  go_loopw [8] (fun i wr => ∃ k : Nat, k ≤ N ∧ i = .int .i64 (k : Int) ∧ Below w.heap.size w wr ∧ Blk wr (w.heap.size + 1) 5 (bv (begK l N k)).toArray ∧ Blk wr w.heap.size 34 #[.slice none 0 0, .slice none 0 0, .int .i64 0, .slice none 0 0]) (fun i _ => N - (intOf i).toNat)
  case atStart => exact ⟨0, Nat.zero_le _, rfl, B1.out, R1.out, P1.out⟩
  case round =>
    obtain ⟨k, hk, rfl, hb, hrow, hp⟩ := hrel
    clear hz hmk R1 P1 B1
    have HB := Lib.hid hb
    have HW := Lib.hid hrow
    have HP := Lib.hid hp
    clear hb hrow hp
    by_cases hgo : k < N ∧ 0 < n
    · obtain ⟨hlt, hpos⟩ := hgo
      have i1 : (k : Int) < (N : Int) := by omega
      have i2 : (0 : Int) < (n : Int) := by omega
      have i3 : (0 : Int) ≤ (k : Int) := by omega
      have hq : k % n < n := Nat.mod_lt _ hpos
      obtain ⟨b0, off, rfl, hc⟩ := (HR.out.below HB.out) (k % n) (by rw [HLN.out]; exact hq)
      obtain ⟨x, hx⟩ : ∃ x, l[k % n]'(by rw [HLN.out]; exact hq) = x := ⟨_, rfl⟩
      rw [hx] at hc
      have HX := Lib.hid (show l[k % l.length]? = some x by rw [HLN.out, ← hx, List.getElem?_eq_getElem])
      obtain ⟨q, hqe⟩ : ∃ q, k % n = q := ⟨_, rfl⟩
      rw [hqe] at hc hq
      have hm : (k : Int).tmod (n : Int) = (q : Int) := by rw [Int.tmod_eq_emod_of_nonneg (by omega), ← hqe]; omega
      have hw1 : IntKind.i64.wrap (q : Int) = (q : Int) := IntWalk.i64_in _ (by have := HN3.out; omega)
      have i4 : (0 : Int) ≤ (q : Int) := by omega
      have i5 : (q : Int) < (n : Int) := by omega
      have hf := HW.out.frozen k
      obtain ⟨u0, hu0⟩ : ∃ u0, wr.cell? ⟨w.heap.size + 1, k, none⟩ = some u0 := ⟨_, by rw [HW.out.cell, List.getElem?_toArray, bv_get, List.getElem?_eq_getElem (by rw [begK_length]; exact hlt)]; rfl⟩
      clear hx hqe
      go_wp2
      go_roundw
      case rel =>
        have h1 := HW.out.set_ k (.int .u8 (x.toNat : Int))
        rw [List.setIfInBounds_toArray, bv_set, begK_set l N k hlt x HX.out] at h1
        exact ⟨k + 1, by omega, by go_num, HB.out.setCell (p := ⟨w.heap.size + 1, k, none⟩) (by simp) _, h1, HP.out.far (by simp) _⟩
      case measure => simp [intOf]; omega
    · have hall : begK l N k = begB l N := by
        by_cases h : k < N
        · have h0 : n = 0 := by omega
          have hl0 : l = [] := List.length_eq_zero_iff.1 (by rw [HLN.out]; exact h0)
          subst hl0
          apply List.ext_getElem?
          intro i
          simp [begB, begK]
        · rw [show k = N by omega]
          rfl
      have HC := Lib.hid hall
      have hdec : (¬ (k : Int) < (N : Int)) ∨ ((k : Int) < (N : Int) ∧ ¬ 0 < n) := by omega
      clear hall hgo
      rcases hdec with d1 | ⟨d1, d2⟩
      all_goals
        go_wp2_with fail
        have HW2 := HW.out
        rw [HC.out] at HW2
        have OF := of_ok wr (w.heap.size + 1) 0 N s (begB l N) (by rw [begB_length]; exact NE.out) s1 (by omega) (by rw [begB_length]; exact Nat.le_refl _) (rd_blk HW2 0 _ (fun j hj => by rw [Nat.zero_add, bv_get, List.getElem?_eq_getElem hj]; rfl))
        rw [begB_length] at OF
        refine OF.mono ?_
        rintro e w3 ⟨p, pl, rfl, c3, b3⟩
        have C3 := Lib.hid c3
        have P3 := HP.out.below b3 HP.out.lt
        have HP3 := Lib.hid P3
        have HW3 := Lib.hid (HW2.below b3 HW2.lt)
        have HLT := Lib.hid HW2.lt
        have B3 := Lib.hid (HB.out.trans (b3.mono HB.out.size))
        have q0 := (P3.cell 0).trans (show _ = some (.slice none 0 0) from rfl)
        have q1 := (P3.cell 1).trans (show _ = some (.slice none 0 0) from rfl)
        have q2 := (P3.cell 2).trans (show _ = some (.int .i64 0) from rfl)
        have q3 := (P3.cell 3).trans (show _ = some (.slice none 0 0) from rfl)
        have g0 := P3.frozen 0
        have g1 := P3.frozen 1
        have g2 := P3.frozen 2
        have g3 := P3.frozen 3
        clear c3 b3 P3 OF HW2
        go_wp2_with (go_at_call 14; refine (num_any _ _).mono ?_; rintro e w' ⟨rfl, rfl⟩)
        refine bodyPost_ret (results_begun rfl _ _ w.heap.size #[.slice (some ⟨w.heap.size + 1, 0, none⟩) N N, .slice none 0 0, .int .i64 0, .slice none 0 0] rfl rfl (four_set HP3.out (.slice (some ⟨w.heap.size + 1, 0, none⟩) N N) (.slice none 0 0) (.int .i64 0) (.slice none 0 0))) rfl
          ⟨p, pl, by rw [← NE.out]; rfl, ?_, ?_, four_below B3.out (Nat.le_refl _) _ _ _ _⟩
        · rw [← NE.out]
          refine (C3.out.base (by have := HLT.out; omega)).keep (fun k' hk' => ?_)
          have h1 := (C3.out.lt k' hk').2
          have h2 := HLT.out
          rw [Below.heap_setCell _ _ _ k' (by simp; omega), Below.heap_setCell _ _ _ k' (by simp; omega), Below.heap_setCell _ _ _ k' (by simp; omega), Below.heap_setCell _ _ _ k' (by simp; omega)]
        · rw [← NE.out]
          exact (((HW3.out.far (by simp) _).far (by simp) _).far (by simp) _).far (by simp) _
end Go.Proofs.Ytgjamgojjajcnaa
namespace Go.Proofs.Ytgjamgojjajcnaa
open Go.RowKit
attribute [local go_sem] Oper.semAt_some
/-- how much a list of calls is reckoned -/
def tot (l : List Ac) : Nat := (l.map fun x => 10 + x.steps.length + x.keep.length).sum
set_option maxRecDepth 8000 in
theorem tot_snoc (l : List Ac) (x : Ac) : tot (l ++ [x]) = tot l + 10 + x.steps.length + x.keep.length := by
  simp [tot, List.sum_append]
  omega
set_option maxRecDepth 8000 in
theorem tot_mem : ∀ (l : List Ac), 10 * l.length ≤ tot l ∧ ∀ x ∈ l, x.steps.length + x.keep.length ≤ tot l
  | [] => by simp [tot]
  | y :: l => by
    obtain ⟨h1, h2⟩ := tot_mem l
    have e : tot (y :: l) = 10 + y.steps.length + y.keep.length + tot l := by simp [tot]
    refine ⟨by rw [e, List.length_cons]; omega, fun x hx => ?_⟩
    rcases List.mem_cons.1 hx with rfl | hx
    · omega
    · have := h2 x hx
      omega
set_option maxRecDepth 8000 in
theorem act_snoc {l : List Ac} {k : Nat} {x : Ac} (h : l[k]? = some x) : l.take (k + 1) = l.take k ++ [x] := by rw [List.take_add_one, h]; rfl
set_option maxRecDepth 100000 in
set_option maxHeartbeats 2000000 in
theorem few_any (w : World) (A : Option Addr) (c : Nat) (l : List Ac) (hr : RdA w A l) (hs : ∀ x ∈ l, x.lies w) (hlen : l.length ≤ 140737488351232) :
    Calls Try.prog 16 #[.slice A l.length c] w fun e w' => (e = .returned (.bool false) ∨ (e = .returned (.bool true) ∧ tot l ≤ 400)) ∧ Below w.heap.size w w' := by
  have HR := Lib.hid hr
  have HS := Lib.hid hs
  have HL := Lib.hid hlen
  clear hr hs hlen
  go_enter Try.func16, Try.ntmps16
  go_wp2
  go_loopw [3, 4] (fun nv i wr => ∃ k s : Nat, k ≤ l.length ∧ i = .int .i64 (k : Int) ∧ nv = .int .i64 (s : Int) ∧ s = tot (l.take k) ∧ s ≤ 400000000000000 ∧ Below w.heap.size w wr) (fun _ i _ => l.length - (intOf i).toNat)
  case atStart => exact ⟨0, 0, Nat.zero_le _, rfl, rfl, rfl, by omega, Below.refl _ _⟩
  case round =>
    obtain ⟨k, s, hk, rfl, rfl, hs, hs2, hb⟩ := hrel
    have HB := Lib.hid hb
    have HT := Lib.hid hs
    have HS2 := Lib.hid hs2
    clear hs hs2 hb
    by_cases hlt : k < l.length
    · have i2 : (k : Int) < (l.length : Int) := by omega
      have i1 : (0 : Int) ≤ (k : Int) := by omega
      by_cases h4 : s ≤ 400
      · have n4 : (s : Int) ≤ 400 := by omega
        obtain ⟨x, hx⟩ : ∃ x, l[k]? = some x := ⟨_, List.getElem?_eq_getElem hlt⟩
        obtain ⟨b, off, rfl, hc⟩ := (HR.out.below HB.out) k x hx
        have HC := Lib.hid hc
        have hm := HS.out x (List.mem_of_getElem? hx)
        have b1 := hm.s1
        have b2 := hm.k1
        have HX := Lib.hid hx
        have kb : k ≤ 140737488351232 := by have := HL.out; omega
        have w1 : IntKind.i64.wrap ((s : Int) + 10) = (s : Int) + 10 := IntWalk.i64_in _ (by omega)
        have w2 : IntKind.i64.wrap ((s : Int) + 10 + (x.steps.length : Int)) = (s : Int) + 10 + (x.steps.length : Int) := IntWalk.i64_in _ (by omega)
        have w3 : IntKind.i64.wrap ((s : Int) + 10 + (x.steps.length : Int) + (x.keep.length : Int)) = (s : Int) + 10 + (x.steps.length : Int) + (x.keep.length : Int) := IntWalk.i64_in _ (by omega)
        have HE := Lib.hid (show (s : Int) + 10 + (x.steps.length : Int) + (x.keep.length : Int) = ((s + 10 + x.steps.length + x.keep.length : Nat) : Int) by omega)
        have HB2 := Lib.hid (show s + 10 + x.steps.length + x.keep.length ≤ 400000000000000 by omega)
        clear hc hm hx
        go_wp2
        refine wp_region_only (S := fun w' => w'.cell? ⟨b, off + k * 8 + 4, none⟩ = some (.slice x.sA x.steps.length x.sc) ∧ w'.cell? ⟨b, off + k * 8 + 5, none⟩ = some (.slice x.kA x.keep.length x.kc)) (by kernel_rfl) ⟨HC.out 4 _ rfl, HC.out 5 _ rfl⟩ (fun hHeld => ?_)
        refine wpAnyH_take (i := 0) (v := ?v1) rfl (by kernel_rfl) (by kernel_rfl) (by kernel_rfl) (fun _ _ _ h => h) (Or.inl ⟨by rfl, ?hy1⟩) hHeld ?rest1
        case hy1 =>
          intro w' hSw
          try dsimp only at hSw
          go_simp
          first | done | with_reducible rfl
        try simp only [Act.put, List.getElem_toArray, List.getElem_cons_zero, List.setIfInBounds_toArray, List.set_cons_zero, List.set_cons_succ]
        refine wpAnyH_take (i := 1) (v := ?v2) rfl (by kernel_rfl) (by kernel_rfl) (by kernel_rfl) (fun _ _ _ h => h) (Or.inl ⟨by rfl, ?hy2⟩) hHeld ?rest2
        case hy2 =>
          intro w' hSw
          try dsimp only at hSw
          go_simp
          first | done | with_reducible rfl
        try simp only [Act.put, List.getElem_toArray, List.getElem_cons_succ, List.getElem_cons_zero, List.setIfInBounds_toArray, List.set_cons_zero, List.set_cons_succ]
        refine wpAnyH_take (i := 2) (v := ?v3) rfl (by kernel_rfl) (by kernel_rfl) (by kernel_rfl) (fun _ _ _ h => h) (Or.inl ⟨by rfl, ?hy3⟩) hHeld ?rest3
        case hy3 =>
          intro w' hSw
          try dsimp only at hSw
          go_simp
          first | done | with_reducible rfl
        try simp only [Act.put, List.getElem_toArray, List.getElem_cons_succ, List.getElem_cons_zero, List.setIfInBounds_toArray, List.set_cons_zero, List.set_cons_succ]
        refine wpAnyH_take (i := 3) (v := ?v4) rfl (by kernel_rfl) (by kernel_rfl) (by kernel_rfl) (fun _ _ _ h => h) (Or.inl ⟨by rfl, ?hy4⟩) hHeld ?rest4
        case hy4 =>
          intro w' hSw
          try dsimp only at hSw
          go_simp
          first | done | with_reducible rfl
        try simp only [Act.put, List.getElem_toArray, List.getElem_cons_succ, List.getElem_cons_zero, List.setIfInBounds_toArray, List.set_cons_zero, List.set_cons_succ]
        refine wpAnyH_take (i := 4) (v := ?v5) rfl (by kernel_rfl) (by kernel_rfl) (by kernel_rfl) (fun _ _ _ h => h) (Or.inl ⟨by rfl, ?hy5⟩) hHeld ?rest5
        case hy5 =>
          intro w' hSw
          try dsimp only at hSw
          go_simp
          first | done | with_reducible rfl
        try simp only [Act.put, List.getElem_toArray, List.getElem_cons_succ, List.getElem_cons_zero, List.setIfInBounds_toArray, List.set_cons_zero, List.set_cons_succ]
        refine wpAnyH_take (i := 5) (v := ?v6) rfl (by kernel_rfl) (by kernel_rfl) (by kernel_rfl) (fun _ _ _ h => h) (Or.inl ⟨by rfl, ?hy6⟩) hHeld ?rest6
        case hy6 =>
          intro w' hSw
          try dsimp only at hSw
          go_simp
          first | done | with_reducible rfl
        try simp only [Act.put, List.getElem_toArray, List.getElem_cons_succ, List.getElem_cons_zero, List.setIfInBounds_toArray, List.set_cons_zero, List.set_cons_succ]
        refine wpAnyH_take (i := 6) (v := ?v7) rfl (by kernel_rfl) (by kernel_rfl) (by kernel_rfl) (fun _ _ _ h => h) (Or.inl ⟨by rfl, ?hy7⟩) hHeld ?rest7
        case hy7 =>
          intro w' hSw
          try dsimp only at hSw
          go_simp
          first | done | with_reducible rfl
        try simp only [Act.put, List.getElem_toArray, List.getElem_cons_succ, List.getElem_cons_zero, List.setIfInBounds_toArray, List.set_cons_zero, List.set_cons_succ]
        refine wpAnyH_take (i := 7) (v := ?v8) rfl (by kernel_rfl) (by kernel_rfl) (by kernel_rfl) (fun _ _ _ h => h) (Or.inl ⟨by rfl, ?hy8⟩) hHeld ?rest8
        case hy8 =>
          intro w' hSw
          try dsimp only at hSw
          go_simp
          first | done | with_reducible rfl
        try simp only [Act.put, List.getElem_toArray, List.getElem_cons_succ, List.getElem_cons_zero, List.setIfInBounds_toArray, List.set_cons_zero, List.set_cons_succ]
        refine wpAnyH_take (i := 8) (v := ?v9) rfl (by kernel_rfl) (by kernel_rfl) (by kernel_rfl) (fun _ _ _ h => h) (Or.inl ⟨by rfl, ?hy9⟩) hHeld ?rest9
        case hy9 =>
          intro w' hSw
          try dsimp only at hSw
          go_simp
          first | done | with_reducible rfl
        try simp only [Act.put, List.getElem_toArray, List.getElem_cons_succ, List.getElem_cons_zero, List.setIfInBounds_toArray, List.set_cons_zero, List.set_cons_succ]
        refine wpAnyH_take (i := 9) (v := ?v10) rfl (by kernel_rfl) (by kernel_rfl) (by kernel_rfl) (fun _ _ _ h => h) (Or.inl ⟨by rfl, ?hy10⟩) hHeld ?rest10
        case hy10 =>
          intro w' hSw
          try dsimp only at hSw
          go_simp
          first | done | with_reducible rfl
        try simp only [Act.put, List.getElem_toArray, List.getElem_cons_succ, List.getElem_cons_zero, List.setIfInBounds_toArray, List.set_cons_zero, List.set_cons_succ]
        refine wpAnyH_take (i := 10) (v := ?v11) rfl (by kernel_rfl) (by kernel_rfl) (by kernel_rfl) (fun _ _ _ h => h) (Or.inl ⟨by rfl, ?hy11⟩) hHeld ?rest11
        case hy11 =>
          intro w' hSw
          try dsimp only at hSw
          go_simp
          first | done | with_reducible rfl
        try simp only [Act.put, List.getElem_toArray, List.getElem_cons_succ, List.getElem_cons_zero, List.setIfInBounds_toArray, List.set_cons_zero, List.set_cons_succ]
        refine wpAnyH_take (i := 11) (v := ?v12) rfl (by kernel_rfl) (by kernel_rfl) (by kernel_rfl) (fun _ _ _ h => h) (Or.inl ⟨by rfl, ?hy12⟩) hHeld ?rest12
        case hy12 =>
          intro w' hSw
          try dsimp only at hSw
          go_simp
          first | done | with_reducible rfl
        try simp only [Act.put, List.getElem_toArray, List.getElem_cons_succ, List.getElem_cons_zero, List.setIfInBounds_toArray, List.set_cons_zero, List.set_cons_succ]
        refine wpAnyH_take (i := 12) (v := ?v13) rfl (by kernel_rfl) (by kernel_rfl) (by kernel_rfl) (fun _ _ _ h => h) (Or.inl ⟨by rfl, ?hy13⟩) hHeld ?rest13
        case hy13 =>
          intro w' hSw
          try dsimp only at hSw
          go_simp
          first | done | with_reducible rfl
        try simp only [Act.put, List.getElem_toArray, List.getElem_cons_succ, List.getElem_cons_zero, List.setIfInBounds_toArray, List.set_cons_zero, List.set_cons_succ]
        refine wpAnyH_take (i := 13) (v := ?v14) rfl (by kernel_rfl) (by kernel_rfl) (by kernel_rfl) (fun _ _ _ h => h) (Or.inl ⟨by rfl, ?hy14⟩) hHeld ?rest14
        case hy14 =>
          intro w' hSw
          try dsimp only at hSw
          go_simp
          first | done | with_reducible rfl
        try simp only [Act.put, List.getElem_toArray, List.getElem_cons_succ, List.getElem_cons_zero, List.setIfInBounds_toArray, List.set_cons_zero, List.set_cons_succ]
        refine wpAnyH_take (i := 14) (v := ?v15) rfl (by kernel_rfl) (by kernel_rfl) (by kernel_rfl) (fun _ _ _ h => h) (Or.inl ⟨by rfl, ?hy15⟩) hHeld ?rest15
        case hy15 =>
          intro w' hSw
          try dsimp only at hSw
          go_simp
          first | done | with_reducible rfl
        try simp only [Act.put, List.getElem_toArray, List.getElem_cons_succ, List.getElem_cons_zero, List.setIfInBounds_toArray, List.set_cons_zero, List.set_cons_succ]
        refine wpAnyH_take (i := 15) (v := ?v16) rfl (by kernel_rfl) (by kernel_rfl) (by kernel_rfl) (fun _ _ _ h => h) (Or.inl ⟨by rfl, ?hy16⟩) hHeld ?rest16
        case hy16 =>
          intro w' hSw
          try dsimp only at hSw
          go_simp
          first | done | with_reducible rfl
        try simp only [Act.put, List.getElem_toArray, List.getElem_cons_succ, List.getElem_cons_zero, List.setIfInBounds_toArray, List.set_cons_zero, List.set_cons_succ]
        refine wpAnyH_take (i := 16) (v := ?v17) rfl (by kernel_rfl) (by kernel_rfl) (by kernel_rfl) (fun _ _ _ h => h) (Or.inl ⟨by rfl, ?hy17⟩) hHeld ?rest17
        case hy17 =>
          intro w' hSw
          try dsimp only at hSw
          go_simp
          first | done | with_reducible rfl
        try simp only [Act.put, List.getElem_toArray, List.getElem_cons_succ, List.getElem_cons_zero, List.setIfInBounds_toArray, List.set_cons_zero, List.set_cons_succ]
        refine wpAnyH_take (i := 17) (v := ?v18) rfl (by kernel_rfl) (by kernel_rfl) (by kernel_rfl) (fun _ _ _ h => h) (Or.inl ⟨by rfl, ?hy18⟩) hHeld ?rest18
        case hy18 =>
          intro w' hSw
          try dsimp only at hSw
          go_simp
          first | done | with_reducible rfl
        try simp only [Act.put, List.getElem_toArray, List.getElem_cons_succ, List.getElem_cons_zero, List.setIfInBounds_toArray, List.set_cons_zero, List.set_cons_succ]
        refine wpAnyH_done (by kernel_rfl) ?_ _
        refine OnlyN.normal ?_
        clear hHeld
        go_wp2
        go_roundw
        case rel => exact ⟨k + 1, s + 10 + x.steps.length + x.keep.length, by omega, by go_num, by rw [HE.out], by rw [act_snoc HX.out, tot_snoc, ← HT.out], HB2.out, Below.drew HB.out⟩
        case measure => simp [intOf]; omega
      · have n4 : ¬ (s : Int) ≤ 400 := by omega
        go_wp2
        go_ret
        exact ⟨.inl rfl, HB.out⟩
    · obtain rfl : k = l.length := by omega
      have i2 : ¬ (l.length : Int) < (l.length : Int) := by omega
      have HTT := Lib.hid (show s = tot l by rw [HT.out, List.take_length])
      by_cases h4 : s ≤ 400
      · have n4 : (s : Int) ≤ 400 := by omega
        go_wp2
        go_ret
        exact ⟨.inr ⟨rfl, by rw [← HTT.out]; exact h4⟩, HB.out⟩
      · have n4 : ¬ (s : Int) ≤ 400 := by omega
        go_wp2
        go_ret
        exact ⟨.inl rfl, HB.out⟩
end Go.Proofs.Ytgjamgojjajcnaa
namespace Go.Proofs.Ytgjamgojjajcnaa
open Go.RowKit
theorem secs_get (L : Nat → List UInt8) (hL : ∀ n, (L n).length = 512) : ∀ k i, i < k * 512 → (secs L k)[i]? = (L (i / 512))[i % 512]?
  | 0, i, h => absurd h (by omega)
  | k + 1, i, h => by
    rw [secs_succ]
    by_cases hi : i < k * 512
    · rw [List.getElem?_append_left (by rw [secs_length L hL]; exact hi), secs_get L hL k i hi]
    · rw [List.getElem?_append_right (by rw [secs_length L hL]; omega), secs_length L hL, show i / 512 = k by omega, show i % 512 = i - k * 512 by omega]
theorem layC_congr {kf kg : Nat → Nat} : ∀ (es : List (Nat × (Nat × List UInt8))) (L : Nat → List UInt8), (∀ e ∈ es, kf e.1 = kg e.1) → layC kf L es = layC kg L es
  | [], _, _ => rfl
  | e :: es, L, h => by
    show layC kf (upL L e.2.1 (layL (L e.2.1) e.2.2 (kf e.1))) es = layC kg (upL L e.2.1 (layL (L e.2.1) e.2.2 (kg e.1))) es
    rw [h e (by simp)]
    exact layC_congr es _ fun e' he => h e' (by simp [he])
set_option maxRecDepth 8000 in
theorem layL_byte (a b : List UInt8) (k : Nat) (_ : a.length = 512) (hb : b.length = 512) (hk : k ≤ 512) (j : Nat) : (layL a b k)[j]? = a[j]? ∨ (layL a b k)[j]? = b[j]? := by
  unfold layL
  by_cases h : j < k
  · right
    rw [List.getElem?_append_left (by rw [List.length_take]; omega), List.getElem?_take, if_pos h]
  · left
    rw [List.getElem?_append_right (by rw [List.length_take]; omega), List.getElem?_drop, List.length_take]
    congr 1
    omega
set_option maxRecDepth 8000 in
theorem layC_byte (kf : Nat → Nat) (hk : ∀ i, kf i ≤ 512) : ∀ (es : List (Nat × (Nat × List UInt8))) (L : Nat → List UInt8), (∀ n, (L n).length = 512) → (∀ e ∈ es, e.2.2.length = 512) → ∀ (n j : Nat),
    (layC kf L es n)[j]? = (L n)[j]? ∨ ∃ e ∈ es, e.2.1 = n ∧ (layC kf L es n)[j]? = e.2.2[j]?
  | [], _, _, _, _, _ => .inl rfl
  | e :: es, L, hL, he, n, j => by
    have hlay : (layL (L e.2.1) e.2.2 (kf e.1)).length = 512 := by
      have := layC_length kf hk [e] L hL (fun e' h => by rw [List.mem_singleton.1 h]; exact he e (by simp)) e.2.1
      simpa [layC, upL] using this
    have hL' : ∀ n, (upL L e.2.1 (layL (L e.2.1) e.2.2 (kf e.1)) n).length = 512 := fun n => by
      unfold upL
      split
      · exact hlay
      · exact hL n
    show (layC kf (upL L e.2.1 (layL (L e.2.1) e.2.2 (kf e.1))) es n)[j]? = (L n)[j]? ∨ ∃ e' ∈ e :: es, e'.2.1 = n ∧ (layC kf (upL L e.2.1 (layL (L e.2.1) e.2.2 (kf e.1))) es n)[j]? = e'.2.2[j]?
    rcases layC_byte kf hk es (upL L e.2.1 (layL (L e.2.1) e.2.2 (kf e.1))) hL' (fun e' h => he e' (by simp [h])) n j with h | ⟨e', h1, h2, h3⟩
    · rw [h]
      unfold upL
      by_cases hn : n = e.2.1
      · rw [if_pos hn]
        rcases layL_byte (L e.2.1) e.2.2 (kf e.1) (hL _) (he e (by simp)) (hk _) j with q | q
        · exact .inl (by rw [q, hn])
        · exact .inr ⟨e, by simp, hn.symm, q⟩
      · rw [if_neg hn]
        exact .inl rfl
    · exact .inr ⟨e', by simp [h1], h2, h3⟩
/-- a disk behind writes -/
structure Wd (D0 : Dk) (l : List Ac) (D : Dk) : Prop where
  size : D.size = D0.size
  lasts : D.lasts = D0.lasts
  fails : ∀ n, D.fails n = false
  steps : D.steps ≤ l.length
  waits : D.waits.length ≤ l.length
  mem : ∀ y ∈ D.waits, ∃ x ∈ l, x.sector = (y.1 : Int) ∧ y.2 = fullL x.byte
theorem Wd.next {D0 D : Dk} {l : List Ac} (h : Wd D0 l D) : D.next = false := h.fails _
set_option maxRecDepth 8000 in
theorem Wd.skip {D0 D : Dk} {l : List Ac} (h : Wd D0 l D) (x : Ac) : Wd D0 (l ++ [x]) D :=
  { h with
    steps := by have := h.steps; simp; omega
    waits := by have := h.waits; simp; omega
    mem := fun y hy => by
      obtain ⟨x', h1, h2⟩ := h.mem y hy
      exact ⟨x', by simp [h1], h2⟩ }
set_option maxRecDepth 8000 in
theorem Wd.put {D0 D : Dk} {l : List Ac} (h : Wd D0 l D) (x : Ac) (n : Nat) (hn : x.sector = (n : Int)) : Wd D0 (l ++ [x]) (D.stepped.queued (n, fullL x.byte)) where
  size := h.size
  lasts := h.lasts
  fails := fun m => by
    show delS D.fails _ m = false
    unfold delS
    split
    · rfl
    · exact h.fails m
  steps := by have := h.steps; show D.steps + 1 ≤ _; simp; omega
  waits := by have := h.waits; show (D.waits ++ [_]).length ≤ _; simp; omega
  mem := fun y hy => by
    rcases List.mem_append.1 (show y ∈ D.waits ++ [(n, fullL x.byte)] from hy) with hy | hy
    · obtain ⟨x', h1, h2⟩ := h.mem y hy
      exact ⟨x', by simp [h1], h2⟩
    · rw [List.mem_singleton.1 hy]
      exact ⟨x, by simp, hn, rfl⟩
theorem Wd.nil (l : List UInt8) (s k : Nat) : Wd (ofD l s k) [] (ofD l s k) := ⟨rfl, rfl, fun _ => rfl, Nat.le_refl _, Nat.le_refl _, fun _ h => nomatch h⟩
set_option maxRecDepth 8000 in
theorem nums_mem {D : Dk} {e : Nat × (Nat × List UInt8)} (h : e ∈ D.nums) : e.1 < D.waits.length ∧ e.2 ∈ D.waits := by
  obtain ⟨i, hi, rfl⟩ := List.mem_mapIdx.1 h
  exact ⟨hi, List.getElem_mem hi⟩
set_option maxRecDepth 8000 in
/-- a crash that keeps all leaves what is read -/
theorem crashed_all {D : Dk} {c : Cr} (h : ∀ i, i < D.waits.length → c.kn i = 512) : (D.crashed c).all = D.all := by
  show secs (D.laid fun i => c.kn i) D.size = secs (D.laid fun _ => 512) D.size
  unfold Dk.laid
  rw [layC_congr (kf := fun i => c.kn i) (kg := fun _ => 512) D.nums D.lasts (fun e he => h e.1 (nums_mem he).1)]
/-- behind a flush each crash leaves what is read -/
theorem flushed_all (D : Dk) (c : Cr) : (D.stepped.flushed.crashed c).all = D.all := rfl
set_option maxRecDepth 8000 in
theorem start_all {D0 : Dk} (h : D0.waits = []) : D0.all = secs D0.lasts D0.size := by
  show secs (layC _ D0.lasts (D0.waits.mapIdx _)) D0.size = _
  rw [h]
  rfl
set_option maxRecDepth 8000 in
/-- each byte behind a crash is what lasted there, or what some write has there -/
theorem crashed_byte {w : World} {base p : Nat} {pl : Pl} {D D0 : Dk} {l : List Ac} (h : DiskAt w base p pl D) (hw : Wd D0 l D) (h0 : D0.waits = []) (c : Cr) (hc0 : 0 ≤ c.bytes) (hc5 : c.bytes ≤ 512) (i : Nat) (hi : i < D.size * 512) :
    ∃ b a, (D.crashed c).all[i]? = some b ∧ D0.all[i]? = some a ∧ (b = a ∨ ∃ x ∈ l, x.sector = ((i / 512 : Nat) : Int) ∧ x.byte = b) := by
  have hk : ∀ i, c.kn i ≤ 512 := fun i => by
    have := kept_range c hc0 hc5 i
    show (c.kept i).toNat ≤ 512
    omega
  have hL := Dk.laid_len h (fun i => c.kn i) hk
  have hL0 : ∀ n, (D0.lasts n).length = 512 := fun n => by rw [← hw.lasts]; exact h.lens n
  have e1 : (D.crashed c).all[i]? = (D.laid (fun i => c.kn i) (i / 512))[i % 512]? := secs_get _ hL D.size i hi
  have e2 : D0.all[i]? = (D0.lasts (i / 512))[i % 512]? := by
    rw [start_all h0]
    exact secs_get _ hL0 D0.size i (by rw [← hw.size]; exact hi)
  have l1 : i % 512 < (D.laid (fun i => c.kn i) (i / 512)).length := by rw [hL]; omega
  have l2 : i % 512 < (D0.lasts (i / 512)).length := by rw [hL0]; omega
  refine ⟨_, _, by rw [e1]; exact List.getElem?_eq_getElem l1, by rw [e2]; exact List.getElem?_eq_getElem l2, ?_⟩
  rcases layC_byte (fun i => c.kn i) hk D.nums D.lasts h.lens (fun e he => (h.wlens _ (nums_mem he).2).1) (i / 512) (i % 512) with q | ⟨e, he, hn, q⟩
  · left
    have q' : (D.laid (fun i => c.kn i) (i / 512))[i % 512]? = (D0.lasts (i / 512))[i % 512]? := by rw [← hw.lasts]; exact q
    rw [List.getElem?_eq_getElem l1, List.getElem?_eq_getElem l2] at q'
    exact Option.some.inj q'
  · right
    obtain ⟨x, hx, hs, hb⟩ := hw.mem e.2 (nums_mem he).2
    refine ⟨x, hx, by rw [hs, hn], ?_⟩
    have q' : (D.laid (fun i => c.kn i) (i / 512))[i % 512]? = e.2.2[i % 512]? := q
    rw [hb, List.getElem?_eq_getElem l1] at q'
    have : (fullL x.byte)[i % 512]? = some x.byte := by rw [fullL, List.getElem?_replicate, if_pos (by omega)]
    rw [this] at q'
    exact (Option.some.inj q').symm
theorem all_length {w : World} {base p : Nat} {pl : Pl} {D : Dk} (h : DiskAt w base p pl D) : D.all.length = D.size * 512 := secs_length _ (Dk.laid_len h _ (fun _ => Nat.le_refl _)) _
end Go.Proofs.Ytgjamgojjajcnaa

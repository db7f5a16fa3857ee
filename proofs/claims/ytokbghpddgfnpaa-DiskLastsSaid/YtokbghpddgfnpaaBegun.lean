/- law 2: begun, of any bytes. -/
import Derived.Test.YtokbghpddgfnpaaBegunN
import Derived.Test.YtokbghpddgfnpaaWorks
namespace Go.Proofs.Ytokbghpddgfnpaa
open Go.RowKit
attribute [local go_sem] Oper.semAt_some
/-- the first k of N bytes are those, again and again -/
def begK (l : List UInt8) (N k : Nat) : List UInt8 := (List.range N).map fun i => if i < k then l.getD (i % l.length) 0 else 0
def begB (l : List UInt8) (N : Nat) : List UInt8 := begK l N N
set_option maxRecDepth 8000 in
theorem begK_length (l : List UInt8) (N k : Nat) : (begK l N k).length = N := by simp [begK]
theorem begB_length (l : List UInt8) (N : Nat) : (begB l N).length = N := begK_length l N N
set_option maxRecDepth 8000 in
theorem begK_zero (l : List UInt8) (N : Nat) : begK l N 0 = List.replicate N 0 := by
  apply List.ext_getElem?
  intro i
  by_cases h : i < N
  · simp [begK, h]
  · simp [begK, h]
set_option maxRecDepth 8000 in
theorem begB_nil (N : Nat) : begB [] N = List.replicate N 0 := by
  apply List.ext_getElem?
  intro i
  by_cases h : i < N
  · simp [begB, begK, h]
  · simp [begB, begK, h]
set_option maxRecDepth 8000 in
theorem begK_set (l : List UInt8) (N k : Nat) (hk : k < N) (b : UInt8) (hb : l[k % l.length]? = some b) : (begK l N k).set k b = begK l N (k + 1) := by
  apply List.ext_getElem?
  intro i
  rw [List.getElem?_set]
  by_cases h : i < N
  · by_cases e : k = i
    · subst e
      simp [begK, h, List.getD_eq_getElem?_getD, hb]
    · rw [if_neg e]
      simp only [begK, List.getElem?_map, List.getElem?_range h, Option.map_some]
      congr 1
      by_cases h1 : i < k
      · rw [if_pos h1, if_pos (by omega)]
      · rw [if_neg h1, if_neg (by omega)]
  · rw [if_neg (by omega), List.getElem?_eq_none (by rw [begK_length]; omega), List.getElem?_eq_none (by rw [begK_length]; omega)]
set_option maxRecDepth 8000 in
theorem bv_set (S : List UInt8) (q : Nat) (x : UInt8) : (bv S).set q (.int .u8 (x.toNat : Int)) = bv (S.set q x) := by
  simp [bv, List.map_set]
set_option maxRecDepth 8000 in
theorem made_bv (N : Nat) : madeCells #[.int .u8 0] N = (bv (List.replicate N 0)).toArray := by
  rw [bv_replicate]
  apply Array.ext
  · simp [size_madeCells]
  · intro i h1 h2
    simp [madeCells, Nat.mod_one]
set_option maxRecDepth 100000 in
set_option maxHeartbeats 4000000 in
theorem begun_any (w : World) (s : Nat) (s1 : 1 ≤ s) (s2 : s ≤ 12) (A : Option Addr) (n c : Nat) (l : List UInt8) (hn : l.length = n) (h3 : n ≤ 3000) (hr : Rd w A l) :
    Calls Try.prog 11 #[.int .i64 (s : Int), .slice A n c] w fun e w' => ∃ p pl, e = .returned (.tuple #[.pointer (some ⟨p, 0, none⟩), Rp.val ⟨some ⟨w.heap.size + 1, 0, none⟩, s * 512, s * 512, none, 0, 0, none, 0, 0⟩ 0, .bool true]) ∧
      DiskAt w' (w.heap.size + 2) p pl (ofD (begB l (s * 512)) s s) ∧ Blk w' (w.heap.size + 1) 5 (bv (begB l (s * 512))).toArray ∧ Below w.heap.size w w' := by
  have hz := z43
  obtain ⟨N, hN⟩ : ∃ N, N = s * 512 := ⟨_, rfl⟩
  have NE := Lib.hid hN
  have wr1 : IntKind.i64.wrap (512 * (s : Int)) = (N : Int) := by rw [show 512 * (s : Int) = (N : Int) by omega]; exact IntWalk.i64_in _ (by omega)
  have n1 : (N : Int) ≤ 3000000 := by omega
  have n0 : (0 : Int) ≤ (N : Int) := by omega
  have hmk := fun W : World => run_make_row' (P := Try.prog) 22 5 (.int .u8 0) 1 Try.underlying22 infoU8 rfl .i64 .i64 N (by omega) (by omega) W
  have HR := Lib.hid hr
  have HLN := Lib.hid hn
  have HN3 := Lib.hid h3
  clear hN hr hn h3
  go_enter Try.func11, Try.ntmps11
  go_wp2_with fail
  have R1 := Lib.hid (show Blk ((w.alloc (.cells #[.slice none 0 0, .slice none 0 0, .int .i64 0, .slice none 0 0] 34)).alloc (.cells (madeCells #[.int .u8 0] N) 5)) (w.heap.size + 1) 5 (bv (begK l N 0)).toArray by
    rw [begK_zero, ← made_bv]
    have := Blk.new (w.alloc (.cells #[.slice none 0 0, .slice none 0 0, .int .i64 0, .slice none 0 0] 34)) 5 (madeCells #[.int .u8 0] N)
    simpa using this)
  have P1 := Lib.hid ((Blk.new w 34 #[.slice none 0 0, .slice none 0 0, .int .i64 0, .slice none 0 0]).alloc (.cells (madeCells #[.int .u8 0] N) 5))
  have B1 := Lib.hid (((Below.refl w.heap.size w).alloc (Nat.le_refl _) (.cells #[.slice none 0 0, .slice none 0 0, .int .i64 0, .slice none 0 0] 34)).alloc (by simp) (.cells (madeCells #[.int .u8 0] N) 5))
  generalize (w.alloc (.cells #[.slice none 0 0, .slice none 0 0, .int .i64 0, .slice none 0 0] 34)).alloc (.cells (madeCells #[.int .u8 0] N) 5) = W at R1 P1 B1 ⊢
  go_loopw [8] (fun i wr => ∃ k : Nat, k ≤ N ∧ i = .int .i64 (k : Int) ∧ Below w.heap.size w wr ∧ Blk wr (w.heap.size + 1) 5 (bv (begK l N k)).toArray ∧ Blk wr w.heap.size 34 #[.slice none 0 0, .slice none 0 0, .int .i64 0, .slice none 0 0]) (fun i _ => N - (intOf i).toNat)
  case atStart => exact ⟨0, Nat.zero_le _, rfl, B1.out, R1.out, P1.out⟩
  case round =>
    obtain ⟨k, hk, rfl, hb, hrow, hp⟩ := hrel
    clear hz hmk R1 P1 B1
    have HB := Lib.hid hb
    have HW := Lib.hid hrow
    have HP := Lib.hid hp
    clear hb hrow hp
    by_cases hgo : k < N ∧ 0 < n
    · obtain ⟨hlt, hpos⟩ := hgo
      have i1 : (k : Int) < (N : Int) := by omega
      have i2 : (0 : Int) < (n : Int) := by omega
      have i3 : (0 : Int) ≤ (k : Int) := by omega
      have hq : k % n < n := Nat.mod_lt _ hpos
      obtain ⟨b0, off, rfl, hc⟩ := (HR.out.below HB.out) (k % n) (by rw [HLN.out]; exact hq)
      obtain ⟨x, hx⟩ : ∃ x, l[k % n]'(by rw [HLN.out]; exact hq) = x := ⟨_, rfl⟩
      rw [hx] at hc
      have HX := Lib.hid (show l[k % l.length]? = some x by rw [HLN.out, ← hx, List.getElem?_eq_getElem])
      obtain ⟨q, hqe⟩ : ∃ q, k % n = q := ⟨_, rfl⟩
      rw [hqe] at hc hq
      have hm : (k : Int).tmod (n : Int) = (q : Int) := by rw [Int.tmod_eq_emod_of_nonneg (by omega), ← hqe]; omega
      have hw1 : IntKind.i64.wrap (q : Int) = (q : Int) := IntWalk.i64_in _ (by have := HN3.out; omega)
      have i4 : (0 : Int) ≤ (q : Int) := by omega
      have i5 : (q : Int) < (n : Int) := by omega
      have hf := HW.out.frozen k
      obtain ⟨u0, hu0⟩ : ∃ u0, wr.cell? ⟨w.heap.size + 1, k, none⟩ = some u0 := ⟨_, by rw [HW.out.cell, List.getElem?_toArray, bv_get, List.getElem?_eq_getElem (by rw [begK_length]; exact hlt)]; rfl⟩
      clear hx hqe
      go_wp2
      go_roundw
      case rel =>
        have h1 := HW.out.set_ k (.int .u8 (x.toNat : Int))
        rw [List.setIfInBounds_toArray, bv_set, begK_set l N k hlt x HX.out] at h1
        exact ⟨k + 1, by omega, by go_num, HB.out.setCell (p := ⟨w.heap.size + 1, k, none⟩) (by simp) _, h1, HP.out.far (by simp) _⟩
      case measure => simp [intOf]; omega
    · have hall : begK l N k = begB l N := by
        by_cases h : k < N
        · have h0 : n = 0 := by omega
          have hl0 : l = [] := List.length_eq_zero_iff.1 (by rw [HLN.out]; exact h0)
          subst hl0
          apply List.ext_getElem?
          intro i
          simp [begB, begK]
        · rw [show k = N by omega]
          rfl
      have HC := Lib.hid hall
      have hdec : (¬ (k : Int) < (N : Int)) ∨ ((k : Int) < (N : Int) ∧ ¬ 0 < n) := by omega
      clear hall hgo
      rcases hdec with d1 | ⟨d1, d2⟩
      all_goals
        go_wp2_with fail
        have HW2 := HW.out
        rw [HC.out] at HW2
        have OF := of_ok wr (w.heap.size + 1) 0 N s (begB l N) (by rw [begB_length]; exact NE.out) s1 (by omega) (by rw [begB_length]; exact Nat.le_refl _) (rd_blk HW2 0 _ (fun j hj => by rw [Nat.zero_add, bv_get, List.getElem?_eq_getElem hj]; rfl))
        rw [begB_length] at OF
        refine OF.mono ?_
        rintro e w3 ⟨p, pl, rfl, c3, b3⟩
        have C3 := Lib.hid c3
        have P3 := HP.out.below b3 HP.out.lt
        have HP3 := Lib.hid P3
        have HW3 := Lib.hid (HW2.below b3 HW2.lt)
        have HLT := Lib.hid HW2.lt
        have B3 := Lib.hid (HB.out.trans (b3.mono HB.out.size))
        have q0 := (P3.cell 0).trans (show _ = some (.slice none 0 0) from rfl)
        have q1 := (P3.cell 1).trans (show _ = some (.slice none 0 0) from rfl)
        have q2 := (P3.cell 2).trans (show _ = some (.int .i64 0) from rfl)
        have q3 := (P3.cell 3).trans (show _ = some (.slice none 0 0) from rfl)
        have g0 := P3.frozen 0
        have g1 := P3.frozen 1
        have g2 := P3.frozen 2
        have g3 := P3.frozen 3
        clear c3 b3 P3 OF HW2
        go_wp2_with (go_at_call 15; refine (num_any _ _).mono ?_; rintro e w' ⟨rfl, rfl⟩)
        refine bodyPost_ret (results_begun rfl _ _ w.heap.size #[.slice (some ⟨w.heap.size + 1, 0, none⟩) N N, .slice none 0 0, .int .i64 0, .slice none 0 0] rfl rfl (four_set HP3.out (.slice (some ⟨w.heap.size + 1, 0, none⟩) N N) (.slice none 0 0) (.int .i64 0) (.slice none 0 0))) rfl
          ⟨p, pl, by rw [← NE.out]; rfl, ?_, ?_, four_below B3.out (Nat.le_refl _) _ _ _ _⟩
        · rw [← NE.out]
          refine (C3.out.base (by have := HLT.out; omega)).keep (fun k' hk' => ?_)
          have h1 := (C3.out.lt k' hk').2
          have h2 := HLT.out
          rw [Below.heap_setCell _ _ _ k' (by simp; omega), Below.heap_setCell _ _ _ k' (by simp; omega), Below.heap_setCell _ _ _ k' (by simp; omega), Below.heap_setCell _ _ _ k' (by simp; omega)]
        · rw [← NE.out]
          exact (((HW3.out.far (by simp) _).far (by simp) _).far (by simp) _).far (by simp) _
end Go.Proofs.Ytokbghpddgfnpaa

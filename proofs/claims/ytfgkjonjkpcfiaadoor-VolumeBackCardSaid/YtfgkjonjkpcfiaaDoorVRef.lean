/- volume: the document's answers: Spot, Fits. -/
import Derived.Test.YtfgkjonjkpcfiaaDoorVPl
namespace Go.Proofs.YtfgkjonjkpcfiaaDoor
open Go.RowKit
attribute [local go_sem] Oper.semAt_some
set_option maxRecDepth 8000 in
theorem num_any (e : Int) (w : World) : Calls Tryd.prog 13 #[.int .i64 e] w fun r w' => r = .returned (.int .i64 e) ∧ w = w' := by
  go_enter Tryd.func13, Tryd.ntmps13
  go_wp2
  go_ret
  exact ⟨rfl, rfl⟩
set_option maxRecDepth 8000 in
set_option maxHeartbeats 2000000 in
theorem rspot_any (n s : Int) (w : World) :
    Calls Tryd.prog 19 #[plan n, .int .i64 s] w fun e w' => e = .returned (.tuple #[(sptP n s).1.val, .int .i64 (sptP n s).2]) ∧ Below w.heap.size w w' := by
  have HB := Lib.hid (((Below.refl w.heap.size w).alloc (Nat.le_refl _) (.cells #[.int .i64 n] 23)).alloc (by simp) (.cells #[.int .i64 0, .int .i64 0, .int .i64 0] 37))
  have HS := Lib.hid (show Blk ((w.alloc (.cells #[.int .i64 n] 23)).alloc (.cells #[.int .i64 0, .int .i64 0, .int .i64 0] 37)) (w.heap.size + 1) 37 #[.int .i64 0, .int .i64 0, .int .i64 0] by have := Blk.new (w.alloc (.cells #[.int .i64 n] 23)) 37 #[.int .i64 0, .int .i64 0, .int .i64 0]; simpa using this)
  have HG := Lib.hid (show Blk ((w.alloc (.cells #[.int .i64 n] 23)).alloc (.cells #[.int .i64 0, .int .i64 0, .int .i64 0] 37)) w.heap.size 23 #[.int .i64 n] from (Blk.new w 23 #[.int .i64 n]).alloc _)
  by_cases hr : 1 ≤ n ∧ n ≤ 64
  · obtain ⟨nn, rfl⟩ := Int.eq_ofNat_of_zero_le (show 0 ≤ n by omega)
    have HN := Lib.hid (show 1 ≤ nn ∧ nn ≤ 64 by omega)
    have HD := Lib.hid (show decide (1 ≤ (nn : Int) ∧ (nn : Int) ≤ 64) = true from decide_eq_true hr)
    obtain ⟨N, hN⟩ : ∃ N, 20 + 3 * nn = N := ⟨_, rfl⟩
    have HNN := Lib.hid hN
    have hN3 : N ≤ 300 := by omega
    by_cases h0 : 0 ≤ s ∧ s < N
    · obtain ⟨i, rfl⟩ := Int.eq_ofNat_of_zero_le h0.1
      have HE := Lib.hid (sptP_in nn i HN.out (by omega))
      have hyy := preS_get nn N i (by omega)
      obtain ⟨y, hy⟩ : ∃ y, plc nn i = y := ⟨_, rfl⟩
      rw [hy] at HE hyy
      obtain ⟨pk, pa, pt⟩ := y
      have HI := Lib.hid (show i < N by omega)
      have i1 : ¬ ((i : Int) < 0) := by omega
      have d2 : decide ((N : Int) ≤ (i : Int)) = false := decide_eq_false (by omega)
      have i2 : (i : Int) < (N : Int) := by omega
      have HY := Lib.hid hyy
      clear hr hN h0 hy hyy
      go_enter Tryd.func19, Tryd.ntmps19
      go_wp2_with (first
        | (go_at_call 12; refine (right_any nn _).mono ?_; rw [HD.out]; rintro r w1 ⟨rfl, hb⟩; have HB1 := Lib.hid (HB.out.trans (hb.mono HB.out.size)); have HS1 := Lib.hid (HS.out.keep hb); have HG1 := Lib.hid (HG.out.keep hb); have c3 := HG1.out.one; clear hb)
        | (go_at_call 15; refine (refall_yes nn _ HN.out).mono ?_; rw [HNN.out]; rintro r w2 ⟨⟨g, c, rfl, hrd⟩, hb⟩; have HB2 := Lib.hid (HB1.out.trans (hb.mono HB1.out.size)); have HS2 := Lib.hid (HS1.out.keep hb); obtain ⟨z0, z1, z2⟩ := hrd.at_ HY.out; obtain ⟨c0, c1, c2⟩ := HS2.out.three; have f0 := HS2.out.frozen 0; have f1 := HS2.out.frozen 1; have f2 := HS2.out.frozen 2; clear hb hrd c3))
      obtain ⟨y0, y1, y2⟩ := (HS2.out.set3 (a' := .int .i64 pk) (b' := .int .i64 pa) (c' := .int .i64 pt)).three
      refine bodyPost_ret (v := .tuple #[Sp.val ⟨pk, pa, pt⟩, .int .i64 0]) (by simp [results, Tryd.results19, go_sem, y0, y1, y2]) rfl ?_
      exact ⟨by rw [HE.out], below_set3 HB2.out (by omega) _ _ _⟩
    · have HE := Lib.hid (sptP_out nn s HN.out (by omega))
      by_cases h1 : s < 0
      · have d1 : decide (s < 0) = true := decide_eq_true h1
        clear hr hN h0 h1
        go_enter Tryd.func19, Tryd.ntmps19
        go_wp2_with (first
          | (go_at_call 12; refine (right_any nn _).mono ?_; rw [HD.out]; rintro r w1 ⟨rfl, hb⟩; have HB1 := Lib.hid (HB.out.trans (hb.mono HB.out.size)); have HS1 := Lib.hid (HS.out.keep hb); have HG1 := Lib.hid (HG.out.keep hb); have c3 := HG1.out.one; clear hb)
          | (go_at_call 15; refine (refall_yes nn _ HN.out).mono ?_; rw [HNN.out]; rintro r w2 ⟨⟨g, c, rfl, hrd⟩, hb⟩; have HB2 := Lib.hid (HB1.out.trans (hb.mono HB1.out.size)); have HS2 := Lib.hid (HS1.out.keep hb); obtain ⟨c0, c1, c2⟩ := HS2.out.three; have f0 := HS2.out.frozen 0; have f1 := HS2.out.frozen 1; have f2 := HS2.out.frozen 2; clear hb hrd c3))
        obtain ⟨y0, y1, y2⟩ := (HS2.out.set3 (a' := .int .i64 0) (b' := .int .i64 0) (c' := .int .i64 0)).three
        refine bodyPost_ret (v := .tuple #[Sp.val ⟨0, 0, 0⟩, .int .i64 4]) (by simp [results, Tryd.results19, go_sem, y0, y1, y2]) rfl ?_
        exact ⟨by rw [HE.out], below_set3 HB2.out (by omega) _ _ _⟩
      · have d1 : decide (s < 0) = false := decide_eq_false h1
        have d2 : decide ((N : Int) ≤ s) = true := decide_eq_true (by omega)
        clear hr hN h0 h1
        go_enter Tryd.func19, Tryd.ntmps19
        go_wp2_with (first
          | (go_at_call 12; refine (right_any nn _).mono ?_; rw [HD.out]; rintro r w1 ⟨rfl, hb⟩; have HB1 := Lib.hid (HB.out.trans (hb.mono HB.out.size)); have HS1 := Lib.hid (HS.out.keep hb); have HG1 := Lib.hid (HG.out.keep hb); have c3 := HG1.out.one; clear hb)
          | (go_at_call 15; refine (refall_yes nn _ HN.out).mono ?_; rw [HNN.out]; rintro r w2 ⟨⟨g, c, rfl, hrd⟩, hb⟩; have HB2 := Lib.hid (HB1.out.trans (hb.mono HB1.out.size)); have HS2 := Lib.hid (HS1.out.keep hb); obtain ⟨c0, c1, c2⟩ := HS2.out.three; have f0 := HS2.out.frozen 0; have f1 := HS2.out.frozen 1; have f2 := HS2.out.frozen 2; clear hb hrd c3))
        obtain ⟨y0, y1, y2⟩ := (HS2.out.set3 (a' := .int .i64 0) (b' := .int .i64 0) (c' := .int .i64 0)).three
        refine bodyPost_ret (v := .tuple #[Sp.val ⟨0, 0, 0⟩, .int .i64 4]) (by simp [results, Tryd.results19, go_sem, y0, y1, y2]) rfl ?_
        exact ⟨by rw [HE.out], below_set3 HB2.out (by omega) _ _ _⟩
  · have HE := Lib.hid (sptP_no n s hr)
    have HD := Lib.hid (show decide (1 ≤ n ∧ n ≤ 64) = false from decide_eq_false hr)
    clear hr
    go_enter Tryd.func19, Tryd.ntmps19
    go_wp2_with (go_at_call 12; refine (right_any n _).mono ?_; rw [HD.out]; rintro r w1 ⟨rfl, hb⟩; have HB1 := Lib.hid (HB.out.trans (hb.mono HB.out.size)); have HS1 := Lib.hid (HS.out.keep hb); obtain ⟨c0, c1, c2⟩ := HS1.out.three; have f0 := HS1.out.frozen 0; have f1 := HS1.out.frozen 1; have f2 := HS1.out.frozen 2; clear hb)
    obtain ⟨y0, y1, y2⟩ := (HS1.out.set3 (a' := .int .i64 0) (b' := .int .i64 0) (c' := .int .i64 0)).three
    refine bodyPost_ret (v := .tuple #[Sp.val ⟨0, 0, 0⟩, .int .i64 2]) (by simp [results, Tryd.results19, go_sem, y0, y1, y2]) rfl ?_
    exact ⟨by rw [HE.out], below_set3 HB1.out (by omega) _ _ _⟩
set_option maxRecDepth 8000 in
set_option maxHeartbeats 2000000 in
theorem rfits_any (s : Int) (w : World) : Calls Tryd.prog 11 #[.int .i64 s] w fun r w' => r = .returned (.tuple #[plan (fitN s), .bool (fitB s)]) ∧ Below w.heap.size w w' := by
  have HB := Lib.hid ((Below.refl w.heap.size w).alloc (Nat.le_refl _) (.cells #[.int .i64 0] 23))
  have HG := Lib.hid (Blk.new w 23 #[.int .i64 0])
  go_enter Tryd.func11, Tryd.ntmps11
  go_wp2
  go_loopw [4] (fun i wr => ∃ k : Nat, 1 ≤ k ∧ k ≤ 65 ∧ i = .int .i64 k ∧ Below w.heap.size w wr ∧ Blk wr w.heap.size 23 #[.int .i64 0] ∧ ∀ m : Nat, m + 1 < k → 20 + 3 * ((m : Int) + 1) ≠ s) (fun i _ => 66 - (intOf i).toNat)
  case atStart => exact ⟨1, by omega, by omega, rfl, HB.out, HG.out, fun m hm => by omega⟩
  case round =>
    clear HB HG
    obtain ⟨k, hk1, hk, rfl, hb, hg, hno⟩ := hrel
    have HB := Lib.hid hb
    have HG := Lib.hid hg
    have HNO := Lib.hid hno
    clear hb hg hno
    by_cases hlt : k ≤ 64
    · have d0 : decide ((k : Int) ≤ 64) = true := decide_eq_true (by omega)
      have HK := Lib.hid (show 1 ≤ k ∧ k ≤ 64 by omega)
      obtain ⟨N, hN⟩ : ∃ N, 20 + 3 * k = N := ⟨_, rfl⟩
      have HNN := Lib.hid hN
      by_cases hs : (N : Int) = s
      · have ds : ((N : Int) == s) = true := by simpa using hs
        obtain ⟨e1, e2⟩ := fit_yes (n := (k : Int)) (s := s) (by omega) (by omega)
        have E1 := Lib.hid e1
        have E2 := Lib.hid e2
        clear e1 e2 hs hN
        go_wp2_with (go_at_call 15; refine (refall_yes k _ HK.out).mono ?_; rw [HNN.out]; rintro r w1 ⟨⟨g, c, rfl, hrd⟩, hb2⟩; have G1 := Lib.hid (HG.out.keep hb2); have B1 := Lib.hid (HB.out.trans (hb2.mono HB.out.size)); have c1 := G1.out.one; have f1 := G1.out.frozen 0; clear hb2 hrd)
        have S1 := (G1.out.set_ 0 (.int .i64 (k : Int))).one
        refine bodyPost_ret (v := .tuple #[plan (k : Int), .bool true]) (by simp [results, Tryd.results11, go_sem, S1]) rfl ?_
        exact ⟨by rw [E1.out, E2.out], B1.out.setCell (p := ⟨w.heap.size, 0, none⟩) (Nat.le_refl _) _⟩
      · have ds : ((N : Int) == s) = false := by simpa using hs
        have HS := Lib.hid hs
        clear hs hN
        go_wp2_with (go_at_call 15; refine (refall_yes k _ HK.out).mono ?_; rw [HNN.out]; rintro r w1 ⟨⟨g, c, rfl, hrd⟩, hb2⟩; have G1 := Lib.hid (HG.out.keep hb2); have B1 := Lib.hid (HB.out.trans (hb2.mono HB.out.size)); clear hb2 hrd)
        go_roundw
        case rel =>
          refine ⟨k + 1, by omega, by omega, by go_num, B1.out, G1.out, fun m hm => ?_⟩
          rcases Nat.lt_or_ge (m + 1) k with h | h
          · exact HNO.out m h
          · have := HNN.out
            have := HS.out
            omega
        case measure => simp [intOf]; omega
    · obtain rfl : k = 65 := by omega
      obtain ⟨e1, e2⟩ := fit_no (fun m hm => HNO.out m (by omega))
      have E1 := Lib.hid e1
      have E2 := Lib.hid e2
      clear e1 e2
      have c1 := HG.out.one
      have f1 := HG.out.frozen 0
      go_wp2
      have S1 := (HG.out.set_ 0 (.int .i64 0)).one
      refine bodyPost_ret (v := .tuple #[plan 0, .bool false]) (by simp [results, Tryd.results11, go_sem, S1]) rfl ?_
      exact ⟨by rw [E1.out, E2.out], HB.out.setCell (p := ⟨w.heap.size, 0, none⟩) (Nat.le_refl _) _⟩
end Go.Proofs.YtfgkjonjkpcfiaaDoor

/- The law HeadersSealed returns true for every input: it is told which header a sector has, whose bytes are sealed as they are. No condition. -/
import Derived.Test.YtcfkoglehjkkdaaHT1
namespace Go.Proofs.Ytcfkoglehjkkdaa.headersSealed
open Go.ChangeShapes Go.WideShapes Go.ChangeAt Go.RowKit
attribute [local go_sem] Oper.semAt_some
set_option maxRecDepth 100000 in
set_option maxHeartbeats 8000000 in
theorem walk_no_a (w : World) (A0 : Option Addr) (n0 c0 : Nat) (A1 : Option Addr) (n1 c1 : Nat) (x : Int) (h : ¬ (n0 : Int) ≤ 508) : Calls Try.prog 5 #[.slice A0 n0 c0, .slice A1 n1 c1, .int .i64 x] w fun e w' => e = .returned (.bool true) ∧ Below w.heap.size w w' := by
  have d0 : decide ((508 : Int) < (n0 : Int)) = true := decide_eq_true (by omega)
  have d0' : decide (508 < n0) = true := decide_eq_true (by omega)
  clear h
  go_enter Try.func5, Try.ntmps5
  go_wp2_with (go_at_call 8; refine (works8_any _).mono ?_; rintro e W2 ⟨rfl, hb⟩; have L2 := Lib.hid hb; clear hb)
  go_ret
  exact ⟨rfl, L2.out⟩
set_option maxRecDepth 100000 in
set_option maxHeartbeats 8000000 in
theorem walk_no_b (w : World) (A0 : Option Addr) (n0 c0 : Nat) (A1 : Option Addr) (n1 c1 : Nat) (x : Int) (h0 : (n0 : Int) ≤ 508) (h : ¬ (n1 : Int) ≤ 508) : Calls Try.prog 5 #[.slice A0 n0 c0, .slice A1 n1 c1, .int .i64 x] w fun e w' => e = .returned (.bool true) ∧ Below w.heap.size w w' := by
  have d0 : decide ((508 : Int) < (n0 : Int)) = false := decide_eq_false (by omega)
  have d0' : decide (508 < n0) = false := decide_eq_false (by omega)
  have d1 : decide ((508 : Int) < (n1 : Int)) = true := decide_eq_true (by omega)
  have d1' : decide (508 < n1) = true := decide_eq_true (by omega)
  clear h0 h
  go_enter Try.func5, Try.ntmps5
  go_wp2_with (go_at_call 8; refine (works8_any _).mono ?_; rintro e W2 ⟨rfl, hb⟩; have L2 := Lib.hid hb; clear hb)
  go_ret
  exact ⟨rfl, L2.out⟩
set_option maxRecDepth 100000 in
set_option maxHeartbeats 8000000 in
theorem walk_no_c (w : World) (A0 : Option Addr) (n0 c0 : Nat) (A1 : Option Addr) (n1 c1 : Nat) (x : Int) (h0 : (n0 : Int) ≤ 508) (h1 : (n1 : Int) ≤ 508) (h : x < 23) : Calls Try.prog 5 #[.slice A0 n0 c0, .slice A1 n1 c1, .int .i64 x] w fun e w' => e = .returned (.bool true) ∧ Below w.heap.size w w' := by
  have d0 : decide ((508 : Int) < (n0 : Int)) = false := decide_eq_false (by omega)
  have d0' : decide (508 < n0) = false := decide_eq_false (by omega)
  have d1 : decide ((508 : Int) < (n1 : Int)) = false := decide_eq_false (by omega)
  have d1' : decide (508 < n1) = false := decide_eq_false (by omega)
  have d2 : decide (x < 23) = true := decide_eq_true (by omega)
  clear h0 h1 h
  go_enter Try.func5, Try.ntmps5
  go_wp2_with (go_at_call 8; refine (works8_any _).mono ?_; rintro e W2 ⟨rfl, hb⟩; have L2 := Lib.hid hb; clear hb)
  go_ret
  exact ⟨rfl, L2.out⟩
set_option maxRecDepth 100000 in
set_option maxHeartbeats 8000000 in
theorem walk_no_d (w : World) (A0 : Option Addr) (n0 c0 : Nat) (A1 : Option Addr) (n1 c1 : Nat) (x : Int) (h0 : (n0 : Int) ≤ 508) (h1 : (n1 : Int) ≤ 508) (h2 : ¬ x < 23) (h : 220 < x) : Calls Try.prog 5 #[.slice A0 n0 c0, .slice A1 n1 c1, .int .i64 x] w fun e w' => e = .returned (.bool true) ∧ Below w.heap.size w w' := by
  have d0 : decide ((508 : Int) < (n0 : Int)) = false := decide_eq_false (by omega)
  have d0' : decide (508 < n0) = false := decide_eq_false (by omega)
  have d1 : decide ((508 : Int) < (n1 : Int)) = false := decide_eq_false (by omega)
  have d1' : decide (508 < n1) = false := decide_eq_false (by omega)
  have d2 : decide (x < 23) = false := decide_eq_false (by omega)
  have d3 : decide (220 < x) = true := decide_eq_true (by omega)
  clear h0 h1 h2 h
  go_enter Try.func5, Try.ntmps5
  go_wp2_with (go_at_call 8; refine (works8_any _).mono ?_; rintro e W2 ⟨rfl, hb⟩; have L2 := Lib.hid hb; clear hb)
  go_ret
  exact ⟨rfl, L2.out⟩
set_option maxRecDepth 100000 in
set_option maxHeartbeats 8000000 in
theorem walk_yes (w : World) (A0 : Option Addr) (n0 c0 : Nat) (A1 : Option Addr) (n1 c1 : Nat) (z : Nat) (l0 l1 : List UInt8) (e0 : l0.length = n0) (e1 : l1.length = n1) (r0 : Rd w A0 l0) (r1 : Rd w A1 l1) (h0 : n0 ≤ 508) (h1 : n1 ≤ 508) (hz1 : 23 ≤ z) (hz2 : z ≤ 220) :
    Calls Try.prog 5 #[.slice A0 n0 c0, .slice A1 n1 c1, .int .i64 (z : Int)] w fun e w' => e = .returned (.bool true) ∧ Below w.heap.size w w' := by
  have d0 : decide ((508 : Int) < (n0 : Int)) = false := decide_eq_false (by omega)
  have d0' : decide (508 < n0) = false := decide_eq_false (by omega)
  have d1 : decide ((508 : Int) < (n1 : Int)) = false := decide_eq_false (by omega)
  have d1' : decide (508 < n1) = false := decide_eq_false (by omega)
  have d2 : decide ((z : Int) < 23) = false := decide_eq_false (by omega)
  have d2' : decide (z < 23) = false := decide_eq_false (by omega)
  have d3 : decide ((220 : Int) < (z : Int)) = false := decide_eq_false (by omega)
  have d3' : decide (220 < z) = false := decide_eq_false (by omega)
  have hz47 := z47
  have hz43 := z43
  have hz52 := z52
  have hz53 := z53
  obtain ⟨s0, hs0e⟩ : ∃ s, S.sealN ([] ++ l0 ++ List.replicate (508 - (0 + n0)) 0) = s := ⟨_, rfl⟩
  obtain ⟨s1, hs1e⟩ : ∃ s, S.sealN ([] ++ l1 ++ List.replicate (508 - (0 + n1)) 0) = s := ⟨_, rfl⟩
  have hs0 : s0.length = 512 := by rw [← hs0e, S.sealN_length]; simp; omega
  have hs1 : s1.length = 512 := by rw [← hs1e, S.sealN_length]; simp; omega
  have m0 : (bv s0).length = 512 := by rw [bv_length, hs0]
  have m1 : (bv s1).length = 512 := by rw [bv_length, hs1]
  have n9 : (bv zs).length = 512 := by rw [bv_length, zs_length]
  have S0 := Lib.hid hs0e
  have S1 := Lib.hid hs1e
  have HN0 := Lib.hid (show 0 + n0 ≤ 508 by omega)
  have HN1 := Lib.hid (show 0 + n1 ≤ 508 by omega)
  have E0 := Lib.hid e0
  have E1 := Lib.hid e1
  have R0 := Lib.hid r0
  have R1 := Lib.hid r1
  have O0 := Lib.hid (show Ow w (w.alloc (.cells #[] 5)) w.heap.size (.slice (some ⟨w.heap.size, 0, none⟩) 0 0) 0 [] from ⟨lit0 w, (Below.refl _ w).alloc (Nat.le_refl _) _, by simp⟩)
  have MD := Lib.hid (fun (g7 g8 : Nat) (W : World) (h7 : Rd W (some ⟨g7, 0, none⟩) s0) (h8 : Rd W (some ⟨g8, 0, none⟩) s1) => show Calls Try.prog 9 #[.agg #[.int .i64 (z : Int), .slice (some ⟨g7, 0, none⟩) 512 512, .slice (some ⟨g8, 0, none⟩) 512 512, .slice none 0 0]] W fun e w' => ∃ p pl D r R, e = .returned (.tuple #[.pointer (some ⟨p, 0, none⟩), .agg #[.slice r.A1 r.n1 r.c1, .slice r.A2 r.n2 r.c2, .int .i64 0, .slice r.A3 r.n3 r.c3], .bool true]) ∧ Bo w' W.heap.size p pl D r R 0 z ∧ R.ws = [] ∧ Below W.heap.size W w' ∧ ∀ b, r.at_ R b → W.heap.size ≤ b from by
    refine (made_new W z (by omega) (by omega) (some ⟨g7, 0, none⟩) 512 512 (some ⟨g8, 0, none⟩) 512 512 none 0 s0 s1 [] hs0 hs1 (Nat.le_refl _) (Nat.le_refl _) (Nat.zero_le _) h7 h8 (fun j hj => by simp at hj) (fun y hy => by simp at hy)).mono ?_
    rintro e w' ⟨p, pl, D, r, fl, rfl, hb, hl, ha⟩
    exact ⟨p, pl, D, r, _, rfl, hb, rfl, hl, ha⟩)
  clear hs0e hs1e hs0 hs1 e0 e1 r0 r1 hz1 hz2
  go_enter Try.func5, Try.ntmps5
  go_wp2_with (first
    | (at_builtin; refine wpList_append_bytes _ rfl _ _ _ rfl Try.underlying22 S.infoU8 rfl O0.out.ow rfl (R0.out.below O0.out.be) E0.out (by omega) O0.out.sz ?_; intro v' w1 hown1 hg1 hat1; have O1 := Lib.hid (show Ow w w1 w.heap.size v' (0 + n0) ([] ++ l0) from O0.out.grown hown1 hg1); clear hown1 hg1 hat1)
    | (go_at_call 21; refine (sl8_any O1.out.ow O1.out.sz HN0.out).mono ?_; rw [S0.out]; rintro e w2 ⟨rfl, hb⟩; have L2 := Lib.hid (O1.out.be.trans hb); have O2 := Lib.hid (show Ow w2 (w2.alloc (.cells #[] 5)) w2.heap.size (.slice (some ⟨w2.heap.size, 0, none⟩) 0 0) 0 [] from ⟨lit0 w2, (Below.refl _ w2).alloc (Nat.le_refl _) _, by simp⟩); have R1b := Lib.hid ((R1.out.below L2.out).below O2.out.be); clear hb O1)
    | (at_builtin; refine wpList_append_bytes _ rfl _ _ _ rfl Try.underlying22 S.infoU8 rfl O2.out.ow rfl R1b.out E1.out (by omega) O2.out.sz ?_; intro v' w3 hown1 hg1 hat1; have O3 := Lib.hid (show Ow w2 w3 w2.heap.size v' (0 + n1) ([] ++ l1) from O2.out.grown hown1 hg1); clear hown1 hg1 hat1)
    | (go_at_call 21; refine (sl8_any O3.out.ow O3.out.sz HN1.out).mono ?_; rw [S1.out]; rintro e w4 ⟨rfl, hb⟩; have L4 := Lib.hid (L2.out.trans ((O3.out.be.trans hb).mono L2.out.size)); have K7 := Lib.hid ((Blk.new w4 56 (bv zs).toArray).alloc (.cells (bv zs).toArray 56)); have K8 := Lib.hid (blk_new1 w4 (.cells (bv zs).toArray 56) 56 (bv zs).toArray); have L5 := Lib.hid ((L4.out.alloc L4.out.size (.cells (bv zs).toArray 56)).alloc (by simp; have := L4.out.size; omega) (.cells (bv zs).toArray 56)); clear hb O3)
    | (refine wpList_store_g8 rfl 56 (.tmp 7) (.tmp 39) rfl (g := w4.heap.size) (by rfl) (bv s0).toArray (bv zs).toArray 56 (by rfl) K7.out (by rw [List.size_toArray, m0]; exact size47) (by simp only [List.size_toArray, m0, n9]) (bv_ones8 _) ?_; intro w6 g6 f6; have K7b := Lib.hid g6; have K8b := Lib.hid (f6.keepBlk K8.out (by omega)); have L6 := Lib.hid (L5.out.trans (f6.to_below (fun k e => by have := L4.out.size; omega) L5.out.size)); clear g6 f6 K7 K8 L5)
    | (refine wpList_store_g8 rfl 56 (.tmp 8) (.tmp 43) rfl (g := w4.heap.size + 1) (by rfl) (bv s1).toArray (bv zs).toArray 56 (by rfl) K8b.out (by rw [List.size_toArray, m1]; exact size47) (by simp only [List.size_toArray, m1, n9]) (bv_ones8 _) ?_; intro w7 g7 f7; have K8c := Lib.hid (blk_drew g7); have K7c := Lib.hid (blk_drew (f7.keepBlk K7b.out (by omega))); have L7 := Lib.hid (Below.drew (L6.out.trans (f7.to_below (fun k e => by have := L4.out.size; omega) L6.out.size))); clear g7 f7 K7b K8b L6))
  refine region_any8 (α := Nat × Nat × Rp) (fun ac g => (((((((((((((ac.put (some 45) (.int .i64 (z : Int))).put (some 46) (.slice (some ⟨w4.heap.size, 0, none⟩) 512 512)).put (some 47) (.slice (some ⟨w4.heap.size + 1, 0, none⟩) 512 512)).put (some 48) (.agg #[.slice (some ⟨w4.heap.size, 0, none⟩) 512 512, .slice (some ⟨w4.heap.size + 1, 0, none⟩) 512 512])).put (some 49) (.agg #[.int .i64 (z : Int), .slice (some ⟨w4.heap.size, 0, none⟩) 512 512, .slice (some ⟨w4.heap.size + 1, 0, none⟩) 512 512, .slice none 0 0])).put (some 50) (.tuple #[.pointer (some ⟨g.2.1, 0, none⟩), .agg #[.slice g.2.2.A1 g.2.2.n1 g.2.2.c1, .slice g.2.2.A2 g.2.2.n2 g.2.2.c2, .int .i64 0, .slice g.2.2.A3 g.2.2.n3 g.2.2.c3], .bool true])).put (some 44) (.tuple #[.pointer (some ⟨g.2.1, 0, none⟩), .agg #[.slice g.2.2.A1 g.2.2.n1 g.2.2.c1, .slice g.2.2.A2 g.2.2.n2 g.2.2.c2, .int .i64 0, .slice g.2.2.A3 g.2.2.n3 g.2.2.c3], .bool true])).put (some 51) (.pointer (some ⟨g.2.1, 0, none⟩))).put (some 52) (.agg #[.slice g.2.2.A1 g.2.2.n1 g.2.2.c1, .slice g.2.2.A2 g.2.2.n2 g.2.2.c2, .int .i64 0, .slice g.2.2.A3 g.2.2.n3 g.2.2.c3])).put (some 53) (.bool true)).put (some 10) (.pointer (some ⟨g.1, 0, none⟩))).put (some 9) (.pointer (some ⟨g.2.1, 0, none⟩))).put (some 11) (.bool true))) (fun g W => ∃ (B : Nat) (pl : Pl) (D : Dk) (R : Rf), Bo W B g.2.1 pl D g.2.2 R 0 z ∧ R.ws = [] ∧ w.heap.size ≤ B ∧ Blk W g.1 33 #[.slice g.2.2.A1 g.2.2.n1 g.2.2.c1, .slice g.2.2.A2 g.2.2.n2 g.2.2.c2, .int .i64 0, .slice g.2.2.A3 g.2.2.n3 g.2.2.c3] ∧ Below w.heap.size w W) ?mkR ?restR
  case mkR =>
    refine wp_region_only (S := fun _ => True) (by kernel_rfl) trivial (fun hHeld => ?_)
    refine wpAnyH_take (i := 0) (v := ?v1) rfl (by kernel_rfl) (by kernel_rfl) (by kernel_rfl) (fun _ _ _ h => h) (Or.inl ⟨by rfl, ?hy1⟩) hHeld ?rest1
    case hy1 =>
      intro w' hSw
      try dsimp only at hSw
      go_simp
      first | done | with_reducible rfl
    try simp only [Act.put, List.getElem_toArray, List.getElem_cons_zero, List.setIfInBounds_toArray, List.set_cons_zero, List.set_cons_succ]
    refine wpAnyH_take (i := 1) (v := ?v2) rfl (by kernel_rfl) (by kernel_rfl) (by kernel_rfl) (fun _ _ _ h => h) (Or.inl ⟨by rfl, ?hy2⟩) hHeld ?rest2
    case hy2 =>
      intro w' hSw
      try dsimp only at hSw
      go_simp
      first | done | with_reducible rfl
    try simp only [Act.put, List.getElem_toArray, List.getElem_cons_succ, List.getElem_cons_zero, List.setIfInBounds_toArray, List.set_cons_zero, List.set_cons_succ]
    refine wpAnyH_take (i := 2) (v := ?v3) rfl (by kernel_rfl) (by kernel_rfl) (by kernel_rfl) (fun _ _ _ h => h) (Or.inl ⟨by rfl, ?hy3⟩) hHeld ?rest3
    case hy3 =>
      intro w' hSw
      try dsimp only at hSw
      go_simp
      first | done | with_reducible rfl
    try simp only [Act.put, List.getElem_toArray, List.getElem_cons_succ, List.getElem_cons_zero, List.setIfInBounds_toArray, List.set_cons_zero, List.set_cons_succ]
    refine wpAnyH_take (i := 3) (v := ?v4) rfl (by kernel_rfl) (by kernel_rfl) (by kernel_rfl) (fun _ _ _ h => h) (Or.inl ⟨by rfl, ?hy4⟩) hHeld ?rest4
    case hy4 =>
      intro w' hSw
      try dsimp only at hSw
      go_simp
      first | done | with_reducible rfl
    try simp only [Act.put, List.getElem_toArray, List.getElem_cons_succ, List.getElem_cons_zero, List.setIfInBounds_toArray, List.set_cons_zero, List.set_cons_succ]
    refine wpAnyH_take (i := 4) (v := ?v5) rfl (by kernel_rfl) (by kernel_rfl) (by kernel_rfl) (fun _ _ _ h => h) (Or.inl ⟨by rfl, ?hy5⟩) hHeld ?rest5
    case hy5 =>
      intro w' hSw
      try dsimp only at hSw
      go_simp
      first | done | with_reducible rfl
    try simp only [Act.put, List.getElem_toArray, List.getElem_cons_succ, List.getElem_cons_zero, List.setIfInBounds_toArray, List.set_cons_zero, List.set_cons_succ]
    refine wpAnyH_ready (rs := [5, 10]) (by kernel_rfl) (by simp) ?_
    refine AllReadyH.cons (by rfl) (fun K hK => ?_) (AllReadyH.cons (by rfl) (fun K hK => ?_) AllReadyH.nil)
    · go_simp
      refine (MD.out _ _ _ (rd_bv K7c.out) (rd_bv K8c.out)).mono ?_
      rintro e u1 ⟨p, pl, D, r, R, rfl, bo, hws, hb, hat⟩
      have BO := Lib.hid bo
      have WS := Lib.hid hws
      have BB := Lib.hid L7.out.size
      have L7 := Lib.hid (L7.out.trans (hb.mono L7.out.size))
      clear hb bo hws hat hHeld
      refine hK.out _ _ trivial (fun hHeld => ?_)
      clear hK K
      try simp only [Act.put, List.getElem_toArray, List.getElem_cons_succ, List.getElem_cons_zero, List.setIfInBounds_toArray, List.set_cons_zero, List.set_cons_succ]
      refine wpAnyH_take (i := 6) (v := ?v6) rfl (by kernel_rfl) (by kernel_rfl) (by kernel_rfl) (fun _ _ _ h => h) (Or.inl ⟨by rfl, ?hy6⟩) hHeld ?rest6
      case hy6 =>
        intro w' hSw
        try dsimp only at hSw
        go_simp
        first | done | with_reducible rfl
      try simp only [Act.put, List.getElem_toArray, List.getElem_cons_succ, List.getElem_cons_zero, List.setIfInBounds_toArray, List.set_cons_zero, List.set_cons_succ]
      refine wpAnyH_take (i := 7) (v := ?v7) rfl (by kernel_rfl) (by kernel_rfl) (by kernel_rfl) (fun _ _ _ h => h) (Or.inl ⟨by rfl, ?hy7⟩) hHeld ?rest7
      case hy7 =>
        intro w' hSw
        try dsimp only at hSw
        go_simp
        first | done | with_reducible rfl
      try simp only [Act.put, List.getElem_toArray, List.getElem_cons_succ, List.getElem_cons_zero, List.setIfInBounds_toArray, List.set_cons_zero, List.set_cons_succ]
      refine wpAnyH_take (i := 8) (v := ?v8) rfl (by kernel_rfl) (by kernel_rfl) (by kernel_rfl) (fun _ _ _ h => h) (Or.inl ⟨by rfl, ?hy8⟩) hHeld ?rest8
      case hy8 =>
        intro w' hSw
        try dsimp only at hSw
        go_simp
        first | done | with_reducible rfl
      try simp only [Act.put, List.getElem_toArray, List.getElem_cons_succ, List.getElem_cons_zero, List.setIfInBounds_toArray, List.set_cons_zero, List.set_cons_succ]
      refine wpAnyH_take (i := 9) (v := ?v9) rfl (by kernel_rfl) (by kernel_rfl) (by kernel_rfl) (fun _ _ _ h => h) (Or.inl ⟨by rfl, ?hy9⟩) hHeld ?rest9
      case hy9 =>
        intro w' hSw
        try dsimp only at hSw
        go_simp
        first | done | with_reducible rfl
      try simp only [Act.put, List.getElem_toArray, List.getElem_cons_succ, List.getElem_cons_zero, List.setIfInBounds_toArray, List.set_cons_zero, List.set_cons_succ]
      refine wpAnyH_ready (rs := [10]) (by kernel_rfl) (by simp) ?_
      refine AllReadyH.cons (by rfl) (fun K hK => ?_) AllReadyH.nil
      refine step_alloc33 rfl (by rfl) ?_
      intro g u2 hg hw
      have G := Lib.hid (show Blk u2 g 33 #[.slice none 0 0, .slice none 0 0, .int .i64 0, .slice none 0 0] from by rw [hw, hg]; exact Blk.new _ _ _)
      have GL := Lib.hid (show g < u2.heap.size from by rw [hw, hg]; simp)
      have NP := Lib.hid (show ¬ pl.has p g from by rw [hg]; exact BO.out.da.not_new (Nat.le_refl _))
      have NR := Lib.hid (show ¬ r.at_ R g from fun hk => by have := BO.out.rf.lt hk; omega)
      have BO := Lib.hid (show Bo u2 _ p pl D r R 0 z from by rw [hw]; exact BO.out.alloc _)
      have GW := Lib.hid (show w.heap.size ≤ g from by rw [hg]; exact L7.out.size)
      have L7 := Lib.hid (show Below w.heap.size w u2 from by rw [hw]; exact L7.out.alloc L7.out.size _)
      clear hg hw hHeld
      refine hK.out _ _ trivial (fun hHeld => ?_)
      clear hK K
      try simp only [Act.put, List.getElem_toArray, List.getElem_cons_succ, List.getElem_cons_zero, List.setIfInBounds_toArray, List.set_cons_zero, List.set_cons_succ]
      refine wpAnyH_take (i := 11) (v := ?v10) rfl (by kernel_rfl) (by kernel_rfl) (by kernel_rfl) (fun _ _ _ h => h) (Or.inl ⟨by rfl, ?hy10⟩) hHeld ?rest10
      case hy10 =>
        intro w' hSw
        try dsimp only at hSw
        go_simp
        first | done | with_reducible rfl
      try simp only [Act.put, List.getElem_toArray, List.getElem_cons_succ, List.getElem_cons_zero, List.setIfInBounds_toArray, List.set_cons_zero, List.set_cons_succ]
      refine wpAnyH_ready (rs := [12]) (by kernel_rfl) (by simp) ?_
      refine AllReadyH.cons (by rfl) (fun K hK => ?_) AllReadyH.nil
      refine step_store_whole8 rfl 33 (.tmp 10) (.tmp 52) rfl (by rfl) #[.slice r.A1 r.n1 r.c1, .slice r.A2 r.n2 r.c2, .int .i64 0, .slice r.A3 r.n3 r.c3] #[.slice none 0 0, .slice none 0 0, .int .i64 0, .slice none 0 0] 33 (by rfl) G.out (size43c8 _ _ _ _) rfl (one43c8 _ _ _ _ _ _ _ _ _) ?_
      intro u3 j3 f3
      have G := Lib.hid j3
      have BO := Lib.hid (BO.out.far8 f3 NP.out NR.out)
      have L7 := Lib.hid (L7.out.trans (f3.to_below (fun k e => by have := GW.out; omega) L7.out.size))
      clear hHeld j3 f3
      refine hK.out _ _ trivial (fun hHeld => ?_)
      clear hK K
      try simp only [Act.put, List.getElem_toArray, List.getElem_cons_succ, List.getElem_cons_zero]
      refine wpAnyH_take (i := 13) (v := ?v11) rfl (by kernel_rfl) (by kernel_rfl) (by kernel_rfl) (fun _ _ _ h => h) (Or.inl ⟨by rfl, ?hy11⟩) hHeld ?rest11
      case hy11 =>
        intro w' hSw
        try dsimp only at hSw
        go_simp
        first | done | with_reducible rfl
      try simp only [Act.put, List.getElem_toArray, List.getElem_cons_succ, List.getElem_cons_zero, List.setIfInBounds_toArray, List.set_cons_zero, List.set_cons_succ]
      refine wpAnyH_done (by kernel_rfl) ?_ _
      refine OnlyN.normal ?_
      exact ⟨(g, p, r), rfl, rfl, _, pl, D, R, BO.out, WS.out, BB.out, G.out, L7.out⟩
    · refine step_alloc33 rfl (by rfl) ?_
      intro g u2 hg hw
      have G := Lib.hid (show Blk u2 g 33 #[.slice none 0 0, .slice none 0 0, .int .i64 0, .slice none 0 0] from by rw [hw, hg]; exact Blk.new _ _ _)
      have GL := Lib.hid (show g < u2.heap.size from by rw [hw, hg]; simp)
      have K7c := Lib.hid (show Blk u2 _ _ _ from by rw [hw]; exact K7c.out.alloc _)
      have K8c := Lib.hid (show Blk u2 _ _ _ from by rw [hw]; exact K8c.out.alloc _)
      have GW := Lib.hid (show w.heap.size ≤ g from by rw [hg]; exact L7.out.size)
      have L7 := Lib.hid (show Below w.heap.size w u2 from by rw [hw]; exact L7.out.alloc L7.out.size _)
      clear hg hw hHeld
      refine hK.out _ _ trivial (fun hHeld => ?_)
      clear hK K
      try simp only [Act.put, List.getElem_toArray, List.getElem_cons_succ, List.getElem_cons_zero, List.setIfInBounds_toArray, List.set_cons_zero, List.set_cons_succ]
      refine wpAnyH_ready (rs := [5]) (by kernel_rfl) (by simp) ?_
      refine AllReadyH.cons (by rfl) (fun K hK => ?_) AllReadyH.nil
      go_simp
      refine (MD.out _ _ _ (rd_bv K7c.out) (rd_bv K8c.out)).mono ?_
      rintro e u1 ⟨p, pl, D, r, R, rfl, bo, hws, hb, hat⟩
      have BO := Lib.hid bo
      have WS := Lib.hid hws
      have BB := Lib.hid L7.out.size
      have NR := Lib.hid (show ¬ r.at_ R g from fun hk => by have := hat _ hk; have := GL.out; omega)
      have G := Lib.hid (G.out.below hb G.out.lt)
      have NP := Lib.hid (show ¬ pl.has p g from fun hk => by have := (bo.da.lt _ hk).2; have := GL.out; omega)
      have L7 := Lib.hid (L7.out.trans (hb.mono L7.out.size))
      clear hb bo hws hat hHeld
      refine hK.out _ _ trivial (fun hHeld => ?_)
      clear hK K
      try simp only [Act.put, List.getElem_toArray, List.getElem_cons_succ, List.getElem_cons_zero, List.setIfInBounds_toArray, List.set_cons_zero, List.set_cons_succ]
      refine wpAnyH_take (i := 6) (v := ?v12) rfl (by kernel_rfl) (by kernel_rfl) (by kernel_rfl) (fun _ _ _ h => h) (Or.inl ⟨by rfl, ?hy12⟩) hHeld ?rest12
      case hy12 =>
        intro w' hSw
        try dsimp only at hSw
        go_simp
        first | done | with_reducible rfl
      try simp only [Act.put, List.getElem_toArray, List.getElem_cons_succ, List.getElem_cons_zero, List.setIfInBounds_toArray, List.set_cons_zero, List.set_cons_succ]
      refine wpAnyH_take (i := 7) (v := ?v13) rfl (by kernel_rfl) (by kernel_rfl) (by kernel_rfl) (fun _ _ _ h => h) (Or.inl ⟨by rfl, ?hy13⟩) hHeld ?rest13
      case hy13 =>
        intro w' hSw
        try dsimp only at hSw
        go_simp
        first | done | with_reducible rfl
      try simp only [Act.put, List.getElem_toArray, List.getElem_cons_succ, List.getElem_cons_zero, List.setIfInBounds_toArray, List.set_cons_zero, List.set_cons_succ]
      refine wpAnyH_take (i := 8) (v := ?v14) rfl (by kernel_rfl) (by kernel_rfl) (by kernel_rfl) (fun _ _ _ h => h) (Or.inl ⟨by rfl, ?hy14⟩) hHeld ?rest14
      case hy14 =>
        intro w' hSw
        try dsimp only at hSw
        go_simp
        first | done | with_reducible rfl
      try simp only [Act.put, List.getElem_toArray, List.getElem_cons_succ, List.getElem_cons_zero, List.setIfInBounds_toArray, List.set_cons_zero, List.set_cons_succ]
      refine wpAnyH_take (i := 9) (v := ?v15) rfl (by kernel_rfl) (by kernel_rfl) (by kernel_rfl) (fun _ _ _ h => h) (Or.inl ⟨by rfl, ?hy15⟩) hHeld ?rest15
      case hy15 =>
        intro w' hSw
        try dsimp only at hSw
        go_simp
        first | done | with_reducible rfl
      try simp only [Act.put, List.getElem_toArray, List.getElem_cons_succ, List.getElem_cons_zero, List.setIfInBounds_toArray, List.set_cons_zero, List.set_cons_succ]
      refine wpAnyH_take (i := 11) (v := ?v16) rfl (by kernel_rfl) (by kernel_rfl) (by kernel_rfl) (fun _ _ _ h => h) (Or.inl ⟨by rfl, ?hy16⟩) hHeld ?rest16
      case hy16 =>
        intro w' hSw
        try dsimp only at hSw
        go_simp
        first | done | with_reducible rfl
      try simp only [Act.put, List.getElem_toArray, List.getElem_cons_succ, List.getElem_cons_zero, List.setIfInBounds_toArray, List.set_cons_zero, List.set_cons_succ]
      refine wpAnyH_ready (rs := [12]) (by kernel_rfl) (by simp) ?_
      refine AllReadyH.cons (by rfl) (fun K hK => ?_) AllReadyH.nil
      refine step_store_whole8 rfl 33 (.tmp 10) (.tmp 52) rfl (by rfl) #[.slice r.A1 r.n1 r.c1, .slice r.A2 r.n2 r.c2, .int .i64 0, .slice r.A3 r.n3 r.c3] #[.slice none 0 0, .slice none 0 0, .int .i64 0, .slice none 0 0] 33 (by rfl) G.out (size43c8 _ _ _ _) rfl (one43c8 _ _ _ _ _ _ _ _ _) ?_
      intro u3 j3 f3
      have G := Lib.hid j3
      have BO := Lib.hid (BO.out.far8 f3 NP.out NR.out)
      have L7 := Lib.hid (L7.out.trans (f3.to_below (fun k e => by have := GW.out; omega) L7.out.size))
      clear hHeld j3 f3
      refine hK.out _ _ trivial (fun hHeld => ?_)
      clear hK K
      try simp only [Act.put, List.getElem_toArray, List.getElem_cons_succ, List.getElem_cons_zero]
      refine wpAnyH_take (i := 13) (v := ?v17) rfl (by kernel_rfl) (by kernel_rfl) (by kernel_rfl) (fun _ _ _ h => h) (Or.inl ⟨by rfl, ?hy17⟩) hHeld ?rest17
      case hy17 =>
        intro w' hSw
        try dsimp only at hSw
        go_simp
        first | done | with_reducible rfl
      try simp only [Act.put, List.getElem_toArray, List.getElem_cons_succ, List.getElem_cons_zero, List.setIfInBounds_toArray, List.set_cons_zero, List.set_cons_succ]
      refine wpAnyH_done (by kernel_rfl) ?_ _
      refine OnlyN.normal ?_
      exact ⟨(g, p, r), rfl, rfl, _, pl, D, R, BO.out, WS.out, BB.out, G.out, L7.out⟩
  case restR =>
    rintro ⟨g, p, r⟩ V0 ⟨B, pl, D, R, bo, hws, hB, gd, hl⟩
    have BO := Lib.hid bo
    have RN := Lib.hid (show R.ws.length ≤ 1000000 by rw [hws]; simp)
    have HB := Lib.hid hB
    have G := Lib.hid gd
    have L0 := Lib.hid hl
    clear bo hws hB gd hl K7c K8c L7 L2 L4 MD
    simp only [Act.put, List.setIfInBounds_toArray, List.set_cons_zero, List.set_cons_succ]
    obtain ⟨t, ht⟩ : ∃ t, bcSt R 0 z = t := ⟨_, rfl⟩
    obtain ⟨x0, hx0⟩ : ∃ t, bcH R 0 z 0 = t := ⟨_, rfl⟩
    obtain ⟨x1, hx1⟩ : ∃ t, bcH R 0 z 1 = t := ⟨_, rfl⟩
    obtain ⟨a, ha⟩ : ∃ t, bcB R 0 z 0 = t := ⟨_, rfl⟩
    obtain ⟨b, hb⟩ : ∃ t, bcB R 0 z 1 = t := ⟨_, rfl⟩
    obtain ⟨no, hno⟩ : ∃ t, bcNo R 0 z = t := ⟨_, rfl⟩
    have RB := Lib.hid (fun (W : World) (h : RefAt W r R z) => show Calls Try.prog 19 #[.agg #[.slice r.A1 r.n1 r.c1, .slice r.A2 r.n2 r.c2, .int .i64 0, .slice r.A3 r.n3 r.c3]] W fun e w' => e = .returned (.tuple #[.agg #[.slice r.A1 r.n1 r.c1, .slice r.A2 r.n2 r.c2, .int .i64 (t : Int), .slice r.A3 r.n3 r.c3], .agg (cs2 x0 x1).toArray, .agg #[.bool a, .bool b], .int .i64 no]) ∧ Below W.heap.size W w' from by
      have := rboth_any (s := 0) h (Nat.zero_le _)
      rw [ht, hx0, hx1, ha, hb, hno] at this
      exact this)
    have PB := Lib.hid (fun (W : World) (h : DiskAt W B p pl D) => show Calls Try.prog 20 #[.pointer (some ⟨p, 0, none⟩)] W fun e w' => e = .returned (.tuple #[.agg (cs2 x0 x1).toArray, .agg #[.bool a, .bool b], .int .i64 no]) ∧ ∃ D', DiskAt w' B p pl D' ∧ Fr (pl.has p) W w' ∧ Alike D' R t z from by
      have := both_any (s := 0) h BO.out.al RN.out (Nat.zero_le _) (by have := BO.out.rf.z1; omega)
      rw [ht, hx0, hx1, ha, hb, hno] at this
      exact this)
    clear ht hx0 hx1 ha hb hno
    go_wp2_with (first
      | (refine wpList_load_mid rfl 33 (.tmp 10) rfl g 0 rfl [.slice r.A1 r.n1 r.c1, .slice r.A2 r.n2 r.c2, .int .i64 0, .slice r.A3 r.n3 r.c3] _ (Blk.rangeAt G.out) Try.underlying33 rfl size43 ?_)
      | (go_at_call 19; refine (RB.out _ BO.out.rf).mono ?_; rintro e V1 ⟨rfl, hb⟩; have NH := Lib.hid (fun k (hk : V1.heap.size ≤ k) => (BO.out.da.below hb).not_new hk); have DA := Lib.hid ((((BO.out.da.below hb).alloc (.cells #[.slice none 0 0, .slice none 0 0, .int .i64 0, .slice none 0 0] 33)).alloc (.cells (cs2 hd0 hd0).toArray 49)).alloc (.cells #[.bool false, .bool false] 50)); have L1 := Lib.hid (L0.out.trans (hb.mono L0.out.size)); have LA := Lib.hid (((L1.out.alloc L1.out.size (.cells #[.slice none 0 0, .slice none 0 0, .int .i64 0, .slice none 0 0] 33)).alloc (by simp; have := L1.out.size; omega) (.cells (cs2 hd0 hd0).toArray 49)).alloc (by simp; have := L1.out.size; omega) (.cells #[.bool false, .bool false] 50)); have K12 := Lib.hid (((Blk.new V1 33 #[.slice none 0 0, .slice none 0 0, .int .i64 0, .slice none 0 0]).alloc (.cells (cs2 hd0 hd0).toArray 49)).alloc (.cells #[.bool false, .bool false] 50)); have K13 := Lib.hid ((blk_new1 V1 (.cells #[.slice none 0 0, .slice none 0 0, .int .i64 0, .slice none 0 0] 33) 49 (cs2 hd0 hd0).toArray).alloc (.cells #[.bool false, .bool false] 50)); have K14 := Lib.hid (show Blk (((V1.alloc (.cells #[.slice none 0 0, .slice none 0 0, .int .i64 0, .slice none 0 0] 33)).alloc (.cells (cs2 hd0 hd0).toArray 49)).alloc (.cells #[.bool false, .bool false] 50)) (V1.heap.size + 1 + 1) 50 #[.bool false, .bool false] from blk_at8 _ _ _ _ (by simp)); clear hb G L0)
      | (refine wpList_store_g8 rfl 33 (.tmp 12) (.tmp 57) rfl (g := V1.heap.size) (by rfl) #[.slice r.A1 r.n1 r.c1, .slice r.A2 r.n2 r.c2, .int .i64 (t : Int), .slice r.A3 r.n3 r.c3] #[.slice none 0 0, .slice none 0 0, .int .i64 0, .slice none 0 0] 33 (by rfl) K12.out (size43c8 _ _ _ _) rfl (one43c8 _ _ _ _ _ _ _ _ _) ?_; intro V2 j f; have DAb := Lib.hid (DA.out.fr f (fun k hk e => NH.out k (by omega) hk)); have M13 := Lib.hid (f.keepBlk K13.out (by omega)); have M14 := Lib.hid (f.keepBlk K14.out (by omega)); have LB := Lib.hid (LA.out.trans (f.to_below (fun k e => by have := L1.out.size; omega) LA.out.size)); clear j f DA K12 K13 K14 LA)
      | (refine wpList_store_g8 rfl 49 (.tmp 13) (.tmp 58) rfl (g := V1.heap.size + 1) (by rfl) (cs2 x0 x1).toArray (cs2 hd0 hd0).toArray 49 (by rfl) M13.out (by kernel_rfl) rfl (cs2_one _ _) ?_; intro V3 j f; have DAc := Lib.hid (DAb.out.fr f (fun k hk e => NH.out k (by omega) hk)); have N13 := Lib.hid j; have N14 := Lib.hid (f.keepBlk M14.out (by omega)); have LC := Lib.hid (LB.out.trans (f.to_below (fun k e => by have := L1.out.size; omega) LB.out.size)); clear j f DAb M13 M14 LB)
      | (refine wpList_store_g8 rfl 50 (.tmp 14) (.tmp 59) rfl (g := V1.heap.size + 1 + 1) (by rfl) #[.bool a, .bool b] #[.bool false, .bool false] 50 (by rfl) N14.out (by kernel_rfl) rfl (by simp [Value.oneCell']) ?_; intro V4 j f; have DAd := Lib.hid (DAc.out.fr f (fun k hk e => NH.out k (by omega) hk)); have Q14 := Lib.hid j; have Q13 := Lib.hid (f.keepBlk N13.out (by omega)); have LD := Lib.hid (LC.out.trans (f.to_below (fun k e => by have := L1.out.size; omega) LC.out.size)); clear j f DAc N13 N14 LC)
      | (go_at_call 20; refine (PB.out _ DAd.out).mono ?_; rintro e V5 ⟨rfl, D', hd, hf, -⟩; have T13 := Lib.hid (((hf.keepBlk Q13.out (NH.out _ (by omega))).alloc (.cells (cs2 hd0 hd0).toArray 49)).alloc (.cells #[.bool false, .bool false] 50)); have T14 := Lib.hid (((hf.keepBlk Q14.out (NH.out _ (by omega))).alloc (.cells (cs2 hd0 hd0).toArray 49)).alloc (.cells #[.bool false, .bool false] 50)); have LE := Lib.hid (LD.out.trans (hf.to_below (fun k hk => by have := (BO.out.da.lt _ hk).2; have := HB.out; omega) LD.out.size)); have T16 := Lib.hid ((Blk.new V5 49 (cs2 hd0 hd0).toArray).alloc (.cells #[.bool false, .bool false] 50)); have T17 := Lib.hid (blk_new1 V5 (.cells (cs2 hd0 hd0).toArray 49) 50 #[.bool false, .bool false]); have LF := Lib.hid ((LE.out.alloc LE.out.size (.cells (cs2 hd0 hd0).toArray 49)).alloc (by simp; have := LE.out.size; omega) (.cells #[.bool false, .bool false] 50)); have G13 := Lib.hid (show V1.heap.size + 1 + 1 < V5.heap.size from (hf.keepBlk Q14.out (NH.out _ (by omega))).lt); clear hd hf Q13 Q14 DAd LD)
      | (refine wpList_store_g8 rfl 49 (.tmp 16) (.tmp 64) rfl (g := V5.heap.size) (by rfl) (cs2 x0 x1).toArray (cs2 hd0 hd0).toArray 49 (by rfl) T16.out (by kernel_rfl) rfl (cs2_one _ _) ?_; intro V6 j f; have U16 := Lib.hid j; have U17 := Lib.hid (f.keepBlk T17.out (by omega)); have U13 := Lib.hid (f.keepBlk T13.out (by have := G13.out; omega)); have U14 := Lib.hid (f.keepBlk T14.out (by have := G13.out; omega)); have LG := Lib.hid (LF.out.trans (f.to_below (fun k e => by have := LE.out.size; omega) LF.out.size)); clear j f T13 T14 T16 T17 LF)
      | (refine wpList_store_g8 rfl 50 (.tmp 17) (.tmp 65) rfl (g := V5.heap.size + 1) (by rfl) #[.bool a, .bool b] #[.bool false, .bool false] 50 (by rfl) U17.out (by kernel_rfl) rfl (by simp [Value.oneCell']) ?_; intro V7 j f; have X17 := Lib.hid j; have X16 := Lib.hid (f.keepBlk U16.out (by omega)); have X13 := Lib.hid (f.keepBlk U13.out (by have := G13.out; omega)); have X14 := Lib.hid (f.keepBlk U14.out (by have := G13.out; omega)); have LH := Lib.hid (LG.out.trans (f.to_below (fun k e => by have := LE.out.size; omega) LG.out.size)); clear j f U13 U14 U16 U17 LG)
      | (refine wpList_y8 (S := fun w' => w'.rangeAt V5.heap.size 0 (cs2 x0 x1)) (yieldsIf_load_mid (by rfl) 49 (.tmp 16) (by rfl) V5.heap.size 0 (by rfl) (cs2 x0 x1) _ (fun _ h => h) Try.underlying49 rfl (size52 _ _)) (Blk.rangeAt (l := cs2 x0 x1) X16.out) ?_)
      | (refine wpList_y8 (S := fun w' => w'.rangeAt (V1.heap.size + 1) 0 (cs2 x0 x1)) (yieldsIf_load_mid (by rfl) 49 (.tmp 13) (by rfl) (V1.heap.size + 1) 0 (by rfl) (cs2 x0 x1) _ (fun _ h => h) Try.underlying49 rfl (size52 _ _)) (Blk.rangeAt (l := cs2 x0 x1) X13.out) ?_)
      | (refine wpList_y8 (S := fun _ => True) (y_eq52 (by rfl) (.tmp 69) (.tmp 70) (by rfl) x0 x1 (by rfl) (by rfl)) trivial ?_)
      | (refine wpList_y8 (S := fun w' => w'.rangeAt (V5.heap.size + 1) 0 [.bool a, .bool b]) (yieldsIf_load_mid (by rfl) 50 (.tmp 17) (by rfl) (V5.heap.size + 1) 0 (by rfl) [.bool a, .bool b] _ (fun _ h => h) Try.underlying50 rfl (size53 _ _)) (Blk.rangeAt (l := [.bool a, .bool b]) X17.out) ?_)
      | (refine wpList_y8 (S := fun w' => w'.rangeAt (V1.heap.size + 1 + 1) 0 [.bool a, .bool b]) (yieldsIf_load_mid (by rfl) 50 (.tmp 14) (by rfl) (V1.heap.size + 1 + 1) 0 (by rfl) [.bool a, .bool b] _ (fun _ h => h) Try.underlying50 rfl (size53 _ _)) (Blk.rangeAt (l := [.bool a, .bool b]) X14.out) ?_)
      | (refine wpList_y8 (S := fun _ => True) (y_eq53 (by rfl) (.tmp 74) (.tmp 75) (by rfl) a b (by rfl) (by rfl)) trivial ?_)
      | (go_at_call 12; refine (num8_any _ _).mono ?_; rintro e y1 ⟨rfl, rfl⟩)
      | (go_at_call 8; refine (works8_any _).mono ?_; rintro e V8 ⟨rfl, hb⟩; have LI := Lib.hid (LH.out.trans (hb.mono LH.out.size)); clear hb))
    go_ret
    exact ⟨rfl, LI.out⟩
set_option maxRecDepth 8000 in
theorem walk (w : World) (A0 : Option Addr) (n0 c0 : Nat) (l0 : List UInt8) (e0 : l0.length = n0) (r0 : Rd w A0 l0) (A1 : Option Addr) (n1 c1 : Nat) (l1 : List UInt8) (e1 : l1.length = n1) (r1 : Rd w A1 l1) (x : Int) : Calls Try.prog 5 #[.slice A0 n0 c0, .slice A1 n1 c1, .int .i64 x] w fun e w' => e = .returned (.bool true) ∧ Below w.heap.size w w' := by
  by_cases h0 : (n0 : Int) ≤ 508
  · by_cases h1 : (n1 : Int) ≤ 508
    · by_cases h2 : x < 23
      · exact walk_no_c w A0 n0 c0 A1 n1 c1 x h0 h1 h2
      · by_cases h3 : 220 < x
        · exact walk_no_d w A0 n0 c0 A1 n1 c1 x h0 h1 h2 h3
        · obtain ⟨z, rfl⟩ := Int.eq_ofNat_of_zero_le (show 0 ≤ x by omega)
          exact walk_yes w A0 n0 c0 A1 n1 c1 z l0 l1 e0 e1 r0 r1 (by omega) (by omega) (by omega) (by omega)
    · exact walk_no_b w A0 n0 c0 A1 n1 c1 x h0 h1
  · exact walk_no_a w A0 n0 c0 A1 n1 c1 x h0
set_option maxRecDepth 100000 in
theorem lifted (os : Os) (started : os.Started) (H : Type) (enc : TypeId × Value → H) :
    ReturnsInHanded {} Try.checked os 5 .any (Rows.headersSealedSpec.pre6 enc Try.prog Try.f5 Rows.headersSealedRow.domain false) (Rows.headersSealedSpec.post enc Try.prog Try.f5 false true false false) := by
  refine returnsInHanded_of_change_sized (C := Try.checked) own started (by kernel_rfl) Try.func5
    (ChangeSpec.witness6 (enc := enc) (C := Try.checked) false ⟨#[], #[.slice none 0 0, .slice none 0 0, .int .i64 0], []⟩ 8 (by kernel_rfl) (by kernel_rfl) (by kernel_rfl) (by kernel_rfl)) ?_
  intro W base args ds gs before hval0 hW hcnd hsz _
  have hval : ∀ (j : Nat) t v, Try.f5.params[j]? = some t → args[j]? = some v → Value.okWide Try.prog W .any base t v := hval0
  have hW' := hW
  obtain ⟨p, q, hA0, hV, rfl, hfz, hnd⟩ := hW
  have hA : DataW.TrodAll enc Try.prog W 0 (fun _ => true) true Try.f5.params.toList args.toList ds p := hA0
  rw [Try.params5] at hA hval hsz
  obtain ⟨v0, vs0, d0, ds0, p0, q0, hargs, rfl, rfl, h0, t0⟩ := trodAll_cons hA
  obtain ⟨v1, vs1, d1, ds1, p1, q1, rfl, rfl, rfl, h1, t1⟩ := trodAll_cons t0
  obtain ⟨v2, vs2, d2, ds2, p2, q2, rfl, rfl, rfl, h2, t2⟩ := trodAll_cons t1
  obtain ⟨rfl, rfl, rfl⟩ := trodAll_nil t2
  obtain rfl : args = #[v0, v1, v2] := by cases args; simp_all
  obtain ⟨rfl, rfl⟩ := trodVars_none hV
  have k0 := h0
  have lt0 : ∀ x ∈ p0, x.block < W.heap.size := by obtain ⟨m, hm⟩ := k0; exact DataW.trod_lt m _ _ _ hm
  obtain ⟨A0, n0, c0, l0, rfl, hl0, hr0⟩ := open_bytes8 (hval 0 22 v0 rfl rfl) h0
  have k1 := h1
  have lt1 : ∀ x ∈ p1, x.block < W.heap.size := by obtain ⟨m, hm⟩ := k1; exact DataW.trod_lt m _ _ _ hm
  obtain ⟨A1, n1, c1, l1, rfl, hl1, hr1⟩ := open_bytes8 (hval 1 22 v1 rfl rfl) h1
  have k2 := h2
  have lt2 : ∀ x ∈ p2, x.block < W.heap.size := by obtain ⟨m, hm⟩ := k2; exact DataW.trod_lt m _ _ _ hm
  obtain ⟨a2, rfl, rfl, rfl, f2⟩ := open_int Try.underlying3 (hval 2 3 v2 rfl rfl) h2
  clear hA0 hval0
  refine (walk W A0 n0 c0 l0 hl0 hr0 A1 n1 c1 l1 hl1 hr1 a2).mono fun e W' ⟨he, bel⟩ => ?_
  subst he
  exact ⟨_, rfl, _, _, _, [], _, [], hW', trodAll_mk1 (shut_bool Try.underlying4 _), (trodAll_cons_mk (Below.trod laidOut (by kernel_rfl) (of_decide_eq_true (by kernel_rfl)) k0 bel lt0) (trodAll_cons_mk (Below.trod laidOut (by kernel_rfl) (of_decide_eq_true (by kernel_rfl)) k1 bel lt1) (trodAll_cons_mk (shut_int Try.underlying3 f2) trodAll_mk0))), rfl, bel.frame _, fun h => by cases h⟩
theorem over : Rows.headersSealedRow.holds Try.pinned (OpenSpec.ofChange Rows.headersSealedSpec) :=
  OpenClaim.holds_of_wide 5 Try.f5 rfl rfl rfl rfl rfl rfl rfl ⟨rfl, rfl, rfl, rfl, rfl⟩ rfl rfl rfl rfl rfl (by kernel_rfl) Try.func5 (by kernel_rfl)
    (of_decide_eq_true (by kernel_rfl)) (by unfold Func.isWrapper; first | (rw [if_pos (by decide +kernel)]; kernel_rfl) | (rw [if_neg (by decide +kernel)]; exact ⟨rfl, rfl⟩))
    (fun os started H enc _ => lifted os started H enc)
theorem proved : Rows.HeadersSealedSaid := over
end Go.Proofs.Ytcfkoglehjkkdaa.headersSealed

/- spaces: what a step of a walk does (WInt). -/
import Derived.Test.YtjolojomgfcfbaaDoorWKep
namespace Go.Proofs.YtjolojomgfcfbaaDoor
open Go.RowKit
section
variable {w : World} {g base q : Nat} {A : Option Addr} {cap : Nat} {ps : List Nat} {os : List Oj} {ad : Int} {s : Ws} {y : Ky} {a : Int}
set_option maxRecDepth 100000 in
set_option maxHeartbeats 4000000 in
theorem into_far (H : WkS w g base q A cap ps os ad s y a) (m : Nat) (hm : 0 < m) (hs : 14 ≤ s.left / m) :
    Calls Tryd.prog 56 #[.pointer (some ⟨g, 0, none⟩), .int .i64 (m : Int)] w fun e w' => e = .panicked (faP ⟨2, s.kp, ad⟩) ∧ Below w.heap.size w w' := by
  obtain ⟨c0, c1, c2, c3, c4, c5, c6, c7, c8, c9, c10, c11, c12, c13, c14, c15, c16, c17, c18, c19, c20, c21, c22, c23, c24⟩ := wk_cells H.blk
  have HS := Lib.hid H
  obtain ⟨n, hn⟩ : ∃ n, n = s.left := ⟨_, rfl⟩
  have hle := H.l0
  rw [← hn] at hle hs
  have HNL := Lib.hid hn
  obtain ⟨k, hk⟩ : ∃ k, k = n / m := ⟨_, rfl⟩
  obtain ⟨t, ht⟩ : ∃ t, t = n % m := ⟨_, rfl⟩
  have hkn : k ≤ n := by rw [hk]; exact Nat.div_le_self _ _
  have htn : t ≤ n := by rw [ht]; exact Nat.mod_le _ _
  have hq : (n : Int).tdiv (m : Int) = (k : Int) := by rw [Int.tdiv_eq_ediv_of_nonneg (by omega), hk]; exact (Int.natCast_ediv n m).symm
  have hr : (n : Int).tmod (m : Int) = (t : Int) := by rw [Int.tmod_eq_emod_of_nonneg (by omega), ht]; exact (Int.natCast_emod n m).symm
  have hm0 : ((m : Int) == 0) = false := by simp; omega
  have b0 : -9223372036854775808 ≤ (k : Int) := by omega
  have b1 : (k : Int) ≤ 9223372036854775807 := by omega
  have b2 : -9223372036854775808 ≤ (t : Int) := by omega
  have b3 : (t : Int) ≤ 9223372036854775807 := by omega
  rw [← hk] at hs
  have e0 : decide ((14 : Int) ≤ (k : Int)) = true := decide_eq_true (by omega)
  have e1 : decide (14 ≤ k) = true := decide_eq_true hs
  rw [← hn] at c8
  clear H hk ht hs hkn htn hle hn
  go_enter Tryd.func56, Tryd.ntmps56
  go_wp2_with (first
    | (go_at_call 26; refine (HS.out.fault 2).mono ?_; rintro e w1 ⟨rfl, b_⟩; have HB := Lib.hid b_; clear b_))
  exact ⟨rfl, rfl, HB.out⟩
set_option maxRecDepth 8000 in
theorem get_n (h : StAt w base q A cap ps os) (hn : 0 < os.length) (hT : Tab w) {x : Ky} {j : Nat} {u : Oj} (d : AskD os x j u) (k : Nat) (hk : k < 14) {gk : Ky} (hg : gotK os x (sl u k) = gk) :
    Calls Tryd.prog 58 #[pv q, x.val, .int .i64 (k : Int)] w fun e w' => e = .returned (.tuple #[gk.val, .int .i64 0]) ∧ Below w.heap.size w w' := by
  have := get_all h hn hT x (k : Int)
  unfold getA at this
  rw [if_pos d.is, if_pos (by omega), d.eq, Int.toNat_natCast, show (u.s[k]?).getD zk = sl u k from rfl, hg] at this
  exact this
set_option maxRecDepth 100000 in
set_option maxHeartbeats 4000000 in
theorem into_on (H : WkS w g base q A cap ps os ad s y a) {j : Nat} {u : Oj} (d : AskD os s.x j u) (m : Nat) (hm : 0 < m) (hs : ¬ 14 ≤ s.left / m) (hd : s.d < 8) :
    Calls Tryd.prog 56 #[.pointer (some ⟨g, 0, none⟩), .int .i64 (m : Int)] w fun e w' => e = .returned (.tuple #[]) ∧ WkS w' g base q A cap ps os ad ⟨gotK os s.x (sl u (s.left / m)), s.left % m, s.high, s.r, s.kp, s.d + 1⟩ y a ∧ Fr (fun k => k = g) w w' := by
  obtain ⟨c0, c1, c2, c3, c4, c5, c6, c7, c8, c9, c10, c11, c12, c13, c14, c15, c16, c17, c18, c19, c20, c21, c22, c23, c24⟩ := wk_cells H.blk
  have HS := Lib.hid H
  have HN := Lib.hid H.n
  have HD := Lib.hid d
  have HDD := Lib.hid hd
  obtain ⟨n, hn⟩ : ∃ n, n = s.left := ⟨_, rfl⟩
  have hle := H.l0
  rw [← hn] at hle hs
  have HNL := Lib.hid hn
  obtain ⟨k, hk⟩ : ∃ k, k = n / m := ⟨_, rfl⟩
  obtain ⟨t, ht⟩ : ∃ t, t = n % m := ⟨_, rfl⟩
  have hkn : k ≤ n := by rw [hk]; exact Nat.div_le_self _ _
  have htn : t ≤ n := by rw [ht]; exact Nat.mod_le _ _
  have hq : (n : Int).tdiv (m : Int) = (k : Int) := by rw [Int.tdiv_eq_ediv_of_nonneg (by omega), hk]; exact (Int.natCast_ediv n m).symm
  have hr : (n : Int).tmod (m : Int) = (t : Int) := by rw [Int.tmod_eq_emod_of_nonneg (by omega), ht]; exact (Int.natCast_emod n m).symm
  have hm0 : ((m : Int) == 0) = false := by simp; omega
  have b0 : -9223372036854775808 ≤ (k : Int) := by omega
  have b1 : (k : Int) ≤ 9223372036854775807 := by omega
  have b2 : -9223372036854775808 ≤ (t : Int) := by omega
  have b3 : (t : Int) ≤ 9223372036854775807 := by omega
  rw [← hk] at hs
  have e0 : decide ((14 : Int) ≤ (k : Int)) = false := decide_eq_false (by omega)
  have e1 : decide (14 ≤ k) = false := decide_eq_false hs
  have HK14 := Lib.hid (show k < 14 by omega)
  obtain ⟨gk, hgk⟩ : ∃ gk, gotK os s.x (sl u k) = gk := ⟨_, rfl⟩
  have HGK := Lib.hid hgk
  have HTE := Lib.hid ht
  have HKE := Lib.hid hk
  have HTN := Lib.hid htn
  have HLE := Lib.hid hle
  rw [← hn] at c8
  rw [← hn, ← hk, hgk, ← ht]
  clear H hk ht hs hkn htn hle hn d hgk hd
  go_enter Tryd.func56, Tryd.ntmps56
  go_wp2_with fail
  refine wp_region_only (S := fun W => W.cell? ⟨g, 0, none⟩ = some (pv q)) (by kernel_rfl) HS.out.drew.c0 (fun hHeld => ?_)
  refine wpAnyH_take (i := 0) (v := ?v44) rfl (by kernel_rfl) (by kernel_rfl) (by kernel_rfl) (fun _ _ _ h => h) (Or.inl ⟨by rfl, ?hy44⟩) hHeld ?rest44
  case hy44 =>
    intro w' hSw
    try dsimp only at hSw
    go_simp
    first | done | with_reducible rfl
  try simp only [Act.put, List.getElem_toArray, List.getElem_cons_zero, List.setIfInBounds_toArray, List.set_cons_zero, List.set_cons_succ]
  refine wpAnyH_take (i := 1) (v := ?v45) rfl (by kernel_rfl) (by kernel_rfl) (by kernel_rfl) (fun _ _ _ h => h) (Or.inl ⟨by rfl, ?hy45⟩) hHeld ?rest45
  case hy45 =>
    intro w' hSw
    try dsimp only at hSw
    go_simp
    first | done | with_reducible rfl
  try simp only [Act.put, List.getElem_toArray, List.getElem_cons_succ, List.getElem_cons_zero, List.setIfInBounds_toArray, List.set_cons_zero, List.set_cons_succ]
  refine wpAnyH_take (i := 2) (v := ?v46) rfl (by kernel_rfl) (by kernel_rfl) (by kernel_rfl) (fun _ _ _ h => h) (Or.inl ⟨by rfl, ?hy46⟩) hHeld ?rest46
  case hy46 =>
    intro w' hSw
    try dsimp only at hSw
    go_simp
    first | done | with_reducible rfl
  try simp only [Act.put, List.getElem_toArray, List.getElem_cons_succ, List.getElem_cons_zero, List.setIfInBounds_toArray, List.set_cons_zero, List.set_cons_succ]
  refine wpAnyH_take (i := 3) (v := ?v47) rfl (by kernel_rfl) (by kernel_rfl) (by kernel_rfl) (fun _ _ _ h => h) (Or.inl ⟨by rfl, ?hy47⟩) hHeld ?rest47
  case hy47 =>
    intro w' hSw
    try dsimp only at hSw
    go_simp
    first | done | with_reducible rfl
  try simp only [Act.put, List.getElem_toArray, List.getElem_cons_succ, List.getElem_cons_zero, List.setIfInBounds_toArray, List.set_cons_zero, List.set_cons_succ]
  refine wpAnyH_take (i := 4) rfl (by kernel_rfl) (by kernel_rfl) (by kernel_rfl) (fun _ _ _ h => h) (y_cell (by rfl) 35 (.tmp 19) (by rfl) g 0 (by rfl) (pv q) (ld_ptr g 0 q) (fun _ h => h)) hHeld ?_
  try simp only [Act.put, List.getElem_toArray, List.getElem_cons_succ, List.getElem_cons_zero, List.setIfInBounds_toArray, List.set_cons_zero, List.set_cons_succ]
  refine wpAnyH_take (i := 5) (v := ?v48) rfl (by kernel_rfl) (by kernel_rfl) (by kernel_rfl) (fun _ _ _ h => h) (Or.inl ⟨by rfl, ?hy48⟩) hHeld ?rest48
  case hy48 =>
    intro w' hSw
    try dsimp only at hSw
    go_simp
    first | done | with_reducible rfl
  try simp only [Act.put, List.getElem_toArray, List.getElem_cons_succ, List.getElem_cons_zero, List.setIfInBounds_toArray, List.set_cons_zero, List.set_cons_succ]
  refine wpAnyH_take (i := 6) (v := ?v49) rfl (by kernel_rfl) (by kernel_rfl) (by kernel_rfl) (fun _ _ _ h => h) (Or.inl ⟨by rfl, ?hy49⟩) hHeld ?rest49
  case hy49 =>
    intro w' hSw
    try dsimp only at hSw
    go_simp
    first | done | with_reducible rfl
  try simp only [Act.put, List.getElem_toArray, List.getElem_cons_succ, List.getElem_cons_zero, List.setIfInBounds_toArray, List.set_cons_zero, List.set_cons_succ]
  refine wpAnyH_take (i := 7) (v := ?v50) rfl (by kernel_rfl) (by kernel_rfl) (by kernel_rfl) (fun _ _ _ h => h) (Or.inl ⟨by rfl, ?hy50⟩) hHeld ?rest50
  case hy50 =>
    intro w' hSw
    try dsimp only at hSw
    go_simp
    first | done | with_reducible rfl
  try simp only [Act.put, List.getElem_toArray, List.getElem_cons_succ, List.getElem_cons_zero, List.setIfInBounds_toArray, List.set_cons_zero, List.set_cons_succ]
  refine wpAnyH_take (i := 9) (v := ?v51) rfl (by kernel_rfl) (by kernel_rfl) (by kernel_rfl) (fun _ _ _ h => h) (Or.inl ⟨by rfl, ?hy51⟩) hHeld ?rest51
  case hy51 =>
    intro w' hSw
    try dsimp only at hSw
    go_simp
    first | done | with_reducible rfl
  try simp only [Act.put, List.getElem_toArray, List.getElem_cons_succ, List.getElem_cons_zero, List.setIfInBounds_toArray, List.set_cons_zero, List.set_cons_succ]
  refine wpAnyH_ready (rs := [8]) (by kernel_rfl) (by simp) ?_
  refine AllReadyH.cons (by rfl) (fun K hK => ?_) AllReadyH.nil
  refine step_load_ky rfl (.tmp 23) (by rfl) (by rfl) s.x HS.out.drew.key ?_
  refine hK.out _ _ HS.out.drew.c0 (fun hHeld => ?_)
  clear hK K
  try simp only [Act.put, List.getElem_toArray, List.getElem_cons_succ, List.getElem_cons_zero, List.setIfInBounds_toArray, List.set_cons_zero, List.set_cons_succ]
  refine wpAnyH_ready (rs := [10]) (by kernel_rfl) (by simp) ?_
  refine AllReadyH.cons (by rfl) (fun K hK => ?_) AllReadyH.nil
  go_simp
  refine (get_n HS.out.drew.st HN.out HS.out.drew.tab HD.out k HK14.out HGK.out).mono ?_
  rintro e_ w1 ⟨rfl, bb⟩
  have HS1 := Lib.hid (HS.out.drew.below bb)
  have HB1 := Lib.hid (below_of_drew bb : Below w.heap.size w w1)
  clear bb hHeld
  go_wp2_with fail
  refine hK.out _ _ HS1.out.c0 (fun hHeld => ?_)
  clear hK K
  try simp only [Act.put, List.getElem_toArray, List.getElem_cons_succ, List.getElem_cons_zero, List.setIfInBounds_toArray, List.set_cons_zero, List.set_cons_succ]
  refine wpAnyH_take (i := 11) (v := ?v52) rfl (by kernel_rfl) (by kernel_rfl) (by kernel_rfl) (fun _ _ _ h => h) (Or.inl ⟨by rfl, ?hy52⟩) hHeld ?rest52
  case hy52 =>
    intro w' hSw
    try dsimp only at hSw
    go_simp
    first | done | with_reducible rfl
  try simp only [Act.put, List.getElem_toArray, List.getElem_cons_succ, List.getElem_cons_zero, List.setIfInBounds_toArray, List.set_cons_zero, List.set_cons_succ]
  refine wpAnyH_take (i := 12) (v := ?v53) rfl (by kernel_rfl) (by kernel_rfl) (by kernel_rfl) (fun _ _ _ h => h) (Or.inl ⟨by rfl, ?hy53⟩) hHeld ?rest53
  case hy53 =>
    intro w' hSw
    try dsimp only at hSw
    go_simp
    first | done | with_reducible rfl
  try simp only [Act.put, List.getElem_toArray, List.getElem_cons_succ, List.getElem_cons_zero, List.setIfInBounds_toArray, List.set_cons_zero, List.set_cons_succ]
  refine wpAnyH_take (i := 13) (v := ?v54) rfl (by kernel_rfl) (by kernel_rfl) (by kernel_rfl) (fun _ _ _ h => h) (Or.inl ⟨by rfl, ?hy54⟩) hHeld ?rest54
  case hy54 =>
    intro w' hSw
    try dsimp only at hSw
    go_simp
    first | done | with_reducible rfl
  try simp only [Act.put, List.getElem_toArray, List.getElem_cons_succ, List.getElem_cons_zero, List.setIfInBounds_toArray, List.set_cons_zero, List.set_cons_succ]
  refine wpAnyH_take (i := 14) (v := ?v55) rfl (by kernel_rfl) (by kernel_rfl) (by kernel_rfl) (fun _ _ _ h => h) (Or.inl ⟨by rfl, ?hy55⟩) hHeld ?rest55
  case hy55 =>
    intro w' hSw
    try dsimp only at hSw
    go_simp
    first | done | with_reducible rfl
  try simp only [Act.put, List.getElem_toArray, List.getElem_cons_succ, List.getElem_cons_zero, List.setIfInBounds_toArray, List.set_cons_zero, List.set_cons_succ]
  refine wpAnyH_take (i := 15) (v := ?v56) rfl (by kernel_rfl) (by kernel_rfl) (by kernel_rfl) (fun _ _ _ h => h) (Or.inl ⟨by rfl, ?hy56⟩) hHeld ?rest56
  case hy56 =>
    intro w' hSw
    try dsimp only at hSw
    go_simp
    first | done | with_reducible rfl
  try simp only [Act.put, List.getElem_toArray, List.getElem_cons_succ, List.getElem_cons_zero, List.setIfInBounds_toArray, List.set_cons_zero, List.set_cons_succ]
  refine wpAnyH_ready (rs := [16]) (by kernel_rfl) (by simp) ?_
  refine AllReadyH.cons (by rfl) (fun K hK => ?_) AllReadyH.nil
  refine step_store_in (l := kl gk) (off := 2) (ty := 29) (t := 55) (l1 := (wkc q ad gk s.left s.high s.r y a s.kp s.d).toList) HS1.out.blk rfl (.tmp 30) (.tmp 27) rfl (by rfl) (by rfl) size30 (show 2 + 6 ≤ 25 from by decide) (kl_one _) rfl ?_
  have HF2 := Lib.hid ((Fr.of_below HB1.out : Fr (fun k => k = g) w w1).trans (fr_row w1 g (wkc q ad gk s.left s.high s.r y a s.kp s.d)))
  have HS2 : Hid (WkS (w1.setRow g (wkc q ad gk s.left s.high s.r y a s.kp s.d)) g base q A cap ps os ad { s with x := gk } y a) := Lib.hid (HS1.out.chg (fr_row w1 g _) (HS1.out.blk.setRow _) HS1.out.r8 HS1.out.l0 HS1.out.d8)
  have HSX := Lib.hid (show (w1.setRow g (wkc q ad gk s.left s.high s.r y a s.kp s.d)).cell? ⟨g, 0, none⟩ = some (pv q) from HS2.out.c0)
  refine hK.out _ _ HSX.out (fun hHeld => ?_)
  clear hK K
  try simp only [Act.put, List.getElem_toArray, List.getElem_cons_succ, List.getElem_cons_zero]
  refine wpAnyH_done (by kernel_rfl) ?_ _
  refine OnlyN.normal ?_
  generalize hW2 : w1.setRow g (wkc q ad gk s.left s.high s.r y a s.kp s.d) = w2 at HS2 HF2 ⊢
  clear HSX hW2 c0 c1 c2 c3 c4 c5 c6 c7 c8 c9 c10 c11 c12 c13 c14 c15 c16 c17 c18 c19 c20 c21 c22 c23 c24
  obtain ⟨c0, c1, c2, c3, c4, c5, c6, c7, c8, c9, c10, c11, c12, c13, c14, c15, c16, c17, c18, c19, c20, c21, c22, c23, c24⟩ := wk_cells HS2.out.blk
  have hz8 := Blk.frozen HS2.out.blk 8
  have hz24 := Blk.frozen HS2.out.blk 24
  simp only [← HNL.out] at c8
  have hd1 : (s.d : Int) + 1 ≤ 9223372036854775807 := by have := HDD.out; omega
  have hd2 : -9223372036854775808 ≤ (s.d : Int) + 1 := by omega
  go_wp2_with fail
  go_end0
  have hb3 := (HS2.out.blk.set_ 8 (.int .i64 (t : Int))).set_ 24 (.int .i64 ((s.d : Int) + 1))
  have hf3 := (fr_set w2 g 8 (.int .i64 (t : Int))).trans (fr_set _ g 24 (.int .i64 ((s.d : Int) + 1)))
  exact ⟨rfl, HS2.out.chg (s' := ⟨gk, t, s.high, s.r, s.kp, s.d + 1⟩) hf3 hb3 HS2.out.r8 (by have := HTN.out; have := HLE.out; show t ≤ _; omega) (by have := HDD.out; show s.d + 1 ≤ 8; omega), HF2.out.trans hf3⟩
end
end Go.Proofs.YtjolojomgfcfbaaDoor

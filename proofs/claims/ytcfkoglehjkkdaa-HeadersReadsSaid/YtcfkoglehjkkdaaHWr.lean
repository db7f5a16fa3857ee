/- headers: Write of a header that may be, where the disk is of its plan's size. -/
import Derived.Test.YtcfkoglehjkkdaaHChk
import Derived.Test.YtcfkoglehjkkdaaHSec
namespace Go.Proofs.Ytcfkoglehjkkdaa
open Go.RowKit
attribute [local go_sem] Oper.semAt_some
set_option maxRecDepth 8000 in
theorem has_wv {p n : Nat} {pl : Pl} {v : Value} (h : v.ownBlock = pl.wv.ownBlock ∨ ∃ g, v.ownBlock = some g ∧ n ≤ g) : ∀ q, ({ pl with wv := v } : Pl).has p q → pl.has p q ∨ n ≤ q := by
  rintro q (hq | hq | hq | hq)
  · exact .inl (.inl hq)
  · exact .inl (.inr (.inl hq))
  · rcases h with e | ⟨g, e, hg⟩
    · exact .inl (.inr (.inr (.inl (e ▸ hq))))
    · rw [show v.ownBlock = some q from hq] at e
      cases e
      exact .inr hg
  · exact .inl (.inr (.inr (.inr hq)))
set_option maxRecDepth 100000 in
set_option maxHeartbeats 4000000 in
theorem hwrite_goes {w : World} {base p : Nat} {pl : Pl} {D : Dk} (hd : DiskAt w base p pl D) (hbase : base ≤ w.heap.size) (hN : D.waits.length ≤ 1000000) (n e a o : Nat) (hn : n < 2) (he : (e : Int) ≤ 9223372036854775807) (ha : a < 2) (ho : 1 ≤ o ∧ o ≤ 64) (hz : D.size = 20 + 3 * o) (hs : D.steps < 1000000) (hf : D.next = false) :
    Calls Try.prog 11 #[.pointer (some ⟨p, 0, none⟩), .int .i64 (n : Int), Hd.val ⟨e, a, o⟩] w fun r w' => r = .returned (.int .i64 0) ∧ ∃ v, DiskAt w' base p { pl with wv := v } (D.stepped.queued (n, hdS e a o)) ∧ Fr (pl.has p) w w' ∧ ∀ q, ({ pl with wv := v } : Pl).has p q → pl.has p q ∨ w.heap.size ≤ q := by
  have D0 := Lib.hid (hd.alloc (.cells (Hd.cs ⟨e, a, o⟩).toArray 28))
  have K0 := Lib.hid (Blk.new w 28 (Hd.cs ⟨e, a, o⟩).toArray)
  have F0 := Lib.hid ((Fr.refl (pl.has p) w).alloc (.cells (Hd.cs ⟨e, a, o⟩).toArray 28))
  have HB := Lib.hid (show base ≤ (w.alloc (.cells (Hd.cs ⟨e, a, o⟩).toArray 28)).heap.size by simp; omega)
  have HNO := Lib.hid (show Hd.no ⟨e, a, o⟩ = 0 by unfold Hd.no; rw [if_pos (by simp only; omega)])
  have HZ := Lib.hid hz
  have HBS := Lib.hid hbase
  have HN := Lib.hid hN
  have HS := Lib.hid hs
  have HF := Lib.hid hf
  have HE := Lib.hid he
  have HA := Lib.hid (show (a : Int) ≤ 65535 by omega)
  have HO := Lib.hid (show (o : Int) ≤ 65535 by omega)
  have HO2 := Lib.hid (show 1 ≤ (o : Int) ∧ (o : Int) ≤ 64 by omega)
  have hq : ((20 + 3 * (o : Int)) == (D.size : Int)) = true := beq_iff_eq.2 (by omega)
  have s0 : ((D.size : Int) == 0) = false := beq_eq_false_iff_ne.2 (by omega)
  have n0 : decide ((n : Int) < 0) = false := decide_eq_false (by omega)
  have n2 : decide (2 ≤ (n : Int)) = false := decide_eq_false (by omega)
  have n2' : decide (2 ≤ n) = false := decide_eq_false (by omega)
  have HN2 := Lib.hid (show n < D.size by omega)
  clear hd hbase hN hn he ha ho hz hs hf
  go_enter Try.func11, Try.ntmps11
  go_wp2_with (go_at_call 35; refine (size_at D0.out).mono ?_; rintro r w' ⟨rfl, rfl⟩)
  generalize w.alloc (.cells (Hd.cs ⟨e, a, o⟩).toArray 28) = W at D0 K0 F0 HB ⊢
  have K1 := Lib.hid (blk_drew K0.out)
  have D1 := Lib.hid D0.out.drew
  have F1 := Lib.hid F0.out.drew
  refine wp_region_only (S := fun w' => Blk w' w.heap.size 28 (Hd.cs ⟨e, a, o⟩).toArray) (by kernel_rfl) K1.out (fun hHeld => ?_)
  refine wpAnyH_take (i := 0) (v := ?v1) rfl (by kernel_rfl) (by kernel_rfl) (by kernel_rfl) (fun _ _ _ h => h) (Or.inl ⟨by rfl, ?hy1⟩) hHeld ?rest1
  case hy1 =>
    intro w' hSw
    try dsimp only at hSw
    go_simp
    first | done | with_reducible rfl
  try simp only [Act.put, List.getElem_toArray, List.getElem_cons_zero, List.setIfInBounds_toArray, List.set_cons_zero, List.set_cons_succ]
  refine wpAnyH_take (i := 1) (v := ?v2) rfl (by kernel_rfl) (by kernel_rfl) (by kernel_rfl) (fun _ _ _ h => h) (Or.inl ⟨by rfl, ?hy2⟩) hHeld ?rest2
  case hy2 =>
    intro w' hSw
    try dsimp only at hSw
    go_simp
    first | done | with_reducible rfl
  try simp only [Act.put, List.getElem_toArray, List.getElem_cons_succ, List.getElem_cons_zero, List.setIfInBounds_toArray, List.set_cons_zero, List.set_cons_succ]
  refine wpAnyH_take (i := 2) (v := ?v3) rfl (by kernel_rfl) (by kernel_rfl) (by kernel_rfl) (fun _ _ _ h => h) (Or.inl ⟨by rfl, ?hy3⟩) hHeld ?rest3
  case hy3 =>
    intro w' hSw
    try dsimp only at hSw
    go_simp
    first | done | with_reducible rfl
  try simp only [Act.put, List.getElem_toArray, List.getElem_cons_succ, List.getElem_cons_zero, List.setIfInBounds_toArray, List.set_cons_zero, List.set_cons_succ]
  refine wpAnyH_take (i := 3) (v := ?v4) rfl (by kernel_rfl) (by kernel_rfl) (by kernel_rfl) (fun _ _ _ h => h) (Or.inl ⟨by rfl, ?hy4⟩) hHeld ?rest4
  case hy4 =>
    intro w' hSw
    try dsimp only at hSw
    go_simp
    first | done | with_reducible rfl
  try simp only [Act.put, List.getElem_toArray, List.getElem_cons_succ, List.getElem_cons_zero, List.setIfInBounds_toArray, List.set_cons_zero, List.set_cons_succ]
  refine wpAnyH_take (i := 4) (v := ?v5) rfl (by kernel_rfl) (by kernel_rfl) (by kernel_rfl) (fun _ _ _ h => h) (Or.inl ⟨by rfl, ?hy5⟩) hHeld ?rest5
  case hy5 =>
    intro w' hSw
    try dsimp only at hSw
    go_simp
    first | done | with_reducible rfl
  try simp only [Act.put, List.getElem_toArray, List.getElem_cons_succ, List.getElem_cons_zero, List.setIfInBounds_toArray, List.set_cons_zero, List.set_cons_succ]
  refine wpAnyH_take (i := 5) (v := ?v6) rfl (by kernel_rfl) (by kernel_rfl) (by kernel_rfl) (fun _ _ _ h => h) (Or.inl ⟨by rfl, ?hy6⟩) hHeld ?rest6
  case hy6 =>
    intro w' hSw
    try dsimp only at hSw
    go_simp
    first | done | with_reducible rfl
  try simp only [Act.put, List.getElem_toArray, List.getElem_cons_succ, List.getElem_cons_zero, List.setIfInBounds_toArray, List.set_cons_zero, List.set_cons_succ]
  refine wpAnyH_take (i := 6) (v := ?v7) rfl (by kernel_rfl) (by kernel_rfl) (by kernel_rfl) (fun _ _ _ h => h) (Or.inl ⟨by rfl, ?hy7⟩) hHeld ?rest7
  case hy7 =>
    intro w' hSw
    try dsimp only at hSw
    go_simp
    first | done | with_reducible rfl
  try simp only [Act.put, List.getElem_toArray, List.getElem_cons_succ, List.getElem_cons_zero, List.setIfInBounds_toArray, List.set_cons_zero, List.set_cons_succ]
  refine wpAnyH_take (i := 7) rfl (by kernel_rfl) (by kernel_rfl) (by kernel_rfl) (fun _ _ _ h => h) (yieldsIf_load_mid (by rfl) 28 (.tmp 5) (by rfl) w.heap.size 0 (by rfl) (Hd.cs ⟨e, a, o⟩) _ (fun w' hSw => Blk.rangeAt (l := Hd.cs ⟨e, a, o⟩) hSw) Try.underlying28 rfl (size23 _)) hHeld ?_
  try simp only [Act.put, List.getElem_toArray, List.getElem_cons_succ, List.getElem_cons_zero, List.setIfInBounds_toArray, List.set_cons_zero, List.set_cons_succ]
  refine wpAnyH_ready (rs := [8]) (by kernel_rfl) (by simp) ?_
  refine AllReadyH.cons (by rfl) (fun K hK => ?_) AllReadyH.nil
  go_simp
  refine (check_any ⟨e, a, o⟩ _).mono ?_
  rw [HNO.out]
  rintro r W2 ⟨rfl, hb⟩
  have K2 := Lib.hid (K1.out.below hb K1.out.lt)
  have D2 := Lib.hid (D1.out.below hb)
  have F2 := Lib.hid (F1.out.below hb)
  clear hb hHeld
  refine hK.out _ _ K2.out (fun hHeld => ?_)
  clear hK K
  try simp only [Act.put, List.getElem_toArray, List.getElem_cons_succ, List.getElem_cons_zero, List.setIfInBounds_toArray, List.set_cons_zero, List.set_cons_succ]
  refine wpAnyH_take (i := 9) (v := ?v8) rfl (by kernel_rfl) (by kernel_rfl) (by kernel_rfl) (fun _ _ _ h => h) (Or.inl ⟨by rfl, ?hy8⟩) hHeld ?rest8
  case hy8 =>
    intro w' hSw
    try dsimp only at hSw
    go_simp
    first | done | with_reducible rfl
  try simp only [Act.put, List.getElem_toArray, List.getElem_cons_succ, List.getElem_cons_zero, List.setIfInBounds_toArray, List.set_cons_zero, List.set_cons_succ]
  refine wpAnyH_take (i := 10) (v := ?v9) rfl (by kernel_rfl) (by kernel_rfl) (by kernel_rfl) (fun _ _ _ h => h) (Or.inl ⟨by rfl, ?hy9⟩) hHeld ?rest9
  case hy9 =>
    intro w' hSw
    try dsimp only at hSw
    go_simp
    first | done | with_reducible rfl
  try simp only [Act.put, List.getElem_toArray, List.getElem_cons_succ, List.getElem_cons_zero, List.setIfInBounds_toArray, List.set_cons_zero, List.set_cons_succ]
  refine wpAnyH_take (i := 11) (v := ?v10) rfl (by kernel_rfl) (by kernel_rfl) (by kernel_rfl) (fun _ _ _ h => h) (Or.inl ⟨by rfl, ?hy10⟩) hHeld ?rest10
  case hy10 =>
    intro w' hSw
    try dsimp only at hSw
    go_simp
    first | done | with_reducible rfl
  try simp only [Act.put, List.getElem_toArray, List.getElem_cons_succ, List.getElem_cons_zero, List.setIfInBounds_toArray, List.set_cons_zero, List.set_cons_succ]
  refine wpAnyH_take (i := 12) rfl (by kernel_rfl) (by kernel_rfl) (by kernel_rfl) (fun _ _ _ h => h) (yieldsIf_load_mid (by rfl) 28 (.tmp 5) (by rfl) w.heap.size 0 (by rfl) (Hd.cs ⟨e, a, o⟩) _ (fun w' hSw => Blk.rangeAt (l := Hd.cs ⟨e, a, o⟩) hSw) Try.underlying28 rfl (size23 _)) hHeld ?_
  try simp only [Act.put, List.getElem_toArray, List.getElem_cons_succ, List.getElem_cons_zero, List.setIfInBounds_toArray, List.set_cons_zero, List.set_cons_succ]
  refine wpAnyH_take (i := 13) (v := ?v11) rfl (by kernel_rfl) (by kernel_rfl) (by kernel_rfl) (fun _ _ _ h => h) (Or.inl ⟨by rfl, ?hy11⟩) hHeld ?rest11
  case hy11 =>
    intro w' hSw
    try dsimp only at hSw
    go_simp
    first | done | with_reducible rfl
  try simp only [Act.put, List.getElem_toArray, List.getElem_cons_succ, List.getElem_cons_zero, List.setIfInBounds_toArray, List.set_cons_zero, List.set_cons_succ]
  refine wpAnyH_ready (rs := [14]) (by kernel_rfl) (by simp) ?_
  refine AllReadyH.cons (by rfl) (fun K hK => ?_) AllReadyH.nil
  go_simp
  refine (size_at D2.out).mono ?_
  rintro r w' ⟨rfl, rfl⟩
  clear hHeld
  refine hK.out _ _ K2.out (fun hHeld => ?_)
  clear hK K
  try simp only [Act.put, List.getElem_toArray, List.getElem_cons_succ, List.getElem_cons_zero, List.setIfInBounds_toArray, List.set_cons_zero, List.set_cons_succ]
  refine wpAnyH_ready (rs := [15]) (by kernel_rfl) (by simp) ?_
  refine AllReadyH.cons (by rfl) (fun K hK => ?_) AllReadyH.nil
  go_simp
  refine (fits_any ⟨e, a, o⟩ HO2.out _ _).mono ?_
  rintro r W3 ⟨rfl, hb⟩
  have K3 := Lib.hid (K2.out.below hb K2.out.lt)
  have D3 := Lib.hid (D2.out.below hb)
  have F3 := Lib.hid (F2.out.below hb)
  clear hb hHeld
  refine hK.out _ _ K3.out (fun hHeld => ?_)
  clear hK K
  try dsimp only
  refine wpAnyH_take (i := 16) (v := ?v12) rfl (by kernel_rfl) (by kernel_rfl) (by kernel_rfl) (fun _ _ _ h => h) (Or.inl ⟨by rfl, ?hy12⟩) hHeld ?rest12
  case hy12 =>
    intro w' hSw
    try dsimp only at hSw
    go_simp
    first | done | with_reducible rfl
  try simp only [Act.put, List.getElem_toArray, List.getElem_cons_succ, List.getElem_cons_zero, List.setIfInBounds_toArray, List.set_cons_zero, List.set_cons_succ]
  refine wpAnyH_take (i := 17) (v := ?v13) rfl (by kernel_rfl) (by kernel_rfl) (by kernel_rfl) (fun _ _ _ h => h) (Or.inl ⟨by rfl, ?hy13⟩) hHeld ?rest13
  case hy13 =>
    intro w' hSw
    try dsimp only at hSw
    go_simp
    first | done | with_reducible rfl
  try simp only [Act.put, List.getElem_toArray, List.getElem_cons_succ, List.getElem_cons_zero, List.setIfInBounds_toArray, List.set_cons_zero, List.set_cons_succ]
  refine wpAnyH_done (by kernel_rfl) ?_ _
  refine OnlyN.normal ?_
  clear hHeld K0 D0 F0 K1 D1 F1 K2 D2 F2
  go_wp2_with (first
    | (refine wpList_load_mid rfl 28 (.tmp 5) rfl w.heap.size 0 rfl (Hd.cs ⟨e, a, o⟩) _ (Blk.rangeAt (l := Hd.cs ⟨e, a, o⟩) K3.out) Try.underlying28 rfl (size23 _) ?_)
    | (go_at_call 38; refine (sector_any e a o HE.out HA.out HO.out _).mono ?_; rintro r W4 ⟨rfl, hb⟩; have D4 := Lib.hid (D3.out.below hb); have F4 := Lib.hid (F3.out.below hb); clear hb)
    | (go_at_call 37; refine (write_goes D4.out (Nat.le_trans HBS.out F4.out.size) HN.out n (hdS e a o) (hdS_length _ _ _) HN2.out HS.out HF.out).mono ?_; rintro r W5 ⟨rfl, v, hd5, f5, hv⟩; have D5 := Lib.hid hd5; have F5 := Lib.hid (F4.out.trans f5); have V5 := Lib.hid (has_wv (p := p) (hv.imp id (fun ⟨g, h1, h2⟩ => ⟨g, h1, Nat.le_trans F4.out.size h2⟩))); clear hd5 f5 hv))
  go_ret
  exact ⟨rfl, _, D5.out, F5.out, V5.out⟩
end Go.Proofs.Ytcfkoglehjkkdaa

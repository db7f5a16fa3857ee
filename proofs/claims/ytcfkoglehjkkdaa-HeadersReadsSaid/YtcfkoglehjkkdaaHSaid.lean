/- headers: said, of a header that may be. -/
import Derived.Test.YtcfkoglehjkkdaaHCut
import Derived.Test.YtcfkoglehjkkdaaHChk
import Derived.Test.YtcfkoglehjkkdaaHEq
namespace Go.Proofs.Ytcfkoglehjkkdaa
open Go.RowKit
attribute [local go_sem] Oper.semAt_some
set_option maxRecDepth 8000 in
theorem results_hd {fn : Func} {p q : Tmp} (h : fn.results = #[.cell p 28, .tmp q]) (tmps : Array Value) (w : World) (g : Nat) (u : Hd) (hp : tmps.getD p undef = .pointer (some ⟨g, 0, none⟩)) (hg : Blk w g 28 u.cs.toArray) : (results fn tmps).run Try.prog w = .ok (.tuple #[u.val, tmps.getD q undef]) w := by
  have hp' : tmps[p]?.getD undef = .pointer (some ⟨g, 0, none⟩) := by simpa using hp
  have hl := run_loadVar_row (P := Try.prog) w g 28 28 u.cs.toArray (0, 0) _ hg Try.underlying28 rfl (by kernel_rfl)
  simp [results, h, hp', asAddr, hl]
set_option maxRecDepth 8000 in
theorem get_num (N k : Nat) (g : Int) (hg : S.greatestN k = some g) (h1 : (N : Int) ≤ g) (A : Option Addr) (c : Nat) (w : World) (hr : Rd w A (S.bytesLE k N)) :
    Calls Try.prog 87 #[.slice A k c] w fun r w' => r = .returned (.tuple #[.int .i64 (N : Int), .int .i64 0]) ∧ Below w.heap.size w w' := by
  have hN : N < 256 ^ k := by
    obtain ⟨k', hk, _, hl, _⟩ := S.greatestN_some hg
    have : k' = k := by omega
    subst this
    have h2 : (N : Int) < 256 ^ k' := by omega
    exact_mod_cast h2
  refine (S.get_some A k c (S.bytesLE k N) g w (S.bytesLE_length _ _) hr hg).mono ?_
  rw [S.numLE_bytesLE k N hN, if_pos h1]
  exact fun _ _ h => h
set_option maxRecDepth 8000 in
theorem one23 (u : Hd) : (u.cs.toArray).all (fun x => x.oneCell') = true := by simp [Value.oneCell']
set_option maxRecDepth 100000 in
set_option maxHeartbeats 4000000 in
theorem said_yes {w : World} (g c e a o : Nat) (hc : 508 ≤ c) (hr : Rd w (some ⟨g, 0, none⟩) (hdL e a o)) (he : (e : Int) ≤ 9223372036854775807) (ha : (a : Int) ≤ 65535) (ho : (o : Int) ≤ 65535) (hok : Hd.no ⟨e, a, o⟩ = 0) :
    Calls Try.prog 68 #[.slice (some ⟨g, 0, none⟩) 508 c] w fun r w' => r = .returned (.tuple #[Hd.val ⟨e, a, o⟩, .int .i64 0]) ∧ Below w.heap.size w w' := by
  have hz := z23
  have HE := Lib.hid he
  have HA := Lib.hid ha
  have HO := Lib.hid ho
  have HK := Lib.hid hok
  have R0 := Lib.hid (hr.alloc (.cells (Hd.cs ⟨0, 0, 0⟩).toArray 28))
  have B0 := Lib.hid (Blk.new w 28 (Hd.cs ⟨0, 0, 0⟩).toArray)
  have L0 := Lib.hid ((Below.refl w.heap.size w).alloc (Nat.le_refl _) (.cells (Hd.cs ⟨0, 0, 0⟩).toArray 28))
  have c4 : 4 ≤ c := by omega
  have c12 : 12 ≤ c := by omega
  have c14 : 14 ≤ c := by omega
  have c16 : 16 ≤ c := by omega
  have e1 : (c = 4) = False := eq_false (by omega)
  clear hr he ha ho hok
  go_enter Try.func68, Try.ntmps68
  go_wp2_with fail
  refine (get_num e 8 9223372036854775807 rfl HE.out (some ⟨g, 4, none⟩) (c - 4) _ (by have := (R0.out.drop 4).take 8; rw [hd_cut4, Nat.zero_add] at this; exact this)).mono ?_
  rintro r W1 ⟨rfl, hb⟩
  have R1 := Lib.hid (R0.out.below hb)
  have B1 := Lib.hid (B0.out.below hb B0.out.lt)
  have L1 := Lib.hid (L0.out.trans (hb.mono L0.out.size))
  clear hb R0 B0 L0
  go_wp2_with fail
  refine (get_num a 2 65535 rfl HA.out (some ⟨g, 12, none⟩) (c - 12) _ (by have := (R1.out.drop 12).take 2; rw [hd_cut12, Nat.zero_add] at this; exact this)).mono ?_
  rintro r W2 ⟨rfl, hb⟩
  have R2 := Lib.hid (R1.out.below hb)
  have B2 := Lib.hid (B1.out.below hb B1.out.lt)
  have L2 := Lib.hid (L1.out.trans (hb.mono L1.out.size))
  clear hb R1 B1 L1
  go_wp2_with fail
  refine (get_num o 2 65535 rfl HO.out (some ⟨g, 14, none⟩) (c - 14) _ (by have := (R2.out.drop 14).take 2; rw [hd_cut14, Nat.zero_add] at this; exact this)).mono ?_
  rintro r W3 ⟨rfl, hb⟩
  have B3 := Lib.hid (B2.out.below hb B2.out.lt)
  have L3 := Lib.hid (L2.out.trans (hb.mono L2.out.size))
  clear hb R2 B2 L2
  have N4 := Lib.hid (blk_drew (Blk.new W3 28 (Hd.cs ⟨e, a, o⟩).toArray))
  have B4 := Lib.hid (blk_drew (B3.out.alloc (.cells (Hd.cs ⟨e, a, o⟩).toArray 28)))
  have L4 := Lib.hid ((L3.out.alloc L3.out.size (.cells (Hd.cs ⟨e, a, o⟩).toArray 28)).drew)
  have SZ := Lib.hid (show w.heap.size < W3.heap.size from B3.out.lt)
  clear B3 L3
  go_wp2_with fail
  refine wp_region_only (S := fun w' => Blk w' W3.heap.size 28 (Hd.cs ⟨e, a, o⟩).toArray) (by kernel_rfl) N4.out (fun hHeld => ?_)
  refine wpAnyH_take (i := 0) rfl (by kernel_rfl) (by kernel_rfl) (by kernel_rfl) (fun _ _ _ h => h) (yieldsIf_load_mid (by rfl) 28 (.tmp 10) (by rfl) W3.heap.size 0 (by rfl) (Hd.cs ⟨e, a, o⟩) _ (fun w' hSw => Blk.rangeAt (l := (Hd.cs ⟨e, a, o⟩)) hSw) Try.underlying28 rfl (size23 _)) hHeld ?_
  try simp only [Act.put, List.getElem_toArray, List.getElem_cons_zero, List.setIfInBounds_toArray, List.set_cons_zero, List.set_cons_succ]
  refine wpAnyH_take (i := 1) rfl (by kernel_rfl) (by kernel_rfl) (by kernel_rfl) (fun _ _ _ h => h) (yieldsIf_load_mid (by rfl) 28 (.tmp 10) (by rfl) W3.heap.size 0 (by rfl) (Hd.cs ⟨e, a, o⟩) _ (fun w' hSw => Blk.rangeAt (l := (Hd.cs ⟨e, a, o⟩)) hSw) Try.underlying28 rfl (size23 _)) hHeld ?_
  try simp only [Act.put, List.getElem_toArray, List.getElem_cons_succ, List.getElem_cons_zero, List.setIfInBounds_toArray, List.set_cons_zero, List.set_cons_succ]
  refine wpAnyH_ready (rs := [2]) (by kernel_rfl) (by simp) ?_
  refine AllReadyH.cons (by rfl) (fun K hK => ?_) AllReadyH.nil
  go_simp
  refine (check_any ⟨e, a, o⟩ _).mono ?_
  rw [HK.out]
  rintro r W5 ⟨rfl, hb⟩
  have N5 := Lib.hid (N4.out.below hb N4.out.lt)
  have B5 := Lib.hid (B4.out.below hb B4.out.lt)
  have L5 := Lib.hid (L4.out.trans (hb.mono L4.out.size))
  clear hb hHeld
  refine hK.out _ _ N5.out (fun hHeld => ?_)
  clear hK K
  try simp only [Act.put, List.getElem_toArray, List.getElem_cons_succ, List.getElem_cons_zero, List.setIfInBounds_toArray, List.set_cons_zero, List.set_cons_succ]
  refine wpAnyH_ready (rs := [3]) (by kernel_rfl) (by simp) ?_
  refine AllReadyH.cons (by rfl) (fun K hK => ?_) AllReadyH.nil
  refine step_store8 rfl 28 (.tmp 2) (.tmp 37) rfl (by rfl) (Hd.cs ⟨e, a, o⟩).toArray (Hd.cs ⟨0, 0, 0⟩).toArray 28 (by rfl) B5.out (by kernel_rfl) rfl (one23 _) ?_
  intro W6 j6 f6
  have B6 := Lib.hid j6
  have N6 := Lib.hid (f6.keepBlk N5.out (by have := SZ.out; omega))
  have L6 := Lib.hid (L5.out.trans (f6.to_below (fun k e => by omega) L5.out.size))
  clear hHeld j6 f6 N5 B5 L5
  refine hK.out _ _ N6.out (fun hHeld => ?_)
  clear hK K
  try simp only [Act.put, List.getElem_toArray, List.getElem_cons_succ, List.getElem_cons_zero]
  refine wpAnyH_take (i := 4) (v := ?v1) rfl (by kernel_rfl) (by kernel_rfl) (by kernel_rfl) (fun _ _ _ h => h) (Or.inl ⟨by rfl, ?hy1⟩) hHeld ?rest1
  case hy1 =>
    intro w' hSw
    try dsimp only at hSw
    go_simp
    first | done | with_reducible rfl
  try simp only [Act.put, List.getElem_toArray, List.getElem_cons_succ, List.getElem_cons_zero, List.setIfInBounds_toArray, List.set_cons_zero, List.set_cons_succ]
  refine wpAnyH_done (by kernel_rfl) ?_ _
  refine OnlyN.normal ?_
  clear hHeld
  go_wp2_with fail
  exact bodyPost_ret (results_hd rfl _ _ w.heap.size ⟨e, a, o⟩ rfl B6.out) rfl ⟨rfl, L6.out⟩
end Go.Proofs.Ytcfkoglehjkkdaa

/- spaces: what a step of a walk does (WPag). -/
import Derived.Test.YtjolojomgfcfbaaDoorWKep
namespace Go.Proofs.YtjolojomgfcfbaaDoor
open Go.RowKit
section
variable {w : World} {g base q : Nat} {A : Option Addr} {cap : Nat} {ps : List Nat} {os : List Oj} {ad : Int} {s : Ws} {y : Ky} {a : Int}
set_option maxRecDepth 8000 in
theorem pgK_less {x : Ky} (hk : x.k = 3) (hok : x.ok) (r q2 : Nat) (hr : r < 8) (hq : q2 = if r / 2 % 2 = 1 then r ||| 1 else r) (hq8 : q2 < 8) (W : World) (hT : Tab W) :
    Calls Tryd.prog 57 #[x.val, .int .i64 (q2 : Int)] W fun e w' => e = .returned (.tuple #[(pgK x r).val, .int .i64 0]) ∧ Below W.heap.size W w' := by
  obtain ⟨_, n, hn, hm, hn8⟩ := ok_of hok
  rw [hk] at hm
  have hn1 : n ≤ 1 := hm
  have key : ∀ r, r < 8 → ∀ n, n ≤ 1 → lsN n (if r / 2 % 2 = 1 then r ||| 1 else r) 1 = if r % 4 = 0 then n else 1 := by decide
  have hkey := key r hr n hn1
  rw [← hq] at hkey
  obtain ⟨k, o, c, l, r', v⟩ := x
  simp only at hn hk
  subst hn hk
  have h1 := lesss_ok 3 o c l v n q2 W hT hok hn8 hq8
  rw [show rm 3 = 1 from rfl, hkey] at h1
  unfold pgK
  split
  · next h4 => rw [if_pos h4] at h1; exact h1
  · next h4 => rw [if_neg h4] at h1; exact h1
set_option maxRecDepth 100000 in
set_option maxHeartbeats 4000000 in
theorem page_far (H : WkS w g base q A cap ps os ad s y a) (hs : 64 ≤ s.left) :
    Calls Tryd.prog 50 #[.pointer (some ⟨g, 0, none⟩)] w fun e w' => e = .panicked (faP ⟨2, s.kp, ad⟩) ∧ Below w.heap.size w w' := by
  obtain ⟨c0, c1, c2, c3, c4, c5, c6, c7, c8, c9, c10, c11, c12, c13, c14, c15, c16, c17, c18, c19, c20, c21, c22, c23, c24⟩ := wk_cells H.blk
  have HS := Lib.hid H
  obtain ⟨n, hn⟩ : ∃ n, n = s.left := ⟨_, rfl⟩
  rw [← hn] at c8 hs
  have e0 : decide ((64 : Int) ≤ (n : Int)) = true := decide_eq_true (by omega)
  have e1 : decide (64 ≤ n) = true := decide_eq_true hs
  clear H hs hn
  go_enter Tryd.func50, Tryd.ntmps50
  go_wp2_with (first
    | (go_at_call 26; refine (HS.out.fault 2).mono ?_; rintro e w1 ⟨rfl, b_⟩; have HB := Lib.hid b_; clear b_))
  exact ⟨rfl, rfl, HB.out⟩
set_option maxRecDepth 100000 in
set_option maxHeartbeats 4000000 in
theorem page_on0 (H : WkS w g base q A cap ps os ad s y a) (hk : s.x.k = 3) (hok : s.x.ok) (hs : ¬ 64 ≤ s.left) (hw : s.r / 2 % 2 = 0) :
    Calls Tryd.prog 50 #[.pointer (some ⟨g, 0, none⟩)] w fun e w' => e = .returned (.bool true) ∧ WkS w' g base q A cap ps os ad s (pgK s.x s.r) (s.left : Int) ∧ Fr (fun k => k = g) w w' := by
  obtain ⟨c0, c1, c2, c3, c4, c5, c6, c7, c8, c9, c10, c11, c12, c13, c14, c15, c16, c17, c18, c19, c20, c21, c22, c23, c24⟩ := wk_cells H.blk
  have HS := Lib.hid H
  obtain ⟨pk, hpk⟩ : ∃ pk, pk = pgK s.x s.r := ⟨_, rfl⟩
  have hLS := fun (W : World) (hT : Tab W) => pgK_less hk hok s.r s.r H.r8 (by rw [if_neg (by omega)]) H.r8 W hT
  rw [← hpk] at hLS ⊢
  have HLS := Lib.hid hLS
  have ha := and2 s.r (rfl : (s.r : Int) = s.r) H.r8
  rw [hw] at ha
  obtain ⟨n, hn⟩ : ∃ n, n = s.left := ⟨_, rfl⟩
  rw [← hn] at c8 hs
  have HNL := Lib.hid hn
  have e0 : decide ((64 : Int) ≤ (n : Int)) = false := decide_eq_false (by omega)
  have e1 : decide (64 ≤ n) = false := decide_eq_false hs
  clear H hs hn hk hok hw hpk hLS
  go_enter Tryd.func50, Tryd.ntmps50
  go_wp2_with (first
    | (go_at_call 57; refine (HLS.out _ HS.out.tab).mono ?_; rintro e w1 ⟨rfl, b_⟩; have HB1 := Lib.hid b_; have HS1 := Lib.hid (HS.out.below b_); clear b_ c0 c1 c2 c3 c4 c5 c6 c7 c8 c9 c10 c11 c12 c13 c14 c15 c16 c17 c18 c19 c20 c21 c22 c23 c24)
    | (show wpList _ _ _ ({ dst := none, op := .store _ (.tmp 32) (.tmp 28), type := _, pos := _, after := _, guard := _ } :: _) _ _; refine wpList_store_in (l := kl pk) (off := 11) (ty := 29) (t := 55) (l1 := (wkc q ad s.x s.left s.high s.r pk a s.kp s.d).toList) HS1.out.blk rfl (.tmp 32) (.tmp 28) rfl (by rfl) (by rfl) size30 (show 11 + 6 ≤ 25 from by decide) (kl_one _) rfl ?_; have HF2 := Lib.hid ((Fr.of_below HB1.out : Fr (fun k => k = g) w w1).trans (fr_row w1 g (wkc q ad s.x s.left s.high s.r pk a s.kp s.d))); have HS2 : Hid (WkS (w1.setRow g (wkc q ad s.x s.left s.high s.r pk a s.kp s.d)) g base q A cap ps os ad s pk a) := Lib.hid (HS1.out.chg (fr_row w1 g _) (HS1.out.blk.setRow _) HS1.out.r8 HS1.out.l0 HS1.out.d8); generalize w1.setRow g (wkc q ad s.x s.left s.high s.r pk a s.kp s.d) = w2 at HS2 HF2 ⊢; obtain ⟨c0, c1, c2, c3, c4, c5, c6, c7, c8, c9, c10, c11, c12, c13, c14, c15, c16, c17, c18, c19, c20, c21, c22, c23, c24⟩ := wk_cells HS2.out.blk; rw [← HNL.out] at c8; have hz17 := Blk.frozen HS2.out.blk 17))
  go_ret
  have hb3 := HS2.out.blk.set_ 17 (.int .i64 (n : Int))
  have hf3 := fr_set w2 g 17 (.int .i64 (n : Int))
  rw [← HNL.out]
  exact ⟨rfl, HS2.out.chg (s' := s) (a' := (n : Int)) hf3 (by rw [HNL.out] at hb3 ⊢; exact hb3) HS2.out.r8 HS2.out.l0 HS2.out.d8, HF2.out.trans hf3⟩
set_option maxRecDepth 100000 in
set_option maxHeartbeats 4000000 in
theorem page_on1 (H : WkS w g base q A cap ps os ad s y a) (hk : s.x.k = 3) (hok : s.x.ok) (hs : ¬ 64 ≤ s.left) (hw : s.r / 2 % 2 = 1) :
    Calls Tryd.prog 50 #[.pointer (some ⟨g, 0, none⟩)] w fun e w' => e = .returned (.bool true) ∧ WkS w' g base q A cap ps os ad s (pgK s.x s.r) (s.left : Int) ∧ Fr (fun k => k = g) w w' := by
  obtain ⟨c0, c1, c2, c3, c4, c5, c6, c7, c8, c9, c10, c11, c12, c13, c14, c15, c16, c17, c18, c19, c20, c21, c22, c23, c24⟩ := wk_cells H.blk
  have HS := Lib.hid H
  obtain ⟨pk, hpk⟩ : ∃ pk, pk = pgK s.x s.r := ⟨_, rfl⟩
  have hLS := fun (W : World) (hT : Tab W) => pgK_less hk hok s.r (s.r ||| 1) H.r8 (by rw [if_pos hw]) (or8 H.r8 (by decide)) W hT
  rw [← hpk] at hLS ⊢
  have HLS := Lib.hid hLS
  have ha := and2 s.r (rfl : (s.r : Int) = s.r) H.r8
  rw [hw] at ha
  have hor : bits .or .i64 (s.r : Int) 1 = ((s.r ||| 1 : Nat) : Int) := bor8 H.r8 (by decide)
  obtain ⟨n, hn⟩ : ∃ n, n = s.left := ⟨_, rfl⟩
  rw [← hn] at c8 hs
  have HNL := Lib.hid hn
  have e0 : decide ((64 : Int) ≤ (n : Int)) = false := decide_eq_false (by omega)
  have e1 : decide (64 ≤ n) = false := decide_eq_false hs
  clear H hs hn hk hok hw hpk hLS
  go_enter Tryd.func50, Tryd.ntmps50
  go_wp2_with (first
    | (go_at_call 57; refine (HLS.out _ HS.out.tab).mono ?_; rintro e w1 ⟨rfl, b_⟩; have HB1 := Lib.hid b_; have HS1 := Lib.hid (HS.out.below b_); clear b_ c0 c1 c2 c3 c4 c5 c6 c7 c8 c9 c10 c11 c12 c13 c14 c15 c16 c17 c18 c19 c20 c21 c22 c23 c24)
    | (show wpList _ _ _ ({ dst := none, op := .store _ (.tmp 32) (.tmp 28), type := _, pos := _, after := _, guard := _ } :: _) _ _; refine wpList_store_in (l := kl pk) (off := 11) (ty := 29) (t := 55) (l1 := (wkc q ad s.x s.left s.high s.r pk a s.kp s.d).toList) HS1.out.blk rfl (.tmp 32) (.tmp 28) rfl (by rfl) (by rfl) size30 (show 11 + 6 ≤ 25 from by decide) (kl_one _) rfl ?_; have HF2 := Lib.hid ((Fr.of_below HB1.out : Fr (fun k => k = g) w w1).trans (fr_row w1 g (wkc q ad s.x s.left s.high s.r pk a s.kp s.d))); have HS2 : Hid (WkS (w1.setRow g (wkc q ad s.x s.left s.high s.r pk a s.kp s.d)) g base q A cap ps os ad s pk a) := Lib.hid (HS1.out.chg (fr_row w1 g _) (HS1.out.blk.setRow _) HS1.out.r8 HS1.out.l0 HS1.out.d8); generalize w1.setRow g (wkc q ad s.x s.left s.high s.r pk a s.kp s.d) = w2 at HS2 HF2 ⊢; obtain ⟨c0, c1, c2, c3, c4, c5, c6, c7, c8, c9, c10, c11, c12, c13, c14, c15, c16, c17, c18, c19, c20, c21, c22, c23, c24⟩ := wk_cells HS2.out.blk; rw [← HNL.out] at c8; have hz17 := Blk.frozen HS2.out.blk 17))
  go_ret
  have hb3 := HS2.out.blk.set_ 17 (.int .i64 (n : Int))
  have hf3 := fr_set w2 g 17 (.int .i64 (n : Int))
  rw [← HNL.out]
  exact ⟨rfl, HS2.out.chg (s' := s) (a' := (n : Int)) hf3 (by rw [HNL.out] at hb3 ⊢; exact hb3) HS2.out.r8 HS2.out.l0 HS2.out.d8, HF2.out.trans hf3⟩
set_option maxRecDepth 8000 in
theorem page_any (H : WkS w g base q A cap ps os ad s y a) (hk : s.x.k = 3) (hok : s.x.ok) (hs : ¬ 64 ≤ s.left) :
    Calls Tryd.prog 50 #[.pointer (some ⟨g, 0, none⟩)] w fun e w' => e = .returned (.bool true) ∧ WkS w' g base q A cap ps os ad s (pgK s.x s.r) (s.left : Int) ∧ Fr (fun k => k = g) w w' := by
  by_cases hw : s.r / 2 % 2 = 1
  · exact page_on1 H hk hok hs hw
  · exact page_on0 H hk hok hs (by omega)
end
end Go.Proofs.YtjolojomgfcfbaaDoor

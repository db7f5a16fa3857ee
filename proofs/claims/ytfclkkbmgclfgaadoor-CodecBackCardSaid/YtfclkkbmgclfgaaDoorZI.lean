/- codec: GetKey. -/
import Derived.Test.YtfclkkbmgclfgaaDoorZE
import Derived.Test.YtfclkkbmgclfgaaDoorCL
namespace Go.Proofs.YtfclkkbmgclfgaaDoor
open Go.RowKit
set_option maxRecDepth 8000 in
theorem size25 : (Tryd.prog.info? 26).map (·.size) = some 6 := by kernel_rfl
set_option maxRecDepth 8000 in
theorem kl_all (x : Ky) : (kl x).toArray.all (·.oneCell') = true := by
  refine all_oneCell_toArray fun u h => ?_
  simp only [kl, List.mem_cons, List.not_mem_nil, or_false] at h
  rcases h with rfl | rfl | rfl | rfl | rfl | rfl <;> rfl
theorem load_key {w : World} {g : Nat} {t : TypeId} (x : Ky) (h : Blk w g t (kl x).toArray) : (loadVar 26 ⟨g, 0, none⟩).run Tryd.prog w = .ok x.val w :=
  run_loadVar_row w g t 26 (kl x).toArray (0, 0) _ h Tryd.underlying26 rfl size25
theorem below_lt {S : Nat → Prop} {B : Nat} {a b : World} (h : Fr S a b) (hB : B ≤ a.heap.size) (hk : ∀ j, S j → B ≤ j) : Below B a b := fr_below h hB (fun j hj hs => by have := hk j hs; omega)
theorem Blk.new_of (w : World) (t : TypeId) (cs : Array Value) {g : Nat} (h : g = w.heap.size) : Blk (w.alloc (.cells cs t)) g t cs := h ▸ Blk.new w t cs
def good (l : List UInt8) : Prop := l.length = 20 ∧ (kof l).ok
set_option maxRecDepth 8000 in
set_option maxHeartbeats 800000 in
theorem getkey1_short (P s : Nat) (A : Option Addr) (c : Nat) (l : List UInt8) (w : World) (hT : Tab w) (hP : Blk w P 31 #[.slice A l.length c]) (hc : l.length ≤ c) (hr : Rd w A l) (hs : ∀ a, A = some a → 0 < l.length → a.block = s) (hsl : s < w.heap.size) (h : l.length < 20) :
    Calls Tryd.prog 16 #[.pointer (some ⟨P, 0, none⟩)] w fun e w' => e = .panicked (erc 151) ∧ Below w.heap.size w w' := by
  have hc0 := slice_cell P _ _ (Blk.alloc (Blk.alloc hP (.cells #[.int .i64 0, .int .i64 0, .int .i64 0, .int .i64 0, .int .i64 0, .int .i64 0] 26)) (.cells #[.int .i64 0, .int .i64 0, .int .i64 0, .int .i64 0, .int .i64 0, .int .i64 0] 26))
  have HT := Lib.hid hT
  have HR := Lib.hid hr
  have HS := Lib.hid hs
  have HC := Lib.hid hc
  have HH := Lib.hid h
  clear hT hr hs hP h
  go_enter Tryd.func16, Tryd.ntmps16
  go_wp2_with fail
  obtain ⟨W, hWd⟩ : ∃ W, W = ((w.alloc (.cells #[.int .i64 0, .int .i64 0, .int .i64 0, .int .i64 0, .int .i64 0, .int .i64 0] 26)).alloc (.cells #[.int .i64 0, .int .i64 0, .int .i64 0, .int .i64 0, .int .i64 0, .int .i64 0] 26)).alloc (.cells #[.slice A l.length c] 63) := ⟨_, rfl⟩
  have hb0 : Below w.heap.size w W := by rw [hWd]; exact (((Below.refl w.heap.size w).alloc (Nat.le_refl _) _).alloc (by simp) _).alloc (by simp; omega) _
  have hR : Blk W w.heap.size 26 (kl zk).toArray := by rw [hWd]; exact ((Blk.new w 26 (kl zk).toArray).alloc _).alloc _
  have hK : Blk W (w.heap.size + 1) 26 (kl zk).toArray := by rw [hWd]; exact Blk.alloc (Blk.new_of (w.alloc (.cells #[.int .i64 0, .int .i64 0, .int .i64 0, .int .i64 0, .int .i64 0, .int .i64 0] 26)) 26 (kl zk).toArray (by simp)) _
  have hG : Blk W (w.heap.size + 1 + 1) 63 #[.slice A l.length c] := by rw [hWd]; exact Blk.new_of ((w.alloc (.cells #[.int .i64 0, .int .i64 0, .int .i64 0, .int .i64 0, .int .i64 0, .int .i64 0] 26)).alloc (.cells #[.int .i64 0, .int .i64 0, .int .i64 0, .int .i64 0, .int .i64 0, .int .i64 0] 26)) 63 #[.slice A l.length c] (by simp)
  have hsz : W.heap.size = w.heap.size + 3 := by rw [hWd]; simp
  rw [← hWd]
  clear hWd hc0
  obtain ⟨r, hr'⟩ : ∃ r, r = w.heap.size + 1 + 1 := ⟨_, rfl⟩
  obtain ⟨q, hq'⟩ : ∃ q, q = w.heap.size + 1 := ⟨_, rfl⟩
  obtain ⟨p, hp'⟩ : ∃ p, p = w.heap.size := ⟨_, rfl⟩
  rw [← hr'] at hG ⊢
  rw [← hq'] at hK ⊢
  rw [← hp'] at hR ⊢
  have hne : p ≠ q ∧ p ≠ r ∧ q ≠ r ∧ s ≠ p ∧ s ≠ q ∧ s ≠ r := by omega
  have hge : w.heap.size ≤ p ∧ w.heap.size ≤ q ∧ w.heap.size ≤ r ∧ s < W.heap.size ∧ p < W.heap.size := by omega
  clear hr' hq' hp' hsz
  have GE := Lib.hid hge
  have NE := Lib.hid hne
  obtain ⟨n1, n2, n3, n4, n5, n6⟩ := hne
  have HD := Lib.hid (show RdAt W r s l from ⟨⟨A, c, hG, HC.out, HR.out.below hb0, HS.out⟩, fun e => n6 e.symm, hge.2.2.2.1⟩)
  have B0 := Lib.hid hb0
  have K0 := Lib.hid hK
  have R0 := Lib.hid hR
  clear hb0 hK hR hG hge
  have _r0 := R0.out
  go_wp2_with (go_at_call 14; refine (passKey_no r s q 0 26 l [] [] _ HD.out rfl K0.out HH.out n3 (fun e => n5 e.symm)).mono ?_; rintro e w1 ⟨rfl, hf⟩)
  exact ⟨rfl, rfl, B0.out.trans (below_lt hf B0.out.size (fun j hj => by have := GE.out; omega))⟩
set_option maxRecDepth 8000 in
set_option maxHeartbeats 800000 in
theorem getkey1_long (P s : Nat) (A : Option Addr) (c : Nat) (l : List UInt8) (w : World) (hT : Tab w) (hP : Blk w P 31 #[.slice A l.length c]) (hc : l.length ≤ c) (hr : Rd w A l) (hs : ∀ a, A = some a → 0 < l.length → a.block = s) (hsl : s < w.heap.size) (h : 20 < l.length) :
    Calls Tryd.prog 16 #[.pointer (some ⟨P, 0, none⟩)] w fun e w' => e = .panicked (erc 151) ∧ Below w.heap.size w w' := by
  have hc0 := slice_cell P _ _ (Blk.alloc (Blk.alloc hP (.cells #[.int .i64 0, .int .i64 0, .int .i64 0, .int .i64 0, .int .i64 0, .int .i64 0] 26)) (.cells #[.int .i64 0, .int .i64 0, .int .i64 0, .int .i64 0, .int .i64 0, .int .i64 0] 26))
  have HT := Lib.hid hT
  have HR := Lib.hid hr
  have HS := Lib.hid hs
  have HC := Lib.hid hc
  have HH := Lib.hid h
  clear hT hr hs hP h
  go_enter Tryd.func16, Tryd.ntmps16
  go_wp2_with fail
  obtain ⟨W, hWd⟩ : ∃ W, W = ((w.alloc (.cells #[.int .i64 0, .int .i64 0, .int .i64 0, .int .i64 0, .int .i64 0, .int .i64 0] 26)).alloc (.cells #[.int .i64 0, .int .i64 0, .int .i64 0, .int .i64 0, .int .i64 0, .int .i64 0] 26)).alloc (.cells #[.slice A l.length c] 63) := ⟨_, rfl⟩
  have hb0 : Below w.heap.size w W := by rw [hWd]; exact (((Below.refl w.heap.size w).alloc (Nat.le_refl _) _).alloc (by simp) _).alloc (by simp; omega) _
  have hR : Blk W w.heap.size 26 (kl zk).toArray := by rw [hWd]; exact ((Blk.new w 26 (kl zk).toArray).alloc _).alloc _
  have hK : Blk W (w.heap.size + 1) 26 (kl zk).toArray := by rw [hWd]; exact Blk.alloc (Blk.new_of (w.alloc (.cells #[.int .i64 0, .int .i64 0, .int .i64 0, .int .i64 0, .int .i64 0, .int .i64 0] 26)) 26 (kl zk).toArray (by simp)) _
  have hG : Blk W (w.heap.size + 1 + 1) 63 #[.slice A l.length c] := by rw [hWd]; exact Blk.new_of ((w.alloc (.cells #[.int .i64 0, .int .i64 0, .int .i64 0, .int .i64 0, .int .i64 0, .int .i64 0] 26)).alloc (.cells #[.int .i64 0, .int .i64 0, .int .i64 0, .int .i64 0, .int .i64 0, .int .i64 0] 26)) 63 #[.slice A l.length c] (by simp)
  have hsz : W.heap.size = w.heap.size + 3 := by rw [hWd]; simp
  rw [← hWd]
  clear hWd hc0
  obtain ⟨r, hr'⟩ : ∃ r, r = w.heap.size + 1 + 1 := ⟨_, rfl⟩
  obtain ⟨q, hq'⟩ : ∃ q, q = w.heap.size + 1 := ⟨_, rfl⟩
  obtain ⟨p, hp'⟩ : ∃ p, p = w.heap.size := ⟨_, rfl⟩
  rw [← hr'] at hG ⊢
  rw [← hq'] at hK ⊢
  rw [← hp'] at hR ⊢
  have hne : p ≠ q ∧ p ≠ r ∧ q ≠ r ∧ s ≠ p ∧ s ≠ q ∧ s ≠ r := by omega
  have hge : w.heap.size ≤ p ∧ w.heap.size ≤ q ∧ w.heap.size ≤ r ∧ s < W.heap.size ∧ p < W.heap.size := by omega
  clear hr' hq' hp' hsz
  have GE := Lib.hid hge
  have NE := Lib.hid hne
  obtain ⟨n1, n2, n3, n4, n5, n6⟩ := hne
  have HD := Lib.hid (show RdAt W r s l from ⟨⟨A, c, hG, HC.out, HR.out.below hb0, HS.out⟩, fun e => n6 e.symm, hge.2.2.2.1⟩)
  have B0 := Lib.hid hb0
  have K0 := Lib.hid hK
  have R0 := Lib.hid hR
  clear hb0 hK hR hG hge
  obtain ⟨m, hm⟩ : ∃ m, m = (l.drop 20).length := ⟨_, rfl⟩
  have hm0 : (0 : Int) < (m : Int) := by have := HH.out; rw [hm, List.length_drop]; omega
  have HM := Lib.hid hm
  clear hm
  go_wp2_with (go_at_call 14; refine (passKey_r r s q 0 26 l [] [] _ HD.out rfl K0.out (by have := HH.out; omega) n3 (fun e => n5 e.symm)).mono ?_; rintro e w1 ⟨rfl, h1, h2, h3⟩; obtain ⟨A1, c1, hb1, -, -, -⟩ := h1.at_; have hcell := slice_cell _ _ _ hb1; have B1 := Lib.hid (B0.out.trans (below_lt h3 B0.out.size (fun j hj => by have := GE.out; omega))); have R1 := Lib.hid ((h3.block p (by have := GE.out; omega) (by rintro (h | h) <;> omega)).trans R0.out); have K1 := Lib.hid h2; obtain ⟨c0, c1', c2, c3, c4, c5⟩ := Blk.six h2; rw [← HM.out] at hcell; clear h1 h2 h3 hb1)
  have _x := R1.out
  exact ⟨rfl, rfl, B1.out⟩
set_option maxRecDepth 8000 in
set_option maxHeartbeats 800000 in
theorem getkey1_bad (P s : Nat) (A : Option Addr) (c : Nat) (l : List UInt8) (w : World) (hT : Tab w) (hP : Blk w P 31 #[.slice A l.length c]) (hc : l.length ≤ c) (hr : Rd w A l) (hs : ∀ a, A = some a → 0 < l.length → a.block = s) (hsl : s < w.heap.size) (h : l.length = 20) (hx : ¬ (kof l).ok) :
    Calls Tryd.prog 16 #[.pointer (some ⟨P, 0, none⟩)] w fun e w' => e = .panicked (erc 151) ∧ Below w.heap.size w w' := by
  have hc0 := slice_cell P _ _ (Blk.alloc (Blk.alloc hP (.cells #[.int .i64 0, .int .i64 0, .int .i64 0, .int .i64 0, .int .i64 0, .int .i64 0] 26)) (.cells #[.int .i64 0, .int .i64 0, .int .i64 0, .int .i64 0, .int .i64 0, .int .i64 0] 26))
  have HT := Lib.hid hT
  have HR := Lib.hid hr
  have HS := Lib.hid hs
  have HC := Lib.hid hc
  have HH := Lib.hid h
  clear hT hr hs hP h
  go_enter Tryd.func16, Tryd.ntmps16
  go_wp2_with fail
  obtain ⟨W, hWd⟩ : ∃ W, W = ((w.alloc (.cells #[.int .i64 0, .int .i64 0, .int .i64 0, .int .i64 0, .int .i64 0, .int .i64 0] 26)).alloc (.cells #[.int .i64 0, .int .i64 0, .int .i64 0, .int .i64 0, .int .i64 0, .int .i64 0] 26)).alloc (.cells #[.slice A l.length c] 63) := ⟨_, rfl⟩
  have hb0 : Below w.heap.size w W := by rw [hWd]; exact (((Below.refl w.heap.size w).alloc (Nat.le_refl _) _).alloc (by simp) _).alloc (by simp; omega) _
  have hR : Blk W w.heap.size 26 (kl zk).toArray := by rw [hWd]; exact ((Blk.new w 26 (kl zk).toArray).alloc _).alloc _
  have hK : Blk W (w.heap.size + 1) 26 (kl zk).toArray := by rw [hWd]; exact Blk.alloc (Blk.new_of (w.alloc (.cells #[.int .i64 0, .int .i64 0, .int .i64 0, .int .i64 0, .int .i64 0, .int .i64 0] 26)) 26 (kl zk).toArray (by simp)) _
  have hG : Blk W (w.heap.size + 1 + 1) 63 #[.slice A l.length c] := by rw [hWd]; exact Blk.new_of ((w.alloc (.cells #[.int .i64 0, .int .i64 0, .int .i64 0, .int .i64 0, .int .i64 0, .int .i64 0] 26)).alloc (.cells #[.int .i64 0, .int .i64 0, .int .i64 0, .int .i64 0, .int .i64 0, .int .i64 0] 26)) 63 #[.slice A l.length c] (by simp)
  have hsz : W.heap.size = w.heap.size + 3 := by rw [hWd]; simp
  rw [← hWd]
  clear hWd hc0
  obtain ⟨r, hr'⟩ : ∃ r, r = w.heap.size + 1 + 1 := ⟨_, rfl⟩
  obtain ⟨q, hq'⟩ : ∃ q, q = w.heap.size + 1 := ⟨_, rfl⟩
  obtain ⟨p, hp'⟩ : ∃ p, p = w.heap.size := ⟨_, rfl⟩
  rw [← hr'] at hG ⊢
  rw [← hq'] at hK ⊢
  rw [← hp'] at hR ⊢
  have hne : p ≠ q ∧ p ≠ r ∧ q ≠ r ∧ s ≠ p ∧ s ≠ q ∧ s ≠ r := by omega
  have hge : w.heap.size ≤ p ∧ w.heap.size ≤ q ∧ w.heap.size ≤ r ∧ s < W.heap.size ∧ p < W.heap.size := by omega
  clear hr' hq' hp' hsz
  have GE := Lib.hid hge
  have NE := Lib.hid hne
  obtain ⟨n1, n2, n3, n4, n5, n6⟩ := hne
  have HD := Lib.hid (show RdAt W r s l from ⟨⟨A, c, hG, HC.out, HR.out.below hb0, HS.out⟩, fun e => n6 e.symm, hge.2.2.2.1⟩)
  have B0 := Lib.hid hb0
  have K0 := Lib.hid hK
  have R0 := Lib.hid hR
  clear hb0 hK hR hG hge
  have HX := Lib.hid ((kof l).chk_no hx)
  have HM := Lib.hid (show (l.drop 20).length = 0 by have := HH.out; rw [List.length_drop]; omega)
  clear hx
  go_wp2_with (first
    | (go_at_call 14; refine (passKey_r r s q 0 26 l [] [] _ HD.out rfl K0.out (by have := HH.out; omega) n3 (fun e => n5 e.symm)).mono ?_; rintro e w1 ⟨rfl, h1, h2, h3⟩; obtain ⟨A1, c1, hb1, -, -, -⟩ := h1.at_; have hcell := slice_cell _ _ _ hb1; have B1 := Lib.hid (B0.out.trans (below_lt h3 B0.out.size (fun j hj => by have := GE.out; omega))); have R1 := Lib.hid ((h3.block p (by have := GE.out; omega) (by rintro (h | h) <;> omega)).trans R0.out); have K1 := Lib.hid h2; obtain ⟨c0, c1', c2, c3, c4, c5⟩ := Blk.six h2; rw [HM.out] at hcell; clear h1 h2 h3 hb1)
    | (go_at_call 13; refine (kchk_any (kof l) _ (HT.out.below B1.out)).mono ?_; rw [HX.out]; rintro e w2 ⟨rfl, hb⟩; have B2 := Lib.hid (B1.out.trans (hb.mono B1.out.size)); have R2 := Lib.hid (Blk.keep R1.out hb); have K2 := Lib.hid (Blk.keep K1.out hb); clear hb c0 c1' c2 c3 c4 c5 hcell)
    | (go_at_call 12; refine (must_no 2 151 (by decide) _).mono ?_; rintro e w3 ⟨rfl, rfl⟩))
  exact ⟨rfl, rfl, B2.out⟩
set_option maxRecDepth 8000 in
set_option maxHeartbeats 800000 in
theorem getkey1_yes (P s : Nat) (A : Option Addr) (c : Nat) (l : List UInt8) (w : World) (hT : Tab w) (hP : Blk w P 31 #[.slice A l.length c]) (hc : l.length ≤ c) (hr : Rd w A l) (hs : ∀ a, A = some a → 0 < l.length → a.block = s) (hsl : s < w.heap.size) (h : l.length = 20) (hx : (kof l).ok) :
    Calls Tryd.prog 16 #[.pointer (some ⟨P, 0, none⟩)] w fun e w' => e = .returned (kof l).val ∧ Below w.heap.size w w' := by
  have hc0 := slice_cell P _ _ (Blk.alloc (Blk.alloc hP (.cells #[.int .i64 0, .int .i64 0, .int .i64 0, .int .i64 0, .int .i64 0, .int .i64 0] 26)) (.cells #[.int .i64 0, .int .i64 0, .int .i64 0, .int .i64 0, .int .i64 0, .int .i64 0] 26))
  have HT := Lib.hid hT
  have HR := Lib.hid hr
  have HS := Lib.hid hs
  have HC := Lib.hid hc
  have HH := Lib.hid h
  clear hT hr hs hP h
  go_enter Tryd.func16, Tryd.ntmps16
  go_wp2_with fail
  obtain ⟨W, hWd⟩ : ∃ W, W = ((w.alloc (.cells #[.int .i64 0, .int .i64 0, .int .i64 0, .int .i64 0, .int .i64 0, .int .i64 0] 26)).alloc (.cells #[.int .i64 0, .int .i64 0, .int .i64 0, .int .i64 0, .int .i64 0, .int .i64 0] 26)).alloc (.cells #[.slice A l.length c] 63) := ⟨_, rfl⟩
  have hb0 : Below w.heap.size w W := by rw [hWd]; exact (((Below.refl w.heap.size w).alloc (Nat.le_refl _) _).alloc (by simp) _).alloc (by simp; omega) _
  have hR : Blk W w.heap.size 26 (kl zk).toArray := by rw [hWd]; exact ((Blk.new w 26 (kl zk).toArray).alloc _).alloc _
  have hK : Blk W (w.heap.size + 1) 26 (kl zk).toArray := by rw [hWd]; exact Blk.alloc (Blk.new_of (w.alloc (.cells #[.int .i64 0, .int .i64 0, .int .i64 0, .int .i64 0, .int .i64 0, .int .i64 0] 26)) 26 (kl zk).toArray (by simp)) _
  have hG : Blk W (w.heap.size + 1 + 1) 63 #[.slice A l.length c] := by rw [hWd]; exact Blk.new_of ((w.alloc (.cells #[.int .i64 0, .int .i64 0, .int .i64 0, .int .i64 0, .int .i64 0, .int .i64 0] 26)).alloc (.cells #[.int .i64 0, .int .i64 0, .int .i64 0, .int .i64 0, .int .i64 0, .int .i64 0] 26)) 63 #[.slice A l.length c] (by simp)
  have hsz : W.heap.size = w.heap.size + 3 := by rw [hWd]; simp
  rw [← hWd]
  clear hWd hc0
  obtain ⟨r, hr'⟩ : ∃ r, r = w.heap.size + 1 + 1 := ⟨_, rfl⟩
  obtain ⟨q, hq'⟩ : ∃ q, q = w.heap.size + 1 := ⟨_, rfl⟩
  obtain ⟨p, hp'⟩ : ∃ p, p = w.heap.size := ⟨_, rfl⟩
  rw [← hr'] at hG ⊢
  rw [← hq'] at hK ⊢
  rw [← hp'] at hR ⊢
  have hne : p ≠ q ∧ p ≠ r ∧ q ≠ r ∧ s ≠ p ∧ s ≠ q ∧ s ≠ r := by omega
  have hge : w.heap.size ≤ p ∧ w.heap.size ≤ q ∧ w.heap.size ≤ r ∧ s < W.heap.size ∧ p < W.heap.size := by omega
  clear hr' hq' hp' hsz
  have GE := Lib.hid hge
  have NE := Lib.hid hne
  obtain ⟨n1, n2, n3, n4, n5, n6⟩ := hne
  have HD := Lib.hid (show RdAt W r s l from ⟨⟨A, c, hG, HC.out, HR.out.below hb0, HS.out⟩, fun e => n6 e.symm, hge.2.2.2.1⟩)
  have B0 := Lib.hid hb0
  have K0 := Lib.hid hK
  have R0 := Lib.hid hR
  clear hb0 hK hR hG hge
  have HX := Lib.hid ((kof l).chk_yes hx)
  have HM := Lib.hid (show (l.drop 20).length = 0 by have := HH.out; rw [List.length_drop]; omega)
  clear hx
  go_wp2_with (first
    | (go_at_call 14; refine (passKey_r r s q 0 26 l [] [] _ HD.out rfl K0.out (by have := HH.out; omega) n3 (fun e => n5 e.symm)).mono ?_; rintro e w1 ⟨rfl, h1, h2, h3⟩; obtain ⟨A1, c1, hb1, -, -, -⟩ := h1.at_; have hcell := slice_cell _ _ _ hb1; have B1 := Lib.hid (B0.out.trans (below_lt h3 B0.out.size (fun j hj => by have := GE.out; omega))); have R1 := Lib.hid ((h3.block p (by have := GE.out; omega) (by rintro (h | h) <;> omega)).trans R0.out); have K1 := Lib.hid h2; obtain ⟨c0, c1', c2, c3, c4, c5⟩ := Blk.six h2; rw [HM.out] at hcell; clear h1 h2 h3 hb1)
    | (go_at_call 13; refine (kchk_any (kof l) _ (HT.out.below B1.out)).mono ?_; rw [HX.out]; rintro e w2 ⟨rfl, hb⟩; have B2 := Lib.hid (B1.out.trans (hb.mono B1.out.size)); have R2 := Lib.hid (Blk.keep R1.out hb); have K2 := Lib.hid (Blk.keep K1.out hb); clear hb c0 c1' c2 c3 c4 c5 hcell)
    | (go_at_call 12; refine (must_ok 151 _).mono ?_; rintro e w3 ⟨rfl, rfl⟩; obtain ⟨c0, c1', c2, c3, c4, c5⟩ := Blk.six K2.out)
    | (refine wpList_store_row rfl 26 (.tmp 1) (.tmp 22) rfl p (kl (kof l)).toArray rfl rfl 26 (kl zk).toArray R2.out size25 rfl (kl_all _) ?_))
  have h4 := setRow_heap w2 p (kl zk).toArray (kl (kof l)).toArray 26 (0, 0) R2.out
  have h5 : Below w.heap.size w (w2.setRow p (kl (kof l)).toArray) := B2.out.trans (below_lt (setRow_fr w2 p _) B2.out.size (fun j hj => by have := GE.out; omega))
  exact bodyPost_ret (res_1 rfl _ _ p _ rfl (load_key (kof l) h4)) rfl ⟨rfl, h5⟩
end Go.Proofs.YtfclkkbmgclfgaaDoor
namespace Go.Proofs.YtfclkkbmgclfgaaDoor
open Go.RowKit
theorem Blk.row_far {w : World} {b g : Nat} {t : TypeId} {cs : Array Value} (h : Blk w g t cs) (hne : g ≠ b) (c : Array Value) : Blk (w.setRow b c) g t cs := (setRow_other w b g c hne).trans h
set_option maxRecDepth 8000 in
theorem load_err {w : World} {g : Nat} {t : TypeId} (n : Int) (h : Blk w g t #[.int .i64 n]) : (loadVar 38 ⟨g, 0, none⟩).run Tryd.prog w = .ok (.int .i64 n) w := by
  have hc : w.cell? ⟨g, 0, none⟩ = some (.int .i64 n) := by simpa using h.cell 0
  simp [go_sem, hc]
set_option maxRecDepth 8000 in
set_option maxHeartbeats 400000 in
theorem facedk_no (P : Nat) (n : Int) (w : World) (hcl : ∀ W, Below w.heap.size w W → Calls Tryd.prog 16 #[.pointer (some ⟨P, 0, none⟩)] W fun e w' => e = .panicked (erc n) ∧ Below W.heap.size W w') :
    Calls Tryd.prog 15 #[(.func (.func 16) #[] #[.pointer (some ⟨P, 0, none⟩)])] w fun e w' => e = .returned (.tuple #[zk.val, .int .i64 n]) ∧ Below w.heap.size w w' := by
  have hmf : ∀ (fn : Fn) (first cap : Array Value) (w : World), (Instr.makeFunc fn first cap).run Tryd.prog w = .ok (.func fn first cap) w := fun _ _ _ _ => rfl
  have HZ := Lib.hid (Blk.alloc (Blk.new w 26 (kl zk).toArray) (.cells #[.int .i64 0] 38))
  have HE := Lib.hid (Blk.new_of (w.alloc (.cells (kl zk).toArray 26)) 38 #[.int .i64 0] (g := w.heap.size + 1) (by simp))
  have HB := Lib.hid (((Below.refl w.heap.size w).alloc (Nat.le_refl _) (.cells (kl zk).toArray 26)).alloc (by simp) (.cells #[.int .i64 0] 38))
  have HC := Lib.hid hcl
  clear hcl
  go_enter_defers Tryd.func15, Tryd.ntmps15
  go_wp2_with (go_at_call 16; refine (HC.out _ HB.out).mono ?_; rintro e w1 ⟨rfl, hb⟩; have Z1 := Lib.hid (Blk.keep HZ.out hb); have E1 := Lib.hid (Blk.keep HE.out hb); have B1 := Lib.hid (HB.out.trans (hb.mono HB.out.size)); clear hb)
  have hc : w1.cell? ⟨w.heap.size + 1, 0, none⟩ = some (.int .i64 0) := by simpa using Blk.cell E1.out 0
  have hz := Blk.frozen E1.out 0
  refine leaves_cons (f := 30) (args := #[.pointer (some ⟨w.heap.size + 1, 0, none⟩)]) (by simp) (by simp [go_sem]) ?_
  refine (catch_k ⟨w.heap.size + 1, 0, none⟩ 0 n [] _ hc hz).mono ?_
  rintro e u' w'' ⟨rfl, rfl, rfl⟩
  have hl1 := load_key zk ((Blk.far Z1.out (p := ⟨w.heap.size + 1, 0, none⟩) (by show w.heap.size ≠ w.heap.size + 1; omega) (.int .i64 n)))
  have hl2 := load_err n (Blk.set_ E1.out 0 (.int .i64 n))
  change Leaves _ _ _ _ [] FrameMode.returning _
  exact ⟨_, res_2 rfl _ _ w.heap.size (w.heap.size + 1) _ _ rfl rfl hl1 hl2, rfl, B1.out.setCell (by show w.heap.size ≤ w.heap.size + 1; omega) _⟩
set_option maxRecDepth 8000 in
set_option maxHeartbeats 400000 in
theorem facedk_yes (P : Nat) (x : Ky) (w : World) (hcl : ∀ W, Below w.heap.size w W → Calls Tryd.prog 16 #[.pointer (some ⟨P, 0, none⟩)] W fun e w' => e = .returned x.val ∧ Below W.heap.size W w') :
    Calls Tryd.prog 15 #[(.func (.func 16) #[] #[.pointer (some ⟨P, 0, none⟩)])] w fun e w' => e = .returned (.tuple #[x.val, .int .i64 0]) ∧ Below w.heap.size w w' := by
  have hmf : ∀ (fn : Fn) (first cap : Array Value) (w : World), (Instr.makeFunc fn first cap).run Tryd.prog w = .ok (.func fn first cap) w := fun _ _ _ _ => rfl
  have HZ := Lib.hid (Blk.alloc (Blk.new w 26 (kl zk).toArray) (.cells #[.int .i64 0] 38))
  have HE := Lib.hid (Blk.new_of (w.alloc (.cells (kl zk).toArray 26)) 38 #[.int .i64 0] (g := w.heap.size + 1) (by simp))
  have HB := Lib.hid (((Below.refl w.heap.size w).alloc (Nat.le_refl _) (.cells (kl zk).toArray 26)).alloc (by simp) (.cells #[.int .i64 0] 38))
  have HC := Lib.hid hcl
  clear hcl
  go_enter_defers Tryd.func15, Tryd.ntmps15
  go_wp2_with (first
    | (go_at_call 16; refine (HC.out _ HB.out).mono ?_; rintro e w1 ⟨rfl, hb⟩; have Z1 := Lib.hid (Blk.keep HZ.out hb); have E1 := Lib.hid (Blk.keep HE.out hb); have B1 := Lib.hid (HB.out.trans (hb.mono HB.out.size)); have E2 := Lib.hid (Blk.row_far E1.out (show w.heap.size + 1 ≠ w.heap.size by omega) (kl x).toArray); have hc : (w1.setRow w.heap.size (kl x).toArray).cell? ⟨w.heap.size + 1, 0, none⟩ = some (.int .i64 0) := (by simpa using Blk.cell E2.out 0); have hz := Blk.frozen E2.out 0; clear hb)
    | (refine wpList_store_row rfl 26 (.tmp 2) (.tmp 6) rfl w.heap.size (kl x).toArray rfl rfl 26 (kl zk).toArray Z1.out size25 rfl (kl_all _) ?_))
  have Z2 := setRow_heap w1 w.heap.size (kl zk).toArray (kl x).toArray 26 (0, 0) Z1.out
  have E3 := Blk.set_ E2.out 0 (.int .i64 0)
  refine leaves_cons (f := 30) (args := #[.pointer (some ⟨w.heap.size + 1, 0, none⟩)]) (by simp) (by simp [go_sem]) ?_
  refine (idle_k ⟨w.heap.size + 1, 0, none⟩ _).mono ?_
  rintro e u' w'' ⟨rfl, rfl, rfl⟩
  have hl1 := load_key x ((Blk.far Z2 (p := ⟨w.heap.size + 1, 0, none⟩) (by show w.heap.size ≠ w.heap.size + 1; omega) (.int .i64 0)))
  have hl2 := load_err 0 E3
  change Leaves _ _ _ _ [] FrameMode.returning _
  exact ⟨_, res_2 rfl _ _ w.heap.size (w.heap.size + 1) _ _ rfl rfl hl1 hl2, rfl, (B1.out.trans (below_lt (setRow_fr w1 w.heap.size _) B1.out.size (fun j hj => by omega))).setCell (by show w.heap.size ≤ w.heap.size + 1; omega) _⟩
end Go.Proofs.YtfclkkbmgclfgaaDoor
namespace Go.Proofs.YtfclkkbmgclfgaaDoor
open Go.RowKit
set_option maxRecDepth 8000 in
theorem src_of {w : World} {A : Option Addr} {l : List UInt8} (hT : Tab w) (h : Rd w A l) : ∃ s, s < w.heap.size ∧ ∀ a, A = some a → 0 < l.length → a.block = s := by
  by_cases h0 : 0 < l.length
  · obtain ⟨a, rfl, ha⟩ := h.blk_lt h0
    exact ⟨a.block, ha, fun b e _ => by injection e with e; rw [e]⟩
  · exact ⟨_, hT.lt, fun _ _ h => absurd h h0⟩
set_option maxRecDepth 8000 in
theorem bytes_good {l : List UInt8} (h : ¬ good l) : l.length < 20 ∨ 20 < l.length ∨ (l.length = 20 ∧ ¬ (kof l).ok) := by
  unfold good at h
  by_cases h1 : l.length = 20
  · exact .inr (.inr ⟨h1, fun hk => h ⟨h1, hk⟩⟩)
  · omega
set_option maxRecDepth 8000 in
theorem getkey1_no (P s : Nat) (A : Option Addr) (c : Nat) (l : List UInt8) (w : World) (hT : Tab w) (hP : Blk w P 31 #[.slice A l.length c]) (hc : l.length ≤ c) (hr : Rd w A l) (hs : ∀ a, A = some a → 0 < l.length → a.block = s) (hsl : s < w.heap.size) (h : ¬ good l) :
    Calls Tryd.prog 16 #[.pointer (some ⟨P, 0, none⟩)] w fun e w' => e = .panicked (erc 151) ∧ Below w.heap.size w w' := by
  rcases bytes_good h with h | h | ⟨h, hx⟩
  · exact getkey1_short P s A c l w hT hP hc hr hs hsl h
  · exact getkey1_long P s A c l w hT hP hc hr hs hsl h
  · exact getkey1_bad P s A c l w hT hP hc hr hs hsl h hx
set_option maxRecDepth 8000 in
set_option maxHeartbeats 400000 in
theorem getkey_yes (A : Option Addr) (n c : Nat) (l : List UInt8) (w : World) (hT : Tab w) (hn : l.length = n) (hc : n ≤ c) (hr : Rd w A l) (h : good l) :
    Calls Tryd.prog 7 #[.slice A n c] w fun e w' => e = .returned (.tuple #[(kof l).val, .int .i64 0]) ∧ Below w.heap.size w w' := by
  subst hn
  have hmf : ∀ (fn : Fn) (first cap : Array Value) (w : World), (Instr.makeFunc fn first cap).run Tryd.prog w = .ok (.func fn first cap) w := fun _ _ _ _ => rfl
  obtain ⟨s, hsl, hs⟩ := src_of hT hr
  have HB := Lib.hid (((Below.refl w.heap.size w).alloc (Nat.le_refl _) (.cells #[.slice A l.length c] 31)).alloc (by simp) (.cells #[.int .i64 0, .int .i64 0, .int .i64 0, .int .i64 0, .int .i64 0, .int .i64 0] 26))
  have HR := Lib.hid (Blk.new_of (w.alloc (.cells #[.slice A l.length c] 31)) 26 (kl zk).toArray (g := w.heap.size + 1) (by simp))
  have HP := Lib.hid (Blk.alloc (Blk.new w 31 #[.slice A l.length c]) (.cells #[.int .i64 0, .int .i64 0, .int .i64 0, .int .i64 0, .int .i64 0, .int .i64 0] 26))
  have HD := Lib.hid hr
  have HT := Lib.hid hT
  have HS := Lib.hid hs
  have HL := Lib.hid hsl
  have HX := Lib.hid h
  have HC := Lib.hid hc
  clear hr hT hs hsl h hc
  go_enter Tryd.func7, Tryd.ntmps7
  go_wp2_with (first
    | (go_at_call 15; refine (facedk_yes w.heap.size (kof l) _ (fun W hW => getkey1_yes w.heap.size s A c l W ((HT.out.below HB.out).below hW) (Blk.keep HP.out hW) HC.out ((HD.out.below HB.out).below hW) HS.out (by have := HB.out.size; have := hW.size; have := HL.out; omega) HX.out.1 HX.out.2)).mono ?_; rintro e w1 ⟨rfl, hb⟩; have B1 := Lib.hid (HB.out.trans (hb.mono HB.out.size)); have R1 := Lib.hid (Blk.keep HR.out hb); clear hb)
    | (refine wpList_store_row rfl 26 (.tmp 2) (.tmp 6) rfl (w.heap.size + 1) (kl (kof l)).toArray rfl rfl 26 (kl zk).toArray R1.out size25 rfl (kl_all _) ?_))
  have h4 := setRow_heap w1 (w.heap.size + 1) (kl zk).toArray (kl (kof l)).toArray 26 (0, 0) R1.out
  have h5 : Below w.heap.size w (w1.setRow (w.heap.size + 1) (kl (kof l)).toArray) := B1.out.trans (below_lt (setRow_fr w1 _ _) B1.out.size (fun j hj => by omega))
  exact bodyPost_ret (res_1t rfl _ _ (w.heap.size + 1) _ _ rfl rfl (load_key (kof l) h4)) rfl ⟨rfl, h5⟩
set_option maxRecDepth 8000 in
set_option maxHeartbeats 400000 in
theorem getkey_no (A : Option Addr) (n c : Nat) (l : List UInt8) (w : World) (hT : Tab w) (hn : l.length = n) (hc : n ≤ c) (hr : Rd w A l) (h : ¬ good l) :
    Calls Tryd.prog 7 #[.slice A n c] w fun e w' => e = .returned (.tuple #[zk.val, .int .i64 151]) ∧ Below w.heap.size w w' := by
  subst hn
  have hmf : ∀ (fn : Fn) (first cap : Array Value) (w : World), (Instr.makeFunc fn first cap).run Tryd.prog w = .ok (.func fn first cap) w := fun _ _ _ _ => rfl
  obtain ⟨s, hsl, hs⟩ := src_of hT hr
  have HB := Lib.hid (((Below.refl w.heap.size w).alloc (Nat.le_refl _) (.cells #[.slice A l.length c] 31)).alloc (by simp) (.cells #[.int .i64 0, .int .i64 0, .int .i64 0, .int .i64 0, .int .i64 0, .int .i64 0] 26))
  have HR := Lib.hid (Blk.new_of (w.alloc (.cells #[.slice A l.length c] 31)) 26 (kl zk).toArray (g := w.heap.size + 1) (by simp))
  have HP := Lib.hid (Blk.alloc (Blk.new w 31 #[.slice A l.length c]) (.cells #[.int .i64 0, .int .i64 0, .int .i64 0, .int .i64 0, .int .i64 0, .int .i64 0] 26))
  have HD := Lib.hid hr
  have HT := Lib.hid hT
  have HS := Lib.hid hs
  have HL := Lib.hid hsl
  have HX := Lib.hid h
  have HC := Lib.hid hc
  clear hr hT hs hsl h hc
  go_enter Tryd.func7, Tryd.ntmps7
  go_wp2_with (first
    | (go_at_call 15; refine (facedk_no w.heap.size 151 _ (fun W hW => getkey1_no w.heap.size s A c l W ((HT.out.below HB.out).below hW) (Blk.keep HP.out hW) HC.out ((HD.out.below HB.out).below hW) HS.out (by have := HB.out.size; have := hW.size; have := HL.out; omega) HX.out)).mono ?_; rintro e w1 ⟨rfl, hb⟩; have B1 := Lib.hid (HB.out.trans (hb.mono HB.out.size)); have R1 := Lib.hid (Blk.keep HR.out hb); clear hb)
    | (refine wpList_store_row rfl 26 (.tmp 2) (.tmp 6) rfl (w.heap.size + 1) (kl zk).toArray rfl rfl 26 (kl zk).toArray R1.out size25 rfl (kl_all _) ?_))
  have h4 := setRow_heap w1 (w.heap.size + 1) (kl zk).toArray (kl zk).toArray 26 (0, 0) R1.out
  have h5 : Below w.heap.size w (w1.setRow (w.heap.size + 1) (kl zk).toArray) := B1.out.trans (below_lt (setRow_fr w1 _ _) B1.out.size (fun j hj => by omega))
  exact bodyPost_ret (res_1t rfl _ _ (w.heap.size + 1) _ _ rfl rfl (load_key zk h4)) rfl ⟨rfl, h5⟩
end Go.Proofs.YtfclkkbmgclfgaaDoor

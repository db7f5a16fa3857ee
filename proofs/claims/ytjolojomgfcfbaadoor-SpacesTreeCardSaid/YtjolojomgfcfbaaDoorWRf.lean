/- spaces: refused: what refuses a root, an address, a number of bytes. -/
import Derived.Test.YtjolojomgfcfbaaDoorWTo
import Derived.Test.YtjolojomgfcfbaaDoorR16
namespace Go.Proofs.YtjolojomgfcfbaaDoor
open Go.RowKit
section
variable {w : World} {base p : Nat} {A : Option Addr} {cap : Nat} {ps : List Nat} {os : List Oj}
set_option maxRecDepth 100000 in
set_option maxHeartbeats 2000000 in
theorem refused_bad (h : StAt w base p A cap ps os) (hn : 0 < os.length) (hT : Tab w) (x : Ky) (a n : Int) (hv : ¬ x.ok) :
    Calls Tryd.prog 23 #[pv p, x.val, .int .i64 a, .int .i64 n] w fun e w' => e = .returned (.int .i64 2) ∧ Below w.heap.size w w' := by
  obtain ⟨m, hm⟩ : ∃ m : Int, m = (os.length : Int) := ⟨_, rfl⟩
  have HM := Lib.hid hm
  have HN := Lib.hid hn
  have dm0 : (m == 0) = false := by simp; omega
  have HS := Lib.hid (h.alloc (.cells (kc x.k x.o x.c x.l x.r x.v) 29))
  have HT := Lib.hid (hT.alloc (.cells (kc x.k x.o x.c x.l x.r x.v) 29))
  have HK := Lib.hid (Blk.new w 29 (kc x.k x.o x.c x.l x.r x.v))
  have HB := Lib.hid ((Below.refl w.heap.size w).alloc (Nat.le_refl _) (.cells (kc x.k x.o x.c x.l x.r x.v) 29))
  obtain ⟨c0, c1, c2, c3, c4, c5⟩ := HK.out.six
  have HC := Lib.hid hv
  have HF := Lib.hid (show ¬ x.of from fun q => hv q.1)
  clear h hT hm hn hv
  go_enter Tryd.func23, Tryd.ntmps23
  go_wp2_with (first
    | (go_at_call 34; refine (kname_no x _ HT.out HF.out).mono ?_; rintro e w1 ⟨rfl, b_⟩; have HB1 := Lib.hid (HB.out.trans (b_.mono HB.out.size)); have HK1 := Lib.hid (HK.out.keep b_); have HS1 := Lib.hid (HS.out.below b_); have HT1 := Lib.hid (HT.out.below b_); clear b_ c0 c1 c2 c3 c4 c5; obtain ⟨c0, c1, c2, c3, c4, c5⟩ := HK1.out.six)
    | (go_at_call 36; refine (kchk_no x _ HT1.out HC.out).mono ?_; rintro e w2 ⟨rfl, b_⟩; have HB2 := Lib.hid (HB1.out.trans (b_.mono HB1.out.size)); have HS2 := Lib.hid (HS1.out.below b_); clear b_ c0 c1 c2 c3 c4 c5)
    | (go_at_call 35; refine (size_m HS1.out HN.out HM.out).mono ?_; rintro e w3 ⟨rfl, rfl⟩))
  go_ret
  exact ⟨rfl, HB2.out⟩
set_option maxRecDepth 100000 in
set_option maxHeartbeats 2000000 in
theorem refused_out (h : StAt w base p A cap ps os) (hn : 0 < os.length) (hT : Tab w) (x : Ky) (a n : Int) (hf : x.of) (ho : (os.length : Int) ≤ x.o) :
    Calls Tryd.prog 23 #[pv p, x.val, .int .i64 a, .int .i64 n] w fun e w' => e = .returned (.int .i64 2) ∧ Below w.heap.size w w' := by
  obtain ⟨m, hm⟩ : ∃ m : Int, m = (os.length : Int) := ⟨_, rfl⟩
  have HM := Lib.hid hm
  have HN := Lib.hid hn
  have dm0 : (m == 0) = false := by simp; omega
  have HS := Lib.hid (h.alloc (.cells (kc x.k x.o x.c x.l x.r x.v) 29))
  have HT := Lib.hid (hT.alloc (.cells (kc x.k x.o x.c x.l x.r x.v) 29))
  have HK := Lib.hid (Blk.new w 29 (kc x.k x.o x.c x.l x.r x.v))
  have HB := Lib.hid ((Below.refl w.heap.size w).alloc (Nat.le_refl _) (.cells (kc x.k x.o x.c x.l x.r x.v) 29))
  obtain ⟨c0, c1, c2, c3, c4, c5⟩ := HK.out.six
  have HC := Lib.hid hf.1
  have HF := Lib.hid hf
  have e0 : decide (m ≤ x.o) = true := decide_eq_true (by omega)
  clear h hT hm hn hf ho
  go_enter Tryd.func23, Tryd.ntmps23
  go_wp2_with (first
    | (go_at_call 34; refine (kname_yes x _ HT.out HF.out).mono ?_; rintro e w1 ⟨rfl, b_⟩; have HB1 := Lib.hid (HB.out.trans (b_.mono HB.out.size)); have HK1 := Lib.hid (HK.out.keep b_); have HS1 := Lib.hid (HS.out.below b_); have HT1 := Lib.hid (HT.out.below b_); clear b_ c0 c1 c2 c3 c4 c5; obtain ⟨c0, c1, c2, c3, c4, c5⟩ := HK1.out.six)
    | (go_at_call 36; refine (kchk_yes x _ HT1.out HC.out).mono ?_; rintro e w2 ⟨rfl, b_⟩; have HB2 := Lib.hid (HB1.out.trans (b_.mono HB1.out.size)); have HS2 := Lib.hid (HS1.out.below b_); clear b_ c0 c1 c2 c3 c4 c5)
    | (go_at_call 35; refine (size_m HS2.out HN.out HM.out).mono ?_; rintro e w4 ⟨rfl, rfl⟩)
    | (go_at_call 35; refine (size_m HS1.out HN.out HM.out).mono ?_; rintro e w3 ⟨rfl, rfl⟩))
  go_ret
  exact ⟨rfl, HB2.out⟩
set_option maxRecDepth 100000 in
set_option maxHeartbeats 2000000 in
theorem refused_in_an (h : StAt w base p A cap ps os) (hn : 0 < os.length) (hT : Tab w) (x : Ky) (a n : Int) (hf : x.of) (ho : x.o < (os.length : Int)) (ha : a < 0) :
    Calls Tryd.prog 23 #[pv p, x.val, .int .i64 a, .int .i64 n] w fun e w' => e = .returned (.int .i64 4) ∧ Below w.heap.size w w' := by
  obtain ⟨m, hm⟩ : ∃ m : Int, m = (os.length : Int) := ⟨_, rfl⟩
  have HM := Lib.hid hm
  have HN := Lib.hid hn
  have dm0 : (m == 0) = false := by simp; omega
  have HS := Lib.hid (h.alloc (.cells (kc x.k x.o x.c x.l x.r x.v) 29))
  have HT := Lib.hid (hT.alloc (.cells (kc x.k x.o x.c x.l x.r x.v) 29))
  have HK := Lib.hid (Blk.new w 29 (kc x.k x.o x.c x.l x.r x.v))
  have HB := Lib.hid ((Below.refl w.heap.size w).alloc (Nat.le_refl _) (.cells (kc x.k x.o x.c x.l x.r x.v) 29))
  obtain ⟨c0, c1, c2, c3, c4, c5⟩ := HK.out.six
  have HC := Lib.hid hf.1
  have HF := Lib.hid hf
  have e0 : decide (m ≤ x.o) = false := decide_eq_false (by omega)
  have f0 : decide (a < 0) = true := decide_eq_true ha
  clear h hT hm hn hf ho ha
  go_enter Tryd.func23, Tryd.ntmps23
  go_wp2_with (first
    | (go_at_call 34; refine (kname_yes x _ HT.out HF.out).mono ?_; rintro e w1 ⟨rfl, b_⟩; have HB1 := Lib.hid (HB.out.trans (b_.mono HB.out.size)); have HK1 := Lib.hid (HK.out.keep b_); have HS1 := Lib.hid (HS.out.below b_); have HT1 := Lib.hid (HT.out.below b_); clear b_ c0 c1 c2 c3 c4 c5; obtain ⟨c0, c1, c2, c3, c4, c5⟩ := HK1.out.six)
    | (go_at_call 36; refine (kchk_yes x _ HT1.out HC.out).mono ?_; rintro e w2 ⟨rfl, b_⟩; have HB2 := Lib.hid (HB1.out.trans (b_.mono HB1.out.size)); have HS2 := Lib.hid (HS1.out.below b_); clear b_ c0 c1 c2 c3 c4 c5)
    | (go_at_call 35; refine (size_m HS2.out HN.out HM.out).mono ?_; rintro e w4 ⟨rfl, rfl⟩)
    | (go_at_call 35; refine (size_m HS1.out HN.out HM.out).mono ?_; rintro e w3 ⟨rfl, rfl⟩))
  go_ret
  exact ⟨rfl, HB2.out⟩
set_option maxRecDepth 100000 in
set_option maxHeartbeats 2000000 in
theorem refused_no_an (h : StAt w base p A cap ps os) (hn : 0 < os.length) (hT : Tab w) (x : Ky) (a n : Int) (hv : x.ok) (hf : ¬ x.of) (ha : a < 0) :
    Calls Tryd.prog 23 #[pv p, x.val, .int .i64 a, .int .i64 n] w fun e w' => e = .returned (.int .i64 4) ∧ Below w.heap.size w w' := by
  obtain ⟨m, hm⟩ : ∃ m : Int, m = (os.length : Int) := ⟨_, rfl⟩
  have HM := Lib.hid hm
  have HN := Lib.hid hn
  have dm0 : (m == 0) = false := by simp; omega
  have HS := Lib.hid (h.alloc (.cells (kc x.k x.o x.c x.l x.r x.v) 29))
  have HT := Lib.hid (hT.alloc (.cells (kc x.k x.o x.c x.l x.r x.v) 29))
  have HK := Lib.hid (Blk.new w 29 (kc x.k x.o x.c x.l x.r x.v))
  have HB := Lib.hid ((Below.refl w.heap.size w).alloc (Nat.le_refl _) (.cells (kc x.k x.o x.c x.l x.r x.v) 29))
  obtain ⟨c0, c1, c2, c3, c4, c5⟩ := HK.out.six
  have HC := Lib.hid hv
  have HF := Lib.hid hf
  have f0 : decide (a < 0) = true := decide_eq_true ha
  clear h hT hm hn hv hf ha
  go_enter Tryd.func23, Tryd.ntmps23
  go_wp2_with (first
    | (go_at_call 34; refine (kname_no x _ HT.out HF.out).mono ?_; rintro e w1 ⟨rfl, b_⟩; have HB1 := Lib.hid (HB.out.trans (b_.mono HB.out.size)); have HK1 := Lib.hid (HK.out.keep b_); have HS1 := Lib.hid (HS.out.below b_); have HT1 := Lib.hid (HT.out.below b_); clear b_ c0 c1 c2 c3 c4 c5; obtain ⟨c0, c1, c2, c3, c4, c5⟩ := HK1.out.six)
    | (go_at_call 36; refine (kchk_yes x _ HT1.out HC.out).mono ?_; rintro e w2 ⟨rfl, b_⟩; have HB2 := Lib.hid (HB1.out.trans (b_.mono HB1.out.size)); have HS2 := Lib.hid (HS1.out.below b_); clear b_ c0 c1 c2 c3 c4 c5)
    | (go_at_call 35; refine (size_m HS1.out HN.out HM.out).mono ?_; rintro e w3 ⟨rfl, rfl⟩))
  go_ret
  exact ⟨rfl, HB2.out⟩
set_option maxRecDepth 100000 in
set_option maxHeartbeats 2000000 in
theorem refused_in_nn (h : StAt w base p A cap ps os) (hn : 0 < os.length) (hT : Tab w) (x : Ky) (a n : Int) (hf : x.of) (ho : x.o < (os.length : Int)) (ha : 0 ≤ a) (hq : n < 0) :
    Calls Tryd.prog 23 #[pv p, x.val, .int .i64 a, .int .i64 n] w fun e w' => e = .returned (.int .i64 4) ∧ Below w.heap.size w w' := by
  obtain ⟨m, hm⟩ : ∃ m : Int, m = (os.length : Int) := ⟨_, rfl⟩
  have HM := Lib.hid hm
  have HN := Lib.hid hn
  have dm0 : (m == 0) = false := by simp; omega
  have HS := Lib.hid (h.alloc (.cells (kc x.k x.o x.c x.l x.r x.v) 29))
  have HT := Lib.hid (hT.alloc (.cells (kc x.k x.o x.c x.l x.r x.v) 29))
  have HK := Lib.hid (Blk.new w 29 (kc x.k x.o x.c x.l x.r x.v))
  have HB := Lib.hid ((Below.refl w.heap.size w).alloc (Nat.le_refl _) (.cells (kc x.k x.o x.c x.l x.r x.v) 29))
  obtain ⟨c0, c1, c2, c3, c4, c5⟩ := HK.out.six
  have HC := Lib.hid hf.1
  have HF := Lib.hid hf
  have e0 : decide (m ≤ x.o) = false := decide_eq_false (by omega)
  have f0 : decide (a < 0) = false := decide_eq_false (by omega)
  have f1 : decide (n < 0) = true := decide_eq_true hq
  clear h hT hm hn hf ho ha hq
  go_enter Tryd.func23, Tryd.ntmps23
  go_wp2_with (first
    | (go_at_call 34; refine (kname_yes x _ HT.out HF.out).mono ?_; rintro e w1 ⟨rfl, b_⟩; have HB1 := Lib.hid (HB.out.trans (b_.mono HB.out.size)); have HK1 := Lib.hid (HK.out.keep b_); have HS1 := Lib.hid (HS.out.below b_); have HT1 := Lib.hid (HT.out.below b_); clear b_ c0 c1 c2 c3 c4 c5; obtain ⟨c0, c1, c2, c3, c4, c5⟩ := HK1.out.six)
    | (go_at_call 36; refine (kchk_yes x _ HT1.out HC.out).mono ?_; rintro e w2 ⟨rfl, b_⟩; have HB2 := Lib.hid (HB1.out.trans (b_.mono HB1.out.size)); have HS2 := Lib.hid (HS1.out.below b_); clear b_ c0 c1 c2 c3 c4 c5)
    | (go_at_call 35; refine (size_m HS2.out HN.out HM.out).mono ?_; rintro e w4 ⟨rfl, rfl⟩)
    | (go_at_call 35; refine (size_m HS1.out HN.out HM.out).mono ?_; rintro e w3 ⟨rfl, rfl⟩))
  go_ret
  exact ⟨rfl, HB2.out⟩
set_option maxRecDepth 100000 in
set_option maxHeartbeats 2000000 in
theorem refused_no_nn (h : StAt w base p A cap ps os) (hn : 0 < os.length) (hT : Tab w) (x : Ky) (a n : Int) (hv : x.ok) (hf : ¬ x.of) (ha : 0 ≤ a) (hq : n < 0) :
    Calls Tryd.prog 23 #[pv p, x.val, .int .i64 a, .int .i64 n] w fun e w' => e = .returned (.int .i64 4) ∧ Below w.heap.size w w' := by
  obtain ⟨m, hm⟩ : ∃ m : Int, m = (os.length : Int) := ⟨_, rfl⟩
  have HM := Lib.hid hm
  have HN := Lib.hid hn
  have dm0 : (m == 0) = false := by simp; omega
  have HS := Lib.hid (h.alloc (.cells (kc x.k x.o x.c x.l x.r x.v) 29))
  have HT := Lib.hid (hT.alloc (.cells (kc x.k x.o x.c x.l x.r x.v) 29))
  have HK := Lib.hid (Blk.new w 29 (kc x.k x.o x.c x.l x.r x.v))
  have HB := Lib.hid ((Below.refl w.heap.size w).alloc (Nat.le_refl _) (.cells (kc x.k x.o x.c x.l x.r x.v) 29))
  obtain ⟨c0, c1, c2, c3, c4, c5⟩ := HK.out.six
  have HC := Lib.hid hv
  have HF := Lib.hid hf
  have f0 : decide (a < 0) = false := decide_eq_false (by omega)
  have f1 : decide (n < 0) = true := decide_eq_true hq
  clear h hT hm hn hv hf ha hq
  go_enter Tryd.func23, Tryd.ntmps23
  go_wp2_with (first
    | (go_at_call 34; refine (kname_no x _ HT.out HF.out).mono ?_; rintro e w1 ⟨rfl, b_⟩; have HB1 := Lib.hid (HB.out.trans (b_.mono HB.out.size)); have HK1 := Lib.hid (HK.out.keep b_); have HS1 := Lib.hid (HS.out.below b_); have HT1 := Lib.hid (HT.out.below b_); clear b_ c0 c1 c2 c3 c4 c5; obtain ⟨c0, c1, c2, c3, c4, c5⟩ := HK1.out.six)
    | (go_at_call 36; refine (kchk_yes x _ HT1.out HC.out).mono ?_; rintro e w2 ⟨rfl, b_⟩; have HB2 := Lib.hid (HB1.out.trans (b_.mono HB1.out.size)); have HS2 := Lib.hid (HS1.out.below b_); clear b_ c0 c1 c2 c3 c4 c5)
    | (go_at_call 35; refine (size_m HS1.out HN.out HM.out).mono ?_; rintro e w3 ⟨rfl, rfl⟩))
  go_ret
  exact ⟨rfl, HB2.out⟩
set_option maxRecDepth 100000 in
set_option maxHeartbeats 2000000 in
theorem refused_in_nb (h : StAt w base p A cap ps os) (hn : 0 < os.length) (hT : Tab w) (x : Ky) (a n : Int) (hf : x.of) (ho : x.o < (os.length : Int)) (ha : 0 ≤ a) (hq : 64 < n) :
    Calls Tryd.prog 23 #[pv p, x.val, .int .i64 a, .int .i64 n] w fun e w' => e = .returned (.int .i64 4) ∧ Below w.heap.size w w' := by
  obtain ⟨m, hm⟩ : ∃ m : Int, m = (os.length : Int) := ⟨_, rfl⟩
  have HM := Lib.hid hm
  have HN := Lib.hid hn
  have dm0 : (m == 0) = false := by simp; omega
  have HS := Lib.hid (h.alloc (.cells (kc x.k x.o x.c x.l x.r x.v) 29))
  have HT := Lib.hid (hT.alloc (.cells (kc x.k x.o x.c x.l x.r x.v) 29))
  have HK := Lib.hid (Blk.new w 29 (kc x.k x.o x.c x.l x.r x.v))
  have HB := Lib.hid ((Below.refl w.heap.size w).alloc (Nat.le_refl _) (.cells (kc x.k x.o x.c x.l x.r x.v) 29))
  obtain ⟨c0, c1, c2, c3, c4, c5⟩ := HK.out.six
  have HC := Lib.hid hf.1
  have HF := Lib.hid hf
  have e0 : decide (m ≤ x.o) = false := decide_eq_false (by omega)
  have f0 : decide (a < 0) = false := decide_eq_false (by omega)
  have f1 : decide (n < 0) = false := decide_eq_false (by omega)
  have f2 : decide (64 < n) = true := decide_eq_true hq
  clear h hT hm hn hf ho ha hq
  go_enter Tryd.func23, Tryd.ntmps23
  go_wp2_with (first
    | (go_at_call 34; refine (kname_yes x _ HT.out HF.out).mono ?_; rintro e w1 ⟨rfl, b_⟩; have HB1 := Lib.hid (HB.out.trans (b_.mono HB.out.size)); have HK1 := Lib.hid (HK.out.keep b_); have HS1 := Lib.hid (HS.out.below b_); have HT1 := Lib.hid (HT.out.below b_); clear b_ c0 c1 c2 c3 c4 c5; obtain ⟨c0, c1, c2, c3, c4, c5⟩ := HK1.out.six)
    | (go_at_call 36; refine (kchk_yes x _ HT1.out HC.out).mono ?_; rintro e w2 ⟨rfl, b_⟩; have HB2 := Lib.hid (HB1.out.trans (b_.mono HB1.out.size)); have HS2 := Lib.hid (HS1.out.below b_); clear b_ c0 c1 c2 c3 c4 c5)
    | (go_at_call 35; refine (size_m HS2.out HN.out HM.out).mono ?_; rintro e w4 ⟨rfl, rfl⟩)
    | (go_at_call 35; refine (size_m HS1.out HN.out HM.out).mono ?_; rintro e w3 ⟨rfl, rfl⟩))
  go_ret
  exact ⟨rfl, HB2.out⟩
set_option maxRecDepth 100000 in
set_option maxHeartbeats 2000000 in
theorem refused_no_nb (h : StAt w base p A cap ps os) (hn : 0 < os.length) (hT : Tab w) (x : Ky) (a n : Int) (hv : x.ok) (hf : ¬ x.of) (ha : 0 ≤ a) (hq : 64 < n) :
    Calls Tryd.prog 23 #[pv p, x.val, .int .i64 a, .int .i64 n] w fun e w' => e = .returned (.int .i64 4) ∧ Below w.heap.size w w' := by
  obtain ⟨m, hm⟩ : ∃ m : Int, m = (os.length : Int) := ⟨_, rfl⟩
  have HM := Lib.hid hm
  have HN := Lib.hid hn
  have dm0 : (m == 0) = false := by simp; omega
  have HS := Lib.hid (h.alloc (.cells (kc x.k x.o x.c x.l x.r x.v) 29))
  have HT := Lib.hid (hT.alloc (.cells (kc x.k x.o x.c x.l x.r x.v) 29))
  have HK := Lib.hid (Blk.new w 29 (kc x.k x.o x.c x.l x.r x.v))
  have HB := Lib.hid ((Below.refl w.heap.size w).alloc (Nat.le_refl _) (.cells (kc x.k x.o x.c x.l x.r x.v) 29))
  obtain ⟨c0, c1, c2, c3, c4, c5⟩ := HK.out.six
  have HC := Lib.hid hv
  have HF := Lib.hid hf
  have f0 : decide (a < 0) = false := decide_eq_false (by omega)
  have f1 : decide (n < 0) = false := decide_eq_false (by omega)
  have f2 : decide (64 < n) = true := decide_eq_true hq
  clear h hT hm hn hv hf ha hq
  go_enter Tryd.func23, Tryd.ntmps23
  go_wp2_with (first
    | (go_at_call 34; refine (kname_no x _ HT.out HF.out).mono ?_; rintro e w1 ⟨rfl, b_⟩; have HB1 := Lib.hid (HB.out.trans (b_.mono HB.out.size)); have HK1 := Lib.hid (HK.out.keep b_); have HS1 := Lib.hid (HS.out.below b_); have HT1 := Lib.hid (HT.out.below b_); clear b_ c0 c1 c2 c3 c4 c5; obtain ⟨c0, c1, c2, c3, c4, c5⟩ := HK1.out.six)
    | (go_at_call 36; refine (kchk_yes x _ HT1.out HC.out).mono ?_; rintro e w2 ⟨rfl, b_⟩; have HB2 := Lib.hid (HB1.out.trans (b_.mono HB1.out.size)); have HS2 := Lib.hid (HS1.out.below b_); clear b_ c0 c1 c2 c3 c4 c5)
    | (go_at_call 35; refine (size_m HS1.out HN.out HM.out).mono ?_; rintro e w3 ⟨rfl, rfl⟩))
  go_ret
  exact ⟨rfl, HB2.out⟩
set_option maxRecDepth 100000 in
set_option maxHeartbeats 2000000 in
theorem refused_in_ok (h : StAt w base p A cap ps os) (hn : 0 < os.length) (hT : Tab w) (x : Ky) (a n : Int) (hf : x.of) (ho : x.o < (os.length : Int)) (ha : 0 ≤ a) (hq : 0 ≤ n ∧ n ≤ 64) :
    Calls Tryd.prog 23 #[pv p, x.val, .int .i64 a, .int .i64 n] w fun e w' => e = .returned (.int .i64 0) ∧ Below w.heap.size w w' := by
  obtain ⟨m, hm⟩ : ∃ m : Int, m = (os.length : Int) := ⟨_, rfl⟩
  have HM := Lib.hid hm
  have HN := Lib.hid hn
  have dm0 : (m == 0) = false := by simp; omega
  have HS := Lib.hid (h.alloc (.cells (kc x.k x.o x.c x.l x.r x.v) 29))
  have HT := Lib.hid (hT.alloc (.cells (kc x.k x.o x.c x.l x.r x.v) 29))
  have HK := Lib.hid (Blk.new w 29 (kc x.k x.o x.c x.l x.r x.v))
  have HB := Lib.hid ((Below.refl w.heap.size w).alloc (Nat.le_refl _) (.cells (kc x.k x.o x.c x.l x.r x.v) 29))
  obtain ⟨c0, c1, c2, c3, c4, c5⟩ := HK.out.six
  have HC := Lib.hid hf.1
  have HF := Lib.hid hf
  have e0 : decide (m ≤ x.o) = false := decide_eq_false (by omega)
  have f0 : decide (a < 0) = false := decide_eq_false (by omega)
  have f1 : decide (n < 0) = false := decide_eq_false (by omega)
  have f2 : decide (64 < n) = false := decide_eq_false (by omega)
  clear h hT hm hn hf ho ha hq
  go_enter Tryd.func23, Tryd.ntmps23
  go_wp2_with (first
    | (go_at_call 34; refine (kname_yes x _ HT.out HF.out).mono ?_; rintro e w1 ⟨rfl, b_⟩; have HB1 := Lib.hid (HB.out.trans (b_.mono HB.out.size)); have HK1 := Lib.hid (HK.out.keep b_); have HS1 := Lib.hid (HS.out.below b_); have HT1 := Lib.hid (HT.out.below b_); clear b_ c0 c1 c2 c3 c4 c5; obtain ⟨c0, c1, c2, c3, c4, c5⟩ := HK1.out.six)
    | (go_at_call 36; refine (kchk_yes x _ HT1.out HC.out).mono ?_; rintro e w2 ⟨rfl, b_⟩; have HB2 := Lib.hid (HB1.out.trans (b_.mono HB1.out.size)); have HS2 := Lib.hid (HS1.out.below b_); clear b_ c0 c1 c2 c3 c4 c5)
    | (go_at_call 35; refine (size_m HS2.out HN.out HM.out).mono ?_; rintro e w4 ⟨rfl, rfl⟩)
    | (go_at_call 35; refine (size_m HS1.out HN.out HM.out).mono ?_; rintro e w3 ⟨rfl, rfl⟩))
  go_ret
  exact ⟨rfl, HB2.out⟩
set_option maxRecDepth 100000 in
set_option maxHeartbeats 2000000 in
theorem refused_no_ok (h : StAt w base p A cap ps os) (hn : 0 < os.length) (hT : Tab w) (x : Ky) (a n : Int) (hv : x.ok) (hf : ¬ x.of) (ha : 0 ≤ a) (hq : 0 ≤ n ∧ n ≤ 64) :
    Calls Tryd.prog 23 #[pv p, x.val, .int .i64 a, .int .i64 n] w fun e w' => e = .returned (.int .i64 0) ∧ Below w.heap.size w w' := by
  obtain ⟨m, hm⟩ : ∃ m : Int, m = (os.length : Int) := ⟨_, rfl⟩
  have HM := Lib.hid hm
  have HN := Lib.hid hn
  have dm0 : (m == 0) = false := by simp; omega
  have HS := Lib.hid (h.alloc (.cells (kc x.k x.o x.c x.l x.r x.v) 29))
  have HT := Lib.hid (hT.alloc (.cells (kc x.k x.o x.c x.l x.r x.v) 29))
  have HK := Lib.hid (Blk.new w 29 (kc x.k x.o x.c x.l x.r x.v))
  have HB := Lib.hid ((Below.refl w.heap.size w).alloc (Nat.le_refl _) (.cells (kc x.k x.o x.c x.l x.r x.v) 29))
  obtain ⟨c0, c1, c2, c3, c4, c5⟩ := HK.out.six
  have HC := Lib.hid hv
  have HF := Lib.hid hf
  have f0 : decide (a < 0) = false := decide_eq_false (by omega)
  have f1 : decide (n < 0) = false := decide_eq_false (by omega)
  have f2 : decide (64 < n) = false := decide_eq_false (by omega)
  clear h hT hm hn hv hf ha hq
  go_enter Tryd.func23, Tryd.ntmps23
  go_wp2_with (first
    | (go_at_call 34; refine (kname_no x _ HT.out HF.out).mono ?_; rintro e w1 ⟨rfl, b_⟩; have HB1 := Lib.hid (HB.out.trans (b_.mono HB.out.size)); have HK1 := Lib.hid (HK.out.keep b_); have HS1 := Lib.hid (HS.out.below b_); have HT1 := Lib.hid (HT.out.below b_); clear b_ c0 c1 c2 c3 c4 c5; obtain ⟨c0, c1, c2, c3, c4, c5⟩ := HK1.out.six)
    | (go_at_call 36; refine (kchk_yes x _ HT1.out HC.out).mono ?_; rintro e w2 ⟨rfl, b_⟩; have HB2 := Lib.hid (HB1.out.trans (b_.mono HB1.out.size)); have HS2 := Lib.hid (HS1.out.below b_); clear b_ c0 c1 c2 c3 c4 c5)
    | (go_at_call 35; refine (size_m HS1.out HN.out HM.out).mono ?_; rintro e w3 ⟨rfl, rfl⟩))
  go_ret
  exact ⟨rfl, HB2.out⟩
set_option maxRecDepth 8000 in
theorem refused_any (h : StAt w base p A cap ps os) (hn : 0 < os.length) (hT : Tab w) (x : Ky) (a n : Int) {m : Int} (hm : refA os x a n = m) :
    Calls Tryd.prog 23 #[pv p, x.val, .int .i64 a, .int .i64 n] w fun e w' => e = .returned (.int .i64 m) ∧ Below w.heap.size w w' := by
  subst hm
  unfold refA
  by_cases hk : x.ok
  · by_cases hf : x.of
    · by_cases ho : x.o < (os.length : Int)
      · rw [if_pos ⟨hk, fun _ => ho⟩]
        by_cases ha : 0 ≤ a
        · by_cases h1 : 0 ≤ n
          · by_cases h2 : n ≤ 64
            · rw [if_pos ⟨ha, h1, h2⟩]
              exact refused_in_ok h hn hT x a n hf ho ha ⟨h1, h2⟩
            · rw [if_neg (fun q => h2 q.2.2)]
              exact refused_in_nb h hn hT x a n hf ho ha (by omega)
          · rw [if_neg (fun q => h1 q.2.1)]
            exact refused_in_nn h hn hT x a n hf ho ha (by omega)
        · rw [if_neg (fun q => ha q.1)]
          exact refused_in_an h hn hT x a n hf ho (by omega)
      · rw [if_neg (fun q => ho (q.2 hf))]
        exact refused_out h hn hT x a n hf (by omega)
    · rw [if_pos ⟨hk, fun q => absurd q hf⟩]
      by_cases ha : 0 ≤ a
      · by_cases h1 : 0 ≤ n
        · by_cases h2 : n ≤ 64
          · rw [if_pos ⟨ha, h1, h2⟩]
            exact refused_no_ok h hn hT x a n hk hf ha ⟨h1, h2⟩
          · rw [if_neg (fun q => h2 q.2.2)]
            exact refused_no_nb h hn hT x a n hk hf ha (by omega)
        · rw [if_neg (fun q => h1 q.2.1)]
          exact refused_no_nn h hn hT x a n hk hf ha (by omega)
      · rw [if_neg (fun q => ha q.1)]
        exact refused_no_an h hn hT x a n hk hf (by omega)
  · rw [if_neg (fun q => hk q.1)]
    exact refused_bad h hn hT x a n hk
end
end Go.Proofs.YtjolojomgfcfbaaDoor

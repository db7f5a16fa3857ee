/- The document's answers: Asked of a page, Page, inside, Read, Wipe, Copy. -/
import Derived.Test.YtedlacdijkggjaaDoorGAsk
import Derived.Test.YtedlacdijkggjaaDoorGCut
namespace Go.Proofs.YtedlacdijkggjaaDoor
open Go.RowKit
section
variable {w : World} {A : Option Addr} {l : List Oj} {n cap : Nat}
set_option maxRecDepth 100000 in
set_option maxHeartbeats 2000000 in
theorem rask3_un (hr : RdO w A l) (hn : l.length = n) (hl : n ≤ 1000) (h0 : 0 < n) (x : Ky) (hx : (named l x).isSome = false) :
    Calls Tryd.prog 46 #[.slice A n cap, x.val, .int .i64 3, .bool false] w fun e w' => e = .returned (.int .i64 190) ∧ Below w.heap.size w w' := by
  have HR := Lib.hid (hr.alloc (.cells (kc x.k x.o x.c x.l x.r x.v) 30))
  have HB0 := Lib.hid ((Below.refl w.heap.size w).alloc (Nat.le_refl _) (.cells (kc x.k x.o x.c x.l x.r x.v) 30))
  have HK0 := Lib.hid (Blk.new w 30 (kc x.k x.o x.c x.l x.r x.v))
  have HN := Lib.hid hn
  have HL := Lib.hid hl
  have dl : ((n : Int) == 0) = false := by simp; omega
  have dn : n ≠ 0 := by omega
  have HX := Lib.hid hx
  clear hr hn hl h0 hx
  go_enter Tryd.func46, Tryd.ntmps46
  go_wp2_with (go_at_call 53; refine (rcn_n HR.out HN.out HL.out x HX.out).mono ?_; rintro e w1 ⟨rfl, b1⟩; have HB1 := Lib.hid (HB0.out.trans (b1.mono HB0.out.size)); have HK1 := Lib.hid (HK0.out.keep b1); obtain ⟨c0, c1, c2, c3, c4, c5⟩ := HK1.out.six; clear b1)
  go_ret
  exact ⟨rfl, HB1.out⟩
set_option maxRecDepth 100000 in
set_option maxHeartbeats 2000000 in
theorem rask3_kind (hr : RdO w A l) (hn : l.length = n) (hl : n ≤ 1000) (h0 : 0 < n) (x : Ky) (hx : (named l x).isSome = true) (hk : x.k ≠ 3) :
    Calls Tryd.prog 46 #[.slice A n cap, x.val, .int .i64 3, .bool false] w fun e w' => e = .returned (.int .i64 190) ∧ Below w.heap.size w w' := by
  have HR := Lib.hid (hr.alloc (.cells (kc x.k x.o x.c x.l x.r x.v) 30))
  have HB0 := Lib.hid ((Below.refl w.heap.size w).alloc (Nat.le_refl _) (.cells (kc x.k x.o x.c x.l x.r x.v) 30))
  have HK0 := Lib.hid (Blk.new w 30 (kc x.k x.o x.c x.l x.r x.v))
  have HN := Lib.hid hn
  have HL := Lib.hid hl
  have dl : ((n : Int) == 0) = false := by simp; omega
  have dn : n ≠ 0 := by omega
  have HX := Lib.hid hx
  have dk : (x.k != 3) = true := by simpa using hk
  clear hk
  clear hr hn hl h0 hx
  go_enter Tryd.func46, Tryd.ntmps46
  go_wp2_with (go_at_call 53; refine (rcn_n HR.out HN.out HL.out x HX.out).mono ?_; rintro e w1 ⟨rfl, b1⟩; have HB1 := Lib.hid (HB0.out.trans (b1.mono HB0.out.size)); have HK1 := Lib.hid (HK0.out.keep b1); obtain ⟨c0, c1, c2, c3, c4, c5⟩ := HK1.out.six; clear b1)
  go_ret
  exact ⟨rfl, HB1.out⟩
set_option maxRecDepth 100000 in
set_option maxHeartbeats 2000000 in
theorem rask3_yes (hr : RdO w A l) (hn : l.length = n) (hl : n ≤ 1000) (h0 : 0 < n) (x : Ky) (hx : (named l x).isSome = true) (hk : x.k = 3) :
    Calls Tryd.prog 46 #[.slice A n cap, x.val, .int .i64 3, .bool false] w fun e w' => e = .returned (.int .i64 0) ∧ Below w.heap.size w w' := by
  have HR := Lib.hid (hr.alloc (.cells (kc x.k x.o x.c x.l x.r x.v) 30))
  have HB0 := Lib.hid ((Below.refl w.heap.size w).alloc (Nat.le_refl _) (.cells (kc x.k x.o x.c x.l x.r x.v) 30))
  have HK0 := Lib.hid (Blk.new w 30 (kc x.k x.o x.c x.l x.r x.v))
  have HN := Lib.hid hn
  have HL := Lib.hid hl
  have dl : ((n : Int) == 0) = false := by simp; omega
  have dn : n ≠ 0 := by omega
  have HX := Lib.hid hx
  have dk : (x.k != 3) = false := by simpa using hk
  clear hk
  clear hr hn hl h0 hx
  go_enter Tryd.func46, Tryd.ntmps46
  go_wp2_with (go_at_call 53; refine (rcn_n HR.out HN.out HL.out x HX.out).mono ?_; rintro e w1 ⟨rfl, b1⟩; have HB1 := Lib.hid (HB0.out.trans (b1.mono HB0.out.size)); have HK1 := Lib.hid (HK0.out.keep b1); obtain ⟨c0, c1, c2, c3, c4, c5⟩ := HK1.out.six; clear b1)
  go_ret
  exact ⟨rfl, HB1.out⟩
end
set_option maxRecDepth 100000 in
set_option maxHeartbeats 2000000 in
theorem rpage_err {w : World} {L : Value} (x : Ky) (ch : Bool) (m : Int) (hm : m ≠ 0) (hask : ∀ W, Below w.heap.size w W → Calls Tryd.prog 46 #[L, x.val, .int .i64 3, .bool false] W fun e w' => e = .returned (.int .i64 m) ∧ Below W.heap.size W w') :
    Calls Tryd.prog 33 #[L, x.val, .bool ch] w fun e w' => e = .returned (.int .i64 m) ∧ Below w.heap.size w w' := by
  have HA := Lib.hid hask
  clear hask
  have HB0 := Lib.hid ((Below.refl w.heap.size w).alloc (Nat.le_refl _) (.cells (kc x.k x.o x.c x.l x.r x.v) 30))
  have HK0 := Lib.hid (Blk.new w 30 (kc x.k x.o x.c x.l x.r x.v))
  have dm : (m == 0) = false := by simpa using hm
  clear hm
  go_enter Tryd.func33, Tryd.ntmps33
  go_wp2_with (go_at_call 46; refine (HA.out _ HB0.out).mono ?_; rintro e w1 ⟨rfl, b1⟩; have HB1 := Lib.hid (HB0.out.trans (b1.mono HB0.out.size)); have HK1 := Lib.hid (HK0.out.keep b1); obtain ⟨c0, c1, c2, c3, c4, c5⟩ := HK1.out.six; clear b1)
  go_ret
  exact ⟨rfl, HB1.out⟩
set_option maxRecDepth 100000 in
set_option maxHeartbeats 2000000 in
theorem rpage_f {w : World} {L : Value} (x : Ky) (ch : Bool) (hc : ch = false) (hask : ∀ W, Below w.heap.size w W → Calls Tryd.prog 46 #[L, x.val, .int .i64 3, .bool false] W fun e w' => e = .returned (.int .i64 0) ∧ Below W.heap.size W w') :
    Calls Tryd.prog 33 #[L, x.val, .bool ch] w fun e w' => e = .returned (.int .i64 0) ∧ Below w.heap.size w w' := by
  have HA := Lib.hid hask
  clear hask
  have HB0 := Lib.hid ((Below.refl w.heap.size w).alloc (Nat.le_refl _) (.cells (kc x.k x.o x.c x.l x.r x.v) 30))
  have HK0 := Lib.hid (Blk.new w 30 (kc x.k x.o x.c x.l x.r x.v))
  subst hc
  go_enter Tryd.func33, Tryd.ntmps33
  go_wp2_with (go_at_call 46; refine (HA.out _ HB0.out).mono ?_; rintro e w1 ⟨rfl, b1⟩; have HB1 := Lib.hid (HB0.out.trans (b1.mono HB0.out.size)); have HK1 := Lib.hid (HK0.out.keep b1); obtain ⟨c0, c1, c2, c3, c4, c5⟩ := HK1.out.six; clear b1)
  go_ret
  exact ⟨rfl, HB1.out⟩
set_option maxRecDepth 100000 in
set_option maxHeartbeats 2000000 in
theorem rpage_r {w : World} {L : Value} (x : Ky) (ch : Bool) (hc : ch = true) (hr : x.r ≠ 0) (hask : ∀ W, Below w.heap.size w W → Calls Tryd.prog 46 #[L, x.val, .int .i64 3, .bool false] W fun e w' => e = .returned (.int .i64 0) ∧ Below W.heap.size W w') :
    Calls Tryd.prog 33 #[L, x.val, .bool ch] w fun e w' => e = .returned (.int .i64 191) ∧ Below w.heap.size w w' := by
  have HA := Lib.hid hask
  clear hask
  have HB0 := Lib.hid ((Below.refl w.heap.size w).alloc (Nat.le_refl _) (.cells (kc x.k x.o x.c x.l x.r x.v) 30))
  have HK0 := Lib.hid (Blk.new w 30 (kc x.k x.o x.c x.l x.r x.v))
  subst hc
  have dr : (x.r != 0) = true := by simpa using hr
  clear hr
  go_enter Tryd.func33, Tryd.ntmps33
  go_wp2_with (go_at_call 46; refine (HA.out _ HB0.out).mono ?_; rintro e w1 ⟨rfl, b1⟩; have HB1 := Lib.hid (HB0.out.trans (b1.mono HB0.out.size)); have HK1 := Lib.hid (HK0.out.keep b1); obtain ⟨c0, c1, c2, c3, c4, c5⟩ := HK1.out.six; clear b1)
  go_ret
  exact ⟨rfl, HB1.out⟩
set_option maxRecDepth 100000 in
set_option maxHeartbeats 2000000 in
theorem rpage_y {w : World} {L : Value} (x : Ky) (ch : Bool) (hc : ch = true) (hr : x.r = 0) (hask : ∀ W, Below w.heap.size w W → Calls Tryd.prog 46 #[L, x.val, .int .i64 3, .bool false] W fun e w' => e = .returned (.int .i64 0) ∧ Below W.heap.size W w') :
    Calls Tryd.prog 33 #[L, x.val, .bool ch] w fun e w' => e = .returned (.int .i64 0) ∧ Below w.heap.size w w' := by
  have HA := Lib.hid hask
  clear hask
  have HB0 := Lib.hid ((Below.refl w.heap.size w).alloc (Nat.le_refl _) (.cells (kc x.k x.o x.c x.l x.r x.v) 30))
  have HK0 := Lib.hid (Blk.new w 30 (kc x.k x.o x.c x.l x.r x.v))
  subst hc
  have dr : (x.r != 0) = false := by simpa using hr
  clear hr
  go_enter Tryd.func33, Tryd.ntmps33
  go_wp2_with (go_at_call 46; refine (HA.out _ HB0.out).mono ?_; rintro e w1 ⟨rfl, b1⟩; have HB1 := Lib.hid (HB0.out.trans (b1.mono HB0.out.size)); have HK1 := Lib.hid (HK0.out.keep b1); obtain ⟨c0, c1, c2, c3, c4, c5⟩ := HK1.out.six; clear b1)
  go_ret
  exact ⟨rfl, HB1.out⟩
set_option maxRecDepth 8000 in
set_option maxHeartbeats 2000000 in
theorem inside_any (a n : Int) {b : Bool} (hb : decide (inB a n) = b) (w : World) :
    Calls Tryd.prog 34 #[.int .i64 a, .int .i64 n] w fun e w' => e = .returned (.bool b) ∧ w = w' := by
  subst hb
  by_cases h0 : 0 ≤ a
  · have e0 : decide (0 ≤ a) = true := decide_eq_true h0
    by_cases h1 : 0 ≤ n
    · have e1 : decide (0 ≤ n) = true := decide_eq_true h1
      by_cases h2 : a ≤ 64
      · have e2 : decide (a ≤ 64) = true := decide_eq_true h2
        by_cases h3 : n ≤ 64
        · have e3 : decide (n ≤ 64) = true := decide_eq_true h3
          have e4 : decide (inB a n) = decide (a + n ≤ 64) := decide_eq_decide.2 ⟨fun h => by have := h.2.2; omega, fun h => ⟨h0, h1, by omega⟩⟩
          rw [e4]
          obtain ⟨m, hm⟩ : ∃ m : Int, m = a + n := ⟨_, rfl⟩
          have e5 : -9223372036854775808 ≤ m := by omega
          have e6 : m ≤ 9223372036854775807 := by omega
          have e7 : a + n = m := hm.symm
          rw [e7]
          clear h0 h1 h2 h3 e4 hm
          go_enter Tryd.func34, Tryd.ntmps34
          go_wp2_with fail
          go_ret
          exact ⟨rfl, rfl⟩
        · have e3 : decide (n ≤ 64) = false := decide_eq_false h3
          rw [show decide (inB a n) = false from decide_eq_false fun h => by have := h.1; have := h.2.2; omega]
          clear h0 h1 h2 h3
          go_enter Tryd.func34, Tryd.ntmps34
          go_wp2_with fail
          go_ret
          exact ⟨rfl, rfl⟩
      · have e2 : decide (a ≤ 64) = false := decide_eq_false h2
        rw [show decide (inB a n) = false from decide_eq_false fun h => by have := h.2.1; have := h.2.2; omega]
        clear h0 h1 h2
        go_enter Tryd.func34, Tryd.ntmps34
        go_wp2_with fail
        go_ret
        exact ⟨rfl, rfl⟩
    · have e1 : decide (0 ≤ n) = false := decide_eq_false h1
      rw [show decide (inB a n) = false from decide_eq_false fun h => h1 h.2.1]
      clear h0 h1
      go_enter Tryd.func34, Tryd.ntmps34
      go_wp2_with fail
      go_ret
      exact ⟨rfl, rfl⟩
  · have e0 : decide (0 ≤ a) = false := decide_eq_false h0
    rw [show decide (inB a n) = false from decide_eq_false fun h => h0 h.1]
    clear h0
    go_enter Tryd.func34, Tryd.ntmps34
    go_wp2_with fail
    go_ret
    exact ⟨rfl, rfl⟩
set_option maxRecDepth 100000 in
set_option maxHeartbeats 2000000 in
theorem rread_err {w : World} {L : Value} (x : Ky) (a n : Int) (m : Int) (hm : m ≠ 0) (hpg : ∀ W, Below w.heap.size w W → Calls Tryd.prog 33 #[L, x.val, .bool false] W fun e w' => e = .returned (.int .i64 m) ∧ Below W.heap.size W w') :
    Calls Tryd.prog 18 #[L, x.val, .int .i64 a, .int .i64 n] w fun e w' => e = .returned (.tuple #[.string (st []), .int .i64 m]) ∧ Below w.heap.size w w' := by
  have HPG := Lib.hid hpg
  clear hpg
  have HB0 := Lib.hid ((Below.refl w.heap.size w).alloc (Nat.le_refl _) (.cells (kc x.k x.o x.c x.l x.r x.v) 30))
  have HK0 := Lib.hid (Blk.new w 30 (kc x.k x.o x.c x.l x.r x.v))
  have dm : (m == 0) = false := by simpa using hm
  have dm2 : (m != 0) = true := by simpa using hm
  clear hm
  go_enter Tryd.func18, Tryd.ntmps18
  go_wp2_with (go_at_call 33; refine (HPG.out _ HB0.out).mono ?_; rintro e w1 ⟨rfl, b1⟩; have HB1 := Lib.hid (HB0.out.trans (b1.mono HB0.out.size)); have HK1 := Lib.hid (HK0.out.keep b1); obtain ⟨c0, c1, c2, c3, c4, c5⟩ := HK1.out.six;  clear b1)
  go_ret2
  exact ⟨rfl, HB1.out⟩
set_option maxRecDepth 100000 in
set_option maxHeartbeats 2000000 in
theorem rread_range {w : World} {L : Value} (x : Ky) (a n : Int) (hi : ¬ inB a n) (hpg : ∀ W, Below w.heap.size w W → Calls Tryd.prog 33 #[L, x.val, .bool false] W fun e w' => e = .returned (.int .i64 0) ∧ Below W.heap.size W w') :
    Calls Tryd.prog 18 #[L, x.val, .int .i64 a, .int .i64 n] w fun e w' => e = .returned (.tuple #[.string (st []), .int .i64 4]) ∧ Below w.heap.size w w' := by
  have HPG := Lib.hid hpg
  have HLI := Lib.hid (show decide (inB a n) = false by simpa using hi)
  clear hpg hi
  have HB0 := Lib.hid ((Below.refl w.heap.size w).alloc (Nat.le_refl _) (.cells (kc x.k x.o x.c x.l x.r x.v) 30))
  have HK0 := Lib.hid (Blk.new w 30 (kc x.k x.o x.c x.l x.r x.v))
  go_enter Tryd.func18, Tryd.ntmps18
  go_wp2_with (first
    | (go_at_call 33; refine (HPG.out _ HB0.out).mono ?_; rintro e w1 ⟨rfl, b1⟩; have HB1 := Lib.hid (HB0.out.trans (b1.mono HB0.out.size)); have HK1 := Lib.hid (HK0.out.keep b1); obtain ⟨c0, c1, c2, c3, c4, c5⟩ := HK1.out.six;  clear b1)
    | (go_at_call 34; refine (inside_any a n HLI.out _).mono ?_; rintro e w1' ⟨rfl, rfl⟩))
  go_ret2
  exact ⟨rfl, HB1.out⟩
set_option maxRecDepth 100000 in
set_option maxHeartbeats 2000000 in
theorem rread_yes {w : World} {A : Option Addr} {l : List Oj} {len cap : Nat} (hr : RdO w A l) (hn : l.length = len) (x : Ky) (j : Nat) (hj : j < l.length) (hxo : x.o = (j : Int)) (u : Oj) (hu : l[j] = u) (a n : Nat) (hi : a + n ≤ 64) (hpg : ∀ W, Below w.heap.size w W → Calls Tryd.prog 33 #[.slice A len cap, x.val, .bool false] W fun e w' => e = .returned (.int .i64 0) ∧ Below W.heap.size W w') :
    Calls Tryd.prog 18 #[.slice A len cap, x.val, .int .i64 (a : Int), .int .i64 (n : Int)] w fun e w' => e = .returned (.tuple #[.string (st ((u.b.drop a).take n)), .int .i64 0]) ∧ Below w.heap.size w w' := by
  obtain ⟨b, off, rfl, hob⟩ := hr j hj
  rw [hu] at hob
  have HPG := Lib.hid hpg
  have HLI := Lib.hid (show decide (inB (a : Int) (n : Int)) = true from decide_eq_true ⟨by omega, by omega, by omega⟩)
  have HOB := Lib.hid hob
  have hsl := run_cut b (off + j * 163 + 99) a n hi
  obtain ⟨s, hs⟩ : ∃ s, s = (u.b.drop a).take n := ⟨_, rfl⟩
  have hsn : s.length = n := by rw [hs]; exact cut_len u.hb hi
  rw [← hs]
  have HS := Lib.hid hs
  have HI := Lib.hid hi
  have HSN := Lib.hid hsn
  have dj : (j : Int) < (len : Int) := by omega
  have s0 : -9223372036854775808 ≤ (a : Int) + (n : Int) := by omega
  have s1 : (a : Int) + (n : Int) ≤ 9223372036854775807 := by omega
  have HB0 := Lib.hid ((Below.refl w.heap.size w).alloc (Nat.le_refl _) (.cells (kc x.k x.o x.c x.l x.r x.v) 30))
  have HK0 := Lib.hid (Blk.new w 30 (kc x.k x.o x.c x.l x.r x.v))
  have HXO := Lib.hid hxo
  clear hpg hi hr hn hob hs hsn hxo hu hj
  go_enter Tryd.func18, Tryd.ntmps18
  go_wp2_with (first
    | (go_at_call 33; refine (HPG.out _ HB0.out).mono ?_; rintro e w1 ⟨rfl, b1⟩; have HB1 := Lib.hid (HB0.out.trans (b1.mono HB0.out.size)); have HK1 := Lib.hid (HK0.out.keep b1); obtain ⟨c0, c1, c2, c3, c4, c5⟩ := HK1.out.six; have hcv := run_str (P := Tryd.prog) w1 Tryd.underlying50 Tryd.underlying5 Tryd.underlying9 (A := some (cutP b (off + j * 163 + 99) a)) (c := 64 - a) HSN.out (HS.out ▸ rd_cut ((HOB.out.below HB1.out).bytes) u.hb a n HI.out); rw [HXO.out] at c1; clear b1)
    | (go_at_call 34; refine (inside_any (a : Int) (n : Int) HLI.out _).mono ?_; rintro e w1' ⟨rfl, rfl⟩))
  go_ret2
  exact ⟨rfl, HB1.out⟩
set_option maxRecDepth 100000 in
set_option maxHeartbeats 2000000 in
theorem rwipe_err {w : World} {L : Value} (x : Ky) (m : Int) (hm : m ≠ 0) (hpg : ∀ W, Below w.heap.size w W → Calls Tryd.prog 33 #[L, x.val, .bool true] W fun e w' => e = .returned (.int .i64 m) ∧ Below W.heap.size W w') :
    Calls Tryd.prog 20 #[L, x.val] w fun e w' => e = .returned (.tuple #[L, .int .i64 m]) ∧ Below w.heap.size w w' := by
  have HPG := Lib.hid hpg
  clear hpg
  have HB0 := Lib.hid ((Below.refl w.heap.size w).alloc (Nat.le_refl _) (.cells (kc x.k x.o x.c x.l x.r x.v) 30))
  have HK0 := Lib.hid (Blk.new w 30 (kc x.k x.o x.c x.l x.r x.v))
  have dm : (m == 0) = false := by simpa using hm
  have dm2 : (m != 0) = true := by simpa using hm
  clear hm
  go_enter Tryd.func20, Tryd.ntmps20
  go_wp2_with (go_at_call 33; refine (HPG.out _ HB0.out).mono ?_; rintro e w1 ⟨rfl, b1⟩; have HB1 := Lib.hid (HB0.out.trans (b1.mono HB0.out.size)); have HK1 := Lib.hid (HK0.out.keep b1); obtain ⟨c0, c1, c2, c3, c4, c5⟩ := HK1.out.six;  clear b1)
  go_ret2
  exact ⟨rfl, HB1.out⟩
set_option maxRecDepth 100000 in
set_option maxHeartbeats 4000000 in
theorem rwipe_yes {w : World} {A : Option Addr} {l : List Oj} {n cap : Nat} (hr : RdO w A l) (hn : l.length = n) (hl : n ≤ 1000) (x : Ky) (j : Nat) (hj : j < l.length) (hxo : x.o = (j : Int)) (u : Oj) (hu : l[j] = u) (hpg : ∀ W, Below w.heap.size w W → Calls Tryd.prog 33 #[.slice A n cap, x.val, .bool true] W fun e w' => e = .returned (.int .i64 0) ∧ Below W.heap.size W w') :
    Calls Tryd.prog 20 #[.slice A n cap, x.val] w fun e w' => ∃ g c, e = .returned (.tuple #[.slice (some ⟨g, 0, none⟩) n c, .int .i64 0]) ∧ w.heap.size ≤ g ∧ RdO w' (some ⟨g, 0, none⟩) (l.set j (bAs u zbs rfl)) ∧ Below w.heap.size w w' := by
  obtain ⟨b, off, rfl, hob⟩ := hr j hj
  have HPG := Lib.hid hpg
  have M0 := Lib.hid True.intro
  have HR := Lib.hid hr
  rw [hu] at hob
  have HOB := Lib.hid hob
  have HN := Lib.hid hn
  have HL := Lib.hid hl
  have HJ := Lib.hid (show j < n by omega)
  have HXO := Lib.hid hxo
  have dj : (j : Int) < (n : Int) := by omega
  have hz := z34
  have hbl := oz_len
  obtain ⟨U, hU⟩ : ∃ U, bAs u zbs rfl = U := ⟨_, rfl⟩
  rw [hU]
  have HFT := Lib.hid (show 99 + (bv zbs).length ≤ u.cells.length by rw [u.len, bv_length, show zbs.length = 64 from rfl]; decide)
  have HUE := Lib.hid (show u.cells.take 99 ++ bv zbs ++ u.cells.drop (99 + (bv zbs).length) = U.cells from hU ▸ cells_bytes u _ _)
  have HB0 := Lib.hid ((Below.refl w.heap.size w).alloc (Nat.le_refl _) (.cells (kc x.k x.o x.c x.l x.r x.v) 30))
  have HK0 := Lib.hid (Blk.new w 30 (kc x.k x.o x.c x.l x.r x.v))
  clear hpg hr hn hl hob hxo hj hu hU
  go_enter Tryd.func20, Tryd.ntmps20
  go_wp2_with (first
    | (go_at_call 33; refine (HPG.out _ HB0.out).mono ?_; rintro e w1 ⟨rfl, b1⟩; have HB1 := Lib.hid (HB0.out.trans (b1.mono HB0.out.size)); have HK1 := Lib.hid (HK0.out.keep b1); obtain ⟨c0, c1, c2, c3, c4, c5⟩ := HK1.out.six; have HK1' := Lib.hid (HK1.out.alloc (.cells u.cells.toArray 49)); have HU := Lib.hid (Blk.new w1 49 u.cells.toArray); have HBU := Lib.hid (HB1.out.alloc HB1.out.size (.cells u.cells.toArray 49)); have HRU := Lib.hid (HR.out.below HBU.out); have HOB1 := Lib.hid (HOB.out.below HB1.out); rw [HXO.out] at c1; clear b1)
    | (show wpList _ _ _ ({ dst := some 19, op := .load 49 (.tmp 18), type := _, pos := _, after := _, guard := _ } :: _) _ _; refine wpList_yields (S := fun w' => ObAt w' b (off + j * 163) u) (y_ob (by rfl) (.tmp 18) (by rfl) b (off + j * 163) (by rfl) u (fun _ h => h)) HOB1.out ?_)
    | (show wpList _ _ _ ({ dst := none, op := .store _ (.tmp 7) (.tmp 19), type := _, pos := _, after := _, guard := _ } :: _) _ _; refine wpList_store_last rfl (.tmp 7) (.tmp 19) rfl _ rfl rfl u oz rfl ?_)
    | (show wpList _ _ _ ({ dst := some 20, op := .build _ _, type := _, pos := _, after := _, guard := _ } :: _) _ _; refine wpList_yields (S := fun _ => True) (y_build (by rfl) (by rfl) built32) trivial ?_)
    | (show wpList _ _ _ ({ dst := none, op := .store _ (.tmp 21) (.tmp 20), type := _, pos := _, after := _, guard := _ } :: _) _ _; refine wpList_store_in HU.out rfl (.tmp 21) (.tmp 20) (ty := 47) (l := bv zbs) (off := 99) (by rfl) (by rfl) (by rfl) (by rw [bv_length, show zbs.length = 64 from rfl]; exact size32) HFT.out (bv_one _) HUE.out ?_; have HU2 := Lib.hid (HU.out.setRow U.cells.toArray); have HBU2 := Lib.hid (below_setRow HBU.out HB1.out.size U.cells.toArray); have HRU2 := Lib.hid (HR.out.below HBU2.out); have HKN := Lib.hid (Blk.row_far HK1'.out (show w.heap.size ≠ w1.heap.size by have := HK1.out.lt; omega) U.cells.toArray); have e1 := HKN.out.six.2.1; rw [HXO.out] at e1)
    | (show wpList _ _ _ ({ dst := some 25, op := .load 49 (.tmp 7), type := _, pos := _, after := _, guard := _ } :: _) _ _; refine wpList_yields (S := fun w' => ObAt w' w1.heap.size 0 U) (y_ob (by rfl) (.tmp 7) (by rfl) w1.heap.size 0 (by rfl) U (fun _ h => h)) HU2.out.ob ?_)
    | (go_at_call 35; refine (rput_any HRU2.out HN.out HL.out j HJ.out U rfl).mono ?_; rintro e w5 ⟨g5, c5', rfl, hg5, hr5, b5⟩; have HR5 := Lib.hid hr5; have HG5 := Lib.hid hg5; have HB5 := Lib.hid (HBU2.out.trans (b5.mono HBU2.out.size)); clear hr5 hg5 b5))
  go_ret2
  exact ⟨g5, c5', rfl, by have := HBU2.out.size; have := HG5.out; omega, HR5.out, HB5.out⟩
set_option maxRecDepth 100000 in
set_option maxHeartbeats 2000000 in
theorem rcopy_err {w : World} {L : Value} (x : Ky) (y : Ky) (m : Int) (hm : m ≠ 0) (hpg : ∀ W, Below w.heap.size w W → Calls Tryd.prog 33 #[L, x.val, .bool true] W fun e w' => e = .returned (.int .i64 m) ∧ Below W.heap.size W w') :
    Calls Tryd.prog 21 #[L, x.val, y.val] w fun e w' => e = .returned (.tuple #[L, .int .i64 m]) ∧ Below w.heap.size w w' := by
  have HPG := Lib.hid hpg
  clear hpg
  have HB0 := Lib.hid (((Below.refl w.heap.size w).alloc (Nat.le_refl _) (.cells (kc x.k x.o x.c x.l x.r x.v) 30)).alloc (by simp) (.cells (kc y.k y.o y.c y.l y.r y.v) 30))
  have HK0 := Lib.hid ((Blk.new w 30 (kc x.k x.o x.c x.l x.r x.v)).alloc (.cells (kc y.k y.o y.c y.l y.r y.v) 30))
  have HY0 := Lib.hid (Blk.new_of (w.alloc (.cells (kc x.k x.o x.c x.l x.r x.v) 30)) 30 (kc y.k y.o y.c y.l y.r y.v) (g := w.heap.size + 1) (by simp))
  have dm : (m == 0) = false := by simpa using hm
  have dm2 : (m != 0) = true := by simpa using hm
  clear hm
  go_enter Tryd.func21, Tryd.ntmps21
  go_wp2_with (go_at_call 33; refine (HPG.out _ HB0.out).mono ?_; rintro e w1 ⟨rfl, b1⟩; have HB1 := Lib.hid (HB0.out.trans (b1.mono HB0.out.size)); have HK1 := Lib.hid (HK0.out.keep b1); obtain ⟨c0, c1, c2, c3, c4, c5⟩ := HK1.out.six; have HY1 := Lib.hid (HY0.out.keep b1); obtain ⟨d0, d1, d2, d3, d4, d5⟩ := HY1.out.six; clear b1)
  go_ret2
  exact ⟨rfl, HB1.out⟩
set_option maxRecDepth 100000 in
set_option maxHeartbeats 2000000 in
theorem rcopy_from {w : World} {L : Value} (x : Ky) (y : Ky) (m : Int) (hm : m ≠ 0) (hpg : ∀ W, Below w.heap.size w W → Calls Tryd.prog 33 #[L, x.val, .bool true] W fun e w' => e = .returned (.int .i64 0) ∧ Below W.heap.size W w') (hpg2 : ∀ W, Below w.heap.size w W → Calls Tryd.prog 33 #[L, y.val, .bool false] W fun e w' => e = .returned (.int .i64 m) ∧ Below W.heap.size W w') :
    Calls Tryd.prog 21 #[L, x.val, y.val] w fun e w' => e = .returned (.tuple #[L, .int .i64 m]) ∧ Below w.heap.size w w' := by
  have HPG := Lib.hid hpg
  have HPG2 := Lib.hid hpg2
  have M0 := Lib.hid True.intro
  clear hpg hpg2
  have HB0 := Lib.hid (((Below.refl w.heap.size w).alloc (Nat.le_refl _) (.cells (kc x.k x.o x.c x.l x.r x.v) 30)).alloc (by simp) (.cells (kc y.k y.o y.c y.l y.r y.v) 30))
  have HK0 := Lib.hid ((Blk.new w 30 (kc x.k x.o x.c x.l x.r x.v)).alloc (.cells (kc y.k y.o y.c y.l y.r y.v) 30))
  have HY0 := Lib.hid (Blk.new_of (w.alloc (.cells (kc x.k x.o x.c x.l x.r x.v) 30)) 30 (kc y.k y.o y.c y.l y.r y.v) (g := w.heap.size + 1) (by simp))
  have dm : (m == 0) = false := by simpa using hm
  have dm2 : (m != 0) = true := by simpa using hm
  clear hm
  go_enter Tryd.func21, Tryd.ntmps21
  go_wp2_with (first
    | (clear M0; go_at_call 33; refine (HPG.out _ HB0.out).mono ?_; rintro e w1 ⟨rfl, b1⟩; have HB1 := Lib.hid (HB0.out.trans (b1.mono HB0.out.size)); have HK1 := Lib.hid (HK0.out.keep b1); obtain ⟨c0, c1, c2, c3, c4, c5⟩ := HK1.out.six; have HY1 := Lib.hid (HY0.out.keep b1); obtain ⟨d0, d1, d2, d3, d4, d5⟩ := HY1.out.six; clear b1)
    | (go_at_call 33; refine (HPG2.out _ HB1.out).mono ?_; rintro e w2 ⟨rfl, b2⟩; have HB2 := Lib.hid (HB1.out.trans (b2.mono HB1.out.size)); clear b2))
  go_ret2
  exact ⟨rfl, HB2.out⟩
set_option maxRecDepth 100000 in
set_option maxHeartbeats 4000000 in
theorem rcopy_yes {w : World} {A : Option Addr} {l : List Oj} {n cap : Nat} (hr : RdO w A l) (hn : l.length = n) (hl : n ≤ 1000) (x : Ky) (y : Ky) (j : Nat) (hj : j < l.length) (hxo : x.o = (j : Int)) (u : Oj) (hu : l[j] = u) (m : Nat) (hm : m < l.length) (hyo : y.o = (m : Int)) (v : Oj) (hv : l[m] = v) (hpg : ∀ W, Below w.heap.size w W → Calls Tryd.prog 33 #[.slice A n cap, x.val, .bool true] W fun e w' => e = .returned (.int .i64 0) ∧ Below W.heap.size W w') (hpg2 : ∀ W, Below w.heap.size w W → Calls Tryd.prog 33 #[.slice A n cap, y.val, .bool false] W fun e w' => e = .returned (.int .i64 0) ∧ Below W.heap.size W w') :
    Calls Tryd.prog 21 #[.slice A n cap, x.val, y.val] w fun e w' => ∃ g c, e = .returned (.tuple #[.slice (some ⟨g, 0, none⟩) n c, .int .i64 0]) ∧ w.heap.size ≤ g ∧ RdO w' (some ⟨g, 0, none⟩) (l.set j (bAs u v.b v.hb)) ∧ Below w.heap.size w w' := by
  obtain ⟨b, off, rfl, hob⟩ := hr j hj
  have HPG := Lib.hid hpg
  have HPG2 := Lib.hid hpg2
  have M0 := Lib.hid True.intro
  have HR := Lib.hid hr
  rw [hu] at hob
  have HOB := Lib.hid hob
  have HN := Lib.hid hn
  have HL := Lib.hid hl
  have HJ := Lib.hid (show j < n by omega)
  have HXO := Lib.hid hxo
  have dj : (j : Int) < (n : Int) := by omega
  have hz := z34
  have hbl := oz_len
  obtain ⟨b2, off2, e2, hov⟩ := hr m hm
  injection e2 with e2
  injection e2 with e2 e3
  subst e2 e3
  rw [hv] at hov
  have HOV := Lib.hid hov
  have HYO := Lib.hid hyo
  have dm : (m : Int) < (n : Int) := by omega
  clear hov hv hm hyo
  obtain ⟨U, hU⟩ : ∃ U, bAs u v.b v.hb = U := ⟨_, rfl⟩
  rw [hU]
  have HFT := Lib.hid (show 99 + (bv v.b).length ≤ u.cells.length by rw [u.len, bv_length, v.hb]; decide)
  have HUE := Lib.hid (show u.cells.take 99 ++ bv v.b ++ u.cells.drop (99 + (bv v.b).length) = U.cells from hU ▸ cells_bytes u _ _)
  have HB0 := Lib.hid (((Below.refl w.heap.size w).alloc (Nat.le_refl _) (.cells (kc x.k x.o x.c x.l x.r x.v) 30)).alloc (by simp) (.cells (kc y.k y.o y.c y.l y.r y.v) 30))
  have HK0 := Lib.hid ((Blk.new w 30 (kc x.k x.o x.c x.l x.r x.v)).alloc (.cells (kc y.k y.o y.c y.l y.r y.v) 30))
  have HY0 := Lib.hid (Blk.new_of (w.alloc (.cells (kc x.k x.o x.c x.l x.r x.v) 30)) 30 (kc y.k y.o y.c y.l y.r y.v) (g := w.heap.size + 1) (by simp))
  clear hpg hpg2 hr hn hl hob hxo hj hu hU
  go_enter Tryd.func21, Tryd.ntmps21
  go_wp2_with (first
    | (clear M0; go_at_call 33; refine (HPG.out _ HB0.out).mono ?_; rintro e w1 ⟨rfl, b1⟩; have HB1 := Lib.hid (HB0.out.trans (b1.mono HB0.out.size)); have HK1 := Lib.hid (HK0.out.keep b1); obtain ⟨c0, c1, c2, c3, c4, c5⟩ := HK1.out.six; have HY1 := Lib.hid (HY0.out.keep b1); obtain ⟨d0, d1, d2, d3, d4, d5⟩ := HY1.out.six; clear b1)
    | (go_at_call 33; refine (HPG2.out _ HB1.out).mono ?_; rintro e w2 ⟨rfl, b2⟩; have HB2 := Lib.hid (HB1.out.trans (b2.mono HB1.out.size)); have HK2 := Lib.hid (HK1.out.keep b2); have HY2 := Lib.hid (HY1.out.keep b2); clear c0 c1 c2 c3 c4 c5 d0 d1 d2 d3 d4 d5; obtain ⟨c0, c1, c2, c3, c4, c5⟩ := HK2.out.six; obtain ⟨d0, d1, d2, d3, d4, d5⟩ := HY2.out.six; have HK2' := Lib.hid (HK2.out.alloc (.cells u.cells.toArray 49)); have HU := Lib.hid (Blk.new w2 49 u.cells.toArray); have HBU := Lib.hid (HB2.out.alloc HB2.out.size (.cells u.cells.toArray 49)); have HRU := Lib.hid (HR.out.below HBU.out); have HOB1 := Lib.hid (HOB.out.below HB2.out); have HOV1 := Lib.hid (HOV.out.below HBU.out); rw [HXO.out] at c1; have HYN := Lib.hid (HY2.out.alloc (.cells u.cells.toArray 49)); have f1 := HYN.out.six.2.1; rw [HYO.out] at f1; clear b2 d0 d1 d2 d3 d4 d5)
    | (show wpList _ _ _ ({ dst := some 26, op := .load 49 (.tmp 25), type := _, pos := _, after := _, guard := _ } :: _) _ _; refine wpList_yields (S := fun w' => ObAt w' b (off + j * 163) u) (y_ob (by rfl) (.tmp 25) (by rfl) b (off + j * 163) (by rfl) u (fun _ h => h)) HOB1.out ?_)
    | (show wpList _ _ _ ({ dst := none, op := .store _ (.tmp 9) (.tmp 26), type := _, pos := _, after := _, guard := _ } :: _) _ _; refine wpList_store_last rfl (.tmp 9) (.tmp 26) rfl _ rfl rfl u oz rfl ?_)
    | (show wpList _ _ _ ({ dst := some 32, op := .load 47 (.tmp 31), type := _, pos := _, after := _, guard := _ } :: _) _ _; refine wpList_yields (S := fun w' => w'.rangeAt b (off + m * 163 + 99) (bv v.b)) (y_bs (by rfl) (.tmp 31) (by rfl) b (off + m * 163 + 99) (by rfl) v.b v.hb (fun _ h => h)) HOV1.out.bytes ?_)
    | (show wpList _ _ _ ({ dst := none, op := .store _ (.tmp 33) (.tmp 32), type := _, pos := _, after := _, guard := _ } :: _) _ _; refine wpList_store_in HU.out rfl (.tmp 33) (.tmp 32) (ty := 47) (l := bv v.b) (off := 99) (by rfl) (by rfl) (by rfl) (by rw [bv_length, v.hb]; exact size32) HFT.out (bv_one _) HUE.out ?_; have HU2 := Lib.hid (HU.out.setRow U.cells.toArray); have HBU2 := Lib.hid (below_setRow HBU.out HB2.out.size U.cells.toArray); have HRU2 := Lib.hid (HR.out.below HBU2.out); have HKN := Lib.hid (Blk.row_far HK2'.out (show w.heap.size ≠ w2.heap.size by have := HK2.out.lt; omega) U.cells.toArray); have e1 := HKN.out.six.2.1; rw [HXO.out] at e1)
    | (show wpList _ _ _ ({ dst := some 37, op := .load 49 (.tmp 9), type := _, pos := _, after := _, guard := _ } :: _) _ _; refine wpList_yields (S := fun w' => ObAt w' w2.heap.size 0 U) (y_ob (by rfl) (.tmp 9) (by rfl) w2.heap.size 0 (by rfl) U (fun _ h => h)) HU2.out.ob ?_)
    | (go_at_call 35; refine (rput_any HRU2.out HN.out HL.out j HJ.out U rfl).mono ?_; rintro e w5 ⟨g5, c5', rfl, hg5, hr5, b5⟩; have HR5 := Lib.hid hr5; have HG5 := Lib.hid hg5; have HB5 := Lib.hid (HBU2.out.trans (b5.mono HBU2.out.size)); clear hr5 hg5 b5))
  go_ret2
  exact ⟨g5, c5', rfl, by have := HBU2.out.size; have := HG5.out; omega, HR5.out, HB5.out⟩
end Go.Proofs.YtedlacdijkggjaaDoor

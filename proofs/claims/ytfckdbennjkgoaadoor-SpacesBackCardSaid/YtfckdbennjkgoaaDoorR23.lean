/- The document's answers: Asked of a page, Page, inside, Read, Wipe, Copy. -/
import Derived.Test.YtfckdbennjkgoaaDoorR22
namespace Go.Proofs.YtfckdbennjkgoaaDoor
open Go.RowKit
section
variable {w : World} {A : Option Addr} {l : List Oj} {n cap : Nat}
set_option maxRecDepth 100000 in
set_option maxHeartbeats 2000000 in
theorem rask3_un (hr : RdO w A l) (hn : l.length = n) (hl : n ≤ 1000) (h0 : 0 < n) (x : Ky) (hx : (named l x).isSome = false) :
    Calls Tryd.prog 88 #[.slice A n cap, x.val, .int .i64 3, .bool false] w fun e w' => e = .returned (.int .i64 190) ∧ Below w.heap.size w w' := by
  have HR := Lib.hid (hr.alloc (.cells (kc x.k x.o x.c x.l x.r x.v) 31))
  have HB0 := Lib.hid ((Below.refl w.heap.size w).alloc (Nat.le_refl _) (.cells (kc x.k x.o x.c x.l x.r x.v) 31))
  have HK0 := Lib.hid (Blk.new w 31 (kc x.k x.o x.c x.l x.r x.v))
  have HN := Lib.hid hn
  have HL := Lib.hid hl
  have dl : ((n : Int) == 0) = false := by simp; omega
  have dn : n ≠ 0 := by omega
  have HX := Lib.hid hx
  clear hr hn hl h0 hx
  go_enter Tryd.func88, Tryd.ntmps88
  go_wp2_with (go_at_call 27; refine (rcn_n HR.out HN.out HL.out x HX.out).mono ?_; rintro e w1 ⟨rfl, b1⟩; have HB1 := Lib.hid (HB0.out.trans (b1.mono HB0.out.size)); have HK1 := Lib.hid (HK0.out.keep b1); obtain ⟨c0, c1, c2, c3, c4, c5⟩ := HK1.out.six; clear b1)
  go_ret
  exact ⟨rfl, HB1.out⟩
set_option maxRecDepth 100000 in
set_option maxHeartbeats 2000000 in
theorem rask3_kind (hr : RdO w A l) (hn : l.length = n) (hl : n ≤ 1000) (h0 : 0 < n) (x : Ky) (hx : (named l x).isSome = true) (hk : x.k ≠ 3) :
    Calls Tryd.prog 88 #[.slice A n cap, x.val, .int .i64 3, .bool false] w fun e w' => e = .returned (.int .i64 190) ∧ Below w.heap.size w w' := by
  have HR := Lib.hid (hr.alloc (.cells (kc x.k x.o x.c x.l x.r x.v) 31))
  have HB0 := Lib.hid ((Below.refl w.heap.size w).alloc (Nat.le_refl _) (.cells (kc x.k x.o x.c x.l x.r x.v) 31))
  have HK0 := Lib.hid (Blk.new w 31 (kc x.k x.o x.c x.l x.r x.v))
  have HN := Lib.hid hn
  have HL := Lib.hid hl
  have dl : ((n : Int) == 0) = false := by simp; omega
  have dn : n ≠ 0 := by omega
  have HX := Lib.hid hx
  have dk : (x.k != 3) = true := by simpa using hk
  clear hk
  clear hr hn hl h0 hx
  go_enter Tryd.func88, Tryd.ntmps88
  go_wp2_with (go_at_call 27; refine (rcn_n HR.out HN.out HL.out x HX.out).mono ?_; rintro e w1 ⟨rfl, b1⟩; have HB1 := Lib.hid (HB0.out.trans (b1.mono HB0.out.size)); have HK1 := Lib.hid (HK0.out.keep b1); obtain ⟨c0, c1, c2, c3, c4, c5⟩ := HK1.out.six; clear b1)
  go_ret
  exact ⟨rfl, HB1.out⟩
set_option maxRecDepth 100000 in
set_option maxHeartbeats 2000000 in
theorem rask3_yes (hr : RdO w A l) (hn : l.length = n) (hl : n ≤ 1000) (h0 : 0 < n) (x : Ky) (hx : (named l x).isSome = true) (hk : x.k = 3) :
    Calls Tryd.prog 88 #[.slice A n cap, x.val, .int .i64 3, .bool false] w fun e w' => e = .returned (.int .i64 0) ∧ Below w.heap.size w w' := by
  have HR := Lib.hid (hr.alloc (.cells (kc x.k x.o x.c x.l x.r x.v) 31))
  have HB0 := Lib.hid ((Below.refl w.heap.size w).alloc (Nat.le_refl _) (.cells (kc x.k x.o x.c x.l x.r x.v) 31))
  have HK0 := Lib.hid (Blk.new w 31 (kc x.k x.o x.c x.l x.r x.v))
  have HN := Lib.hid hn
  have HL := Lib.hid hl
  have dl : ((n : Int) == 0) = false := by simp; omega
  have dn : n ≠ 0 := by omega
  have HX := Lib.hid hx
  have dk : (x.k != 3) = false := by simpa using hk
  clear hk
  clear hr hn hl h0 hx
  go_enter Tryd.func88, Tryd.ntmps88
  go_wp2_with (go_at_call 27; refine (rcn_n HR.out HN.out HL.out x HX.out).mono ?_; rintro e w1 ⟨rfl, b1⟩; have HB1 := Lib.hid (HB0.out.trans (b1.mono HB0.out.size)); have HK1 := Lib.hid (HK0.out.keep b1); obtain ⟨c0, c1, c2, c3, c4, c5⟩ := HK1.out.six; clear b1)
  go_ret
  exact ⟨rfl, HB1.out⟩
end
set_option maxRecDepth 100000 in
set_option maxHeartbeats 2000000 in
theorem rpage_err {w : World} {L : Value} (x : Ky) (ch : Bool) (m : Int) (hm : m ≠ 0) (hask : ∀ W, Below w.heap.size w W → Calls Tryd.prog 88 #[L, x.val, .int .i64 3, .bool false] W fun e w' => e = .returned (.int .i64 m) ∧ Below W.heap.size W w') :
    Calls Tryd.prog 70 #[L, x.val, .bool ch] w fun e w' => e = .returned (.int .i64 m) ∧ Below w.heap.size w w' := by
  have HA := Lib.hid hask
  clear hask
  have HB0 := Lib.hid ((Below.refl w.heap.size w).alloc (Nat.le_refl _) (.cells (kc x.k x.o x.c x.l x.r x.v) 31))
  have HK0 := Lib.hid (Blk.new w 31 (kc x.k x.o x.c x.l x.r x.v))
  have dm : (m == 0) = false := by simpa using hm
  clear hm
  go_enter Tryd.func70, Tryd.ntmps70
  go_wp2_with (go_at_call 88; refine (HA.out _ HB0.out).mono ?_; rintro e w1 ⟨rfl, b1⟩; have HB1 := Lib.hid (HB0.out.trans (b1.mono HB0.out.size)); have HK1 := Lib.hid (HK0.out.keep b1); obtain ⟨c0, c1, c2, c3, c4, c5⟩ := HK1.out.six; clear b1)
  go_ret
  exact ⟨rfl, HB1.out⟩
set_option maxRecDepth 100000 in
set_option maxHeartbeats 2000000 in
theorem rpage_f {w : World} {L : Value} (x : Ky) (ch : Bool) (hc : ch = false) (hask : ∀ W, Below w.heap.size w W → Calls Tryd.prog 88 #[L, x.val, .int .i64 3, .bool false] W fun e w' => e = .returned (.int .i64 0) ∧ Below W.heap.size W w') :
    Calls Tryd.prog 70 #[L, x.val, .bool ch] w fun e w' => e = .returned (.int .i64 0) ∧ Below w.heap.size w w' := by
  have HA := Lib.hid hask
  clear hask
  have HB0 := Lib.hid ((Below.refl w.heap.size w).alloc (Nat.le_refl _) (.cells (kc x.k x.o x.c x.l x.r x.v) 31))
  have HK0 := Lib.hid (Blk.new w 31 (kc x.k x.o x.c x.l x.r x.v))
  subst hc
  go_enter Tryd.func70, Tryd.ntmps70
  go_wp2_with (go_at_call 88; refine (HA.out _ HB0.out).mono ?_; rintro e w1 ⟨rfl, b1⟩; have HB1 := Lib.hid (HB0.out.trans (b1.mono HB0.out.size)); have HK1 := Lib.hid (HK0.out.keep b1); obtain ⟨c0, c1, c2, c3, c4, c5⟩ := HK1.out.six; clear b1)
  go_ret
  exact ⟨rfl, HB1.out⟩
set_option maxRecDepth 100000 in
set_option maxHeartbeats 2000000 in
theorem rpage_r {w : World} {L : Value} (x : Ky) (ch : Bool) (hc : ch = true) (hr : x.r ≠ 0) (hask : ∀ W, Below w.heap.size w W → Calls Tryd.prog 88 #[L, x.val, .int .i64 3, .bool false] W fun e w' => e = .returned (.int .i64 0) ∧ Below W.heap.size W w') :
    Calls Tryd.prog 70 #[L, x.val, .bool ch] w fun e w' => e = .returned (.int .i64 191) ∧ Below w.heap.size w w' := by
  have HA := Lib.hid hask
  clear hask
  have HB0 := Lib.hid ((Below.refl w.heap.size w).alloc (Nat.le_refl _) (.cells (kc x.k x.o x.c x.l x.r x.v) 31))
  have HK0 := Lib.hid (Blk.new w 31 (kc x.k x.o x.c x.l x.r x.v))
  subst hc
  have dr : (x.r != 0) = true := by simpa using hr
  clear hr
  go_enter Tryd.func70, Tryd.ntmps70
  go_wp2_with (go_at_call 88; refine (HA.out _ HB0.out).mono ?_; rintro e w1 ⟨rfl, b1⟩; have HB1 := Lib.hid (HB0.out.trans (b1.mono HB0.out.size)); have HK1 := Lib.hid (HK0.out.keep b1); obtain ⟨c0, c1, c2, c3, c4, c5⟩ := HK1.out.six; clear b1)
  go_ret
  exact ⟨rfl, HB1.out⟩
set_option maxRecDepth 100000 in
set_option maxHeartbeats 2000000 in
theorem rpage_y {w : World} {L : Value} (x : Ky) (ch : Bool) (hc : ch = true) (hr : x.r = 0) (hask : ∀ W, Below w.heap.size w W → Calls Tryd.prog 88 #[L, x.val, .int .i64 3, .bool false] W fun e w' => e = .returned (.int .i64 0) ∧ Below W.heap.size W w') :
    Calls Tryd.prog 70 #[L, x.val, .bool ch] w fun e w' => e = .returned (.int .i64 0) ∧ Below w.heap.size w w' := by
  have HA := Lib.hid hask
  clear hask
  have HB0 := Lib.hid ((Below.refl w.heap.size w).alloc (Nat.le_refl _) (.cells (kc x.k x.o x.c x.l x.r x.v) 31))
  have HK0 := Lib.hid (Blk.new w 31 (kc x.k x.o x.c x.l x.r x.v))
  subst hc
  have dr : (x.r != 0) = false := by simpa using hr
  clear hr
  go_enter Tryd.func70, Tryd.ntmps70
  go_wp2_with (go_at_call 88; refine (HA.out _ HB0.out).mono ?_; rintro e w1 ⟨rfl, b1⟩; have HB1 := Lib.hid (HB0.out.trans (b1.mono HB0.out.size)); have HK1 := Lib.hid (HK0.out.keep b1); obtain ⟨c0, c1, c2, c3, c4, c5⟩ := HK1.out.six; clear b1)
  go_ret
  exact ⟨rfl, HB1.out⟩
set_option maxRecDepth 8000 in
set_option maxHeartbeats 2000000 in
theorem inside_any (a n : Int) {b : Bool} (hb : decide (inB a n) = b) (w : World) :
    Calls Tryd.prog 71 #[.int .i64 a, .int .i64 n] w fun e w' => e = .returned (.bool b) ∧ w = w' := by
  subst hb
  by_cases h0 : 0 ≤ a
  · have e0 : decide (0 ≤ a) = true := decide_eq_true h0
    by_cases h1 : 0 ≤ n
    · have e1 : decide (0 ≤ n) = true := decide_eq_true h1
      by_cases h2 : a ≤ 64
      · have e2 : decide (a ≤ 64) = true := decide_eq_true h2
        by_cases h3 : n ≤ 64
        · have e3 : decide (n ≤ 64) = true := decide_eq_true h3
          have e4 : decide (inB a n) = decide (a + n ≤ 64) := decide_eq_decide.2 ⟨fun h => by have := h.2.2; omega, fun h => ⟨h0, h1, by omega⟩⟩
          rw [e4]
          obtain ⟨m, hm⟩ : ∃ m : Int, m = a + n := ⟨_, rfl⟩
          have e5 : -9223372036854775808 ≤ m := by omega
          have e6 : m ≤ 9223372036854775807 := by omega
          have e7 : a + n = m := hm.symm
          rw [e7]
          clear h0 h1 h2 h3 e4 hm
          go_enter Tryd.func71, Tryd.ntmps71
          go_wp2_with fail
          go_ret
          exact ⟨rfl, rfl⟩
        · have e3 : decide (n ≤ 64) = false := decide_eq_false h3
          rw [show decide (inB a n) = false from decide_eq_false fun h => by have := h.1; have := h.2.2; omega]
          clear h0 h1 h2 h3
          go_enter Tryd.func71, Tryd.ntmps71
          go_wp2_with fail
          go_ret
          exact ⟨rfl, rfl⟩
      · have e2 : decide (a ≤ 64) = false := decide_eq_false h2
        rw [show decide (inB a n) = false from decide_eq_false fun h => by have := h.2.1; have := h.2.2; omega]
        clear h0 h1 h2
        go_enter Tryd.func71, Tryd.ntmps71
        go_wp2_with fail
        go_ret
        exact ⟨rfl, rfl⟩
    · have e1 : decide (0 ≤ n) = false := decide_eq_false h1
      rw [show decide (inB a n) = false from decide_eq_false fun h => h1 h.2.1]
      clear h0 h1
      go_enter Tryd.func71, Tryd.ntmps71
      go_wp2_with fail
      go_ret
      exact ⟨rfl, rfl⟩
  · have e0 : decide (0 ≤ a) = false := decide_eq_false h0
    rw [show decide (inB a n) = false from decide_eq_false fun h => h0 h.1]
    clear h0
    go_enter Tryd.func71, Tryd.ntmps71
    go_wp2_with fail
    go_ret
    exact ⟨rfl, rfl⟩
end Go.Proofs.YtfckdbennjkgoaaDoor
namespace Go.Proofs.YtfckdbennjkgoaaDoor
open Go.RowKit
set_option maxRecDepth 8000 in
theorem lay_set (b : List UInt8) (a : Nat) (s : List UInt8) (i : Nat) (hi : i < s.length) (h : a + s.length ≤ b.length) : (lay b a (s.take i)).set (a + i) s[i] = lay b a (s.take (i + 1)) := by
  have hl : (b.take a).length = a := by simp; omega
  have hl2 : (b.take a ++ s.take i).length = a + i := by simp; omega
  unfold lay
  have e1 : (s.take i).length = i := by simp; omega
  have e2 : (s.take (i + 1)).length = i + 1 := by simp; omega
  rw [e1, e2, List.set_append_right _ _ (by omega), hl2, Nat.sub_self]
  have hd : b.drop (a + i) = b[a + i]'(by omega) :: b.drop (a + (i + 1)) := by
    rw [List.drop_eq_getElem_cons (by omega)]
    rfl
  rw [hd, List.set_cons_zero, List.take_succ_eq_append_getElem hi]
  simp only [List.append_assoc, List.cons_append, List.nil_append]
set_option maxRecDepth 8000 in
theorem lay_nil (b : List UInt8) (a : Nat) (s : List UInt8) : lay b a (s.take 0) = b := by simp [lay]
/-- an object with bytes laid over: all, so long as they fit -/
def layO (u : Oj) (a : Nat) (s : List UInt8) : Oj := if h : a + s.length ≤ 64 then bAs u (lay u.b a s) (by rw [lay_len (by rw [u.hb]; exact h)]; exact u.hb) else u
set_option maxRecDepth 8000 in
theorem layO_b {u : Oj} {a : Nat} {s : List UInt8} (h : a + s.length ≤ 64) : (layO u a s).b = lay u.b a s := by unfold layO; rw [dif_pos h]; rfl
set_option maxRecDepth 8000 in
theorem layO_eq {u : Oj} {a : Nat} {s : List UInt8} (h : a + s.length ≤ 64) (hl : (lay u.b a s).length = 64) : layO u a s = bAs u (lay u.b a s) hl := by unfold layO; rw [dif_pos h]
set_option maxRecDepth 8000 in
theorem layO_nil (u : Oj) (a : Nat) (ha : a ≤ 64) (s : List UInt8) : layO u a (s.take 0) = u := by
  unfold layO
  rw [dif_pos (by simpa using ha)]
  obtain ⟨k, c, l, t, b, hs, hb⟩ := u
  simp only [bAs, lay_nil]
set_option maxRecDepth 8000 in
theorem layO_set (u : Oj) (a : Nat) (s : List UInt8) (i : Nat) (hi : i < s.length) (h : a + s.length ≤ 64) : (layO u a (s.take i)).cells.set (99 + (a + i)) (.int .u8 ((s[i]).toNat : Int)) = (layO u a (s.take (i + 1))).cells := by
  have e1 : a + (s.take i).length ≤ 64 := by simp; omega
  have e2 : a + (s.take (i + 1)).length ≤ 64 := by simp; omega
  unfold layO
  rw [dif_pos e1, dif_pos e2]
  have f : ∀ (l : List UInt8) (hl : l.length = 64), (bAs u l hl).cells = ([.int .i64 u.k, .int .i64 u.c, .int .i64 u.l] ++ kcs u.s) ++ bv l := fun l hl => by simp [Oj.cells, bAs]
  rw [f, f, List.set_append_right _ _ (by simp [kcs_length, u.hs])]
  have e3 : 99 + (a + i) - ([Value.int .i64 u.k, .int .i64 u.c, .int .i64 u.l] ++ kcs u.s).length = a + i := by simp [kcs_length, u.hs]
  rw [e3, ← lay_set u.b a s i hi (by rw [u.hb]; exact h)]
  simp [bv, List.map_set]
set_option maxRecDepth 100000 in
set_option maxHeartbeats 2000000 in
theorem rwrite_err {w : World} {L : Value} (x : Ky) (a : Int) (s : List UInt8) (m : Int) (hm : m ≠ 0) (hpg : ∀ W, Below w.heap.size w W → Calls Tryd.prog 70 #[L, x.val, .bool true] W fun e w' => e = .returned (.int .i64 m) ∧ Below W.heap.size W w') :
    Calls Tryd.prog 44 #[L, x.val, .int .i64 a, .string (st s)] w fun e w' => e = .returned (.tuple #[L, .int .i64 m]) ∧ Below w.heap.size w w' := by
  have HPG := Lib.hid hpg
  clear hpg
  have HB0 := Lib.hid ((Below.refl w.heap.size w).alloc (Nat.le_refl _) (.cells (kc x.k x.o x.c x.l x.r x.v) 31))
  have HK0 := Lib.hid (Blk.new w 31 (kc x.k x.o x.c x.l x.r x.v))
  have dm : (m == 0) = false := by simpa using hm
  have dm2 : (m != 0) = true := by simpa using hm
  clear hm
  go_enter Tryd.func44, Tryd.ntmps44
  go_wp2_with (go_at_call 70; refine (HPG.out _ HB0.out).mono ?_; rintro e w1 ⟨rfl, b1⟩; have HB1 := Lib.hid (HB0.out.trans (b1.mono HB0.out.size)); have HK1 := Lib.hid (HK0.out.keep b1); obtain ⟨c0, c1, c2, c3, c4, c5⟩ := HK1.out.six;  clear b1)
  go_ret2
  exact ⟨rfl, HB1.out⟩
set_option maxRecDepth 100000 in
set_option maxHeartbeats 2000000 in
theorem rwrite_range {w : World} {L : Value} (x : Ky) (a : Int) (s : List UInt8) (hi : ¬ inB a s.length) (hpg : ∀ W, Below w.heap.size w W → Calls Tryd.prog 70 #[L, x.val, .bool true] W fun e w' => e = .returned (.int .i64 0) ∧ Below W.heap.size W w') :
    Calls Tryd.prog 44 #[L, x.val, .int .i64 a, .string (st s)] w fun e w' => e = .returned (.tuple #[L, .int .i64 4]) ∧ Below w.heap.size w w' := by
  have HPG := Lib.hid hpg
  have HLI := Lib.hid (show decide (inB a s.length) = false by simpa using hi)
  have hsz := st_size s
  clear hpg hi
  have HB0 := Lib.hid ((Below.refl w.heap.size w).alloc (Nat.le_refl _) (.cells (kc x.k x.o x.c x.l x.r x.v) 31))
  have HK0 := Lib.hid (Blk.new w 31 (kc x.k x.o x.c x.l x.r x.v))
  go_enter Tryd.func44, Tryd.ntmps44
  go_wp2_with (first
    | (go_at_call 70; refine (HPG.out _ HB0.out).mono ?_; rintro e w1 ⟨rfl, b1⟩; have HB1 := Lib.hid (HB0.out.trans (b1.mono HB0.out.size)); have HK1 := Lib.hid (HK0.out.keep b1); obtain ⟨c0, c1, c2, c3, c4, c5⟩ := HK1.out.six;  clear b1)
    | (go_at_call 71; refine (inside_any a s.length HLI.out _).mono ?_; rintro e w1' ⟨rfl, rfl⟩))
  go_ret2
  exact ⟨rfl, HB1.out⟩
set_option maxRecDepth 100000 in
set_option maxHeartbeats 4000000 in
theorem rwrite_yes {w : World} {A : Option Addr} {l : List Oj} {n cap : Nat} (hr : RdO w A l) (hn : l.length = n) (hl : n ≤ 1000) (x : Ky) (j : Nat) (hj : j < l.length) (hxo : x.o = (j : Int)) (u : Oj) (hu : l[j] = u) (a : Nat) (s : List UInt8) (hi : a + s.length ≤ 64) (hpg : ∀ W, Below w.heap.size w W → Calls Tryd.prog 70 #[.slice A n cap, x.val, .bool true] W fun e w' => e = .returned (.int .i64 0) ∧ Below W.heap.size W w') :
    Calls Tryd.prog 44 #[.slice A n cap, x.val, .int .i64 (a : Int), .string (st s)] w fun e w' => ∃ g c, e = .returned (.tuple #[.slice (some ⟨g, 0, none⟩) n c, .int .i64 0]) ∧ w.heap.size ≤ g ∧ RdO w' (some ⟨g, 0, none⟩) (l.set j (layO u a s)) ∧ Below w.heap.size w w' := by
  obtain ⟨b, off, rfl, hob⟩ := hr j hj
  rw [hu] at hob
  obtain ⟨U, hU⟩ : ∃ U, layO u a s = U := ⟨_, rfl⟩
  rw [hU]
  have HLU := Lib.hid hU
  have HPG := Lib.hid hpg
  have HLI := Lib.hid (show decide (inB (a : Int) (s.length : Int)) = true from decide_eq_true ⟨by omega, by omega, by omega⟩)
  have HR := Lib.hid hr
  have HOB := Lib.hid hob
  have HN := Lib.hid hn
  have HL := Lib.hid hl
  have HI := Lib.hid hi
  have HJ := Lib.hid (show j < n by omega)
  have HXO := Lib.hid hxo
  have hsz := st_size s
  have dj : (j : Int) < (n : Int) := by omega
  have hz := z34
  have hbl := oz_len
  have HB0 := Lib.hid ((Below.refl w.heap.size w).alloc (Nat.le_refl _) (.cells (kc x.k x.o x.c x.l x.r x.v) 31))
  have HK0 := Lib.hid (Blk.new w 31 (kc x.k x.o x.c x.l x.r x.v))
  clear hpg hr hn hl hob hxo hj hu hi hU
  go_enter Tryd.func44, Tryd.ntmps44
  go_wp2_with (first
    | (go_at_call 70; refine (HPG.out _ HB0.out).mono ?_; rintro e w1 ⟨rfl, b1⟩; have HB1 := Lib.hid (HB0.out.trans (b1.mono HB0.out.size)); have HK1 := Lib.hid (HK0.out.keep b1); obtain ⟨c0, c1, c2, c3, c4, c5⟩ := HK1.out.six; have HKU := Lib.hid (HK1.out.alloc (.cells u.cells.toArray 52)); have HU := Lib.hid (Blk.new w1 52 u.cells.toArray); have HBU := Lib.hid (HB1.out.alloc HB1.out.size (.cells u.cells.toArray 52)); have HGU := Lib.hid HB1.out.size; have HKL := Lib.hid HK1.out.lt; have HOB1 := Lib.hid (HOB.out.below HB1.out); rw [HXO.out] at c1; clear b1)
    | (go_at_call 71; refine (inside_any (a : Int) (s.length : Int) HLI.out _).mono ?_; rintro e w1' ⟨rfl, rfl⟩)
    | (show wpList _ _ _ ({ dst := some 33, op := .load 52 (.tmp 32), type := _, pos := _, after := _, guard := _ } :: _) _ _; refine wpList_yields (S := fun w' => ObAt w' b (off + j * 163) u) (y_ob (by rfl) (.tmp 32) (by rfl) b (off + j * 163) (by rfl) u (fun _ h => h)) HOB1.out ?_)
    | (show wpList _ _ _ ({ dst := none, op := .store _ (.tmp 11) (.tmp 33), type := _, pos := _, after := _, guard := _ } :: _) _ _; refine wpList_store_last rfl (.tmp 11) (.tmp 33) rfl _ rfl rfl u oz rfl ?_))
  generalize (w1.alloc (.cells u.cells.toArray 52)) = W0 at HU HBU HKU HGU ⊢
  obtain ⟨g, hg⟩ : ∃ g, w1.heap.size = g := ⟨_, rfl⟩
  rw [hg] at HU HGU ⊢
  have hs64 : s.length ≤ 64 := by have := HI.out; omega
  go_loopw [12] (fun q wr => ∃ i : Nat, i ≤ s.length ∧ q = .int .i64 i ∧ Blk wr g 52 (layO u a (s.take i)).cells.toArray ∧ Fr (fun k => k = g) W0 wr) (fun q _ => s.length + 1 - (intOf q).toNat)
  case atStart => exact ⟨0, by omega, rfl, by rw [layO_nil u a (by have := HI.out; omega) s]; exact HU.out, Fr.refl _ _⟩
  case round =>
    obtain ⟨i, hi, rfl, hblk, hfr⟩ := hrel
    have HFR := Lib.hid hfr
    have HBK := Lib.hid hblk
    clear hfr hblk
    by_cases hlt : i < s.length
    · have e0 : decide ((i : Int) < (s.length : Int)) = true := decide_eq_true (by omega)
      have e1 : (i : Int) < (s.length : Int) := by omega
      have e2 : decide (i < s.length) = true := decide_eq_true hlt
      obtain ⟨k, hk⟩ : ∃ k : Nat, k = a + i := ⟨_, rfl⟩
      have hki : (a : Int) + (i : Int) = (k : Int) := by omega
      have hk64 : (k : Int) < 64 := by have := HI.out; omega
      have hk64' : k < 64 := by have := HI.out; omega
      have hix := run_index_st 9 Tryd.underlying9 s i hlt
      obtain ⟨v, hv⟩ : ∃ v : Int, v = ((s[i]).toNat : Int) := ⟨_, rfl⟩
      rw [← hv] at hix
      have hset : Hid ((layO u a (s.take i)).cells.toArray.setIfInBounds (99 + k) (.int .u8 v) = (layO u a (s.take (i + 1))).cells.toArray) := Lib.hid (by
        rw [hv, hk, ← layO_set u a s i hlt HI.out]
        simp)
      have hbl2 : (layO u a (s.take i)).cells.toArray.size = 163 := by rw [List.size_toArray, Oj.len]
      have hcell : ∃ y, wr.cell? ⟨g, 99 + k, none⟩ = some y := ⟨_, (HBK.out.cell (99 + k)).trans (Array.getElem?_eq_getElem (by rw [hbl2]; omega))⟩
      obtain ⟨y, hcell⟩ := hcell
      have hfz := HBK.out.frozen (99 + k)
      clear hk hv
      go_wp2_with fail
      go_roundw
      case rel => exact ⟨i + 1, by omega, by go_num, hset.out ▸ HBK.out.set_ (99 + k) (.int .u8 v), HFR.out.setCell (fun _ => rfl) _⟩
      case measure => simp [intOf]; omega
    · have hie : i = s.length := by omega
      have e0 : decide ((i : Int) < (s.length : Int)) = false := decide_eq_false (by omega)
      have e2 : decide (i < s.length) = false := decide_eq_false hlt
      have hfull : s.take i = s := by rw [hie, List.take_length]
      rw [hfull, HLU.out] at HBK
      have HBU2 := Lib.hid (show Below w.heap.size w wr from HBU.out.trans (HFR.out.to_below (fun k hk => by subst hk; exact HGU.out) HBU.out.size))
      have HRU2 := Lib.hid (HR.out.below HBU2.out)
      have HKN := Lib.hid (show Blk wr w.heap.size 31 (kc x.k x.o x.c x.l x.r x.v) from (HFR.out.block _ HKU.out.lt (by have := HGU.out; have := HKL.out; omega)).trans HKU.out)
      have f1 := HKN.out.six.2.1
      rw [HXO.out] at f1
      clear hfull hi hie hlt
      go_wp2_with (first
        | (show wpList _ _ _ ({ dst := some 51, op := .load 52 (.tmp 11), type := _, pos := _, after := _, guard := _ } :: _) _ _; refine wpList_yields (S := fun w' => ObAt w' g 0 U) (y_ob (by rfl) (.tmp 11) (by rfl) g 0 (by rfl) U (fun _ h => h)) HBK.out.ob ?_)
        | (go_at_call 72; refine (rput_any HRU2.out HN.out HL.out j HJ.out U rfl).mono ?_; rintro e w5 ⟨g5, c5', rfl, hg5, hr5, b5⟩; have HR5 := Lib.hid hr5; have HG5 := Lib.hid hg5; have HB5 := Lib.hid (HBU2.out.trans (b5.mono HBU2.out.size)); clear hr5 hg5 b5))
      go_ret2
      exact ⟨g5, c5', rfl, by have := HBU2.out.size; have := HG5.out; omega, HR5.out, HB5.out⟩
end Go.Proofs.YtfckdbennjkgoaaDoor

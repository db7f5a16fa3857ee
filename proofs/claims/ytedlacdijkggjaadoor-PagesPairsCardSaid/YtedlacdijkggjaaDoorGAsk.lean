/- pages: lies, whole, ask. -/
import Derived.Test.YtedlacdijkggjaaDoorGDef
namespace Go.Proofs.YtedlacdijkggjaaDoor
open Go.RowKit
/-- so many bytes at a place lie in a page -/
def inB (a n : Int) : Prop := 0 ≤ a ∧ 0 ≤ n ∧ n ≤ 64 - a
instance (a n : Int) : Decidable (inB a n) := by unfold inB; infer_instance
set_option maxRecDepth 8000 in
set_option maxHeartbeats 1000000 in
theorem lies_any (a n : Int) (ha : a ≤ 9223372036854775807) {b : Bool} (hb : decide (inB a n) = b) (w : World) :
    Calls Tryd.prog 40 #[.agg (spn a n)] w fun e w' => e = .returned (.bool b) ∧ Below w.heap.size w w' := by
  subst hb
  have HB0 := Lib.hid ((Below.refl w.heap.size w).alloc (Nat.le_refl _) (.cells (spn a n) 76))
  by_cases h0 : 0 ≤ a
  · by_cases h1 : 0 ≤ n
    · have e0 : decide (0 ≤ a) = true := decide_eq_true h0
      have e1 : decide (0 ≤ n) = true := decide_eq_true h1
      have e2 : -9223372036854775808 ≤ 64 - a := by omega
      have e3 : 64 - a ≤ 9223372036854775807 := by omega
      have e4 : decide (inB a n) = decide (n ≤ 64 - a) := decide_eq_decide.2 ⟨fun h => h.2.2, fun h => ⟨h0, h1, h⟩⟩
      rw [e4]
      obtain ⟨m, hm⟩ : ∃ m : Int, m = 64 - a := ⟨_, rfl⟩
      rw [← hm] at e2 e3 ⊢
      have e5 : 64 - a = m := hm.symm
      clear h0 h1 e4 ha hm
      go_enter Tryd.func40, Tryd.ntmps40
      go_wp2_with fail
      go_ret
      exact ⟨rfl, HB0.out⟩
    · have e0 : decide (0 ≤ a) = true := decide_eq_true h0
      have e1 : decide (0 ≤ n) = false := decide_eq_false h1
      have e4 : decide (inB a n) = false := decide_eq_false fun h => h1 h.2.1
      rw [e4]
      clear h0 h1 e4 ha
      go_enter Tryd.func40, Tryd.ntmps40
      go_wp2_with fail
      go_ret
      exact ⟨rfl, HB0.out⟩
  · have e0 : decide (0 ≤ a) = false := decide_eq_false h0
    have e4 : decide (inB a n) = false := decide_eq_false fun h => h0 h.1
    rw [e4]
    clear h0 e4 ha
    go_enter Tryd.func40, Tryd.ntmps40
    go_wp2_with fail
    go_ret
    exact ⟨rfl, HB0.out⟩
theorem load_spn {w : World} {g : Nat} {a n : Int} (h : Blk w g 76 (spn a n)) : (loadVar 76 ⟨g, 0, none⟩).run Tryd.prog w = .ok (.agg (spn a n)) w :=
  run_loadVar_row w g 76 76 (spn a n) (0, 0) _ h Tryd.underlying76 rfl (by kernel_rfl)
set_option maxRecDepth 8000 in
theorem whole_any (w : World) : Calls Tryd.prog 26 #[] w fun e w' => e = .returned (.agg (spn 0 64)) ∧ Below w.heap.size w w' := by
  have HB0 := Lib.hid ((Below.refl w.heap.size w).alloc (Nat.le_refl _) (.cells (spn 0 64) 76))
  go_enter Tryd.func26, Tryd.ntmps26
  have HK0 := Lib.hid (Blk.new w 76 (spn 0 64))
  go_wp2_with fail
  exact bodyPost_ret (res_1 rfl _ _ w.heap.size _ rfl (load_spn HK0.out)) rfl ⟨rfl, HB0.out⟩
section
variable {w : World} {P : Value} {u : Oj}
set_option maxRecDepth 100000 in
set_option maxHeartbeats 2000000 in
theorem ask_e1 (x : Ky) (ch : Bool) (a n : Int) (b : Bool)
    (hnm : ∀ W, Below w.heap.size w W → Calls Tryd.prog 38 #[P, x.val] W fun e w' => e = .returned (.tuple #[u.val, .bool b]) ∧ Below W.heap.size W w')
    (hsz : ∀ W, Below w.heap.size w W → Calls Tryd.prog 39 #[P] W fun e w' => e = .returned (.int .i64 0) ∧ W = w') :
    Calls Tryd.prog 23 #[P, x.val, .bool ch, .agg (spn a n)] w fun e w' => e = .returned (.tuple #[.agg zpgc.toArray, .int .i64 1]) ∧ Below w.heap.size w w' := by
  have HNM := Lib.hid hnm
  have HSZ := Lib.hid hsz
  clear hnm hsz
  have hz := z34
  have hz2 := z72
  have hbl := oz_len
  have hbl2 := zpgc_len
  have HB0 := Lib.hid ((((Below.refl w.heap.size w).alloc (Nat.le_refl _) (.cells (kc x.k x.o x.c x.l x.r x.v) 30)).alloc (by simp) (.cells (spn a n) 76)).alloc (by simp; omega) (.cells zpgc.toArray 72))
  have HK0 := Lib.hid (((Blk.new w 30 (kc x.k x.o x.c x.l x.r x.v)).alloc (.cells (spn a n) 76)).alloc (.cells zpgc.toArray 72))
  have HP0 := Lib.hid ((Blk.new_of (w.alloc (.cells (kc x.k x.o x.c x.l x.r x.v) 30)) 76 (spn a n) (g := w.heap.size + 1) (by simp)).alloc (.cells zpgc.toArray 72))
  have HA0 := Lib.hid (Blk.new_of ((w.alloc (.cells (kc x.k x.o x.c x.l x.r x.v) 30)).alloc (.cells (spn a n) 76)) 72 zpgc.toArray (g := w.heap.size + 1 + 1) (by simp))
  go_enter Tryd.func23, Tryd.ntmps23
  go_wp2_with fail
  refine wp_scope_once 0 (by rfl) ?_
  go_wp2_with (first
    | (show wpList _ _ _ ({ dst := none, op := .store _ (.tmp 10) (.tmp 17), type := _, pos := _, after := _, guard := _ } :: _) _ _; refine wpList_store_last rfl (.tmp 10) (.tmp 17) rfl _ rfl rfl u oz rfl ?_)
    | (go_at_call 38; refine (HNM.out _ HB0.out).mono ?_; rintro e w2 ⟨rfl, b2⟩; have HB2 := Lib.hid ((HB0.out.trans (b2.mono HB0.out.size)).alloc (Nat.le_trans HB0.out.size b2.size) (.cells u.cells.toArray 49)); have HK2 := Lib.hid ((HK0.out.keep b2).alloc (.cells u.cells.toArray 49)); have HP2 := Lib.hid ((HP0.out.keep b2).alloc (.cells u.cells.toArray 49)); have HA2 := Lib.hid ((HA0.out.keep b2).alloc (.cells u.cells.toArray 49)); have HG2 := Lib.hid (Blk.new w2 49 u.cells.toArray); obtain ⟨c0, c1, c2, c3, c4, c5⟩ := HK2.out.six; have s0 := HP2.out.cell 0; have s1 := HP2.out.cell 1; clear b2)
    | (go_at_call 39; refine (HSZ.out _ HB2.out).mono ?_; rintro e w1 ⟨rfl, rfl⟩))
  go_step3
  refine ⟨rfl, ?_⟩
  go_wp2_with (first
    | (show wpList _ _ _ ({ dst := some 44, op := .build _ _, type := _, pos := _, after := _, guard := _ } :: _) _ _; refine wpList_yields (S := fun _ => True) (y_build (by rfl) (by rfl) built72z) trivial ?_)
    | (show wpList _ _ _ ({ dst := none, op := .store _ (.tmp 8) (.tmp 44), type := _, pos := _, after := _, guard := _ } :: _) _ _; refine wpList_store_big HA2.out rfl (.tmp 8) (.tmp 44) (ty := 72) (l := zpgc) rfl (by rfl) (by rfl) (by rw [zpgc_len]; exact size72) rfl zpgc_one ?_))
  simp only [Exit.jump]
  exact bodyPost_ret (res_1t rfl _ _ (w.heap.size + 1 + 1) _ _ rfl rfl (load_zpg (HA2.out.setRow _))) rfl ⟨rfl, below_setRow HB2.out (by omega) _⟩
set_option maxRecDepth 100000 in
set_option maxHeartbeats 2000000 in
theorem ask_un (x : Ky) (ch : Bool) (a n : Int) (m : Int) (hm : m ≠ 0) 
    (hnm : ∀ W, Below w.heap.size w W → Calls Tryd.prog 38 #[P, x.val] W fun e w' => e = .returned (.tuple #[u.val, .bool false]) ∧ Below W.heap.size W w')
    (hsz : ∀ W, Below w.heap.size w W → Calls Tryd.prog 39 #[P] W fun e w' => e = .returned (.int .i64 m) ∧ W = w') :
    Calls Tryd.prog 23 #[P, x.val, .bool ch, .agg (spn a n)] w fun e w' => e = .returned (.tuple #[.agg zpgc.toArray, .int .i64 190]) ∧ Below w.heap.size w w' := by
  have HNM := Lib.hid hnm
  have HSZ := Lib.hid hsz
  clear hnm hsz
  have dm : (m == 0) = false := by simpa using hm
  clear hm
  have hz := z34
  have hz2 := z72
  have hbl := oz_len
  have hbl2 := zpgc_len
  have HB0 := Lib.hid ((((Below.refl w.heap.size w).alloc (Nat.le_refl _) (.cells (kc x.k x.o x.c x.l x.r x.v) 30)).alloc (by simp) (.cells (spn a n) 76)).alloc (by simp; omega) (.cells zpgc.toArray 72))
  have HK0 := Lib.hid (((Blk.new w 30 (kc x.k x.o x.c x.l x.r x.v)).alloc (.cells (spn a n) 76)).alloc (.cells zpgc.toArray 72))
  have HP0 := Lib.hid ((Blk.new_of (w.alloc (.cells (kc x.k x.o x.c x.l x.r x.v) 30)) 76 (spn a n) (g := w.heap.size + 1) (by simp)).alloc (.cells zpgc.toArray 72))
  have HA0 := Lib.hid (Blk.new_of ((w.alloc (.cells (kc x.k x.o x.c x.l x.r x.v) 30)).alloc (.cells (spn a n) 76)) 72 zpgc.toArray (g := w.heap.size + 1 + 1) (by simp))
  go_enter Tryd.func23, Tryd.ntmps23
  go_wp2_with fail
  refine wp_scope_once 0 (by rfl) ?_
  go_wp2_with (first
    | (show wpList _ _ _ ({ dst := none, op := .store _ (.tmp 10) (.tmp 17), type := _, pos := _, after := _, guard := _ } :: _) _ _; refine wpList_store_last rfl (.tmp 10) (.tmp 17) rfl _ rfl rfl u oz rfl ?_)
    | (go_at_call 38; refine (HNM.out _ HB0.out).mono ?_; rintro e w2 ⟨rfl, b2⟩; have HB2 := Lib.hid ((HB0.out.trans (b2.mono HB0.out.size)).alloc (Nat.le_trans HB0.out.size b2.size) (.cells u.cells.toArray 49)); have HK2 := Lib.hid ((HK0.out.keep b2).alloc (.cells u.cells.toArray 49)); have HP2 := Lib.hid ((HP0.out.keep b2).alloc (.cells u.cells.toArray 49)); have HA2 := Lib.hid ((HA0.out.keep b2).alloc (.cells u.cells.toArray 49)); have HG2 := Lib.hid (Blk.new w2 49 u.cells.toArray); obtain ⟨c0, c1, c2, c3, c4, c5⟩ := HK2.out.six; have s0 := HP2.out.cell 0; have s1 := HP2.out.cell 1; clear b2)
    | (go_at_call 39; refine (HSZ.out _ HB2.out).mono ?_; rintro e w1 ⟨rfl, rfl⟩))
  go_step3
  refine ⟨rfl, ?_⟩
  go_wp2_with (first
    | (show wpList _ _ _ ({ dst := some 44, op := .build _ _, type := _, pos := _, after := _, guard := _ } :: _) _ _; refine wpList_yields (S := fun _ => True) (y_build (by rfl) (by rfl) built72z) trivial ?_)
    | (show wpList _ _ _ ({ dst := none, op := .store _ (.tmp 8) (.tmp 44), type := _, pos := _, after := _, guard := _ } :: _) _ _; refine wpList_store_big HA2.out rfl (.tmp 8) (.tmp 44) (ty := 72) (l := zpgc) rfl (by rfl) (by rfl) (by rw [zpgc_len]; exact size72) rfl zpgc_one ?_))
  simp only [Exit.jump]
  exact bodyPost_ret (res_1t rfl _ _ (w.heap.size + 1 + 1) _ _ rfl rfl (load_zpg (HA2.out.setRow _))) rfl ⟨rfl, below_setRow HB2.out (by omega) _⟩
set_option maxRecDepth 100000 in
set_option maxHeartbeats 2000000 in
theorem ask_kind (x : Ky) (ch : Bool) (a n : Int) (m : Int) (hm : m ≠ 0) (hk : x.k ≠ 3)
    (hnm : ∀ W, Below w.heap.size w W → Calls Tryd.prog 38 #[P, x.val] W fun e w' => e = .returned (.tuple #[u.val, .bool true]) ∧ Below W.heap.size W w')
    (hsz : ∀ W, Below w.heap.size w W → Calls Tryd.prog 39 #[P] W fun e w' => e = .returned (.int .i64 m) ∧ W = w') :
    Calls Tryd.prog 23 #[P, x.val, .bool ch, .agg (spn a n)] w fun e w' => e = .returned (.tuple #[.agg zpgc.toArray, .int .i64 190]) ∧ Below w.heap.size w w' := by
  have HNM := Lib.hid hnm
  have HSZ := Lib.hid hsz
  clear hnm hsz
  have dm : (m == 0) = false := by simpa using hm
  clear hm
  have dk : (x.k != 3) = true := by simpa using hk
  clear hk
  have hz := z34
  have hz2 := z72
  have hbl := oz_len
  have hbl2 := zpgc_len
  have HB0 := Lib.hid ((((Below.refl w.heap.size w).alloc (Nat.le_refl _) (.cells (kc x.k x.o x.c x.l x.r x.v) 30)).alloc (by simp) (.cells (spn a n) 76)).alloc (by simp; omega) (.cells zpgc.toArray 72))
  have HK0 := Lib.hid (((Blk.new w 30 (kc x.k x.o x.c x.l x.r x.v)).alloc (.cells (spn a n) 76)).alloc (.cells zpgc.toArray 72))
  have HP0 := Lib.hid ((Blk.new_of (w.alloc (.cells (kc x.k x.o x.c x.l x.r x.v) 30)) 76 (spn a n) (g := w.heap.size + 1) (by simp)).alloc (.cells zpgc.toArray 72))
  have HA0 := Lib.hid (Blk.new_of ((w.alloc (.cells (kc x.k x.o x.c x.l x.r x.v) 30)).alloc (.cells (spn a n) 76)) 72 zpgc.toArray (g := w.heap.size + 1 + 1) (by simp))
  go_enter Tryd.func23, Tryd.ntmps23
  go_wp2_with fail
  refine wp_scope_once 0 (by rfl) ?_
  go_wp2_with (first
    | (show wpList _ _ _ ({ dst := none, op := .store _ (.tmp 10) (.tmp 17), type := _, pos := _, after := _, guard := _ } :: _) _ _; refine wpList_store_last rfl (.tmp 10) (.tmp 17) rfl _ rfl rfl u oz rfl ?_)
    | (go_at_call 38; refine (HNM.out _ HB0.out).mono ?_; rintro e w2 ⟨rfl, b2⟩; have HB2 := Lib.hid ((HB0.out.trans (b2.mono HB0.out.size)).alloc (Nat.le_trans HB0.out.size b2.size) (.cells u.cells.toArray 49)); have HK2 := Lib.hid ((HK0.out.keep b2).alloc (.cells u.cells.toArray 49)); have HP2 := Lib.hid ((HP0.out.keep b2).alloc (.cells u.cells.toArray 49)); have HA2 := Lib.hid ((HA0.out.keep b2).alloc (.cells u.cells.toArray 49)); have HG2 := Lib.hid (Blk.new w2 49 u.cells.toArray); obtain ⟨c0, c1, c2, c3, c4, c5⟩ := HK2.out.six; have s0 := HP2.out.cell 0; have s1 := HP2.out.cell 1; clear b2)
    | (go_at_call 39; refine (HSZ.out _ HB2.out).mono ?_; rintro e w1 ⟨rfl, rfl⟩))
  go_step3
  refine ⟨rfl, ?_⟩
  go_wp2_with (first
    | (show wpList _ _ _ ({ dst := some 44, op := .build _ _, type := _, pos := _, after := _, guard := _ } :: _) _ _; refine wpList_yields (S := fun _ => True) (y_build (by rfl) (by rfl) built72z) trivial ?_)
    | (show wpList _ _ _ ({ dst := none, op := .store _ (.tmp 8) (.tmp 44), type := _, pos := _, after := _, guard := _ } :: _) _ _; refine wpList_store_big HA2.out rfl (.tmp 8) (.tmp 44) (ty := 72) (l := zpgc) rfl (by rfl) (by rfl) (by rw [zpgc_len]; exact size72) rfl zpgc_one ?_))
  simp only [Exit.jump]
  exact bodyPost_ret (res_1t rfl _ _ (w.heap.size + 1 + 1) _ _ rfl rfl (load_zpg (HA2.out.setRow _))) rfl ⟨rfl, below_setRow HB2.out (by omega) _⟩
set_option maxRecDepth 100000 in
set_option maxHeartbeats 2000000 in
theorem ask_right (x : Ky) (ch : Bool) (a n : Int) (m : Int) (hm : m ≠ 0) (hk : x.k = 3) (hc : ch = true) (hr : x.r = 1)
    (hnm : ∀ W, Below w.heap.size w W → Calls Tryd.prog 38 #[P, x.val] W fun e w' => e = .returned (.tuple #[u.val, .bool true]) ∧ Below W.heap.size W w')
    (hsz : ∀ W, Below w.heap.size w W → Calls Tryd.prog 39 #[P] W fun e w' => e = .returned (.int .i64 m) ∧ W = w') :
    Calls Tryd.prog 23 #[P, x.val, .bool ch, .agg (spn a n)] w fun e w' => e = .returned (.tuple #[.agg zpgc.toArray, .int .i64 191]) ∧ Below w.heap.size w w' := by
  have HNM := Lib.hid hnm
  have HSZ := Lib.hid hsz
  clear hnm hsz
  have dm : (m == 0) = false := by simpa using hm
  clear hm
  have dk : (x.k != 3) = false := by simpa using hk
  clear hk
  subst hc
  have HRR := Lib.hid hr
  have dr : (bits .and .i64 x.r 1 != 0) = true := by rw [HRR.out]; rfl
  clear hr
  have hz := z34
  have hz2 := z72
  have hbl := oz_len
  have hbl2 := zpgc_len
  have HB0 := Lib.hid ((((Below.refl w.heap.size w).alloc (Nat.le_refl _) (.cells (kc x.k x.o x.c x.l x.r x.v) 30)).alloc (by simp) (.cells (spn a n) 76)).alloc (by simp; omega) (.cells zpgc.toArray 72))
  have HK0 := Lib.hid (((Blk.new w 30 (kc x.k x.o x.c x.l x.r x.v)).alloc (.cells (spn a n) 76)).alloc (.cells zpgc.toArray 72))
  have HP0 := Lib.hid ((Blk.new_of (w.alloc (.cells (kc x.k x.o x.c x.l x.r x.v) 30)) 76 (spn a n) (g := w.heap.size + 1) (by simp)).alloc (.cells zpgc.toArray 72))
  have HA0 := Lib.hid (Blk.new_of ((w.alloc (.cells (kc x.k x.o x.c x.l x.r x.v) 30)).alloc (.cells (spn a n) 76)) 72 zpgc.toArray (g := w.heap.size + 1 + 1) (by simp))
  go_enter Tryd.func23, Tryd.ntmps23
  go_wp2_with fail
  refine wp_scope_once 0 (by rfl) ?_
  go_wp2_with (first
    | (show wpList _ _ _ ({ dst := none, op := .store _ (.tmp 10) (.tmp 17), type := _, pos := _, after := _, guard := _ } :: _) _ _; refine wpList_store_last rfl (.tmp 10) (.tmp 17) rfl _ rfl rfl u oz rfl ?_)
    | (go_at_call 38; refine (HNM.out _ HB0.out).mono ?_; rintro e w2 ⟨rfl, b2⟩; have HB2 := Lib.hid ((HB0.out.trans (b2.mono HB0.out.size)).alloc (Nat.le_trans HB0.out.size b2.size) (.cells u.cells.toArray 49)); have HK2 := Lib.hid ((HK0.out.keep b2).alloc (.cells u.cells.toArray 49)); have HP2 := Lib.hid ((HP0.out.keep b2).alloc (.cells u.cells.toArray 49)); have HA2 := Lib.hid ((HA0.out.keep b2).alloc (.cells u.cells.toArray 49)); have HG2 := Lib.hid (Blk.new w2 49 u.cells.toArray); obtain ⟨c0, c1, c2, c3, c4, c5⟩ := HK2.out.six; have s0 := HP2.out.cell 0; have s1 := HP2.out.cell 1; clear b2)
    | (go_at_call 39; refine (HSZ.out _ HB2.out).mono ?_; rintro e w1 ⟨rfl, rfl⟩))
  go_step3
  refine ⟨rfl, ?_⟩
  go_wp2_with (first
    | (show wpList _ _ _ ({ dst := some 44, op := .build _ _, type := _, pos := _, after := _, guard := _ } :: _) _ _; refine wpList_yields (S := fun _ => True) (y_build (by rfl) (by rfl) built72z) trivial ?_)
    | (show wpList _ _ _ ({ dst := none, op := .store _ (.tmp 8) (.tmp 44), type := _, pos := _, after := _, guard := _ } :: _) _ _; refine wpList_store_big HA2.out rfl (.tmp 8) (.tmp 44) (ty := 72) (l := zpgc) rfl (by rfl) (by rfl) (by rw [zpgc_len]; exact size72) rfl zpgc_one ?_))
  simp only [Exit.jump]
  exact bodyPost_ret (res_1t rfl _ _ (w.heap.size + 1 + 1) _ _ rfl rfl (load_zpg (HA2.out.setRow _))) rfl ⟨rfl, below_setRow HB2.out (by omega) _⟩
set_option maxRecDepth 100000 in
set_option maxHeartbeats 2000000 in
theorem ask_range_t (x : Ky) (ch : Bool) (a n : Int) (m : Int) (hm : m ≠ 0) (hk : x.k = 3) (hc : ch = true) (hr : x.r = 0) (ha : a ≤ 9223372036854775807) (hi : ¬ inB a n)
    (hnm : ∀ W, Below w.heap.size w W → Calls Tryd.prog 38 #[P, x.val] W fun e w' => e = .returned (.tuple #[u.val, .bool true]) ∧ Below W.heap.size W w')
    (hsz : ∀ W, Below w.heap.size w W → Calls Tryd.prog 39 #[P] W fun e w' => e = .returned (.int .i64 m) ∧ W = w') :
    Calls Tryd.prog 23 #[P, x.val, .bool ch, .agg (spn a n)] w fun e w' => e = .returned (.tuple #[.agg zpgc.toArray, .int .i64 4]) ∧ Below w.heap.size w w' := by
  have HNM := Lib.hid hnm
  have HSZ := Lib.hid hsz
  clear hnm hsz
  have dm : (m == 0) = false := by simpa using hm
  clear hm
  have dk : (x.k != 3) = false := by simpa using hk
  clear hk
  subst hc
  have HRR := Lib.hid hr
  have dr : (bits .and .i64 x.r 1 != 0) = false := by rw [HRR.out]; rfl
  clear hr
  have HAN := Lib.hid ha
  have HLI := Lib.hid (show decide (inB a n) = false by simpa using hi)
  clear ha hi
  have hz := z34
  have hz2 := z72
  have hbl := oz_len
  have hbl2 := zpgc_len
  have HB0 := Lib.hid ((((Below.refl w.heap.size w).alloc (Nat.le_refl _) (.cells (kc x.k x.o x.c x.l x.r x.v) 30)).alloc (by simp) (.cells (spn a n) 76)).alloc (by simp; omega) (.cells zpgc.toArray 72))
  have HK0 := Lib.hid (((Blk.new w 30 (kc x.k x.o x.c x.l x.r x.v)).alloc (.cells (spn a n) 76)).alloc (.cells zpgc.toArray 72))
  have HP0 := Lib.hid ((Blk.new_of (w.alloc (.cells (kc x.k x.o x.c x.l x.r x.v) 30)) 76 (spn a n) (g := w.heap.size + 1) (by simp)).alloc (.cells zpgc.toArray 72))
  have HA0 := Lib.hid (Blk.new_of ((w.alloc (.cells (kc x.k x.o x.c x.l x.r x.v) 30)).alloc (.cells (spn a n) 76)) 72 zpgc.toArray (g := w.heap.size + 1 + 1) (by simp))
  go_enter Tryd.func23, Tryd.ntmps23
  go_wp2_with fail
  refine wp_scope_once 0 (by rfl) ?_
  go_wp2_with (first
    | (show wpList _ _ _ ({ dst := none, op := .store _ (.tmp 10) (.tmp 17), type := _, pos := _, after := _, guard := _ } :: _) _ _; refine wpList_store_last rfl (.tmp 10) (.tmp 17) rfl _ rfl rfl u oz rfl ?_)
    | (go_at_call 38; refine (HNM.out _ HB0.out).mono ?_; rintro e w2 ⟨rfl, b2⟩; have HB2 := Lib.hid ((HB0.out.trans (b2.mono HB0.out.size)).alloc (Nat.le_trans HB0.out.size b2.size) (.cells u.cells.toArray 49)); have HK2 := Lib.hid ((HK0.out.keep b2).alloc (.cells u.cells.toArray 49)); have HP2 := Lib.hid ((HP0.out.keep b2).alloc (.cells u.cells.toArray 49)); have HA2 := Lib.hid ((HA0.out.keep b2).alloc (.cells u.cells.toArray 49)); have HG2 := Lib.hid (Blk.new w2 49 u.cells.toArray); obtain ⟨c0, c1, c2, c3, c4, c5⟩ := HK2.out.six; have s0 := HP2.out.cell 0; have s1 := HP2.out.cell 1; clear b2)
    | (go_at_call 39; refine (HSZ.out _ HB2.out).mono ?_; rintro e w1 ⟨rfl, rfl⟩)
    | (go_at_call 40; refine (lies_any a n HAN.out HLI.out _).mono ?_; rintro e w3 ⟨rfl, b3⟩; have HB3 := Lib.hid (HB2.out.trans (b3.mono HB2.out.size)); have HA3 := Lib.hid (HA2.out.keep b3); have HG3 := Lib.hid (HG2.out.keep b3); have HK3 := Lib.hid (HK2.out.keep b3); clear b3 c0 c1 c2 c3 c4 c5 s0 s1; obtain ⟨c0, c1, c2, c3, c4, c5⟩ := HK3.out.six))
  go_step3
  refine ⟨rfl, ?_⟩
  go_wp2_with (first
    | (show wpList _ _ _ ({ dst := some 44, op := .build _ _, type := _, pos := _, after := _, guard := _ } :: _) _ _; refine wpList_yields (S := fun _ => True) (y_build (by rfl) (by rfl) built72z) trivial ?_)
    | (show wpList _ _ _ ({ dst := none, op := .store _ (.tmp 8) (.tmp 44), type := _, pos := _, after := _, guard := _ } :: _) _ _; refine wpList_store_big HA3.out rfl (.tmp 8) (.tmp 44) (ty := 72) (l := zpgc) rfl (by rfl) (by rfl) (by rw [zpgc_len]; exact size72) rfl zpgc_one ?_))
  simp only [Exit.jump]
  exact bodyPost_ret (res_1t rfl _ _ (w.heap.size + 1 + 1) _ _ rfl rfl (load_zpg (HA3.out.setRow _))) rfl ⟨rfl, below_setRow HB3.out (by omega) _⟩
set_option maxRecDepth 100000 in
set_option maxHeartbeats 2000000 in
theorem ask_range_f (x : Ky) (ch : Bool) (a n : Int) (m : Int) (hm : m ≠ 0) (hk : x.k = 3) (hc : ch = false) (ha : a ≤ 9223372036854775807) (hi : ¬ inB a n)
    (hnm : ∀ W, Below w.heap.size w W → Calls Tryd.prog 38 #[P, x.val] W fun e w' => e = .returned (.tuple #[u.val, .bool true]) ∧ Below W.heap.size W w')
    (hsz : ∀ W, Below w.heap.size w W → Calls Tryd.prog 39 #[P] W fun e w' => e = .returned (.int .i64 m) ∧ W = w') :
    Calls Tryd.prog 23 #[P, x.val, .bool ch, .agg (spn a n)] w fun e w' => e = .returned (.tuple #[.agg zpgc.toArray, .int .i64 4]) ∧ Below w.heap.size w w' := by
  have HNM := Lib.hid hnm
  have HSZ := Lib.hid hsz
  clear hnm hsz
  have dm : (m == 0) = false := by simpa using hm
  clear hm
  have dk : (x.k != 3) = false := by simpa using hk
  clear hk
  subst hc
  have HAN := Lib.hid ha
  have HLI := Lib.hid (show decide (inB a n) = false by simpa using hi)
  clear ha hi
  have hz := z34
  have hz2 := z72
  have hbl := oz_len
  have hbl2 := zpgc_len
  have HB0 := Lib.hid ((((Below.refl w.heap.size w).alloc (Nat.le_refl _) (.cells (kc x.k x.o x.c x.l x.r x.v) 30)).alloc (by simp) (.cells (spn a n) 76)).alloc (by simp; omega) (.cells zpgc.toArray 72))
  have HK0 := Lib.hid (((Blk.new w 30 (kc x.k x.o x.c x.l x.r x.v)).alloc (.cells (spn a n) 76)).alloc (.cells zpgc.toArray 72))
  have HP0 := Lib.hid ((Blk.new_of (w.alloc (.cells (kc x.k x.o x.c x.l x.r x.v) 30)) 76 (spn a n) (g := w.heap.size + 1) (by simp)).alloc (.cells zpgc.toArray 72))
  have HA0 := Lib.hid (Blk.new_of ((w.alloc (.cells (kc x.k x.o x.c x.l x.r x.v) 30)).alloc (.cells (spn a n) 76)) 72 zpgc.toArray (g := w.heap.size + 1 + 1) (by simp))
  go_enter Tryd.func23, Tryd.ntmps23
  go_wp2_with fail
  refine wp_scope_once 0 (by rfl) ?_
  go_wp2_with (first
    | (show wpList _ _ _ ({ dst := none, op := .store _ (.tmp 10) (.tmp 17), type := _, pos := _, after := _, guard := _ } :: _) _ _; refine wpList_store_last rfl (.tmp 10) (.tmp 17) rfl _ rfl rfl u oz rfl ?_)
    | (go_at_call 38; refine (HNM.out _ HB0.out).mono ?_; rintro e w2 ⟨rfl, b2⟩; have HB2 := Lib.hid ((HB0.out.trans (b2.mono HB0.out.size)).alloc (Nat.le_trans HB0.out.size b2.size) (.cells u.cells.toArray 49)); have HK2 := Lib.hid ((HK0.out.keep b2).alloc (.cells u.cells.toArray 49)); have HP2 := Lib.hid ((HP0.out.keep b2).alloc (.cells u.cells.toArray 49)); have HA2 := Lib.hid ((HA0.out.keep b2).alloc (.cells u.cells.toArray 49)); have HG2 := Lib.hid (Blk.new w2 49 u.cells.toArray); obtain ⟨c0, c1, c2, c3, c4, c5⟩ := HK2.out.six; have s0 := HP2.out.cell 0; have s1 := HP2.out.cell 1; clear b2)
    | (go_at_call 39; refine (HSZ.out _ HB2.out).mono ?_; rintro e w1 ⟨rfl, rfl⟩)
    | (go_at_call 40; refine (lies_any a n HAN.out HLI.out _).mono ?_; rintro e w3 ⟨rfl, b3⟩; have HB3 := Lib.hid (HB2.out.trans (b3.mono HB2.out.size)); have HA3 := Lib.hid (HA2.out.keep b3); have HG3 := Lib.hid (HG2.out.keep b3); have HK3 := Lib.hid (HK2.out.keep b3); clear b3 c0 c1 c2 c3 c4 c5 s0 s1; obtain ⟨c0, c1, c2, c3, c4, c5⟩ := HK3.out.six))
  go_step3
  refine ⟨rfl, ?_⟩
  go_wp2_with (first
    | (show wpList _ _ _ ({ dst := some 44, op := .build _ _, type := _, pos := _, after := _, guard := _ } :: _) _ _; refine wpList_yields (S := fun _ => True) (y_build (by rfl) (by rfl) built72z) trivial ?_)
    | (show wpList _ _ _ ({ dst := none, op := .store _ (.tmp 8) (.tmp 44), type := _, pos := _, after := _, guard := _ } :: _) _ _; refine wpList_store_big HA3.out rfl (.tmp 8) (.tmp 44) (ty := 72) (l := zpgc) rfl (by rfl) (by rfl) (by rw [zpgc_len]; exact size72) rfl zpgc_one ?_))
  simp only [Exit.jump]
  exact bodyPost_ret (res_1t rfl _ _ (w.heap.size + 1 + 1) _ _ rfl rfl (load_zpg (HA3.out.setRow _))) rfl ⟨rfl, below_setRow HB3.out (by omega) _⟩
set_option maxRecDepth 100000 in
set_option maxHeartbeats 2000000 in
theorem ask_yes_t {p : Nat} (x : Ky) (ch : Bool) (a n : Int) (m : Int) (hm : m ≠ 0) (hk : x.k = 3) (hc : ch = true) (hr : x.r = 0) (ha : a ≤ 9223372036854775807) (hi : inB a n)
    (hnm : ∀ W, Below w.heap.size w W → Calls Tryd.prog 38 #[pv p, x.val] W fun e w' => e = .returned (.tuple #[u.val, .bool true]) ∧ Below W.heap.size W w')
    (hsz : ∀ W, Below w.heap.size w W → Calls Tryd.prog 39 #[pv p] W fun e w' => e = .returned (.int .i64 m) ∧ W = w') :
    Calls Tryd.prog 23 #[pv p, x.val, .bool ch, .agg (spn a n)] w fun e w' => e = .returned (.tuple #[pgv p x.o u, .int .i64 0]) ∧ Below w.heap.size w w' := by
  have HNM := Lib.hid hnm
  have HSZ := Lib.hid hsz
  clear hnm hsz
  have dm : (m == 0) = false := by simpa using hm
  clear hm
  have dk : (x.k != 3) = false := by simpa using hk
  clear hk
  subst hc
  have HRR := Lib.hid hr
  have dr : (bits .and .i64 x.r 1 != 0) = false := by rw [HRR.out]; rfl
  clear hr
  have HAN := Lib.hid ha
  have HLI := Lib.hid (show decide (inB a n) = true by simpa using hi)
  clear ha hi
  have hz := z34
  have hz2 := z72
  have hbl := oz_len
  have hbl2 := zpgc_len
  have HB0 := Lib.hid ((((Below.refl w.heap.size w).alloc (Nat.le_refl _) (.cells (kc x.k x.o x.c x.l x.r x.v) 30)).alloc (by simp) (.cells (spn a n) 76)).alloc (by simp; omega) (.cells zpgc.toArray 72))
  have HK0 := Lib.hid (((Blk.new w 30 (kc x.k x.o x.c x.l x.r x.v)).alloc (.cells (spn a n) 76)).alloc (.cells zpgc.toArray 72))
  have HP0 := Lib.hid ((Blk.new_of (w.alloc (.cells (kc x.k x.o x.c x.l x.r x.v) 30)) 76 (spn a n) (g := w.heap.size + 1) (by simp)).alloc (.cells zpgc.toArray 72))
  have HA0 := Lib.hid (Blk.new_of ((w.alloc (.cells (kc x.k x.o x.c x.l x.r x.v) 30)).alloc (.cells (spn a n) 76)) 72 zpgc.toArray (g := w.heap.size + 1 + 1) (by simp))
  go_enter Tryd.func23, Tryd.ntmps23
  go_wp2_with fail
  refine wp_scope_once 0 (by rfl) ?_
  go_wp2_with (first
    | (show wpList _ _ _ ({ dst := none, op := .store _ (.tmp 10) (.tmp 17), type := _, pos := _, after := _, guard := _ } :: _) _ _; refine wpList_store_last rfl (.tmp 10) (.tmp 17) rfl _ rfl rfl u oz rfl ?_)
    | (go_at_call 38; refine (HNM.out _ HB0.out).mono ?_; rintro e w2 ⟨rfl, b2⟩; have HB2 := Lib.hid ((HB0.out.trans (b2.mono HB0.out.size)).alloc (Nat.le_trans HB0.out.size b2.size) (.cells u.cells.toArray 49)); have HK2 := Lib.hid ((HK0.out.keep b2).alloc (.cells u.cells.toArray 49)); have HP2 := Lib.hid ((HP0.out.keep b2).alloc (.cells u.cells.toArray 49)); have HA2 := Lib.hid ((HA0.out.keep b2).alloc (.cells u.cells.toArray 49)); have HG2 := Lib.hid (Blk.new w2 49 u.cells.toArray); obtain ⟨c0, c1, c2, c3, c4, c5⟩ := HK2.out.six; have s0 := HP2.out.cell 0; have s1 := HP2.out.cell 1; clear b2)
    | (go_at_call 39; refine (HSZ.out _ HB2.out).mono ?_; rintro e w1 ⟨rfl, rfl⟩)
    | (go_at_call 40; refine (lies_any a n HAN.out HLI.out _).mono ?_; rintro e w3 ⟨rfl, b3⟩; have HB3 := Lib.hid (HB2.out.trans (b3.mono HB2.out.size)); have HA3 := Lib.hid (HA2.out.keep b3); have HG3 := Lib.hid (HG2.out.keep b3); have HK3 := Lib.hid (HK2.out.keep b3); clear b3 c0 c1 c2 c3 c4 c5 s0 s1; obtain ⟨c0, c1, c2, c3, c4, c5⟩ := HK3.out.six)
    | (refine wpList_yields (S := fun w' => ObAt w' w2.heap.size 0 u) (y_ob (by rfl) (.tmp 10) (by rfl) w2.heap.size 0 (by rfl) u (fun _ h => h)) HG3.out.ob ?_)
    | (show wpList _ _ _ ({ dst := some 43, op := .build _ _, type := _, pos := _, after := _, guard := _ } :: _) _ _; refine wpList_yields (S := fun _ => True) (y_build72 (by rfl) (.tmp 39) (.tmp 40) (.tmp 42) (by rfl) p x.o u (by rfl) (by rfl) (by rfl)) trivial ?_)
    | (show wpList _ _ _ ({ dst := none, op := .store _ (.tmp 8) (.tmp 43), type := _, pos := _, after := _, guard := _ } :: _) _ _; refine wpList_store_big HA3.out rfl (.tmp 8) (.tmp 43) (ty := 72) (l := pgc p x.o u) rfl (by rfl) (by rfl) (by rw [pgc_len]; exact size72) (by rw [pgc_len, zpgc_len]) (pgc_one _ _ _) ?_))
  simp only [Exit.jump]
  exact bodyPost_ret (res_1t rfl _ _ (w.heap.size + 1 + 1) _ _ rfl rfl (load_pg (HA3.out.setRow _))) rfl ⟨rfl, below_setRow HB3.out (by omega) _⟩
set_option maxRecDepth 100000 in
set_option maxHeartbeats 2000000 in
theorem ask_yes_f {p : Nat} (x : Ky) (ch : Bool) (a n : Int) (m : Int) (hm : m ≠ 0) (hk : x.k = 3) (hc : ch = false) (ha : a ≤ 9223372036854775807) (hi : inB a n)
    (hnm : ∀ W, Below w.heap.size w W → Calls Tryd.prog 38 #[pv p, x.val] W fun e w' => e = .returned (.tuple #[u.val, .bool true]) ∧ Below W.heap.size W w')
    (hsz : ∀ W, Below w.heap.size w W → Calls Tryd.prog 39 #[pv p] W fun e w' => e = .returned (.int .i64 m) ∧ W = w') :
    Calls Tryd.prog 23 #[pv p, x.val, .bool ch, .agg (spn a n)] w fun e w' => e = .returned (.tuple #[pgv p x.o u, .int .i64 0]) ∧ Below w.heap.size w w' := by
  have HNM := Lib.hid hnm
  have HSZ := Lib.hid hsz
  clear hnm hsz
  have dm : (m == 0) = false := by simpa using hm
  clear hm
  have dk : (x.k != 3) = false := by simpa using hk
  clear hk
  subst hc
  have HAN := Lib.hid ha
  have HLI := Lib.hid (show decide (inB a n) = true by simpa using hi)
  clear ha hi
  have hz := z34
  have hz2 := z72
  have hbl := oz_len
  have hbl2 := zpgc_len
  have HB0 := Lib.hid ((((Below.refl w.heap.size w).alloc (Nat.le_refl _) (.cells (kc x.k x.o x.c x.l x.r x.v) 30)).alloc (by simp) (.cells (spn a n) 76)).alloc (by simp; omega) (.cells zpgc.toArray 72))
  have HK0 := Lib.hid (((Blk.new w 30 (kc x.k x.o x.c x.l x.r x.v)).alloc (.cells (spn a n) 76)).alloc (.cells zpgc.toArray 72))
  have HP0 := Lib.hid ((Blk.new_of (w.alloc (.cells (kc x.k x.o x.c x.l x.r x.v) 30)) 76 (spn a n) (g := w.heap.size + 1) (by simp)).alloc (.cells zpgc.toArray 72))
  have HA0 := Lib.hid (Blk.new_of ((w.alloc (.cells (kc x.k x.o x.c x.l x.r x.v) 30)).alloc (.cells (spn a n) 76)) 72 zpgc.toArray (g := w.heap.size + 1 + 1) (by simp))
  go_enter Tryd.func23, Tryd.ntmps23
  go_wp2_with fail
  refine wp_scope_once 0 (by rfl) ?_
  go_wp2_with (first
    | (show wpList _ _ _ ({ dst := none, op := .store _ (.tmp 10) (.tmp 17), type := _, pos := _, after := _, guard := _ } :: _) _ _; refine wpList_store_last rfl (.tmp 10) (.tmp 17) rfl _ rfl rfl u oz rfl ?_)
    | (go_at_call 38; refine (HNM.out _ HB0.out).mono ?_; rintro e w2 ⟨rfl, b2⟩; have HB2 := Lib.hid ((HB0.out.trans (b2.mono HB0.out.size)).alloc (Nat.le_trans HB0.out.size b2.size) (.cells u.cells.toArray 49)); have HK2 := Lib.hid ((HK0.out.keep b2).alloc (.cells u.cells.toArray 49)); have HP2 := Lib.hid ((HP0.out.keep b2).alloc (.cells u.cells.toArray 49)); have HA2 := Lib.hid ((HA0.out.keep b2).alloc (.cells u.cells.toArray 49)); have HG2 := Lib.hid (Blk.new w2 49 u.cells.toArray); obtain ⟨c0, c1, c2, c3, c4, c5⟩ := HK2.out.six; have s0 := HP2.out.cell 0; have s1 := HP2.out.cell 1; clear b2)
    | (go_at_call 39; refine (HSZ.out _ HB2.out).mono ?_; rintro e w1 ⟨rfl, rfl⟩)
    | (go_at_call 40; refine (lies_any a n HAN.out HLI.out _).mono ?_; rintro e w3 ⟨rfl, b3⟩; have HB3 := Lib.hid (HB2.out.trans (b3.mono HB2.out.size)); have HA3 := Lib.hid (HA2.out.keep b3); have HG3 := Lib.hid (HG2.out.keep b3); have HK3 := Lib.hid (HK2.out.keep b3); clear b3 c0 c1 c2 c3 c4 c5 s0 s1; obtain ⟨c0, c1, c2, c3, c4, c5⟩ := HK3.out.six)
    | (refine wpList_yields (S := fun w' => ObAt w' w2.heap.size 0 u) (y_ob (by rfl) (.tmp 10) (by rfl) w2.heap.size 0 (by rfl) u (fun _ h => h)) HG3.out.ob ?_)
    | (show wpList _ _ _ ({ dst := some 43, op := .build _ _, type := _, pos := _, after := _, guard := _ } :: _) _ _; refine wpList_yields (S := fun _ => True) (y_build72 (by rfl) (.tmp 39) (.tmp 40) (.tmp 42) (by rfl) p x.o u (by rfl) (by rfl) (by rfl)) trivial ?_)
    | (show wpList _ _ _ ({ dst := none, op := .store _ (.tmp 8) (.tmp 43), type := _, pos := _, after := _, guard := _ } :: _) _ _; refine wpList_store_big HA3.out rfl (.tmp 8) (.tmp 43) (ty := 72) (l := pgc p x.o u) rfl (by rfl) (by rfl) (by rw [pgc_len]; exact size72) (by rw [pgc_len, zpgc_len]) (pgc_one _ _ _) ?_))
  simp only [Exit.jump]
  exact bodyPost_ret (res_1t rfl _ _ (w.heap.size + 1 + 1) _ _ rfl rfl (load_pg (HA3.out.setRow _))) rfl ⟨rfl, below_setRow HB3.out (by omega) _⟩
end
end Go.Proofs.YtedlacdijkggjaaDoor

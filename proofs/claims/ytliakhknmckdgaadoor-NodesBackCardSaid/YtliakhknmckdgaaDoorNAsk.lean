/- nodes: ask, mustBeSlot, openBy. -/
import Derived.Test.YtliakhknmckdgaaDoorNDef
namespace Go.Proofs.YtliakhknmckdgaaDoor
open Go.RowKit
section
variable {w : World} {base p : Nat} {A : Option Addr} {cap : Nat} {ps : List Nat} {os : List Oj}
set_option maxRecDepth 8000 in
theorem nm_some (h : StAt w base p A cap ps os) (hn : 0 < os.length) (hT : Tab w) {x : Ky} {o : Oj} (hx : named os x = some o) :
    Calls Tryd.prog 50 #[pv p, x.val] w fun e w' => e = .returned (.tuple #[o.val, .bool true]) ∧ Below w.heap.size w w' := by
  have := named_at h hn hT x
  rwa [hx] at this
set_option maxRecDepth 8000 in
theorem nm_none (h : StAt w base p A cap ps os) (hn : 0 < os.length) (hT : Tab w) {x : Ky} (hx : named os x = none) :
    Calls Tryd.prog 50 #[pv p, x.val] w fun e w' => e = .returned (.tuple #[oz.val, .bool false]) ∧ Below w.heap.size w w' := by
  have := named_at h hn hT x
  rwa [hx] at this
theorem size_m (h : StAt w base p A cap ps os) (hn : 0 < os.length) {m : Int} (hm : m = (os.length : Int)) : Calls Tryd.prog 67 #[pv p] w fun e w' => e = .returned (.int .i64 m) ∧ w = w' := hm ▸ size_at h hn
set_option maxRecDepth 8000 in
theorem slot_ok (i : Nat) (hi : i < 16) (w : World) : Calls Tryd.prog 36 #[.int .i64 (i : Int)] w fun e w' => e = .returned (.tuple #[]) ∧ w = w' := by
  have d0 : decide ((i : Int) < 0) = false := decide_eq_false (by omega)
  have d1 : decide ((16 : Int) ≤ (i : Int)) = false := decide_eq_false (by omega)
  have d2 : decide (16 ≤ i) = false := decide_eq_false (by omega)
  go_enter Tryd.func36, Tryd.ntmps36
  go_wp2
  go_end0
  exact ⟨rfl, rfl⟩
set_option maxRecDepth 8000 in
theorem slot_no (i : Int) (hi : ¬ (0 ≤ i ∧ i < 16)) (w : World) : Calls Tryd.prog 36 #[.int .i64 i] w fun e w' => e = .panicked (erc 4) ∧ w = w' := by
  by_cases h : i < 0
  · have d0 : decide (i < 0) = true := decide_eq_true h
    go_enter Tryd.func36, Tryd.ntmps36
    go_wp2
    exact ⟨rfl, rfl, rfl⟩
  · have d0 : decide (i < 0) = false := decide_eq_false h
    have d1 : decide ((16 : Int) ≤ i) = true := decide_eq_true (by omega)
    go_enter Tryd.func36, Tryd.ntmps36
    go_wp2
    exact ⟨rfl, rfl, rfl⟩
set_option maxRecDepth 100000 in
set_option maxHeartbeats 2000000 in
theorem ask_nil (x : Ky) :
    Calls Tryd.prog 35 #[.pointer none, x.val] w fun e w' => e = .panicked (erc 1) ∧ Below w.heap.size w w' := by
  have hz := z34
  have hz2 := z87
  have hz3 := z93
  have hbl := oz_len
  have hbl2 := zakc_len
  have HB0 := Lib.hid (((Below.refl w.heap.size w).alloc (Nat.le_refl _) (.cells (kc x.k x.o x.c x.l x.r x.v) 32)).alloc (by simp) (.cells zakc.toArray 87))
  have HK0 := Lib.hid ((Blk.new w 32 (kc x.k x.o x.c x.l x.r x.v)).alloc (.cells zakc.toArray 87))
  have HA0 := Lib.hid (Blk.new_of (w.alloc (.cells (kc x.k x.o x.c x.l x.r x.v) 32)) 87 zakc.toArray (g := w.heap.size + 1) (by simp))
  go_enter Tryd.func35, Tryd.ntmps35
  go_wp2_with (go_at_call 67; refine (size_nil _).mono ?_; rintro e w1 ⟨rfl, rfl⟩)
  exact ⟨rfl, rfl, HB0.out⟩
set_option maxRecDepth 100000 in
set_option maxHeartbeats 2000000 in
theorem ask_none (h : StAt w base p A cap ps []) (x : Ky) :
    Calls Tryd.prog 35 #[pv p, x.val] w fun e w' => e = .panicked (erc 1) ∧ Below w.heap.size w w' := by
  have HS0 := Lib.hid ((h.alloc (.cells (kc x.k x.o x.c x.l x.r x.v) 32)).alloc (.cells zakc.toArray 87))
  clear h
  have hz := z34
  have hz2 := z87
  have hz3 := z93
  have hbl := oz_len
  have hbl2 := zakc_len
  have HB0 := Lib.hid (((Below.refl w.heap.size w).alloc (Nat.le_refl _) (.cells (kc x.k x.o x.c x.l x.r x.v) 32)).alloc (by simp) (.cells zakc.toArray 87))
  have HK0 := Lib.hid ((Blk.new w 32 (kc x.k x.o x.c x.l x.r x.v)).alloc (.cells zakc.toArray 87))
  have HA0 := Lib.hid (Blk.new_of (w.alloc (.cells (kc x.k x.o x.c x.l x.r x.v) 32)) 87 zakc.toArray (g := w.heap.size + 1) (by simp))
  go_enter Tryd.func35, Tryd.ntmps35
  go_wp2_with (go_at_call 67; refine (size_none HS0.out).mono ?_; rintro e w1 ⟨rfl, rfl⟩)
  exact ⟨rfl, rfl, HB0.out⟩
set_option maxRecDepth 100000 in
set_option maxHeartbeats 2000000 in
theorem ask_un (h : StAt w base p A cap ps os) (hn : 0 < os.length) (hT : Tab w) (x : Ky) (hx : named os x = none) :
    Calls Tryd.prog 35 #[pv p, x.val] w fun e w' => e = .panicked (erc 190) ∧ Below w.heap.size w w' := by
  have HX := Lib.hid hx
  clear hx
  have hz := z34
  have hz2 := z87
  have hz3 := z93
  have hbl := oz_len
  have hbl2 := zakc_len
  obtain ⟨m, hm⟩ : ∃ m : Int, m = (os.length : Int) := ⟨_, rfl⟩
  have dm : (m == 0) = false := by simp; omega
  have HM := Lib.hid hm
  clear hm
  have HN := Lib.hid hn
  have HT0 := Lib.hid ((hT.alloc (.cells (kc x.k x.o x.c x.l x.r x.v) 32)).alloc (.cells zakc.toArray 87))
  have HS0 := Lib.hid ((h.alloc (.cells (kc x.k x.o x.c x.l x.r x.v) 32)).alloc (.cells zakc.toArray 87))
  clear hT h hn
  have HB0 := Lib.hid (((Below.refl w.heap.size w).alloc (Nat.le_refl _) (.cells (kc x.k x.o x.c x.l x.r x.v) 32)).alloc (by simp) (.cells zakc.toArray 87))
  have HK0 := Lib.hid ((Blk.new w 32 (kc x.k x.o x.c x.l x.r x.v)).alloc (.cells zakc.toArray 87))
  have HA0 := Lib.hid (Blk.new_of (w.alloc (.cells (kc x.k x.o x.c x.l x.r x.v) 32)) 87 zakc.toArray (g := w.heap.size + 1) (by simp))
  go_enter Tryd.func35, Tryd.ntmps35
  go_wp2_with (first
    | (go_at_call 67; refine (size_m HS0.out HN.out HM.out).mono ?_; rintro e w1 ⟨rfl, rfl⟩)
    | (go_at_call 50; refine (nm_none HS0.out HN.out HT0.out HX.out).mono ?_; rintro e w2 ⟨rfl, b2⟩; have HB2 := Lib.hid ((HB0.out.trans (b2.mono HB0.out.size)).alloc (Nat.le_trans HB0.out.size b2.size) (.cells (oz).cells.toArray 60)); have HK2 := Lib.hid ((HK0.out.keep b2).alloc (.cells (oz).cells.toArray 60)); have HA2 := Lib.hid ((HA0.out.keep b2).alloc (.cells (oz).cells.toArray 60)); have HG2 := Lib.hid (Blk.new w2 60 (oz).cells.toArray); obtain ⟨c0, c1, c2, c3, c4, c5⟩ := HK2.out.six; clear b2)
    | (refine wpList_store_last rfl (.tmp 5) (.tmp 15) rfl _ rfl rfl (oz) oz rfl ?_))
  exact ⟨rfl, rfl, HB2.out⟩
set_option maxRecDepth 100000 in
set_option maxHeartbeats 2000000 in
theorem ask_kind (h : StAt w base p A cap ps os) (hn : 0 < os.length) (hT : Tab w) (x : Ky) (u : Oj) (hx : named os x = some u) (hk : x.k ≠ 2) :
    Calls Tryd.prog 35 #[pv p, x.val] w fun e w' => e = .panicked (erc 190) ∧ Below w.heap.size w w' := by
  have HX := Lib.hid hx
  have dk : (x.k != 2) = true := by simpa using hk
  clear hx hk
  have hz := z34
  have hz2 := z87
  have hz3 := z93
  have hbl := oz_len
  have hbl2 := zakc_len
  obtain ⟨m, hm⟩ : ∃ m : Int, m = (os.length : Int) := ⟨_, rfl⟩
  have dm : (m == 0) = false := by simp; omega
  have HM := Lib.hid hm
  clear hm
  have HN := Lib.hid hn
  have HT0 := Lib.hid ((hT.alloc (.cells (kc x.k x.o x.c x.l x.r x.v) 32)).alloc (.cells zakc.toArray 87))
  have HS0 := Lib.hid ((h.alloc (.cells (kc x.k x.o x.c x.l x.r x.v) 32)).alloc (.cells zakc.toArray 87))
  clear hT h hn
  have HB0 := Lib.hid (((Below.refl w.heap.size w).alloc (Nat.le_refl _) (.cells (kc x.k x.o x.c x.l x.r x.v) 32)).alloc (by simp) (.cells zakc.toArray 87))
  have HK0 := Lib.hid ((Blk.new w 32 (kc x.k x.o x.c x.l x.r x.v)).alloc (.cells zakc.toArray 87))
  have HA0 := Lib.hid (Blk.new_of (w.alloc (.cells (kc x.k x.o x.c x.l x.r x.v) 32)) 87 zakc.toArray (g := w.heap.size + 1) (by simp))
  go_enter Tryd.func35, Tryd.ntmps35
  go_wp2_with (first
    | (go_at_call 67; refine (size_m HS0.out HN.out HM.out).mono ?_; rintro e w1 ⟨rfl, rfl⟩)
    | (go_at_call 50; refine (nm_some HS0.out HN.out HT0.out HX.out).mono ?_; rintro e w2 ⟨rfl, b2⟩; have HB2 := Lib.hid ((HB0.out.trans (b2.mono HB0.out.size)).alloc (Nat.le_trans HB0.out.size b2.size) (.cells (u).cells.toArray 60)); have HK2 := Lib.hid ((HK0.out.keep b2).alloc (.cells (u).cells.toArray 60)); have HA2 := Lib.hid ((HA0.out.keep b2).alloc (.cells (u).cells.toArray 60)); have HG2 := Lib.hid (Blk.new w2 60 (u).cells.toArray); obtain ⟨c0, c1, c2, c3, c4, c5⟩ := HK2.out.six; clear b2)
    | (refine wpList_store_last rfl (.tmp 5) (.tmp 15) rfl _ rfl rfl (u) oz rfl ?_))
  exact ⟨rfl, rfl, HB2.out⟩
set_option maxRecDepth 100000 in
set_option maxHeartbeats 2000000 in
theorem ask_yes (h : StAt w base p A cap ps os) (hn : 0 < os.length) (hT : Tab w) (x : Ky) (u : Oj) (hx : named os x = some u) (hk : x.k = 2) :
    Calls Tryd.prog 35 #[pv p, x.val] w fun e w' => e = .returned (akv p x u) ∧ Below w.heap.size w w' := by
  have HX := Lib.hid hx
  have dk : (x.k != 2) = false := by simpa using hk
  clear hx hk
  have hz := z34
  have hz2 := z87
  have hz3 := z93
  have hbl := oz_len
  have hbl2 := zakc_len
  obtain ⟨m, hm⟩ : ∃ m : Int, m = (os.length : Int) := ⟨_, rfl⟩
  have dm : (m == 0) = false := by simp; omega
  have HM := Lib.hid hm
  clear hm
  have HN := Lib.hid hn
  have HT0 := Lib.hid ((hT.alloc (.cells (kc x.k x.o x.c x.l x.r x.v) 32)).alloc (.cells zakc.toArray 87))
  have HS0 := Lib.hid ((h.alloc (.cells (kc x.k x.o x.c x.l x.r x.v) 32)).alloc (.cells zakc.toArray 87))
  clear hT h hn
  have HB0 := Lib.hid (((Below.refl w.heap.size w).alloc (Nat.le_refl _) (.cells (kc x.k x.o x.c x.l x.r x.v) 32)).alloc (by simp) (.cells zakc.toArray 87))
  have HK0 := Lib.hid ((Blk.new w 32 (kc x.k x.o x.c x.l x.r x.v)).alloc (.cells zakc.toArray 87))
  have HA0 := Lib.hid (Blk.new_of (w.alloc (.cells (kc x.k x.o x.c x.l x.r x.v) 32)) 87 zakc.toArray (g := w.heap.size + 1) (by simp))
  go_enter Tryd.func35, Tryd.ntmps35
  go_wp2_with (first
    | (go_at_call 67; refine (size_m HS0.out HN.out HM.out).mono ?_; rintro e w1 ⟨rfl, rfl⟩)
    | (go_at_call 50; refine (nm_some HS0.out HN.out HT0.out HX.out).mono ?_; rintro e w2 ⟨rfl, b2⟩; have HB2 := Lib.hid ((HB0.out.trans (b2.mono HB0.out.size)).alloc (Nat.le_trans HB0.out.size b2.size) (.cells (u).cells.toArray 60)); have HK2 := Lib.hid ((HK0.out.keep b2).alloc (.cells (u).cells.toArray 60)); have HA2 := Lib.hid ((HA0.out.keep b2).alloc (.cells (u).cells.toArray 60)); have HG2 := Lib.hid (Blk.new w2 60 (u).cells.toArray); obtain ⟨c0, c1, c2, c3, c4, c5⟩ := HK2.out.six; clear b2)
    | (refine wpList_store_last rfl (.tmp 5) (.tmp 15) rfl _ rfl rfl (u) oz rfl ?_)
    | (refine wpList_yields (S := fun w' => ObAt w' w2.heap.size 0 u) (y_ob (by rfl) (.tmp 5) (by rfl) w2.heap.size 0 (by rfl) u (fun _ h => h)) HG2.out.ob ?_)
    | (refine wpList_yields (S := fun _ => True) (y_build87 (by rfl) (.tmp 25) (.tmp 26) (.tmp 27) (by rfl) p x u (by rfl) (by rfl) (by rfl)) trivial ?_)
    | (refine wpList_store_big HA2.out rfl (.tmp 4) (.tmp 28) (ty := 87) (l := akc p x u) rfl (by rfl) (by rfl) (by rw [akc_len]; exact size87) (by rw [akc_len, zakc_len]) (akc_one _ _ _) ?_))
  exact bodyPost_ret (res_1 rfl _ _ (w.heap.size + 1) _ rfl (load_ak p x u (HA2.out.setRow _))) rfl ⟨rfl, below_setRow HB2.out (by omega) _⟩
set_option maxRecDepth 8000 in
theorem ask_no (h : StAt w base p A cap ps os) (hn : 0 < os.length) (hT : Tab w) (x : Ky) (hx : ¬ ((named os x).isSome = true ∧ x.k = 2)) : Calls Tryd.prog 35 #[pv p, x.val] w fun e w' => e = .panicked (erc 190) ∧ Below w.heap.size w w' := by
  cases hq : named os x with
  | none => exact ask_un h hn hT x hq
  | some u => exact ask_kind h hn hT x u hq (fun hk => hx ⟨by rw [hq]; rfl, hk⟩)
set_option maxRecDepth 100000 in
set_option maxHeartbeats 2000000 in
theorem open_nil (x : Ky) :
    Calls Tryd.prog 39 #[.pointer none, x.val] w fun e w' => e = .panicked (erc 1) ∧ Below w.heap.size w w' := by
  have hz := z34
  have hz2 := z87
  have hz3 := z93
  have hbl := oz_len
  have hbl2 := zakc_len
  have HB0 := Lib.hid (((Below.refl w.heap.size w).alloc (Nat.le_refl _) (.cells (kc x.k x.o x.c x.l x.r x.v) 32)).alloc (by simp) (.cells zakc.toArray 93))
  have HK0 := Lib.hid ((Blk.new w 32 (kc x.k x.o x.c x.l x.r x.v)).alloc (.cells zakc.toArray 93))
  have HA0 := Lib.hid (Blk.new_of (w.alloc (.cells (kc x.k x.o x.c x.l x.r x.v) 32)) 93 zakc.toArray (g := w.heap.size + 1) (by simp))
  go_enter Tryd.func39, Tryd.ntmps39
  go_wp2_with (go_at_call 35; refine (ask_nil x).mono ?_; rintro e w2 ⟨rfl, b2⟩; have HB2 := Lib.hid (HB0.out.trans (b2.mono HB0.out.size)); clear b2)
  exact ⟨rfl, rfl, HB2.out⟩
set_option maxRecDepth 100000 in
set_option maxHeartbeats 2000000 in
theorem open_none (h : StAt w base p A cap ps []) (x : Ky) :
    Calls Tryd.prog 39 #[pv p, x.val] w fun e w' => e = .panicked (erc 1) ∧ Below w.heap.size w w' := by
  have HS0 := Lib.hid ((h.alloc (.cells (kc x.k x.o x.c x.l x.r x.v) 32)).alloc (.cells zakc.toArray 93))
  clear h
  have hz := z34
  have hz2 := z87
  have hz3 := z93
  have hbl := oz_len
  have hbl2 := zakc_len
  have HB0 := Lib.hid (((Below.refl w.heap.size w).alloc (Nat.le_refl _) (.cells (kc x.k x.o x.c x.l x.r x.v) 32)).alloc (by simp) (.cells zakc.toArray 93))
  have HK0 := Lib.hid ((Blk.new w 32 (kc x.k x.o x.c x.l x.r x.v)).alloc (.cells zakc.toArray 93))
  have HA0 := Lib.hid (Blk.new_of (w.alloc (.cells (kc x.k x.o x.c x.l x.r x.v) 32)) 93 zakc.toArray (g := w.heap.size + 1) (by simp))
  go_enter Tryd.func39, Tryd.ntmps39
  go_wp2_with (go_at_call 35; refine (ask_none HS0.out x).mono ?_; rintro e w2 ⟨rfl, b2⟩; have HB2 := Lib.hid (HB0.out.trans (b2.mono HB0.out.size)); clear b2)
  exact ⟨rfl, rfl, HB2.out⟩
set_option maxRecDepth 100000 in
set_option maxHeartbeats 2000000 in
theorem open_no (h : StAt w base p A cap ps os) (hn : 0 < os.length) (hT : Tab w) (x : Ky) (hx : ¬ ((named os x).isSome = true ∧ x.k = 2)) :
    Calls Tryd.prog 39 #[pv p, x.val] w fun e w' => e = .panicked (erc 190) ∧ Below w.heap.size w w' := by
  have HX := Lib.hid hx
  clear hx
  have hz := z34
  have hz2 := z87
  have hz3 := z93
  have hbl := oz_len
  have hbl2 := zakc_len
  obtain ⟨m, hm⟩ : ∃ m : Int, m = (os.length : Int) := ⟨_, rfl⟩
  have dm : (m == 0) = false := by simp; omega
  have HM := Lib.hid hm
  clear hm
  have HN := Lib.hid hn
  have HT0 := Lib.hid ((hT.alloc (.cells (kc x.k x.o x.c x.l x.r x.v) 32)).alloc (.cells zakc.toArray 93))
  have HS0 := Lib.hid ((h.alloc (.cells (kc x.k x.o x.c x.l x.r x.v) 32)).alloc (.cells zakc.toArray 93))
  clear hT h hn
  have HB0 := Lib.hid (((Below.refl w.heap.size w).alloc (Nat.le_refl _) (.cells (kc x.k x.o x.c x.l x.r x.v) 32)).alloc (by simp) (.cells zakc.toArray 93))
  have HK0 := Lib.hid ((Blk.new w 32 (kc x.k x.o x.c x.l x.r x.v)).alloc (.cells zakc.toArray 93))
  have HA0 := Lib.hid (Blk.new_of (w.alloc (.cells (kc x.k x.o x.c x.l x.r x.v) 32)) 93 zakc.toArray (g := w.heap.size + 1) (by simp))
  go_enter Tryd.func39, Tryd.ntmps39
  go_wp2_with (go_at_call 35; refine (ask_no HS0.out HN.out HT0.out x HX.out).mono ?_; rintro e w2 ⟨rfl, b2⟩; have HB2 := Lib.hid (HB0.out.trans (b2.mono HB0.out.size)); clear b2)
  exact ⟨rfl, rfl, HB2.out⟩
set_option maxRecDepth 100000 in
set_option maxHeartbeats 2000000 in
theorem open_right (h : StAt w base p A cap ps os) (hn : 0 < os.length) (hT : Tab w) (x : Ky) (u : Oj) (hx : named os x = some u) (hk : x.k = 2) (hok : x.ok) (hr4 : x.r % 4 ≠ 0) :
    Calls Tryd.prog 39 #[pv p, x.val] w fun e w' => e = .panicked (erc 191) ∧ Below w.heap.size w w' := by
  have HX := Lib.hid hx
  have HKK := Lib.hid hk
  obtain ⟨_, r, hr, _, hr8⟩ := ok_of hok
  have ha := and3 r hr hr8
  have hd : (((r % 4 : Nat) : Int) != 0) = true := by simp; omega
  clear hx hk hok hr4 hr
  have hz := z34
  have hz2 := z87
  have hz3 := z93
  have hbl := oz_len
  have hbl2 := zakc_len
  obtain ⟨m, hm⟩ : ∃ m : Int, m = (os.length : Int) := ⟨_, rfl⟩
  have dm : (m == 0) = false := by simp; omega
  have HM := Lib.hid hm
  clear hm
  have HN := Lib.hid hn
  have HT0 := Lib.hid ((hT.alloc (.cells (kc x.k x.o x.c x.l x.r x.v) 32)).alloc (.cells zakc.toArray 93))
  have HS0 := Lib.hid ((h.alloc (.cells (kc x.k x.o x.c x.l x.r x.v) 32)).alloc (.cells zakc.toArray 93))
  clear hT h hn
  have HB0 := Lib.hid (((Below.refl w.heap.size w).alloc (Nat.le_refl _) (.cells (kc x.k x.o x.c x.l x.r x.v) 32)).alloc (by simp) (.cells zakc.toArray 93))
  have HK0 := Lib.hid ((Blk.new w 32 (kc x.k x.o x.c x.l x.r x.v)).alloc (.cells zakc.toArray 93))
  have HA0 := Lib.hid (Blk.new_of (w.alloc (.cells (kc x.k x.o x.c x.l x.r x.v) 32)) 93 zakc.toArray (g := w.heap.size + 1) (by simp))
  go_enter Tryd.func39, Tryd.ntmps39
  go_wp2_with (first
    | (go_at_call 35; refine (ask_yes HS0.out HN.out HT0.out x u HX.out HKK.out).mono ?_; rintro e w2 ⟨rfl, b2⟩; have HB2 := Lib.hid ((HB0.out.trans (b2.mono HB0.out.size)).alloc (Nat.le_trans HB0.out.size b2.size) (.cells (akc p x u).toArray 87)); have HK2 := Lib.hid ((HK0.out.keep b2).alloc (.cells (akc p x u).toArray 87)); have HA2 := Lib.hid ((HA0.out.keep b2).alloc (.cells (akc p x u).toArray 87)); have HG2 := Lib.hid (Blk.new w2 87 (akc p x u).toArray); obtain ⟨c0, c1, c2, c3, c4, c5⟩ := HK2.out.six; clear b2)
    | (refine wpList_store_new (l := akc p x u) (l0 := zakc) (ty := 87) rfl (.tmp 5) (.tmp 8) (by rfl) _ rfl (by rfl) (by rfl) (by rw [akc_len]; exact size87) (by rw [akc_len, zakc_len]) (akc_one _ _ _) ?_))
  exact ⟨rfl, rfl, HB2.out⟩
set_option maxRecDepth 100000 in
set_option maxHeartbeats 2000000 in
theorem open_yes (h : StAt w base p A cap ps os) (hn : 0 < os.length) (hT : Tab w) (x : Ky) (u : Oj) (hx : named os x = some u) (hk : x.k = 2) (hok : x.ok) (hr4 : x.r % 4 = 0) :
    Calls Tryd.prog 39 #[pv p, x.val] w fun e w' => e = .returned (akv p x u) ∧ Below w.heap.size w w' := by
  have HX := Lib.hid hx
  have HKK := Lib.hid hk
  obtain ⟨_, r, hr, _, hr8⟩ := ok_of hok
  have ha := and3 r hr hr8
  have hd : (((r % 4 : Nat) : Int) != 0) = false := by simp; omega
  clear hx hk hok hr4 hr
  have hz := z34
  have hz2 := z87
  have hz3 := z93
  have hbl := oz_len
  have hbl2 := zakc_len
  obtain ⟨m, hm⟩ : ∃ m : Int, m = (os.length : Int) := ⟨_, rfl⟩
  have dm : (m == 0) = false := by simp; omega
  have HM := Lib.hid hm
  clear hm
  have HN := Lib.hid hn
  have HT0 := Lib.hid ((hT.alloc (.cells (kc x.k x.o x.c x.l x.r x.v) 32)).alloc (.cells zakc.toArray 93))
  have HS0 := Lib.hid ((h.alloc (.cells (kc x.k x.o x.c x.l x.r x.v) 32)).alloc (.cells zakc.toArray 93))
  clear hT h hn
  have HB0 := Lib.hid (((Below.refl w.heap.size w).alloc (Nat.le_refl _) (.cells (kc x.k x.o x.c x.l x.r x.v) 32)).alloc (by simp) (.cells zakc.toArray 93))
  have HK0 := Lib.hid ((Blk.new w 32 (kc x.k x.o x.c x.l x.r x.v)).alloc (.cells zakc.toArray 93))
  have HA0 := Lib.hid (Blk.new_of (w.alloc (.cells (kc x.k x.o x.c x.l x.r x.v) 32)) 93 zakc.toArray (g := w.heap.size + 1) (by simp))
  go_enter Tryd.func39, Tryd.ntmps39
  go_wp2_with (first
    | (go_at_call 35; refine (ask_yes HS0.out HN.out HT0.out x u HX.out HKK.out).mono ?_; rintro e w2 ⟨rfl, b2⟩; have HB2 := Lib.hid ((HB0.out.trans (b2.mono HB0.out.size)).alloc (Nat.le_trans HB0.out.size b2.size) (.cells (akc p x u).toArray 87)); have HK2 := Lib.hid ((HK0.out.keep b2).alloc (.cells (akc p x u).toArray 87)); have HA2 := Lib.hid ((HA0.out.keep b2).alloc (.cells (akc p x u).toArray 87)); have HG2 := Lib.hid (Blk.new w2 87 (akc p x u).toArray); obtain ⟨c0, c1, c2, c3, c4, c5⟩ := HK2.out.six; clear b2)
    | (refine wpList_store_new (l := akc p x u) (l0 := zakc) (ty := 87) rfl (.tmp 5) (.tmp 8) (by rfl) _ rfl (by rfl) (by rfl) (by rw [akc_len]; exact size87) (by rw [akc_len, zakc_len]) (akc_one _ _ _) ?_)
    | (refine wpList_yields (S := fun w' => AkAt w' w2.heap.size 0 p x u) (y_ak (by rfl) (.tmp 5) (by rfl) w2.heap.size 0 (by rfl) p x u (fun _ h => h)) HG2.out.ak ?_)
    | (refine wpList_yields (S := fun _ => True) (y_build93 (by rfl) (.tmp 14) (by rfl) p x u (by rfl)) trivial ?_)
    | (refine wpList_store_big HA2.out rfl (.tmp 4) (.tmp 15) (ty := 93) (l := akc p x u) rfl (by rfl) (by rfl) (by rw [akc_len]; exact size93) (by rw [akc_len, zakc_len]) (akc_one _ _ _) ?_))
  exact bodyPost_ret (res_1 rfl _ _ (w.heap.size + 1) _ rfl (load_op p x u (HA2.out.setRow _))) rfl ⟨rfl, below_setRow HB2.out (by omega) _⟩
end
end Go.Proofs.YtliakhknmckdgaaDoor

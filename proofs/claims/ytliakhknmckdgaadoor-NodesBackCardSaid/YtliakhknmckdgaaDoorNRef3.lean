/- The document's answers: Get, Put, Clear, Clone. -/
import Derived.Test.YtliakhknmckdgaaDoorNRef2
import Derived.Test.YtliakhknmckdgaaDoorR09
import Derived.Test.YtliakhknmckdgaaDoorR05
namespace Go.Proofs.YtliakhknmckdgaaDoor
open Go.RowKit
set_option maxRecDepth 8000 in
theorem built30 : Tryd.prog.built 32 [] = some (kl zk).toArray := by kernel_rfl
section
variable {w : World} {A : Option Addr} {l : List Oj} {n cap : Nat}
theorem obj_at (hr : RdO w A l) (j : Nat) (hj : j < l.length) : ∃ b off, A = some ⟨b, off, none⟩ ∧ ObAt w b (off + j * 163) l[j] := hr j hj
theorem RdO.far {g : Nat} {b : Nat} (h : RdO w (some ⟨g, 0, none⟩) l) (hb : b ≠ g) (c : Array Value) : RdO (w.setRow b c) (some ⟨g, 0, none⟩) l := fun i hi => by
  obtain ⟨b', off, e, ho⟩ := h i hi
  injection e with e
  injection e with e1 e2
  subst e1 e2
  exact ⟨_, _, rfl, ho.keep (setRow_other w b _ c (Ne.symm hb))⟩
set_option maxRecDepth 100000 in
set_option maxHeartbeats 4000000 in
theorem rget_err (hr : RdO w A l) (hn : l.length = n) (hl : n ≤ 1000) (h0 : 0 < n) (x : Ky) (i : Int) (e : Int) (he : e ≠ 0) (ha : ∀ W, Below w.heap.size w W → Calls Tryd.prog 28 #[.slice A n cap, x.val, .int .i64 2, .bool false] W fun e' w' => e' = .returned (.int .i64 e) ∧ Below W.heap.size W w')  :
    Calls Tryd.prog 24 #[.slice A n cap, x.val, .int .i64 i] w fun e_ w' => e_ = .returned (.tuple #[zk.val, .int .i64 e]) ∧ Below w.heap.size w w' := by
  have hz := z34
  have hbo := oz_len
  have HB0 := Lib.hid (((Below.refl w.heap.size w).alloc (Nat.le_refl _) (.cells (kc x.k x.o x.c x.l x.r x.v) 32)).alloc (by simp) (.cells (kc 0 0 0 0 0 0) 32))
  have HK0 := Lib.hid ((Blk.new_of w 32 (kc x.k x.o x.c x.l x.r x.v) (g := w.heap.size) (by simp)).alloc (.cells (kc 0 0 0 0 0 0) 32))
  have HZ0 := Lib.hid (Blk.new_of (w.alloc (.cells (kc x.k x.o x.c x.l x.r x.v) 32)) 32 (kc 0 0 0 0 0 0) (g := w.heap.size + 1) (by simp))
  have HR0 := Lib.hid ((hr.alloc (.cells (kc x.k x.o x.c x.l x.r x.v) 32)).alloc (.cells (kc 0 0 0 0 0 0) 32))
  have HA := Lib.hid ha
  have de : (e == 0) = false := by simpa using he
  have de' : (e != 0) = true := by simpa using he
  clear ha he
  have HN := Lib.hid hn
  have HL := Lib.hid hl
  have H0 := Lib.hid h0
  clear hr hn hl h0
  obtain ⟨c0, c1, c2, c3, c4, c5⟩ := HK0.out.six
  go_enter Tryd.func24, Tryd.ntmps24
  go_wp2_with (first
    | (go_at_call 28; refine (HA.out _ HB0.out).mono ?_; rintro e_ w1 ⟨rfl, b1⟩; have HB1 := Lib.hid (HB0.out.trans (b1.mono HB0.out.size)); have HK1 := Lib.hid ((HK0.out.keep b1)); have HZ1 := Lib.hid ((HZ0.out.keep b1)); clear c0 c1 c2 c3 c4 c5; obtain ⟨c0, c1, c2, c3, c4, c5⟩ := HK1.out.six; clear b1)
    | (show wpList _ _ _ ({ dst := some 24, op := .build _ _, type := _, pos := _, after := _, guard := _ } :: _) _ _; refine wpList_yields (S := fun _ => True) (y_build (by rfl) (by rfl) built30) trivial ?_)
    | (refine wpList_store_big (l0 := kl zk) HZ1.out rfl (.tmp 6) (.tmp 24) (ty := 32) (l := kl zk) rfl (by rfl) (by rfl) size30 rfl (kl_one _) ?_))
  exact bodyPost_ret (res_1t rfl _ _ (w.heap.size + 1) _ _ rfl rfl (load_key zk (HZ1.out.setRow _))) rfl ⟨rfl, below_setRow HB1.out (by omega) _⟩
set_option maxRecDepth 100000 in
set_option maxHeartbeats 4000000 in
theorem rget_slot (hr : RdO w A l) (hn : l.length = n) (hl : n ≤ 1000) (h0 : 0 < n) (x : Ky) (hx : (named l x).isSome = true) (hk : x.k = 2) (i : Int) (hi : ¬ (0 ≤ i ∧ i < 16)) :
    Calls Tryd.prog 24 #[.slice A n cap, x.val, .int .i64 i] w fun e w' => e = .returned (.tuple #[zk.val, .int .i64 4]) ∧ Below w.heap.size w w' := by
  have hz := z34
  have hbo := oz_len
  have HB0 := Lib.hid (((Below.refl w.heap.size w).alloc (Nat.le_refl _) (.cells (kc x.k x.o x.c x.l x.r x.v) 32)).alloc (by simp) (.cells (kc 0 0 0 0 0 0) 32))
  have HK0 := Lib.hid ((Blk.new_of w 32 (kc x.k x.o x.c x.l x.r x.v) (g := w.heap.size) (by simp)).alloc (.cells (kc 0 0 0 0 0 0) 32))
  have HZ0 := Lib.hid (Blk.new_of (w.alloc (.cells (kc x.k x.o x.c x.l x.r x.v) 32)) 32 (kc 0 0 0 0 0 0) (g := w.heap.size + 1) (by simp))
  have HR0 := Lib.hid ((hr.alloc (.cells (kc x.k x.o x.c x.l x.r x.v) 32)).alloc (.cells (kc 0 0 0 0 0 0) 32))
  have HX := Lib.hid hx
  have HKK := Lib.hid hk
  clear hx hk
  have HN := Lib.hid hn
  have HL := Lib.hid hl
  have H0 := Lib.hid h0
  clear hr hn hl h0
  obtain ⟨b1, hb1⟩ : ∃ b, b = decide (i < 0) := ⟨_, rfl⟩
  have d1 : decide (i < 0) = true ∨ decide (i < 0) = false ∧ decide ((15 : Int) < i) = true := by by_cases h : i < 0; exact .inl (decide_eq_true h); exact .inr ⟨decide_eq_false h, decide_eq_true (by omega)⟩
  clear hi hb1 b1
  obtain ⟨c0, c1, c2, c3, c4, c5⟩ := HK0.out.six
  rcases d1 with d1 | ⟨d1, d2⟩
  all_goals
    go_enter Tryd.func24, Tryd.ntmps24
    go_wp2_with (first
      | (go_at_call 28; refine (rask_yes_f HR0.out HN.out HL.out H0.out x HX.out HKK.out).mono ?_; rintro e w1 ⟨rfl, b1⟩; have HB1 := Lib.hid (HB0.out.trans (b1.mono HB0.out.size)); have HK1 := Lib.hid ((HK0.out.keep b1)); have HZ1 := Lib.hid ((HZ0.out.keep b1)); clear c0 c1 c2 c3 c4 c5; obtain ⟨c0, c1, c2, c3, c4, c5⟩ := HK1.out.six; clear b1)
      | (show wpList _ _ _ ({ dst := some 24, op := .build _ _, type := _, pos := _, after := _, guard := _ } :: _) _ _; refine wpList_yields (S := fun _ => True) (y_build (by rfl) (by rfl) built30) trivial ?_)
      | (refine wpList_store_big (l0 := kl zk) HZ1.out rfl (.tmp 6) (.tmp 24) (ty := 32) (l := kl zk) rfl (by rfl) (by rfl) size30 rfl (kl_one _) ?_))
    exact bodyPost_ret (res_1t rfl _ _ (w.heap.size + 1) _ _ rfl rfl (load_key zk (HZ1.out.setRow _))) rfl ⟨rfl, below_setRow HB1.out (by omega) _⟩
set_option maxRecDepth 100000 in
set_option maxHeartbeats 4000000 in
theorem rget_yes (hr : RdO w A l) (hn : l.length = n) (hl : n ≤ 1000) (h0 : 0 < n) (x : Ky) (hx : (named l x).isSome = true) (hk : x.k = 2) (j : Nat) (hj : j < l.length) (hxo : x.o = (j : Int)) (i : Nat) (hi : i < 16) (y : Ky) (hy : (l[j]).s[i]? = some y) (hok : x.ok) (g : Ky) (hg : gotK l x y = g) :
    Calls Tryd.prog 24 #[.slice A n cap, x.val, .int .i64 (i : Int)] w fun e w' => e = .returned (.tuple #[g.val, .int .i64 0]) ∧ Below w.heap.size w w' := by
  have hz := z34
  have hbo := oz_len
  have HB0 := Lib.hid (((Below.refl w.heap.size w).alloc (Nat.le_refl _) (.cells (kc x.k x.o x.c x.l x.r x.v) 32)).alloc (by simp) (.cells (kc 0 0 0 0 0 0) 32))
  have HK0 := Lib.hid ((Blk.new_of w 32 (kc x.k x.o x.c x.l x.r x.v) (g := w.heap.size) (by simp)).alloc (.cells (kc 0 0 0 0 0 0) 32))
  have HZ0 := Lib.hid (Blk.new_of (w.alloc (.cells (kc x.k x.o x.c x.l x.r x.v) 32)) 32 (kc 0 0 0 0 0 0) (g := w.heap.size + 1) (by simp))
  have HR0 := Lib.hid ((hr.alloc (.cells (kc x.k x.o x.c x.l x.r x.v) 32)).alloc (.cells (kc 0 0 0 0 0 0) 32))
  have HX := Lib.hid hx
  have HKK := Lib.hid hk
  clear hx hk
  have d1 : decide ((i : Int) < 0) = false := decide_eq_false (by omega)
  have d2 : decide ((15 : Int) < (i : Int)) = false := decide_eq_false (by omega)
  have d2' : decide (15 < i) = false := decide_eq_false (by omega)
  have HG := Lib.hid (fun (W : World) (h : RdO W A l) => rgot_any (cap := cap) h hn hl x j hj hxo i hi y hy hok hg)
  clear hj hxo hi hy hok hg
  have HN := Lib.hid hn
  have HL := Lib.hid hl
  have H0 := Lib.hid h0
  clear hr hn hl h0
  obtain ⟨c0, c1, c2, c3, c4, c5⟩ := HK0.out.six
  go_enter Tryd.func24, Tryd.ntmps24
  go_wp2_with (first
    | (go_at_call 28; refine (rask_yes_f HR0.out HN.out HL.out H0.out x HX.out HKK.out).mono ?_; rintro e w1 ⟨rfl, b1⟩; have HB1 := Lib.hid (HB0.out.trans (b1.mono HB0.out.size)); have HK1 := Lib.hid ((HK0.out.keep b1)); have HZ1 := Lib.hid ((HZ0.out.keep b1)); have HR1 := Lib.hid ((HR0.out.below b1)); clear c0 c1 c2 c3 c4 c5; obtain ⟨c0, c1, c2, c3, c4, c5⟩ := HK1.out.six; clear b1)
    | (go_at_call 29; refine (HG.out _ HR1.out).mono ?_; rintro e w2 ⟨rfl, b2⟩; have HB2 := Lib.hid (HB1.out.trans (b2.mono HB1.out.size)); have HZ2 := Lib.hid ((HZ1.out.keep b2)); clear b2)
    | (refine wpList_store_big (l0 := kl zk) HZ2.out rfl (.tmp 6) (.tmp 29) (ty := 32) (l := kl g) rfl (by rfl) (by rfl) size30 rfl (kl_one _) ?_))
  exact bodyPost_ret (res_1t rfl _ _ (w.heap.size + 1) _ _ rfl rfl (load_key g (HZ2.out.setRow _))) rfl ⟨rfl, below_setRow HB2.out (by omega) _⟩
set_option maxRecDepth 100000 in
set_option maxHeartbeats 4000000 in
theorem rputs_err (hr : RdO w A l) (hn : l.length = n) (hl : n ≤ 1000) (h0 : 0 < n) (x v : Ky) (i : Int) (e : Int) (he : e ≠ 0) (ha : ∀ W, Below w.heap.size w W → Calls Tryd.prog 28 #[.slice A n cap, x.val, .int .i64 2, .bool true] W fun e' w' => e' = .returned (.int .i64 e) ∧ Below W.heap.size W w')  :
    Calls Tryd.prog 25 #[.slice A n cap, x.val, .int .i64 i, v.val] w fun e_ w' => e_ = .returned (.tuple #[.slice A n cap, zk.val, .int .i64 e]) ∧ Below w.heap.size w w' := by
  have hz := z34
  have hbo := oz_len
  have HB0 := Lib.hid ((((Below.refl w.heap.size w).alloc (Nat.le_refl _) (.cells (kc x.k x.o x.c x.l x.r x.v) 32)).alloc (by simp) (.cells (kc v.k v.o v.c v.l v.r v.v) 32)).alloc (by simp; omega) (.cells (kc 0 0 0 0 0 0) 32))
  have HK0 := Lib.hid (((Blk.new_of w 32 (kc x.k x.o x.c x.l x.r x.v) (g := w.heap.size) (by simp)).alloc (.cells (kc v.k v.o v.c v.l v.r v.v) 32)).alloc (.cells (kc 0 0 0 0 0 0) 32))
  have HV0 := Lib.hid ((Blk.new_of (w.alloc (.cells (kc x.k x.o x.c x.l x.r x.v) 32)) 32 (kc v.k v.o v.c v.l v.r v.v) (g := w.heap.size + 1) (by simp)).alloc (.cells (kc 0 0 0 0 0 0) 32))
  have HZ0 := Lib.hid (Blk.new_of ((w.alloc (.cells (kc x.k x.o x.c x.l x.r x.v) 32)).alloc (.cells (kc v.k v.o v.c v.l v.r v.v) 32)) 32 (kc 0 0 0 0 0 0) (g := w.heap.size + 1 + 1) (by simp))
  have HR0 := Lib.hid (((hr.alloc (.cells (kc x.k x.o x.c x.l x.r x.v) 32)).alloc (.cells (kc v.k v.o v.c v.l v.r v.v) 32)).alloc (.cells (kc 0 0 0 0 0 0) 32))
  have HA := Lib.hid ha
  have de : (e == 0) = false := by simpa using he
  have de' : (e != 0) = true := by simpa using he
  clear ha he
  have HN := Lib.hid hn
  have HL := Lib.hid hl
  have H0 := Lib.hid h0
  clear hr hn hl h0
  obtain ⟨c0, c1, c2, c3, c4, c5⟩ := HK0.out.six
  obtain ⟨v0, v1, v2, v3, v4, v5⟩ := HV0.out.six
  go_enter Tryd.func25, Tryd.ntmps25
  go_wp2_with (first
    | (go_at_call 28; refine (HA.out _ HB0.out).mono ?_; rintro e_ w1 ⟨rfl, b1⟩; have HB1 := Lib.hid (HB0.out.trans (b1.mono HB0.out.size)); have HK1 := Lib.hid ((HK0.out.keep b1)); have HV1 := Lib.hid ((HV0.out.keep b1)); have HZ1 := Lib.hid ((HZ0.out.keep b1)); clear c0 c1 c2 c3 c4 c5 v0 v1 v2 v3 v4 v5; obtain ⟨c0, c1, c2, c3, c4, c5⟩ := HK1.out.six; obtain ⟨v0, v1, v2, v3, v4, v5⟩ := HV1.out.six; clear b1)
    | (show wpList _ _ _ ({ dst := some 38, op := .build _ _, type := _, pos := _, after := _, guard := _ } :: _) _ _; refine wpList_yields (S := fun _ => True) (y_build (by rfl) (by rfl) built30) trivial ?_)
    | (refine wpList_store_big (l0 := kl zk) HZ1.out rfl (.tmp 9) (.tmp 38) (ty := 32) (l := kl zk) rfl (by rfl) (by rfl) size30 rfl (kl_one _) ?_))
  exact bodyPost_ret (res_t1t rfl _ _ (w.heap.size + 1 + 1) _ _ _ rfl rfl rfl (load_key zk (HZ1.out.setRow _))) rfl ⟨rfl, below_setRow HB1.out (by omega) _⟩
set_option maxRecDepth 100000 in
set_option maxHeartbeats 4000000 in
theorem rputs_slot (hr : RdO w A l) (hn : l.length = n) (hl : n ≤ 1000) (h0 : 0 < n) (x v : Ky) (hx : (named l x).isSome = true) (hk : x.k = 2) (hok : x.ok) (hr4 : x.r % 4 = 0) (i : Int) (hi : ¬ (0 ≤ i ∧ i < 16)) :
    Calls Tryd.prog 25 #[.slice A n cap, x.val, .int .i64 i, v.val] w fun e w' => e = .returned (.tuple #[.slice A n cap, zk.val, .int .i64 4]) ∧ Below w.heap.size w w' := by
  have hz := z34
  have hbo := oz_len
  have HB0 := Lib.hid ((((Below.refl w.heap.size w).alloc (Nat.le_refl _) (.cells (kc x.k x.o x.c x.l x.r x.v) 32)).alloc (by simp) (.cells (kc v.k v.o v.c v.l v.r v.v) 32)).alloc (by simp; omega) (.cells (kc 0 0 0 0 0 0) 32))
  have HK0 := Lib.hid (((Blk.new_of w 32 (kc x.k x.o x.c x.l x.r x.v) (g := w.heap.size) (by simp)).alloc (.cells (kc v.k v.o v.c v.l v.r v.v) 32)).alloc (.cells (kc 0 0 0 0 0 0) 32))
  have HV0 := Lib.hid ((Blk.new_of (w.alloc (.cells (kc x.k x.o x.c x.l x.r x.v) 32)) 32 (kc v.k v.o v.c v.l v.r v.v) (g := w.heap.size + 1) (by simp)).alloc (.cells (kc 0 0 0 0 0 0) 32))
  have HZ0 := Lib.hid (Blk.new_of ((w.alloc (.cells (kc x.k x.o x.c x.l x.r x.v) 32)).alloc (.cells (kc v.k v.o v.c v.l v.r v.v) 32)) 32 (kc 0 0 0 0 0 0) (g := w.heap.size + 1 + 1) (by simp))
  have HR0 := Lib.hid (((hr.alloc (.cells (kc x.k x.o x.c x.l x.r x.v) 32)).alloc (.cells (kc v.k v.o v.c v.l v.r v.v) 32)).alloc (.cells (kc 0 0 0 0 0 0) 32))
  have HX := Lib.hid hx
  have HKK := Lib.hid hk
  clear hx hk
  have HO := Lib.hid hok
  have HR4 := Lib.hid hr4
  clear hok hr4
  have HN := Lib.hid hn
  have HL := Lib.hid hl
  have H0 := Lib.hid h0
  clear hr hn hl h0
  have d1 : decide (i < 0) = true ∨ decide (i < 0) = false ∧ decide ((15 : Int) < i) = true := by by_cases h : i < 0; exact .inl (decide_eq_true h); exact .inr ⟨decide_eq_false h, decide_eq_true (by omega)⟩
  clear hi
  obtain ⟨c0, c1, c2, c3, c4, c5⟩ := HK0.out.six
  obtain ⟨v0, v1, v2, v3, v4, v5⟩ := HV0.out.six
  rcases d1 with d1 | ⟨d1, d2⟩
  all_goals
    go_enter Tryd.func25, Tryd.ntmps25
    go_wp2_with (first
      | (go_at_call 28; refine (rask_yes_t HR0.out HN.out HL.out H0.out x HX.out HKK.out HO.out HR4.out).mono ?_; rintro e w1 ⟨rfl, b1⟩; have HB1 := Lib.hid (HB0.out.trans (b1.mono HB0.out.size)); have HK1 := Lib.hid ((HK0.out.keep b1)); have HV1 := Lib.hid ((HV0.out.keep b1)); have HZ1 := Lib.hid ((HZ0.out.keep b1)); clear c0 c1 c2 c3 c4 c5 v0 v1 v2 v3 v4 v5; obtain ⟨c0, c1, c2, c3, c4, c5⟩ := HK1.out.six; obtain ⟨v0, v1, v2, v3, v4, v5⟩ := HV1.out.six; clear b1)
      | (show wpList _ _ _ ({ dst := some 38, op := .build _ _, type := _, pos := _, after := _, guard := _ } :: _) _ _; refine wpList_yields (S := fun _ => True) (y_build (by rfl) (by rfl) built30) trivial ?_)
      | (refine wpList_store_big (l0 := kl zk) HZ1.out rfl (.tmp 9) (.tmp 38) (ty := 32) (l := kl zk) rfl (by rfl) (by rfl) size30 rfl (kl_one _) ?_))
    exact bodyPost_ret (res_t1t rfl _ _ (w.heap.size + 1 + 1) _ _ _ rfl rfl rfl (load_key zk (HZ1.out.setRow _))) rfl ⟨rfl, below_setRow HB1.out (by omega) _⟩
set_option maxRecDepth 100000 in
set_option maxHeartbeats 4000000 in
theorem rputs_arg (hr : RdO w A l) (hn : l.length = n) (hl : n ≤ 1000) (h0 : 0 < n) (x v : Ky) (hx : (named l x).isSome = true) (hk : x.k = 2) (hok : x.ok) (hr4 : x.r % 4 = 0) (i : Nat) (hi : i < 16) (hv : ¬ v.may n) :
    Calls Tryd.prog 25 #[.slice A n cap, x.val, .int .i64 (i : Int), v.val] w fun e w' => e = .returned (.tuple #[.slice A n cap, zk.val, .int .i64 2]) ∧ Below w.heap.size w w' := by
  have hz := z34
  have hbo := oz_len
  have HB0 := Lib.hid ((((Below.refl w.heap.size w).alloc (Nat.le_refl _) (.cells (kc x.k x.o x.c x.l x.r x.v) 32)).alloc (by simp) (.cells (kc v.k v.o v.c v.l v.r v.v) 32)).alloc (by simp; omega) (.cells (kc 0 0 0 0 0 0) 32))
  have HK0 := Lib.hid (((Blk.new_of w 32 (kc x.k x.o x.c x.l x.r x.v) (g := w.heap.size) (by simp)).alloc (.cells (kc v.k v.o v.c v.l v.r v.v) 32)).alloc (.cells (kc 0 0 0 0 0 0) 32))
  have HV0 := Lib.hid ((Blk.new_of (w.alloc (.cells (kc x.k x.o x.c x.l x.r x.v) 32)) 32 (kc v.k v.o v.c v.l v.r v.v) (g := w.heap.size + 1) (by simp)).alloc (.cells (kc 0 0 0 0 0 0) 32))
  have HZ0 := Lib.hid (Blk.new_of ((w.alloc (.cells (kc x.k x.o x.c x.l x.r x.v) 32)).alloc (.cells (kc v.k v.o v.c v.l v.r v.v) 32)) 32 (kc 0 0 0 0 0 0) (g := w.heap.size + 1 + 1) (by simp))
  have HR0 := Lib.hid (((hr.alloc (.cells (kc x.k x.o x.c x.l x.r x.v) 32)).alloc (.cells (kc v.k v.o v.c v.l v.r v.v) 32)).alloc (.cells (kc 0 0 0 0 0 0) 32))
  have HX := Lib.hid hx
  have HKK := Lib.hid hk
  clear hx hk
  have HO := Lib.hid hok
  have HR4 := Lib.hid hr4
  clear hok hr4
  have HN := Lib.hid hn
  have HL := Lib.hid hl
  have H0 := Lib.hid h0
  clear hr hn hl h0
  have d1 : decide ((i : Int) < 0) = false := decide_eq_false (by omega)
  have d2 : decide ((15 : Int) < (i : Int)) = false := decide_eq_false (by omega)
  have d2' : decide (15 < i) = false := decide_eq_false (by omega)
  have HV_ := Lib.hid hv
  clear hi hv
  obtain ⟨c0, c1, c2, c3, c4, c5⟩ := HK0.out.six
  obtain ⟨v0, v1, v2, v3, v4, v5⟩ := HV0.out.six
  go_enter Tryd.func25, Tryd.ntmps25
  go_wp2_with (first
    | (go_at_call 28; refine (rask_yes_t HR0.out HN.out HL.out H0.out x HX.out HKK.out HO.out HR4.out).mono ?_; rintro e w1 ⟨rfl, b1⟩; have HB1 := Lib.hid (HB0.out.trans (b1.mono HB0.out.size)); have HK1 := Lib.hid ((HK0.out.keep b1)); have HV1 := Lib.hid ((HV0.out.keep b1)); have HZ1 := Lib.hid ((HZ0.out.keep b1)); clear c0 c1 c2 c3 c4 c5 v0 v1 v2 v3 v4 v5; obtain ⟨c0, c1, c2, c3, c4, c5⟩ := HK1.out.six; obtain ⟨v0, v1, v2, v3, v4, v5⟩ := HV1.out.six; clear b1)
    | (go_at_call 18; refine (rmay_n n cap A v HV_.out _).mono ?_; rintro e w2 ⟨rfl, b2⟩; have HB2 := Lib.hid (HB1.out.trans (b2.mono HB1.out.size)); have HZ2 := Lib.hid ((HZ1.out.keep b2)); clear b2)
    | (show wpList _ _ _ ({ dst := some 38, op := .build _ _, type := _, pos := _, after := _, guard := _ } :: _) _ _; refine wpList_yields (S := fun _ => True) (y_build (by rfl) (by rfl) built30) trivial ?_)
    | (refine wpList_store_big (l0 := kl zk) HZ2.out rfl (.tmp 9) (.tmp 38) (ty := 32) (l := kl zk) rfl (by rfl) (by rfl) size30 rfl (kl_one _) ?_))
  exact bodyPost_ret (res_t1t rfl _ _ (w.heap.size + 1 + 1) _ _ _ rfl rfl rfl (load_key zk (HZ2.out.setRow _))) rfl ⟨rfl, below_setRow HB2.out (by omega) _⟩
set_option maxRecDepth 100000 in
set_option maxHeartbeats 4000000 in
theorem rputs_yes (hr : RdO w A l) (hn : l.length = n) (hl : n ≤ 1000) (h0 : 0 < n) (x v : Ky) (hx : (named l x).isSome = true) (hk : x.k = 2) (hok : x.ok) (hr4 : x.r % 4 = 0) (j : Nat) (hj : j < l.length) (hxo : x.o = (j : Int)) (i : Nat) (hi : i < 16) (y : Ky) (hy : (l[j]).s[i]? = some y) (g : Ky) (hg : gotK l x y = g) (hv : v.may n) :
    Calls Tryd.prog 25 #[.slice A n cap, x.val, .int .i64 (i : Int), v.val] w fun e w' => ∃ g' c', e = .returned (.tuple #[.slice (some ⟨g', 0, none⟩) n c', g.val, .int .i64 0]) ∧ w.heap.size ≤ g' ∧ RdO w' (some ⟨g', 0, none⟩) (l.set j (slotAs l[j] i (prepd l v))) ∧ Below w.heap.size w w' := by
  have hz := z34
  have hbo := oz_len
  have HB0 := Lib.hid ((((Below.refl w.heap.size w).alloc (Nat.le_refl _) (.cells (kc x.k x.o x.c x.l x.r x.v) 32)).alloc (by simp) (.cells (kc v.k v.o v.c v.l v.r v.v) 32)).alloc (by simp; omega) (.cells (kc 0 0 0 0 0 0) 32))
  have HK0 := Lib.hid (((Blk.new_of w 32 (kc x.k x.o x.c x.l x.r x.v) (g := w.heap.size) (by simp)).alloc (.cells (kc v.k v.o v.c v.l v.r v.v) 32)).alloc (.cells (kc 0 0 0 0 0 0) 32))
  have HV0 := Lib.hid ((Blk.new_of (w.alloc (.cells (kc x.k x.o x.c x.l x.r x.v) 32)) 32 (kc v.k v.o v.c v.l v.r v.v) (g := w.heap.size + 1) (by simp)).alloc (.cells (kc 0 0 0 0 0 0) 32))
  have HZ0 := Lib.hid (Blk.new_of ((w.alloc (.cells (kc x.k x.o x.c x.l x.r x.v) 32)).alloc (.cells (kc v.k v.o v.c v.l v.r v.v) 32)) 32 (kc 0 0 0 0 0 0) (g := w.heap.size + 1 + 1) (by simp))
  have HR0s := Lib.hid hr
  have HR0 := Lib.hid (((hr.alloc (.cells (kc x.k x.o x.c x.l x.r x.v) 32)).alloc (.cells (kc v.k v.o v.c v.l v.r v.v) 32)).alloc (.cells (kc 0 0 0 0 0 0) 32))
  have HX := Lib.hid hx
  have HKK := Lib.hid hk
  clear hx hk
  have HO := Lib.hid hok
  have HR4 := Lib.hid hr4
  clear hok hr4
  have d1 : decide ((i : Int) < 0) = false := decide_eq_false (by omega)
  have d2 : decide ((15 : Int) < (i : Int)) = false := decide_eq_false (by omega)
  have d2' : decide (15 < i) = false := decide_eq_false (by omega)
  obtain ⟨b, off, rfl, hob⟩ := hr j hj
  obtain ⟨u, hu⟩ : ∃ u, l[j] = u := ⟨_, rfl⟩
  rw [hu] at hob hy ⊢
  have HOB := Lib.hid hob
  have HXO := Lib.hid hxo
  have dj : (j : Int) < (n : Int) := by omega
  have di : (i : Int) < 16 := by omega
  have HJ := Lib.hid (show j < n by omega)
  have HI := Lib.hid hi
  have HV_ := Lib.hid hv
  have HG := Lib.hid (fun (W : World) (h : RdO W (some ⟨b, off, none⟩) l) => rgot_any (cap := cap) h hn hl x j hj hxo i hi y (by rw [hu]; exact hy) HO.out hg)
  obtain ⟨q, hq⟩ : ∃ q, prepd l v = q := ⟨_, rfl⟩
  rw [hq]
  have HQ := Lib.hid hq
  have HUS := Lib.hid u.hs
  have HFT := Lib.hid (show 3 + i * 6 + (kl q).length ≤ u.cells.length by rw [kl_len, u.len]; omega)
  obtain ⟨U, hU⟩ : ∃ U, slotAs u i q = U := ⟨_, rfl⟩
  have HSE := Lib.hid (hU ▸ slot_set u i hi q)
  have hset : l.set j (slotAs u i q) = l.set j U := by rw [hU]
  rw [hset]
  clear hset hU
  clear hj hxo hi hy hg hv hob hu hq
  have HN := Lib.hid hn
  have HL := Lib.hid hl
  have H0 := Lib.hid h0
  clear hr hn hl h0
  obtain ⟨c0, c1, c2, c3, c4, c5⟩ := HK0.out.six
  obtain ⟨v0, v1, v2, v3, v4, v5⟩ := HV0.out.six
  go_enter Tryd.func25, Tryd.ntmps25
  go_wp2_with (first
    | (go_at_call 28; refine (rask_yes_t HR0.out HN.out HL.out H0.out x HX.out HKK.out HO.out HR4.out).mono ?_; rintro e w1 ⟨rfl, b1⟩; have HB1 := Lib.hid (HB0.out.trans (b1.mono HB0.out.size)); have HK1 := Lib.hid ((HK0.out.keep b1)); have HV1 := Lib.hid ((HV0.out.keep b1)); have HZ1 := Lib.hid ((HZ0.out.keep b1)); have HR1 := Lib.hid ((HR0.out.below b1)); clear c0 c1 c2 c3 c4 c5 v0 v1 v2 v3 v4 v5; obtain ⟨c0, c1, c2, c3, c4, c5⟩ := HK1.out.six; obtain ⟨v0, v1, v2, v3, v4, v5⟩ := HV1.out.six; clear b1)
    | (go_at_call 18; refine (rmay_y n cap _ v HV_.out _).mono ?_; rintro e w2 ⟨rfl, b2⟩; have HB2 := Lib.hid (HB1.out.trans (b2.mono HB1.out.size)); have HK2 := Lib.hid ((HK1.out.keep b2)); have HV2 := Lib.hid ((HV1.out.keep b2)); have HZ2 := Lib.hid ((HZ1.out.keep b2)); have HR2 := Lib.hid ((HR1.out.below b2)); clear c0 c1 c2 c3 c4 c5 v0 v1 v2 v3 v4 v5; obtain ⟨c0, c1, c2, c3, c4, c5⟩ := HK2.out.six; obtain ⟨v0, v1, v2, v3, v4, v5⟩ := HV2.out.six; clear b2)
    | (go_at_call 29; refine (HG.out _ HR2.out).mono ?_; rintro e w3 ⟨rfl, b3⟩; have HB3 := Lib.hid ((HB2.out.trans (b3.mono HB2.out.size)).alloc (Nat.le_trans HB2.out.size b3.size) (.cells (kl g).toArray 32)); have HK3 := Lib.hid ((HK2.out.keep b3).alloc (.cells (kl g).toArray 32)); have HV3 := Lib.hid ((HV2.out.keep b3).alloc (.cells (kl g).toArray 32)); have HZ3 := Lib.hid ((HZ2.out.keep b3).alloc (.cells (kl g).toArray 32)); have HR3 := Lib.hid ((HR2.out.below b3).alloc (.cells (kl g).toArray 32)); have HZL := Lib.hid (show w.heap.size + 1 + 1 < w3.heap.size from Nat.lt_of_lt_of_le HZ2.out.lt b3.size); have HG3 := Lib.hid (Blk.new w3 32 (kl g).toArray); have HS3 := Lib.hid (Nat.le_trans HB2.out.size b3.size); clear c0 c1 c2 c3 c4 c5 v0 v1 v2 v3 v4 v5; obtain ⟨c0, c1, c2, c3, c4, c5⟩ := HK3.out.six; obtain ⟨v0, v1, v2, v3, v4, v5⟩ := HV3.out.six; replace c1 := cell_eq c1 HXO.out; clear b3)
    | (refine wpList_store_new (l := kl g) (l0 := kl zk) (ty := 32) rfl (.tmp 12) (.tmp 43) (by rfl) _ rfl (by rfl) (by rfl) size30 rfl (kl_one _) ?_)
    | (refine wpList_yields (S := fun w' => ObAt w' b (off + j * 163) u) (y_ob (by rfl) (.tmp 47) (by rfl) b (off + j * 163) (by rfl) u (fun _ h => h)) (HOB.out.below HB3.out) ?_)
    | (refine wpList_store_last rfl (.tmp 13) (.tmp 48) rfl (w3.heap.size + 1) (by simp) rfl u oz rfl ?_; have HB4 := Lib.hid (HB3.out.alloc HB3.out.size (.cells u.cells.toArray 60)); have HU4 := Lib.hid (Blk.new_of (w3.alloc (.cells (kl g).toArray 32)) 60 u.cells.toArray (g := w3.heap.size + 1) (by simp)); have HK4 := Lib.hid (HK3.out.alloc (.cells u.cells.toArray 60)); have HV4 := Lib.hid (HV3.out.alloc (.cells u.cells.toArray 60)); have HZ4 := Lib.hid (HZ3.out.alloc (.cells u.cells.toArray 60)); have HR4_ := Lib.hid (HR3.out.alloc (.cells u.cells.toArray 60)); have HG4 := Lib.hid (HG3.out.alloc (.cells u.cells.toArray 60)); clear c0 c1 c2 c3 c4 c5 v0 v1 v2 v3 v4 v5; obtain ⟨c0, c1, c2, c3, c4, c5⟩ := HK4.out.six; obtain ⟨v0, v1, v2, v3, v4, v5⟩ := HV4.out.six)
    | (go_at_call 60; refine (rprep_n HR4_.out HN.out HL.out H0.out v HQ.out).mono ?_; rintro e w5 ⟨rfl, b5⟩; have HB5 := Lib.hid (HB4.out.trans (b5.mono HB4.out.size)); have HK5 := Lib.hid (HK4.out.keep b5); have HZ5 := Lib.hid (HZ4.out.keep b5); have HR5 := Lib.hid (HR4_.out.below b5); have HG5 := Lib.hid (HG4.out.keep b5); have HU5 := Lib.hid (HU4.out.keep b5); clear b5 c0 c1 c2 c3 c4 c5 v0 v1 v2 v3 v4 v5)
    | (refine wpList_store_in HU5.out rfl (.tmp 54) (.tmp 52) (ty := 32) (l := kl q) (off := 3 + i * 6) (by rfl) (by rfl) (by rfl) size30 HFT.out (kl_one _) HSE.out ?_))
  have HB6 := Lib.hid (below_setRow HB5.out (show w.heap.size ≤ w3.heap.size + 1 by have := HS3.out; omega) U.cells.toArray)
  have HU6 := Lib.hid (HU5.out.setRow U.cells.toArray)
  have HG6 := Lib.hid (Blk.row_far HG5.out (show w3.heap.size ≠ w3.heap.size + 1 by omega) U.cells.toArray)
  have HK6 := Lib.hid (Blk.row_far HK5.out (show w.heap.size ≠ w3.heap.size + 1 by have := HS3.out; omega) U.cells.toArray)
  have HZ6 := Lib.hid (Blk.row_far HZ5.out (show w.heap.size + 1 + 1 ≠ w3.heap.size + 1 by have := HZL.out; omega) U.cells.toArray)
  have HR6 := Lib.hid (HR0s.out.below HB6.out)
  generalize w5.setRow (w3.heap.size + 1) U.cells.toArray = W at HB6 HU6 HG6 HK6 HZ6 HR6 ⊢
  refine wp_region_only (S := fun w' => w'.cell? ⟨w.heap.size, 1, none⟩ = some (.int .i64 x.o) ∧ ObAt w' (w3.heap.size + 1) 0 U ∧ w'.cell? ⟨w3.heap.size, 0, none⟩ = some (.int .i64 g.k) ∧ w'.cell? ⟨w3.heap.size, 1, none⟩ = some (.int .i64 g.o) ∧ w'.cell? ⟨w3.heap.size, 2, none⟩ = some (.int .i64 g.c) ∧ w'.cell? ⟨w3.heap.size, 3, none⟩ = some (.int .i64 g.l) ∧ w'.cell? ⟨w3.heap.size, 4, none⟩ = some (.int .i64 g.r) ∧ w'.cell? ⟨w3.heap.size, 5, none⟩ = some (.int .i64 g.v)) (by kernel_rfl) ⟨HK6.out.drew.six.2.1, HU6.out.drew.ob, HG6.out.drew.six⟩ (fun hHeld => ?_)
  refine wpAnyH_take (i := 0) (v := ?v1) rfl (by kernel_rfl) (by kernel_rfl) (by kernel_rfl) (fun _ _ _ h => h) (Or.inl ⟨by rfl, ?hy1⟩) hHeld ?rest1
  case hy1 =>
    intro w' hSw
    try dsimp only at hSw
    go_simp
    first | done | with_reducible rfl
  try simp only [Act.put, List.getElem_toArray, List.getElem_cons_zero, List.setIfInBounds_toArray, List.set_cons_zero, List.set_cons_succ]
  refine wpAnyH_take (i := 1) (v := ?v2) rfl (by kernel_rfl) (by kernel_rfl) (by kernel_rfl) (fun _ _ _ h => h) (Or.inl ⟨by rfl, ?hy2⟩) hHeld ?rest2
  case hy2 =>
    intro w' hSw
    try dsimp only at hSw
    go_simp
    first | done | with_reducible rfl
  try simp only [Act.put, List.getElem_toArray, List.getElem_cons_succ, List.getElem_cons_zero, List.setIfInBounds_toArray, List.set_cons_zero, List.set_cons_succ]
  refine wpAnyH_take (i := 2) (v := ?v3) rfl (by kernel_rfl) (by kernel_rfl) (by kernel_rfl) (fun _ _ _ h => h) (Or.inl ⟨by rfl, ?hy3⟩) hHeld ?rest3
  case hy3 =>
    intro w' hSw
    try dsimp only at hSw
    go_simp
    first | done | with_reducible rfl
  try simp only [Act.put, List.getElem_toArray, List.getElem_cons_succ, List.getElem_cons_zero, List.setIfInBounds_toArray, List.set_cons_zero, List.set_cons_succ]
  refine wpAnyH_take (i := 3) rfl (by kernel_rfl) (by kernel_rfl) (by kernel_rfl) (fun _ _ _ h => h) (y_ob (by rfl) (.tmp 13) (by rfl) (w3.heap.size + 1) 0 (by rfl) U (fun _ h => h.2.1)) hHeld ?_
  try simp only [Act.put, List.getElem_toArray, List.getElem_cons_succ, List.getElem_cons_zero, List.setIfInBounds_toArray, List.set_cons_zero, List.set_cons_succ]
  refine wpAnyH_take (i := 5) (v := ?v4) rfl (by kernel_rfl) (by kernel_rfl) (by kernel_rfl) (fun _ _ _ h => h) (Or.inl ⟨by rfl, ?hy4⟩) hHeld ?rest4
  case hy4 =>
    intro w' hSw
    try dsimp only at hSw
    go_simp
    first | done | with_reducible rfl
  try simp only [Act.put, List.getElem_toArray, List.getElem_cons_succ, List.getElem_cons_zero, List.setIfInBounds_toArray, List.set_cons_zero, List.set_cons_succ]
  refine wpAnyH_ready (rs := [4]) (by kernel_rfl) (by simp) ?_
  refine AllReadyH.cons (by rfl) (fun K hK => ?_) AllReadyH.nil
  go_simp
  refine (rput_any HR6.out.drew HN.out HL.out j HJ.out U HXO.out).mono ?_
  rintro e y1 ⟨g9, c9, rfl, hg9, hr9, b9⟩
  have HR9 := Lib.hid hr9
  have HGG := Lib.hid hg9
  have HB9 := Lib.hid ((below_drew HB6.out).trans (b9.mono HB6.out.size))
  have HK9 := Lib.hid (HK6.out.drew.keep b9)
  have HU9 := Lib.hid (HU6.out.drew.keep b9)
  have HG9 := Lib.hid (HG6.out.drew.keep b9)
  have HZ9 := Lib.hid (HZ6.out.drew.keep b9)
  clear b9 hr9 hg9 hHeld
  go_wp2_with fail
  refine hK.out _ _ ⟨HK9.out.six.2.1, HU9.out.ob, HG9.out.six⟩ (fun hHeld => ?_)
  clear hK K
  try simp only [Act.put, List.getElem_toArray, List.getElem_cons_succ, List.getElem_cons_zero, List.setIfInBounds_toArray, List.set_cons_zero, List.set_cons_succ]
  refine wpAnyH_take (i := 6) (v := ?v5) rfl (by kernel_rfl) (by kernel_rfl) (by kernel_rfl) (fun _ _ _ h => h) (Or.inl ⟨by rfl, ?hy5⟩) hHeld ?rest5
  case hy5 =>
    intro w' hSw
    try dsimp only at hSw
    go_simp
    first | done | with_reducible rfl
  try simp only [Act.put, List.getElem_toArray, List.getElem_cons_succ, List.getElem_cons_zero, List.setIfInBounds_toArray, List.set_cons_zero, List.set_cons_succ]
  refine wpAnyH_ready (rs := [7]) (by kernel_rfl) (by simp) ?_
  refine AllReadyH.cons (by rfl) (fun K hK => ?_) AllReadyH.nil
  refine step_store_big (l0 := kl zk) HZ9.out rfl (.tmp 9) (.tmp 60) (ty := 32) (l := kl g) rfl (by rfl) (by rfl) size30 rfl (kl_one g) ?_
  refine hK.out _ _ ⟨(Blk.row_far HK9.out (by omega) _).six.2.1, (Blk.row_far HU9.out (show w3.heap.size + 1 ≠ w.heap.size + 1 + 1 by have := HZL.out; omega) _).ob, (Blk.row_far HG9.out (show w3.heap.size ≠ w.heap.size + 1 + 1 by have := HZL.out; omega) _).six⟩ (fun hHeld => ?_)
  clear hK K
  try simp only [Act.put, List.getElem_toArray, List.getElem_cons_succ, List.getElem_cons_zero]
  refine wpAnyH_take (i := 8) (v := ?v6) rfl (by kernel_rfl) (by kernel_rfl) (by kernel_rfl) (fun _ _ _ h => h) (Or.inl ⟨by rfl, ?hy6⟩) hHeld ?rest6
  case hy6 =>
    intro w' hSw
    try dsimp only at hSw
    go_simp
    first | done | with_reducible rfl
  try simp only [Act.put, List.getElem_toArray, List.getElem_cons_succ, List.getElem_cons_zero, List.setIfInBounds_toArray, List.set_cons_zero, List.set_cons_succ]
  refine wpAnyH_done (by kernel_rfl) ?_ _
  refine OnlyN.normal ?_
  clear hHeld
  have hfin : RdO (y1.setRow (w.heap.size + 1 + 1) (kl g).toArray) (some ⟨g9, 0, none⟩) (l.set j U) := HR9.out.far (by have h1 : W.heap.size ≤ g9 := HGG.out; have h2 := HZ6.out.lt; omega) _
  go_wp2
  exact bodyPost_ret (res_t1t rfl _ _ (w.heap.size + 1 + 1) _ _ _ rfl rfl rfl (load_key g (HZ9.out.setRow _))) rfl ⟨g9, c9, rfl, Nat.le_trans HB6.out.size HGG.out, hfin, below_setRow HB9.out (by omega) _⟩
end
end Go.Proofs.YtliakhknmckdgaaDoor

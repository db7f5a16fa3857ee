/- the document's layer 13: Invoke. -/
import Derived.Test.YtljfddeolapeaaaDoorJRa
namespace Go.Proofs.YtljfddeolapeaaaDoor
open Go.RowKit
attribute [local go_sem] Oper.semAt_some
structure Jri (w W : World) (x : Ky) (m : Mg) : Prop where
  bel : Below w.heap.size w W
  key : Blk W w.heap.size 33 (kl x).toArray
  msg : Blk W (w.heap.size + 1) 38 m.cells.toArray
theorem Jri.below {w W W' : World} {x : Ky} {m : Mg} (h : Jri w W x m) (b : Below W.heap.size W W') : Jri w W' x m := ⟨h.bel.trans (b.mono h.bel.size), h.key.keep b, h.msg.keep b⟩
theorem Jri.setm {w W : World} {x : Ky} {m : Mg} (h : Jri w W x m) (M : Mg) : Jri w (W.setRow (w.heap.size + 1) M.cells.toArray) x M := ⟨below_setRow h.bel (by omega) _, Blk.row_far h.key (by omega) _, h.msg.setRow _⟩
section
variable {w : World} {A : Option Addr} {cap n : Nat} {l : List Oj}
set_option maxRecDepth 100000 in
set_option maxHeartbeats 2000000 in
theorem rin_m1 (h0 : 0 < n) (i : Int) (x : Ky) (md : Int) (m : Mg) (h : md < 1) : Calls Tryd.prog 23 #[.slice A n cap, .int .i64 i, x.val, .int .i64 md, m.val] w fun e w' => e = .returned (.tuple #[.slice A n cap, .int .i64 2]) ∧ Below w.heap.size w w' := by
  have hml := m.len
  have dn : decide ((n : Int) = 0) = false := decide_eq_false (by omega)
  have dn' : ((n : Int) == 0) = false := by simp; omega
  have HI0 : Hid (Jri w ((w.alloc (.cells (kc x.k x.o x.c x.l x.r x.v) 33)).alloc (.cells m.cells.toArray 38)) x m) := Lib.hid ⟨((Below.refl w.heap.size w).alloc (Nat.le_refl _) (.cells (kc x.k x.o x.c x.l x.r x.v) 33)).alloc (by simp) (.cells m.cells.toArray 38), (Blk.new w 33 (kc x.k x.o x.c x.l x.r x.v)).alloc (.cells m.cells.toArray 38), Blk.new_of (w.alloc (.cells (kc x.k x.o x.c x.l x.r x.v) 33)) 38 m.cells.toArray (g := w.heap.size + 1) (by simp)⟩
  have d1 : decide (md < 1) = true := decide_eq_true h
  clear h0 h
  go_enter Tryd.func23, Tryd.ntmps23
  go_wp2_with fail
  go_ret2
  exact ⟨rfl, HI0.out.bel⟩
set_option maxRecDepth 100000 in
set_option maxHeartbeats 2000000 in
theorem rin_m2 (h0 : 0 < n) (i : Int) (x : Ky) (md : Int) (m : Mg) (h : ¬ md < 1) (h2 : 3 < md) : Calls Tryd.prog 23 #[.slice A n cap, .int .i64 i, x.val, .int .i64 md, m.val] w fun e w' => e = .returned (.tuple #[.slice A n cap, .int .i64 2]) ∧ Below w.heap.size w w' := by
  have hml := m.len
  have dn : decide ((n : Int) = 0) = false := decide_eq_false (by omega)
  have dn' : ((n : Int) == 0) = false := by simp; omega
  have HI0 : Hid (Jri w ((w.alloc (.cells (kc x.k x.o x.c x.l x.r x.v) 33)).alloc (.cells m.cells.toArray 38)) x m) := Lib.hid ⟨((Below.refl w.heap.size w).alloc (Nat.le_refl _) (.cells (kc x.k x.o x.c x.l x.r x.v) 33)).alloc (by simp) (.cells m.cells.toArray 38), (Blk.new w 33 (kc x.k x.o x.c x.l x.r x.v)).alloc (.cells m.cells.toArray 38), Blk.new_of (w.alloc (.cells (kc x.k x.o x.c x.l x.r x.v) 33)) 38 m.cells.toArray (g := w.heap.size + 1) (by simp)⟩
  have d1 : decide (md < 1) = false := decide_eq_false h
  have d2 : decide (3 < md) = true := decide_eq_true h2
  clear h0 h h2
  go_enter Tryd.func23, Tryd.ntmps23
  go_wp2_with fail
  go_ret2
  exact ⟨rfl, HI0.out.bel⟩
set_option maxRecDepth 100000 in
set_option maxHeartbeats 2000000 in
theorem rin_x (h0 : 0 < n) (i : Int) (x : Ky) (md : Int) (m : Mg) (h : ¬ md < 1) (h2 : ¬ 3 < md) (hx : ¬ x.may n) : Calls Tryd.prog 23 #[.slice A n cap, .int .i64 i, x.val, .int .i64 md, m.val] w fun e w' => e = .returned (.tuple #[.slice A n cap, .int .i64 2]) ∧ Below w.heap.size w w' := by
  have hml := m.len
  have dn : decide ((n : Int) = 0) = false := decide_eq_false (by omega)
  have dn' : ((n : Int) == 0) = false := by simp; omega
  have HI0 : Hid (Jri w ((w.alloc (.cells (kc x.k x.o x.c x.l x.r x.v) 33)).alloc (.cells m.cells.toArray 38)) x m) := Lib.hid ⟨((Below.refl w.heap.size w).alloc (Nat.le_refl _) (.cells (kc x.k x.o x.c x.l x.r x.v) 33)).alloc (by simp) (.cells m.cells.toArray 38), (Blk.new w 33 (kc x.k x.o x.c x.l x.r x.v)).alloc (.cells m.cells.toArray 38), Blk.new_of (w.alloc (.cells (kc x.k x.o x.c x.l x.r x.v) 33)) 38 m.cells.toArray (g := w.heap.size + 1) (by simp)⟩
  have d1 : decide (md < 1) = false := decide_eq_false h
  have d2 : decide (3 < md) = false := decide_eq_false h2
  have HMX := Lib.hid hx
  clear h0 h h2 hx
  go_enter Tryd.func23, Tryd.ntmps23
  go_wp2_with (first
    | ((with_reducible show wpList _ _ _ (Oper.mk (some 28) (.load _ _) _ _ _ _ :: _) _ _); refine wpList_yields (S := fun w' => KeyAt w' (w.heap.size) 0 (x)) (y_kyJ (by rfl) (.tmp 7) (by rfl) (w.heap.size) 0 (by rfl) (x) (fun _ h => h)) HI0.out.key.kat ?_)
    | (go_at_call 55; refine (rmay_n n cap _ x HMX.out _).mono ?_; rintro e w1 ⟨rfl, b_⟩; have HI1 := Lib.hid (HI0.out.below b_); clear b_))
  go_ret2
  exact ⟨rfl, HI1.out.bel⟩
set_option maxRecDepth 100000 in
set_option maxHeartbeats 2000000 in
theorem rin_y (h0 : 0 < n) (i : Int) (x : Ky) (md : Int) (m : Mg) (h : ¬ md < 1) (h2 : ¬ 3 < md) (hx : x.may n) (hm : ¬ (m.d.length ≤ 32 ∧ mayS n m.k)) : Calls Tryd.prog 23 #[.slice A n cap, .int .i64 i, x.val, .int .i64 md, m.val] w fun e w' => e = .returned (.tuple #[.slice A n cap, .int .i64 2]) ∧ Below w.heap.size w w' := by
  have hml := m.len
  have dn : decide ((n : Int) = 0) = false := decide_eq_false (by omega)
  have dn' : ((n : Int) == 0) = false := by simp; omega
  have HI0 : Hid (Jri w ((w.alloc (.cells (kc x.k x.o x.c x.l x.r x.v) 33)).alloc (.cells m.cells.toArray 38)) x m) := Lib.hid ⟨((Below.refl w.heap.size w).alloc (Nat.le_refl _) (.cells (kc x.k x.o x.c x.l x.r x.v) 33)).alloc (by simp) (.cells m.cells.toArray 38), (Blk.new w 33 (kc x.k x.o x.c x.l x.r x.v)).alloc (.cells m.cells.toArray 38), Blk.new_of (w.alloc (.cells (kc x.k x.o x.c x.l x.r x.v) 33)) 38 m.cells.toArray (g := w.heap.size + 1) (by simp)⟩
  have d1 : decide (md < 1) = false := decide_eq_false h
  have d2 : decide (3 < md) = false := decide_eq_false h2
  have HMX := Lib.hid hx
  have HMY := Lib.hid hm
  clear h0 h h2 hx hm
  go_enter Tryd.func23, Tryd.ntmps23
  go_wp2_with (first
    | ((with_reducible show wpList _ _ _ (Oper.mk (some 28) (.load _ _) _ _ _ _ :: _) _ _); refine wpList_yields (S := fun w' => KeyAt w' (w.heap.size) 0 (x)) (y_kyJ (by rfl) (.tmp 7) (by rfl) (w.heap.size) 0 (by rfl) (x) (fun _ h => h)) HI0.out.key.kat ?_)
    | (go_at_call 55; refine (rmay_y n cap _ x HMX.out _).mono ?_; rintro e w1 ⟨rfl, b_⟩; have HI1 := Lib.hid (HI0.out.below b_); clear b_)
    | ((with_reducible show wpList _ _ _ (Oper.mk (some 34) (.load _ _) _ _ _ _ :: _) _ _); refine wpList_yields (S := fun w' => MgAt w' (w.heap.size + 1) 0 m) (y_mg (by rfl) (.tmp 9) (by rfl) (w.heap.size + 1) 0 (by rfl) m (fun _ h => h)) HI1.out.msg.mg ?_)
    | (go_at_call 56; refine (rmayM_n _ cap n m HMY.out).mono ?_; rintro e w2 ⟨rfl, b_⟩; have HI2 := Lib.hid (HI1.out.below b_); clear b_))
  go_ret2
  exact ⟨rfl, HI2.out.bel⟩
set_option maxRecDepth 100000 in
set_option maxHeartbeats 2000000 in
theorem rin_r (h0 : 0 < n) (i : Int) (x : Ky) (md : Int) (m : Mg) (h : ¬ md < 1) (h2 : ¬ 3 < md) (hx : x.may n) (hm : m.d.length ≤ 32 ∧ mayS n m.k) (M : Mg) (hcn : ∀ W, Below w.heap.size w W → Calls Tryd.prog 57 #[.slice A n cap, m.val] W fun e w' => e = .returned M.val ∧ Below W.heap.size W w') (v1 : Int) (hs1 : ∀ W, Below w.heap.size w W → Calls Tryd.prog 29 #[.slice A n cap, .int .i64 i] W fun e w' => e = .returned (.int .i64 v1) ∧ Below W.heap.size W w') (hv1 : v1 ≠ 1) : Calls Tryd.prog 23 #[.slice A n cap, .int .i64 i, x.val, .int .i64 md, m.val] w fun e w' => e = .returned (.tuple #[.slice A n cap, .int .i64 230]) ∧ Below w.heap.size w w' := by
  have hml := m.len
  have dn : decide ((n : Int) = 0) = false := decide_eq_false (by omega)
  have dn' : ((n : Int) == 0) = false := by simp; omega
  have HI0 : Hid (Jri w ((w.alloc (.cells (kc x.k x.o x.c x.l x.r x.v) 33)).alloc (.cells m.cells.toArray 38)) x m) := Lib.hid ⟨((Below.refl w.heap.size w).alloc (Nat.le_refl _) (.cells (kc x.k x.o x.c x.l x.r x.v) 33)).alloc (by simp) (.cells m.cells.toArray 38), (Blk.new w 33 (kc x.k x.o x.c x.l x.r x.v)).alloc (.cells m.cells.toArray 38), Blk.new_of (w.alloc (.cells (kc x.k x.o x.c x.l x.r x.v) 33)) 38 m.cells.toArray (g := w.heap.size + 1) (by simp)⟩
  have d1 : decide (md < 1) = false := decide_eq_false h
  have d2 : decide (3 < md) = false := decide_eq_false h2
  have HMX := Lib.hid hx
  have HMY := Lib.hid hm
  have HCN := Lib.hid hcn
  have HS1 := Lib.hid hs1
  have hMl := M.len
  have M0 := Lib.hid True.intro
  have dv1 : (v1 != 1) = true := by simpa using hv1
  clear h0 h h2 hx hm hcn hs1 hv1
  go_enter Tryd.func23, Tryd.ntmps23
  go_wp2_with (first
    | ((with_reducible show wpList _ _ _ (Oper.mk (some 28) (.load _ _) _ _ _ _ :: _) _ _); refine wpList_yields (S := fun w' => KeyAt w' (w.heap.size) 0 (x)) (y_kyJ (by rfl) (.tmp 7) (by rfl) (w.heap.size) 0 (by rfl) (x) (fun _ h => h)) HI0.out.key.kat ?_)
    | (go_at_call 55; refine (rmay_y n cap _ x HMX.out _).mono ?_; rintro e w1 ⟨rfl, b_⟩; have HI1 := Lib.hid (HI0.out.below b_); clear b_)
    | ((with_reducible show wpList _ _ _ (Oper.mk (some 34) (.load _ _) _ _ _ _ :: _) _ _); refine wpList_yields (S := fun w' => MgAt w' (w.heap.size + 1) 0 m) (y_mg (by rfl) (.tmp 9) (by rfl) (w.heap.size + 1) 0 (by rfl) m (fun _ h => h)) HI1.out.msg.mg ?_)
    | (go_at_call 56; refine (rmayM_y _ cap n m HMY.out).mono ?_; rintro e w2 ⟨rfl, b_⟩; have HI2 := Lib.hid (HI1.out.below b_); clear b_)
    | ((with_reducible show wpList _ _ _ (Oper.mk (some 40) (.load _ _) _ _ _ _ :: _) _ _); refine wpList_yields (S := fun w' => MgAt w' (w.heap.size + 1) 0 m) (y_mg (by rfl) (.tmp 9) (by rfl) (w.heap.size + 1) 0 (by rfl) m (fun _ h => h)) HI2.out.msg.mg ?_)
    | (go_at_call 57; refine (HCN.out _ HI2.out.bel).mono ?_; rintro e w3 ⟨rfl, b_⟩; have HI3 := Lib.hid (HI2.out.below b_); clear b_)
    | ((with_reducible show wpList _ _ _ (Oper.mk none (.store _ (.tmp 9) (.tmp 41)) _ _ _ _ :: _) _ _); refine wpList_store_big (l0 := m.cells) (l := M.cells) HI3.out.msg rfl (.tmp 9) (.tmp 41) (ty := 38) rfl (by rfl) (by rfl) (by rw [Mg.len]; exact sizeM) (by rw [Mg.len, Mg.len]) (Mg.one _) ?_; have HI4 := Lib.hid (HI3.out.setm M); generalize World.setRow _ (w.heap.size + 1) M.cells.toArray = w4 at HI4 ⊢)
    | (go_at_call 29; clear M0; refine (HS1.out _ HI4.out.bel).mono ?_; rintro e w5 ⟨rfl, b_⟩; have HI5 := Lib.hid (HI4.out.below b_); obtain ⟨k0, k1, k2, k3, k4, k5⟩ := HI5.out.key.six; clear b_))
  go_ret2
  exact ⟨rfl, HI5.out.bel⟩
set_option maxRecDepth 100000 in
set_option maxHeartbeats 2000000 in
theorem rin_c (h0 : 0 < n) (i : Int) (x : Ky) (md : Int) (m : Mg) (h : ¬ md < 1) (h2 : ¬ 3 < md) (hx : x.may n) (hm : m.d.length ≤ 32 ∧ mayS n m.k) (M : Mg) (hcn : ∀ W, Below w.heap.size w W → Calls Tryd.prog 57 #[.slice A n cap, m.val] W fun e w' => e = .returned M.val ∧ Below W.heap.size W w') (v1 : Int) (hs1 : ∀ W, Below w.heap.size w W → Calls Tryd.prog 29 #[.slice A n cap, .int .i64 i] W fun e w' => e = .returned (.int .i64 v1) ∧ Below W.heap.size W w') (hv1 : v1 = 1) (cb : Bool) (hc : ∀ W, Below w.heap.size w W → Calls Tryd.prog 58 #[.slice A n cap, x.val] W fun e w' => e = .returned (.bool cb) ∧ Below W.heap.size W w') (hcb : cb = false) : Calls Tryd.prog 23 #[.slice A n cap, .int .i64 i, x.val, .int .i64 md, m.val] w fun e w' => e = .returned (.tuple #[.slice A n cap, .int .i64 231]) ∧ Below w.heap.size w w' := by
  have hml := m.len
  have dn : decide ((n : Int) = 0) = false := decide_eq_false (by omega)
  have dn' : ((n : Int) == 0) = false := by simp; omega
  have HI0 : Hid (Jri w ((w.alloc (.cells (kc x.k x.o x.c x.l x.r x.v) 33)).alloc (.cells m.cells.toArray 38)) x m) := Lib.hid ⟨((Below.refl w.heap.size w).alloc (Nat.le_refl _) (.cells (kc x.k x.o x.c x.l x.r x.v) 33)).alloc (by simp) (.cells m.cells.toArray 38), (Blk.new w 33 (kc x.k x.o x.c x.l x.r x.v)).alloc (.cells m.cells.toArray 38), Blk.new_of (w.alloc (.cells (kc x.k x.o x.c x.l x.r x.v) 33)) 38 m.cells.toArray (g := w.heap.size + 1) (by simp)⟩
  have d1 : decide (md < 1) = false := decide_eq_false h
  have d2 : decide (3 < md) = false := decide_eq_false h2
  have HMX := Lib.hid hx
  have HMY := Lib.hid hm
  have HCN := Lib.hid hcn
  have HS1 := Lib.hid hs1
  have hMl := M.len
  have M0 := Lib.hid True.intro
  have dv1 : (v1 != 1) = false := by simpa using hv1
  have HC := Lib.hid hc
  subst hcb
  clear h0 h h2 hx hm hcn hs1 hv1 hc
  go_enter Tryd.func23, Tryd.ntmps23
  go_wp2_with (first
    | ((with_reducible show wpList _ _ _ (Oper.mk (some 28) (.load _ _) _ _ _ _ :: _) _ _); refine wpList_yields (S := fun w' => KeyAt w' (w.heap.size) 0 (x)) (y_kyJ (by rfl) (.tmp 7) (by rfl) (w.heap.size) 0 (by rfl) (x) (fun _ h => h)) HI0.out.key.kat ?_)
    | (go_at_call 55; refine (rmay_y n cap _ x HMX.out _).mono ?_; rintro e w1 ⟨rfl, b_⟩; have HI1 := Lib.hid (HI0.out.below b_); clear b_)
    | ((with_reducible show wpList _ _ _ (Oper.mk (some 34) (.load _ _) _ _ _ _ :: _) _ _); refine wpList_yields (S := fun w' => MgAt w' (w.heap.size + 1) 0 m) (y_mg (by rfl) (.tmp 9) (by rfl) (w.heap.size + 1) 0 (by rfl) m (fun _ h => h)) HI1.out.msg.mg ?_)
    | (go_at_call 56; refine (rmayM_y _ cap n m HMY.out).mono ?_; rintro e w2 ⟨rfl, b_⟩; have HI2 := Lib.hid (HI1.out.below b_); clear b_)
    | ((with_reducible show wpList _ _ _ (Oper.mk (some 40) (.load _ _) _ _ _ _ :: _) _ _); refine wpList_yields (S := fun w' => MgAt w' (w.heap.size + 1) 0 m) (y_mg (by rfl) (.tmp 9) (by rfl) (w.heap.size + 1) 0 (by rfl) m (fun _ h => h)) HI2.out.msg.mg ?_)
    | (go_at_call 57; refine (HCN.out _ HI2.out.bel).mono ?_; rintro e w3 ⟨rfl, b_⟩; have HI3 := Lib.hid (HI2.out.below b_); clear b_)
    | ((with_reducible show wpList _ _ _ (Oper.mk none (.store _ (.tmp 9) (.tmp 41)) _ _ _ _ :: _) _ _); refine wpList_store_big (l0 := m.cells) (l := M.cells) HI3.out.msg rfl (.tmp 9) (.tmp 41) (ty := 38) rfl (by rfl) (by rfl) (by rw [Mg.len]; exact sizeM) (by rw [Mg.len, Mg.len]) (Mg.one _) ?_; have HI4 := Lib.hid (HI3.out.setm M); generalize World.setRow _ (w.heap.size + 1) M.cells.toArray = w4 at HI4 ⊢)
    | (go_at_call 29; clear M0; refine (HS1.out _ HI4.out.bel).mono ?_; rintro e w5 ⟨rfl, b_⟩; have HI5 := Lib.hid (HI4.out.below b_); obtain ⟨k0, k1, k2, k3, k4, k5⟩ := HI5.out.key.six; clear b_)
    | ((with_reducible show wpList _ _ _ (Oper.mk (some 50) (.load _ _) _ _ _ _ :: _) _ _); refine wpList_yields (S := fun w' => KeyAt w' (w.heap.size) 0 (x)) (y_kyJ (by rfl) (.tmp 7) (by rfl) (w.heap.size) 0 (by rfl) (x) (fun _ h => h)) HI5.out.key.kat ?_)
    | (go_at_call 58; refine (HC.out _ HI5.out.bel).mono ?_; rintro e w6 ⟨rfl, b_⟩; have HI6 := Lib.hid (HI5.out.below b_); clear k0  k1  k2  k3  k4  k5; obtain ⟨k0, k1, k2, k3, k4, k5⟩ := HI6.out.key.six; clear b_))
  go_ret2
  exact ⟨rfl, HI6.out.bel⟩
set_option maxRecDepth 100000 in
set_option maxHeartbeats 2000000 in
theorem rin_k (h0 : 0 < n) (i : Int) (x : Ky) (md : Int) (m : Mg) (h : ¬ md < 1) (h2 : ¬ 3 < md) (hx : x.may n) (hm : m.d.length ≤ 32 ∧ mayS n m.k) (M : Mg) (hcn : ∀ W, Below w.heap.size w W → Calls Tryd.prog 57 #[.slice A n cap, m.val] W fun e w' => e = .returned M.val ∧ Below W.heap.size W w') (v1 : Int) (hs1 : ∀ W, Below w.heap.size w W → Calls Tryd.prog 29 #[.slice A n cap, .int .i64 i] W fun e w' => e = .returned (.int .i64 v1) ∧ Below W.heap.size W w') (hv1 : v1 = 1) (cb : Bool) (hc : ∀ W, Below w.heap.size w W → Calls Tryd.prog 58 #[.slice A n cap, x.val] W fun e w' => e = .returned (.bool cb) ∧ Below W.heap.size W w') (hcb : cb = true) (hk6 : x.k ≠ 6) (hk7 : x.k ≠ 7) : Calls Tryd.prog 23 #[.slice A n cap, .int .i64 i, x.val, .int .i64 md, m.val] w fun e w' => e = .returned (.tuple #[.slice A n cap, .int .i64 231]) ∧ Below w.heap.size w w' := by
  have hml := m.len
  have dn : decide ((n : Int) = 0) = false := decide_eq_false (by omega)
  have dn' : ((n : Int) == 0) = false := by simp; omega
  have HI0 : Hid (Jri w ((w.alloc (.cells (kc x.k x.o x.c x.l x.r x.v) 33)).alloc (.cells m.cells.toArray 38)) x m) := Lib.hid ⟨((Below.refl w.heap.size w).alloc (Nat.le_refl _) (.cells (kc x.k x.o x.c x.l x.r x.v) 33)).alloc (by simp) (.cells m.cells.toArray 38), (Blk.new w 33 (kc x.k x.o x.c x.l x.r x.v)).alloc (.cells m.cells.toArray 38), Blk.new_of (w.alloc (.cells (kc x.k x.o x.c x.l x.r x.v) 33)) 38 m.cells.toArray (g := w.heap.size + 1) (by simp)⟩
  have d1 : decide (md < 1) = false := decide_eq_false h
  have d2 : decide (3 < md) = false := decide_eq_false h2
  have HMX := Lib.hid hx
  have HMY := Lib.hid hm
  have HCN := Lib.hid hcn
  have HS1 := Lib.hid hs1
  have hMl := M.len
  have M0 := Lib.hid True.intro
  have dv1 : (v1 != 1) = false := by simpa using hv1
  have HC := Lib.hid hc
  subst hcb
  have dk6 : (x.k != 6) = true := by simpa using hk6
  have dk7 : (x.k != 7) = true := by simpa using hk7
  clear h0 h h2 hx hm hcn hs1 hv1 hc hk6 hk7
  go_enter Tryd.func23, Tryd.ntmps23
  go_wp2_with (first
    | ((with_reducible show wpList _ _ _ (Oper.mk (some 28) (.load _ _) _ _ _ _ :: _) _ _); refine wpList_yields (S := fun w' => KeyAt w' (w.heap.size) 0 (x)) (y_kyJ (by rfl) (.tmp 7) (by rfl) (w.heap.size) 0 (by rfl) (x) (fun _ h => h)) HI0.out.key.kat ?_)
    | (go_at_call 55; refine (rmay_y n cap _ x HMX.out _).mono ?_; rintro e w1 ⟨rfl, b_⟩; have HI1 := Lib.hid (HI0.out.below b_); clear b_)
    | ((with_reducible show wpList _ _ _ (Oper.mk (some 34) (.load _ _) _ _ _ _ :: _) _ _); refine wpList_yields (S := fun w' => MgAt w' (w.heap.size + 1) 0 m) (y_mg (by rfl) (.tmp 9) (by rfl) (w.heap.size + 1) 0 (by rfl) m (fun _ h => h)) HI1.out.msg.mg ?_)
    | (go_at_call 56; refine (rmayM_y _ cap n m HMY.out).mono ?_; rintro e w2 ⟨rfl, b_⟩; have HI2 := Lib.hid (HI1.out.below b_); clear b_)
    | ((with_reducible show wpList _ _ _ (Oper.mk (some 40) (.load _ _) _ _ _ _ :: _) _ _); refine wpList_yields (S := fun w' => MgAt w' (w.heap.size + 1) 0 m) (y_mg (by rfl) (.tmp 9) (by rfl) (w.heap.size + 1) 0 (by rfl) m (fun _ h => h)) HI2.out.msg.mg ?_)
    | (go_at_call 57; refine (HCN.out _ HI2.out.bel).mono ?_; rintro e w3 ⟨rfl, b_⟩; have HI3 := Lib.hid (HI2.out.below b_); clear b_)
    | ((with_reducible show wpList _ _ _ (Oper.mk none (.store _ (.tmp 9) (.tmp 41)) _ _ _ _ :: _) _ _); refine wpList_store_big (l0 := m.cells) (l := M.cells) HI3.out.msg rfl (.tmp 9) (.tmp 41) (ty := 38) rfl (by rfl) (by rfl) (by rw [Mg.len]; exact sizeM) (by rw [Mg.len, Mg.len]) (Mg.one _) ?_; have HI4 := Lib.hid (HI3.out.setm M); generalize World.setRow _ (w.heap.size + 1) M.cells.toArray = w4 at HI4 ⊢)
    | (go_at_call 29; clear M0; refine (HS1.out _ HI4.out.bel).mono ?_; rintro e w5 ⟨rfl, b_⟩; have HI5 := Lib.hid (HI4.out.below b_); obtain ⟨k0, k1, k2, k3, k4, k5⟩ := HI5.out.key.six; clear b_)
    | ((with_reducible show wpList _ _ _ (Oper.mk (some 50) (.load _ _) _ _ _ _ :: _) _ _); refine wpList_yields (S := fun w' => KeyAt w' (w.heap.size) 0 (x)) (y_kyJ (by rfl) (.tmp 7) (by rfl) (w.heap.size) 0 (by rfl) (x) (fun _ h => h)) HI5.out.key.kat ?_)
    | (go_at_call 58; refine (HC.out _ HI5.out.bel).mono ?_; rintro e w6 ⟨rfl, b_⟩; have HI6 := Lib.hid (HI5.out.below b_); clear k0  k1  k2  k3  k4  k5; obtain ⟨k0, k1, k2, k3, k4, k5⟩ := HI6.out.key.six; clear b_))
  go_ret2
  exact ⟨rfl, HI6.out.bel⟩
set_option maxRecDepth 100000 in
set_option maxHeartbeats 2000000 in
theorem rin_g6 (h0 : 0 < n) (i : Int) (x : Ky) (md : Int) (m : Mg) (h : ¬ md < 1) (h2 : ¬ 3 < md) (hx : x.may n) (hm : m.d.length ≤ 32 ∧ mayS n m.k) (M : Mg) (hcn : ∀ W, Below w.heap.size w W → Calls Tryd.prog 57 #[.slice A n cap, m.val] W fun e w' => e = .returned M.val ∧ Below W.heap.size W w') (v1 : Int) (hs1 : ∀ W, Below w.heap.size w W → Calls Tryd.prog 29 #[.slice A n cap, .int .i64 i] W fun e w' => e = .returned (.int .i64 v1) ∧ Below W.heap.size W w') (hv1 : v1 = 1) (cb : Bool) (hc : ∀ W, Below w.heap.size w W → Calls Tryd.prog 58 #[.slice A n cap, x.val] W fun e w' => e = .returned (.bool cb) ∧ Below W.heap.size W w') (hcb : cb = true) (v2 : Int) (hs2 : ∀ W, Below w.heap.size w W → Calls Tryd.prog 29 #[.slice A n cap, .int .i64 x.o] W fun e w' => e = .returned (.int .i64 v2) ∧ Below W.heap.size W w') (hk : x.k = 6) (hv2 : v2 < 0) : Calls Tryd.prog 23 #[.slice A n cap, .int .i64 i, x.val, .int .i64 md, m.val] w fun e w' => e = .returned (.tuple #[.slice A n cap, .int .i64 231]) ∧ Below w.heap.size w w' := by
  have hml := m.len
  have dn : decide ((n : Int) = 0) = false := decide_eq_false (by omega)
  have dn' : ((n : Int) == 0) = false := by simp; omega
  have HI0 : Hid (Jri w ((w.alloc (.cells (kc x.k x.o x.c x.l x.r x.v) 33)).alloc (.cells m.cells.toArray 38)) x m) := Lib.hid ⟨((Below.refl w.heap.size w).alloc (Nat.le_refl _) (.cells (kc x.k x.o x.c x.l x.r x.v) 33)).alloc (by simp) (.cells m.cells.toArray 38), (Blk.new w 33 (kc x.k x.o x.c x.l x.r x.v)).alloc (.cells m.cells.toArray 38), Blk.new_of (w.alloc (.cells (kc x.k x.o x.c x.l x.r x.v) 33)) 38 m.cells.toArray (g := w.heap.size + 1) (by simp)⟩
  have d1 : decide (md < 1) = false := decide_eq_false h
  have d2 : decide (3 < md) = false := decide_eq_false h2
  have HMX := Lib.hid hx
  have HMY := Lib.hid hm
  have HCN := Lib.hid hcn
  have HS1 := Lib.hid hs1
  have hMl := M.len
  have M0 := Lib.hid True.intro
  have dv1 : (v1 != 1) = false := by simpa using hv1
  have HC := Lib.hid hc
  subst hcb
  have HS2 := Lib.hid hs2
  have dk6 : (x.k != 6) = false := by simpa using hk
  have dk6' : (x.k == 6) = true := by simpa using hk
  have dk7 : (x.k != 7) = true := by simp [hk]
  have dk7' : (x.k == 7) = false := by simp [hk]
  have dv2 : decide (v2 < 0) = true := decide_eq_true hv2
  clear h0 h h2 hx hm hcn hs1 hv1 hc hs2 hk hv2
  go_enter Tryd.func23, Tryd.ntmps23
  go_wp2_with (first
    | ((with_reducible show wpList _ _ _ (Oper.mk (some 28) (.load _ _) _ _ _ _ :: _) _ _); refine wpList_yields (S := fun w' => KeyAt w' (w.heap.size) 0 (x)) (y_kyJ (by rfl) (.tmp 7) (by rfl) (w.heap.size) 0 (by rfl) (x) (fun _ h => h)) HI0.out.key.kat ?_)
    | (go_at_call 55; refine (rmay_y n cap _ x HMX.out _).mono ?_; rintro e w1 ⟨rfl, b_⟩; have HI1 := Lib.hid (HI0.out.below b_); clear b_)
    | ((with_reducible show wpList _ _ _ (Oper.mk (some 34) (.load _ _) _ _ _ _ :: _) _ _); refine wpList_yields (S := fun w' => MgAt w' (w.heap.size + 1) 0 m) (y_mg (by rfl) (.tmp 9) (by rfl) (w.heap.size + 1) 0 (by rfl) m (fun _ h => h)) HI1.out.msg.mg ?_)
    | (go_at_call 56; refine (rmayM_y _ cap n m HMY.out).mono ?_; rintro e w2 ⟨rfl, b_⟩; have HI2 := Lib.hid (HI1.out.below b_); clear b_)
    | ((with_reducible show wpList _ _ _ (Oper.mk (some 40) (.load _ _) _ _ _ _ :: _) _ _); refine wpList_yields (S := fun w' => MgAt w' (w.heap.size + 1) 0 m) (y_mg (by rfl) (.tmp 9) (by rfl) (w.heap.size + 1) 0 (by rfl) m (fun _ h => h)) HI2.out.msg.mg ?_)
    | (go_at_call 57; refine (HCN.out _ HI2.out.bel).mono ?_; rintro e w3 ⟨rfl, b_⟩; have HI3 := Lib.hid (HI2.out.below b_); clear b_)
    | ((with_reducible show wpList _ _ _ (Oper.mk none (.store _ (.tmp 9) (.tmp 41)) _ _ _ _ :: _) _ _); refine wpList_store_big (l0 := m.cells) (l := M.cells) HI3.out.msg rfl (.tmp 9) (.tmp 41) (ty := 38) rfl (by rfl) (by rfl) (by rw [Mg.len]; exact sizeM) (by rw [Mg.len, Mg.len]) (Mg.one _) ?_; have HI4 := Lib.hid (HI3.out.setm M); generalize World.setRow _ (w.heap.size + 1) M.cells.toArray = w4 at HI4 ⊢)
    | (go_at_call 29; clear M0; refine (HS1.out _ HI4.out.bel).mono ?_; rintro e w5 ⟨rfl, b_⟩; have HI5 := Lib.hid (HI4.out.below b_); obtain ⟨k0, k1, k2, k3, k4, k5⟩ := HI5.out.key.six; clear b_)
    | ((with_reducible show wpList _ _ _ (Oper.mk (some 50) (.load _ _) _ _ _ _ :: _) _ _); refine wpList_yields (S := fun w' => KeyAt w' (w.heap.size) 0 (x)) (y_kyJ (by rfl) (.tmp 7) (by rfl) (w.heap.size) 0 (by rfl) (x) (fun _ h => h)) HI5.out.key.kat ?_)
    | (go_at_call 58; refine (HC.out _ HI5.out.bel).mono ?_; rintro e w6 ⟨rfl, b_⟩; have HI6 := Lib.hid (HI5.out.below b_); clear k0  k1  k2  k3  k4  k5; obtain ⟨k0, k1, k2, k3, k4, k5⟩ := HI6.out.key.six; clear b_)
    | (go_at_call 29; refine (HS2.out _ HI6.out.bel).mono ?_; rintro e w7 ⟨rfl, b_⟩; have HI7 := Lib.hid (HI6.out.below b_); clear k0  k1  k2  k3  k4  k5; obtain ⟨k0, k1, k2, k3, k4, k5⟩ := HI7.out.key.six; clear b_))
  go_ret2
  exact ⟨rfl, HI7.out.bel⟩
set_option maxRecDepth 100000 in
set_option maxHeartbeats 2000000 in
theorem rin_g7 (h0 : 0 < n) (i : Int) (x : Ky) (md : Int) (m : Mg) (h : ¬ md < 1) (h2 : ¬ 3 < md) (hx : x.may n) (hm : m.d.length ≤ 32 ∧ mayS n m.k) (M : Mg) (hcn : ∀ W, Below w.heap.size w W → Calls Tryd.prog 57 #[.slice A n cap, m.val] W fun e w' => e = .returned M.val ∧ Below W.heap.size W w') (v1 : Int) (hs1 : ∀ W, Below w.heap.size w W → Calls Tryd.prog 29 #[.slice A n cap, .int .i64 i] W fun e w' => e = .returned (.int .i64 v1) ∧ Below W.heap.size W w') (hv1 : v1 = 1) (cb : Bool) (hc : ∀ W, Below w.heap.size w W → Calls Tryd.prog 58 #[.slice A n cap, x.val] W fun e w' => e = .returned (.bool cb) ∧ Below W.heap.size W w') (hcb : cb = true) (v2 : Int) (hs2 : ∀ W, Below w.heap.size w W → Calls Tryd.prog 29 #[.slice A n cap, .int .i64 x.o] W fun e w' => e = .returned (.int .i64 v2) ∧ Below W.heap.size W w') (hk : x.k = 7) (hv2 : v2 < 0) : Calls Tryd.prog 23 #[.slice A n cap, .int .i64 i, x.val, .int .i64 md, m.val] w fun e w' => e = .returned (.tuple #[.slice A n cap, .int .i64 231]) ∧ Below w.heap.size w w' := by
  have hml := m.len
  have dn : decide ((n : Int) = 0) = false := decide_eq_false (by omega)
  have dn' : ((n : Int) == 0) = false := by simp; omega
  have HI0 : Hid (Jri w ((w.alloc (.cells (kc x.k x.o x.c x.l x.r x.v) 33)).alloc (.cells m.cells.toArray 38)) x m) := Lib.hid ⟨((Below.refl w.heap.size w).alloc (Nat.le_refl _) (.cells (kc x.k x.o x.c x.l x.r x.v) 33)).alloc (by simp) (.cells m.cells.toArray 38), (Blk.new w 33 (kc x.k x.o x.c x.l x.r x.v)).alloc (.cells m.cells.toArray 38), Blk.new_of (w.alloc (.cells (kc x.k x.o x.c x.l x.r x.v) 33)) 38 m.cells.toArray (g := w.heap.size + 1) (by simp)⟩
  have d1 : decide (md < 1) = false := decide_eq_false h
  have d2 : decide (3 < md) = false := decide_eq_false h2
  have HMX := Lib.hid hx
  have HMY := Lib.hid hm
  have HCN := Lib.hid hcn
  have HS1 := Lib.hid hs1
  have hMl := M.len
  have M0 := Lib.hid True.intro
  have dv1 : (v1 != 1) = false := by simpa using hv1
  have HC := Lib.hid hc
  subst hcb
  have HS2 := Lib.hid hs2
  have dk6 : (x.k != 6) = true := by simp [hk]
  have dk6' : (x.k == 6) = false := by simp [hk]
  have dk7 : (x.k != 7) = false := by simpa using hk
  have dk7' : (x.k == 7) = true := by simpa using hk
  have dv2 : decide (v2 < 0) = true := decide_eq_true hv2
  clear h0 h h2 hx hm hcn hs1 hv1 hc hs2 hk hv2
  go_enter Tryd.func23, Tryd.ntmps23
  go_wp2_with (first
    | ((with_reducible show wpList _ _ _ (Oper.mk (some 28) (.load _ _) _ _ _ _ :: _) _ _); refine wpList_yields (S := fun w' => KeyAt w' (w.heap.size) 0 (x)) (y_kyJ (by rfl) (.tmp 7) (by rfl) (w.heap.size) 0 (by rfl) (x) (fun _ h => h)) HI0.out.key.kat ?_)
    | (go_at_call 55; refine (rmay_y n cap _ x HMX.out _).mono ?_; rintro e w1 ⟨rfl, b_⟩; have HI1 := Lib.hid (HI0.out.below b_); clear b_)
    | ((with_reducible show wpList _ _ _ (Oper.mk (some 34) (.load _ _) _ _ _ _ :: _) _ _); refine wpList_yields (S := fun w' => MgAt w' (w.heap.size + 1) 0 m) (y_mg (by rfl) (.tmp 9) (by rfl) (w.heap.size + 1) 0 (by rfl) m (fun _ h => h)) HI1.out.msg.mg ?_)
    | (go_at_call 56; refine (rmayM_y _ cap n m HMY.out).mono ?_; rintro e w2 ⟨rfl, b_⟩; have HI2 := Lib.hid (HI1.out.below b_); clear b_)
    | ((with_reducible show wpList _ _ _ (Oper.mk (some 40) (.load _ _) _ _ _ _ :: _) _ _); refine wpList_yields (S := fun w' => MgAt w' (w.heap.size + 1) 0 m) (y_mg (by rfl) (.tmp 9) (by rfl) (w.heap.size + 1) 0 (by rfl) m (fun _ h => h)) HI2.out.msg.mg ?_)
    | (go_at_call 57; refine (HCN.out _ HI2.out.bel).mono ?_; rintro e w3 ⟨rfl, b_⟩; have HI3 := Lib.hid (HI2.out.below b_); clear b_)
    | ((with_reducible show wpList _ _ _ (Oper.mk none (.store _ (.tmp 9) (.tmp 41)) _ _ _ _ :: _) _ _); refine wpList_store_big (l0 := m.cells) (l := M.cells) HI3.out.msg rfl (.tmp 9) (.tmp 41) (ty := 38) rfl (by rfl) (by rfl) (by rw [Mg.len]; exact sizeM) (by rw [Mg.len, Mg.len]) (Mg.one _) ?_; have HI4 := Lib.hid (HI3.out.setm M); generalize World.setRow _ (w.heap.size + 1) M.cells.toArray = w4 at HI4 ⊢)
    | (go_at_call 29; clear M0; refine (HS1.out _ HI4.out.bel).mono ?_; rintro e w5 ⟨rfl, b_⟩; have HI5 := Lib.hid (HI4.out.below b_); obtain ⟨k0, k1, k2, k3, k4, k5⟩ := HI5.out.key.six; clear b_)
    | ((with_reducible show wpList _ _ _ (Oper.mk (some 50) (.load _ _) _ _ _ _ :: _) _ _); refine wpList_yields (S := fun w' => KeyAt w' (w.heap.size) 0 (x)) (y_kyJ (by rfl) (.tmp 7) (by rfl) (w.heap.size) 0 (by rfl) (x) (fun _ h => h)) HI5.out.key.kat ?_)
    | (go_at_call 58; refine (HC.out _ HI5.out.bel).mono ?_; rintro e w6 ⟨rfl, b_⟩; have HI6 := Lib.hid (HI5.out.below b_); clear k0  k1  k2  k3  k4  k5; obtain ⟨k0, k1, k2, k3, k4, k5⟩ := HI6.out.key.six; clear b_)
    | (go_at_call 29; refine (HS2.out _ HI6.out.bel).mono ?_; rintro e w7 ⟨rfl, b_⟩; have HI7 := Lib.hid (HI6.out.below b_); clear k0  k1  k2  k3  k4  k5; obtain ⟨k0, k1, k2, k3, k4, k5⟩ := HI7.out.key.six; clear b_))
  go_ret2
  exact ⟨rfl, HI7.out.bel⟩
set_option maxRecDepth 100000 in
set_option maxHeartbeats 2000000 in
theorem rin_b6a (h0 : 0 < n) (i : Int) (x : Ky) (md : Int) (m : Mg) (h : ¬ md < 1) (h2 : ¬ 3 < md) (hx : x.may n) (hm : m.d.length ≤ 32 ∧ mayS n m.k) (M : Mg) (hcn : ∀ W, Below w.heap.size w W → Calls Tryd.prog 57 #[.slice A n cap, m.val] W fun e w' => e = .returned M.val ∧ Below W.heap.size W w') (v1 : Int) (hs1 : ∀ W, Below w.heap.size w W → Calls Tryd.prog 29 #[.slice A n cap, .int .i64 i] W fun e w' => e = .returned (.int .i64 v1) ∧ Below W.heap.size W w') (hv1 : v1 = 1) (cb : Bool) (hc : ∀ W, Below w.heap.size w W → Calls Tryd.prog 58 #[.slice A n cap, x.val] W fun e w' => e = .returned (.bool cb) ∧ Below W.heap.size W w') (hcb : cb = true) (v2 : Int) (hs2 : ∀ W, Below w.heap.size w W → Calls Tryd.prog 29 #[.slice A n cap, .int .i64 x.o] W fun e w' => e = .returned (.int .i64 v2) ∧ Below W.heap.size W w') (hk : x.k = 6) (hv2 : ¬ v2 < 0) (hv3 : v2 ≠ 0) (h3 : md ≠ 3) : Calls Tryd.prog 23 #[.slice A n cap, .int .i64 i, x.val, .int .i64 md, m.val] w fun e w' => e = .returned (.tuple #[.slice A n cap, .int .i64 232]) ∧ Below w.heap.size w w' := by
  have hml := m.len
  have dn : decide ((n : Int) = 0) = false := decide_eq_false (by omega)
  have dn' : ((n : Int) == 0) = false := by simp; omega
  have HI0 : Hid (Jri w ((w.alloc (.cells (kc x.k x.o x.c x.l x.r x.v) 33)).alloc (.cells m.cells.toArray 38)) x m) := Lib.hid ⟨((Below.refl w.heap.size w).alloc (Nat.le_refl _) (.cells (kc x.k x.o x.c x.l x.r x.v) 33)).alloc (by simp) (.cells m.cells.toArray 38), (Blk.new w 33 (kc x.k x.o x.c x.l x.r x.v)).alloc (.cells m.cells.toArray 38), Blk.new_of (w.alloc (.cells (kc x.k x.o x.c x.l x.r x.v) 33)) 38 m.cells.toArray (g := w.heap.size + 1) (by simp)⟩
  have d1 : decide (md < 1) = false := decide_eq_false h
  have d2 : decide (3 < md) = false := decide_eq_false h2
  have HMX := Lib.hid hx
  have HMY := Lib.hid hm
  have HCN := Lib.hid hcn
  have HS1 := Lib.hid hs1
  have hMl := M.len
  have M0 := Lib.hid True.intro
  have dv1 : (v1 != 1) = false := by simpa using hv1
  have HC := Lib.hid hc
  subst hcb
  have HS2 := Lib.hid hs2
  have dk6 : (x.k != 6) = false := by simpa using hk
  have dk6' : (x.k == 6) = true := by simpa using hk
  have dk7 : (x.k != 7) = true := by simp [hk]
  have dk7' : (x.k == 7) = false := by simp [hk]
  have dv2 : decide (v2 < 0) = false := decide_eq_false hv2
  have dv3 : (v2 != 0) = true := by simpa using hv3
  have d3 : (md == 3) = false := by simpa using h3
  clear h0 h h2 hx hm hcn hs1 hv1 hc hs2 hk hv2 hv3 h3
  go_enter Tryd.func23, Tryd.ntmps23
  go_wp2_with (first
    | ((with_reducible show wpList _ _ _ (Oper.mk (some 28) (.load _ _) _ _ _ _ :: _) _ _); refine wpList_yields (S := fun w' => KeyAt w' (w.heap.size) 0 (x)) (y_kyJ (by rfl) (.tmp 7) (by rfl) (w.heap.size) 0 (by rfl) (x) (fun _ h => h)) HI0.out.key.kat ?_)
    | (go_at_call 55; refine (rmay_y n cap _ x HMX.out _).mono ?_; rintro e w1 ⟨rfl, b_⟩; have HI1 := Lib.hid (HI0.out.below b_); clear b_)
    | ((with_reducible show wpList _ _ _ (Oper.mk (some 34) (.load _ _) _ _ _ _ :: _) _ _); refine wpList_yields (S := fun w' => MgAt w' (w.heap.size + 1) 0 m) (y_mg (by rfl) (.tmp 9) (by rfl) (w.heap.size + 1) 0 (by rfl) m (fun _ h => h)) HI1.out.msg.mg ?_)
    | (go_at_call 56; refine (rmayM_y _ cap n m HMY.out).mono ?_; rintro e w2 ⟨rfl, b_⟩; have HI2 := Lib.hid (HI1.out.below b_); clear b_)
    | ((with_reducible show wpList _ _ _ (Oper.mk (some 40) (.load _ _) _ _ _ _ :: _) _ _); refine wpList_yields (S := fun w' => MgAt w' (w.heap.size + 1) 0 m) (y_mg (by rfl) (.tmp 9) (by rfl) (w.heap.size + 1) 0 (by rfl) m (fun _ h => h)) HI2.out.msg.mg ?_)
    | (go_at_call 57; refine (HCN.out _ HI2.out.bel).mono ?_; rintro e w3 ⟨rfl, b_⟩; have HI3 := Lib.hid (HI2.out.below b_); clear b_)
    | ((with_reducible show wpList _ _ _ (Oper.mk none (.store _ (.tmp 9) (.tmp 41)) _ _ _ _ :: _) _ _); refine wpList_store_big (l0 := m.cells) (l := M.cells) HI3.out.msg rfl (.tmp 9) (.tmp 41) (ty := 38) rfl (by rfl) (by rfl) (by rw [Mg.len]; exact sizeM) (by rw [Mg.len, Mg.len]) (Mg.one _) ?_; have HI4 := Lib.hid (HI3.out.setm M); generalize World.setRow _ (w.heap.size + 1) M.cells.toArray = w4 at HI4 ⊢)
    | (go_at_call 29; clear M0; refine (HS1.out _ HI4.out.bel).mono ?_; rintro e w5 ⟨rfl, b_⟩; have HI5 := Lib.hid (HI4.out.below b_); obtain ⟨k0, k1, k2, k3, k4, k5⟩ := HI5.out.key.six; clear b_)
    | ((with_reducible show wpList _ _ _ (Oper.mk (some 50) (.load _ _) _ _ _ _ :: _) _ _); refine wpList_yields (S := fun w' => KeyAt w' (w.heap.size) 0 (x)) (y_kyJ (by rfl) (.tmp 7) (by rfl) (w.heap.size) 0 (by rfl) (x) (fun _ h => h)) HI5.out.key.kat ?_)
    | (go_at_call 58; refine (HC.out _ HI5.out.bel).mono ?_; rintro e w6 ⟨rfl, b_⟩; have HI6 := Lib.hid (HI5.out.below b_); clear k0  k1  k2  k3  k4  k5; obtain ⟨k0, k1, k2, k3, k4, k5⟩ := HI6.out.key.six; clear b_)
    | (go_at_call 29; refine (HS2.out _ HI6.out.bel).mono ?_; rintro e w7 ⟨rfl, b_⟩; have HI7 := Lib.hid (HI6.out.below b_); clear k0  k1  k2  k3  k4  k5; obtain ⟨k0, k1, k2, k3, k4, k5⟩ := HI7.out.key.six; clear b_))
  go_ret2
  exact ⟨rfl, HI7.out.bel⟩
set_option maxRecDepth 100000 in
set_option maxHeartbeats 2000000 in
theorem rin_b6b (h0 : 0 < n) (i : Int) (x : Ky) (md : Int) (m : Mg) (h : ¬ md < 1) (h2 : ¬ 3 < md) (hx : x.may n) (hm : m.d.length ≤ 32 ∧ mayS n m.k) (M : Mg) (hcn : ∀ W, Below w.heap.size w W → Calls Tryd.prog 57 #[.slice A n cap, m.val] W fun e w' => e = .returned M.val ∧ Below W.heap.size W w') (v1 : Int) (hs1 : ∀ W, Below w.heap.size w W → Calls Tryd.prog 29 #[.slice A n cap, .int .i64 i] W fun e w' => e = .returned (.int .i64 v1) ∧ Below W.heap.size W w') (hv1 : v1 = 1) (cb : Bool) (hc : ∀ W, Below w.heap.size w W → Calls Tryd.prog 58 #[.slice A n cap, x.val] W fun e w' => e = .returned (.bool cb) ∧ Below W.heap.size W w') (hcb : cb = true) (v2 : Int) (hs2 : ∀ W, Below w.heap.size w W → Calls Tryd.prog 29 #[.slice A n cap, .int .i64 x.o] W fun e w' => e = .returned (.int .i64 v2) ∧ Below W.heap.size W w') (hk : x.k = 6) (hv2 : ¬ v2 < 0) (hv3 : v2 ≠ 0) (h3 : md = 3) (hxi : x.o ≠ i) : Calls Tryd.prog 23 #[.slice A n cap, .int .i64 i, x.val, .int .i64 md, m.val] w fun e w' => e = .returned (.tuple #[.slice A n cap, .int .i64 232]) ∧ Below w.heap.size w w' := by
  have hml := m.len
  have dn : decide ((n : Int) = 0) = false := decide_eq_false (by omega)
  have dn' : ((n : Int) == 0) = false := by simp; omega
  have HI0 : Hid (Jri w ((w.alloc (.cells (kc x.k x.o x.c x.l x.r x.v) 33)).alloc (.cells m.cells.toArray 38)) x m) := Lib.hid ⟨((Below.refl w.heap.size w).alloc (Nat.le_refl _) (.cells (kc x.k x.o x.c x.l x.r x.v) 33)).alloc (by simp) (.cells m.cells.toArray 38), (Blk.new w 33 (kc x.k x.o x.c x.l x.r x.v)).alloc (.cells m.cells.toArray 38), Blk.new_of (w.alloc (.cells (kc x.k x.o x.c x.l x.r x.v) 33)) 38 m.cells.toArray (g := w.heap.size + 1) (by simp)⟩
  have d1 : decide (md < 1) = false := decide_eq_false h
  have d2 : decide (3 < md) = false := decide_eq_false h2
  have HMX := Lib.hid hx
  have HMY := Lib.hid hm
  have HCN := Lib.hid hcn
  have HS1 := Lib.hid hs1
  have hMl := M.len
  have M0 := Lib.hid True.intro
  have dv1 : (v1 != 1) = false := by simpa using hv1
  have HC := Lib.hid hc
  subst hcb
  have HS2 := Lib.hid hs2
  have dk6 : (x.k != 6) = false := by simpa using hk
  have dk6' : (x.k == 6) = true := by simpa using hk
  have dk7 : (x.k != 7) = true := by simp [hk]
  have dk7' : (x.k == 7) = false := by simp [hk]
  have dv2 : decide (v2 < 0) = false := decide_eq_false hv2
  have dv3 : (v2 != 0) = true := by simpa using hv3
  have d3 : (md == 3) = true := by simpa using h3
  have dxi : (x.o == i) = false := by simpa using hxi
  clear h0 h h2 hx hm hcn hs1 hv1 hc hs2 hk hv2 hv3 h3 hxi
  go_enter Tryd.func23, Tryd.ntmps23
  go_wp2_with (first
    | ((with_reducible show wpList _ _ _ (Oper.mk (some 28) (.load _ _) _ _ _ _ :: _) _ _); refine wpList_yields (S := fun w' => KeyAt w' (w.heap.size) 0 (x)) (y_kyJ (by rfl) (.tmp 7) (by rfl) (w.heap.size) 0 (by rfl) (x) (fun _ h => h)) HI0.out.key.kat ?_)
    | (go_at_call 55; refine (rmay_y n cap _ x HMX.out _).mono ?_; rintro e w1 ⟨rfl, b_⟩; have HI1 := Lib.hid (HI0.out.below b_); clear b_)
    | ((with_reducible show wpList _ _ _ (Oper.mk (some 34) (.load _ _) _ _ _ _ :: _) _ _); refine wpList_yields (S := fun w' => MgAt w' (w.heap.size + 1) 0 m) (y_mg (by rfl) (.tmp 9) (by rfl) (w.heap.size + 1) 0 (by rfl) m (fun _ h => h)) HI1.out.msg.mg ?_)
    | (go_at_call 56; refine (rmayM_y _ cap n m HMY.out).mono ?_; rintro e w2 ⟨rfl, b_⟩; have HI2 := Lib.hid (HI1.out.below b_); clear b_)
    | ((with_reducible show wpList _ _ _ (Oper.mk (some 40) (.load _ _) _ _ _ _ :: _) _ _); refine wpList_yields (S := fun w' => MgAt w' (w.heap.size + 1) 0 m) (y_mg (by rfl) (.tmp 9) (by rfl) (w.heap.size + 1) 0 (by rfl) m (fun _ h => h)) HI2.out.msg.mg ?_)
    | (go_at_call 57; refine (HCN.out _ HI2.out.bel).mono ?_; rintro e w3 ⟨rfl, b_⟩; have HI3 := Lib.hid (HI2.out.below b_); clear b_)
    | ((with_reducible show wpList _ _ _ (Oper.mk none (.store _ (.tmp 9) (.tmp 41)) _ _ _ _ :: _) _ _); refine wpList_store_big (l0 := m.cells) (l := M.cells) HI3.out.msg rfl (.tmp 9) (.tmp 41) (ty := 38) rfl (by rfl) (by rfl) (by rw [Mg.len]; exact sizeM) (by rw [Mg.len, Mg.len]) (Mg.one _) ?_; have HI4 := Lib.hid (HI3.out.setm M); generalize World.setRow _ (w.heap.size + 1) M.cells.toArray = w4 at HI4 ⊢)
    | (go_at_call 29; clear M0; refine (HS1.out _ HI4.out.bel).mono ?_; rintro e w5 ⟨rfl, b_⟩; have HI5 := Lib.hid (HI4.out.below b_); obtain ⟨k0, k1, k2, k3, k4, k5⟩ := HI5.out.key.six; clear b_)
    | ((with_reducible show wpList _ _ _ (Oper.mk (some 50) (.load _ _) _ _ _ _ :: _) _ _); refine wpList_yields (S := fun w' => KeyAt w' (w.heap.size) 0 (x)) (y_kyJ (by rfl) (.tmp 7) (by rfl) (w.heap.size) 0 (by rfl) (x) (fun _ h => h)) HI5.out.key.kat ?_)
    | (go_at_call 58; refine (HC.out _ HI5.out.bel).mono ?_; rintro e w6 ⟨rfl, b_⟩; have HI6 := Lib.hid (HI5.out.below b_); clear k0  k1  k2  k3  k4  k5; obtain ⟨k0, k1, k2, k3, k4, k5⟩ := HI6.out.key.six; clear b_)
    | (go_at_call 29; refine (HS2.out _ HI6.out.bel).mono ?_; rintro e w7 ⟨rfl, b_⟩; have HI7 := Lib.hid (HI6.out.below b_); clear k0  k1  k2  k3  k4  k5; obtain ⟨k0, k1, k2, k3, k4, k5⟩ := HI7.out.key.six; clear b_))
  go_ret2
  exact ⟨rfl, HI7.out.bel⟩
set_option maxRecDepth 100000 in
set_option maxHeartbeats 2000000 in
theorem rin_b7 (h0 : 0 < n) (i : Int) (x : Ky) (md : Int) (m : Mg) (h : ¬ md < 1) (h2 : ¬ 3 < md) (hx : x.may n) (hm : m.d.length ≤ 32 ∧ mayS n m.k) (M : Mg) (hcn : ∀ W, Below w.heap.size w W → Calls Tryd.prog 57 #[.slice A n cap, m.val] W fun e w' => e = .returned M.val ∧ Below W.heap.size W w') (v1 : Int) (hs1 : ∀ W, Below w.heap.size w W → Calls Tryd.prog 29 #[.slice A n cap, .int .i64 i] W fun e w' => e = .returned (.int .i64 v1) ∧ Below W.heap.size W w') (hv1 : v1 = 1) (cb : Bool) (hc : ∀ W, Below w.heap.size w W → Calls Tryd.prog 58 #[.slice A n cap, x.val] W fun e w' => e = .returned (.bool cb) ∧ Below W.heap.size W w') (hcb : cb = true) (v2 : Int) (hs2 : ∀ W, Below w.heap.size w W → Calls Tryd.prog 29 #[.slice A n cap, .int .i64 x.o] W fun e w' => e = .returned (.int .i64 v2) ∧ Below W.heap.size W w') (hk : x.k = 7) (hv2 : ¬ v2 < 0) (hv3 : v2 ≠ 2) : Calls Tryd.prog 23 #[.slice A n cap, .int .i64 i, x.val, .int .i64 md, m.val] w fun e w' => e = .returned (.tuple #[.slice A n cap, .int .i64 232]) ∧ Below w.heap.size w w' := by
  have hml := m.len
  have dn : decide ((n : Int) = 0) = false := decide_eq_false (by omega)
  have dn' : ((n : Int) == 0) = false := by simp; omega
  have HI0 : Hid (Jri w ((w.alloc (.cells (kc x.k x.o x.c x.l x.r x.v) 33)).alloc (.cells m.cells.toArray 38)) x m) := Lib.hid ⟨((Below.refl w.heap.size w).alloc (Nat.le_refl _) (.cells (kc x.k x.o x.c x.l x.r x.v) 33)).alloc (by simp) (.cells m.cells.toArray 38), (Blk.new w 33 (kc x.k x.o x.c x.l x.r x.v)).alloc (.cells m.cells.toArray 38), Blk.new_of (w.alloc (.cells (kc x.k x.o x.c x.l x.r x.v) 33)) 38 m.cells.toArray (g := w.heap.size + 1) (by simp)⟩
  have d1 : decide (md < 1) = false := decide_eq_false h
  have d2 : decide (3 < md) = false := decide_eq_false h2
  have HMX := Lib.hid hx
  have HMY := Lib.hid hm
  have HCN := Lib.hid hcn
  have HS1 := Lib.hid hs1
  have hMl := M.len
  have M0 := Lib.hid True.intro
  have dv1 : (v1 != 1) = false := by simpa using hv1
  have HC := Lib.hid hc
  subst hcb
  have HS2 := Lib.hid hs2
  have dk6 : (x.k != 6) = true := by simp [hk]
  have dk6' : (x.k == 6) = false := by simp [hk]
  have dk7 : (x.k != 7) = false := by simpa using hk
  have dk7' : (x.k == 7) = true := by simpa using hk
  have dv2 : decide (v2 < 0) = false := decide_eq_false hv2
  have dv3 : (v2 != 2) = true := by simpa using hv3
  clear h0 h h2 hx hm hcn hs1 hv1 hc hs2 hk hv2 hv3
  go_enter Tryd.func23, Tryd.ntmps23
  go_wp2_with (first
    | ((with_reducible show wpList _ _ _ (Oper.mk (some 28) (.load _ _) _ _ _ _ :: _) _ _); refine wpList_yields (S := fun w' => KeyAt w' (w.heap.size) 0 (x)) (y_kyJ (by rfl) (.tmp 7) (by rfl) (w.heap.size) 0 (by rfl) (x) (fun _ h => h)) HI0.out.key.kat ?_)
    | (go_at_call 55; refine (rmay_y n cap _ x HMX.out _).mono ?_; rintro e w1 ⟨rfl, b_⟩; have HI1 := Lib.hid (HI0.out.below b_); clear b_)
    | ((with_reducible show wpList _ _ _ (Oper.mk (some 34) (.load _ _) _ _ _ _ :: _) _ _); refine wpList_yields (S := fun w' => MgAt w' (w.heap.size + 1) 0 m) (y_mg (by rfl) (.tmp 9) (by rfl) (w.heap.size + 1) 0 (by rfl) m (fun _ h => h)) HI1.out.msg.mg ?_)
    | (go_at_call 56; refine (rmayM_y _ cap n m HMY.out).mono ?_; rintro e w2 ⟨rfl, b_⟩; have HI2 := Lib.hid (HI1.out.below b_); clear b_)
    | ((with_reducible show wpList _ _ _ (Oper.mk (some 40) (.load _ _) _ _ _ _ :: _) _ _); refine wpList_yields (S := fun w' => MgAt w' (w.heap.size + 1) 0 m) (y_mg (by rfl) (.tmp 9) (by rfl) (w.heap.size + 1) 0 (by rfl) m (fun _ h => h)) HI2.out.msg.mg ?_)
    | (go_at_call 57; refine (HCN.out _ HI2.out.bel).mono ?_; rintro e w3 ⟨rfl, b_⟩; have HI3 := Lib.hid (HI2.out.below b_); clear b_)
    | ((with_reducible show wpList _ _ _ (Oper.mk none (.store _ (.tmp 9) (.tmp 41)) _ _ _ _ :: _) _ _); refine wpList_store_big (l0 := m.cells) (l := M.cells) HI3.out.msg rfl (.tmp 9) (.tmp 41) (ty := 38) rfl (by rfl) (by rfl) (by rw [Mg.len]; exact sizeM) (by rw [Mg.len, Mg.len]) (Mg.one _) ?_; have HI4 := Lib.hid (HI3.out.setm M); generalize World.setRow _ (w.heap.size + 1) M.cells.toArray = w4 at HI4 ⊢)
    | (go_at_call 29; clear M0; refine (HS1.out _ HI4.out.bel).mono ?_; rintro e w5 ⟨rfl, b_⟩; have HI5 := Lib.hid (HI4.out.below b_); obtain ⟨k0, k1, k2, k3, k4, k5⟩ := HI5.out.key.six; clear b_)
    | ((with_reducible show wpList _ _ _ (Oper.mk (some 50) (.load _ _) _ _ _ _ :: _) _ _); refine wpList_yields (S := fun w' => KeyAt w' (w.heap.size) 0 (x)) (y_kyJ (by rfl) (.tmp 7) (by rfl) (w.heap.size) 0 (by rfl) (x) (fun _ h => h)) HI5.out.key.kat ?_)
    | (go_at_call 58; refine (HC.out _ HI5.out.bel).mono ?_; rintro e w6 ⟨rfl, b_⟩; have HI6 := Lib.hid (HI5.out.below b_); clear k0  k1  k2  k3  k4  k5; obtain ⟨k0, k1, k2, k3, k4, k5⟩ := HI6.out.key.six; clear b_)
    | (go_at_call 29; refine (HS2.out _ HI6.out.bel).mono ?_; rintro e w7 ⟨rfl, b_⟩; have HI7 := Lib.hid (HI6.out.below b_); clear k0  k1  k2  k3  k4  k5; obtain ⟨k0, k1, k2, k3, k4, k5⟩ := HI7.out.key.six; clear b_))
  go_ret2
  exact ⟨rfl, HI7.out.bel⟩
end
end Go.Proofs.YtljfddeolapeaaaDoor

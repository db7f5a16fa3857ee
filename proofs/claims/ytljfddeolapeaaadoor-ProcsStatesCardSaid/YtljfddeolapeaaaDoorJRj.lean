/- the document's layer 13: Invoke, where calls are no more, where it goes. -/
import Derived.Test.YtljfddeolapeaaaDoorJRi
namespace Go.Proofs.YtljfddeolapeaaaDoor
open Go.RowKit
attribute [local go_sem] Oper.semAt_some
set_option maxRecDepth 8000 in
theorem rdo_at {W : World} {g : Nat} {L : List Oj} {j : Nat} {o : Oj} (h : RdO W (some ⟨g, 0, none⟩) L) (hj : L[j]? = some o) : ObAt W g (j * 163) o := by
  obtain ⟨hj', rfl⟩ := List.getElem?_eq_some_iff.1 hj
  obtain ⟨b, off, e, ho⟩ := h j hj'
  have e2 : g = b ∧ 0 = off := by simpa using e
  obtain ⟨rfl, rfl⟩ := e2
  rwa [Nat.zero_add] at ho
section
variable {w : World} {A : Option Addr} {cap n : Nat} {l : List Oj}
set_option maxRecDepth 100000 in
set_option maxHeartbeats 2000000 in
theorem rin_v7 (hr : RdO w A l) (hn : l.length = n) (hl : n ≤ 1000) (ji : Nat) (hji : ji < n) (u : Oj) (hu : l[ji]? = some u) (jt : Nat) (hjt : jt < n) (v : Oj) (hv : l[jt]? = some v) (x : Ky) (hxo : x.o = (jt : Int)) (md : Int) (m : Mg) (h : ¬ md < 1) (h2 : ¬ 3 < md) (hx : x.may n) (hm : m.d.length ≤ 32 ∧ mayS n m.k) (M : Mg) (hcn : ∀ W, Below w.heap.size w W → Calls Tryd.prog 57 #[.slice A n cap, m.val] W fun e w' => e = .returned M.val ∧ Below W.heap.size W w') (v1 : Int) (hs1 : ∀ W, Below w.heap.size w W → Calls Tryd.prog 29 #[.slice A n cap, .int .i64 (ji : Int)] W fun e w' => e = .returned (.int .i64 v1) ∧ Below W.heap.size W w') (hv1 : v1 = 1) (hc : ∀ W, Below w.heap.size w W → Calls Tryd.prog 58 #[.slice A n cap, x.val] W fun e w' => e = .returned (.bool true) ∧ Below W.heap.size W w') (v2 : Int) (hs2 : ∀ W, Below w.heap.size w W → Calls Tryd.prog 29 #[.slice A n cap, .int .i64 (jt : Int)] W fun e w' => e = .returned (.int .i64 v2) ∧ Below W.heap.size W w') (hv2 : ¬ v2 < 0) (hk : x.k = 7) (hv3 : v2 = 2) (hlv : 4294967295 ≤ v.l) : Calls Tryd.prog 23 #[.slice A n cap, .int .i64 (ji : Int), x.val, .int .i64 md, m.val] w fun e w' => e = .returned (.tuple #[.slice A n cap, .int .i64 233]) ∧ Below w.heap.size w w' := by
  have h0 : 0 < n := by omega
  obtain ⟨b, off, rfl, hot⟩ := hr jt (by omega)
  obtain ⟨b', off', e, hou⟩ := hr ji (by omega)
  have e2 : b = b' ∧ off = off' := by simpa using e
  obtain ⟨rfl, rfl⟩ := e2
  clear e
  have hv' : l[jt] = v := by rw [List.getElem?_eq_getElem (by omega)] at hv; exact Option.some.inj hv
  have hu' : l[ji] = u := by rw [List.getElem?_eq_getElem (by omega)] at hu; exact Option.some.inj hu
  rw [hv'] at hot
  rw [hu'] at hou
  have HOT := Lib.hid hot
  have HOU := Lib.hid hou
  have HR := Lib.hid hr
  have HXO := Lib.hid hxo
  have HNN := Lib.hid hn
  have HLL := Lib.hid hl
  have HJT := Lib.hid hjt
  have i1 : (0 : Int) ≤ (jt : Int) := by omega
  have i2 : (jt : Int) < (n : Int) := by omega
  have i3 : (0 : Int) ≤ (ji : Int) := by omega
  have i4 : (ji : Int) < (n : Int) := by omega
  have HMX := Lib.hid hx
  have HMY := Lib.hid hm
  have HCN := Lib.hid hcn
  have HS1 := Lib.hid hs1
  have HC := Lib.hid hc
  have HS2 := Lib.hid hs2
  have hMl := M.len
  have M0 := Lib.hid True.intro
  have dv1 : (v1 != 1) = false := by simpa using hv1
  have dv2 : decide (v2 < 0) = false := decide_eq_false hv2
  have hml := m.len
  have dn : decide ((n : Int) = 0) = false := decide_eq_false (by omega)
  have dn' : ((n : Int) == 0) = false := by simp; omega
  have HI0 : Hid (Jri w ((w.alloc (.cells (kc x.k x.o x.c x.l x.r x.v) 33)).alloc (.cells m.cells.toArray 38)) x m) := Lib.hid ⟨((Below.refl w.heap.size w).alloc (Nat.le_refl _) (.cells (kc x.k x.o x.c x.l x.r x.v) 33)).alloc (by simp) (.cells m.cells.toArray 38), (Blk.new w 33 (kc x.k x.o x.c x.l x.r x.v)).alloc (.cells m.cells.toArray 38), Blk.new_of (w.alloc (.cells (kc x.k x.o x.c x.l x.r x.v) 33)) 38 m.cells.toArray (g := w.heap.size + 1) (by simp)⟩
  have d1 : decide (md < 1) = false := decide_eq_false (by omega)
  have d2 : decide (3 < md) = false := decide_eq_false (by omega)
  have dk6 : (x.k != 6) = true := by simp [hk]
  have dk6' : (x.k == 6) = false := by simp [hk]
  have dk7 : (x.k != 7) = false := by simpa using hk
  have dk7' : (x.k == 7) = true := by simpa using hk
  have dv3 : (v2 != 2) = false := by simpa using hv3
  have dl7 : decide (4294967295 ≤ v.l) = true := decide_eq_true hlv
  clear h0 hot hou hu hv hu' hv' hr hxo hx hm hcn hs1 hc hs2 hv1 hv2 h h2 hk hv3 hlv
  go_enter Tryd.func23, Tryd.ntmps23
  go_wp2_with (first
    | ((with_reducible show wpList _ _ _ (Oper.mk (some 28) (.load _ _) _ _ _ _ :: _) _ _); refine wpList_yields (S := fun w' => KeyAt w' (w.heap.size) 0 (x)) (y_kyJ (by rfl) (.tmp 7) (by rfl) (w.heap.size) 0 (by rfl) (x) (fun _ h => h)) HI0.out.key.kat ?_)
    | (go_at_call 55; refine (rmay_y n cap _ x HMX.out _).mono ?_; rintro e w1 ⟨rfl, b_⟩; have HI1 := Lib.hid (HI0.out.below b_); clear b_)
    | ((with_reducible show wpList _ _ _ (Oper.mk (some 34) (.load _ _) _ _ _ _ :: _) _ _); refine wpList_yields (S := fun w' => MgAt w' (w.heap.size + 1) 0 m) (y_mg (by rfl) (.tmp 9) (by rfl) (w.heap.size + 1) 0 (by rfl) m (fun _ h => h)) HI1.out.msg.mg ?_)
    | (go_at_call 56; refine (rmayM_y _ cap n m HMY.out).mono ?_; rintro e w2 ⟨rfl, b_⟩; have HI2 := Lib.hid (HI1.out.below b_); clear b_)
    | ((with_reducible show wpList _ _ _ (Oper.mk (some 40) (.load _ _) _ _ _ _ :: _) _ _); refine wpList_yields (S := fun w' => MgAt w' (w.heap.size + 1) 0 m) (y_mg (by rfl) (.tmp 9) (by rfl) (w.heap.size + 1) 0 (by rfl) m (fun _ h => h)) HI2.out.msg.mg ?_)
    | (go_at_call 57; refine (HCN.out _ HI2.out.bel).mono ?_; rintro e w3 ⟨rfl, b_⟩; have HI3 := Lib.hid (HI2.out.below b_); clear b_)
    | ((with_reducible show wpList _ _ _ (Oper.mk none (.store _ (.tmp 9) (.tmp 41)) _ _ _ _ :: _) _ _); refine wpList_store_big (l0 := m.cells) (l := M.cells) HI3.out.msg rfl (.tmp 9) (.tmp 41) (ty := 38) rfl (by rfl) (by rfl) (by rw [Mg.len]; exact sizeM) (by rw [Mg.len, Mg.len]) (Mg.one _) ?_; have HI4 := Lib.hid (HI3.out.setm M); generalize World.setRow _ (w.heap.size + 1) M.cells.toArray = w4 at HI4 ⊢)
    | (go_at_call 29; clear M0; refine (HS1.out _ HI4.out.bel).mono ?_; rintro e w5 ⟨rfl, b_⟩; have HI5 := Lib.hid (HI4.out.below b_); obtain ⟨k0, k1, k2, k3, k4, k5⟩ := HI5.out.key.six; rw [HXO.out] at k1; clear b_)
    | ((with_reducible show wpList _ _ _ (Oper.mk (some 50) (.load _ _) _ _ _ _ :: _) _ _); refine wpList_yields (S := fun w' => KeyAt w' (w.heap.size) 0 (x)) (y_kyJ (by rfl) (.tmp 7) (by rfl) (w.heap.size) 0 (by rfl) (x) (fun _ h => h)) HI5.out.key.kat ?_)
    | (go_at_call 58; refine (HC.out _ HI5.out.bel).mono ?_; rintro e w6 ⟨rfl, b_⟩; have HI6 := Lib.hid (HI5.out.below b_); clear k0  k1  k2  k3  k4  k5; obtain ⟨k0, k1, k2, k3, k4, k5⟩ := HI6.out.key.six; rw [HXO.out] at k1; clear b_)
    | (go_at_call 29; refine (HS2.out _ HI6.out.bel).mono ?_; rintro e w7 ⟨rfl, b_⟩; have HI7 := Lib.hid (HI6.out.below b_); clear k0  k1  k2  k3  k4  k5; obtain ⟨k0, k1, k2, k3, k4, k5⟩ := HI7.out.key.six; rw [HXO.out] at k1; have cv2 := (HOT.out.below HI7.out.bel).cells.2.2; have cu2 := (HOU.out.below HI7.out.bel).cells.2.2; clear b_))
  go_ret2
  exact ⟨rfl, HI7.out.bel⟩
set_option maxRecDepth 100000 in
set_option maxHeartbeats 2000000 in
theorem rin_u7 (hr : RdO w A l) (hn : l.length = n) (hl : n ≤ 1000) (ji : Nat) (hji : ji < n) (u : Oj) (hu : l[ji]? = some u) (jt : Nat) (hjt : jt < n) (v : Oj) (hv : l[jt]? = some v) (x : Ky) (hxo : x.o = (jt : Int)) (md : Int) (m : Mg) (h : ¬ md < 1) (h2 : ¬ 3 < md) (hx : x.may n) (hm : m.d.length ≤ 32 ∧ mayS n m.k) (M : Mg) (hcn : ∀ W, Below w.heap.size w W → Calls Tryd.prog 57 #[.slice A n cap, m.val] W fun e w' => e = .returned M.val ∧ Below W.heap.size W w') (v1 : Int) (hs1 : ∀ W, Below w.heap.size w W → Calls Tryd.prog 29 #[.slice A n cap, .int .i64 (ji : Int)] W fun e w' => e = .returned (.int .i64 v1) ∧ Below W.heap.size W w') (hv1 : v1 = 1) (hc : ∀ W, Below w.heap.size w W → Calls Tryd.prog 58 #[.slice A n cap, x.val] W fun e w' => e = .returned (.bool true) ∧ Below W.heap.size W w') (v2 : Int) (hs2 : ∀ W, Below w.heap.size w W → Calls Tryd.prog 29 #[.slice A n cap, .int .i64 (jt : Int)] W fun e w' => e = .returned (.int .i64 v2) ∧ Below W.heap.size W w') (hv2 : ¬ v2 < 0) (hk : x.k = 7) (hv3 : v2 = 2) (hlv : ¬ 4294967295 ≤ v.l) (hmd : md = 1) (hlu : 4294967295 ≤ u.l) : Calls Tryd.prog 23 #[.slice A n cap, .int .i64 (ji : Int), x.val, .int .i64 md, m.val] w fun e w' => e = .returned (.tuple #[.slice A n cap, .int .i64 233]) ∧ Below w.heap.size w w' := by
  have h0 : 0 < n := by omega
  obtain ⟨b, off, rfl, hot⟩ := hr jt (by omega)
  obtain ⟨b', off', e, hou⟩ := hr ji (by omega)
  have e2 : b = b' ∧ off = off' := by simpa using e
  obtain ⟨rfl, rfl⟩ := e2
  clear e
  have hv' : l[jt] = v := by rw [List.getElem?_eq_getElem (by omega)] at hv; exact Option.some.inj hv
  have hu' : l[ji] = u := by rw [List.getElem?_eq_getElem (by omega)] at hu; exact Option.some.inj hu
  rw [hv'] at hot
  rw [hu'] at hou
  have HOT := Lib.hid hot
  have HOU := Lib.hid hou
  have HR := Lib.hid hr
  have HXO := Lib.hid hxo
  have HNN := Lib.hid hn
  have HLL := Lib.hid hl
  have HJT := Lib.hid hjt
  have i1 : (0 : Int) ≤ (jt : Int) := by omega
  have i2 : (jt : Int) < (n : Int) := by omega
  have i3 : (0 : Int) ≤ (ji : Int) := by omega
  have i4 : (ji : Int) < (n : Int) := by omega
  have HMX := Lib.hid hx
  have HMY := Lib.hid hm
  have HCN := Lib.hid hcn
  have HS1 := Lib.hid hs1
  have HC := Lib.hid hc
  have HS2 := Lib.hid hs2
  have hMl := M.len
  have M0 := Lib.hid True.intro
  have dv1 : (v1 != 1) = false := by simpa using hv1
  have dv2 : decide (v2 < 0) = false := decide_eq_false hv2
  have hml := m.len
  have dn : decide ((n : Int) = 0) = false := decide_eq_false (by omega)
  have dn' : ((n : Int) == 0) = false := by simp; omega
  have HI0 : Hid (Jri w ((w.alloc (.cells (kc x.k x.o x.c x.l x.r x.v) 33)).alloc (.cells m.cells.toArray 38)) x m) := Lib.hid ⟨((Below.refl w.heap.size w).alloc (Nat.le_refl _) (.cells (kc x.k x.o x.c x.l x.r x.v) 33)).alloc (by simp) (.cells m.cells.toArray 38), (Blk.new w 33 (kc x.k x.o x.c x.l x.r x.v)).alloc (.cells m.cells.toArray 38), Blk.new_of (w.alloc (.cells (kc x.k x.o x.c x.l x.r x.v) 33)) 38 m.cells.toArray (g := w.heap.size + 1) (by simp)⟩
  have d1 : decide (md < 1) = false := decide_eq_false (by omega)
  have d2 : decide (3 < md) = false := decide_eq_false (by omega)
  have dk6 : (x.k != 6) = true := by simp [hk]
  have dk6' : (x.k == 6) = false := by simp [hk]
  have dk7 : (x.k != 7) = false := by simpa using hk
  have dk7' : (x.k == 7) = true := by simpa using hk
  have dv3 : (v2 != 2) = false := by simpa using hv3
  have dl7 : decide (4294967295 ≤ v.l) = false := decide_eq_false hlv
  have dlu : decide (4294967295 ≤ u.l) = true := decide_eq_true hlu
  have e1 : (md == 1) = true := by simp [hmd]
  have e3 : (md == 3) = false := by simp [hmd]
  clear h0 hot hou hu hv hu' hv' hr hxo hx hm hcn hs1 hc hs2 hv1 hv2 h h2 hk hv3 hlv hmd hlu
  go_enter Tryd.func23, Tryd.ntmps23
  go_wp2_with (first
    | ((with_reducible show wpList _ _ _ (Oper.mk (some 28) (.load _ _) _ _ _ _ :: _) _ _); refine wpList_yields (S := fun w' => KeyAt w' (w.heap.size) 0 (x)) (y_kyJ (by rfl) (.tmp 7) (by rfl) (w.heap.size) 0 (by rfl) (x) (fun _ h => h)) HI0.out.key.kat ?_)
    | (go_at_call 55; refine (rmay_y n cap _ x HMX.out _).mono ?_; rintro e w1 ⟨rfl, b_⟩; have HI1 := Lib.hid (HI0.out.below b_); clear b_)
    | ((with_reducible show wpList _ _ _ (Oper.mk (some 34) (.load _ _) _ _ _ _ :: _) _ _); refine wpList_yields (S := fun w' => MgAt w' (w.heap.size + 1) 0 m) (y_mg (by rfl) (.tmp 9) (by rfl) (w.heap.size + 1) 0 (by rfl) m (fun _ h => h)) HI1.out.msg.mg ?_)
    | (go_at_call 56; refine (rmayM_y _ cap n m HMY.out).mono ?_; rintro e w2 ⟨rfl, b_⟩; have HI2 := Lib.hid (HI1.out.below b_); clear b_)
    | ((with_reducible show wpList _ _ _ (Oper.mk (some 40) (.load _ _) _ _ _ _ :: _) _ _); refine wpList_yields (S := fun w' => MgAt w' (w.heap.size + 1) 0 m) (y_mg (by rfl) (.tmp 9) (by rfl) (w.heap.size + 1) 0 (by rfl) m (fun _ h => h)) HI2.out.msg.mg ?_)
    | (go_at_call 57; refine (HCN.out _ HI2.out.bel).mono ?_; rintro e w3 ⟨rfl, b_⟩; have HI3 := Lib.hid (HI2.out.below b_); clear b_)
    | ((with_reducible show wpList _ _ _ (Oper.mk none (.store _ (.tmp 9) (.tmp 41)) _ _ _ _ :: _) _ _); refine wpList_store_big (l0 := m.cells) (l := M.cells) HI3.out.msg rfl (.tmp 9) (.tmp 41) (ty := 38) rfl (by rfl) (by rfl) (by rw [Mg.len]; exact sizeM) (by rw [Mg.len, Mg.len]) (Mg.one _) ?_; have HI4 := Lib.hid (HI3.out.setm M); generalize World.setRow _ (w.heap.size + 1) M.cells.toArray = w4 at HI4 ⊢)
    | (go_at_call 29; clear M0; refine (HS1.out _ HI4.out.bel).mono ?_; rintro e w5 ⟨rfl, b_⟩; have HI5 := Lib.hid (HI4.out.below b_); obtain ⟨k0, k1, k2, k3, k4, k5⟩ := HI5.out.key.six; rw [HXO.out] at k1; clear b_)
    | ((with_reducible show wpList _ _ _ (Oper.mk (some 50) (.load _ _) _ _ _ _ :: _) _ _); refine wpList_yields (S := fun w' => KeyAt w' (w.heap.size) 0 (x)) (y_kyJ (by rfl) (.tmp 7) (by rfl) (w.heap.size) 0 (by rfl) (x) (fun _ h => h)) HI5.out.key.kat ?_)
    | (go_at_call 58; refine (HC.out _ HI5.out.bel).mono ?_; rintro e w6 ⟨rfl, b_⟩; have HI6 := Lib.hid (HI5.out.below b_); clear k0  k1  k2  k3  k4  k5; obtain ⟨k0, k1, k2, k3, k4, k5⟩ := HI6.out.key.six; rw [HXO.out] at k1; clear b_)
    | (go_at_call 29; refine (HS2.out _ HI6.out.bel).mono ?_; rintro e w7 ⟨rfl, b_⟩; have HI7 := Lib.hid (HI6.out.below b_); clear k0  k1  k2  k3  k4  k5; obtain ⟨k0, k1, k2, k3, k4, k5⟩ := HI7.out.key.six; rw [HXO.out] at k1; have cv2 := (HOT.out.below HI7.out.bel).cells.2.2; have cu2 := (HOU.out.below HI7.out.bel).cells.2.2; clear b_))
  go_ret2
  exact ⟨rfl, HI7.out.bel⟩
set_option maxRecDepth 100000 in
set_option maxHeartbeats 2000000 in
theorem rin_u6 (hr : RdO w A l) (hn : l.length = n) (hl : n ≤ 1000) (ji : Nat) (hji : ji < n) (u : Oj) (hu : l[ji]? = some u) (jt : Nat) (hjt : jt < n) (v : Oj) (hv : l[jt]? = some v) (x : Ky) (hxo : x.o = (jt : Int)) (md : Int) (m : Mg) (h : ¬ md < 1) (h2 : ¬ 3 < md) (hx : x.may n) (hm : m.d.length ≤ 32 ∧ mayS n m.k) (M : Mg) (hcn : ∀ W, Below w.heap.size w W → Calls Tryd.prog 57 #[.slice A n cap, m.val] W fun e w' => e = .returned M.val ∧ Below W.heap.size W w') (v1 : Int) (hs1 : ∀ W, Below w.heap.size w W → Calls Tryd.prog 29 #[.slice A n cap, .int .i64 (ji : Int)] W fun e w' => e = .returned (.int .i64 v1) ∧ Below W.heap.size W w') (hv1 : v1 = 1) (hc : ∀ W, Below w.heap.size w W → Calls Tryd.prog 58 #[.slice A n cap, x.val] W fun e w' => e = .returned (.bool true) ∧ Below W.heap.size W w') (v2 : Int) (hs2 : ∀ W, Below w.heap.size w W → Calls Tryd.prog 29 #[.slice A n cap, .int .i64 (jt : Int)] W fun e w' => e = .returned (.int .i64 v2) ∧ Below W.heap.size W w') (hv2 : ¬ v2 < 0) (hk : x.k = 6) (hv3 : v2 = 0) (hmd : md = 1) (hlu : 4294967295 ≤ u.l) : Calls Tryd.prog 23 #[.slice A n cap, .int .i64 (ji : Int), x.val, .int .i64 md, m.val] w fun e w' => e = .returned (.tuple #[.slice A n cap, .int .i64 233]) ∧ Below w.heap.size w w' := by
  have h0 : 0 < n := by omega
  obtain ⟨b, off, rfl, hot⟩ := hr jt (by omega)
  obtain ⟨b', off', e, hou⟩ := hr ji (by omega)
  have e2 : b = b' ∧ off = off' := by simpa using e
  obtain ⟨rfl, rfl⟩ := e2
  clear e
  have hv' : l[jt] = v := by rw [List.getElem?_eq_getElem (by omega)] at hv; exact Option.some.inj hv
  have hu' : l[ji] = u := by rw [List.getElem?_eq_getElem (by omega)] at hu; exact Option.some.inj hu
  rw [hv'] at hot
  rw [hu'] at hou
  have HOT := Lib.hid hot
  have HOU := Lib.hid hou
  have HR := Lib.hid hr
  have HXO := Lib.hid hxo
  have HNN := Lib.hid hn
  have HLL := Lib.hid hl
  have HJT := Lib.hid hjt
  have i1 : (0 : Int) ≤ (jt : Int) := by omega
  have i2 : (jt : Int) < (n : Int) := by omega
  have i3 : (0 : Int) ≤ (ji : Int) := by omega
  have i4 : (ji : Int) < (n : Int) := by omega
  have HMX := Lib.hid hx
  have HMY := Lib.hid hm
  have HCN := Lib.hid hcn
  have HS1 := Lib.hid hs1
  have HC := Lib.hid hc
  have HS2 := Lib.hid hs2
  have hMl := M.len
  have M0 := Lib.hid True.intro
  have dv1 : (v1 != 1) = false := by simpa using hv1
  have dv2 : decide (v2 < 0) = false := decide_eq_false hv2
  have hml := m.len
  have dn : decide ((n : Int) = 0) = false := decide_eq_false (by omega)
  have dn' : ((n : Int) == 0) = false := by simp; omega
  have HI0 : Hid (Jri w ((w.alloc (.cells (kc x.k x.o x.c x.l x.r x.v) 33)).alloc (.cells m.cells.toArray 38)) x m) := Lib.hid ⟨((Below.refl w.heap.size w).alloc (Nat.le_refl _) (.cells (kc x.k x.o x.c x.l x.r x.v) 33)).alloc (by simp) (.cells m.cells.toArray 38), (Blk.new w 33 (kc x.k x.o x.c x.l x.r x.v)).alloc (.cells m.cells.toArray 38), Blk.new_of (w.alloc (.cells (kc x.k x.o x.c x.l x.r x.v) 33)) 38 m.cells.toArray (g := w.heap.size + 1) (by simp)⟩
  have d1 : decide (md < 1) = false := decide_eq_false (by omega)
  have d2 : decide (3 < md) = false := decide_eq_false (by omega)
  have dk6 : (x.k != 6) = false := by simpa using hk
  have dk6' : (x.k == 6) = true := by simpa using hk
  have dk7 : (x.k != 7) = true := by simp [hk]
  have dk7' : (x.k == 7) = false := by simp [hk]
  have dv3 : (v2 != 0) = false := by simpa using hv3
  have dlu : decide (4294967295 ≤ u.l) = true := decide_eq_true hlu
  have e1 : (md == 1) = true := by simp [hmd]
  have e3 : (md == 3) = false := by simp [hmd]
  clear h0 hot hou hu hv hu' hv' hr hxo hx hm hcn hs1 hc hs2 hv1 hv2 h h2 hk hv3 hmd hlu
  go_enter Tryd.func23, Tryd.ntmps23
  go_wp2_with (first
    | ((with_reducible show wpList _ _ _ (Oper.mk (some 28) (.load _ _) _ _ _ _ :: _) _ _); refine wpList_yields (S := fun w' => KeyAt w' (w.heap.size) 0 (x)) (y_kyJ (by rfl) (.tmp 7) (by rfl) (w.heap.size) 0 (by rfl) (x) (fun _ h => h)) HI0.out.key.kat ?_)
    | (go_at_call 55; refine (rmay_y n cap _ x HMX.out _).mono ?_; rintro e w1 ⟨rfl, b_⟩; have HI1 := Lib.hid (HI0.out.below b_); clear b_)
    | ((with_reducible show wpList _ _ _ (Oper.mk (some 34) (.load _ _) _ _ _ _ :: _) _ _); refine wpList_yields (S := fun w' => MgAt w' (w.heap.size + 1) 0 m) (y_mg (by rfl) (.tmp 9) (by rfl) (w.heap.size + 1) 0 (by rfl) m (fun _ h => h)) HI1.out.msg.mg ?_)
    | (go_at_call 56; refine (rmayM_y _ cap n m HMY.out).mono ?_; rintro e w2 ⟨rfl, b_⟩; have HI2 := Lib.hid (HI1.out.below b_); clear b_)
    | ((with_reducible show wpList _ _ _ (Oper.mk (some 40) (.load _ _) _ _ _ _ :: _) _ _); refine wpList_yields (S := fun w' => MgAt w' (w.heap.size + 1) 0 m) (y_mg (by rfl) (.tmp 9) (by rfl) (w.heap.size + 1) 0 (by rfl) m (fun _ h => h)) HI2.out.msg.mg ?_)
    | (go_at_call 57; refine (HCN.out _ HI2.out.bel).mono ?_; rintro e w3 ⟨rfl, b_⟩; have HI3 := Lib.hid (HI2.out.below b_); clear b_)
    | ((with_reducible show wpList _ _ _ (Oper.mk none (.store _ (.tmp 9) (.tmp 41)) _ _ _ _ :: _) _ _); refine wpList_store_big (l0 := m.cells) (l := M.cells) HI3.out.msg rfl (.tmp 9) (.tmp 41) (ty := 38) rfl (by rfl) (by rfl) (by rw [Mg.len]; exact sizeM) (by rw [Mg.len, Mg.len]) (Mg.one _) ?_; have HI4 := Lib.hid (HI3.out.setm M); generalize World.setRow _ (w.heap.size + 1) M.cells.toArray = w4 at HI4 ⊢)
    | (go_at_call 29; clear M0; refine (HS1.out _ HI4.out.bel).mono ?_; rintro e w5 ⟨rfl, b_⟩; have HI5 := Lib.hid (HI4.out.below b_); obtain ⟨k0, k1, k2, k3, k4, k5⟩ := HI5.out.key.six; rw [HXO.out] at k1; clear b_)
    | ((with_reducible show wpList _ _ _ (Oper.mk (some 50) (.load _ _) _ _ _ _ :: _) _ _); refine wpList_yields (S := fun w' => KeyAt w' (w.heap.size) 0 (x)) (y_kyJ (by rfl) (.tmp 7) (by rfl) (w.heap.size) 0 (by rfl) (x) (fun _ h => h)) HI5.out.key.kat ?_)
    | (go_at_call 58; refine (HC.out _ HI5.out.bel).mono ?_; rintro e w6 ⟨rfl, b_⟩; have HI6 := Lib.hid (HI5.out.below b_); clear k0  k1  k2  k3  k4  k5; obtain ⟨k0, k1, k2, k3, k4, k5⟩ := HI6.out.key.six; rw [HXO.out] at k1; clear b_)
    | (go_at_call 29; refine (HS2.out _ HI6.out.bel).mono ?_; rintro e w7 ⟨rfl, b_⟩; have HI7 := Lib.hid (HI6.out.below b_); clear k0  k1  k2  k3  k4  k5; obtain ⟨k0, k1, k2, k3, k4, k5⟩ := HI7.out.key.six; rw [HXO.out] at k1; have cv2 := (HOT.out.below HI7.out.bel).cells.2.2; have cu2 := (HOU.out.below HI7.out.bel).cells.2.2; clear b_))
  go_ret2
  exact ⟨rfl, HI7.out.bel⟩
end
end Go.Proofs.YtljfddeolapeaaaDoor

/- the document's layer 13: Invoke, where it goes. -/
import Derived.Test.YtljfddeolapeaaaDoorJRj
namespace Go.Proofs.YtljfddeolapeaaaDoor
open List renaming getElem_toArray → zq1, getElem_cons_succ → zq2, getElem_cons_zero → zq3, setIfInBounds_toArray → zq4, set_cons_zero → zq5, set_cons_succ → zq6
open Go.RowKit
attribute [local go_sem] Oper.semAt_some
set_option maxRecDepth 8000 in
theorem rdo_far {W : World} {g : Nat} {L : List Oj} (h : RdO W (some ⟨g, 0, none⟩) L) (q : Addr) (u : Value) (hq : g ≠ q.block) : RdO (W.setCell q u) (some ⟨g, 0, none⟩) L := fun i hi => by
  obtain ⟨b, off, e, ho⟩ := h i hi
  have e2 : g = b ∧ 0 = off := by simpa using e
  obtain ⟨rfl, rfl⟩ := e2
  exact ⟨_, 0, rfl, ho.keep (Below.heap_setCell W q u _ hq)⟩
section
variable {w : World} {A : Option Addr} {cap n : Nat} {l : List Oj}
set_option maxRecDepth 100000 in
set_option maxHeartbeats 2000000 in
theorem rin_ok61 (hr : RdO w A l) (hn : l.length = n) (hl : n ≤ 1000) (ji : Nat) (hji : ji < n) (u : Oj) (hu : l[ji]? = some u) (jt : Nat) (hjt : jt < n) (v : Oj) (hv : l[jt]? = some v) (x : Ky) (hxo : x.o = (jt : Int)) (md : Int) (m : Mg) (h : ¬ md < 1) (h2 : ¬ 3 < md) (hx : x.may n) (hm : m.d.length ≤ 32 ∧ mayS n m.k) (M : Mg) (hcn : ∀ W, Below w.heap.size w W → Calls Tryd.prog 57 #[.slice A n cap, m.val] W fun e w' => e = .returned M.val ∧ Below W.heap.size W w') (v1 : Int) (hs1 : ∀ W, Below w.heap.size w W → Calls Tryd.prog 29 #[.slice A n cap, .int .i64 (ji : Int)] W fun e w' => e = .returned (.int .i64 v1) ∧ Below W.heap.size W w') (hv1 : v1 = 1) (hc : ∀ W, Below w.heap.size w W → Calls Tryd.prog 58 #[.slice A n cap, x.val] W fun e w' => e = .returned (.bool true) ∧ Below W.heap.size W w') (v2 : Int) (hs2 : ∀ W, Below w.heap.size w W → Calls Tryd.prog 29 #[.slice A n cap, .int .i64 (jt : Int)] W fun e w' => e = .returned (.int .i64 v2) ∧ Below W.heap.size W w') (hv2 : ¬ v2 < 0) (hk : x.k = 6) (hv3 : v2 = 0) (hlu : ¬ 4294967295 ≤ u.l) (hmd : md = 1) (M_d : M.d.length ≤ 32) (L1 : List Oj) (hL1 : L1.length = n) (o1 : Oj) (ho1 : L1[jt]? = some o1) (hbe : ∀ W, Below w.heap.size w W → Calls Tryd.prog 27 #[.slice A n cap, .int .i64 (ji : Int), .int .i64 2] W fun e w' => ∃ g c, e = .returned (.tuple #[.slice (some ⟨g, 0, none⟩) n c, .int .i64 0]) ∧ W.heap.size ≤ g ∧ RdO w' (some ⟨g, 0, none⟩) L1 ∧ Below W.heap.size W w') : Calls Tryd.prog 23 #[.slice A n cap, .int .i64 (ji : Int), x.val, .int .i64 md, m.val] w fun e w' => ∃ g c, e = .returned (.tuple #[.slice (some ⟨g, 0, none⟩) n c, .int .i64 0]) ∧ w.heap.size ≤ g ∧ RdO w' (some ⟨g, 0, none⟩) (L1.set jt (handO o1 M ⟨7, (ji : Int), u.c, u.l, 0, 0⟩)) ∧ Below w.heap.size w w' := by
  subst hmd
  have h0 : 0 < n := by omega
  obtain ⟨b, off, rfl, hot⟩ := hr jt (by omega)
  obtain ⟨b', off', e, hou⟩ := hr ji (by omega)
  have e2 : b = b' ∧ off = off' := by simpa using e
  obtain ⟨rfl, rfl⟩ := e2
  clear e
  have hv' : l[jt] = v := by rw [List.getElem?_eq_getElem (by omega)] at hv; exact Option.some.inj hv
  have hu' : l[ji] = u := by rw [List.getElem?_eq_getElem (by omega)] at hu; exact Option.some.inj hu
  rw [hv'] at hot
  rw [hu'] at hou
  have HOT := Lib.hid hot
  have HOU := Lib.hid hou
  have HR := Lib.hid hr
  have HXO := Lib.hid hxo
  have HNN := Lib.hid hn
  have HLL := Lib.hid hl
  have HJT := Lib.hid hjt
  have i1 : (0 : Int) ≤ (jt : Int) := by omega
  have i2 : (jt : Int) < (n : Int) := by omega
  have i3 : (0 : Int) ≤ (ji : Int) := by omega
  have i4 : (ji : Int) < (n : Int) := by omega
  have HMX := Lib.hid hx
  have HMY := Lib.hid hm
  have HCN := Lib.hid hcn
  have HS1 := Lib.hid hs1
  have HC := Lib.hid hc
  have HS2 := Lib.hid hs2
  have hMl := M.len
  have M0 := Lib.hid True.intro
  have dv1 : (v1 != 1) = false := by simpa using hv1
  have dv2 : decide (v2 < 0) = false := decide_eq_false hv2
  have hml := m.len
  have dn : decide ((n : Int) = 0) = false := decide_eq_false (by omega)
  have dn' : ((n : Int) == 0) = false := by simp; omega
  have HI0 : Hid (Jri w ((w.alloc (.cells (kc x.k x.o x.c x.l x.r x.v) 33)).alloc (.cells m.cells.toArray 38)) x m) := Lib.hid ⟨((Below.refl w.heap.size w).alloc (Nat.le_refl _) (.cells (kc x.k x.o x.c x.l x.r x.v) 33)).alloc (by simp) (.cells m.cells.toArray 38), (Blk.new w 33 (kc x.k x.o x.c x.l x.r x.v)).alloc (.cells m.cells.toArray 38), Blk.new_of (w.alloc (.cells (kc x.k x.o x.c x.l x.r x.v) 33)) 38 m.cells.toArray (g := w.heap.size + 1) (by simp)⟩
  have HMD := Lib.hid M_d
  have HLN := Lib.hid hL1
  have HO1 := Lib.hid ho1
  have HBE := Lib.hid hbe
  have hz := z34
  have hzl := oz_len
  have hzk := kl_len zk
  have hol := o1.len
  have hFS : ∀ W, Below w.heap.size w W → W.cell? ⟨b, off + ji * 163 + 1, none⟩ = some (.int .i64 u.c) ∧ W.cell? ⟨b, off + ji * 163 + 2, none⟩ = some (.int .i64 u.l) := fun W hb => ⟨(HOU.out.below hb).cells.2.1, (HOU.out.below hb).cells.2.2⟩
  have HO2 : Hid (L1[jt]? = some o1) := Lib.hid ho1
  have dk6 : (x.k != 6) = false := by simpa using hk
  have dk6' : (x.k == 6) = true := by simpa using hk
  have dk7 : (x.k != 7) = true := by simp [hk]
  have dk7' : (x.k == 7) = false := by simp [hk]
  have dv3 : (v2 != 0) = false := by simpa using hv3
  have dlu : decide (4294967295 ≤ u.l) = false := decide_eq_false hlu
  clear h0 hot hou hu hv hu' hv' hr hxo hx hm hcn hs1 hc hs2 hv1 hv2 h h2 hk hv3 hlu hbe ho1 M_d
  go_enter Tryd.func23, Tryd.ntmps23
  go_wp2_with (first
    | ((with_reducible show wpList _ _ _ (Oper.mk (some 28) (.load _ _) _ _ _ _ :: _) _ _); refine wpList_yields (S := fun w' => KeyAt w' (w.heap.size) 0 (x)) (y_kyJ (by rfl) (.tmp 7) (by rfl) (w.heap.size) 0 (by rfl) (x) (fun _ h => h)) HI0.out.key.kat ?_)
    | (go_at_call 55; refine (rmay_y n cap _ x HMX.out _).mono ?_; rintro e w1 ⟨rfl, b_⟩; have HI1 := Lib.hid (HI0.out.below b_); clear b_)
    | ((with_reducible show wpList _ _ _ (Oper.mk (some 34) (.load _ _) _ _ _ _ :: _) _ _); refine wpList_yields (S := fun w' => MgAt w' (w.heap.size + 1) 0 m) (y_mg (by rfl) (.tmp 9) (by rfl) (w.heap.size + 1) 0 (by rfl) m (fun _ h => h)) HI1.out.msg.mg ?_)
    | (go_at_call 56; refine (rmayM_y _ cap n m HMY.out).mono ?_; rintro e w2 ⟨rfl, b_⟩; have HI2 := Lib.hid (HI1.out.below b_); clear b_)
    | ((with_reducible show wpList _ _ _ (Oper.mk (some 40) (.load _ _) _ _ _ _ :: _) _ _); refine wpList_yields (S := fun w' => MgAt w' (w.heap.size + 1) 0 m) (y_mg (by rfl) (.tmp 9) (by rfl) (w.heap.size + 1) 0 (by rfl) m (fun _ h => h)) HI2.out.msg.mg ?_)
    | (go_at_call 57; refine (HCN.out _ HI2.out.bel).mono ?_; rintro e w3 ⟨rfl, b_⟩; have HI3 := Lib.hid (HI2.out.below b_); clear b_)
    | ((with_reducible show wpList _ _ _ (Oper.mk none (.store _ (.tmp 9) (.tmp 41)) _ _ _ _ :: _) _ _); refine wpList_store_big (l0 := m.cells) (l := M.cells) HI3.out.msg rfl (.tmp 9) (.tmp 41) (ty := 38) rfl (by rfl) (by rfl) (by rw [Mg.len]; exact sizeM) (by rw [Mg.len, Mg.len]) (Mg.one _) ?_; have HI4 := Lib.hid (HI3.out.setm M); generalize World.setRow _ (w.heap.size + 1) M.cells.toArray = w4 at HI4 ⊢)
    | (go_at_call 29; clear M0; refine (HS1.out _ HI4.out.bel).mono ?_; rintro e w5 ⟨rfl, b_⟩; have HI5 := Lib.hid (HI4.out.below b_); obtain ⟨k0, k1, k2, k3, k4, k5⟩ := HI5.out.key.six; rw [HXO.out] at k1; clear b_)
    | ((with_reducible show wpList _ _ _ (Oper.mk (some 50) (.load _ _) _ _ _ _ :: _) _ _); refine wpList_yields (S := fun w' => KeyAt w' (w.heap.size) 0 (x)) (y_kyJ (by rfl) (.tmp 7) (by rfl) (w.heap.size) 0 (by rfl) (x) (fun _ h => h)) HI5.out.key.kat ?_)
    | (go_at_call 58; refine (HC.out _ HI5.out.bel).mono ?_; rintro e w6 ⟨rfl, b_⟩; have HI6 := Lib.hid (HI5.out.below b_); clear k0  k1  k2  k3  k4  k5; obtain ⟨k0, k1, k2, k3, k4, k5⟩ := HI6.out.key.six; rw [HXO.out] at k1; clear b_)
    | (go_at_call 29; refine (HS2.out _ HI6.out.bel).mono ?_; rintro e w7 ⟨rfl, b_⟩; have HI7 := Lib.hid (HI6.out.below b_); clear k0  k1  k2  k3  k4  k5; obtain ⟨k0, k1, k2, k3, k4, k5⟩ := HI7.out.key.six; rw [HXO.out] at k1; have cv2 := (HOT.out.below HI7.out.bel).cells.2.2; have cu2 := (HOU.out.below HI7.out.bel).cells.2.2; clear b_)
    | ((with_reducible show wpList _ _ _ (Oper.mk (some 119) (.build _ _) _ _ _ _ :: _) _ _); refine wpList_yields (S := fun _ => True) (y_build (by rfl) (by rfl) built30) trivial ?_)
    | ((with_reducible show wpList _ _ _ (Oper.mk none (.store _ (.tmp 14) (.tmp 119)) _ _ _ _ :: _) _ _); refine wpList_store_new (l := kl zk) (l0 := kl zk) (ty := 33) rfl (.tmp 14) (.tmp 119) (by rfl) w7.heap.size rfl (by rfl) (by rfl) size30 rfl (kl_one _) ?_; have HG7 := Lib.hid (show w.heap.size + 2 ≤ w7.heap.size by have := HI7.out.msg.lt; omega); have HI8 := Lib.hid (HI7.out.below ((Below.refl _ _).alloc (Nat.le_refl _) (.cells (kl zk).toArray 33))); have HA8 := Lib.hid (Blk.new w7 33 (kl zk).toArray); generalize w7.alloc (.cells (kl zk).toArray 33) = w8 at HI8 HA8 ⊢; clear cv2 cu2 k0  k1  k2  k3  k4  k5; obtain ⟨k0, k1, k2, k3, k4, k5⟩ := HI8.out.key.six; rw [HXO.out] at k1))
  clear k0  k1  k2  k3  k4  k5
  refine wp_region_only (S := fun w' => w'.cell? ⟨b, off + ji * 163 + 1, none⟩ = some (.int .i64 u.c) ∧ w'.cell? ⟨b, off + ji * 163 + 2, none⟩ = some (.int .i64 u.l)) (by kernel_rfl) (hFS _ HI8.out.bel.drew) (fun hHeld => ?_)
  refine wpAnyH_take (i := 0) (v := ?v1) rfl (by kernel_rfl) (by kernel_rfl) (by kernel_rfl) (fun _ _ _ h => h) (Or.inl ⟨by rfl, ?hy1⟩) hHeld ?rest1
  case hy1 =>
    intro w' hSw
    try dsimp only at hSw
    go_simp
    first | done | with_reducible rfl
  try simp only [Act.put, zq1, zq3, zq4, zq5, zq6]
  refine wpAnyH_take (i := 1) (v := ?v2) rfl (by kernel_rfl) (by kernel_rfl) (by kernel_rfl) (fun _ _ _ h => h) (Or.inl ⟨by rfl, ?hy2⟩) hHeld ?rest2
  case hy2 =>
    intro w' hSw
    try dsimp only at hSw
    go_simp
    first | done | with_reducible rfl
  try simp only [Act.put, zq1, zq2, zq3, zq4, zq5, zq6]
  refine wpAnyH_take (i := 2) (v := ?v3) rfl (by kernel_rfl) (by kernel_rfl) (by kernel_rfl) (fun _ _ _ h => h) (Or.inl ⟨by rfl, ?hy3⟩) hHeld ?rest3
  case hy3 =>
    intro w' hSw
    try dsimp only at hSw
    go_simp
    first | done | with_reducible rfl
  try simp only [Act.put, zq1, zq2, zq3, zq4, zq5, zq6]
  refine wpAnyH_take (i := 3) (v := ?v4) rfl (by kernel_rfl) (by kernel_rfl) (by kernel_rfl) (fun _ _ _ h => h) (Or.inl ⟨by rfl, ?hy4⟩) hHeld ?rest4
  case hy4 =>
    intro w' hSw
    try dsimp only at hSw
    go_simp
    first | done | with_reducible rfl
  try simp only [Act.put, zq1, zq2, zq3, zq4, zq5, zq6]
  refine wpAnyH_take (i := 4) (v := ?v5) rfl (by kernel_rfl) (by kernel_rfl) (by kernel_rfl) (fun _ _ _ h => h) (Or.inl ⟨by rfl, ?hy5⟩) hHeld ?rest5
  case hy5 =>
    intro w' hSw
    try dsimp only at hSw
    go_simp
    first | done | with_reducible rfl
  try simp only [Act.put, zq1, zq2, zq3, zq4, zq5, zq6]
  refine wpAnyH_take (i := 5) (v := ?v6) rfl (by kernel_rfl) (by kernel_rfl) (by kernel_rfl) (fun _ _ _ h => h) (Or.inl ⟨by rfl, ?hy6⟩) hHeld ?rest6
  case hy6 =>
    intro w' hSw
    try dsimp only at hSw
    go_simp
    first | done | with_reducible rfl
  try simp only [Act.put, zq1, zq2, zq3, zq4, zq5, zq6]
  refine wpAnyH_take (i := 6) (v := ?v7) rfl (by kernel_rfl) (by kernel_rfl) (by kernel_rfl) (fun _ _ _ h => h) (Or.inl ⟨by rfl, ?hy7⟩) hHeld ?rest7
  case hy7 =>
    intro w' hSw
    try dsimp only at hSw
    go_simp
    first | done | with_reducible rfl
  try simp only [Act.put, zq1, zq2, zq3, zq4, zq5, zq6]
  refine wpAnyH_take (i := 7) (v := ?v8) rfl (by kernel_rfl) (by kernel_rfl) (by kernel_rfl) (fun _ _ _ h => h) (Or.inl ⟨by rfl, ?hy8⟩) hHeld ?rest8
  case hy8 =>
    intro w' hSw
    try dsimp only at hSw
    go_simp
    first | done | with_reducible rfl
  try simp only [Act.put, zq1, zq2, zq3, zq4, zq5, zq6]
  refine wpAnyH_take (i := 8) (v := ?v9) rfl (by kernel_rfl) (by kernel_rfl) (by kernel_rfl) (fun _ _ _ h => h) (Or.inl ⟨by rfl, ?hy9⟩) hHeld ?rest9
  case hy9 =>
    intro w' hSw
    try dsimp only at hSw
    go_simp
    first | done | with_reducible rfl
  try simp only [Act.put, zq1, zq2, zq3, zq4, zq5, zq6]
  refine wpAnyH_take (i := 9) (v := ?v10) rfl (by kernel_rfl) (by kernel_rfl) (by kernel_rfl) (fun _ _ _ h => h) (Or.inl ⟨by rfl, ?hy10⟩) hHeld ?rest10
  case hy10 =>
    intro w' hSw
    try dsimp only at hSw
    go_simp
    first | done | with_reducible rfl
  try simp only [Act.put, zq1, zq2, zq3, zq4, zq5, zq6]
  refine wpAnyH_take (i := 10) (v := ?v11) rfl (by kernel_rfl) (by kernel_rfl) (by kernel_rfl) (fun _ _ _ h => h) (Or.inl ⟨by rfl, ?hy11⟩) hHeld ?rest11
  case hy11 =>
    intro w' hSw
    try dsimp only at hSw
    go_simp
    first | done | with_reducible rfl
  try simp only [Act.put, zq1, zq2, zq3, zq4, zq5, zq6]
  refine wpAnyH_take (i := 11) rfl (by kernel_rfl) (by kernel_rfl) (by kernel_rfl) (fun _ _ _ h => h) (y_bl4 (by rfl) (.const (.int .i64 7)) (.tmp 122) (.tmp 127) (.tmp 132) (by rfl) (by rfl) (by rfl) (by rfl) (by rfl) (builtK4 7 (ji : Int) u.c u.l)) hHeld ?_
  try simp only [Act.put, zq1, zq2, zq3, zq4, zq5, zq6]
  refine wpAnyH_ready (rs := [12]) (by kernel_rfl) (by simp) ?_
  refine AllReadyH.cons (by rfl) (fun K hK => ?_) AllReadyH.nil
  refine step_store_in HA8.out.drew rfl (.tmp 14) (.tmp 133) (ty := 33) (l := kl ⟨7, (ji : Int), u.c, u.l, 0, 0⟩) (l1 := kl ⟨7, (ji : Int), u.c, u.l, 0, 0⟩) (off := 0) (by rfl) (by rfl) (by rfl) size30 (by rw [kl_len, kl_len]; decide) (kl_one _) (by rfl) ?_
  clear hHeld
  have HA9 := Lib.hid (HA8.out.drew.setRow (kl ⟨7, (ji : Int), u.c, u.l, 0, 0⟩).toArray)
  have HI9 : Hid (Jri w (World.setRow _ w7.heap.size (kl ⟨7, (ji : Int), u.c, u.l, 0, 0⟩).toArray) x M) := Lib.hid ⟨below_setRow HI8.out.bel.drew (by have := HG7.out; omega) _, Blk.row_far HI8.out.key.drew (by have := HG7.out; omega) _, Blk.row_far HI8.out.msg.drew (by have := HG7.out; omega) _⟩
  generalize World.setRow _ w7.heap.size (kl ⟨7, (ji : Int), u.c, u.l, 0, 0⟩).toArray = w9 at HA9 HI9 ⊢
  clear HA8 HI8
  refine hK.out _ _ (hFS _ HI9.out.bel) (fun hHeld => ?_)
  clear hK K
  try simp only [Act.put, zq1, zq2, zq3]
  refine wpAnyH_done (by kernel_rfl) ?_ _
  refine OnlyN.normal ?_
  obtain ⟨k0, k1, k2, k3, k4, k5⟩ := HI9.out.key.six
  rw [HXO.out] at k1
  clear hHeld
  go_wp2_with (first
    | (go_at_call 27; refine (HBE.out _ (HI9.out.bel.alloc HI9.out.bel.size (.cells #[.int .i64 0, .int .i64 2, .int .i64 1, .int .i64 0] 3))).mono ?_; rintro e wb ⟨g1, c1, rfl, hg, hr1, b_⟩; have HIb := Lib.hid ((HI9.out.below ((Below.refl _ _).alloc (Nat.le_refl _) (.cells #[.int .i64 0, .int .i64 2, .int .i64 1, .int .i64 0] 3))).below b_); have HAb := Lib.hid ((HA9.out.alloc (.cells #[.int .i64 0, .int .i64 2, .int .i64 1, .int .i64 0] 3)).keep b_); have HRb := Lib.hid hr1; clear b_ hg hr1 k0  k1  k2  k3  k4  k5; obtain ⟨k0, k1, k2, k3, k4, k5⟩ := HIb.out.key.six; rw [HXO.out] at k1)
    | ((with_reducible show wpList _ _ _ (Oper.mk (some 163) (.load _ _) _ _ _ _ :: _) _ _); refine wpList_yields (S := fun w' => MgAt w' (w.heap.size + 1) 0 M) (y_mg (by rfl) (.tmp 9) (by rfl) (w.heap.size + 1) 0 (by rfl) M (fun _ h => h)) HIb.out.msg.mg ?_)
    | ((with_reducible show wpList _ _ _ (Oper.mk (some 164) (.load _ _) _ _ _ _ :: _) _ _); refine wpList_yields (S := fun w' => KeyAt w' (w7.heap.size) 0 (⟨7, (ji : Int), u.c, u.l, 0, 0⟩)) (y_kyJ (by rfl) (.tmp 14) (by rfl) (w7.heap.size) 0 (by rfl) (⟨7, (ji : Int), u.c, u.l, 0, 0⟩) (fun _ h => h)) HAb.out.kat ?_)
    | (go_at_call 60; refine (rhand HRb.out (by first | exact HLN.out | (rw [List.length_set]; exact HLN.out)) HLL.out jt HJT.out o1 HO2.out M HMD.out ⟨7, (ji : Int), u.c, u.l, 0, 0⟩).mono ?_; rintro e wf ⟨g3, c3, rfl, hg3, hr3, b_⟩; have HF := Lib.hid (And.intro (Nat.le_trans HIb.out.bel.size hg3) (And.intro hr3 (HIb.out.bel.trans (b_.mono HIb.out.bel.size)))); clear b_ hg3 hr3))
  go_ret2
  exact ⟨g3, c3, rfl, HF.out.1, HF.out.2.1, HF.out.2.2⟩
set_option maxRecDepth 100000 in
set_option maxHeartbeats 2000000 in
theorem rin_ok62 (hr : RdO w A l) (hn : l.length = n) (hl : n ≤ 1000) (ji : Nat) (hji : ji < n) (u : Oj) (hu : l[ji]? = some u) (jt : Nat) (hjt : jt < n) (v : Oj) (hv : l[jt]? = some v) (x : Ky) (hxo : x.o = (jt : Int)) (md : Int) (m : Mg) (h : ¬ md < 1) (h2 : ¬ 3 < md) (hx : x.may n) (hm : m.d.length ≤ 32 ∧ mayS n m.k) (M : Mg) (hcn : ∀ W, Below w.heap.size w W → Calls Tryd.prog 57 #[.slice A n cap, m.val] W fun e w' => e = .returned M.val ∧ Below W.heap.size W w') (v1 : Int) (hs1 : ∀ W, Below w.heap.size w W → Calls Tryd.prog 29 #[.slice A n cap, .int .i64 (ji : Int)] W fun e w' => e = .returned (.int .i64 v1) ∧ Below W.heap.size W w') (hv1 : v1 = 1) (hc : ∀ W, Below w.heap.size w W → Calls Tryd.prog 58 #[.slice A n cap, x.val] W fun e w' => e = .returned (.bool true) ∧ Below W.heap.size W w') (v2 : Int) (hs2 : ∀ W, Below w.heap.size w W → Calls Tryd.prog 29 #[.slice A n cap, .int .i64 (jt : Int)] W fun e w' => e = .returned (.int .i64 v2) ∧ Below W.heap.size W w') (hv2 : ¬ v2 < 0) (hk : x.k = 6) (hv3 : v2 = 0) (hmd : md = 2) (M_d : M.d.length ≤ 32) (L1 : List Oj) (hL1 : L1.length = n) (o1 : Oj) (ho1 : L1[jt]? = some o1) (hbe : ∀ W, Below w.heap.size w W → Calls Tryd.prog 27 #[.slice A n cap, .int .i64 (ji : Int), .int .i64 1] W fun e w' => ∃ g c, e = .returned (.tuple #[.slice (some ⟨g, 0, none⟩) n c, .int .i64 0]) ∧ W.heap.size ≤ g ∧ RdO w' (some ⟨g, 0, none⟩) L1 ∧ Below W.heap.size W w') : Calls Tryd.prog 23 #[.slice A n cap, .int .i64 (ji : Int), x.val, .int .i64 md, m.val] w fun e w' => ∃ g c, e = .returned (.tuple #[.slice (some ⟨g, 0, none⟩) n c, .int .i64 0]) ∧ w.heap.size ≤ g ∧ RdO w' (some ⟨g, 0, none⟩) (L1.set jt (handO o1 M zk)) ∧ Below w.heap.size w w' := by
  subst hmd
  have h0 : 0 < n := by omega
  obtain ⟨b, off, rfl, hot⟩ := hr jt (by omega)
  obtain ⟨b', off', e, hou⟩ := hr ji (by omega)
  have e2 : b = b' ∧ off = off' := by simpa using e
  obtain ⟨rfl, rfl⟩ := e2
  clear e
  have hv' : l[jt] = v := by rw [List.getElem?_eq_getElem (by omega)] at hv; exact Option.some.inj hv
  have hu' : l[ji] = u := by rw [List.getElem?_eq_getElem (by omega)] at hu; exact Option.some.inj hu
  rw [hv'] at hot
  rw [hu'] at hou
  have HOT := Lib.hid hot
  have HOU := Lib.hid hou
  have HR := Lib.hid hr
  have HXO := Lib.hid hxo
  have HNN := Lib.hid hn
  have HLL := Lib.hid hl
  have HJT := Lib.hid hjt
  have i1 : (0 : Int) ≤ (jt : Int) := by omega
  have i2 : (jt : Int) < (n : Int) := by omega
  have i3 : (0 : Int) ≤ (ji : Int) := by omega
  have i4 : (ji : Int) < (n : Int) := by omega
  have HMX := Lib.hid hx
  have HMY := Lib.hid hm
  have HCN := Lib.hid hcn
  have HS1 := Lib.hid hs1
  have HC := Lib.hid hc
  have HS2 := Lib.hid hs2
  have hMl := M.len
  have M0 := Lib.hid True.intro
  have dv1 : (v1 != 1) = false := by simpa using hv1
  have dv2 : decide (v2 < 0) = false := decide_eq_false hv2
  have hml := m.len
  have dn : decide ((n : Int) = 0) = false := decide_eq_false (by omega)
  have dn' : ((n : Int) == 0) = false := by simp; omega
  have HI0 : Hid (Jri w ((w.alloc (.cells (kc x.k x.o x.c x.l x.r x.v) 33)).alloc (.cells m.cells.toArray 38)) x m) := Lib.hid ⟨((Below.refl w.heap.size w).alloc (Nat.le_refl _) (.cells (kc x.k x.o x.c x.l x.r x.v) 33)).alloc (by simp) (.cells m.cells.toArray 38), (Blk.new w 33 (kc x.k x.o x.c x.l x.r x.v)).alloc (.cells m.cells.toArray 38), Blk.new_of (w.alloc (.cells (kc x.k x.o x.c x.l x.r x.v) 33)) 38 m.cells.toArray (g := w.heap.size + 1) (by simp)⟩
  have HMD := Lib.hid M_d
  have HLN := Lib.hid hL1
  have HO1 := Lib.hid ho1
  have HBE := Lib.hid hbe
  have hz := z34
  have hzl := oz_len
  have hzk := kl_len zk
  have hol := o1.len
  have hFS : ∀ W, Below w.heap.size w W → W.cell? ⟨b, off + ji * 163 + 1, none⟩ = some (.int .i64 u.c) ∧ W.cell? ⟨b, off + ji * 163 + 2, none⟩ = some (.int .i64 u.l) := fun W hb => ⟨(HOU.out.below hb).cells.2.1, (HOU.out.below hb).cells.2.2⟩
  have HO2 : Hid (L1[jt]? = some o1) := Lib.hid ho1
  have dk6 : (x.k != 6) = false := by simpa using hk
  have dk6' : (x.k == 6) = true := by simpa using hk
  have dk7 : (x.k != 7) = true := by simp [hk]
  have dk7' : (x.k == 7) = false := by simp [hk]
  have dv3 : (v2 != 0) = false := by simpa using hv3
  clear h0 hot hou hu hv hu' hv' hr hxo hx hm hcn hs1 hc hs2 hv1 hv2 h h2 hk hv3 hbe ho1 M_d
  go_enter Tryd.func23, Tryd.ntmps23
  go_wp2_with (first
    | ((with_reducible show wpList _ _ _ (Oper.mk (some 28) (.load _ _) _ _ _ _ :: _) _ _); refine wpList_yields (S := fun w' => KeyAt w' (w.heap.size) 0 (x)) (y_kyJ (by rfl) (.tmp 7) (by rfl) (w.heap.size) 0 (by rfl) (x) (fun _ h => h)) HI0.out.key.kat ?_)
    | (go_at_call 55; refine (rmay_y n cap _ x HMX.out _).mono ?_; rintro e w1 ⟨rfl, b_⟩; have HI1 := Lib.hid (HI0.out.below b_); clear b_)
    | ((with_reducible show wpList _ _ _ (Oper.mk (some 34) (.load _ _) _ _ _ _ :: _) _ _); refine wpList_yields (S := fun w' => MgAt w' (w.heap.size + 1) 0 m) (y_mg (by rfl) (.tmp 9) (by rfl) (w.heap.size + 1) 0 (by rfl) m (fun _ h => h)) HI1.out.msg.mg ?_)
    | (go_at_call 56; refine (rmayM_y _ cap n m HMY.out).mono ?_; rintro e w2 ⟨rfl, b_⟩; have HI2 := Lib.hid (HI1.out.below b_); clear b_)
    | ((with_reducible show wpList _ _ _ (Oper.mk (some 40) (.load _ _) _ _ _ _ :: _) _ _); refine wpList_yields (S := fun w' => MgAt w' (w.heap.size + 1) 0 m) (y_mg (by rfl) (.tmp 9) (by rfl) (w.heap.size + 1) 0 (by rfl) m (fun _ h => h)) HI2.out.msg.mg ?_)
    | (go_at_call 57; refine (HCN.out _ HI2.out.bel).mono ?_; rintro e w3 ⟨rfl, b_⟩; have HI3 := Lib.hid (HI2.out.below b_); clear b_)
    | ((with_reducible show wpList _ _ _ (Oper.mk none (.store _ (.tmp 9) (.tmp 41)) _ _ _ _ :: _) _ _); refine wpList_store_big (l0 := m.cells) (l := M.cells) HI3.out.msg rfl (.tmp 9) (.tmp 41) (ty := 38) rfl (by rfl) (by rfl) (by rw [Mg.len]; exact sizeM) (by rw [Mg.len, Mg.len]) (Mg.one _) ?_; have HI4 := Lib.hid (HI3.out.setm M); generalize World.setRow _ (w.heap.size + 1) M.cells.toArray = w4 at HI4 ⊢)
    | (go_at_call 29; clear M0; refine (HS1.out _ HI4.out.bel).mono ?_; rintro e w5 ⟨rfl, b_⟩; have HI5 := Lib.hid (HI4.out.below b_); obtain ⟨k0, k1, k2, k3, k4, k5⟩ := HI5.out.key.six; rw [HXO.out] at k1; clear b_)
    | ((with_reducible show wpList _ _ _ (Oper.mk (some 50) (.load _ _) _ _ _ _ :: _) _ _); refine wpList_yields (S := fun w' => KeyAt w' (w.heap.size) 0 (x)) (y_kyJ (by rfl) (.tmp 7) (by rfl) (w.heap.size) 0 (by rfl) (x) (fun _ h => h)) HI5.out.key.kat ?_)
    | (go_at_call 58; refine (HC.out _ HI5.out.bel).mono ?_; rintro e w6 ⟨rfl, b_⟩; have HI6 := Lib.hid (HI5.out.below b_); clear k0  k1  k2  k3  k4  k5; obtain ⟨k0, k1, k2, k3, k4, k5⟩ := HI6.out.key.six; rw [HXO.out] at k1; clear b_)
    | (go_at_call 29; refine (HS2.out _ HI6.out.bel).mono ?_; rintro e w7 ⟨rfl, b_⟩; have HI7 := Lib.hid (HI6.out.below b_); clear k0  k1  k2  k3  k4  k5; obtain ⟨k0, k1, k2, k3, k4, k5⟩ := HI7.out.key.six; rw [HXO.out] at k1; have cv2 := (HOT.out.below HI7.out.bel).cells.2.2; have cu2 := (HOU.out.below HI7.out.bel).cells.2.2; clear b_)
    | ((with_reducible show wpList _ _ _ (Oper.mk (some 119) (.build _ _) _ _ _ _ :: _) _ _); refine wpList_yields (S := fun _ => True) (y_build (by rfl) (by rfl) built30) trivial ?_)
    | ((with_reducible show wpList _ _ _ (Oper.mk none (.store _ (.tmp 14) (.tmp 119)) _ _ _ _ :: _) _ _); refine wpList_store_new (l := kl zk) (l0 := kl zk) (ty := 33) rfl (.tmp 14) (.tmp 119) (by rfl) w7.heap.size rfl (by rfl) (by rfl) size30 rfl (kl_one _) ?_; have HG7 := Lib.hid (show w.heap.size + 2 ≤ w7.heap.size by have := HI7.out.msg.lt; omega); have HI8 := Lib.hid (HI7.out.below ((Below.refl _ _).alloc (Nat.le_refl _) (.cells (kl zk).toArray 33))); have HA8 := Lib.hid (Blk.new w7 33 (kl zk).toArray); generalize w7.alloc (.cells (kl zk).toArray 33) = w8 at HI8 HA8 ⊢; clear cv2 cu2 k0  k1  k2  k3  k4  k5; obtain ⟨k0, k1, k2, k3, k4, k5⟩ := HI8.out.key.six; rw [HXO.out] at k1)
    | (go_at_call 27; refine (HBE.out _ (HI8.out.bel.alloc HI8.out.bel.size (.cells #[.int .i64 0, .int .i64 2, .int .i64 1, .int .i64 0] 3))).mono ?_; rintro e wb ⟨g1, c1, rfl, hg, hr1, b_⟩; have HIb := Lib.hid ((HI8.out.below ((Below.refl _ _).alloc (Nat.le_refl _) (.cells #[.int .i64 0, .int .i64 2, .int .i64 1, .int .i64 0] 3))).below b_); have HAb := Lib.hid ((HA8.out.alloc (.cells #[.int .i64 0, .int .i64 2, .int .i64 1, .int .i64 0] 3)).keep b_); have HRb := Lib.hid hr1; clear b_ hg hr1 k0  k1  k2  k3  k4  k5; obtain ⟨k0, k1, k2, k3, k4, k5⟩ := HIb.out.key.six; rw [HXO.out] at k1)
    | ((with_reducible show wpList _ _ _ (Oper.mk (some 163) (.load _ _) _ _ _ _ :: _) _ _); refine wpList_yields (S := fun w' => MgAt w' (w.heap.size + 1) 0 M) (y_mg (by rfl) (.tmp 9) (by rfl) (w.heap.size + 1) 0 (by rfl) M (fun _ h => h)) HIb.out.msg.mg ?_)
    | ((with_reducible show wpList _ _ _ (Oper.mk (some 164) (.load _ _) _ _ _ _ :: _) _ _); refine wpList_yields (S := fun w' => KeyAt w' (w7.heap.size) 0 (zk)) (y_kyJ (by rfl) (.tmp 14) (by rfl) (w7.heap.size) 0 (by rfl) (zk) (fun _ h => h)) HAb.out.kat ?_)
    | (go_at_call 60; refine (rhand HRb.out (by first | exact HLN.out | (rw [List.length_set]; exact HLN.out)) HLL.out jt HJT.out o1 HO2.out M HMD.out zk).mono ?_; rintro e wf ⟨g3, c3, rfl, hg3, hr3, b_⟩; have HF := Lib.hid (And.intro (Nat.le_trans HIb.out.bel.size hg3) (And.intro hr3 (HIb.out.bel.trans (b_.mono HIb.out.bel.size)))); clear b_ hg3 hr3))
  go_ret2
  exact ⟨g3, c3, rfl, HF.out.1, HF.out.2.1, HF.out.2.2⟩
set_option maxRecDepth 100000 in
set_option maxHeartbeats 2000000 in
theorem rin_ok63 (hr : RdO w A l) (hn : l.length = n) (hl : n ≤ 1000) (ji : Nat) (hji : ji < n) (u : Oj) (hu : l[ji]? = some u) (jt : Nat) (hjt : jt < n) (v : Oj) (hv : l[jt]? = some v) (x : Ky) (hxo : x.o = (jt : Int)) (md : Int) (m : Mg) (h : ¬ md < 1) (h2 : ¬ 3 < md) (hx : x.may n) (hm : m.d.length ≤ 32 ∧ mayS n m.k) (M : Mg) (hcn : ∀ W, Below w.heap.size w W → Calls Tryd.prog 57 #[.slice A n cap, m.val] W fun e w' => e = .returned M.val ∧ Below W.heap.size W w') (v1 : Int) (hs1 : ∀ W, Below w.heap.size w W → Calls Tryd.prog 29 #[.slice A n cap, .int .i64 (ji : Int)] W fun e w' => e = .returned (.int .i64 v1) ∧ Below W.heap.size W w') (hv1 : v1 = 1) (hc : ∀ W, Below w.heap.size w W → Calls Tryd.prog 58 #[.slice A n cap, x.val] W fun e w' => e = .returned (.bool true) ∧ Below W.heap.size W w') (v2 : Int) (hs2 : ∀ W, Below w.heap.size w W → Calls Tryd.prog 29 #[.slice A n cap, .int .i64 (jt : Int)] W fun e w' => e = .returned (.int .i64 v2) ∧ Below W.heap.size W w') (hv2 : ¬ v2 < 0) (hk : x.k = 6) (hv3 : v2 = 0) (hmd : md = 3) (M_d : M.d.length ≤ 32) (L1 : List Oj) (hL1 : L1.length = n) (o1 : Oj) (ho1 : L1[jt]? = some o1) (hbe : ∀ W, Below w.heap.size w W → Calls Tryd.prog 27 #[.slice A n cap, .int .i64 (ji : Int), .int .i64 0] W fun e w' => ∃ g c, e = .returned (.tuple #[.slice (some ⟨g, 0, none⟩) n c, .int .i64 0]) ∧ W.heap.size ≤ g ∧ RdO w' (some ⟨g, 0, none⟩) L1 ∧ Below W.heap.size W w') : Calls Tryd.prog 23 #[.slice A n cap, .int .i64 (ji : Int), x.val, .int .i64 md, m.val] w fun e w' => ∃ g c, e = .returned (.tuple #[.slice (some ⟨g, 0, none⟩) n c, .int .i64 0]) ∧ w.heap.size ≤ g ∧ RdO w' (some ⟨g, 0, none⟩) (L1.set jt (handO o1 M zk)) ∧ Below w.heap.size w w' := by
  subst hmd
  have h0 : 0 < n := by omega
  obtain ⟨b, off, rfl, hot⟩ := hr jt (by omega)
  obtain ⟨b', off', e, hou⟩ := hr ji (by omega)
  have e2 : b = b' ∧ off = off' := by simpa using e
  obtain ⟨rfl, rfl⟩ := e2
  clear e
  have hv' : l[jt] = v := by rw [List.getElem?_eq_getElem (by omega)] at hv; exact Option.some.inj hv
  have hu' : l[ji] = u := by rw [List.getElem?_eq_getElem (by omega)] at hu; exact Option.some.inj hu
  rw [hv'] at hot
  rw [hu'] at hou
  have HOT := Lib.hid hot
  have HOU := Lib.hid hou
  have HR := Lib.hid hr
  have HXO := Lib.hid hxo
  have HNN := Lib.hid hn
  have HLL := Lib.hid hl
  have HJT := Lib.hid hjt
  have i1 : (0 : Int) ≤ (jt : Int) := by omega
  have i2 : (jt : Int) < (n : Int) := by omega
  have i3 : (0 : Int) ≤ (ji : Int) := by omega
  have i4 : (ji : Int) < (n : Int) := by omega
  have HMX := Lib.hid hx
  have HMY := Lib.hid hm
  have HCN := Lib.hid hcn
  have HS1 := Lib.hid hs1
  have HC := Lib.hid hc
  have HS2 := Lib.hid hs2
  have hMl := M.len
  have M0 := Lib.hid True.intro
  have dv1 : (v1 != 1) = false := by simpa using hv1
  have dv2 : decide (v2 < 0) = false := decide_eq_false hv2
  have hml := m.len
  have dn : decide ((n : Int) = 0) = false := decide_eq_false (by omega)
  have dn' : ((n : Int) == 0) = false := by simp; omega
  have HI0 : Hid (Jri w ((w.alloc (.cells (kc x.k x.o x.c x.l x.r x.v) 33)).alloc (.cells m.cells.toArray 38)) x m) := Lib.hid ⟨((Below.refl w.heap.size w).alloc (Nat.le_refl _) (.cells (kc x.k x.o x.c x.l x.r x.v) 33)).alloc (by simp) (.cells m.cells.toArray 38), (Blk.new w 33 (kc x.k x.o x.c x.l x.r x.v)).alloc (.cells m.cells.toArray 38), Blk.new_of (w.alloc (.cells (kc x.k x.o x.c x.l x.r x.v) 33)) 38 m.cells.toArray (g := w.heap.size + 1) (by simp)⟩
  have HMD := Lib.hid M_d
  have HLN := Lib.hid hL1
  have HO1 := Lib.hid ho1
  have HBE := Lib.hid hbe
  have hz := z34
  have hzl := oz_len
  have hzk := kl_len zk
  have hol := o1.len
  have hFS : ∀ W, Below w.heap.size w W → W.cell? ⟨b, off + ji * 163 + 1, none⟩ = some (.int .i64 u.c) ∧ W.cell? ⟨b, off + ji * 163 + 2, none⟩ = some (.int .i64 u.l) := fun W hb => ⟨(HOU.out.below hb).cells.2.1, (HOU.out.below hb).cells.2.2⟩
  have HO2 : Hid (L1[jt]? = some o1) := Lib.hid ho1
  have dk6 : (x.k != 6) = false := by simpa using hk
  have dk6' : (x.k == 6) = true := by simpa using hk
  have dk7 : (x.k != 7) = true := by simp [hk]
  have dk7' : (x.k == 7) = false := by simp [hk]
  have dv3 : (v2 != 0) = false := by simpa using hv3
  clear h0 hot hou hu hv hu' hv' hr hxo hx hm hcn hs1 hc hs2 hv1 hv2 h h2 hk hv3 hbe ho1 M_d
  go_enter Tryd.func23, Tryd.ntmps23
  go_wp2_with (first
    | ((with_reducible show wpList _ _ _ (Oper.mk (some 28) (.load _ _) _ _ _ _ :: _) _ _); refine wpList_yields (S := fun w' => KeyAt w' (w.heap.size) 0 (x)) (y_kyJ (by rfl) (.tmp 7) (by rfl) (w.heap.size) 0 (by rfl) (x) (fun _ h => h)) HI0.out.key.kat ?_)
    | (go_at_call 55; refine (rmay_y n cap _ x HMX.out _).mono ?_; rintro e w1 ⟨rfl, b_⟩; have HI1 := Lib.hid (HI0.out.below b_); clear b_)
    | ((with_reducible show wpList _ _ _ (Oper.mk (some 34) (.load _ _) _ _ _ _ :: _) _ _); refine wpList_yields (S := fun w' => MgAt w' (w.heap.size + 1) 0 m) (y_mg (by rfl) (.tmp 9) (by rfl) (w.heap.size + 1) 0 (by rfl) m (fun _ h => h)) HI1.out.msg.mg ?_)
    | (go_at_call 56; refine (rmayM_y _ cap n m HMY.out).mono ?_; rintro e w2 ⟨rfl, b_⟩; have HI2 := Lib.hid (HI1.out.below b_); clear b_)
    | ((with_reducible show wpList _ _ _ (Oper.mk (some 40) (.load _ _) _ _ _ _ :: _) _ _); refine wpList_yields (S := fun w' => MgAt w' (w.heap.size + 1) 0 m) (y_mg (by rfl) (.tmp 9) (by rfl) (w.heap.size + 1) 0 (by rfl) m (fun _ h => h)) HI2.out.msg.mg ?_)
    | (go_at_call 57; refine (HCN.out _ HI2.out.bel).mono ?_; rintro e w3 ⟨rfl, b_⟩; have HI3 := Lib.hid (HI2.out.below b_); clear b_)
    | ((with_reducible show wpList _ _ _ (Oper.mk none (.store _ (.tmp 9) (.tmp 41)) _ _ _ _ :: _) _ _); refine wpList_store_big (l0 := m.cells) (l := M.cells) HI3.out.msg rfl (.tmp 9) (.tmp 41) (ty := 38) rfl (by rfl) (by rfl) (by rw [Mg.len]; exact sizeM) (by rw [Mg.len, Mg.len]) (Mg.one _) ?_; have HI4 := Lib.hid (HI3.out.setm M); generalize World.setRow _ (w.heap.size + 1) M.cells.toArray = w4 at HI4 ⊢)
    | (go_at_call 29; clear M0; refine (HS1.out _ HI4.out.bel).mono ?_; rintro e w5 ⟨rfl, b_⟩; have HI5 := Lib.hid (HI4.out.below b_); obtain ⟨k0, k1, k2, k3, k4, k5⟩ := HI5.out.key.six; rw [HXO.out] at k1; clear b_)
    | ((with_reducible show wpList _ _ _ (Oper.mk (some 50) (.load _ _) _ _ _ _ :: _) _ _); refine wpList_yields (S := fun w' => KeyAt w' (w.heap.size) 0 (x)) (y_kyJ (by rfl) (.tmp 7) (by rfl) (w.heap.size) 0 (by rfl) (x) (fun _ h => h)) HI5.out.key.kat ?_)
    | (go_at_call 58; refine (HC.out _ HI5.out.bel).mono ?_; rintro e w6 ⟨rfl, b_⟩; have HI6 := Lib.hid (HI5.out.below b_); clear k0  k1  k2  k3  k4  k5; obtain ⟨k0, k1, k2, k3, k4, k5⟩ := HI6.out.key.six; rw [HXO.out] at k1; clear b_)
    | (go_at_call 29; refine (HS2.out _ HI6.out.bel).mono ?_; rintro e w7 ⟨rfl, b_⟩; have HI7 := Lib.hid (HI6.out.below b_); clear k0  k1  k2  k3  k4  k5; obtain ⟨k0, k1, k2, k3, k4, k5⟩ := HI7.out.key.six; rw [HXO.out] at k1; have cv2 := (HOT.out.below HI7.out.bel).cells.2.2; have cu2 := (HOU.out.below HI7.out.bel).cells.2.2; clear b_)
    | ((with_reducible show wpList _ _ _ (Oper.mk (some 119) (.build _ _) _ _ _ _ :: _) _ _); refine wpList_yields (S := fun _ => True) (y_build (by rfl) (by rfl) built30) trivial ?_)
    | ((with_reducible show wpList _ _ _ (Oper.mk none (.store _ (.tmp 14) (.tmp 119)) _ _ _ _ :: _) _ _); refine wpList_store_new (l := kl zk) (l0 := kl zk) (ty := 33) rfl (.tmp 14) (.tmp 119) (by rfl) w7.heap.size rfl (by rfl) (by rfl) size30 rfl (kl_one _) ?_; have HG7 := Lib.hid (show w.heap.size + 2 ≤ w7.heap.size by have := HI7.out.msg.lt; omega); have HI8 := Lib.hid (HI7.out.below ((Below.refl _ _).alloc (Nat.le_refl _) (.cells (kl zk).toArray 33))); have HA8 := Lib.hid (Blk.new w7 33 (kl zk).toArray); generalize w7.alloc (.cells (kl zk).toArray 33) = w8 at HI8 HA8 ⊢; clear cv2 cu2 k0  k1  k2  k3  k4  k5; obtain ⟨k0, k1, k2, k3, k4, k5⟩ := HI8.out.key.six; rw [HXO.out] at k1)
    | (go_at_call 27; refine (HBE.out _ (HI8.out.bel.alloc HI8.out.bel.size (.cells #[.int .i64 0, .int .i64 2, .int .i64 1, .int .i64 0] 3))).mono ?_; rintro e wb ⟨g1, c1, rfl, hg, hr1, b_⟩; have HIb := Lib.hid ((HI8.out.below ((Below.refl _ _).alloc (Nat.le_refl _) (.cells #[.int .i64 0, .int .i64 2, .int .i64 1, .int .i64 0] 3))).below b_); have HAb := Lib.hid ((HA8.out.alloc (.cells #[.int .i64 0, .int .i64 2, .int .i64 1, .int .i64 0] 3)).keep b_); have HRb := Lib.hid hr1; clear b_ hg hr1 k0  k1  k2  k3  k4  k5; obtain ⟨k0, k1, k2, k3, k4, k5⟩ := HIb.out.key.six; rw [HXO.out] at k1)
    | ((with_reducible show wpList _ _ _ (Oper.mk (some 163) (.load _ _) _ _ _ _ :: _) _ _); refine wpList_yields (S := fun w' => MgAt w' (w.heap.size + 1) 0 M) (y_mg (by rfl) (.tmp 9) (by rfl) (w.heap.size + 1) 0 (by rfl) M (fun _ h => h)) HIb.out.msg.mg ?_)
    | ((with_reducible show wpList _ _ _ (Oper.mk (some 164) (.load _ _) _ _ _ _ :: _) _ _); refine wpList_yields (S := fun w' => KeyAt w' (w7.heap.size) 0 (zk)) (y_kyJ (by rfl) (.tmp 14) (by rfl) (w7.heap.size) 0 (by rfl) (zk) (fun _ h => h)) HAb.out.kat ?_)
    | (go_at_call 60; refine (rhand HRb.out (by first | exact HLN.out | (rw [List.length_set]; exact HLN.out)) HLL.out jt HJT.out o1 HO2.out M HMD.out zk).mono ?_; rintro e wf ⟨g3, c3, rfl, hg3, hr3, b_⟩; have HF := Lib.hid (And.intro (Nat.le_trans HIb.out.bel.size hg3) (And.intro hr3 (HIb.out.bel.trans (b_.mono HIb.out.bel.size)))); clear b_ hg3 hr3))
  go_ret2
  exact ⟨g3, c3, rfl, HF.out.1, HF.out.2.1, HF.out.2.2⟩
set_option maxRecDepth 100000 in
set_option maxHeartbeats 2000000 in
theorem rin_ok6s (hr : RdO w A l) (hn : l.length = n) (hl : n ≤ 1000) (ji : Nat) (_ : ji < n) (u : Oj) (hu : l[ji]? = some u) (jt : Nat) (hjt : jt < n) (v : Oj) (hv : l[jt]? = some v) (x : Ky) (hxo : x.o = (jt : Int)) (md : Int) (m : Mg) (h : ¬ md < 1) (h2 : ¬ 3 < md) (hx : x.may n) (hm : m.d.length ≤ 32 ∧ mayS n m.k) (M : Mg) (hcn : ∀ W, Below w.heap.size w W → Calls Tryd.prog 57 #[.slice A n cap, m.val] W fun e w' => e = .returned M.val ∧ Below W.heap.size W w') (v1 : Int) (hs1 : ∀ W, Below w.heap.size w W → Calls Tryd.prog 29 #[.slice A n cap, .int .i64 (ji : Int)] W fun e w' => e = .returned (.int .i64 v1) ∧ Below W.heap.size W w') (hv1 : v1 = 1) (hc : ∀ W, Below w.heap.size w W → Calls Tryd.prog 58 #[.slice A n cap, x.val] W fun e w' => e = .returned (.bool true) ∧ Below W.heap.size W w') (v2 : Int) (hs2 : ∀ W, Below w.heap.size w W → Calls Tryd.prog 29 #[.slice A n cap, .int .i64 (jt : Int)] W fun e w' => e = .returned (.int .i64 v2) ∧ Below W.heap.size W w') (hv2 : ¬ v2 < 0) (hk : x.k = 6) (hv3 : v2 ≠ 0) (hxi : jt = ji) (hmd : md = 3) (M_d : M.d.length ≤ 32) (L1 : List Oj) (hL1 : L1.length = n) (o1 : Oj) (ho1 : L1[jt]? = some o1) (hbe : ∀ W, Below w.heap.size w W → Calls Tryd.prog 27 #[.slice A n cap, .int .i64 (ji : Int), .int .i64 0] W fun e w' => ∃ g c, e = .returned (.tuple #[.slice (some ⟨g, 0, none⟩) n c, .int .i64 0]) ∧ W.heap.size ≤ g ∧ RdO w' (some ⟨g, 0, none⟩) L1 ∧ Below W.heap.size W w') : Calls Tryd.prog 23 #[.slice A n cap, .int .i64 (ji : Int), x.val, .int .i64 md, m.val] w fun e w' => ∃ g c, e = .returned (.tuple #[.slice (some ⟨g, 0, none⟩) n c, .int .i64 0]) ∧ w.heap.size ≤ g ∧ RdO w' (some ⟨g, 0, none⟩) (L1.set jt (handO o1 M zk)) ∧ Below w.heap.size w w' := by
  subst hmd
  have h0 : 0 < n := by omega
  obtain ⟨b, off, rfl, hot⟩ := hr jt (by omega)
  obtain ⟨b', off', e, hou⟩ := hr ji (by omega)
  have e2 : b = b' ∧ off = off' := by simpa using e
  obtain ⟨rfl, rfl⟩ := e2
  clear e
  have hv' : l[jt] = v := by rw [List.getElem?_eq_getElem (by omega)] at hv; exact Option.some.inj hv
  have hu' : l[ji] = u := by rw [List.getElem?_eq_getElem (by omega)] at hu; exact Option.some.inj hu
  rw [hv'] at hot
  rw [hu'] at hou
  have HOT := Lib.hid hot
  have HOU := Lib.hid hou
  have HR := Lib.hid hr
  have HXO := Lib.hid hxo
  have HNN := Lib.hid hn
  have HLL := Lib.hid hl
  have HJT := Lib.hid hjt
  have i1 : (0 : Int) ≤ (jt : Int) := by omega
  have i2 : (jt : Int) < (n : Int) := by omega
  have i3 : (0 : Int) ≤ (ji : Int) := by omega
  have i4 : (ji : Int) < (n : Int) := by omega
  have HMX := Lib.hid hx
  have HMY := Lib.hid hm
  have HCN := Lib.hid hcn
  have HS1 := Lib.hid hs1
  have HC := Lib.hid hc
  have HS2 := Lib.hid hs2
  have hMl := M.len
  have M0 := Lib.hid True.intro
  have dv1 : (v1 != 1) = false := by simpa using hv1
  have dv2 : decide (v2 < 0) = false := decide_eq_false hv2
  have hml := m.len
  have dn : decide ((n : Int) = 0) = false := decide_eq_false (by omega)
  have dn' : ((n : Int) == 0) = false := by simp; omega
  have HI0 : Hid (Jri w ((w.alloc (.cells (kc x.k x.o x.c x.l x.r x.v) 33)).alloc (.cells m.cells.toArray 38)) x m) := Lib.hid ⟨((Below.refl w.heap.size w).alloc (Nat.le_refl _) (.cells (kc x.k x.o x.c x.l x.r x.v) 33)).alloc (by simp) (.cells m.cells.toArray 38), (Blk.new w 33 (kc x.k x.o x.c x.l x.r x.v)).alloc (.cells m.cells.toArray 38), Blk.new_of (w.alloc (.cells (kc x.k x.o x.c x.l x.r x.v) 33)) 38 m.cells.toArray (g := w.heap.size + 1) (by simp)⟩
  have HMD := Lib.hid M_d
  have HLN := Lib.hid hL1
  have HO1 := Lib.hid ho1
  have HBE := Lib.hid hbe
  have hz := z34
  have hzl := oz_len
  have hzk := kl_len zk
  have hol := o1.len
  have hFS : ∀ W, Below w.heap.size w W → W.cell? ⟨b, off + ji * 163 + 1, none⟩ = some (.int .i64 u.c) ∧ W.cell? ⟨b, off + ji * 163 + 2, none⟩ = some (.int .i64 u.l) := fun W hb => ⟨(HOU.out.below hb).cells.2.1, (HOU.out.below hb).cells.2.2⟩
  have HO2 : Hid (L1[jt]? = some o1) := Lib.hid ho1
  have dk6 : (x.k != 6) = false := by simpa using hk
  have dk6' : (x.k == 6) = true := by simpa using hk
  have dk7 : (x.k != 7) = true := by simp [hk]
  have dk7' : (x.k == 7) = false := by simp [hk]
  have dv3 : (v2 != 0) = true := by simpa using hv3
  have dxi : ((jt : Int) == (ji : Int)) = true := by simp [hxi]
  clear h0 hot hou hu hv hu' hv' hr hxo hx hm hcn hs1 hc hs2 hv1 hv2 h h2 hk hv3 hxi hbe ho1 M_d
  go_enter Tryd.func23, Tryd.ntmps23
  go_wp2_with (first
    | ((with_reducible show wpList _ _ _ (Oper.mk (some 28) (.load _ _) _ _ _ _ :: _) _ _); refine wpList_yields (S := fun w' => KeyAt w' (w.heap.size) 0 (x)) (y_kyJ (by rfl) (.tmp 7) (by rfl) (w.heap.size) 0 (by rfl) (x) (fun _ h => h)) HI0.out.key.kat ?_)
    | (go_at_call 55; refine (rmay_y n cap _ x HMX.out _).mono ?_; rintro e w1 ⟨rfl, b_⟩; have HI1 := Lib.hid (HI0.out.below b_); clear b_)
    | ((with_reducible show wpList _ _ _ (Oper.mk (some 34) (.load _ _) _ _ _ _ :: _) _ _); refine wpList_yields (S := fun w' => MgAt w' (w.heap.size + 1) 0 m) (y_mg (by rfl) (.tmp 9) (by rfl) (w.heap.size + 1) 0 (by rfl) m (fun _ h => h)) HI1.out.msg.mg ?_)
    | (go_at_call 56; refine (rmayM_y _ cap n m HMY.out).mono ?_; rintro e w2 ⟨rfl, b_⟩; have HI2 := Lib.hid (HI1.out.below b_); clear b_)
    | ((with_reducible show wpList _ _ _ (Oper.mk (some 40) (.load _ _) _ _ _ _ :: _) _ _); refine wpList_yields (S := fun w' => MgAt w' (w.heap.size + 1) 0 m) (y_mg (by rfl) (.tmp 9) (by rfl) (w.heap.size + 1) 0 (by rfl) m (fun _ h => h)) HI2.out.msg.mg ?_)
    | (go_at_call 57; refine (HCN.out _ HI2.out.bel).mono ?_; rintro e w3 ⟨rfl, b_⟩; have HI3 := Lib.hid (HI2.out.below b_); clear b_)
    | ((with_reducible show wpList _ _ _ (Oper.mk none (.store _ (.tmp 9) (.tmp 41)) _ _ _ _ :: _) _ _); refine wpList_store_big (l0 := m.cells) (l := M.cells) HI3.out.msg rfl (.tmp 9) (.tmp 41) (ty := 38) rfl (by rfl) (by rfl) (by rw [Mg.len]; exact sizeM) (by rw [Mg.len, Mg.len]) (Mg.one _) ?_; have HI4 := Lib.hid (HI3.out.setm M); generalize World.setRow _ (w.heap.size + 1) M.cells.toArray = w4 at HI4 ⊢)
    | (go_at_call 29; clear M0; refine (HS1.out _ HI4.out.bel).mono ?_; rintro e w5 ⟨rfl, b_⟩; have HI5 := Lib.hid (HI4.out.below b_); obtain ⟨k0, k1, k2, k3, k4, k5⟩ := HI5.out.key.six; rw [HXO.out] at k1; clear b_)
    | ((with_reducible show wpList _ _ _ (Oper.mk (some 50) (.load _ _) _ _ _ _ :: _) _ _); refine wpList_yields (S := fun w' => KeyAt w' (w.heap.size) 0 (x)) (y_kyJ (by rfl) (.tmp 7) (by rfl) (w.heap.size) 0 (by rfl) (x) (fun _ h => h)) HI5.out.key.kat ?_)
    | (go_at_call 58; refine (HC.out _ HI5.out.bel).mono ?_; rintro e w6 ⟨rfl, b_⟩; have HI6 := Lib.hid (HI5.out.below b_); clear k0  k1  k2  k3  k4  k5; obtain ⟨k0, k1, k2, k3, k4, k5⟩ := HI6.out.key.six; rw [HXO.out] at k1; clear b_)
    | (go_at_call 29; refine (HS2.out _ HI6.out.bel).mono ?_; rintro e w7 ⟨rfl, b_⟩; have HI7 := Lib.hid (HI6.out.below b_); clear k0  k1  k2  k3  k4  k5; obtain ⟨k0, k1, k2, k3, k4, k5⟩ := HI7.out.key.six; rw [HXO.out] at k1; have cv2 := (HOT.out.below HI7.out.bel).cells.2.2; have cu2 := (HOU.out.below HI7.out.bel).cells.2.2; clear b_)
    | ((with_reducible show wpList _ _ _ (Oper.mk (some 119) (.build _ _) _ _ _ _ :: _) _ _); refine wpList_yields (S := fun _ => True) (y_build (by rfl) (by rfl) built30) trivial ?_)
    | ((with_reducible show wpList _ _ _ (Oper.mk none (.store _ (.tmp 14) (.tmp 119)) _ _ _ _ :: _) _ _); refine wpList_store_new (l := kl zk) (l0 := kl zk) (ty := 33) rfl (.tmp 14) (.tmp 119) (by rfl) w7.heap.size rfl (by rfl) (by rfl) size30 rfl (kl_one _) ?_; have HG7 := Lib.hid (show w.heap.size + 2 ≤ w7.heap.size by have := HI7.out.msg.lt; omega); have HI8 := Lib.hid (HI7.out.below ((Below.refl _ _).alloc (Nat.le_refl _) (.cells (kl zk).toArray 33))); have HA8 := Lib.hid (Blk.new w7 33 (kl zk).toArray); generalize w7.alloc (.cells (kl zk).toArray 33) = w8 at HI8 HA8 ⊢; clear cv2 cu2 k0  k1  k2  k3  k4  k5; obtain ⟨k0, k1, k2, k3, k4, k5⟩ := HI8.out.key.six; rw [HXO.out] at k1)
    | (go_at_call 27; refine (HBE.out _ (HI8.out.bel.alloc HI8.out.bel.size (.cells #[.int .i64 0, .int .i64 2, .int .i64 1, .int .i64 0] 3))).mono ?_; rintro e wb ⟨g1, c1, rfl, hg, hr1, b_⟩; have HIb := Lib.hid ((HI8.out.below ((Below.refl _ _).alloc (Nat.le_refl _) (.cells #[.int .i64 0, .int .i64 2, .int .i64 1, .int .i64 0] 3))).below b_); have HAb := Lib.hid ((HA8.out.alloc (.cells #[.int .i64 0, .int .i64 2, .int .i64 1, .int .i64 0] 3)).keep b_); have HRb := Lib.hid hr1; clear b_ hg hr1 k0  k1  k2  k3  k4  k5; obtain ⟨k0, k1, k2, k3, k4, k5⟩ := HIb.out.key.six; rw [HXO.out] at k1)
    | ((with_reducible show wpList _ _ _ (Oper.mk (some 163) (.load _ _) _ _ _ _ :: _) _ _); refine wpList_yields (S := fun w' => MgAt w' (w.heap.size + 1) 0 M) (y_mg (by rfl) (.tmp 9) (by rfl) (w.heap.size + 1) 0 (by rfl) M (fun _ h => h)) HIb.out.msg.mg ?_)
    | ((with_reducible show wpList _ _ _ (Oper.mk (some 164) (.load _ _) _ _ _ _ :: _) _ _); refine wpList_yields (S := fun w' => KeyAt w' (w7.heap.size) 0 (zk)) (y_kyJ (by rfl) (.tmp 14) (by rfl) (w7.heap.size) 0 (by rfl) (zk) (fun _ h => h)) HAb.out.kat ?_)
    | (go_at_call 60; refine (rhand HRb.out (by first | exact HLN.out | (rw [List.length_set]; exact HLN.out)) HLL.out jt HJT.out o1 HO2.out M HMD.out zk).mono ?_; rintro e wf ⟨g3, c3, rfl, hg3, hr3, b_⟩; have HF := Lib.hid (And.intro (Nat.le_trans HIb.out.bel.size hg3) (And.intro hr3 (HIb.out.bel.trans (b_.mono HIb.out.bel.size)))); clear b_ hg3 hr3))
  go_ret2
  exact ⟨g3, c3, rfl, HF.out.1, HF.out.2.1, HF.out.2.2⟩
set_option maxRecDepth 100000 in
set_option maxHeartbeats 2000000 in
theorem rin_ok71 (hr : RdO w A l) (hn : l.length = n) (hl : n ≤ 1000) (ji : Nat) (hji : ji < n) (u : Oj) (hu : l[ji]? = some u) (jt : Nat) (hjt : jt < n) (v : Oj) (hv : l[jt]? = some v) (x : Ky) (hxo : x.o = (jt : Int)) (md : Int) (m : Mg) (h : ¬ md < 1) (h2 : ¬ 3 < md) (hx : x.may n) (hm : m.d.length ≤ 32 ∧ mayS n m.k) (M : Mg) (hcn : ∀ W, Below w.heap.size w W → Calls Tryd.prog 57 #[.slice A n cap, m.val] W fun e w' => e = .returned M.val ∧ Below W.heap.size W w') (v1 : Int) (hs1 : ∀ W, Below w.heap.size w W → Calls Tryd.prog 29 #[.slice A n cap, .int .i64 (ji : Int)] W fun e w' => e = .returned (.int .i64 v1) ∧ Below W.heap.size W w') (hv1 : v1 = 1) (hc : ∀ W, Below w.heap.size w W → Calls Tryd.prog 58 #[.slice A n cap, x.val] W fun e w' => e = .returned (.bool true) ∧ Below W.heap.size W w') (v2 : Int) (hs2 : ∀ W, Below w.heap.size w W → Calls Tryd.prog 29 #[.slice A n cap, .int .i64 (jt : Int)] W fun e w' => e = .returned (.int .i64 v2) ∧ Below W.heap.size W w') (hv2 : ¬ v2 < 0) (hk : x.k = 7) (hv3 : v2 = 2) (hlv : ¬ 4294967295 ≤ v.l) (hlu : ¬ 4294967295 ≤ u.l) (hmd : md = 1) (M_d : M.d.length ≤ 32) (L1 : List Oj) (hL1 : L1.length = n) (o1 : Oj) (ho1 : L1[jt]? = some o1) (hbe : ∀ W, Below w.heap.size w W → Calls Tryd.prog 27 #[.slice A n cap, .int .i64 (ji : Int), .int .i64 2] W fun e w' => ∃ g c, e = .returned (.tuple #[.slice (some ⟨g, 0, none⟩) n c, .int .i64 0]) ∧ W.heap.size ≤ g ∧ RdO w' (some ⟨g, 0, none⟩) L1 ∧ Below W.heap.size W w') (hwc : IntKind.i64.wrap (o1.l + 1) = o1.l + 1) : Calls Tryd.prog 23 #[.slice A n cap, .int .i64 (ji : Int), x.val, .int .i64 md, m.val] w fun e w' => ∃ g c, e = .returned (.tuple #[.slice (some ⟨g, 0, none⟩) n c, .int .i64 0]) ∧ w.heap.size ≤ g ∧ RdO w' (some ⟨g, 0, none⟩) ((L1.set jt (callsAs o1 (o1.l + 1))).set jt (handO (callsAs o1 (o1.l + 1)) M ⟨7, (ji : Int), u.c, u.l, 0, 0⟩)) ∧ Below w.heap.size w w' := by
  subst hmd
  have h0 : 0 < n := by omega
  obtain ⟨b, off, rfl, hot⟩ := hr jt (by omega)
  obtain ⟨b', off', e, hou⟩ := hr ji (by omega)
  have e2 : b = b' ∧ off = off' := by simpa using e
  obtain ⟨rfl, rfl⟩ := e2
  clear e
  have hv' : l[jt] = v := by rw [List.getElem?_eq_getElem (by omega)] at hv; exact Option.some.inj hv
  have hu' : l[ji] = u := by rw [List.getElem?_eq_getElem (by omega)] at hu; exact Option.some.inj hu
  rw [hv'] at hot
  rw [hu'] at hou
  have HOT := Lib.hid hot
  have HOU := Lib.hid hou
  have HR := Lib.hid hr
  have HXO := Lib.hid hxo
  have HNN := Lib.hid hn
  have HLL := Lib.hid hl
  have HJT := Lib.hid hjt
  have i1 : (0 : Int) ≤ (jt : Int) := by omega
  have i2 : (jt : Int) < (n : Int) := by omega
  have i3 : (0 : Int) ≤ (ji : Int) := by omega
  have i4 : (ji : Int) < (n : Int) := by omega
  have HMX := Lib.hid hx
  have HMY := Lib.hid hm
  have HCN := Lib.hid hcn
  have HS1 := Lib.hid hs1
  have HC := Lib.hid hc
  have HS2 := Lib.hid hs2
  have hMl := M.len
  have M0 := Lib.hid True.intro
  have dv1 : (v1 != 1) = false := by simpa using hv1
  have dv2 : decide (v2 < 0) = false := decide_eq_false hv2
  have hml := m.len
  have dn : decide ((n : Int) = 0) = false := decide_eq_false (by omega)
  have dn' : ((n : Int) == 0) = false := by simp; omega
  have HI0 : Hid (Jri w ((w.alloc (.cells (kc x.k x.o x.c x.l x.r x.v) 33)).alloc (.cells m.cells.toArray 38)) x m) := Lib.hid ⟨((Below.refl w.heap.size w).alloc (Nat.le_refl _) (.cells (kc x.k x.o x.c x.l x.r x.v) 33)).alloc (by simp) (.cells m.cells.toArray 38), (Blk.new w 33 (kc x.k x.o x.c x.l x.r x.v)).alloc (.cells m.cells.toArray 38), Blk.new_of (w.alloc (.cells (kc x.k x.o x.c x.l x.r x.v) 33)) 38 m.cells.toArray (g := w.heap.size + 1) (by simp)⟩
  have HMD := Lib.hid M_d
  have HLN := Lib.hid hL1
  have HO1 := Lib.hid ho1
  have HBE := Lib.hid hbe
  have hz := z34
  have hzl := oz_len
  have hzk := kl_len zk
  have hol := o1.len
  have hFS : ∀ W, Below w.heap.size w W → W.cell? ⟨b, off + ji * 163 + 1, none⟩ = some (.int .i64 u.c) ∧ W.cell? ⟨b, off + ji * 163 + 2, none⟩ = some (.int .i64 u.l) := fun W hb => ⟨(HOU.out.below hb).cells.2.1, (HOU.out.below hb).cells.2.2⟩
  have HO2 : Hid ((L1.set jt (callsAs o1 (o1.l + 1)))[jt]? = some (callsAs o1 (o1.l + 1))) := Lib.hid (by rw [List.getElem?_set_self (by omega)])
  have dk6 : (x.k != 6) = true := by simp [hk]
  have dk6' : (x.k == 6) = false := by simp [hk]
  have dk7 : (x.k != 7) = false := by simpa using hk
  have dk7' : (x.k == 7) = true := by simpa using hk
  have dv3 : (v2 != 2) = false := by simpa using hv3
  have dl7 : decide (4294967295 ≤ v.l) = false := decide_eq_false hlv
  have dlu : decide (4294967295 ≤ u.l) = false := decide_eq_false hlu
  clear h0 hot hou hu hv hu' hv' hr hxo hx hm hcn hs1 hc hs2 hv1 hv2 h h2 hk hv3 hlv hlu hbe ho1 M_d
  go_enter Tryd.func23, Tryd.ntmps23
  go_wp2_with (first
    | ((with_reducible show wpList _ _ _ (Oper.mk (some 28) (.load _ _) _ _ _ _ :: _) _ _); refine wpList_yields (S := fun w' => KeyAt w' (w.heap.size) 0 (x)) (y_kyJ (by rfl) (.tmp 7) (by rfl) (w.heap.size) 0 (by rfl) (x) (fun _ h => h)) HI0.out.key.kat ?_)
    | (go_at_call 55; refine (rmay_y n cap _ x HMX.out _).mono ?_; rintro e w1 ⟨rfl, b_⟩; have HI1 := Lib.hid (HI0.out.below b_); clear b_)
    | ((with_reducible show wpList _ _ _ (Oper.mk (some 34) (.load _ _) _ _ _ _ :: _) _ _); refine wpList_yields (S := fun w' => MgAt w' (w.heap.size + 1) 0 m) (y_mg (by rfl) (.tmp 9) (by rfl) (w.heap.size + 1) 0 (by rfl) m (fun _ h => h)) HI1.out.msg.mg ?_)
    | (go_at_call 56; refine (rmayM_y _ cap n m HMY.out).mono ?_; rintro e w2 ⟨rfl, b_⟩; have HI2 := Lib.hid (HI1.out.below b_); clear b_)
    | ((with_reducible show wpList _ _ _ (Oper.mk (some 40) (.load _ _) _ _ _ _ :: _) _ _); refine wpList_yields (S := fun w' => MgAt w' (w.heap.size + 1) 0 m) (y_mg (by rfl) (.tmp 9) (by rfl) (w.heap.size + 1) 0 (by rfl) m (fun _ h => h)) HI2.out.msg.mg ?_)
    | (go_at_call 57; refine (HCN.out _ HI2.out.bel).mono ?_; rintro e w3 ⟨rfl, b_⟩; have HI3 := Lib.hid (HI2.out.below b_); clear b_)
    | ((with_reducible show wpList _ _ _ (Oper.mk none (.store _ (.tmp 9) (.tmp 41)) _ _ _ _ :: _) _ _); refine wpList_store_big (l0 := m.cells) (l := M.cells) HI3.out.msg rfl (.tmp 9) (.tmp 41) (ty := 38) rfl (by rfl) (by rfl) (by rw [Mg.len]; exact sizeM) (by rw [Mg.len, Mg.len]) (Mg.one _) ?_; have HI4 := Lib.hid (HI3.out.setm M); generalize World.setRow _ (w.heap.size + 1) M.cells.toArray = w4 at HI4 ⊢)
    | (go_at_call 29; clear M0; refine (HS1.out _ HI4.out.bel).mono ?_; rintro e w5 ⟨rfl, b_⟩; have HI5 := Lib.hid (HI4.out.below b_); obtain ⟨k0, k1, k2, k3, k4, k5⟩ := HI5.out.key.six; rw [HXO.out] at k1; clear b_)
    | ((with_reducible show wpList _ _ _ (Oper.mk (some 50) (.load _ _) _ _ _ _ :: _) _ _); refine wpList_yields (S := fun w' => KeyAt w' (w.heap.size) 0 (x)) (y_kyJ (by rfl) (.tmp 7) (by rfl) (w.heap.size) 0 (by rfl) (x) (fun _ h => h)) HI5.out.key.kat ?_)
    | (go_at_call 58; refine (HC.out _ HI5.out.bel).mono ?_; rintro e w6 ⟨rfl, b_⟩; have HI6 := Lib.hid (HI5.out.below b_); clear k0  k1  k2  k3  k4  k5; obtain ⟨k0, k1, k2, k3, k4, k5⟩ := HI6.out.key.six; rw [HXO.out] at k1; clear b_)
    | (go_at_call 29; refine (HS2.out _ HI6.out.bel).mono ?_; rintro e w7 ⟨rfl, b_⟩; have HI7 := Lib.hid (HI6.out.below b_); clear k0  k1  k2  k3  k4  k5; obtain ⟨k0, k1, k2, k3, k4, k5⟩ := HI7.out.key.six; rw [HXO.out] at k1; have cv2 := (HOT.out.below HI7.out.bel).cells.2.2; have cu2 := (HOU.out.below HI7.out.bel).cells.2.2; clear b_)
    | ((with_reducible show wpList _ _ _ (Oper.mk (some 119) (.build _ _) _ _ _ _ :: _) _ _); refine wpList_yields (S := fun _ => True) (y_build (by rfl) (by rfl) built30) trivial ?_)
    | ((with_reducible show wpList _ _ _ (Oper.mk none (.store _ (.tmp 14) (.tmp 119)) _ _ _ _ :: _) _ _); refine wpList_store_new (l := kl zk) (l0 := kl zk) (ty := 33) rfl (.tmp 14) (.tmp 119) (by rfl) w7.heap.size rfl (by rfl) (by rfl) size30 rfl (kl_one _) ?_; have HG7 := Lib.hid (show w.heap.size + 2 ≤ w7.heap.size by have := HI7.out.msg.lt; omega); have HI8 := Lib.hid (HI7.out.below ((Below.refl _ _).alloc (Nat.le_refl _) (.cells (kl zk).toArray 33))); have HA8 := Lib.hid (Blk.new w7 33 (kl zk).toArray); generalize w7.alloc (.cells (kl zk).toArray 33) = w8 at HI8 HA8 ⊢; clear cv2 cu2 k0  k1  k2  k3  k4  k5; obtain ⟨k0, k1, k2, k3, k4, k5⟩ := HI8.out.key.six; rw [HXO.out] at k1))
  clear k0  k1  k2  k3  k4  k5
  refine wp_region_only (S := fun w' => w'.cell? ⟨b, off + ji * 163 + 1, none⟩ = some (.int .i64 u.c) ∧ w'.cell? ⟨b, off + ji * 163 + 2, none⟩ = some (.int .i64 u.l)) (by kernel_rfl) (hFS _ HI8.out.bel.drew) (fun hHeld => ?_)
  refine wpAnyH_take (i := 0) (v := ?v12) rfl (by kernel_rfl) (by kernel_rfl) (by kernel_rfl) (fun _ _ _ h => h) (Or.inl ⟨by rfl, ?hy12⟩) hHeld ?rest12
  case hy12 =>
    intro w' hSw
    try dsimp only at hSw
    go_simp
    first | done | with_reducible rfl
  try simp only [Act.put, zq1, zq3, zq4, zq5, zq6]
  refine wpAnyH_take (i := 1) (v := ?v13) rfl (by kernel_rfl) (by kernel_rfl) (by kernel_rfl) (fun _ _ _ h => h) (Or.inl ⟨by rfl, ?hy13⟩) hHeld ?rest13
  case hy13 =>
    intro w' hSw
    try dsimp only at hSw
    go_simp
    first | done | with_reducible rfl
  try simp only [Act.put, zq1, zq2, zq3, zq4, zq5, zq6]
  refine wpAnyH_take (i := 2) (v := ?v14) rfl (by kernel_rfl) (by kernel_rfl) (by kernel_rfl) (fun _ _ _ h => h) (Or.inl ⟨by rfl, ?hy14⟩) hHeld ?rest14
  case hy14 =>
    intro w' hSw
    try dsimp only at hSw
    go_simp
    first | done | with_reducible rfl
  try simp only [Act.put, zq1, zq2, zq3, zq4, zq5, zq6]
  refine wpAnyH_take (i := 3) (v := ?v15) rfl (by kernel_rfl) (by kernel_rfl) (by kernel_rfl) (fun _ _ _ h => h) (Or.inl ⟨by rfl, ?hy15⟩) hHeld ?rest15
  case hy15 =>
    intro w' hSw
    try dsimp only at hSw
    go_simp
    first | done | with_reducible rfl
  try simp only [Act.put, zq1, zq2, zq3, zq4, zq5, zq6]
  refine wpAnyH_take (i := 4) (v := ?v16) rfl (by kernel_rfl) (by kernel_rfl) (by kernel_rfl) (fun _ _ _ h => h) (Or.inl ⟨by rfl, ?hy16⟩) hHeld ?rest16
  case hy16 =>
    intro w' hSw
    try dsimp only at hSw
    go_simp
    first | done | with_reducible rfl
  try simp only [Act.put, zq1, zq2, zq3, zq4, zq5, zq6]
  refine wpAnyH_take (i := 5) (v := ?v17) rfl (by kernel_rfl) (by kernel_rfl) (by kernel_rfl) (fun _ _ _ h => h) (Or.inl ⟨by rfl, ?hy17⟩) hHeld ?rest17
  case hy17 =>
    intro w' hSw
    try dsimp only at hSw
    go_simp
    first | done | with_reducible rfl
  try simp only [Act.put, zq1, zq2, zq3, zq4, zq5, zq6]
  refine wpAnyH_take (i := 6) (v := ?v18) rfl (by kernel_rfl) (by kernel_rfl) (by kernel_rfl) (fun _ _ _ h => h) (Or.inl ⟨by rfl, ?hy18⟩) hHeld ?rest18
  case hy18 =>
    intro w' hSw
    try dsimp only at hSw
    go_simp
    first | done | with_reducible rfl
  try simp only [Act.put, zq1, zq2, zq3, zq4, zq5, zq6]
  refine wpAnyH_take (i := 7) (v := ?v19) rfl (by kernel_rfl) (by kernel_rfl) (by kernel_rfl) (fun _ _ _ h => h) (Or.inl ⟨by rfl, ?hy19⟩) hHeld ?rest19
  case hy19 =>
    intro w' hSw
    try dsimp only at hSw
    go_simp
    first | done | with_reducible rfl
  try simp only [Act.put, zq1, zq2, zq3, zq4, zq5, zq6]
  refine wpAnyH_take (i := 8) (v := ?v20) rfl (by kernel_rfl) (by kernel_rfl) (by kernel_rfl) (fun _ _ _ h => h) (Or.inl ⟨by rfl, ?hy20⟩) hHeld ?rest20
  case hy20 =>
    intro w' hSw
    try dsimp only at hSw
    go_simp
    first | done | with_reducible rfl
  try simp only [Act.put, zq1, zq2, zq3, zq4, zq5, zq6]
  refine wpAnyH_take (i := 9) (v := ?v21) rfl (by kernel_rfl) (by kernel_rfl) (by kernel_rfl) (fun _ _ _ h => h) (Or.inl ⟨by rfl, ?hy21⟩) hHeld ?rest21
  case hy21 =>
    intro w' hSw
    try dsimp only at hSw
    go_simp
    first | done | with_reducible rfl
  try simp only [Act.put, zq1, zq2, zq3, zq4, zq5, zq6]
  refine wpAnyH_take (i := 10) (v := ?v22) rfl (by kernel_rfl) (by kernel_rfl) (by kernel_rfl) (fun _ _ _ h => h) (Or.inl ⟨by rfl, ?hy22⟩) hHeld ?rest22
  case hy22 =>
    intro w' hSw
    try dsimp only at hSw
    go_simp
    first | done | with_reducible rfl
  try simp only [Act.put, zq1, zq2, zq3, zq4, zq5, zq6]
  refine wpAnyH_take (i := 11) rfl (by kernel_rfl) (by kernel_rfl) (by kernel_rfl) (fun _ _ _ h => h) (y_bl4 (by rfl) (.const (.int .i64 7)) (.tmp 122) (.tmp 127) (.tmp 132) (by rfl) (by rfl) (by rfl) (by rfl) (by rfl) (builtK4 7 (ji : Int) u.c u.l)) hHeld ?_
  try simp only [Act.put, zq1, zq2, zq3, zq4, zq5, zq6]
  refine wpAnyH_ready (rs := [12]) (by kernel_rfl) (by simp) ?_
  refine AllReadyH.cons (by rfl) (fun K hK => ?_) AllReadyH.nil
  refine step_store_in HA8.out.drew rfl (.tmp 14) (.tmp 133) (ty := 33) (l := kl ⟨7, (ji : Int), u.c, u.l, 0, 0⟩) (l1 := kl ⟨7, (ji : Int), u.c, u.l, 0, 0⟩) (off := 0) (by rfl) (by rfl) (by rfl) size30 (by rw [kl_len, kl_len]; decide) (kl_one _) (by rfl) ?_
  clear hHeld
  have HA9 := Lib.hid (HA8.out.drew.setRow (kl ⟨7, (ji : Int), u.c, u.l, 0, 0⟩).toArray)
  have HI9 : Hid (Jri w (World.setRow _ w7.heap.size (kl ⟨7, (ji : Int), u.c, u.l, 0, 0⟩).toArray) x M) := Lib.hid ⟨below_setRow HI8.out.bel.drew (by have := HG7.out; omega) _, Blk.row_far HI8.out.key.drew (by have := HG7.out; omega) _, Blk.row_far HI8.out.msg.drew (by have := HG7.out; omega) _⟩
  generalize World.setRow _ w7.heap.size (kl ⟨7, (ji : Int), u.c, u.l, 0, 0⟩).toArray = w9 at HA9 HI9 ⊢
  clear HA8 HI8
  refine hK.out _ _ (hFS _ HI9.out.bel) (fun hHeld => ?_)
  clear hK K
  try simp only [Act.put, zq1, zq2, zq3]
  refine wpAnyH_done (by kernel_rfl) ?_ _
  refine OnlyN.normal ?_
  obtain ⟨k0, k1, k2, k3, k4, k5⟩ := HI9.out.key.six
  rw [HXO.out] at k1
  clear hHeld
  go_wp2_with (first
    | (go_at_call 27; refine (HBE.out _ (HI9.out.bel.alloc HI9.out.bel.size (.cells #[.int .i64 0, .int .i64 2, .int .i64 1, .int .i64 0] 3))).mono ?_; rintro e wb ⟨g1, c1, rfl, hg, hr1, b_⟩; have HIb := Lib.hid ((HI9.out.below ((Below.refl _ _).alloc (Nat.le_refl _) (.cells #[.int .i64 0, .int .i64 2, .int .i64 1, .int .i64 0] 3))).below b_); have HAb := Lib.hid ((HA9.out.alloc (.cells #[.int .i64 0, .int .i64 2, .int .i64 1, .int .i64 0] 3)).keep b_); have HRb := Lib.hid hr1; clear b_ hg hr1 k0  k1  k2  k3  k4  k5; obtain ⟨k0, k1, k2, k3, k4, k5⟩ := HIb.out.key.six; rw [HXO.out] at k1)
    | ((with_reducible show wpList _ _ _ (Oper.mk (some 150) (.load _ _) _ _ _ _ :: _) _ _); refine wpList_yields (S := fun w' => ObAt w' g1 (jt * 163) o1) (y_ob (by rfl) (.tmp 149) (by rfl) g1 (jt * 163) (by rfl) o1 (fun _ h => h)) (rdo_at HRb.out HO1.out) ?_)
    | ((with_reducible show wpList _ _ _ (Oper.mk none (.store _ (.tmp 15) (.tmp 150)) _ _ _ _ :: _) _ _); refine wpList_store_last rfl (.tmp 15) (.tmp 150) rfl wb.heap.size rfl (by rfl) o1 oz (by rfl) ?_; have HGb := Lib.hid (show w.heap.size + 2 ≤ wb.heap.size by have := HIb.out.msg.lt; omega); have HIc := Lib.hid (HIb.out.below ((Below.refl _ _).alloc (Nat.le_refl _) (.cells o1.cells.toArray 56))); have HAc := Lib.hid (HAb.out.alloc (.cells o1.cells.toArray 56)); have HRc := Lib.hid (HRb.out.alloc (.cells o1.cells.toArray 56)); have HGl := Lib.hid (show w7.heap.size < wb.heap.size from HAb.out.lt); have HOc := Lib.hid (Blk.new wb 56 o1.cells.toArray); have HRl := Lib.hid (rdo_at HRb.out HO1.out).lt; generalize wb.alloc (.cells o1.cells.toArray 56) = wc at HIc HAc HRc HOc ⊢; clear k0  k1  k2  k3  k4  k5; have cl : wc.cell? ⟨wb.heap.size, 2, none⟩ = some (.int .i64 o1.l) := HOc.out.cell 2; have fl : wc.frozen? ⟨wb.heap.size, 2, none⟩ = false := HOc.out.frozen 2; have HId : Hid (Jri w (wc.setCell ⟨wb.heap.size, 2, none⟩ (.int .i64 (o1.l + 1))) x M) := Lib.hid ⟨HIc.out.bel.setCell (p := ⟨wb.heap.size, 2, none⟩) (by have := HGb.out; simp; omega) _, HIc.out.key.far (by have := HGb.out; simp; omega) _, HIc.out.msg.far (by have := HGb.out; simp; omega) _⟩; have HAd := Lib.hid (HAc.out.far (show w7.heap.size ≠ (⟨wb.heap.size, 2, none⟩ : Addr).block by have := HGl.out; simp; omega) (.int .i64 (o1.l + 1))); have HOd : Hid (Blk (wc.setCell ⟨wb.heap.size, 2, none⟩ (.int .i64 (o1.l + 1))) wb.heap.size 56 (callsAs o1 (o1.l + 1)).cells.toArray) := Lib.hid (HOc.out.set_ 2 (.int .i64 (o1.l + 1))); have HRd : Hid (RdO (wc.setCell ⟨wb.heap.size, 2, none⟩ (.int .i64 (o1.l + 1))) (some ⟨g1, 0, none⟩) L1) := Lib.hid (rdo_far HRc.out ⟨wb.heap.size, 2, none⟩ (.int .i64 (o1.l + 1)) (show g1 ≠ wb.heap.size by have := HRl.out; omega)); obtain ⟨k0, k1, k2, k3, k4, k5⟩ := HId.out.key.six; rw [HXO.out] at k1)
    | ((with_reducible show wpList _ _ _ (Oper.mk (some 158) (.load _ _) _ _ _ _ :: _) _ _); refine wpList_yields (S := fun w' => ObAt w' wb.heap.size 0 (callsAs o1 (o1.l + 1))) (y_ob (by rfl) (.tmp 15) (by rfl) wb.heap.size 0 (by rfl) (callsAs o1 (o1.l + 1)) (fun _ h => h)) HOd.out.ob ?_)
    | (go_at_call 59; refine (rput_any HRd.out HLN.out HLL.out jt HJT.out (callsAs o1 (o1.l + 1)) rfl).mono ?_; rintro e we ⟨g2, c2, rfl, hg2, hr2, b_⟩; have HIe := Lib.hid (HId.out.below b_); have HAe := Lib.hid (HAd.out.keep b_); have HRe := Lib.hid hr2; clear b_ hg2 hr2 cl fl k0  k1  k2  k3  k4  k5; obtain ⟨k0, k1, k2, k3, k4, k5⟩ := HIe.out.key.six; rw [HXO.out] at k1)
    | ((with_reducible show wpList _ _ _ (Oper.mk (some 163) (.load _ _) _ _ _ _ :: _) _ _); refine wpList_yields (S := fun w' => MgAt w' (w.heap.size + 1) 0 M) (y_mg (by rfl) (.tmp 9) (by rfl) (w.heap.size + 1) 0 (by rfl) M (fun _ h => h)) HIe.out.msg.mg ?_)
    | ((with_reducible show wpList _ _ _ (Oper.mk (some 164) (.load _ _) _ _ _ _ :: _) _ _); refine wpList_yields (S := fun w' => KeyAt w' (w7.heap.size) 0 (⟨7, (ji : Int), u.c, u.l, 0, 0⟩)) (y_kyJ (by rfl) (.tmp 14) (by rfl) (w7.heap.size) 0 (by rfl) (⟨7, (ji : Int), u.c, u.l, 0, 0⟩) (fun _ h => h)) HAe.out.kat ?_)
    | (go_at_call 60; refine (rhand HRe.out (by first | exact HLN.out | (rw [List.length_set]; exact HLN.out)) HLL.out jt HJT.out (callsAs o1 (o1.l + 1)) HO2.out M HMD.out ⟨7, (ji : Int), u.c, u.l, 0, 0⟩).mono ?_; rintro e wf ⟨g3, c3, rfl, hg3, hr3, b_⟩; have HF := Lib.hid (And.intro (Nat.le_trans HIe.out.bel.size hg3) (And.intro hr3 (HIe.out.bel.trans (b_.mono HIe.out.bel.size)))); clear b_ hg3 hr3))
  go_ret2
  exact ⟨g3, c3, rfl, HF.out.1, HF.out.2.1, HF.out.2.2⟩
set_option maxRecDepth 100000 in
set_option maxHeartbeats 2000000 in
theorem rin_ok72 (hr : RdO w A l) (hn : l.length = n) (hl : n ≤ 1000) (ji : Nat) (hji : ji < n) (u : Oj) (hu : l[ji]? = some u) (jt : Nat) (hjt : jt < n) (v : Oj) (hv : l[jt]? = some v) (x : Ky) (hxo : x.o = (jt : Int)) (md : Int) (m : Mg) (h : ¬ md < 1) (h2 : ¬ 3 < md) (hx : x.may n) (hm : m.d.length ≤ 32 ∧ mayS n m.k) (M : Mg) (hcn : ∀ W, Below w.heap.size w W → Calls Tryd.prog 57 #[.slice A n cap, m.val] W fun e w' => e = .returned M.val ∧ Below W.heap.size W w') (v1 : Int) (hs1 : ∀ W, Below w.heap.size w W → Calls Tryd.prog 29 #[.slice A n cap, .int .i64 (ji : Int)] W fun e w' => e = .returned (.int .i64 v1) ∧ Below W.heap.size W w') (hv1 : v1 = 1) (hc : ∀ W, Below w.heap.size w W → Calls Tryd.prog 58 #[.slice A n cap, x.val] W fun e w' => e = .returned (.bool true) ∧ Below W.heap.size W w') (v2 : Int) (hs2 : ∀ W, Below w.heap.size w W → Calls Tryd.prog 29 #[.slice A n cap, .int .i64 (jt : Int)] W fun e w' => e = .returned (.int .i64 v2) ∧ Below W.heap.size W w') (hv2 : ¬ v2 < 0) (hk : x.k = 7) (hv3 : v2 = 2) (hlv : ¬ 4294967295 ≤ v.l) (hmd : md = 2) (M_d : M.d.length ≤ 32) (L1 : List Oj) (hL1 : L1.length = n) (o1 : Oj) (ho1 : L1[jt]? = some o1) (hbe : ∀ W, Below w.heap.size w W → Calls Tryd.prog 27 #[.slice A n cap, .int .i64 (ji : Int), .int .i64 1] W fun e w' => ∃ g c, e = .returned (.tuple #[.slice (some ⟨g, 0, none⟩) n c, .int .i64 0]) ∧ W.heap.size ≤ g ∧ RdO w' (some ⟨g, 0, none⟩) L1 ∧ Below W.heap.size W w') (hwc : IntKind.i64.wrap (o1.l + 1) = o1.l + 1) : Calls Tryd.prog 23 #[.slice A n cap, .int .i64 (ji : Int), x.val, .int .i64 md, m.val] w fun e w' => ∃ g c, e = .returned (.tuple #[.slice (some ⟨g, 0, none⟩) n c, .int .i64 0]) ∧ w.heap.size ≤ g ∧ RdO w' (some ⟨g, 0, none⟩) ((L1.set jt (callsAs o1 (o1.l + 1))).set jt (handO (callsAs o1 (o1.l + 1)) M zk)) ∧ Below w.heap.size w w' := by
  subst hmd
  have h0 : 0 < n := by omega
  obtain ⟨b, off, rfl, hot⟩ := hr jt (by omega)
  obtain ⟨b', off', e, hou⟩ := hr ji (by omega)
  have e2 : b = b' ∧ off = off' := by simpa using e
  obtain ⟨rfl, rfl⟩ := e2
  clear e
  have hv' : l[jt] = v := by rw [List.getElem?_eq_getElem (by omega)] at hv; exact Option.some.inj hv
  have hu' : l[ji] = u := by rw [List.getElem?_eq_getElem (by omega)] at hu; exact Option.some.inj hu
  rw [hv'] at hot
  rw [hu'] at hou
  have HOT := Lib.hid hot
  have HOU := Lib.hid hou
  have HR := Lib.hid hr
  have HXO := Lib.hid hxo
  have HNN := Lib.hid hn
  have HLL := Lib.hid hl
  have HJT := Lib.hid hjt
  have i1 : (0 : Int) ≤ (jt : Int) := by omega
  have i2 : (jt : Int) < (n : Int) := by omega
  have i3 : (0 : Int) ≤ (ji : Int) := by omega
  have i4 : (ji : Int) < (n : Int) := by omega
  have HMX := Lib.hid hx
  have HMY := Lib.hid hm
  have HCN := Lib.hid hcn
  have HS1 := Lib.hid hs1
  have HC := Lib.hid hc
  have HS2 := Lib.hid hs2
  have hMl := M.len
  have M0 := Lib.hid True.intro
  have dv1 : (v1 != 1) = false := by simpa using hv1
  have dv2 : decide (v2 < 0) = false := decide_eq_false hv2
  have hml := m.len
  have dn : decide ((n : Int) = 0) = false := decide_eq_false (by omega)
  have dn' : ((n : Int) == 0) = false := by simp; omega
  have HI0 : Hid (Jri w ((w.alloc (.cells (kc x.k x.o x.c x.l x.r x.v) 33)).alloc (.cells m.cells.toArray 38)) x m) := Lib.hid ⟨((Below.refl w.heap.size w).alloc (Nat.le_refl _) (.cells (kc x.k x.o x.c x.l x.r x.v) 33)).alloc (by simp) (.cells m.cells.toArray 38), (Blk.new w 33 (kc x.k x.o x.c x.l x.r x.v)).alloc (.cells m.cells.toArray 38), Blk.new_of (w.alloc (.cells (kc x.k x.o x.c x.l x.r x.v) 33)) 38 m.cells.toArray (g := w.heap.size + 1) (by simp)⟩
  have HMD := Lib.hid M_d
  have HLN := Lib.hid hL1
  have HO1 := Lib.hid ho1
  have HBE := Lib.hid hbe
  have hz := z34
  have hzl := oz_len
  have hzk := kl_len zk
  have hol := o1.len
  have hFS : ∀ W, Below w.heap.size w W → W.cell? ⟨b, off + ji * 163 + 1, none⟩ = some (.int .i64 u.c) ∧ W.cell? ⟨b, off + ji * 163 + 2, none⟩ = some (.int .i64 u.l) := fun W hb => ⟨(HOU.out.below hb).cells.2.1, (HOU.out.below hb).cells.2.2⟩
  have HO2 : Hid ((L1.set jt (callsAs o1 (o1.l + 1)))[jt]? = some (callsAs o1 (o1.l + 1))) := Lib.hid (by rw [List.getElem?_set_self (by omega)])
  have dk6 : (x.k != 6) = true := by simp [hk]
  have dk6' : (x.k == 6) = false := by simp [hk]
  have dk7 : (x.k != 7) = false := by simpa using hk
  have dk7' : (x.k == 7) = true := by simpa using hk
  have dv3 : (v2 != 2) = false := by simpa using hv3
  have dl7 : decide (4294967295 ≤ v.l) = false := decide_eq_false hlv
  clear h0 hot hou hu hv hu' hv' hr hxo hx hm hcn hs1 hc hs2 hv1 hv2 h h2 hk hv3 hlv hbe ho1 M_d
  go_enter Tryd.func23, Tryd.ntmps23
  go_wp2_with (first
    | ((with_reducible show wpList _ _ _ (Oper.mk (some 28) (.load _ _) _ _ _ _ :: _) _ _); refine wpList_yields (S := fun w' => KeyAt w' (w.heap.size) 0 (x)) (y_kyJ (by rfl) (.tmp 7) (by rfl) (w.heap.size) 0 (by rfl) (x) (fun _ h => h)) HI0.out.key.kat ?_)
    | (go_at_call 55; refine (rmay_y n cap _ x HMX.out _).mono ?_; rintro e w1 ⟨rfl, b_⟩; have HI1 := Lib.hid (HI0.out.below b_); clear b_)
    | ((with_reducible show wpList _ _ _ (Oper.mk (some 34) (.load _ _) _ _ _ _ :: _) _ _); refine wpList_yields (S := fun w' => MgAt w' (w.heap.size + 1) 0 m) (y_mg (by rfl) (.tmp 9) (by rfl) (w.heap.size + 1) 0 (by rfl) m (fun _ h => h)) HI1.out.msg.mg ?_)
    | (go_at_call 56; refine (rmayM_y _ cap n m HMY.out).mono ?_; rintro e w2 ⟨rfl, b_⟩; have HI2 := Lib.hid (HI1.out.below b_); clear b_)
    | ((with_reducible show wpList _ _ _ (Oper.mk (some 40) (.load _ _) _ _ _ _ :: _) _ _); refine wpList_yields (S := fun w' => MgAt w' (w.heap.size + 1) 0 m) (y_mg (by rfl) (.tmp 9) (by rfl) (w.heap.size + 1) 0 (by rfl) m (fun _ h => h)) HI2.out.msg.mg ?_)
    | (go_at_call 57; refine (HCN.out _ HI2.out.bel).mono ?_; rintro e w3 ⟨rfl, b_⟩; have HI3 := Lib.hid (HI2.out.below b_); clear b_)
    | ((with_reducible show wpList _ _ _ (Oper.mk none (.store _ (.tmp 9) (.tmp 41)) _ _ _ _ :: _) _ _); refine wpList_store_big (l0 := m.cells) (l := M.cells) HI3.out.msg rfl (.tmp 9) (.tmp 41) (ty := 38) rfl (by rfl) (by rfl) (by rw [Mg.len]; exact sizeM) (by rw [Mg.len, Mg.len]) (Mg.one _) ?_; have HI4 := Lib.hid (HI3.out.setm M); generalize World.setRow _ (w.heap.size + 1) M.cells.toArray = w4 at HI4 ⊢)
    | (go_at_call 29; clear M0; refine (HS1.out _ HI4.out.bel).mono ?_; rintro e w5 ⟨rfl, b_⟩; have HI5 := Lib.hid (HI4.out.below b_); obtain ⟨k0, k1, k2, k3, k4, k5⟩ := HI5.out.key.six; rw [HXO.out] at k1; clear b_)
    | ((with_reducible show wpList _ _ _ (Oper.mk (some 50) (.load _ _) _ _ _ _ :: _) _ _); refine wpList_yields (S := fun w' => KeyAt w' (w.heap.size) 0 (x)) (y_kyJ (by rfl) (.tmp 7) (by rfl) (w.heap.size) 0 (by rfl) (x) (fun _ h => h)) HI5.out.key.kat ?_)
    | (go_at_call 58; refine (HC.out _ HI5.out.bel).mono ?_; rintro e w6 ⟨rfl, b_⟩; have HI6 := Lib.hid (HI5.out.below b_); clear k0  k1  k2  k3  k4  k5; obtain ⟨k0, k1, k2, k3, k4, k5⟩ := HI6.out.key.six; rw [HXO.out] at k1; clear b_)
    | (go_at_call 29; refine (HS2.out _ HI6.out.bel).mono ?_; rintro e w7 ⟨rfl, b_⟩; have HI7 := Lib.hid (HI6.out.below b_); clear k0  k1  k2  k3  k4  k5; obtain ⟨k0, k1, k2, k3, k4, k5⟩ := HI7.out.key.six; rw [HXO.out] at k1; have cv2 := (HOT.out.below HI7.out.bel).cells.2.2; have cu2 := (HOU.out.below HI7.out.bel).cells.2.2; clear b_)
    | ((with_reducible show wpList _ _ _ (Oper.mk (some 119) (.build _ _) _ _ _ _ :: _) _ _); refine wpList_yields (S := fun _ => True) (y_build (by rfl) (by rfl) built30) trivial ?_)
    | ((with_reducible show wpList _ _ _ (Oper.mk none (.store _ (.tmp 14) (.tmp 119)) _ _ _ _ :: _) _ _); refine wpList_store_new (l := kl zk) (l0 := kl zk) (ty := 33) rfl (.tmp 14) (.tmp 119) (by rfl) w7.heap.size rfl (by rfl) (by rfl) size30 rfl (kl_one _) ?_; have HG7 := Lib.hid (show w.heap.size + 2 ≤ w7.heap.size by have := HI7.out.msg.lt; omega); have HI8 := Lib.hid (HI7.out.below ((Below.refl _ _).alloc (Nat.le_refl _) (.cells (kl zk).toArray 33))); have HA8 := Lib.hid (Blk.new w7 33 (kl zk).toArray); generalize w7.alloc (.cells (kl zk).toArray 33) = w8 at HI8 HA8 ⊢; clear cv2 cu2 k0  k1  k2  k3  k4  k5; obtain ⟨k0, k1, k2, k3, k4, k5⟩ := HI8.out.key.six; rw [HXO.out] at k1)
    | (go_at_call 27; refine (HBE.out _ (HI8.out.bel.alloc HI8.out.bel.size (.cells #[.int .i64 0, .int .i64 2, .int .i64 1, .int .i64 0] 3))).mono ?_; rintro e wb ⟨g1, c1, rfl, hg, hr1, b_⟩; have HIb := Lib.hid ((HI8.out.below ((Below.refl _ _).alloc (Nat.le_refl _) (.cells #[.int .i64 0, .int .i64 2, .int .i64 1, .int .i64 0] 3))).below b_); have HAb := Lib.hid ((HA8.out.alloc (.cells #[.int .i64 0, .int .i64 2, .int .i64 1, .int .i64 0] 3)).keep b_); have HRb := Lib.hid hr1; clear b_ hg hr1 k0  k1  k2  k3  k4  k5; obtain ⟨k0, k1, k2, k3, k4, k5⟩ := HIb.out.key.six; rw [HXO.out] at k1)
    | ((with_reducible show wpList _ _ _ (Oper.mk (some 150) (.load _ _) _ _ _ _ :: _) _ _); refine wpList_yields (S := fun w' => ObAt w' g1 (jt * 163) o1) (y_ob (by rfl) (.tmp 149) (by rfl) g1 (jt * 163) (by rfl) o1 (fun _ h => h)) (rdo_at HRb.out HO1.out) ?_)
    | ((with_reducible show wpList _ _ _ (Oper.mk none (.store _ (.tmp 15) (.tmp 150)) _ _ _ _ :: _) _ _); refine wpList_store_last rfl (.tmp 15) (.tmp 150) rfl wb.heap.size rfl (by rfl) o1 oz (by rfl) ?_; have HGb := Lib.hid (show w.heap.size + 2 ≤ wb.heap.size by have := HIb.out.msg.lt; omega); have HIc := Lib.hid (HIb.out.below ((Below.refl _ _).alloc (Nat.le_refl _) (.cells o1.cells.toArray 56))); have HAc := Lib.hid (HAb.out.alloc (.cells o1.cells.toArray 56)); have HRc := Lib.hid (HRb.out.alloc (.cells o1.cells.toArray 56)); have HGl := Lib.hid (show w7.heap.size < wb.heap.size from HAb.out.lt); have HOc := Lib.hid (Blk.new wb 56 o1.cells.toArray); have HRl := Lib.hid (rdo_at HRb.out HO1.out).lt; generalize wb.alloc (.cells o1.cells.toArray 56) = wc at HIc HAc HRc HOc ⊢; clear k0  k1  k2  k3  k4  k5; have cl : wc.cell? ⟨wb.heap.size, 2, none⟩ = some (.int .i64 o1.l) := HOc.out.cell 2; have fl : wc.frozen? ⟨wb.heap.size, 2, none⟩ = false := HOc.out.frozen 2; have HId : Hid (Jri w (wc.setCell ⟨wb.heap.size, 2, none⟩ (.int .i64 (o1.l + 1))) x M) := Lib.hid ⟨HIc.out.bel.setCell (p := ⟨wb.heap.size, 2, none⟩) (by have := HGb.out; simp; omega) _, HIc.out.key.far (by have := HGb.out; simp; omega) _, HIc.out.msg.far (by have := HGb.out; simp; omega) _⟩; have HAd := Lib.hid (HAc.out.far (show w7.heap.size ≠ (⟨wb.heap.size, 2, none⟩ : Addr).block by have := HGl.out; simp; omega) (.int .i64 (o1.l + 1))); have HOd : Hid (Blk (wc.setCell ⟨wb.heap.size, 2, none⟩ (.int .i64 (o1.l + 1))) wb.heap.size 56 (callsAs o1 (o1.l + 1)).cells.toArray) := Lib.hid (HOc.out.set_ 2 (.int .i64 (o1.l + 1))); have HRd : Hid (RdO (wc.setCell ⟨wb.heap.size, 2, none⟩ (.int .i64 (o1.l + 1))) (some ⟨g1, 0, none⟩) L1) := Lib.hid (rdo_far HRc.out ⟨wb.heap.size, 2, none⟩ (.int .i64 (o1.l + 1)) (show g1 ≠ wb.heap.size by have := HRl.out; omega)); obtain ⟨k0, k1, k2, k3, k4, k5⟩ := HId.out.key.six; rw [HXO.out] at k1)
    | ((with_reducible show wpList _ _ _ (Oper.mk (some 158) (.load _ _) _ _ _ _ :: _) _ _); refine wpList_yields (S := fun w' => ObAt w' wb.heap.size 0 (callsAs o1 (o1.l + 1))) (y_ob (by rfl) (.tmp 15) (by rfl) wb.heap.size 0 (by rfl) (callsAs o1 (o1.l + 1)) (fun _ h => h)) HOd.out.ob ?_)
    | (go_at_call 59; refine (rput_any HRd.out HLN.out HLL.out jt HJT.out (callsAs o1 (o1.l + 1)) rfl).mono ?_; rintro e we ⟨g2, c2, rfl, hg2, hr2, b_⟩; have HIe := Lib.hid (HId.out.below b_); have HAe := Lib.hid (HAd.out.keep b_); have HRe := Lib.hid hr2; clear b_ hg2 hr2 cl fl k0  k1  k2  k3  k4  k5; obtain ⟨k0, k1, k2, k3, k4, k5⟩ := HIe.out.key.six; rw [HXO.out] at k1)
    | ((with_reducible show wpList _ _ _ (Oper.mk (some 163) (.load _ _) _ _ _ _ :: _) _ _); refine wpList_yields (S := fun w' => MgAt w' (w.heap.size + 1) 0 M) (y_mg (by rfl) (.tmp 9) (by rfl) (w.heap.size + 1) 0 (by rfl) M (fun _ h => h)) HIe.out.msg.mg ?_)
    | ((with_reducible show wpList _ _ _ (Oper.mk (some 164) (.load _ _) _ _ _ _ :: _) _ _); refine wpList_yields (S := fun w' => KeyAt w' (w7.heap.size) 0 (zk)) (y_kyJ (by rfl) (.tmp 14) (by rfl) (w7.heap.size) 0 (by rfl) (zk) (fun _ h => h)) HAe.out.kat ?_)
    | (go_at_call 60; refine (rhand HRe.out (by first | exact HLN.out | (rw [List.length_set]; exact HLN.out)) HLL.out jt HJT.out (callsAs o1 (o1.l + 1)) HO2.out M HMD.out zk).mono ?_; rintro e wf ⟨g3, c3, rfl, hg3, hr3, b_⟩; have HF := Lib.hid (And.intro (Nat.le_trans HIe.out.bel.size hg3) (And.intro hr3 (HIe.out.bel.trans (b_.mono HIe.out.bel.size)))); clear b_ hg3 hr3))
  go_ret2
  exact ⟨g3, c3, rfl, HF.out.1, HF.out.2.1, HF.out.2.2⟩
set_option maxRecDepth 100000 in
set_option maxHeartbeats 2000000 in
theorem rin_ok73 (hr : RdO w A l) (hn : l.length = n) (hl : n ≤ 1000) (ji : Nat) (hji : ji < n) (u : Oj) (hu : l[ji]? = some u) (jt : Nat) (hjt : jt < n) (v : Oj) (hv : l[jt]? = some v) (x : Ky) (hxo : x.o = (jt : Int)) (md : Int) (m : Mg) (h : ¬ md < 1) (h2 : ¬ 3 < md) (hx : x.may n) (hm : m.d.length ≤ 32 ∧ mayS n m.k) (M : Mg) (hcn : ∀ W, Below w.heap.size w W → Calls Tryd.prog 57 #[.slice A n cap, m.val] W fun e w' => e = .returned M.val ∧ Below W.heap.size W w') (v1 : Int) (hs1 : ∀ W, Below w.heap.size w W → Calls Tryd.prog 29 #[.slice A n cap, .int .i64 (ji : Int)] W fun e w' => e = .returned (.int .i64 v1) ∧ Below W.heap.size W w') (hv1 : v1 = 1) (hc : ∀ W, Below w.heap.size w W → Calls Tryd.prog 58 #[.slice A n cap, x.val] W fun e w' => e = .returned (.bool true) ∧ Below W.heap.size W w') (v2 : Int) (hs2 : ∀ W, Below w.heap.size w W → Calls Tryd.prog 29 #[.slice A n cap, .int .i64 (jt : Int)] W fun e w' => e = .returned (.int .i64 v2) ∧ Below W.heap.size W w') (hv2 : ¬ v2 < 0) (hk : x.k = 7) (hv3 : v2 = 2) (hlv : ¬ 4294967295 ≤ v.l) (hmd : md = 3) (M_d : M.d.length ≤ 32) (L1 : List Oj) (hL1 : L1.length = n) (o1 : Oj) (ho1 : L1[jt]? = some o1) (hbe : ∀ W, Below w.heap.size w W → Calls Tryd.prog 27 #[.slice A n cap, .int .i64 (ji : Int), .int .i64 0] W fun e w' => ∃ g c, e = .returned (.tuple #[.slice (some ⟨g, 0, none⟩) n c, .int .i64 0]) ∧ W.heap.size ≤ g ∧ RdO w' (some ⟨g, 0, none⟩) L1 ∧ Below W.heap.size W w') (hwc : IntKind.i64.wrap (o1.l + 1) = o1.l + 1) : Calls Tryd.prog 23 #[.slice A n cap, .int .i64 (ji : Int), x.val, .int .i64 md, m.val] w fun e w' => ∃ g c, e = .returned (.tuple #[.slice (some ⟨g, 0, none⟩) n c, .int .i64 0]) ∧ w.heap.size ≤ g ∧ RdO w' (some ⟨g, 0, none⟩) ((L1.set jt (callsAs o1 (o1.l + 1))).set jt (handO (callsAs o1 (o1.l + 1)) M zk)) ∧ Below w.heap.size w w' := by
  subst hmd
  have h0 : 0 < n := by omega
  obtain ⟨b, off, rfl, hot⟩ := hr jt (by omega)
  obtain ⟨b', off', e, hou⟩ := hr ji (by omega)
  have e2 : b = b' ∧ off = off' := by simpa using e
  obtain ⟨rfl, rfl⟩ := e2
  clear e
  have hv' : l[jt] = v := by rw [List.getElem?_eq_getElem (by omega)] at hv; exact Option.some.inj hv
  have hu' : l[ji] = u := by rw [List.getElem?_eq_getElem (by omega)] at hu; exact Option.some.inj hu
  rw [hv'] at hot
  rw [hu'] at hou
  have HOT := Lib.hid hot
  have HOU := Lib.hid hou
  have HR := Lib.hid hr
  have HXO := Lib.hid hxo
  have HNN := Lib.hid hn
  have HLL := Lib.hid hl
  have HJT := Lib.hid hjt
  have i1 : (0 : Int) ≤ (jt : Int) := by omega
  have i2 : (jt : Int) < (n : Int) := by omega
  have i3 : (0 : Int) ≤ (ji : Int) := by omega
  have i4 : (ji : Int) < (n : Int) := by omega
  have HMX := Lib.hid hx
  have HMY := Lib.hid hm
  have HCN := Lib.hid hcn
  have HS1 := Lib.hid hs1
  have HC := Lib.hid hc
  have HS2 := Lib.hid hs2
  have hMl := M.len
  have M0 := Lib.hid True.intro
  have dv1 : (v1 != 1) = false := by simpa using hv1
  have dv2 : decide (v2 < 0) = false := decide_eq_false hv2
  have hml := m.len
  have dn : decide ((n : Int) = 0) = false := decide_eq_false (by omega)
  have dn' : ((n : Int) == 0) = false := by simp; omega
  have HI0 : Hid (Jri w ((w.alloc (.cells (kc x.k x.o x.c x.l x.r x.v) 33)).alloc (.cells m.cells.toArray 38)) x m) := Lib.hid ⟨((Below.refl w.heap.size w).alloc (Nat.le_refl _) (.cells (kc x.k x.o x.c x.l x.r x.v) 33)).alloc (by simp) (.cells m.cells.toArray 38), (Blk.new w 33 (kc x.k x.o x.c x.l x.r x.v)).alloc (.cells m.cells.toArray 38), Blk.new_of (w.alloc (.cells (kc x.k x.o x.c x.l x.r x.v) 33)) 38 m.cells.toArray (g := w.heap.size + 1) (by simp)⟩
  have HMD := Lib.hid M_d
  have HLN := Lib.hid hL1
  have HO1 := Lib.hid ho1
  have HBE := Lib.hid hbe
  have hz := z34
  have hzl := oz_len
  have hzk := kl_len zk
  have hol := o1.len
  have hFS : ∀ W, Below w.heap.size w W → W.cell? ⟨b, off + ji * 163 + 1, none⟩ = some (.int .i64 u.c) ∧ W.cell? ⟨b, off + ji * 163 + 2, none⟩ = some (.int .i64 u.l) := fun W hb => ⟨(HOU.out.below hb).cells.2.1, (HOU.out.below hb).cells.2.2⟩
  have HO2 : Hid ((L1.set jt (callsAs o1 (o1.l + 1)))[jt]? = some (callsAs o1 (o1.l + 1))) := Lib.hid (by rw [List.getElem?_set_self (by omega)])
  have dk6 : (x.k != 6) = true := by simp [hk]
  have dk6' : (x.k == 6) = false := by simp [hk]
  have dk7 : (x.k != 7) = false := by simpa using hk
  have dk7' : (x.k == 7) = true := by simpa using hk
  have dv3 : (v2 != 2) = false := by simpa using hv3
  have dl7 : decide (4294967295 ≤ v.l) = false := decide_eq_false hlv
  clear h0 hot hou hu hv hu' hv' hr hxo hx hm hcn hs1 hc hs2 hv1 hv2 h h2 hk hv3 hlv hbe ho1 M_d
  go_enter Tryd.func23, Tryd.ntmps23
  go_wp2_with (first
    | ((with_reducible show wpList _ _ _ (Oper.mk (some 28) (.load _ _) _ _ _ _ :: _) _ _); refine wpList_yields (S := fun w' => KeyAt w' (w.heap.size) 0 (x)) (y_kyJ (by rfl) (.tmp 7) (by rfl) (w.heap.size) 0 (by rfl) (x) (fun _ h => h)) HI0.out.key.kat ?_)
    | (go_at_call 55; refine (rmay_y n cap _ x HMX.out _).mono ?_; rintro e w1 ⟨rfl, b_⟩; have HI1 := Lib.hid (HI0.out.below b_); clear b_)
    | ((with_reducible show wpList _ _ _ (Oper.mk (some 34) (.load _ _) _ _ _ _ :: _) _ _); refine wpList_yields (S := fun w' => MgAt w' (w.heap.size + 1) 0 m) (y_mg (by rfl) (.tmp 9) (by rfl) (w.heap.size + 1) 0 (by rfl) m (fun _ h => h)) HI1.out.msg.mg ?_)
    | (go_at_call 56; refine (rmayM_y _ cap n m HMY.out).mono ?_; rintro e w2 ⟨rfl, b_⟩; have HI2 := Lib.hid (HI1.out.below b_); clear b_)
    | ((with_reducible show wpList _ _ _ (Oper.mk (some 40) (.load _ _) _ _ _ _ :: _) _ _); refine wpList_yields (S := fun w' => MgAt w' (w.heap.size + 1) 0 m) (y_mg (by rfl) (.tmp 9) (by rfl) (w.heap.size + 1) 0 (by rfl) m (fun _ h => h)) HI2.out.msg.mg ?_)
    | (go_at_call 57; refine (HCN.out _ HI2.out.bel).mono ?_; rintro e w3 ⟨rfl, b_⟩; have HI3 := Lib.hid (HI2.out.below b_); clear b_)
    | ((with_reducible show wpList _ _ _ (Oper.mk none (.store _ (.tmp 9) (.tmp 41)) _ _ _ _ :: _) _ _); refine wpList_store_big (l0 := m.cells) (l := M.cells) HI3.out.msg rfl (.tmp 9) (.tmp 41) (ty := 38) rfl (by rfl) (by rfl) (by rw [Mg.len]; exact sizeM) (by rw [Mg.len, Mg.len]) (Mg.one _) ?_; have HI4 := Lib.hid (HI3.out.setm M); generalize World.setRow _ (w.heap.size + 1) M.cells.toArray = w4 at HI4 ⊢)
    | (go_at_call 29; clear M0; refine (HS1.out _ HI4.out.bel).mono ?_; rintro e w5 ⟨rfl, b_⟩; have HI5 := Lib.hid (HI4.out.below b_); obtain ⟨k0, k1, k2, k3, k4, k5⟩ := HI5.out.key.six; rw [HXO.out] at k1; clear b_)
    | ((with_reducible show wpList _ _ _ (Oper.mk (some 50) (.load _ _) _ _ _ _ :: _) _ _); refine wpList_yields (S := fun w' => KeyAt w' (w.heap.size) 0 (x)) (y_kyJ (by rfl) (.tmp 7) (by rfl) (w.heap.size) 0 (by rfl) (x) (fun _ h => h)) HI5.out.key.kat ?_)
    | (go_at_call 58; refine (HC.out _ HI5.out.bel).mono ?_; rintro e w6 ⟨rfl, b_⟩; have HI6 := Lib.hid (HI5.out.below b_); clear k0  k1  k2  k3  k4  k5; obtain ⟨k0, k1, k2, k3, k4, k5⟩ := HI6.out.key.six; rw [HXO.out] at k1; clear b_)
    | (go_at_call 29; refine (HS2.out _ HI6.out.bel).mono ?_; rintro e w7 ⟨rfl, b_⟩; have HI7 := Lib.hid (HI6.out.below b_); clear k0  k1  k2  k3  k4  k5; obtain ⟨k0, k1, k2, k3, k4, k5⟩ := HI7.out.key.six; rw [HXO.out] at k1; have cv2 := (HOT.out.below HI7.out.bel).cells.2.2; have cu2 := (HOU.out.below HI7.out.bel).cells.2.2; clear b_)
    | ((with_reducible show wpList _ _ _ (Oper.mk (some 119) (.build _ _) _ _ _ _ :: _) _ _); refine wpList_yields (S := fun _ => True) (y_build (by rfl) (by rfl) built30) trivial ?_)
    | ((with_reducible show wpList _ _ _ (Oper.mk none (.store _ (.tmp 14) (.tmp 119)) _ _ _ _ :: _) _ _); refine wpList_store_new (l := kl zk) (l0 := kl zk) (ty := 33) rfl (.tmp 14) (.tmp 119) (by rfl) w7.heap.size rfl (by rfl) (by rfl) size30 rfl (kl_one _) ?_; have HG7 := Lib.hid (show w.heap.size + 2 ≤ w7.heap.size by have := HI7.out.msg.lt; omega); have HI8 := Lib.hid (HI7.out.below ((Below.refl _ _).alloc (Nat.le_refl _) (.cells (kl zk).toArray 33))); have HA8 := Lib.hid (Blk.new w7 33 (kl zk).toArray); generalize w7.alloc (.cells (kl zk).toArray 33) = w8 at HI8 HA8 ⊢; clear cv2 cu2 k0  k1  k2  k3  k4  k5; obtain ⟨k0, k1, k2, k3, k4, k5⟩ := HI8.out.key.six; rw [HXO.out] at k1)
    | (go_at_call 27; refine (HBE.out _ (HI8.out.bel.alloc HI8.out.bel.size (.cells #[.int .i64 0, .int .i64 2, .int .i64 1, .int .i64 0] 3))).mono ?_; rintro e wb ⟨g1, c1, rfl, hg, hr1, b_⟩; have HIb := Lib.hid ((HI8.out.below ((Below.refl _ _).alloc (Nat.le_refl _) (.cells #[.int .i64 0, .int .i64 2, .int .i64 1, .int .i64 0] 3))).below b_); have HAb := Lib.hid ((HA8.out.alloc (.cells #[.int .i64 0, .int .i64 2, .int .i64 1, .int .i64 0] 3)).keep b_); have HRb := Lib.hid hr1; clear b_ hg hr1 k0  k1  k2  k3  k4  k5; obtain ⟨k0, k1, k2, k3, k4, k5⟩ := HIb.out.key.six; rw [HXO.out] at k1)
    | ((with_reducible show wpList _ _ _ (Oper.mk (some 150) (.load _ _) _ _ _ _ :: _) _ _); refine wpList_yields (S := fun w' => ObAt w' g1 (jt * 163) o1) (y_ob (by rfl) (.tmp 149) (by rfl) g1 (jt * 163) (by rfl) o1 (fun _ h => h)) (rdo_at HRb.out HO1.out) ?_)
    | ((with_reducible show wpList _ _ _ (Oper.mk none (.store _ (.tmp 15) (.tmp 150)) _ _ _ _ :: _) _ _); refine wpList_store_last rfl (.tmp 15) (.tmp 150) rfl wb.heap.size rfl (by rfl) o1 oz (by rfl) ?_; have HGb := Lib.hid (show w.heap.size + 2 ≤ wb.heap.size by have := HIb.out.msg.lt; omega); have HIc := Lib.hid (HIb.out.below ((Below.refl _ _).alloc (Nat.le_refl _) (.cells o1.cells.toArray 56))); have HAc := Lib.hid (HAb.out.alloc (.cells o1.cells.toArray 56)); have HRc := Lib.hid (HRb.out.alloc (.cells o1.cells.toArray 56)); have HGl := Lib.hid (show w7.heap.size < wb.heap.size from HAb.out.lt); have HOc := Lib.hid (Blk.new wb 56 o1.cells.toArray); have HRl := Lib.hid (rdo_at HRb.out HO1.out).lt; generalize wb.alloc (.cells o1.cells.toArray 56) = wc at HIc HAc HRc HOc ⊢; clear k0  k1  k2  k3  k4  k5; have cl : wc.cell? ⟨wb.heap.size, 2, none⟩ = some (.int .i64 o1.l) := HOc.out.cell 2; have fl : wc.frozen? ⟨wb.heap.size, 2, none⟩ = false := HOc.out.frozen 2; have HId : Hid (Jri w (wc.setCell ⟨wb.heap.size, 2, none⟩ (.int .i64 (o1.l + 1))) x M) := Lib.hid ⟨HIc.out.bel.setCell (p := ⟨wb.heap.size, 2, none⟩) (by have := HGb.out; simp; omega) _, HIc.out.key.far (by have := HGb.out; simp; omega) _, HIc.out.msg.far (by have := HGb.out; simp; omega) _⟩; have HAd := Lib.hid (HAc.out.far (show w7.heap.size ≠ (⟨wb.heap.size, 2, none⟩ : Addr).block by have := HGl.out; simp; omega) (.int .i64 (o1.l + 1))); have HOd : Hid (Blk (wc.setCell ⟨wb.heap.size, 2, none⟩ (.int .i64 (o1.l + 1))) wb.heap.size 56 (callsAs o1 (o1.l + 1)).cells.toArray) := Lib.hid (HOc.out.set_ 2 (.int .i64 (o1.l + 1))); have HRd : Hid (RdO (wc.setCell ⟨wb.heap.size, 2, none⟩ (.int .i64 (o1.l + 1))) (some ⟨g1, 0, none⟩) L1) := Lib.hid (rdo_far HRc.out ⟨wb.heap.size, 2, none⟩ (.int .i64 (o1.l + 1)) (show g1 ≠ wb.heap.size by have := HRl.out; omega)); obtain ⟨k0, k1, k2, k3, k4, k5⟩ := HId.out.key.six; rw [HXO.out] at k1)
    | ((with_reducible show wpList _ _ _ (Oper.mk (some 158) (.load _ _) _ _ _ _ :: _) _ _); refine wpList_yields (S := fun w' => ObAt w' wb.heap.size 0 (callsAs o1 (o1.l + 1))) (y_ob (by rfl) (.tmp 15) (by rfl) wb.heap.size 0 (by rfl) (callsAs o1 (o1.l + 1)) (fun _ h => h)) HOd.out.ob ?_)
    | (go_at_call 59; refine (rput_any HRd.out HLN.out HLL.out jt HJT.out (callsAs o1 (o1.l + 1)) rfl).mono ?_; rintro e we ⟨g2, c2, rfl, hg2, hr2, b_⟩; have HIe := Lib.hid (HId.out.below b_); have HAe := Lib.hid (HAd.out.keep b_); have HRe := Lib.hid hr2; clear b_ hg2 hr2 cl fl k0  k1  k2  k3  k4  k5; obtain ⟨k0, k1, k2, k3, k4, k5⟩ := HIe.out.key.six; rw [HXO.out] at k1)
    | ((with_reducible show wpList _ _ _ (Oper.mk (some 163) (.load _ _) _ _ _ _ :: _) _ _); refine wpList_yields (S := fun w' => MgAt w' (w.heap.size + 1) 0 M) (y_mg (by rfl) (.tmp 9) (by rfl) (w.heap.size + 1) 0 (by rfl) M (fun _ h => h)) HIe.out.msg.mg ?_)
    | ((with_reducible show wpList _ _ _ (Oper.mk (some 164) (.load _ _) _ _ _ _ :: _) _ _); refine wpList_yields (S := fun w' => KeyAt w' (w7.heap.size) 0 (zk)) (y_kyJ (by rfl) (.tmp 14) (by rfl) (w7.heap.size) 0 (by rfl) (zk) (fun _ h => h)) HAe.out.kat ?_)
    | (go_at_call 60; refine (rhand HRe.out (by first | exact HLN.out | (rw [List.length_set]; exact HLN.out)) HLL.out jt HJT.out (callsAs o1 (o1.l + 1)) HO2.out M HMD.out zk).mono ?_; rintro e wf ⟨g3, c3, rfl, hg3, hr3, b_⟩; have HF := Lib.hid (And.intro (Nat.le_trans HIe.out.bel.size hg3) (And.intro hr3 (HIe.out.bel.trans (b_.mono HIe.out.bel.size)))); clear b_ hg3 hr3))
  go_ret2
  exact ⟨g3, c3, rfl, HF.out.1, HF.out.2.1, HF.out.2.2⟩
end
end Go.Proofs.YtljfddeolapeaaaDoor

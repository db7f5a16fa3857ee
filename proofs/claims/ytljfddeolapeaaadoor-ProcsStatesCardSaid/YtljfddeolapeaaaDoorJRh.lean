/- the document's layer 13: hand: a message is handed over. -/
import Derived.Test.YtljfddeolapeaaaDoorJRb
import Derived.Test.YtljfddeolapeaaaDoorJHd
namespace Go.Proofs.YtljfddeolapeaaaDoor
open List renaming getElem_toArray → zq1, getElem_cons_succ → zq2, getElem_cons_zero → zq3, setIfInBounds_toArray → zq4, set_cons_zero → zq5, set_cons_succ → zq6
open Go.RowKit
attribute [local go_sem] Oper.semAt_some
set_option maxRecDepth 8000 in
theorem lay_set (b : List UInt8) (a : Nat) (s : List UInt8) (i : Nat) (hi : i < s.length) (h : a + s.length ≤ b.length) : (lay b a (s.take i)).set (a + i) s[i] = lay b a (s.take (i + 1)) := by
  have hl : (b.take a).length = a := by simp; omega
  have hl2 : (b.take a ++ s.take i).length = a + i := by simp; omega
  unfold lay
  have e1 : (s.take i).length = i := by simp; omega
  have e2 : (s.take (i + 1)).length = i + 1 := by simp; omega
  rw [e1, e2, List.set_append_right _ _ (by omega), hl2, Nat.sub_self]
  have hd : b.drop (a + i) = b[a + i]'(by omega) :: b.drop (a + (i + 1)) := by
    rw [List.drop_eq_getElem_cons (by omega)]
    rfl
  rw [hd, List.set_cons_zero, List.take_succ_eq_append_getElem hi]
  simp only [List.append_assoc, List.cons_append, List.nil_append]
/-- the bytes when i of the data are laid -/
def hdI (d : List UInt8) (i : Nat) : List UInt8 := lay (zbs.set 0 (UInt8.ofNat d.length)) 1 (d.take i)
set_option maxRecDepth 8000 in
theorem hdB_len_lay (d : List UInt8) (i : Nat) (h : d.length ≤ 32) : (lay (zbs.set 0 (UInt8.ofNat d.length)) 1 (d.take i)).length = 64 := by
  have h64 : (zbs.set 0 (UInt8.ofNat d.length)).length = 64 := by rw [List.length_set]; rfl
  unfold lay
  rw [List.length_append, List.length_append, List.length_take, List.length_drop, h64, List.length_take]
  omega
set_option maxRecDepth 8000 in
theorem hdI_len (d : List UInt8) (i : Nat) (h : d.length ≤ 32) : (hdI d i).length = 64 := by
  unfold hdI
  rw [hdB_len_lay d i h]
set_option maxRecDepth 8000 in
theorem hdI_zero (d : List UInt8) : hdI d 0 = zbs.set 0 (UInt8.ofNat d.length) := by
  unfold hdI lay
  rw [List.take_zero]
  simp only [List.length_nil, Nat.add_zero, List.append_nil, List.take_append_drop]
set_option maxRecDepth 8000 in
theorem hdI_all (d : List UInt8) (h : d.length ≤ 32) : hdI d d.length = hdB d := by
  unfold hdI
  rw [List.take_length, hdB_lay d (by omega)]
/-- an object with these bytes, if they are 64 -/
def bOf (u : Oj) (b : List UInt8) : Oj := if h : b.length = 64 then bAs u b h else u
set_option maxRecDepth 8000 in
theorem bOf_eq {u : Oj} {b : List UInt8} (h : b.length = 64) : bOf u b = bAs u b h := by unfold bOf; rw [dif_pos h]
set_option maxRecDepth 8000 in
theorem bOf_set (u : Oj) (b : List UInt8) (h : b.length = 64) (i : Nat) (x : UInt8) : (bOf u b).cells.set (99 + i) (.int .u8 (x.toNat : Int)) = (bOf u (b.set i x)).cells := by
  have h2 : (b.set i x).length = 64 := by rw [List.length_set]; exact h
  rw [bOf_eq h, bOf_eq h2]
  have f : ∀ (l : List UInt8) (hl : l.length = 64), (bAs u l hl).cells = ([.int .i64 u.k, .int .i64 u.c, .int .i64 u.l] ++ kcs u.s) ++ bv l := fun l hl => by simp [Oj.cells, bAs]
  rw [f, f, List.set_append_right _ _ (by simp [kcs_length, u.hs])]
  have e3 : 99 + i - ([Value.int .i64 u.k, .int .i64 u.c, .int .i64 u.l] ++ kcs u.s).length = i := by simp [kcs_length, u.hs]
  rw [e3]
  simp [bv, List.map_set]
set_option maxRecDepth 8000 in
theorem built64z : Tryd.prog.built 54 [] = some (bv zbs).toArray := by kernel_rfl
section
variable {w : World} {A : Option Addr} {cap n : Nat} {l : List Oj}
set_option maxRecDepth 100000 in
set_option maxHeartbeats 4000000 in
theorem rhand (hr : RdO w A l) (hn : l.length = n) (hl : n ≤ 1000) (j : Nat) (hj : j < n) (u : Oj) (hu : l[j]? = some u) (m : Mg) (hd : m.d.length ≤ 32) (k : Ky) : Calls Tryd.prog 60 #[.slice A n cap, .int .i64 (j : Int), m.val, k.val] w fun e w' => ∃ g c, e = .returned (.slice (some ⟨g, 0, none⟩) n c) ∧ w.heap.size ≤ g ∧ RdO w' (some ⟨g, 0, none⟩) (l.set j (handO u m k)) ∧ Below w.heap.size w w' := by
  have hz := z34
  have hzl := oz_len
  have hml := m.len
  have HR := Lib.hid hr
  obtain ⟨b, off, rfl, hob⟩ := hr j (by omega)
  have hu' : l[j] = u := by rw [List.getElem?_eq_getElem (by omega)] at hu; exact Option.some.inj hu
  rw [hu'] at hob
  obtain ⟨x0, x1, x2, hmk⟩ := list3 m.hk
  have i1 : (0 : Int) ≤ (j : Int) := by omega
  have i2 : (j : Int) < (n : Int) := by omega
  have HO := Lib.hid (hob.below (((Below.refl w.heap.size w).alloc (Nat.le_refl _) (.cells m.cells.toArray 38)).alloc (by simp) (.cells (kc k.k k.o k.c k.l k.r k.v) 33)))
  have HNN := Lib.hid hn
  have HLL := Lib.hid hl
  have HJJ := Lib.hid hj
  have HD := Lib.hid hd
  have hFS : ∀ W, Blk W w.heap.size 38 m.cells.toArray → Blk W (w.heap.size + 1) 33 (kl k).toArray → W.cell? ⟨w.heap.size, 0, none⟩ = some (.int .i64 m.c) ∧ KeyAt W w.heap.size 2 x0 ∧ KeyAt W w.heap.size 8 x1 ∧ KeyAt W w.heap.size 14 x2 ∧ KeyAt W (w.heap.size + 1) 0 k := fun W h1 h2 =>
    ⟨by have := h1.mg.code; simpa using this, h1.mg.key (i := 0) (by decide) (by rw [hmk]; rfl), h1.mg.key (i := 1) (by decide) (by rw [hmk]; rfl), h1.mg.key (i := 2) (by decide) (by rw [hmk]; rfl), h2.kat⟩
  have HUH := Lib.hid (show bAs (slotAs (slotAs (slotAs (slotAs (slotAs (slotAs u 2 (nmk 1)) 3 (nmk m.c)) 12 x0) 13 x1) 14 x2) 15 k) (hdB m.d) (hdB_len _) = handO u m k from hand_doc u m k x0 x1 x2 hmk)
  have HB0 := Lib.hid ((((Below.refl w.heap.size w).alloc (Nat.le_refl _) (.cells m.cells.toArray 38)).alloc (by simp) (.cells (kc k.k k.o k.c k.l k.r k.v) 33)).alloc (by simp; omega) (.cells u.cells.toArray 56))
  have HM0 := Lib.hid (((Blk.new w 38 m.cells.toArray).alloc (.cells (kc k.k k.o k.c k.l k.r k.v) 33)).alloc (.cells u.cells.toArray 56))
  have HK0 : Hid (Blk (((w.alloc (.cells m.cells.toArray 38)).alloc (.cells (kc k.k k.o k.c k.l k.r k.v) 33)).alloc (.cells u.cells.toArray 56)) (w.heap.size + 1) 33 (kl k).toArray) := Lib.hid ((Blk.new_of (w.alloc (.cells m.cells.toArray 38)) 33 (kc k.k k.o k.c k.l k.r k.v) (g := w.heap.size + 1) (by simp)).alloc (.cells u.cells.toArray 56))
  have HG0 := Lib.hid (Blk.new_of ((w.alloc (.cells m.cells.toArray 38)).alloc (.cells (kc k.k k.o k.c k.l k.r k.v) 33)) 56 u.cells.toArray (g := w.heap.size + 2) (by simp))
  clear hob hu hu' hr hd hmk
  go_enter Tryd.func60, Tryd.ntmps60
  go_wp2_with (first
    | ((with_reducible show wpList _ _ _ (Oper.mk (some 14) (.load _ _) _ _ _ _ :: _) _ _); refine wpList_yields (S := fun w' => ObAt w' b (off + j * 163) u) (y_ob (by rfl) (.tmp 13) (by rfl) b (off + j * 163) (by rfl) u (fun _ h => h)) HO.out ?_)
    | ((with_reducible show wpList _ _ _ (Oper.mk none (.store _ (.tmp 9) (.tmp 14)) _ _ _ _ :: _) _ _); refine wpList_store_last rfl (.tmp 9) (.tmp 14) rfl (w.heap.size + 1 + 1) (by simp) (by rfl) u oz (by rfl) ?_))
  generalize (((w.alloc (.cells m.cells.toArray 38)).alloc (.cells (kc k.k k.o k.c k.l k.r k.v) 33)).alloc (.cells u.cells.toArray 56)) = W0 at HB0 HM0 HK0 HG0 ⊢
  refine wp_region_only (S := fun w' => w'.cell? ⟨w.heap.size, 0, none⟩ = some (.int .i64 m.c) ∧ KeyAt w' w.heap.size 2 x0 ∧ KeyAt w' w.heap.size 8 x1 ∧ KeyAt w' w.heap.size 14 x2 ∧ KeyAt w' (w.heap.size + 1) 0 k) (by kernel_rfl) (hFS _ HM0.out.drew HK0.out.drew) (fun hHeld => ?_)
  refine wpAnyH_take (i := 1) (v := ?v1) rfl (by kernel_rfl) (by kernel_rfl) (by kernel_rfl) (fun _ _ _ h => h) (Or.inl ⟨by rfl, ?hy1⟩) hHeld ?rest1
  case hy1 =>
    intro w' hSw
    try dsimp only at hSw
    go_simp
    first | done | with_reducible rfl
  try simp only [Act.put, zq1, zq2, zq3, zq4, zq5, zq6]
  refine wpAnyH_take (i := 2) (v := ?v2) rfl (by kernel_rfl) (by kernel_rfl) (by kernel_rfl) (fun _ _ _ h => h) (Or.inl ⟨by rfl, ?hy2⟩) hHeld ?rest2
  case hy2 =>
    intro w' hSw
    try dsimp only at hSw
    go_simp
    first | done | with_reducible rfl
  try simp only [Act.put, zq1, zq2, zq3, zq4, zq5, zq6]
  refine wpAnyH_take (i := 4) (v := ?v3) rfl (by kernel_rfl) (by kernel_rfl) (by kernel_rfl) (fun _ _ _ h => h) (Or.inl ⟨by rfl, ?hy3⟩) hHeld ?rest3
  case hy3 =>
    intro w' hSw
    try dsimp only at hSw
    go_simp
    first | done | with_reducible rfl
  try simp only [Act.put, zq1, zq2, zq3, zq4, zq5, zq6]
  refine wpAnyH_take (i := 7) (v := ?v4) rfl (by kernel_rfl) (by kernel_rfl) (by kernel_rfl) (fun _ _ _ h => h) (Or.inl ⟨by rfl, ?hy4⟩) hHeld ?rest4
  case hy4 =>
    intro w' hSw
    try dsimp only at hSw
    go_simp
    first | done | with_reducible rfl
  try simp only [Act.put, zq1, zq2, zq3, zq4, zq5, zq6]
  refine wpAnyH_ready (rs := [0]) (by kernel_rfl) (by simp) ?_
  refine AllReadyH.cons (by rfl) (fun K hK => ?_) AllReadyH.nil
  go_simp
  refine (rnum_any _ 1).mono ?_
  rintro e y1 ⟨rfl, b_⟩
  have HG1 := Lib.hid (HG0.out.drew.keep b_)
  have HM1 := Lib.hid (HM0.out.drew.keep b_)
  have HK1 := Lib.hid (HK0.out.drew.keep b_)
  have HB1 := Lib.hid (HB0.out.drew.trans (b_.mono HB0.out.size))
  clear b_ hHeld HG0 HM0 HK0 HB0
  go_wp2_with fail
  refine hK.out _ _ (hFS _ HM1.out HK1.out) (fun hHeld => ?_)
  clear hK K
  try simp only [Act.put, zq1, zq3, zq4, zq5, zq6]
  refine wpAnyH_take (i := 5) (v := ?v5) rfl (by kernel_rfl) (by kernel_rfl) (by kernel_rfl) (fun _ _ _ h => h) (Or.inl ⟨by rfl, ?hy5⟩) hHeld ?rest5
  case hy5 =>
    intro w' hSw
    try dsimp only at hSw
    go_simp
    first | done | with_reducible rfl
  try simp only [Act.put, zq1, zq2, zq3, zq4, zq5, zq6]
  refine wpAnyH_ready (rs := [3]) (by kernel_rfl) (by simp) ?_
  refine AllReadyH.cons (by rfl) (fun K hK => ?_) AllReadyH.nil
  go_simp
  refine (rnum_any _ m.c).mono ?_
  rintro e y2 ⟨rfl, b_⟩
  have HG2 := Lib.hid (HG1.out.keep b_)
  have HM2 := Lib.hid (HM1.out.keep b_)
  have HK2 := Lib.hid (HK1.out.keep b_)
  have HB2 := Lib.hid (HB1.out.trans (b_.mono HB1.out.size))
  clear b_ hHeld HG1 HM1 HK1 HB1
  go_wp2_with fail
  refine hK.out _ _ (hFS _ HM2.out HK2.out) (fun hHeld => ?_)
  clear hK K
  try simp only [Act.put, zq1, zq2, zq3, zq4, zq5, zq6]
  refine wpAnyH_ready (rs := [6]) (by kernel_rfl) (by simp) ?_
  refine AllReadyH.cons (by rfl) (fun K hK => ?_) AllReadyH.nil
  refine step_store_in HG2.out rfl (.tmp 20) (.tmp 15) (ty := 33) (l := kl (nmk 1)) (off := 15) (by rfl) (by rfl) (by rfl) size30 (by rw [Oj.len, kl_len]; decide) (kl_one _) (slot_fit (u) 2 (by decide) (nmk 1)) ?_
  clear hHeld
  have HG3 := Lib.hid (HG2.out.setRow (Oj.cells (slotAs u 2 (nmk 1))).toArray)
  have HM3 := Lib.hid (Blk.row_far (b := w.heap.size + 2) HM2.out (by omega) (Oj.cells (slotAs u 2 (nmk 1))).toArray)
  have HK3 := Lib.hid (Blk.row_far (b := w.heap.size + 2) HK2.out (by omega) (Oj.cells (slotAs u 2 (nmk 1))).toArray)
  have HB3 := Lib.hid (below_setRow HB2.out (show w.heap.size ≤ w.heap.size + 2 by omega) (Oj.cells (slotAs u 2 (nmk 1))).toArray)
  generalize World.setRow _ (w.heap.size + 2) (Oj.cells (slotAs u 2 (nmk 1))).toArray = W3 at HG3 HM3 HK3 HB3 ⊢
  clear HG2 HM2 HK2 HB2
  refine hK.out _ _ (hFS _ HM3.out HK3.out) (fun hHeld => ?_)
  clear hK K
  try simp only [Act.put, zq1, zq2, zq3]
  refine wpAnyH_take (i := 8) (v := ?v6) rfl (by kernel_rfl) (by kernel_rfl) (by kernel_rfl) (fun _ _ _ h => h) (Or.inl ⟨by rfl, ?hy6⟩) hHeld ?rest6
  case hy6 =>
    intro w' hSw
    try dsimp only at hSw
    go_simp
    first | done | with_reducible rfl
  try simp only [Act.put, zq1, zq2, zq3, zq4, zq5, zq6]
  refine wpAnyH_ready (rs := [9]) (by kernel_rfl) (by simp) ?_
  refine AllReadyH.cons (by rfl) (fun K hK => ?_) AllReadyH.nil
  refine step_store_in HG3.out rfl (.tmp 22) (.tmp 18) (ty := 33) (l := kl (nmk m.c)) (off := 21) (by rfl) (by rfl) (by rfl) size30 (by rw [Oj.len, kl_len]; decide) (kl_one _) (slot_fit (slotAs u 2 (nmk 1)) 3 (by decide) (nmk m.c)) ?_
  clear hHeld
  have HG4 := Lib.hid (HG3.out.setRow (Oj.cells (slotAs (slotAs u 2 (nmk 1)) 3 (nmk m.c))).toArray)
  have HM4 := Lib.hid (Blk.row_far (b := w.heap.size + 2) HM3.out (by omega) (Oj.cells (slotAs (slotAs u 2 (nmk 1)) 3 (nmk m.c))).toArray)
  have HK4 := Lib.hid (Blk.row_far (b := w.heap.size + 2) HK3.out (by omega) (Oj.cells (slotAs (slotAs u 2 (nmk 1)) 3 (nmk m.c))).toArray)
  have HB4 := Lib.hid (below_setRow HB3.out (show w.heap.size ≤ w.heap.size + 2 by omega) (Oj.cells (slotAs (slotAs u 2 (nmk 1)) 3 (nmk m.c))).toArray)
  generalize World.setRow _ (w.heap.size + 2) (Oj.cells (slotAs (slotAs u 2 (nmk 1)) 3 (nmk m.c))).toArray = W4 at HG4 HM4 HK4 HB4 ⊢
  clear HG3 HM3 HK3 HB3
  refine hK.out _ _ (hFS _ HM4.out HK4.out) (fun hHeld => ?_)
  clear hK K
  try simp only [Act.put, zq1, zq2, zq3]
  refine wpAnyH_done (by kernel_rfl) ?_ _
  refine OnlyN.normal ?_
  go_wp2_with fail
  refine wp_region_only (S := fun w' => w'.cell? ⟨w.heap.size, 0, none⟩ = some (.int .i64 m.c) ∧ KeyAt w' w.heap.size 2 x0 ∧ KeyAt w' w.heap.size 8 x1 ∧ KeyAt w' w.heap.size 14 x2 ∧ KeyAt w' (w.heap.size + 1) 0 k) (by kernel_rfl) (hFS _ HM4.out.drew HK4.out.drew) (fun hHeld => ?_)
  refine wpAnyH_take (i := 0) (v := ?v7) rfl (by kernel_rfl) (by kernel_rfl) (by kernel_rfl) (fun _ _ _ h => h) (Or.inl ⟨by rfl, ?hy7⟩) hHeld ?rest7
  case hy7 =>
    intro w' hSw
    try dsimp only at hSw
    go_simp
    first | done | with_reducible rfl
  try simp only [Act.put, zq1, zq3, zq4, zq5, zq6]
  refine wpAnyH_take (i := 1) (v := ?v8) rfl (by kernel_rfl) (by kernel_rfl) (by kernel_rfl) (fun _ _ _ h => h) (Or.inl ⟨by rfl, ?hy8⟩) hHeld ?rest8
  case hy8 =>
    intro w' hSw
    try dsimp only at hSw
    go_simp
    first | done | with_reducible rfl
  try simp only [Act.put, zq1, zq2, zq3, zq4, zq5, zq6]
  refine wpAnyH_take (i := 2) rfl (by kernel_rfl) (by kernel_rfl) (by kernel_rfl) (fun _ _ _ h => h) (y_kyJ (by rfl) (.tmp 24) (by rfl) w.heap.size 2 (by rfl) x0 (fun _ h => h.2.1)) hHeld ?_
  try simp only [Act.put, zq1, zq2, zq3, zq4, zq5, zq6]
  refine wpAnyH_take (i := 3) (v := ?v9) rfl (by kernel_rfl) (by kernel_rfl) (by kernel_rfl) (fun _ _ _ h => h) (Or.inl ⟨by rfl, ?hy9⟩) hHeld ?rest9
  case hy9 =>
    intro w' hSw
    try dsimp only at hSw
    go_simp
    first | done | with_reducible rfl
  try simp only [Act.put, zq1, zq2, zq3, zq4, zq5, zq6]
  refine wpAnyH_take (i := 4) (v := ?v10) rfl (by kernel_rfl) (by kernel_rfl) (by kernel_rfl) (fun _ _ _ h => h) (Or.inl ⟨by rfl, ?hy10⟩) hHeld ?rest10
  case hy10 =>
    intro w' hSw
    try dsimp only at hSw
    go_simp
    first | done | with_reducible rfl
  try simp only [Act.put, zq1, zq2, zq3, zq4, zq5, zq6]
  refine wpAnyH_take (i := 5) rfl (by kernel_rfl) (by kernel_rfl) (by kernel_rfl) (fun _ _ _ h => h) (y_kyJ (by rfl) (.tmp 27) (by rfl) w.heap.size 8 (by rfl) x1 (fun _ h => h.2.2.1)) hHeld ?_
  try simp only [Act.put, zq1, zq2, zq3, zq4, zq5, zq6]
  refine wpAnyH_take (i := 6) (v := ?v11) rfl (by kernel_rfl) (by kernel_rfl) (by kernel_rfl) (fun _ _ _ h => h) (Or.inl ⟨by rfl, ?hy11⟩) hHeld ?rest11
  case hy11 =>
    intro w' hSw
    try dsimp only at hSw
    go_simp
    first | done | with_reducible rfl
  try simp only [Act.put, zq1, zq2, zq3, zq4, zq5, zq6]
  refine wpAnyH_take (i := 7) (v := ?v12) rfl (by kernel_rfl) (by kernel_rfl) (by kernel_rfl) (fun _ _ _ h => h) (Or.inl ⟨by rfl, ?hy12⟩) hHeld ?rest12
  case hy12 =>
    intro w' hSw
    try dsimp only at hSw
    go_simp
    first | done | with_reducible rfl
  try simp only [Act.put, zq1, zq2, zq3, zq4, zq5, zq6]
  refine wpAnyH_take (i := 8) rfl (by kernel_rfl) (by kernel_rfl) (by kernel_rfl) (fun _ _ _ h => h) (y_kyJ (by rfl) (.tmp 30) (by rfl) w.heap.size 14 (by rfl) x2 (fun _ h => h.2.2.2.1)) hHeld ?_
  try simp only [Act.put, zq1, zq2, zq3, zq4, zq5, zq6]
  refine wpAnyH_take (i := 9) rfl (by kernel_rfl) (by kernel_rfl) (by kernel_rfl) (fun _ _ _ h => h) (y_kyJ (by rfl) (.tmp 7) (by rfl) (w.heap.size + 1) 0 (by rfl) k (fun _ h => h.2.2.2.2)) hHeld ?_
  try simp only [Act.put, zq1, zq2, zq3, zq4, zq5, zq6]
  refine wpAnyH_take (i := 10) (v := ?v13) rfl (by kernel_rfl) (by kernel_rfl) (by kernel_rfl) (fun _ _ _ h => h) (Or.inl ⟨by rfl, ?hy13⟩) hHeld ?rest13
  case hy13 =>
    intro w' hSw
    try dsimp only at hSw
    go_simp
    first | done | with_reducible rfl
  try simp only [Act.put, zq1, zq2, zq3, zq4, zq5, zq6]
  refine wpAnyH_take (i := 11) (v := ?v14) rfl (by kernel_rfl) (by kernel_rfl) (by kernel_rfl) (fun _ _ _ h => h) (Or.inl ⟨by rfl, ?hy14⟩) hHeld ?rest14
  case hy14 =>
    intro w' hSw
    try dsimp only at hSw
    go_simp
    first | done | with_reducible rfl
  try simp only [Act.put, zq1, zq2, zq3, zq4, zq5, zq6]
  refine wpAnyH_take (i := 13) (v := ?v15) rfl (by kernel_rfl) (by kernel_rfl) (by kernel_rfl) (fun _ _ _ h => h) (Or.inl ⟨by rfl, ?hy15⟩) hHeld ?rest15
  case hy15 =>
    intro w' hSw
    try dsimp only at hSw
    go_simp
    first | done | with_reducible rfl
  try simp only [Act.put, zq1, zq2, zq3, zq4, zq5, zq6]
  refine wpAnyH_take (i := 16) (v := ?v16) rfl (by kernel_rfl) (by kernel_rfl) (by kernel_rfl) (fun _ _ _ h => h) (Or.inl ⟨by rfl, ?hy16⟩) hHeld ?rest16
  case hy16 =>
    intro w' hSw
    try dsimp only at hSw
    go_simp
    first | done | with_reducible rfl
  try simp only [Act.put, zq1, zq2, zq3, zq4, zq5, zq6]
  refine wpAnyH_take (i := 19) (v := ?v17) rfl (by kernel_rfl) (by kernel_rfl) (by kernel_rfl) (fun _ _ _ h => h) (Or.inl ⟨by rfl, ?hy17⟩) hHeld ?rest17
  case hy17 =>
    intro w' hSw
    try dsimp only at hSw
    go_simp
    first | done | with_reducible rfl
  try simp only [Act.put, zq1, zq2, zq3, zq4, zq5, zq6]
  refine wpAnyH_ready (rs := [12]) (by kernel_rfl) (by simp) ?_
  refine AllReadyH.cons (by rfl) (fun K hK => ?_) AllReadyH.nil
  refine step_store_in HG4.out.drew rfl (.tmp 34) (.tmp 25) (ty := 33) (l := kl x0) (off := 75) (by rfl) (by rfl) (by rfl) size30 (by rw [Oj.len, kl_len]; decide) (kl_one _) (slot_fit (slotAs (slotAs u 2 (nmk 1)) 3 (nmk m.c)) 12 (by decide) x0) ?_
  clear hHeld
  have HG5 := Lib.hid (HG4.out.drew.setRow (Oj.cells (slotAs (slotAs (slotAs u 2 (nmk 1)) 3 (nmk m.c)) 12 x0)).toArray)
  have HM5 := Lib.hid (Blk.row_far (b := w.heap.size + 2) HM4.out.drew (by omega) (Oj.cells (slotAs (slotAs (slotAs u 2 (nmk 1)) 3 (nmk m.c)) 12 x0)).toArray)
  have HK5 := Lib.hid (Blk.row_far (b := w.heap.size + 2) HK4.out.drew (by omega) (Oj.cells (slotAs (slotAs (slotAs u 2 (nmk 1)) 3 (nmk m.c)) 12 x0)).toArray)
  have HB5 := Lib.hid (below_setRow HB4.out.drew (show w.heap.size ≤ w.heap.size + 2 by omega) (Oj.cells (slotAs (slotAs (slotAs u 2 (nmk 1)) 3 (nmk m.c)) 12 x0)).toArray)
  generalize World.setRow _ (w.heap.size + 2) (Oj.cells (slotAs (slotAs (slotAs u 2 (nmk 1)) 3 (nmk m.c)) 12 x0)).toArray = W5 at HG5 HM5 HK5 HB5 ⊢
  clear HG4 HM4 HK4 HB4
  refine hK.out _ _ (hFS _ HM5.out HK5.out) (fun hHeld => ?_)
  clear hK K
  try simp only [Act.put, zq1, zq2, zq3]
  refine wpAnyH_take (i := 14) (v := ?v18) rfl (by kernel_rfl) (by kernel_rfl) (by kernel_rfl) (fun _ _ _ h => h) (Or.inl ⟨by rfl, ?hy18⟩) hHeld ?rest18
  case hy18 =>
    intro w' hSw
    try dsimp only at hSw
    go_simp
    first | done | with_reducible rfl
  try simp only [Act.put, zq1, zq2, zq3, zq4, zq5, zq6]
  refine wpAnyH_ready (rs := [15]) (by kernel_rfl) (by simp) ?_
  refine AllReadyH.cons (by rfl) (fun K hK => ?_) AllReadyH.nil
  refine step_store_in HG5.out rfl (.tmp 36) (.tmp 28) (ty := 33) (l := kl x1) (off := 81) (by rfl) (by rfl) (by rfl) size30 (by rw [Oj.len, kl_len]; decide) (kl_one _) (slot_fit (slotAs (slotAs (slotAs u 2 (nmk 1)) 3 (nmk m.c)) 12 x0) 13 (by decide) x1) ?_
  clear hHeld
  have HG6 := Lib.hid (HG5.out.setRow (Oj.cells (slotAs (slotAs (slotAs (slotAs u 2 (nmk 1)) 3 (nmk m.c)) 12 x0) 13 x1)).toArray)
  have HM6 := Lib.hid (Blk.row_far (b := w.heap.size + 2) HM5.out (by omega) (Oj.cells (slotAs (slotAs (slotAs (slotAs u 2 (nmk 1)) 3 (nmk m.c)) 12 x0) 13 x1)).toArray)
  have HK6 := Lib.hid (Blk.row_far (b := w.heap.size + 2) HK5.out (by omega) (Oj.cells (slotAs (slotAs (slotAs (slotAs u 2 (nmk 1)) 3 (nmk m.c)) 12 x0) 13 x1)).toArray)
  have HB6 := Lib.hid (below_setRow HB5.out (show w.heap.size ≤ w.heap.size + 2 by omega) (Oj.cells (slotAs (slotAs (slotAs (slotAs u 2 (nmk 1)) 3 (nmk m.c)) 12 x0) 13 x1)).toArray)
  generalize World.setRow _ (w.heap.size + 2) (Oj.cells (slotAs (slotAs (slotAs (slotAs u 2 (nmk 1)) 3 (nmk m.c)) 12 x0) 13 x1)).toArray = W6 at HG6 HM6 HK6 HB6 ⊢
  clear HG5 HM5 HK5 HB5
  refine hK.out _ _ (hFS _ HM6.out HK6.out) (fun hHeld => ?_)
  clear hK K
  try simp only [Act.put, zq1, zq2, zq3]
  refine wpAnyH_take (i := 17) (v := ?v19) rfl (by kernel_rfl) (by kernel_rfl) (by kernel_rfl) (fun _ _ _ h => h) (Or.inl ⟨by rfl, ?hy19⟩) hHeld ?rest19
  case hy19 =>
    intro w' hSw
    try dsimp only at hSw
    go_simp
    first | done | with_reducible rfl
  try simp only [Act.put, zq1, zq2, zq3, zq4, zq5, zq6]
  refine wpAnyH_ready (rs := [18]) (by kernel_rfl) (by simp) ?_
  refine AllReadyH.cons (by rfl) (fun K hK => ?_) AllReadyH.nil
  refine step_store_in HG6.out rfl (.tmp 38) (.tmp 31) (ty := 33) (l := kl x2) (off := 87) (by rfl) (by rfl) (by rfl) size30 (by rw [Oj.len, kl_len]; decide) (kl_one _) (slot_fit (slotAs (slotAs (slotAs (slotAs u 2 (nmk 1)) 3 (nmk m.c)) 12 x0) 13 x1) 14 (by decide) x2) ?_
  clear hHeld
  have HG7 := Lib.hid (HG6.out.setRow (Oj.cells (slotAs (slotAs (slotAs (slotAs (slotAs u 2 (nmk 1)) 3 (nmk m.c)) 12 x0) 13 x1) 14 x2)).toArray)
  have HM7 := Lib.hid (Blk.row_far (b := w.heap.size + 2) HM6.out (by omega) (Oj.cells (slotAs (slotAs (slotAs (slotAs (slotAs u 2 (nmk 1)) 3 (nmk m.c)) 12 x0) 13 x1) 14 x2)).toArray)
  have HK7 := Lib.hid (Blk.row_far (b := w.heap.size + 2) HK6.out (by omega) (Oj.cells (slotAs (slotAs (slotAs (slotAs (slotAs u 2 (nmk 1)) 3 (nmk m.c)) 12 x0) 13 x1) 14 x2)).toArray)
  have HB7 := Lib.hid (below_setRow HB6.out (show w.heap.size ≤ w.heap.size + 2 by omega) (Oj.cells (slotAs (slotAs (slotAs (slotAs (slotAs u 2 (nmk 1)) 3 (nmk m.c)) 12 x0) 13 x1) 14 x2)).toArray)
  generalize World.setRow _ (w.heap.size + 2) (Oj.cells (slotAs (slotAs (slotAs (slotAs (slotAs u 2 (nmk 1)) 3 (nmk m.c)) 12 x0) 13 x1) 14 x2)).toArray = W7 at HG7 HM7 HK7 HB7 ⊢
  clear HG6 HM6 HK6 HB6
  refine hK.out _ _ (hFS _ HM7.out HK7.out) (fun hHeld => ?_)
  clear hK K
  try simp only [Act.put, zq1, zq2, zq3]
  refine wpAnyH_take (i := 20) (v := ?v20) rfl (by kernel_rfl) (by kernel_rfl) (by kernel_rfl) (fun _ _ _ h => h) (Or.inl ⟨by rfl, ?hy20⟩) hHeld ?rest20
  case hy20 =>
    intro w' hSw
    try dsimp only at hSw
    go_simp
    first | done | with_reducible rfl
  try simp only [Act.put, zq1, zq2, zq3, zq4, zq5, zq6]
  refine wpAnyH_ready (rs := [21]) (by kernel_rfl) (by simp) ?_
  refine AllReadyH.cons (by rfl) (fun K hK => ?_) AllReadyH.nil
  refine step_store_in HG7.out rfl (.tmp 40) (.tmp 32) (ty := 33) (l := kl k) (off := 93) (by rfl) (by rfl) (by rfl) size30 (by rw [Oj.len, kl_len]; decide) (kl_one _) (slot_fit (slotAs (slotAs (slotAs (slotAs (slotAs u 2 (nmk 1)) 3 (nmk m.c)) 12 x0) 13 x1) 14 x2) 15 (by decide) k) ?_
  clear hHeld
  have HG8 := Lib.hid (HG7.out.setRow (Oj.cells (slotAs (slotAs (slotAs (slotAs (slotAs (slotAs u 2 (nmk 1)) 3 (nmk m.c)) 12 x0) 13 x1) 14 x2) 15 k)).toArray)
  have HM8 := Lib.hid (Blk.row_far (b := w.heap.size + 2) HM7.out (by omega) (Oj.cells (slotAs (slotAs (slotAs (slotAs (slotAs (slotAs u 2 (nmk 1)) 3 (nmk m.c)) 12 x0) 13 x1) 14 x2) 15 k)).toArray)
  have HK8 := Lib.hid (Blk.row_far (b := w.heap.size + 2) HK7.out (by omega) (Oj.cells (slotAs (slotAs (slotAs (slotAs (slotAs (slotAs u 2 (nmk 1)) 3 (nmk m.c)) 12 x0) 13 x1) 14 x2) 15 k)).toArray)
  have HB8 := Lib.hid (below_setRow HB7.out (show w.heap.size ≤ w.heap.size + 2 by omega) (Oj.cells (slotAs (slotAs (slotAs (slotAs (slotAs (slotAs u 2 (nmk 1)) 3 (nmk m.c)) 12 x0) 13 x1) 14 x2) 15 k)).toArray)
  generalize World.setRow _ (w.heap.size + 2) (Oj.cells (slotAs (slotAs (slotAs (slotAs (slotAs (slotAs u 2 (nmk 1)) 3 (nmk m.c)) 12 x0) 13 x1) 14 x2) 15 k)).toArray = W8 at HG8 HM8 HK8 HB8 ⊢
  clear HG7 HM7 HK7 HB7
  refine hK.out _ _ (hFS _ HM8.out HK8.out) (fun hHeld => ?_)
  clear hK K
  try simp only [Act.put, zq1, zq2, zq3]
  refine wpAnyH_done (by kernel_rfl) ?_ _
  refine OnlyN.normal ?_
  have c1 : W8.cell? ⟨w.heap.size, 1, none⟩ = some (.string (st m.d)) := by have := HM8.out.mg.data; rwa [Nat.zero_add] at this
  have hss := st_size m.d
  have hw8 : IntKind.u8.wrap (m.d.length : Int) = ((UInt8.ofNat m.d.length).toNat : Int) := by rw [u8_len HD.out]; exact w8_len HD.out
  obtain ⟨V, hV⟩ : ∃ V, slotAs (slotAs (slotAs (slotAs (slotAs (slotAs u 2 (nmk 1)) 3 (nmk m.c)) 12 x0) 13 x1) 14 x2) 15 k = V := ⟨_, rfl⟩
  rw [hV] at HG8 HUH
  clear hV
  have HZ9 : V.cells.take 99 ++ bv zbs ++ V.cells.drop (99 + (bv zbs).length) = (bOf V zbs).cells := by
    rw [bOf_eq (show zbs.length = 64 from rfl)]
    exact cells_bytes V zbs rfl
  have HZ := Lib.hid HZ9
  clear HZ9 hHeld
  go_wp2_with (first
    | ((with_reducible show wpList _ _ _ (Oper.mk (some 41) (.build _ _) _ _ _ _ :: _) _ _); refine wpList_yields (S := fun _ => True) (y_build (by rfl) (by rfl) built64z) trivial ?_)
    | ((with_reducible show wpList _ _ _ (Oper.mk none (.store _ (.tmp 42) (.tmp 41)) _ _ _ _ :: _) _ _); refine wpList_store_in HG8.out rfl (.tmp 42) (.tmp 41) (ty := 54) (l := bv zbs) (off := 99) (by rfl) (by rfl) (by rfl) size32 (by rw [Oj.len, bv_length]; decide) (bv_one _) HZ.out ?_; clear c1; have HG9 := Lib.hid (HG8.out.setRow (Oj.cells (bOf V zbs)).toArray); have HM9 := Lib.hid (Blk.row_far (b := w.heap.size + 2) HM8.out (by omega) (Oj.cells (bOf V zbs)).toArray); have HK9 := Lib.hid (Blk.row_far (b := w.heap.size + 2) HK8.out (by omega) (Oj.cells (bOf V zbs)).toArray); have HB9 := Lib.hid (below_setRow HB8.out (show w.heap.size ≤ w.heap.size + 2 by omega) (Oj.cells (bOf V zbs)).toArray); generalize World.setRow _ (w.heap.size + 2) (Oj.cells (bOf V zbs)).toArray = W9 at HG9 HM9 HK9 HB9 ⊢; clear HG8 HM8 HK8 HB8; have c1 : W9.cell? ⟨w.heap.size, 1, none⟩ = some (.string (st m.d)) := (by have := HM9.out.mg.data; rwa [Nat.zero_add] at this); have c9 : W9.cell? ⟨w.heap.size + 1 + 1, 99, none⟩ = some ((bOf V zbs).cells[99]'(by rw [Oj.len]; decide)) := ((HG9.out.cell 99).trans (Array.getElem?_eq_getElem (by rw [List.size_toArray, Oj.len]; decide))); have f9 : W9.frozen? ⟨w.heap.size + 1 + 1, 99, none⟩ = false := HG9.out.frozen 99))
  have HGA : Hid (Blk (W9.setCell ⟨w.heap.size + 1 + 1, 99, none⟩ (.int .u8 ((UInt8.ofNat m.d.length).toNat : Int))) (w.heap.size + 2) 56 (bOf V (hdI m.d 0)).cells.toArray) := Lib.hid (by
    rw [hdI_zero, ← bOf_set V zbs rfl 0]
    have := HG9.out.set_ 99 (.int .u8 ((UInt8.ofNat m.d.length).toNat : Int))
    simpa using this)
  have HMA : Hid (Blk (W9.setCell ⟨w.heap.size + 1 + 1, 99, none⟩ (.int .u8 ((UInt8.ofNat m.d.length).toNat : Int))) w.heap.size 38 m.cells.toArray) := Lib.hid (HM9.out.far (by simp; omega) _)
  have HBA : Hid (Below w.heap.size w (W9.setCell ⟨w.heap.size + 1 + 1, 99, none⟩ (.int .u8 ((UInt8.ofNat m.d.length).toNat : Int)))) := Lib.hid (HB9.out.setCell (p := ⟨w.heap.size + 1 + 1, 99, none⟩) (by simp; omega) _)
  clear HG9 HM9 HK9 HB9 c1 c9 f9
  go_loopw [10] (fun q wr => ∃ i : Nat, i ≤ m.d.length ∧ q = .int .i64 i ∧ Blk wr (w.heap.size + 2) 56 (bOf V (hdI m.d i)).cells.toArray ∧ Blk wr w.heap.size 38 m.cells.toArray ∧ Below w.heap.size w wr) (fun q _ => m.d.length + 1 - (intOf q).toNat)
  case atStart => exact ⟨0, by omega, rfl, HGA.out, HMA.out, HBA.out⟩
  case round =>
    obtain ⟨i, hi, rfl, h1, h2, h3⟩ := hrel
    clear HGA HMA HBA
    have HG := Lib.hid h1
    have HM := Lib.hid h2
    have HB := Lib.hid h3
    have c1 : wr.cell? ⟨w.heap.size, 1, none⟩ = some (.string (st m.d)) := by have := HM.out.mg.data; rwa [Nat.zero_add] at this
    clear h1 h2 h3
    by_cases hlt : i < m.d.length
    · have e0 : decide ((i : Int) < (m.d.length : Int)) = true := decide_eq_true (by omega)
      have e1 : (i : Int) < (m.d.length : Int) := by omega
      have e2 : decide (i < m.d.length) = true := decide_eq_true hlt
      have hd32 := HD.out
      obtain ⟨q, hq⟩ : ∃ q : Nat, q = 1 + i := ⟨_, rfl⟩
      have hki : (1 : Int) + (i : Int) = (q : Int) := by omega
      have hk64 : (q : Int) < 64 := by omega
      have hk64' : q < 64 := by omega
      have hix := run_index_st 9 Tryd.underlying9 m.d i hlt
      obtain ⟨v, hv⟩ : ∃ v : Int, v = ((m.d[i]).toNat : Int) := ⟨_, rfl⟩
      rw [← hv] at hix
      have hset : Hid ((bOf V (hdI m.d i)).cells.toArray.setIfInBounds (99 + q) (.int .u8 v) = (bOf V (hdI m.d (i + 1))).cells.toArray) := Lib.hid (by
        have e : (hdI m.d i).set (1 + i) m.d[i] = hdI m.d (i + 1) := lay_set _ 1 m.d i hlt (by rw [List.length_set]; show 1 + m.d.length ≤ 64; omega)
        rw [hv, hq, ← e, ← bOf_set V (hdI m.d i) (hdI_len m.d i hd32) (1 + i)]
        simp)
      have hbl2 : (bOf V (hdI m.d i)).cells.toArray.size = 163 := by rw [List.size_toArray, Oj.len]
      have hcell : ∃ y, wr.cell? ⟨w.heap.size + 1 + 1, 99 + q, none⟩ = some y := ⟨_, (HG.out.cell (99 + q)).trans (Array.getElem?_eq_getElem (by rw [hbl2]; omega))⟩
      obtain ⟨y, hcell⟩ := hcell
      have hfz : wr.frozen? ⟨w.heap.size + 1 + 1, 99 + q, none⟩ = false := HG.out.frozen (99 + q)
      clear hq hv
      go_wp2_with fail
      go_roundw
      case rel => exact ⟨i + 1, by omega, by go_num, hset.out ▸ HG.out.set_ (99 + q) (.int .u8 v), HM.out.far (by simp; omega) _, HB.out.setCell (p := ⟨w.heap.size + 1 + 1, 99 + q, none⟩) (by simp; omega) _⟩
      case measure => simp [intOf]; omega
    · have hie : i = m.d.length := by omega
      have e0 : decide ((i : Int) < (m.d.length : Int)) = false := decide_eq_false (by omega)
      have e2 : decide (i < m.d.length) = false := decide_eq_false hlt
      have hfull : bOf V (hdI m.d i) = handO u m k := by
        rw [← HUH.out, hie, hdI_all m.d HD.out, bOf_eq (hdB_len m.d)]
      rw [hfull] at HG
      clear hfull hi hie hlt
      go_wp2_with (first
        | ((with_reducible show wpList _ _ _ (Oper.mk (some 66) (.load _ _) _ _ _ _ :: _) _ _); refine wpList_yields (S := fun w' => ObAt w' (w.heap.size + 2) 0 (handO u m k)) (y_ob (by rfl) (.tmp 9) (by rfl) (w.heap.size + 2) 0 (by rfl) (handO u m k) (fun _ h => h)) HG.out.ob ?_)
        | (go_at_call 59; refine (rput_any (HR.out.below HB.out) HNN.out HLL.out j HJJ.out (handO u m k) rfl).mono ?_; rintro e w5 ⟨g5, c5, rfl, hg5, hr5, b5⟩; have HF := Lib.hid (And.intro (Nat.le_trans HB.out.size hg5) (And.intro hr5 (HB.out.trans (b5.mono HB.out.size)))); clear hr5 hg5 b5))
      go_ret
      exact ⟨g5, c5, rfl, HF.out.1, HF.out.2.1, HF.out.2.2⟩
end
end Go.Proofs.YtljfddeolapeaaaDoor

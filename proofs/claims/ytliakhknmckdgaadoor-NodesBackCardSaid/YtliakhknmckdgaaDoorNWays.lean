/- law 9: a way, two keys: words; a key weak. -/
import Derived.Test.YtliakhknmckdgaaDoorNDo
namespace Go.Proofs.YtliakhknmckdgaaDoor
open Go.ChangeShapes Go.WideShapes Go.ChangeAt Go.RowKit
/-- a row of numbers lies there -/
def RdJ (w : World) (A : Option Addr) (l : List Int) : Prop := ∀ j (h : j < l.length), ∃ b off, A = some ⟨b, off, none⟩ ∧ w.cell? ⟨b, off + j, none⟩ = some (.int .i64 l[j])
/-- a way's cells -/
abbrev wyc (A : Option Addr) (n c : Nat) (z : Ky) : Array Value := #[.slice A n c, .int .i64 z.k, .int .i64 z.o, .int .i64 z.c, .int .i64 z.l, .int .i64 z.r, .int .i64 z.v]
/-- two keys, and a slot -/
abbrev twc (s : Int) (x y : Ky) : Array Value := #[.int .i64 s, .int .i64 x.k, .int .i64 x.o, .int .i64 x.c, .int .i64 x.l, .int .i64 x.r, .int .i64 x.v, .int .i64 y.k, .int .i64 y.o, .int .i64 y.c, .int .i64 y.l, .int .i64 y.r, .int .i64 y.v]
theorem Blk.wy_ {w : World} {g : Nat} {t : TypeId} {A : Option Addr} {n c : Nat} {z : Ky} (h : Blk w g t (wyc A n c z)) : w.cell? ⟨g, 0, none⟩ = some (.slice A n c) ∧ KeyAt w g 1 z := ⟨h.cell 0, ⟨h.cell 1, h.cell 2, h.cell 3, h.cell 4, h.cell 5, h.cell 6⟩⟩
theorem Blk.tw_ {w : World} {g : Nat} {t : TypeId} {s : Int} {x y : Ky} (h : Blk w g t (twc s x y)) : w.cell? ⟨g, 0, none⟩ = some (.int .i64 s) ∧ KeyAt w g 1 x ∧ KeyAt w g 7 y := ⟨h.cell 0, ⟨h.cell 1, h.cell 2, h.cell 3, h.cell 4, h.cell 5, h.cell 6⟩, ⟨h.cell 7, h.cell 8, h.cell 9, h.cell 10, h.cell 11, h.cell 12⟩⟩
theorem Blk.kat {w : World} {g : Nat} {t : TypeId} {x : Ky} (h : Blk w g t (kl x).toArray) : KeyAt w g 0 x := ⟨h.cell 0, h.cell 1, h.cell 2, h.cell 3, h.cell 4, h.cell 5⟩
section
variable {H : Type} {enc : TypeId × Value → H} {W : World} {base : Nat} {held : Bool} {fuel : Nat}
set_option maxRecDepth 8000 in
theorem ints_in {cs : List Value} {x : DataW H × List MemPlace} (h : DataW.trod enc Tryd.prog W base (fun _ => true) held fuel 37 cs = some x) :
    ∃ (A : Option Addr) (c : Nat) (l : List Int), cs = [.slice A l.length c] ∧ RdJ W A l := by
  rcases open_ints Tryd.underlying37 Tryd.underlying3 (by kernel_rfl) h with ⟨rfl, _⟩ | ⟨a, len, cap, zs, rfl, _, hl, hm, hz, hx, hcell, hwz⟩
  · exact ⟨none, 0, [], rfl, fun j hj => absurd hj (by simp)⟩
  · have hz' : zs.length = cap := by simpa using hz
    have htl : (zs.take len).length = len := by rw [List.length_take]; omega
    refine ⟨some a, cap, zs.take len, by rw [htl], fun j hj => ?_⟩
    rw [htl] at hj
    have hs : a.spot = none := by
      have := World.cell?_spot (hcell 0 (by omega))
      simpa [Addr.add] using this
    obtain ⟨b, off, spot⟩ := a
    simp only at hs
    subst hs
    refine ⟨b, off, rfl, ?_⟩
    have := hcell j (by omega)
    rw [add_flat] at this
    rw [this, List.getElem_take, List.getD_eq_getElem?_getD, List.getElem?_eq_getElem (by omega)]
    rfl
set_option maxRecDepth 8000 in
theorem way_cells {cs : List Value} {x : DataW H × List MemPlace} (h : DataW.trod enc Tryd.prog W base (fun _ => true) held fuel 39 cs = some x) : ∃ A c l z, cs = (wyc A l.length c z).toList ∧ RdJ W A l := by
  obtain ⟨xs, n, _, _, hl, hn, hel⟩ := DataW.trod_struct Tryd.underlying39 h
  rw [show Tryd.prog.cellsOf 39 = 7 by kernel_rfl] at hl
  match xs, hn with
  | [y0, y1], _ =>
    have h0 : DataW.trod enc Tryd.prog W base (fun _ => true) held n 37 ((cs.drop 0).take (Tryd.prog.cellsOf 37)) = some y0 := hel 0 _ rfl
    have h1 : DataW.trod enc Tryd.prog W base (fun _ => true) held n 32 ((cs.drop 1).take (Tryd.prog.cellsOf 32)) = some y1 := hel 1 _ rfl
    rw [show Tryd.prog.cellsOf 37 = 1 by kernel_rfl] at h0
    rw [cellsOf30] at h1
    match cs, hl with
    | [c0, c1, c2, c3, c4, c5, c6], _ =>
      obtain ⟨A, c, l, e0, hr⟩ := ints_in h0
      obtain ⟨z, e1⟩ := key_cells h1
      simp only [List.drop_zero, List.take_succ_cons, List.take_zero, List.drop_succ_cons, List.cons.injEq, and_true] at e0 e1
      obtain ⟨rfl, rfl, rfl, rfl, rfl, rfl⟩ := e1
      subst e0
      exact ⟨A, c, l, z, rfl, hr⟩
set_option maxRecDepth 8000 in
theorem open_way {r : Reach} {b0 : Nat} {v : Value} {d : DataW H} {p : List MemPlace} (hv : Value.okWide Tryd.prog W r b0 39 v) (h : DataW.Trod enc Tryd.prog W base (fun _ => true) held 39 v d p) : ∃ A c l z, v = .agg (wyc A l.length c z) ∧ RdJ W A l := by
  obtain ⟨cs, rfl, _⟩ := okWide_struct Tryd.underlying39 hv
  obtain ⟨f, hf⟩ := h
  obtain ⟨A, c, l, z, ho, hr⟩ := way_cells hf
  refine ⟨A, c, l, z, ?_, hr⟩
  obtain ⟨cl⟩ := cs
  simp only [Value.cells] at ho
  subst ho
  rfl
set_option maxRecDepth 8000 in
theorem two_cells {spare : Nat → Bool} {cs : List Value} {x : DataW H × List MemPlace} (h : DataW.trod enc Tryd.prog W base spare held fuel 50 cs = some x) : ∃ s y z, cs = (twc s y z).toList := by
  obtain ⟨xs, n, _, _, hl, hn, hel⟩ := DataW.trod_struct Tryd.underlying50 h
  rw [show Tryd.prog.cellsOf 50 = 13 by kernel_rfl] at hl
  match xs, hn with
  | [y0, y1, y2], _ =>
    have h0 : DataW.trod enc Tryd.prog W base spare held n 3 ((cs.drop 0).take (Tryd.prog.cellsOf 3)) = some y0 := hel 0 _ rfl
    have h1 : DataW.trod enc Tryd.prog W base spare held n 32 ((cs.drop 1).take (Tryd.prog.cellsOf 32)) = some y1 := hel 1 _ rfl
    have h2 : DataW.trod enc Tryd.prog W base spare held n 32 ((cs.drop 7).take (Tryd.prog.cellsOf 32)) = some y2 := hel 2 _ rfl
    rw [show Tryd.prog.cellsOf 3 = 1 by kernel_rfl] at h0
    rw [cellsOf30] at h1 h2
    match cs, hl with
    | [c0, c1, c2, c3, c4, c5, c6, c7, c8, c9, c10, c11, c12], _ =>
      obtain ⟨s, e0, _, _⟩ := DataW.trod_int Tryd.underlying3 h0
      obtain ⟨y, e1⟩ := key_cells h1
      obtain ⟨z, e2⟩ := key_cells h2
      simp only [List.drop_zero, List.take_succ_cons, List.take_zero, List.drop_succ_cons, List.cons.injEq, and_true] at e0 e1 e2
      obtain ⟨rfl, rfl, rfl, rfl, rfl, rfl⟩ := e1
      obtain ⟨rfl, rfl, rfl, rfl, rfl, rfl⟩ := e2
      subst e0
      exact ⟨s, y, z, rfl⟩
set_option maxRecDepth 8000 in
theorem open_two {spare : Nat → Bool} {r : Reach} {b0 : Nat} {v : Value} {d : DataW H} {p : List MemPlace} (hv : Value.okWide Tryd.prog W r b0 50 v) (h : DataW.Trod enc Tryd.prog W base spare held 50 v d p) : ∃ s y z, v = .agg (twc s y z) := by
  obtain ⟨cs, rfl, _⟩ := okWide_struct Tryd.underlying50 hv
  obtain ⟨f, hf⟩ := h
  obtain ⟨s, y, z, ho⟩ := two_cells hf
  refine ⟨s, y, z, ?_⟩
  obtain ⟨cl⟩ := cs
  simp only [Value.cells] at ho
  subst ho
  rfl
end
set_option maxRecDepth 8000 in
-- weak keys
theorem weak_rights {x : Ky} (h : x.ok) (hk : x.weak.k = 2) : x.weak.r % 4 = 3 ∧ x.weak.r / 2 % 2 = 1 := by
  by_cases h1 : x.k = 0 ∨ x.k = 1 ∨ x.k = 8
  · rw [weak_self h1] at hk
    omega
  · by_cases h2 : x.k = 2 ∨ x.k = 3
    · rw [weak_less h2] at hk ⊢
      simp only at hk
      obtain ⟨_, n, hn, hle, h8⟩ := ok_of h
      simp only [hk, hn, Int.toNat_natCast]
      have : ∀ r, r < 8 → lsN r 3 (rm 2) % 4 = 3 ∧ lsN r 3 (rm 2) / 2 % 2 = 1 := by decide
      have := this n h8
      omega
    · rw [weak_void (by omega)] at hk
      exact absurd hk (by simp)
set_option maxRecDepth 8000 in
theorem weak_twice {x : Ky} (h : x.ok) : x.weak.weak = x.weak := by
  by_cases h1 : x.k = 0 ∨ x.k = 1 ∨ x.k = 8
  · rw [weak_self h1, weak_self h1]
  · by_cases h2 : x.k = 2 ∨ x.k = 3
    · have e : x.weak = { x with r := (lsN x.r.toNat 3 (rm x.k) : Nat) } := weak_less h2
      obtain ⟨_, n, hn, hle, h8⟩ := ok_of h
      have h2' : x.weak.k = 2 ∨ x.weak.k = 3 := by rw [e]; exact h2
      rw [weak_less h2', e]
      simp only [hn, Int.toNat_natCast]
      have : ∀ r, r < 8 → (lsN (lsN r 3 (rm 2)) 3 (rm 2) = lsN r 3 (rm 2) ∧ lsN (lsN r 3 (rm 3)) 3 (rm 3) = lsN r 3 (rm 3)) := by decide
      rcases h2 with h2 | h2
      · rw [h2, (this n h8).1]
      · rw [h2, (this n h8).2]
    · rw [weak_void (x := x) (by omega)]
      rfl
/-- it is weak, as keys go -/
def Wkd (x : Ky) : Prop := x.ok ∧ (x.k = 2 → x.r % 4 = 3 ∧ x.r / 2 % 2 = 1)
theorem wkd_weak {x : Ky} (h : x.ok) : Wkd x.weak := ⟨weak_ok h, weak_rights h⟩
set_option maxRecDepth 8000 in
theorem getA_wk {l : List Oj} {x : Ky} (hx : Wkd x) {i : Int} (h : (getA l x i).2 = 0) : askN l x ∧ Wkd (getA l x i).1 ∧ (getA l x i).1.weak = (getA l x i).1 := by
  unfold getA at h ⊢
  split at h
  · next ha =>
    rw [if_pos ha]
    split at h
    · next hi =>
      rw [if_pos hi]
      have h1 := (hx.2 ha.2).2
      simp only
      unfold gotK
      rw [if_pos h1]
      exact ⟨ha, wkd_weak (prepd_ok _ _), weak_twice (prepd_ok _ _)⟩
    · simp at h
  · simp at h
set_option maxRecDepth 8000 in
theorem cweak_yes (x : Ky) (hx : x.ok) (w : World) : Calls Tryd.prog 13 #[x.val] w fun e w' => e = .returned (.tuple #[x.weak.val, .bool true]) ∧ Below w.heap.size w w' := by
  have HB0 := Lib.hid (((Below.refl w.heap.size w).alloc (Nat.le_refl _) (.cells (kc x.k x.o x.c x.l x.r x.v) 32)).alloc (by simp) (.cells (kc 0 0 0 0 0 0) 32))
  have HK0 := Lib.hid ((Blk.new w 32 (kc x.k x.o x.c x.l x.r x.v)).alloc (.cells (kc 0 0 0 0 0 0) 32))
  have HZ0 := Lib.hid (Blk.new_of (w.alloc (.cells (kc x.k x.o x.c x.l x.r x.v) 32)) 32 (kc 0 0 0 0 0 0) (g := w.heap.size + 1) (by simp))
  have HX := Lib.hid hx
  clear hx
  obtain ⟨c0, c1, c2, c3, c4, c5⟩ := HK0.out.six
  go_enter Tryd.func13, Tryd.ntmps13
  go_wp2_with (first
    | (go_at_call 31; refine (Ky.chk_yes HX.out ▸ rchk_any x _).mono ?_; rintro e w1 ⟨rfl, b1⟩; have HB1 := Lib.hid (HB0.out.trans (b1.mono HB0.out.size)); have HK1 := Lib.hid (HK0.out.keep b1); have HZ1 := Lib.hid (HZ0.out.keep b1); clear c0 c1 c2 c3 c4 c5; obtain ⟨c0, c1, c2, c3, c4, c5⟩ := HK1.out.six; clear b1)
    | (go_at_call 32; refine (rweaken_ok x _ HX.out).mono ?_; rintro e w2 ⟨rfl, b2⟩; have HB2 := Lib.hid (HB1.out.trans (b2.mono HB1.out.size)); have HZ2 := Lib.hid (HZ1.out.keep b2); clear b2)
    | (show wpList _ _ _ ({ dst := none, op := .store _ (.tmp 2) (.tmp 9), type := _, pos := _, after := _, guard := _ } :: _) _ _; refine wpList_store_big (l0 := kl zk) HZ2.out rfl (.tmp 2) (.tmp 9) (ty := 32) (l := kl x.weak) rfl (by rfl) (by rfl) size30 rfl (kl_one _) ?_))
  exact bodyPost_ret (res_1t rfl _ _ (w.heap.size + 1) _ _ rfl rfl (load_key x.weak (HZ2.out.setRow _))) rfl ⟨rfl, below_setRow HB2.out (by omega) _⟩
set_option maxRecDepth 8000 in
theorem cweak_no (x : Ky) (hx : ¬ x.ok) (w : World) : Calls Tryd.prog 13 #[x.val] w fun e w' => e = .returned (.tuple #[zk.val, .bool false]) ∧ Below w.heap.size w w' := by
  have HB0 := Lib.hid (((Below.refl w.heap.size w).alloc (Nat.le_refl _) (.cells (kc x.k x.o x.c x.l x.r x.v) 32)).alloc (by simp) (.cells (kc 0 0 0 0 0 0) 32))
  have HK0 := Lib.hid ((Blk.new w 32 (kc x.k x.o x.c x.l x.r x.v)).alloc (.cells (kc 0 0 0 0 0 0) 32))
  have HZ0 := Lib.hid (Blk.new_of (w.alloc (.cells (kc x.k x.o x.c x.l x.r x.v) 32)) 32 (kc 0 0 0 0 0 0) (g := w.heap.size + 1) (by simp))
  have HX := Lib.hid hx
  clear hx
  obtain ⟨c0, c1, c2, c3, c4, c5⟩ := HK0.out.six
  go_enter Tryd.func13, Tryd.ntmps13
  go_wp2_with (first
    | (go_at_call 31; refine (Ky.chk_no HX.out ▸ rchk_any x _).mono ?_; rintro e w1 ⟨rfl, b1⟩; have HB1 := Lib.hid (HB0.out.trans (b1.mono HB0.out.size)); have HZ1 := Lib.hid (HZ0.out.keep b1); clear c0 c1 c2 c3 c4 c5; clear b1)
    | (show wpList _ _ _ ({ dst := some 7, op := .build _ _, type := _, pos := _, after := _, guard := _ } :: _) _ _; refine wpList_yields (S := fun _ => True) (y_build (by rfl) (by rfl) built30) trivial ?_)
    | (show wpList _ _ _ ({ dst := none, op := .store _ (.tmp 2) (.tmp 7), type := _, pos := _, after := _, guard := _ } :: _) _ _; refine wpList_store_big (l0 := kl zk) HZ1.out rfl (.tmp 2) (.tmp 7) (ty := 32) (l := kl zk) rfl (by rfl) (by rfl) size30 rfl (kl_one _) ?_))
  exact bodyPost_ret (res_1t rfl _ _ (w.heap.size + 1) _ _ rfl rfl (load_key zk (HZ1.out.setRow _))) rfl ⟨rfl, below_setRow HB1.out (by omega) _⟩
section
variable {w : World} {base p : Nat} {A : Option Addr} {cap : Nat} {ps : List Nat} {os : List Oj}
set_option maxRecDepth 8000 in
theorem put_wk (h : StAt w base p A cap ps os) (hn : 0 < os.length) (hT : Tab w) (x v : Ky) (i : Int) (ha : askN os x) (hr : x.r % 4 ≠ 0) :
    Calls Tryd.prog 15 #[pv p, x.val, .int .i64 i, v.val] w fun e w' => e = .returned (.tuple #[zk.val, .int .i64 191]) ∧ Below w.heap.size w w' := by
  obtain ⟨j, u, d⟩ := askN_d ha
  exact nput_no (pv p) (.inr ⟨_, rfl⟩) x i v 191 fun W S K I V hW hS hK hI hV => put1_right (h.below hW) hn (hT.below hW) x v u d.nm d.k d.ok hr i hS hK hI hV
set_option maxRecDepth 8000 in
theorem clear_wk (h : StAt w base p A cap ps os) (hn : 0 < os.length) (hT : Tab w) (x : Ky) (ha : askN os x) (hr : x.r % 4 ≠ 0) :
    Calls Tryd.prog 16 #[pv p, x.val] w fun e w' => e = .returned (.int .i64 191) ∧ Below w.heap.size w w' := by
  obtain ⟨j, u, d⟩ := askN_d ha
  exact nclear_no (pv p) (.inr ⟨_, rfl⟩) x 191 fun W S K hW hS hK => clear1_right (h.below hW) hn (hT.below hW) x u d.nm d.k d.ok hr hS hK
set_option maxRecDepth 8000 in
theorem clone_wk (h : StAt w base p A cap ps os) (hn : 0 < os.length) (hT : Tab w) (x v : Ky) (ha : askN os x) (hr : x.r % 4 ≠ 0) :
    Calls Tryd.prog 17 #[pv p, x.val, v.val] w fun e w' => e = .returned (.int .i64 191) ∧ Below w.heap.size w w' := by
  obtain ⟨j, u, d⟩ := askN_d ha
  exact nclone_no (pv p) (.inr ⟨_, rfl⟩) x v 191 fun W S K V hW hS hK hV => clone1_right (h.below hW) hn (hT.below hW) x v u d.nm d.k d.ok hr hS hK hV
end
end Go.Proofs.YtliakhknmckdgaaDoor

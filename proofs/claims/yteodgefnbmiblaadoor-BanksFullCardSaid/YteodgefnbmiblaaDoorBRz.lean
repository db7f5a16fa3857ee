/- banks: destroyed, Raze. -/
import Derived.Test.YteodgefnbmiblaaDoorBAn
namespace Go.Proofs.YteodgefnbmiblaaDoor
open Go.RowKit Go.Shelf
attribute [local go_sem] Oper.semAt_some
-- plain
/-- what is left of one that is razed by the bank whose node is x -/
def razH (x : Int) (i : Nat) (o : Oj) : Oj := if (i : Int) = x ∨ emp o then o else oKC 0 o.c
def razN (os : List Oj) (a : Nat) (x : Int) : Nat → List Oj
  | 0 => os
  | n + 1 => (razN os a x n).set (a + n) (razH x (a + n) ((os[a + n]?).getD oz))
def razC (os : List Oj) (a : Nat) (x : Int) : Nat → Nat
  | 0 => 0
  | n + 1 => razC os a x n + (if ((a + n : Nat) : Int) = x ∨ emp ((os[a + n]?).getD oz) then 0 else 1)
theorem razN_len (os : List Oj) (a : Nat) (x : Int) : ∀ n, (razN os a x n).length = os.length
  | 0 => rfl
  | n + 1 => by rw [razN, List.length_set, razN_len os a x n]
theorem razN_out (os : List Oj) (a : Nat) (x : Int) : ∀ (n i : Nat), i < a ∨ a + n ≤ i → (razN os a x n)[i]? = os[i]?
  | 0, _, _ => rfl
  | n + 1, i, h => by rw [razN, List.getElem?_set_ne (by omega), razN_out os a x n i (by omega)]
theorem razN_in (os : List Oj) (a : Nat) (x : Int) : ∀ (n i : Nat), a ≤ i → i < a + n → (razN os a x n)[i]? = os[i]?.map (razH x i)
  | 0, _, _, _ => by omega
  | n + 1, i, h1, h2 => by
    rw [razN]
    by_cases hi : i = a + n
    · subst hi
      by_cases hl : a + n < os.length
      · rw [List.getElem?_set_self (by rw [razN_len]; exact hl), List.getElem?_eq_getElem hl]
        rfl
      · rw [List.getElem?_eq_none (by rw [List.length_set, razN_len]; omega), List.getElem?_eq_none (by omega)]
        rfl
    · rw [List.getElem?_set_ne (by omega), razN_in os a x n i h1 (by omega)]
set_option maxRecDepth 8000 in
theorem razN_keep (os : List Oj) (a : Nat) (x : Int) (n : Nat) (o : Oj) (h : os[a + n]? = some o) (hk : ((a + n : Nat) : Int) = x ∨ emp o) : razN os a x (n + 1) = razN os a x n := by
  rw [razN, h]
  refine set_same_at _ _ _ ?_
  rw [razN_out os a x n _ (by omega), h]
  unfold razH
  rw [Option.getD_some, if_pos hk]
set_option maxRecDepth 8000 in
theorem razN_put (os : List Oj) (a : Nat) (x : Int) (n : Nat) (o : Oj) (h : os[a + n]? = some o) (hk : ¬ (((a + n : Nat) : Int) = x ∨ emp o)) : razN os a x (n + 1) = (razN os a x n).set (a + n) (oKC 0 o.c) := by
  rw [razN, h]
  unfold razH
  rw [Option.getD_some, if_neg hk]
theorem razC_le (os : List Oj) (a : Nat) (x : Int) : ∀ n, razC os a x n ≤ n
  | 0 => Nat.le_refl _
  | n + 1 => by
    have := razC_le os a x n
    rw [razC]
    split <;> omega
section
variable {w : World} {base p : Nat} {A : Option Addr} {cap : Nat} {ps : List Nat} {os : List Oj}
set_option maxRecDepth 100000 in
set_option maxHeartbeats 2000000 in
theorem dst_own (x : Int) (u o : Oj) : Calls Tryd.prog 31 #[bkv p x u, .int .i64 x, o.val] w fun e w' => e = .returned (.bool false) ∧ Below w.heap.size w w' := by
  have hbl := bkc_len p x u
  have hol := oz_len
  have HB0 := Lib.hid (((Below.refl w.heap.size w).alloc (Nat.le_refl _) (.cells (bkc p x u).toArray 78)).alloc (by simp) (.cells o.cells.toArray 47))
  have HK0 := Lib.hid ((Blk.new w 78 (bkc p x u).toArray).alloc (.cells o.cells.toArray 47))
  have HG0 := Lib.hid (Blk.new_of (w.alloc (.cells (bkc p x u).toArray 78)) 47 o.cells.toArray (g := w.heap.size + 1) (by simp))
  have c163 : ((w.alloc (.cells (bkc p x u).toArray 78)).alloc (.cells o.cells.toArray 47)).cell? ⟨w.heap.size, 163, none⟩ = some (.int .i64 x) := by have := HK0.out.bk.oid; simpa using this
  go_enter Tryd.func31, Tryd.ntmps31
  go_wp2_with fail
  go_ret
  exact ⟨rfl, HB0.out⟩
set_option maxRecDepth 100000 in
set_option maxHeartbeats 2000000 in
theorem dst_emp (x : Int) (u o : Oj) (i : Int) (hi : i ≠ x) (he : emp o) : Calls Tryd.prog 31 #[bkv p x u, .int .i64 i, o.val] w fun e w' => e = .returned (.bool false) ∧ Below w.heap.size w w' := by
  have di : (i == x) = false := by simpa using hi
  have HE := Lib.hid (show decide (emp o) = true from decide_eq_true he)
  clear hi he
  have hbl := bkc_len p x u
  have hol := oz_len
  have HB0 := Lib.hid (((Below.refl w.heap.size w).alloc (Nat.le_refl _) (.cells (bkc p x u).toArray 78)).alloc (by simp) (.cells o.cells.toArray 47))
  have HK0 := Lib.hid ((Blk.new w 78 (bkc p x u).toArray).alloc (.cells o.cells.toArray 47))
  have HG0 := Lib.hid (Blk.new_of (w.alloc (.cells (bkc p x u).toArray 78)) 47 o.cells.toArray (g := w.heap.size + 1) (by simp))
  have c163 : ((w.alloc (.cells (bkc p x u).toArray 78)).alloc (.cells o.cells.toArray 47)).cell? ⟨w.heap.size, 163, none⟩ = some (.int .i64 x) := by have := HK0.out.bk.oid; simpa using this
  go_enter Tryd.func31, Tryd.ntmps31
  go_wp2_with (first
    | (show wpList _ _ _ ({ dst := some 12, op := .load _ _, type := _, pos := _, after := _, guard := _ } :: _) _ _; refine wpList_yields (S := fun w' => ObAt w' (w.heap.size + 1) 0 o) (y_ob (by rfl) (.tmp 5) (by rfl) (w.heap.size + 1) 0 (by rfl) o (fun _ h => h)) HG0.out.ob ?_)
    | (go_at_call 56; refine (empty_any o _).mono ?_; rw [HE.out]; rintro e w1 ⟨rfl, b1⟩; have HB1 := Lib.hid (HB0.out.trans (b1.mono HB0.out.size)); clear b1))
  go_ret
  exact ⟨rfl, HB1.out⟩
set_option maxRecDepth 100000 in
set_option maxHeartbeats 2000000 in
theorem dst_yes (h : StAt w base p A cap ps os) (hT : TabB base w) (x : Int) (u o : Oj) (i : Nat) (hl : i < os.length) (hi : (i : Int) ≠ x) (he : ¬ emp o) (hok : (oKC 0 o.c).ok os.length) : Calls Tryd.prog 31 #[bkv p x u, .int .i64 (i : Int), o.val] w fun e w' => e = .returned (.bool true) ∧ StAt w' base p A cap ps (os.set i (oKC 0 o.c)) ∧ Fr (fun k => k ∈ ps) w w' := by
  have di : ((i : Int) == x) = false := by simpa using hi
  have HE := Lib.hid (show decide (emp o) = false from decide_eq_false he)
  have HL := Lib.hid hl
  have HOK := Lib.hid hok
  have HS := Lib.hid h
  have HT := Lib.hid hT
  clear hi he hl hok
  have hbl := bkc_len p x u
  have hol := oz_len
  have HB0 := Lib.hid (((Below.refl w.heap.size w).alloc (Nat.le_refl _) (.cells (bkc p x u).toArray 78)).alloc (by simp) (.cells o.cells.toArray 47))
  have HK0 := Lib.hid ((Blk.new w 78 (bkc p x u).toArray).alloc (.cells o.cells.toArray 47))
  have HG0 := Lib.hid (Blk.new_of (w.alloc (.cells (bkc p x u).toArray 78)) 47 o.cells.toArray (g := w.heap.size + 1) (by simp))
  have c163 : ((w.alloc (.cells (bkc p x u).toArray 78)).alloc (.cells o.cells.toArray 47)).cell? ⟨w.heap.size, 163, none⟩ = some (.int .i64 x) := by have := HK0.out.bk.oid; simpa using this
  have HO0 := Lib.hid HG0.out.ob.cells.2.1
  clear h hT
  go_enter Tryd.func31, Tryd.ntmps31
  go_wp2_with (first
    | (show wpList _ _ _ ({ dst := some 12, op := .load _ _, type := _, pos := _, after := _, guard := _ } :: _) _ _; refine wpList_yields (S := fun w' => ObAt w' (w.heap.size + 1) 0 o) (y_ob (by rfl) (.tmp 5) (by rfl) (w.heap.size + 1) 0 (by rfl) o (fun _ h => h)) HG0.out.ob ?_)
    | (go_at_call 56; refine (empty_any o _).mono ?_; rw [HE.out]; rintro e w1 ⟨rfl, b1⟩; have HB1 := Lib.hid (HB0.out.trans (b1.mono HB0.out.size)); have HK1 := Lib.hid (HK0.out.keep b1); have HG1 := Lib.hid (HG0.out.keep b1); clear b1 c163; have c164 : w1.cell? ⟨w.heap.size, 164, none⟩ = some (pv p) := by { have := HK1.out.bk.st; simpa using this }; have c1 : w1.cell? ⟨w.heap.size + 1, 1, none⟩ = some (.int .i64 o.c) := by { have := HG1.out.ob.cells.2.1; simpa using this })
    | (show wpList _ _ _ ({ dst := some 20, op := .build _ _, type := _, pos := _, after := _, guard := _ } :: _) _ _; refine wpList_yields (S := fun _ => True) (y_bl2 (by rfl) _ (.tmp 19) (by rfl) (by rfl) (by rfl) (builtO 0 o.c)) trivial ?_)
    | (go_at_call 54; refine (put_ok (HS.out.below HB1.out) (HT.out.up HS.out HB1.out).tab i HL.out (oKC 0 o.c) HOK.out).mono ?_; rintro e w2 ⟨rfl, hs2, f2⟩; have JS := Lib.hid hs2; have JF := Lib.hid ((Fr.of_below HB1.out : Fr (fun k => k ∈ ps) w _).trans f2); clear hs2 f2))
  go_ret
  exact ⟨rfl, JS.out, JF.out⟩
end
/-- how all stands on the way -/
structure Ri (w V : World) (base p : Nat) (A : Option Addr) (cap : Nat) (ps : List Nat) (os : List Oj) (a : Nat) (x : Int) (u : Oj) (n : Nat) : Prop where
  fr : Fr (fun k => k ∈ ps) w V
  sz : w.heap.size + 3 ≤ V.heap.size
  st : StAt V base p A cap ps (razN os a x n)
  b0 : Blk V w.heap.size 78 (bkc p x u).toArray
  b1 : Blk V (w.heap.size + 1) 3 #[.int .i64 (razC os a x n : Int)]
  b3 : Blk V (w.heap.size + 2) 78 (bkc p x u).toArray
  hp : p < w.heap.size
section
variable {w V V' : World} {base p : Nat} {A : Option Addr} {cap : Nat} {ps : List Nat} {os : List Oj} {a n : Nat} {x : Int} {u : Oj}
set_option maxRecDepth 8000 in
theorem Ri.own {X Y : World} {row : Option Nat} (h : Ri w X base p A cap ps os a x u n) (hg : X.grownBy Y row) (hr : ∀ q, row = some q → w.heap.size + 3 ≤ q ∧ ∃ o : Obj, X.heap[q]? = some o ∧ o.isCells = false) : Ri w Y base p A cap ps os a x u n := by
  have hb : ∀ k, k < X.heap.size → k < w.heap.size + 3 → Y.heap[k]? = X.heap[k]? := fun k hk hlt => hg.block k hk (fun e => by have := (hr k e.symm).1; omega)
  refine ⟨⟨hg.os.trans h.fr.os, hg.tape.trans h.fr.tape, hg.output.trans h.fr.output, Nat.le_trans h.fr.size hg.size, fun k hk hs => (hb k (by have := h.fr.size; omega) (by omega)).trans (h.fr.block k hk hs)⟩, Nat.le_trans h.sz hg.size, h.st.keep fun k hk => ?_, (hb _ h.b0.lt (by omega)).trans h.b0, (hb _ h.b1.lt (by omega)).trans h.b1, (hb _ h.b3.lt (by omega)).trans h.b3, h.hp⟩
  obtain ⟨o, ho, hc⟩ := h.st.isCells hk
  refine hg.block k (Array.getElem?_eq_some_iff.1 ho).1 (fun e => ?_)
  obtain ⟨_, o', ho', hc'⟩ := hr k e.symm
  rw [ho] at ho'
  injection ho' with ho'
  subst ho'
  rw [hc] at hc'
  cases hc'
theorem Ri.alloc (h : Ri w V base p A cap ps os a x u n) (o : Obj) : Ri w (V.alloc o) base p A cap ps os a x u n := h.own (World.grownBy_alloc V o none) (fun _ e => by cases e)
theorem Ri.same (h : Ri w V base p A cap ps os a x u n) (e : razN os a x (n + 1) = razN os a x n) (ec : razC os a x (n + 1) = razC os a x n) (hf : Below V.heap.size V V') : Ri w V' base p A cap ps os a x u (n + 1) :=
  ⟨h.fr.trans (Fr.of_below hf), Nat.le_trans h.sz hf.size, by rw [e]; exact h.st.below hf, h.b0.keep hf, by rw [ec]; exact h.b1.keep hf, h.b3.keep hf, h.hp⟩
set_option maxRecDepth 8000 in
/-- one is freed, and counted -/
theorem Ri.put (h : Ri w V base p A cap ps os a x u n) (hf : Fr (fun k => k ∈ ps) V V') (hs : StAt V' base p A cap ps (razN os a x (n + 1))) (ec : (razC os a x (n + 1) : Int) = (razC os a x n : Int) + 1) : Ri w (V'.setCell ⟨w.heap.size + 1, 0, none⟩ (.int .i64 ((razC os a x n : Int) + 1))) base p A cap ps os a x u (n + 1) := by
  have k1 := h.st.blkF hf h.b1 (by decide)
  have hh : ∀ k, k ≠ w.heap.size + 1 → (V'.setCell ⟨w.heap.size + 1, 0, none⟩ (.int .i64 ((razC os a x n : Int) + 1))).heap[k]? = V'.heap[k]? := fun k hk => Below.heap_setCell _ _ _ _ hk
  have hne : ∀ k, stHas p A ps k → k ≠ w.heap.size + 1 := fun k hk e => hs.blk_ne k1 (by decide) (by have := h.hp; omega) (e ▸ hk)
  exact ⟨(h.fr.trans hf).setCell (fun hx => absurd hx (by show ¬ w.heap.size + 1 < w.heap.size; omega)) _, by have := h.sz; have := hf.size; simp [World.setCell]; omega, hs.keep fun k hk => hh k (hne k hk), (hh _ (by omega)).trans (h.st.blkF hf h.b0 (by decide)), by rw [ec]; exact set_same k1 _, (hh _ (by omega)).trans (h.st.blkF hf h.b3 (by decide)), h.hp⟩
end
section
variable {w : World} {base p : Nat} {A : Option Addr} {cap : Nat} {ps : List Nat} {os : List Oj}
set_option maxRecDepth 100000 in
set_option maxHeartbeats 8000000 in
theorem cl_raze (h : StAt w base p A cap ps os) (ho : okAll os.length os) (hT : TabB base w) (x : Int) (u : Oj) (a b : Nat) (ha : (sl0 u).v = (a : Int)) (hb : (sl1 u).v = (b : Int)) (hab : a ≤ b) (hbl : b < os.length) (hN : os.length ≤ 64) :
    Calls Tryd.prog 39 #[bkv p x u] w fun e w' => e = .returned (.int .i64 (razC os a x (b + 1 - a) : Int)) ∧ StAt w' base p A cap ps (razN os a x (b + 1 - a)) ∧ Fr (fun k => k ∈ ps) w w' := by
  have hFw : ∀ f, Fence.wide.fn f := fun _ => trivial
  have hz := z34
  have hol := oz_len
  have hbl' := bkc_len p x u
  have HS := Lib.hid h
  have HO := Lib.hid ho
  have HT := Lib.hid hT
  have HA := Lib.hid ha
  have HBV := Lib.hid hb
  have HAB := Lib.hid hab
  have HBL := Lib.hid hbl
  have HNN := Lib.hid hN
  clear h ho hT ha hb hab hbl hN
  refine (callsIn_wide (n := 4)).1 (calls_of_wpAt Tryd.func39 rfl ?_)
  simp only [Tryd.ntmps39, List.size_toArray, List.length_cons, List.length_nil, Nat.reduceAdd, Nat.reduceSub, Array.replicate_succ, Array.replicate_zero, List.push_toArray, List.append_toArray, List.nil_append, List.cons_append]
  refine wpAt_head (n := 4) ?_
  gi_wp2
  have HFR0 := Lib.hid (Fr.of_below (((Below.refl w.heap.size w).alloc (Nat.le_refl _) (.cells (bkc p x u).toArray 78)).alloc (by simp) (.cells #[.int .i64 0] 3)) : Fr (fun k => k ∈ ps) w ((w.alloc (.cells (bkc p x u).toArray 78)).alloc (.cells #[.int .i64 0] 3)))
  have HS0 := Lib.hid (show StAt ((w.alloc (.cells (bkc p x u).toArray 78)).alloc (.cells #[.int .i64 0] 3)) base p A cap ps os from (HS.out.alloc _).alloc _)
  have HK0 := Lib.hid (show Blk ((w.alloc (.cells (bkc p x u).toArray 78)).alloc (.cells #[.int .i64 0] 3)) w.heap.size 78 (bkc p x u).toArray from (Blk.new w _ _).alloc _)
  have HK1 := Lib.hid (show Blk ((w.alloc (.cells (bkc p x u).toArray 78)).alloc (.cells #[.int .i64 0] 3)) (w.heap.size + 1) 3 #[.int .i64 0] from Blk.new_of _ _ _ (by simp))
  have SZ := Lib.hid (show (((w.alloc (.cells (bkc p x u).toArray 78)).alloc (.cells #[.int .i64 0] 3))).heap.size = w.heap.size + 2 by simp)
  generalize ((w.alloc (.cells (bkc p x u).toArray 78)).alloc (.cells #[.int .i64 0] 3)) = W2 at HFR0 HS0 HK0 HK1 SZ ⊢
  refine wpAt_seq (wpAt_head (n := 4) ?_)
  gi_wp2_with (first
    | (refine wpListIn_yields (S := fun w' => BkAt w' w.heap.size 0 p x u) (fun _ => trivial) (by intro c hc'; cases hc') (y_bk (by rfl) (.tmp 1) (by rfl) w.heap.size 0 (by rfl) p x u (fun _ h => h)) HK0.out.bk ?_)
    | (gi_at_call 40; refine ((callsIn_wide (n := 3)).2 (ball_any p x u _)).mono ?_; rintro e w1 ⟨rfl, rfl⟩))
  refine wpAt_block ?_
  rw [SZ.out]
  have HM0 := Lib.hid (show Ri w (W2.alloc (.cells (bkc p x u).toArray 78)) base p A cap ps os a x u 0 from ⟨HFR0.out.then_ (Fr.of_below ((Below.refl W2.heap.size W2).alloc (Nat.le_refl _) _)) (fun _ _ h => h), by have := SZ.out; simp; omega, HS0.out.alloc _, HK0.out.alloc _, HK1.out.alloc _, Blk.new_of W2 78 (bkc p x u).toArray (by have := SZ.out; omega), (HS.out.lt p (.inl rfl)).2⟩)
  have SZ3 := Lib.hid (show (W2.alloc (.cells (bkc p x u).toArray 78)).heap.size = w.heap.size + 3 by have := SZ.out; simp; omega)
  generalize W2.alloc (.cells (bkc p x u).toArray 78) = W3 at HM0 SZ3 ⊢
  clear HFR0 HS0 HK0 HK1 SZ
  refine rangeP (α := Ie os) (n := 4) Tryd.func39 (a := { tmps := #[bkv p x u, .pointer (some ⟨w.heap.size, 0, none⟩), .pointer (some ⟨w.heap.size + 1, 0, none⟩), undef, undef, bkv p x u, .func (.func 60) #[] #[pv (w.heap.size + 2)], undef, undef, undef, undef, undef, undef, undef, undef, undef], defers := [] }) (gf := 60) rfl (enters_of Tryd.func60 (by kernel_rfl) rfl)
    (ball_in 3 (by omega) (w.heap.size + 2) p x u os a b HA.out HBV.out HAB.out HBL.out HNN.out) (fun _ => rfl)
    (fun pre V => Ri w V base p A cap ps os a x u pre.length)
    (fun _ _ _ => False) (fun _ _ _ => False)
    (fun pre X Y row hs hg hr => hs.own hg (fun q e => ⟨by have := (hr q e).1; have := SZ3.out; omega, (hr q e).2⟩))
    (fun _ _ _ _ _ hs _ _ => hs.elim)
    (fun pre V hi => ⟨hi.b3, base, A, cap, ps, _, hi.st, razN_len _ _ _ _, razN_out _ _ _ _ _ (.inr (Nat.le_refl _))⟩)
    HM0.out
    (fun y a' V => ∃ b7, a' = { tmps := #[bkv p x u, .pointer (some ⟨w.heap.size, 0, none⟩), .pointer (some ⟨w.heap.size + 1, 0, none⟩), .int .i64 (y.i : Int), .pointer (some ⟨b7, 0, none⟩), bkv p x u, .func (.func 60) #[] #[pv (w.heap.size + 2)], .int .i64 (y.i : Int), y.o.val, undef, undef, undef, undef, undef, undef, undef], defers := [] } ∧ Blk V b7 47 y.o.cells.toArray)
    (fun y a' s X Y row hs hg hr => by
      obtain ⟨b7, h1, h2⟩ := hs
      exact ⟨b7, h1, own_blk W3.heap.size b7 _ (fun _ => _) s X Y row h2 hg hr⟩)
    ?assign ?body ?done ?stop ?panic
  case panic => exact fun _ _ _ _ _ hf _ => hf.elim
  case stop => exact fun _ _ _ _ _ hf _ => hf.elim
  case assign =>
    intro l pre y V K hi hTy hK
    have hk := hK { tmps := #[bkv p x u, .pointer (some ⟨w.heap.size, 0, none⟩), .pointer (some ⟨w.heap.size + 1, 0, none⟩), .int .i64 (y.i : Int), .pointer (some ⟨V.heap.size, 0, none⟩), bkv p x u, .func (.func 60) #[] #[pv (w.heap.size + 2)], .int .i64 (y.i : Int), y.o.val, undef, undef, undef, undef, undef, undef, undef], defers := [] } (V.alloc (.cells y.o.cells.toArray 47)) ((KeepsOthers.alloc V _).from _) (hi.alloc _) ⟨V.heap.size, rfl, Blk.new V _ _⟩
    have HKK2 := Lib.hid hk
    clear hK hk hi hTy
    gi_wp2_with (refine wpListIn_store_last rfl (.tmp 4) (.tmp 8) rfl _ rfl rfl y.o oz rfl ?_)
    exact HKK2.out
  case body =>
    rintro l pre y a' V hi ⟨b7, rfl, hb7⟩ ⟨hT1, hT2⟩
    have HI := Lib.hid hi
    have HT1 := Lib.hid hT1
    have HY := Lib.hid (show os[a + pre.length]? = some y.o by rw [← hT1, List.getElem?_eq_getElem y.lt]; rfl)
    have HPX := Lib.hid (show (pre ++ [y]).length = pre.length + 1 by simp)
    have HB7 := Lib.hid hb7
    have HYL := Lib.hid y.lt
    have HOK := Lib.hid (show y.o.ok os.length from HO.out _ (List.getElem_mem y.lt))
    have HYT := Lib.hid (show (y.i : Int) = ((a + pre.length : Nat) : Int) by rw [hT1])
    have k1 : V.cell? ⟨w.heap.size + 1, 0, none⟩ = some (.int .i64 (razC os a x pre.length : Int)) := hi.b1.one
    clear hi hb7 hT1 hT2
    by_cases hx : ((a + pre.length : Nat) : Int) = x ∨ emp y.o
    · have HKP := Lib.hid (razN_keep os a x pre.length y.o HY.out hx)
      have HKC := Lib.hid (show razC os a x (pre.length + 1) = razC os a x pre.length by rw [razC, HY.out, Option.getD_some, if_pos hx]; rfl)
      have HDN := Lib.hid (show ∀ W, Calls Tryd.prog 31 #[bkv p x u, .int .i64 (y.i : Int), y.o.val] W fun e w' => e = .returned (.bool false) ∧ Below W.heap.size W w' from fun W => by
        rw [HYT.out]
        by_cases h1 : ((a + pre.length : Nat) : Int) = x
        · rw [h1]
          exact dst_own x u y.o
        · exact dst_emp x u y.o _ h1 (hx.resolve_left h1))
      clear hx
      gi_wp2_with (first
        | (show wpListIn _ _ _ _ _ ({ dst := some 9, op := .load _ _, type := _, pos := _, after := _, guard := _ } :: _) _ _; refine wpListIn_yields (S := fun w' => BkAt w' w.heap.size 0 p x u) (fun _ => trivial) (by intro c hc'; cases hc') (y_bk (by rfl) (.tmp 1) (by rfl) w.heap.size 0 (by rfl) p x u (fun _ h => h)) HI.out.b0.bk ?_)
        | (show wpListIn _ _ _ _ _ ({ dst := some 11, op := .load _ _, type := _, pos := _, after := _, guard := _ } :: _) _ _; refine wpListIn_ob rfl (.tmp 4) rfl b7 0 rfl y.o HB7.out.ob ?_)
        | (gi_at_call 31; refine (CallsIn.inRound l ((callsIn_wide (n := 1)).2 (HDN.out _))).mono ?_; rintro e w2 ⟨rfl, b2⟩; have JB := Lib.hid b2; clear b2))
      refine ⟨(HI.out.st.keepsF (Fr.of_below JB.out) _), ?_⟩
      show Ri w w2 base p A cap ps os a x u (pre ++ [y]).length
      rw [HPX.out]
      exact HI.out.same HKP.out HKC.out JB.out
    · have HKP := Lib.hid (razN_put os a x pre.length y.o HY.out hx)
      have HKC := Lib.hid (show razC os a x (pre.length + 1) = razC os a x pre.length + 1 by rw [razC, HY.out, Option.getD_some, if_neg hx])
      have HDN := Lib.hid (show Calls Tryd.prog 31 #[bkv p x u, .int .i64 (y.i : Int), y.o.val] V fun e w' => e = .returned (.bool true) ∧ StAt w' base p A cap ps ((razN os a x pre.length).set y.i (oKC 0 y.o.c)) ∧ Fr (fun k => k ∈ ps) V w' from dst_yes HI.out.st (HT.out.fr HS.out HI.out.fr) x u y.o y.i (by rw [razN_len]; exact HYL.out) (by rw [HYT.out]; exact fun e => hx (.inl e)) (fun e => hx (.inr e)) (by rw [razN_len]; exact oKC_ok HOK.out.1 (.inl rfl) HOK.out.2.1))
      have HCL := Lib.hid (show razC os a x pre.length < 64 by have := razC_le os a x pre.length; have h1 := HT1.out; have h2 := HYL.out; have h3 := HNN.out; omega)
      have hcl : (razC os a x pre.length : Int) < 64 := by have := HCL.out; omega
      have hc0 : (0 : Int) ≤ (razC os a x pre.length : Int) := by omega
      clear hx k1
      gi_wp2_with (first
        | (show wpListIn _ _ _ _ _ ({ dst := some 9, op := .load _ _, type := _, pos := _, after := _, guard := _ } :: _) _ _; refine wpListIn_yields (S := fun w' => BkAt w' w.heap.size 0 p x u) (fun _ => trivial) (by intro c hc'; cases hc') (y_bk (by rfl) (.tmp 1) (by rfl) w.heap.size 0 (by rfl) p x u (fun _ h => h)) HI.out.b0.bk ?_)
        | (show wpListIn _ _ _ _ _ ({ dst := some 11, op := .load _ _, type := _, pos := _, after := _, guard := _ } :: _) _ _; refine wpListIn_ob rfl (.tmp 4) rfl b7 0 rfl y.o HB7.out.ob ?_)
        | (gi_at_call 31; refine (CallsIn.inRound l ((callsIn_wide (n := 1)).2 HDN.out)).mono ?_; rintro e w2 ⟨rfl, hs2, f2⟩; have JS := Lib.hid hs2; have JF := Lib.hid f2; have k1 : w2.cell? ⟨w.heap.size + 1, 0, none⟩ = some (.int .i64 (razC os a x pre.length : Int)) := (HI.out.st.blkF f2 HI.out.b1 (by decide)).one; have z1 : w2.frozen? ⟨w.heap.size + 1, 0, none⟩ = false := (HI.out.st.blkF f2 HI.out.b1 (by decide)).frozen 0; clear hs2 f2))
      refine ⟨⟨by have := JF.out.size; simpa [World.setCell] using this, fun k o' hB ho hc => ?_⟩, ?_⟩
      · have h1 := (HI.out.st.keepsF JF.out W3.heap.size).same k o' hB ho hc
        exact (Below.heap_setCell _ _ _ _ (by have := SZ3.out; show k ≠ w.heap.size + 1; omega)).trans h1
      · show Ri w _ base p A cap ps os a x u (pre ++ [y]).length
        rw [HPX.out]
        refine HI.out.put JF.out ?_ (by rw [HKC.out]; omega)
        rw [HKP.out, ← HT1.out]
        exact JS.out
  case done =>
    rintro D xs V hD hS hi hK
    have HI := Lib.hid hi
    have HK := Lib.hid hK
    have HD := Lib.hid (show w.heap.size + 3 ≤ D by have := SZ3.out; omega)
    have HXL := Lib.hid hS
    have k1 : V.cell? ⟨w.heap.size + 1, 0, none⟩ = some (.int .i64 (razC os a x xs.length : Int)) := hi.b1.one
    have z1 : V.frozen? ⟨w.heap.size + 1, 0, none⟩ = false := hi.b1.frozen 0
    clear hi hK hD hS
    refine wpAt_of (n := 4) (wpIn_wide.2 ?_)
    go_wp2_with fail
    have hDne : D ≠ w.heap.size + 1 := by have := HD.out; omega
    have JD : (V.setCell ⟨w.heap.size + 1, 0, none⟩ (.int .i64 (razC os a x xs.length : Int))).heap[D]? = some (.deferred (some [])) := (Below.heap_setCell _ _ _ _ hDne).trans HK.out
    have JZ : Blk (V.setCell ⟨w.heap.size + 1, 0, none⟩ (.int .i64 (razC os a x xs.length : Int))) (w.heap.size + 1) 3 #[.int .i64 (razC os a x xs.length : Int)] := set_same HI.out.b1 _
    have JS : StAt (V.setCell ⟨w.heap.size + 1, 0, none⟩ (.int .i64 (razC os a x xs.length : Int))) base p A cap ps (razN os a x xs.length) := HI.out.st.keep fun k hk => Below.heap_setCell _ _ _ _ (fun e => HI.out.st.blk_ne HI.out.b1 (by decide) (by have := HI.out.hp; omega) (by simp only at e; exact e ▸ hk))
    refine ⟨by simp, .inl ⟨_, _, rfl, run_takeDeferred JD, ?_⟩⟩
    refine ⟨_, res_1 rfl _ _ (w.heap.size + 1) _ rfl (load_i (razC os a x xs.length : Int) ((World.putObj_heap_other (by omega)).trans JZ)), ?_⟩
    rw [← HXL.out]
    exact ⟨rfl, JS.shut JD, (HI.out.fr.setCell (fun hx => absurd hx (by show ¬ w.heap.size + 1 < w.heap.size; omega)) _).putObj (Nat.le_refl _) (by have := HD.out; omega) _⟩
end
end Go.Proofs.YteodgefnbmiblaaDoor

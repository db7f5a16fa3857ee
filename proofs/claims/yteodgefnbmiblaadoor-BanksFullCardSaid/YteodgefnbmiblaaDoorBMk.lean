/- banks: made: what is made of what is free. -/
import Derived.Test.YteodgefnbmiblaaDoorBAll
import Derived.Test.YteodgefnbmiblaaDoorBIu
import Derived.Test.YteodgefnbmiblaaDoorBIsb
import Derived.Test.YteodgefnbmiblaaDoorR17
namespace Go.Proofs.YteodgefnbmiblaaDoor
open Go.RowKit Go.Shelf
attribute [local go_sem] Oper.semAt_some
set_option maxRecDepth 8000 in
theorem wrap_lt {c : Int} (h1 : -9223372036854775808 ≤ c) (h2 : c < 9223372036854775808) : IntKind.i64.wrap c = c := by
  exact IntWalk.i64_in _ (by omega)
/-- how all stands on the way: so many are behind, the key is kx -/
structure Mi (w V : World) (base p : Nat) (A : Option Addr) (cap : Nat) (ps : List Nat) (os : List Oj) (a : Nat) (x : Int) (u : Oj) (n : Nat) (kx : Ky) : Prop where
  fr : Fr (fun k => k ∈ ps) w V
  sz : w.heap.size + 4 ≤ V.heap.size
  st : StAt V base p A cap ps (retN os a n)
  b0 : Blk V w.heap.size 78 (bkc p x u).toArray
  b1 : Blk V (w.heap.size + 1) 33 (kl zk).toArray
  b2 : Blk V (w.heap.size + 2) 33 (kl kx).toArray
  b3 : Blk V (w.heap.size + 3) 78 (bkc p x u).toArray
  hp : p < w.heap.size
section
variable {w V V' : World} {base p : Nat} {A : Option Addr} {cap : Nat} {ps : List Nat} {os : List Oj} {a n : Nat} {x : Int} {u : Oj} {kx : Ky}
set_option maxRecDepth 8000 in
theorem Mi.own {X Y : World} {row : Option Nat} (h : Mi w X base p A cap ps os a x u n kx) (hg : X.grownBy Y row) (hr : ∀ q, row = some q → w.heap.size + 4 ≤ q ∧ ∃ o : Obj, X.heap[q]? = some o ∧ o.isCells = false) : Mi w Y base p A cap ps os a x u n kx := by
  have hb : ∀ k, k < X.heap.size → k < w.heap.size + 4 → Y.heap[k]? = X.heap[k]? := fun k hk hlt => hg.block k hk (fun e => by have := (hr k e.symm).1; omega)
  refine ⟨⟨hg.os.trans h.fr.os, hg.tape.trans h.fr.tape, hg.output.trans h.fr.output, Nat.le_trans h.fr.size hg.size, fun k hk hs => (hb k (by have := h.fr.size; omega) (by omega)).trans (h.fr.block k hk hs)⟩, Nat.le_trans h.sz hg.size, h.st.keep fun k hk => ?_, (hb _ h.b0.lt (by omega)).trans h.b0, (hb _ h.b1.lt (by omega)).trans h.b1, (hb _ h.b2.lt (by omega)).trans h.b2, (hb _ h.b3.lt (by omega)).trans h.b3, h.hp⟩
  obtain ⟨o, ho, hc⟩ := h.st.isCells hk
  refine hg.block k (Array.getElem?_eq_some_iff.1 ho).1 (fun e => ?_)
  obtain ⟨_, o', ho', hc'⟩ := hr k e.symm
  rw [ho] at ho'
  injection ho' with ho'
  subst ho'
  rw [hc] at hc'
  cases hc'
theorem Mi.alloc (h : Mi w V base p A cap ps os a x u n kx) (o : Obj) : Mi w (V.alloc o) base p A cap ps os a x u n kx := h.own (World.grownBy_alloc V o none) (fun _ e => by cases e)
theorem Mi.same (h : Mi w V base p A cap ps os a x u n kx) (e : retN os a (n + 1) = retN os a n) : Mi w V base p A cap ps os a x u (n + 1) kx := ⟨h.fr, h.sz, by rw [e]; exact h.st, h.b0, h.b1, h.b2, h.b3, h.hp⟩
set_option maxRecDepth 8000 in
/-- the key's number and count are laid -/
theorem Mi.set (h : Mi w V base p A cap ps os a x u n kx) (i c : Int) : Mi w ((V.setCell ⟨w.heap.size + 1 + 1, 1, none⟩ (.int .i64 i)).setCell ⟨w.heap.size + 1 + 1, 2, none⟩ (.int .i64 c)).drew base p A cap ps os a x u n { kx with o := i, c := c } := by
  have hne : ∀ k, stHas p A ps k → k ≠ w.heap.size + 2 := fun k hk e => h.st.blk_ne h.b2 (by decide) (by have := h.hp; omega) (e ▸ hk)
  have hh : ∀ k, k ≠ w.heap.size + 2 → ((V.setCell ⟨w.heap.size + 1 + 1, 1, none⟩ (.int .i64 i)).setCell ⟨w.heap.size + 1 + 1, 2, none⟩ (.int .i64 c)).drew.heap[k]? = V.heap[k]? := fun k hk => (Below.heap_setCell _ _ _ _ hk).trans (Below.heap_setCell _ _ _ _ hk)
  have hb : Fr (fun _ => False) w w := Fr.refl _ _
  exact ⟨((h.fr.setCell (fun hx => absurd hx (by show ¬ w.heap.size + 1 + 1 < w.heap.size; omega)) _).setCell (fun hx => absurd hx (by show ¬ w.heap.size + 1 + 1 < w.heap.size; omega)) _).drew, by have := h.sz; simpa [World.setCell] using this, h.st.keep fun k hk => hh k (hne k hk), (hh _ (by omega)).trans h.b0, (hh _ (by omega)).trans h.b1, ((h.b2.set_ 1 (.int .i64 i)).set_ 2 (.int .i64 c)).drew, (hh _ (by omega)).trans h.b3, h.hp⟩
/-- one is retired -/
theorem Mi.put (h : Mi w V base p A cap ps os a x u n kx) (hf : Fr (fun k => k ∈ ps) V V') (hs : StAt V' base p A cap ps (retN os a (n + 1))) : Mi w V' base p A cap ps os a x u (n + 1) kx :=
  ⟨h.fr.trans hf, Nat.le_trans h.sz hf.size, hs, h.st.blkF hf h.b0 (by decide), h.st.blkF hf h.b1 (by decide), h.st.blkF hf h.b2 (by decide), h.st.blkF hf h.b3 (by decide), h.hp⟩
end
section
variable {w : World} {base p : Nat} {A : Option Addr} {cap : Nat} {ps : List Nat} {os : List Oj}
/-- the key of what is made -/
def mkK (os : List Oj) (i : Nat) (kk : Int) : Ky := ⟨kk, (i : Int), ((os[i]?).getD oz).c + 1, 0, 0, 0⟩
/-- how a making ends -/
def MkE (os : List Oj) (a b : Nat) (kk : Int) (e : Ending) : Prop := match fnd os a (b + 1 - a) with
  | some j => e = .returned (mkK os (a + j) kk).val
  | none => e = .panicked (erc 221)
set_option maxRecDepth 100000 in
set_option maxHeartbeats 4000000 in
theorem made_arg (x : Int) (u : Oj) (kind : Int) (h1 : kind ≠ 1) (h2 : kind ≠ 2) : Calls Tryd.prog 27 #[bkv p x u, .int .i64 kind] w fun e w' => e = .panicked (erc 2) ∧ Below w.heap.size w w' := by
  have HB := Lib.hid (((Below.refl w.heap.size w).alloc (Nat.le_refl _) (.cells (bkc p x u).toArray 78)).alloc (by simp) (.cells (kl zk).toArray 33))
  refine (callsIn_wide (n := 4)).1 (calls_of_wpAt Tryd.func27 rfl ?_)
  simp only [Tryd.ntmps27, List.size_toArray, List.length_cons, List.length_nil, Nat.reduceAdd, Nat.reduceSub, Array.replicate_succ, Array.replicate_zero, List.push_toArray, List.append_toArray, List.nil_append, List.cons_append]
  refine wpAt_head (n := 4) ?_
  gi_wp2
  refine wpAt_scope (wpAt_of (n := 4) (wpIn_wide.2 ?_))
  go_wp2_with (go_at_call 53; refine (kind_none kind h1 h2 _).mono ?_; rintro e w1 ⟨rfl, rfl⟩)
  exact ⟨rfl, HB.out⟩
set_option maxRecDepth 100000 in
set_option maxHeartbeats 8000000 in
theorem made_all (h : StAt w base p A cap ps os) (ho : okAll os.length os) (hT : TabB base w) (x : Int) (u : Oj) (a b : Nat) (ha : (sl0 u).v = (a : Int)) (hb : (sl1 u).v = (b : Int)) (hab : a ≤ b) (hbl : b < os.length) (hN : os.length ≤ 64) (kind kk : Int)
    (hkk : kind = 1 ∨ kind = 2) (hkw : ∀ W, Calls Tryd.prog 53 #[.int .i64 kind] W fun e w' => e = .returned (.int .i64 kk) ∧ W = w') :
    Calls Tryd.prog 27 #[bkv p x u, .int .i64 kind] w fun e w' => MkE os a b kk e ∧ StAt w' base p A cap ps (mkL os a b kind) ∧ Fr (fun k => k ∈ ps) w w' := by
  have hFw : ∀ f, Fence.wide.fn f := fun _ => trivial
  have hz := z34
  have hol := oz_len
  have hbl' := bkc_len p x u
  have HS := Lib.hid h
  have HO := Lib.hid ho
  have HT := Lib.hid hT
  have HA := Lib.hid ha
  have HBV := Lib.hid hb
  have HAB := Lib.hid hab
  have HBL := Lib.hid hbl
  have HNN := Lib.hid hN
  have HKK := Lib.hid hkk
  have HKW := Lib.hid hkw
  have HBK := Lib.hid (builtK1 kk)
  clear h ho hT ha hb hab hbl hN hkk hkw
  refine (callsIn_wide (n := 4)).1 (calls_of_wpAt Tryd.func27 rfl ?_)
  simp only [Tryd.ntmps27, List.size_toArray, List.length_cons, List.length_nil, Nat.reduceAdd, Nat.reduceSub, Array.replicate_succ, Array.replicate_zero, List.push_toArray, List.append_toArray, List.nil_append, List.cons_append]
  refine wpAt_head (n := 4) ?_
  gi_wp2
  refine wpAt_scope (wpAt_head (n := 4) ?_)
  gi_wp2_with (gi_at_call 53; refine ((callsIn_wide (n := 3)).2 (HKW.out _)).mono ?_; rintro e w1 ⟨rfl, rfl⟩)
  refine wpAt_seq (wpAt_of (n := 4) (wpIn_label ?_))
  have HFR0 := Lib.hid (Fr.of_below ((((Below.refl w.heap.size w).alloc (Nat.le_refl _) (.cells (bkc p x u).toArray 78)).alloc (by simp) (.cells #[.int .i64 0, .int .i64 0, .int .i64 0, .int .i64 0, .int .i64 0, .int .i64 0] 33)).alloc (by simp; omega) (.cells #[.int .i64 kk, .int .i64 0, .int .i64 0, .int .i64 0, .int .i64 0, .int .i64 0] 33)) : Fr (fun k => k ∈ ps) w (((w.alloc (.cells (bkc p x u).toArray 78)).alloc (.cells #[.int .i64 0, .int .i64 0, .int .i64 0, .int .i64 0, .int .i64 0, .int .i64 0] 33)).alloc (.cells #[.int .i64 kk, .int .i64 0, .int .i64 0, .int .i64 0, .int .i64 0, .int .i64 0] 33)))
  have HS0 := Lib.hid (show StAt (((w.alloc (.cells (bkc p x u).toArray 78)).alloc (.cells #[.int .i64 0, .int .i64 0, .int .i64 0, .int .i64 0, .int .i64 0, .int .i64 0] 33)).alloc (.cells #[.int .i64 kk, .int .i64 0, .int .i64 0, .int .i64 0, .int .i64 0, .int .i64 0] 33)) base p A cap ps os from ((HS.out.alloc _).alloc _).alloc _)
  have HK0 := Lib.hid (show Blk (((w.alloc (.cells (bkc p x u).toArray 78)).alloc (.cells #[.int .i64 0, .int .i64 0, .int .i64 0, .int .i64 0, .int .i64 0, .int .i64 0] 33)).alloc (.cells #[.int .i64 kk, .int .i64 0, .int .i64 0, .int .i64 0, .int .i64 0, .int .i64 0] 33)) w.heap.size 78 (bkc p x u).toArray from ((Blk.new w _ _).alloc _).alloc _)
  have HK1 := Lib.hid (show Blk (((w.alloc (.cells (bkc p x u).toArray 78)).alloc (.cells #[.int .i64 0, .int .i64 0, .int .i64 0, .int .i64 0, .int .i64 0, .int .i64 0] 33)).alloc (.cells #[.int .i64 kk, .int .i64 0, .int .i64 0, .int .i64 0, .int .i64 0, .int .i64 0] 33)) (w.heap.size + 1) 33 (kl zk).toArray from (Blk.new_of (w.alloc (.cells (bkc p x u).toArray 78)) 33 (kl zk).toArray (g := w.heap.size + 1) (by simp)).alloc _)
  have HK2 := Lib.hid (show Blk (((w.alloc (.cells (bkc p x u).toArray 78)).alloc (.cells #[.int .i64 0, .int .i64 0, .int .i64 0, .int .i64 0, .int .i64 0, .int .i64 0] 33)).alloc (.cells #[.int .i64 kk, .int .i64 0, .int .i64 0, .int .i64 0, .int .i64 0, .int .i64 0] 33)) (w.heap.size + 2) 33 (kl ⟨kk, 0, 0, 0, 0, 0⟩).toArray from Blk.new_of _ 33 (kl ⟨kk, 0, 0, 0, 0, 0⟩).toArray (g := w.heap.size + 2) (by simp))
  have SZ := Lib.hid (show ((((w.alloc (.cells (bkc p x u).toArray 78)).alloc (.cells #[.int .i64 0, .int .i64 0, .int .i64 0, .int .i64 0, .int .i64 0, .int .i64 0] 33)).alloc (.cells #[.int .i64 kk, .int .i64 0, .int .i64 0, .int .i64 0, .int .i64 0, .int .i64 0] 33))).heap.size = w.heap.size + 3 by simp)
  generalize (((w.alloc (.cells (bkc p x u).toArray 78)).alloc (.cells #[.int .i64 0, .int .i64 0, .int .i64 0, .int .i64 0, .int .i64 0, .int .i64 0] 33)).alloc (.cells #[.int .i64 kk, .int .i64 0, .int .i64 0, .int .i64 0, .int .i64 0, .int .i64 0] 33)) = W2 at HFR0 HS0 HK0 HK1 HK2 SZ ⊢
  refine wpAt_seq (wpAt_head (n := 4) ?_)
  gi_wp2_with (first
    | (refine wpListIn_yields (S := fun w' => BkAt w' w.heap.size 0 p x u) (fun _ => trivial) (by intro c hc'; cases hc') (y_bk (by rfl) (.tmp 2) (by rfl) w.heap.size 0 (by rfl) p x u (fun _ h => h)) HK0.out.bk ?_)
    | (gi_at_call 40; refine ((callsIn_wide (n := 3)).2 (ball_any p x u _)).mono ?_; rintro e w1 ⟨rfl, rfl⟩))
  refine wpAt_block ?_
  rw [SZ.out]
  have HM0 := Lib.hid (show Mi w (W2.alloc (.cells (bkc p x u).toArray 78)) base p A cap ps os a x u 0 ⟨kk, 0, 0, 0, 0, 0⟩ from ⟨HFR0.out.then_ (Fr.of_below ((Below.refl W2.heap.size W2).alloc (Nat.le_refl _) _)) (fun _ _ h => h), by have := SZ.out; simp; omega, HS0.out.alloc _, HK0.out.alloc _, HK1.out.alloc _, HK2.out.alloc _, Blk.new_of W2 78 (bkc p x u).toArray (by have := SZ.out; omega), (HS.out.lt p (.inl rfl)).2⟩)
  have SZ3 := Lib.hid (show (W2.alloc (.cells (bkc p x u).toArray 78)).heap.size = w.heap.size + 4 by have := SZ.out; simp; omega)
  generalize W2.alloc (.cells (bkc p x u).toArray 78) = W3 at HM0 SZ3 ⊢
  clear HFR0 HS0 HK0 HK1 HK2 SZ HKW
  refine rangeP (α := Ie os) (n := 4) Tryd.func27 (a := { tmps := #[bkv p x u, .int .i64 kind, .pointer (some ⟨w.heap.size, 0, none⟩), undef, .pointer (some ⟨w.heap.size + 1, 0, none⟩), .pointer (some ⟨w.heap.size + 1 + 1, 0, none⟩), undef, undef, .int .i64 kind, .int .i64 kk, Ky.val ⟨kk, 0, 0, 0, 0, 0⟩, bkv p x u, .func (.func 60) #[] #[pv (w.heap.size + 3)], undef, undef, undef, undef, undef, undef, undef, undef, undef, undef, undef, undef, undef, undef, undef, undef, undef, undef, undef, undef, undef, undef, undef, undef, undef, undef, undef, undef, undef, undef, undef, undef, undef, undef, undef, undef, undef], defers := [] }) (gf := 60) rfl (enters_of Tryd.func60 (by kernel_rfl) rfl)
    (ball_in 3 (by omega) (w.heap.size + 3) p x u os a b HA.out HBV.out HAB.out HBL.out HNN.out) (fun _ => rfl)
    (fun pre V => Mi w V base p A cap ps os a x u pre.length ⟨kk, 0, 0, 0, 0, 0⟩ ∧ ∀ i, i < pre.length → ¬ good ((os[a + i]?).getD oz))
    (fun c pre V => c = .exit 0 ∧ ∃ j, fnd os a (b + 1 - a) = some j ∧ Mi w V base p A cap ps os a x u j (mkK os (a + j) kk))
    (fun _ _ _ => False)
    (fun pre X Y row hs hg hr => ⟨hs.1.own hg (fun q e => ⟨by have := (hr q e).1; have := SZ3.out; omega, (hr q e).2⟩), hs.2⟩)
    (fun c pre X Y row hs hg hr => ⟨hs.1, by
      obtain ⟨j, h1, h2⟩ := hs.2
      exact ⟨j, h1, h2.own hg (fun q e => ⟨by have := (hr q e).1; have := SZ3.out; omega, (hr q e).2⟩)⟩⟩)
    (fun pre V hi => ⟨hi.1.b3, base, A, cap, ps, _, hi.1.st, retN_len _ _ _, retN_out _ _ _ _ (.inr (Nat.le_refl _))⟩)
    ⟨HM0.out, fun i hi => absurd hi (Nat.not_lt_zero i)⟩
    (fun y a' V => ∃ b7, a' = { tmps := #[bkv p x u, .int .i64 kind, .pointer (some ⟨w.heap.size, 0, none⟩), undef, .pointer (some ⟨w.heap.size + 1, 0, none⟩), .pointer (some ⟨w.heap.size + 1 + 1, 0, none⟩), .int .i64 (y.i : Int), .pointer (some ⟨b7, 0, none⟩), .int .i64 kind, .int .i64 kk, Ky.val ⟨kk, 0, 0, 0, 0, 0⟩, bkv p x u, .func (.func 60) #[] #[pv (w.heap.size + 3)], .int .i64 (y.i : Int), y.o.val, undef, undef, undef, undef, undef, undef, undef, undef, undef, undef, undef, undef, undef, undef, undef, undef, undef, undef, undef, undef, undef, undef, undef, undef, undef, undef, undef, undef, undef, undef, undef, undef, undef, undef, undef], defers := [] } ∧ Blk V b7 47 y.o.cells.toArray)
    (fun y a' s X Y row hs hg hr => by
      obtain ⟨b7, h1, h2⟩ := hs
      exact ⟨b7, h1, own_blk W3.heap.size b7 _ (fun _ => _) s X Y row h2 hg hr⟩)
    ?assign ?body ?done ?stop ?panic
  case panic => exact fun _ _ _ _ _ hf _ => hf.elim
  case assign =>
    intro l pre y V K hi hTy hK
    have hk := hK { tmps := #[bkv p x u, .int .i64 kind, .pointer (some ⟨w.heap.size, 0, none⟩), undef, .pointer (some ⟨w.heap.size + 1, 0, none⟩), .pointer (some ⟨w.heap.size + 1 + 1, 0, none⟩), .int .i64 (y.i : Int), .pointer (some ⟨V.heap.size, 0, none⟩), .int .i64 kind, .int .i64 kk, Ky.val ⟨kk, 0, 0, 0, 0, 0⟩, bkv p x u, .func (.func 60) #[] #[pv (w.heap.size + 3)], .int .i64 (y.i : Int), y.o.val, undef, undef, undef, undef, undef, undef, undef, undef, undef, undef, undef, undef, undef, undef, undef, undef, undef, undef, undef, undef, undef, undef, undef, undef, undef, undef, undef, undef, undef, undef, undef, undef, undef, undef, undef], defers := [] } (V.alloc (.cells y.o.cells.toArray 47)) ((KeepsOthers.alloc V _).from _) ⟨hi.1.alloc _, hi.2⟩ ⟨V.heap.size, rfl, Blk.new V _ _⟩
    have HKK2 := Lib.hid hk
    clear hK hk hi hTy
    gi_wp2_with (refine wpListIn_store_last rfl (.tmp 7) (.tmp 14) rfl _ rfl rfl y.o oz rfl ?_)
    exact HKK2.out
  case body =>
    rintro l pre y a' V ⟨hi, hng⟩ ⟨b7, rfl, hb7⟩ ⟨hT1, hT2⟩
    have HI := Lib.hid hi
    have HNG := Lib.hid hng
    have HT1 := Lib.hid hT1
    have HT2 := Lib.hid hT2
    have HY := Lib.hid (show os[a + pre.length]? = some y.o by rw [← hT1, List.getElem?_eq_getElem y.lt]; rfl)
    have HYD := Lib.hid (show (os[a + pre.length]?).getD oz = y.o by rw [HY.out]; rfl)
    have HPX := Lib.hid (show (pre ++ [y]).length = pre.length + 1 by simp)
    have HB7 := Lib.hid hb7
    have k0 := hb7.ob.cells.1
    have k1 : V.cell? ⟨b7, 1, none⟩ = some (.int .i64 y.o.c) := by simpa using hb7.ob.cells.2.1
    have c164 : V.cell? ⟨w.heap.size, 164, none⟩ = some (pv p) := by have := HI.out.b0.bk.st; simpa using this
    have HYL := Lib.hid y.lt
    have HOK := Lib.hid (show y.o.ok os.length from HO.out _ (List.getElem_mem y.lt))
    have hc0 : 0 ≤ y.o.c := HOK.out.2.1.1
    have HYT := Lib.hid (show (y.i : Int) = ((a + pre.length : Nat) : Int) by rw [hT1])
    clear hi hng hb7 hT1 hT2
    by_cases hf : y.o.k = 0
    · have df : (y.o.k != 0) = false := by simpa using hf
      have HF := Lib.hid hf
      clear hf
      by_cases hgd : y.o.c < 4294967295
      · have dg : decide (y.o.c < 4294967295) = true := decide_eq_true hgd
        have HG := Lib.hid hgd
        have k2 : V.cell? ⟨w.heap.size + 1 + 1, 1, none⟩ = some (.int .i64 0) := HI.out.b2.six.2.1
        have k3 : V.cell? ⟨w.heap.size + 1 + 1, 2, none⟩ = some (.int .i64 0) := HI.out.b2.six.2.2.1
        have z2 : V.frozen? ⟨w.heap.size + 1 + 1, 1, none⟩ = false := HI.out.b2.frozen 1
        have z3 : V.frozen? ⟨w.heap.size + 1 + 1, 2, none⟩ = false := HI.out.b2.frozen 2
        have hwr : IntKind.i64.wrap (y.o.c + 1) = y.o.c + 1 := wrap_lt (by omega) (by omega)
        have hb72 : b7 ≠ w.heap.size + 1 + 1 := fun e => by
          have h1 := HB7.out
          have h2 := HI.out.b2
          rw [e] at h1
          unfold Blk at h1 h2
          rw [h2] at h1
          injection h1 with h1
          injection h1 with _ h1
          exact absurd h1 (by decide)
        have k1' : (V.setCell ⟨w.heap.size + 1 + 1, 1, none⟩ (.int .i64 (y.i : Int))).drew.cell? ⟨b7, 1, none⟩ = some (.int .i64 y.o.c) := (World.cell?_of_block (a := ⟨b7, 1, none⟩) (w := V) (Below.heap_setCell _ _ _ _ hb72)).trans k1
        have k1'' : ((V.setCell ⟨w.heap.size + 1 + 1, 1, none⟩ (.int .i64 (y.i : Int))).setCell ⟨w.heap.size + 1 + 1, 2, none⟩ (.int .i64 (y.o.c + 1))).drew.cell? ⟨b7, 1, none⟩ = some (.int .i64 y.o.c) := (World.cell?_of_block (a := ⟨b7, 1, none⟩) (w := V) ((Below.heap_setCell _ _ _ _ hb72).trans (Below.heap_setCell _ _ _ _ hb72))).trans k1
        have HJ := Lib.hid (show fnd os a (b + 1 - a) = some pre.length from fnd_is (by have := HT1.out; have := HT2.out; omega) (by rw [HYD.out]; exact ⟨HF.out, HG.out⟩) HNG.out)
        have HMS := Lib.hid (HI.out.set (y.i : Int) (y.o.c + 1))
        gi_wp2_with fail
        refine wpIn_region_round (S := fun w' => w'.cell? ⟨b7, 1, none⟩ = some (.int .i64 y.o.c)) (by kernel_rfl) (noDefer (by kernel_rfl)) k1 (fun hHeld => ?_)
        refine wpAnyH_take (i := 0) (v := ?v1) rfl (by kernel_rfl) (by kernel_rfl) (by kernel_rfl) (fun _ _ _ h => h) (Or.inl ⟨by rfl, ?hy1⟩) hHeld ?rest1
        case hy1 =>
          intro w' hSw
          try dsimp only at hSw
          go_simp
          first | done | with_reducible rfl
        try simp only [Act.put, List.getElem_toArray, List.getElem_cons_zero, List.setIfInBounds_toArray, List.set_cons_zero, List.set_cons_succ]
        refine wpAnyH_take (i := 1) (v := ?v2) rfl (by kernel_rfl) (by kernel_rfl) (by kernel_rfl) (fun _ _ _ h => h) (Or.inl ⟨by rfl, ?hy2⟩) hHeld ?rest2
        case hy2 =>
          intro w' hSw
          try dsimp only at hSw
          go_simp
          first | done | with_reducible rfl
        try simp only [Act.put, List.getElem_toArray, List.getElem_cons_succ, List.getElem_cons_zero, List.setIfInBounds_toArray, List.set_cons_zero, List.set_cons_succ]
        refine wpAnyH_take (i := 2) (v := ?v3) rfl (by kernel_rfl) (by kernel_rfl) (by kernel_rfl) (fun _ _ _ h => h) (Or.inl ⟨by rfl, ?hy3⟩) hHeld ?rest3
        case hy3 =>
          intro w' hSw
          try dsimp only at hSw
          go_simp
          first | done | with_reducible rfl
        try simp only [Act.put, List.getElem_toArray, List.getElem_cons_succ, List.getElem_cons_zero, List.setIfInBounds_toArray, List.set_cons_zero, List.set_cons_succ]
        refine wpAnyH_take (i := 3) (v := ?v4) rfl (by kernel_rfl) (by kernel_rfl) (by kernel_rfl) (fun _ _ _ h => h) (Or.inl ⟨by rfl, ?hy4⟩) hHeld ?rest4
        case hy4 =>
          intro w' hSw
          try dsimp only at hSw
          go_simp
          first | done | with_reducible rfl
        try simp only [Act.put, List.getElem_toArray, List.getElem_cons_succ, List.getElem_cons_zero, List.setIfInBounds_toArray, List.set_cons_zero, List.set_cons_succ]
        refine wpAnyH_take (i := 4) (v := ?v5) rfl (by kernel_rfl) (by kernel_rfl) (by kernel_rfl) (fun _ _ _ h => h) (Or.inl ⟨by rfl, ?hy5⟩) hHeld ?rest5
        case hy5 =>
          intro w' hSw
          try dsimp only at hSw
          go_simp
          first | done | with_reducible rfl
        try simp only [Act.put, List.getElem_toArray, List.getElem_cons_succ, List.getElem_cons_zero, List.setIfInBounds_toArray, List.set_cons_zero, List.set_cons_succ]
        refine wpAnyH_ready (rs := [5]) (by kernel_rfl) (by simp) ?_
        refine AllReadyH.cons (by rfl) (fun K hK => ?_) AllReadyH.nil
        go_simp
        refine hK.out _ _ k1' (fun hHeld => ?_)
        clear hK K
        try simp only [Act.put, List.getElem_toArray, List.getElem_cons_succ, List.getElem_cons_zero]
        refine wpAnyH_take (i := 6) (v := ?v6) rfl (by kernel_rfl) (by kernel_rfl) (by kernel_rfl) (fun _ _ _ h => h) (Or.inl ⟨by rfl, ?hy6⟩) hHeld ?rest6
        case hy6 =>
          intro w' hSw
          try dsimp only at hSw
          go_simp
          first | done | with_reducible rfl
        try simp only [Act.put, List.getElem_toArray, List.getElem_cons_succ, List.getElem_cons_zero, List.setIfInBounds_toArray, List.set_cons_zero, List.set_cons_succ]
        refine wpAnyH_ready (rs := [7]) (by kernel_rfl) (by simp) ?_
        refine AllReadyH.cons (by rfl) (fun K hK => ?_) AllReadyH.nil
        go_simp
        refine hK.out _ _ k1'' (fun hHeld => ?_)
        clear hK K
        try simp only [Act.put, List.getElem_toArray, List.getElem_cons_succ, List.getElem_cons_zero]
        refine wpAnyH_done (by kernel_rfl) ?_ _
        refine OnlyN.normal ?_
        gi_wp2_with fail
        refine ⟨⟨by simp [World.setCell], fun k o' _ ho hc => ?_⟩, rfl, pre.length, HJ.out, ?_⟩
        · have hkn : k ≠ w.heap.size + 1 + 1 := fun e => by
            have h2 := HI.out.b2
            unfold Blk at h2
            rw [e, h2] at ho
            injection ho with ho
            subst ho
            cases hc
          exact ((Below.heap_setCell _ _ _ _ hkn).trans (Below.heap_setCell _ _ _ _ hkn)).trans ho
        · unfold mkK
          rw [HYD.out]
          rw [← HYT.out]
          exact HMS.out
      · have dg : decide (y.o.c < 4294967295) = false := decide_eq_false hgd
        have HG := Lib.hid hgd
        clear hgd
        have HTB := Lib.hid (HT.out.fr HS.out HI.out.fr).tab
        gi_wp2_with (first
          | (show wpListIn _ _ _ _ _ ({ dst := some 20, op := .build _ _, type := _, pos := _, after := _, guard := _ } :: _) _ _; refine wpListIn_yields (S := fun _ => True) (fun _ => trivial) (by intro c hc'; cases hc') (y_bl2 (by rfl) _ (.tmp 19) (by rfl) (by rfl) (by rfl) (builtO 3 y.o.c)) trivial ?_)
          | (gi_at_call 54; refine (CallsIn.inRound l ((callsIn_wide (n := 1)).2 (put_ok HI.out.st HTB.out y.i (by rw [retN_len]; exact HYL.out) (oKC 3 y.o.c) (by rw [retN_len]; exact oKC_ok HOK.out.1 (.inr (.inr (.inr rfl))) HOK.out.2.1)))).mono ?_; rintro e w2 ⟨rfl, hs2, f2⟩; have JS := Lib.hid hs2; have JF := Lib.hid f2; clear hs2 f2))
        refine ⟨HI.out.st.keepsF JF.out _, ?_, ?_⟩
        · rw [HPX.out]
          refine HI.out.put JF.out ?_
          rw [retN_ret os a _ _ HY.out HF.out, ← HT1.out]
          exact JS.out
        · intro i hi
          rw [HPX.out] at hi
          rcases Nat.lt_or_ge i pre.length with h' | h'
          · exact HNG.out i h'
          · obtain rfl : i = pre.length := by omega
            rw [HYD.out]
            exact fun hg => by have h1 := HG.out; have h2 := hg.2; omega
    · have df : (y.o.k != 0) = true := by simpa using hf
      have HF := Lib.hid hf
      clear hf
      gi_wp2_with fail
      refine ⟨⟨Nat.le_refl _, fun _ _ _ ho _ => ho⟩, ?_, ?_⟩
      · rw [HPX.out]
        exact HI.out.same (retN_keep os a _ _ HY.out HF.out)
      · intro i hi
        rw [HPX.out] at hi
        rcases Nat.lt_or_ge i pre.length with h' | h'
        · exact HNG.out i h'
        · obtain rfl : i = pre.length := by omega
          rw [HYD.out]
          exact fun hg => HF.out hg.1
  case done =>
    rintro D xs V hD hS ⟨hi, hng⟩ hK
    have HI := Lib.hid hi
    have HK := Lib.hid hK
    have HD := Lib.hid (show w.heap.size ≤ D by have := SZ3.out; omega)
    have HFN := Lib.hid (show fnd os a (b + 1 - a) = none from fnd_no fun i hi => hng i (by omega))
    have HXL := Lib.hid hS
    have k3 : V.cell? ⟨w.heap.size + 1 + 1, 2, none⟩ = some (.int .i64 0) := hi.b2.six.2.2.1
    clear hi hng hK hD hS
    refine wpAt_of (n := 4) (wpIn_wide.2 ?_)
    go_wp2_with fail
    refine ⟨by simp, .inl ⟨_, _, rfl, run_takeDeferred HK.out, ?_⟩⟩
    refine ⟨?_, ?_, HI.out.fr.putObj (Nat.le_refl _) HD.out _⟩
    · unfold MkE
      rw [HFN.out]
    · unfold mkL
      rw [HFN.out, ← HXL.out]
      exact HI.out.st.shut HK.out
  case stop =>
    rintro D c pre V hD ⟨rfl, j, hj, hi⟩ hK
    have HI := Lib.hid hi
    have HK := Lib.hid hK
    have HD := Lib.hid (show w.heap.size ≤ D by have := SZ3.out; omega)
    have HJ := Lib.hid hj
    obtain ⟨hj1, hj2, hj3⟩ := fnd_some hj
    have hjl : a + j < os.length := by have := HBL.out; omega
    obtain ⟨o, hoo⟩ : ∃ o, os[a + j]? = some o := ⟨_, List.getElem?_eq_getElem hjl⟩
    have HOO := Lib.hid (show (os[a + j]?).getD oz = o by rw [hoo]; rfl)
    have HOK := Lib.hid (show o.ok os.length from HO.out _ (List.mem_of_getElem? hoo))
    rw [HOO.out] at hj2
    have HG := Lib.hid hj2
    have HJL := Lib.hid hjl
    have HTB := Lib.hid (HT.out.fr HS.out hi.fr).tab
    obtain ⟨k0, k1, k2, k3, k4, k5⟩ := hi.b2.six
    have hmk : mkK os (a + j) kk = ⟨kk, ((a + j : Nat) : Int), o.c + 1, 0, 0, 0⟩ := by unfold mkK; rw [HOO.out]
    have k1' : V.cell? ⟨w.heap.size + 1 + 1, 1, none⟩ = some (.int .i64 ((a + j : Nat) : Int)) := k1
    have k2' : V.cell? ⟨w.heap.size + 1 + 1, 2, none⟩ = some (.int .i64 (o.c + 1)) := by rw [hmk] at k2; exact k2
    have dc : ((o.c + 1) == 0) = false := by have := HOK.out.2.1.1; simp; omega
    have c164 : V.cell? ⟨w.heap.size, 164, none⟩ = some (pv p) := by have := hi.b0.bk.st; simpa using this
    have HKO := Lib.hid (show (oKC kind (o.c + 1)).ok os.length from oKC_ok HOK.out.1 (by have := HKK.out; omega) ⟨by have := HOK.out.2.1.1; omega, by have := HG.out.2; omega⟩)
    have HMK := Lib.hid hmk
    obtain ⟨m, hm⟩ : ∃ m : Nat, m = a + j := ⟨_, rfl⟩
    rw [← hm] at k1'
    have HMM := Lib.hid hm
    obtain ⟨z, hz1⟩ : ∃ z : Ky, z = mkK os (a + j) kk := ⟨_, rfl⟩
    have HZ := Lib.hid hz1
    have HB2 := Lib.hid (show Blk V (w.heap.size + 1 + 1) 33 (kl z).toArray by rw [hz1]; exact hi.b2)
    have HB1 := Lib.hid hi.b1
    clear hi hK hD hj hj1 hj2 hj3 hjl hoo k0 k1 k2 k3 k4 k5 hmk hm hz1
    refine wpIn_exit (show wpAt _ _ _ _ _ _ from wpAt_of (n := 4) (wpIn_wide.2 ?_))
    go_wp2_with (first
      | (show wpList _ _ _ ({ dst := some 47, op := .build _ _, type := _, pos := _, after := _, guard := _ } :: _) _ _; refine wpList_yields (S := fun _ => True) (y_bl2 (by rfl) (.tmp 44) (.tmp 46) (by rfl) (by rfl) (by rfl) (builtO kind (o.c + 1))) trivial ?_)
      | (go_at_call 54; refine (put_ok HI.out.st HTB.out m (by rw [retN_len, HMM.out]; exact HJL.out) (oKC kind (o.c + 1)) (by rw [retN_len]; exact HKO.out)).mono ?_; rintro e w2 ⟨rfl, hs2, f2⟩; have JS := Lib.hid hs2; have JF := Lib.hid f2; have JB1 := Lib.hid (HI.out.st.blkF f2 HB1.out (by decide)); have JB2 := Lib.hid (HI.out.st.blkF f2 HB2.out (by decide)); have JD : w2.heap[D]? = some (.deferred (some [])) := (f2.block D (Array.getElem?_eq_some_iff.1 HK.out).1 (fun hm' => by obtain ⟨o', ho', hc'⟩ := HI.out.st.cellsP hm'; rw [HK.out] at ho'; injection ho' with ho'; subst ho'; cases hc')).trans HK.out; have JDD := Lib.hid JD; clear hs2 f2 JD k1' k2' c164)
      | (show wpList _ _ _ ({ dst := some 49, op := .load _ _, type := _, pos := _, after := _, guard := _ } :: _) _ _; refine wpList_yields (S := fun w' => KeyAt w' (w.heap.size + 1 + 1) 0 z) (y_kyB (by rfl) (.tmp 5) (by rfl) (w.heap.size + 1 + 1) 0 (by rfl) z (fun _ h => h)) JB2.out.six ?_)
      | (show wpList _ _ _ ({ dst := none, op := .store _ (.tmp 4) (.tmp 49), type := _, pos := _, after := _, guard := _ } :: _) _ _; refine wpList_store_big JB1.out rfl (.tmp 4) (.tmp 49) (ty := 33) (l := kl z) rfl (by rfl) (by rfl) size30 rfl (kl_one _) ?_))
    have JD : (w2.setRow (w.heap.size + 1) (kl z).toArray).heap[D]? = some (.deferred (some [])) := (setRow_other _ _ _ _ (fun e => by have h1 := HB1.out; unfold Blk at h1; have h2 := HK.out; rw [e, h1] at h2; injection h2 with h2; cases h2)).trans JDD.out
    have hDne : D ≠ w.heap.size + 1 := fun e => by have h1 := HB1.out; unfold Blk at h1; have h2 := HK.out; rw [e, h1] at h2; injection h2 with h2; cases h2
    have JZ : Blk (w2.setRow (w.heap.size + 1) (kl z).toArray) (w.heap.size + 1) 33 (kl z).toArray := JB1.out.setRow _
    refine ⟨by simp, .inl ⟨_, _, rfl, run_takeDeferred JD, ?_⟩⟩
    refine ⟨_, res_1 rfl _ _ (w.heap.size + 1) _ rfl (load_key z ((World.putObj_heap_other (by omega)).trans JZ)), ?_⟩
    refine ⟨?_, ?_, ?_⟩
    · unfold MkE
      rw [HJ.out]
      show Ending.returned z.val = Ending.returned (mkK os (a + j) kk).val
      rw [← HZ.out]
    · unfold mkL
      rw [HJ.out]
      show StAt _ base p A cap ps ((retN os a j).set (a + j) (oKC kind (((os[a + j]?).getD oz).c + 1)))
      rw [HOO.out, ← HMM.out]
      have h1 : StAt (w2.setRow (w.heap.size + 1) (kl z).toArray) base p A cap ps ((retN os a j).set m (oKC kind (o.c + 1))) := JS.out.keep fun k hk => setRow_other _ _ _ _ (fun e => JS.out.blk_ne JB1.out (by decide) (by have := HI.out.hp; omega) (e ▸ hk))
      exact h1.shut JD
    · exact ((HI.out.fr.trans JF.out).then_ (setRow_fr _ _ _) (fun i hi he => by omega)).putObj (Nat.le_refl _) HD.out _
end
end Go.Proofs.YteodgefnbmiblaaDoor

/- The law BanksSplit returns true for every input: behind a split both banks' numbers are those of the one, and what one makes the other one does not (at most 20 objects, 10 calls). No condition but that the listed variables read as the program's own text lays them; the card ties them to it. -/
import Derived.Test.YteodgefnbmiblaaDoorBKn
import Derived.Test.YteodgefnbmiblaaDoorBArgs
import Derived.Test.YteodgefnbmiblaaDoorBPart
import Derived.Test.YteodgefnbmiblaaDoorBSame
import Derived.Test.YteodgefnbmiblaaDoorBTr
import Derived.Test.YteodgefnbmiblaaDoorR07
namespace Go.Proofs.YteodgefnbmiblaaDoor.banksSplit
open Go.ChangeShapes Go.WideShapes Go.ChangeAt Go.RowKit
attribute [local go_sem] Oper.semAt_some
theorem keyAt_of {w : World} {g : Nat} {x : Ky} (h : Blk w g 33 (kl x).toArray) : KeyAt w g 0 x := ⟨h.cell 0, h.cell 1, h.cell 2, h.cell 3, h.cell 4, h.cell 5⟩
/-- how all stands: the store has L -/
structure Sm (w W : World) (q : Nat) (A : Option Addr) (cap : Nat) (ps : List Nat) (x : Ky) (n : Int) (Av : Option Addr) (m c : Nat) (L : List Oj) : Prop where
  bel : Below w.heap.size w W
  sz : w.heap.size + 2 ≤ W.heap.size
  st : StAt W q q A cap ps L
  b0 : Blk W w.heap.size 33 (kl x).toArray
  b1 : Blk W (w.heap.size + 1) 61 (ptc n Av m c)
  hq : w.heap.size + 2 ≤ q
section
variable {w W W' : World} {q : Nat} {A : Option Addr} {cap : Nat} {ps : List Nat} {x : Ky} {n : Int} {Av : Option Addr} {m c : Nat} {L L' : List Oj}
theorem Sm.below (h : Sm w W q A cap ps x n Av m c L) (hb : Below W.heap.size W W') : Sm w W' q A cap ps x n Av m c L := ⟨h.bel.trans (hb.mono h.bel.size), Nat.le_trans h.sz hb.size, h.st.below hb, h.b0.keep hb, h.b1.keep hb, h.hq⟩
theorem Sm.alloc (h : Sm w W q A cap ps x n Av m c L) (o : Obj) : Sm w (W.alloc o) q A cap ps x n Av m c L := h.below ((Below.refl _ _).alloc (Nat.le_refl _) o)
theorem Sm.drew (h : Sm w W q A cap ps x n Av m c L) : Sm w W.drew q A cap ps x n Av m c L := ⟨below_drew h.bel, h.sz, h.st.drew, h.b0.drew, h.b1.drew, h.hq⟩
theorem Sm.fr (h : Sm w W q A cap ps x n Av m c L) (hf : Fr (fun k => k ∈ ps) W W') (hs : StAt W' q q A cap ps L') : Sm w W' q A cap ps x n Av m c L' :=
  ⟨h.bel.trans (below_lt hf h.bel.size fun k hk => by have h1 := (h.st.lt k (.inr (.inr hk))).1; have h2 := h.hq; omega), Nat.le_trans h.sz hf.size, hs, h.st.blkF hf h.b0 (by decide), h.st.blkF hf h.b1 (by decide), h.hq⟩
theorem Sm.set (h : Sm w W q A cap ps x n Av m c L) {g : Nat} {t : TypeId} {c0 : Array Value} (hg : Blk W g t c0) (ht : t ≠ 91 ∧ t ≠ 47) (h2 : w.heap.size + 2 ≤ g) (hne : g ≠ q) (cs : Array Value) : Sm w (W.setRow g cs) q A cap ps x n Av m c L :=
  ⟨h.bel.trans (below_lt (setRow_fr W g cs) h.bel.size fun k hk => by have : k = g := hk; omega), by have := h.sz; simpa [World.setRow] using this, h.st.keep fun k hk => setRow_other _ _ _ _ (fun e => h.st.blk_ne hg ht hne (e ▸ hk)), Blk.row_far h.b0 (by omega) _, Blk.row_far h.b1 (by omega) _, h.hq⟩
theorem Sm.cn (h : Sm w W q A cap ps x n Av m c L) : W.cell? ⟨w.heap.size + 1, 0, none⟩ = some (.int .i64 n) := h.b1.cell 0
theorem Sm.ck (h : Sm w W q A cap ps x n Av m c L) : W.cell? ⟨w.heap.size + 1, 1, none⟩ = some (.slice Av m c) := h.b1.cell 1
theorem Sm.tab (h : Sm w W q A cap ps x n Av m c L) (hT : Tab w) : TabB q W := TabB.of hT h.bel (by have := h.hq; omega)
theorem Sm.q_lt (h : Sm w W q A cap ps x n Av m c L) : q < W.heap.size := (h.st.lt q (.inl rfl)).2
abbrev Kept (W W' : World) : Prop := ∀ (g : Nat) (t : TypeId) (cs : Array Value), Blk W g t cs → t ≠ 47 → Blk W' g t cs
set_option maxRecDepth 8000 in
theorem range_by (h : Sm w W q A cap ps x n Av m c L) (hT : Tab w) (hn : 0 < L.length) {y : Ky} {a b e : Int} (hr : rgA L y = (a, b, e)) :
    Calls Tryd.prog 18 #[pv q, y.val] W fun e' w' => e' = .returned (.tuple #[.int .i64 a, .int .i64 b, .int .i64 e]) ∧ Sm w w' q A cap ps x n Av m c L ∧ Kept W w' := by
  have := brange_all h.st hn (h.tab hT) y
  rw [hr] at this
  exact this.mono fun e' w' p => ⟨p.1, h.fr p.2.2 p.2.1, fun g t cs hg ht => h.st.blkF p.2.2 hg ht⟩
set_option maxRecDepth 8000 in
theorem split_by (h : Sm w W q A cap ps x n Av m c L) (hT : Tab w) (ho : okAll L.length L) (hn : 0 < L.length) (hN : L.length ≤ 64) {y z : Ky} {i e : Int} (hr : spA L y i = (L', z, e)) :
    Calls Tryd.prog 12 #[pv q, y.val, .int .i64 i] W fun e' w' => e' = .returned (.tuple #[z.val, .int .i64 e]) ∧ Sm w w' q A cap ps x n Av m c L' ∧ Kept W w' := by
  have := bsplit_all h.st ho hn hN (h.tab hT) y i
  rw [hr] at this
  exact this.mono fun e' w' p => ⟨p.1, h.fr p.2.2 p.2.1, fun g t cs hg ht => h.st.blkF p.2.2 hg ht⟩
set_option maxRecDepth 8000 in
theorem make_by (h : Sm w W q A cap ps x n Av m c L) (hT : Tab w) (ho : okAll L.length L) (hn : 0 < L.length) (hN : L.length ≤ 64) {y z : Ky} {i e : Int} (hr : mkA L y i = (L', z, e)) :
    Calls Tryd.prog 10 #[pv q, y.val, .int .i64 i] W fun e' w' => e' = .returned (.tuple #[z.val, .int .i64 e]) ∧ Sm w w' q A cap ps x n Av m c L' ∧ Kept W w' := by
  have := bmake_all h.st ho hn hN (h.tab hT) y i
  rw [hr] at this
  exact this.mono fun e' w' p => ⟨p.1, h.fr p.2.2 p.2.1, fun g t cs hg ht => h.st.blkF p.2.2 hg ht⟩
theorem known_by (h : Below w.heap.size w W) (hT : Tab w) : Calls Tryd.prog 8 #[] W fun e w' => e = .returned (.bool true) ∧ Below w.heap.size w w' :=
  (known_any _ (hT.below h)).mono fun _ _ p => ⟨p.1, h.trans (p.2.mono h.size)⟩
end
set_option maxRecDepth 100000 in
set_option maxHeartbeats 4000000 in
theorem walk_no (w : World) (hT : Tab w) (A0 : Option Addr) (l : List Oj) (c0 : Nat) (hr : RdO w A0 l) (x : Ky) (n : Int) (Av : Option Addr) (m c : Nat) (hmade : ¬ madeP l) :
    Calls Tryd.prog 5 #[.slice A0 l.length c0, x.val, .agg (ptc n Av m c)] w fun e w' => e = .returned (.bool true) ∧ Below w.heap.size w w' := by
  have hz := z34
  have hkl := kl_one
  have HT := Lib.hid hT
  have HB0 := Lib.hid (show Below w.heap.size w ((w.alloc (.cells (kc x.k x.o x.c x.l x.r x.v) 33)).alloc (.cells (ptc n Av m c) 61)) from ((Below.refl w.heap.size w).alloc (Nat.le_refl _) (.cells (kc x.k x.o x.c x.l x.r x.v) 33)).alloc (by simp) (.cells (ptc n Av m c) 61))
  have HM := Lib.hid (show ∀ W, Below w.heap.size w W → Calls Tryd.prog 7 #[.slice A0 l.length c0] W fun e w' => e = .returned (.pointer none) ∧ Below W.heap.size W w' from fun W hW => made_no (hr.below hW) hmade)
  clear hT hr hmade
  go_enter Tryd.func5, Tryd.ntmps5
  go_wp2_with (first
    | (go_at_call 7; refine (HM.out _ HB0.out).mono ?_; rintro e_ w1 ⟨rfl, b_⟩; have B1 := Lib.hid (HB0.out.trans (b_.mono HB0.out.size)); clear b_)
    | (go_at_call 8; refine (known_by B1.out HT.out).mono ?_; rintro e wk ⟨rfl, bk_⟩; have BK := Lib.hid bk_; clear bk_))
  go_ret
  exact ⟨rfl, BK.out⟩
set_option maxRecDepth 100000 in
set_option maxHeartbeats 4000000 in
theorem walk_long (w : World) (hT : Tab w) (A0 : Option Addr) (l : List Oj) (c0 : Nat) (hr : RdO w A0 l) (x : Ky) (n : Int) (Av : Option Addr) (m c : Nat) (hmade : madeP l) (hm : 10 < m) :
    Calls Tryd.prog 5 #[.slice A0 l.length c0, x.val, .agg (ptc n Av m c)] w fun e w' => e = .returned (.bool true) ∧ Below w.heap.size w w' := by
  have hz := z34
  have hkl := kl_one
  have HT := Lib.hid hT
  have HB0 := Lib.hid (show Below w.heap.size w ((w.alloc (.cells (kc x.k x.o x.c x.l x.r x.v) 33)).alloc (.cells (ptc n Av m c) 61)) from ((Below.refl w.heap.size w).alloc (Nat.le_refl _) (.cells (kc x.k x.o x.c x.l x.r x.v) 33)).alloc (by simp) (.cells (ptc n Av m c) 61))
  have HK0 := Lib.hid (show Blk ((w.alloc (.cells (kc x.k x.o x.c x.l x.r x.v) 33)).alloc (.cells (ptc n Av m c) 61)) w.heap.size 33 (kl x).toArray from (Blk.new w _ _).alloc _)
  have HP0 := Lib.hid (show Blk ((w.alloc (.cells (kc x.k x.o x.c x.l x.r x.v) 33)).alloc (.cells (ptc n Av m c) 61)) (w.heap.size + 1) 61 (ptc n Av m c) from Blk.new_of _ _ _ (by simp))
  have HM := Lib.hid (show ∀ W, Below w.heap.size w W → Calls Tryd.prog 7 #[.slice A0 l.length c0] W fun e w' => ∃ q, e = .returned (pv q) ∧ W.heap.size ≤ q ∧ (∃ A' cap' ps, StAt w' q q A' cap' ps l) ∧ Below W.heap.size W w' from fun W hW => made_yes (hT.below hW) (hr.below hW) hmade)
  have d1 : decide ((10 : Int) < (m : Int)) = true := decide_eq_true (by omega)
  have d2 : decide (10 < m) = true := decide_eq_true hm
  clear hT hr hmade hm
  go_enter Tryd.func5, Tryd.ntmps5
  go_wp2_with (first
    | (go_at_call 7; refine (HM.out _ HB0.out).mono ?_; rintro e_ w1 ⟨q, rfl, hq, ⟨A, cap, ps, hs⟩, b_⟩; have S1 := Lib.hid (show Sm w w1 q A cap ps x n Av m c l from ⟨HB0.out.trans (b_.mono HB0.out.size), Nat.le_trans (by simp) b_.size, hs, HK0.out.keep b_, HP0.out.keep b_, Nat.le_trans (by simp) hq⟩); have ck := S1.out.ck; clear hq hs b_)
    | (go_at_call 8; refine (known_by S1.out.bel HT.out).mono ?_; rintro e wk ⟨rfl, bk_⟩; have BK := Lib.hid bk_; clear bk_))
  go_ret
  exact ⟨rfl, BK.out⟩
set_option maxRecDepth 100000 in
set_option maxHeartbeats 4000000 in
theorem walk_err (w : World) (hT : Tab w) (A0 : Option Addr) (l : List Oj) (c0 : Nat) (hr : RdO w A0 l) (x : Ky) (n : Int) (Av : Option Addr) (m c : Nat) (hmade : madeP l) (hm : ¬ 10 < m) (f t e g : Int) (hrg : rgA l x = (f, t, e)) (hsp : spA l x n = (l, zk, g)) (hg : g ≠ 0) (be : Bool) (hbe : (e != 0) = be) :
    Calls Tryd.prog 5 #[.slice A0 l.length c0, x.val, .agg (ptc n Av m c)] w fun e w' => e = .returned (.bool true) ∧ Below w.heap.size w w' := by
  have hz := z34
  have hkl := kl_one
  have HT := Lib.hid hT
  have HB0 := Lib.hid (show Below w.heap.size w ((w.alloc (.cells (kc x.k x.o x.c x.l x.r x.v) 33)).alloc (.cells (ptc n Av m c) 61)) from ((Below.refl w.heap.size w).alloc (Nat.le_refl _) (.cells (kc x.k x.o x.c x.l x.r x.v) 33)).alloc (by simp) (.cells (ptc n Av m c) 61))
  have HK0 := Lib.hid (show Blk ((w.alloc (.cells (kc x.k x.o x.c x.l x.r x.v) 33)).alloc (.cells (ptc n Av m c) 61)) w.heap.size 33 (kl x).toArray from (Blk.new w _ _).alloc _)
  have HP0 := Lib.hid (show Blk ((w.alloc (.cells (kc x.k x.o x.c x.l x.r x.v) 33)).alloc (.cells (ptc n Av m c) 61)) (w.heap.size + 1) 61 (ptc n Av m c) from Blk.new_of _ _ _ (by simp))
  have HM := Lib.hid (show ∀ W, Below w.heap.size w W → Calls Tryd.prog 7 #[.slice A0 l.length c0] W fun e w' => ∃ q, e = .returned (pv q) ∧ W.heap.size ≤ q ∧ (∃ A' cap' ps, StAt w' q q A' cap' ps l) ∧ Below W.heap.size W w' from fun W hW => made_yes (hT.below hW) (hr.below hW) hmade)
  have d1 : decide ((10 : Int) < (m : Int)) = false := decide_eq_false (by omega)
  have d2 : decide (10 < m) = false := decide_eq_false (by omega)
  have HN := Lib.hid (show 0 < l.length from hmade.2.1)
  have HNN := Lib.hid (show l.length ≤ 64 from hmade.2.2.1)
  have HO := Lib.hid (show okAll l.length l from hmade.2.2.2)
  have HRG := Lib.hid hrg
  have HSP := Lib.hid hsp
  have y1 : (g != 0) = true := by simpa using hg
  have HSA := Lib.hid (fun (W : World) (hW : StAt W W.heap.size W.heap.size none 0 [] l) => trivial)
  have HR := Lib.hid hr
  clear hT hr hmade hm hrg hsp hg HSA
  cases be
  all_goals
    go_enter Tryd.func5, Tryd.ntmps5
    go_wp2_with (first
      | (go_at_call 7; refine (HM.out _ HB0.out).mono ?_; rintro e_ w1 ⟨q, rfl, hq, ⟨A, cap, ps, hs⟩, b_⟩; have S1 := Lib.hid (show Sm w w1 q A cap ps x n Av m c l from ⟨HB0.out.trans (b_.mono HB0.out.size), Nat.le_trans (by simp) b_.size, hs, HK0.out.keep b_, HP0.out.keep b_, Nat.le_trans (by simp) hq⟩); have ck := S1.out.ck; clear hq hs b_)
      | (show wpList _ _ _ ({ dst := some 38, op := .load _ _, type := _, pos := _, after := _, guard := _ } :: _) _ _; refine wpList_yields (S := fun w' => KeyAt w' w.heap.size 0 x) (y_kyB (by rfl) (.tmp 4) (by rfl) w.heap.size 0 (by rfl) x (fun _ h => h)) (keyAt_of S1.out.b0) ?_)
      | (go_at_call 18; refine (range_by S1.out HT.out HN.out HRG.out).mono ?_; rintro e_ w2 ⟨rfl, s_, k_⟩; have S2 := Lib.hid s_; clear s_ k_ ck; have cn := S2.out.cn)
      | (show wpList _ _ _ ({ dst := some 45, op := .load _ _, type := _, pos := _, after := _, guard := _ } :: _) _ _; refine wpList_yields (S := fun w' => KeyAt w' w.heap.size 0 x) (y_kyB (by rfl) (.tmp 4) (by rfl) w.heap.size 0 (by rfl) x (fun _ h => h)) (keyAt_of S2.out.b0) ?_)
      | (go_at_call 12; refine (split_by S2.out HT.out HO.out HN.out HNN.out HSP.out).mono ?_; rintro e_ w3 ⟨rfl, s_, k_⟩; have S3 := Lib.hid s_; clear s_ k_ cn; have cn := S3.out.cn; have ck := S3.out.ck)
      | (show wpList _ _ _ ({ dst := none, op := .store _ (.tmp 11) (.tmp 49), type := _, pos := _, after := _, guard := _ } :: _) _ _; refine wpList_store_new (l := kl zk) (l0 := kl zk) (ty := 33) rfl (.tmp 11) (.tmp 49) (by rfl) _ rfl (by rfl) (by rfl) size30 rfl (kl_one _) ?_; have S4 := Lib.hid (S3.out.alloc (.cells (kl zk).toArray 33)); have G4 := Lib.hid (Blk.new w3 33 (kl zk).toArray); have EG := Lib.hid S3.out.sz; have NQ := Lib.hid (Nat.ne_of_gt S3.out.q_lt); generalize w3.alloc (.cells (kl zk).toArray 33) = w4 at S4 G4 ⊢; generalize w3.heap.size = g at G4 EG NQ ⊢; clear cn ck)
      | (go_at_call 19; refine (same_at S4.out.st HN.out (by have := HNN.out; omega) _ _ (HR.out.below S4.out.bel)).mono ?_; rintro e_ w5 ⟨rfl, b_⟩; have S5 := Lib.hid (S4.out.below b_); clear b_)
      | (go_at_call 8; refine (known_by S5.out.bel HT.out).mono ?_; rintro e wk ⟨rfl, bk_⟩; have BK := Lib.hid bk_; clear bk_))
    go_ret
    exact ⟨rfl, BK.out⟩
set_option maxRecDepth 100000 in
set_option maxHeartbeats 4000000 in
theorem walk_yes (w : World) (hT : Tab w) (A0 : Option Addr) (l : List Oj) (c0 : Nat) (hr : RdO w A0 l) (x : Ky) (n : Int) (Av : Option Addr) (c : Nat) (Kn : List Int) (hrk : RdQ w Av Kn) (m : Nat) (hkl : Kn.length = m) (hmade : madeP l) (hm : ¬ 10 < m) (a b d p : Nat) (L0 : List Oj) (z : Ky) (j j2 : Nat) (u u2 : Oj) (hrg : rgA l x = ((a : Int), (b : Int), 0)) (hsp : spA l x n = (L0, z, 0)) (hp : p = d + 1) (hn : n = ((b + 1 - p : Nat) : Int)) (hb : p ≤ b) (hbl : b < l.length) (hlen : L0.length = l.length) (hok : okAll l.length L0) (hd1 : BkD L0 x j u a d) (hd2 : BkD L0 z j2 u2 p b) (h1 : a ≤ j2) (h2 : j2 ≤ d) :
    Calls Tryd.prog 5 #[.slice A0 l.length c0, x.val, .agg (ptc n Av m c)] w fun e w' => e = .returned (.bool true) ∧ Below w.heap.size w w' := by
  have hz := z34
  have HT := Lib.hid hT
  have HB0 := Lib.hid (show Below w.heap.size w ((w.alloc (.cells (kc x.k x.o x.c x.l x.r x.v) 33)).alloc (.cells (ptc n Av m c) 61)) from ((Below.refl w.heap.size w).alloc (Nat.le_refl _) (.cells (kc x.k x.o x.c x.l x.r x.v) 33)).alloc (by simp) (.cells (ptc n Av m c) 61))
  have HK0 := Lib.hid (show Blk ((w.alloc (.cells (kc x.k x.o x.c x.l x.r x.v) 33)).alloc (.cells (ptc n Av m c) 61)) w.heap.size 33 (kl x).toArray from (Blk.new w _ _).alloc _)
  have HP0 := Lib.hid (show Blk ((w.alloc (.cells (kc x.k x.o x.c x.l x.r x.v) 33)).alloc (.cells (ptc n Av m c) 61)) (w.heap.size + 1) 61 (ptc n Av m c) from Blk.new_of _ _ _ (by simp))
  have HM := Lib.hid (show ∀ W, Below w.heap.size w W → Calls Tryd.prog 7 #[.slice A0 l.length c0] W fun e w' => ∃ q, e = .returned (pv q) ∧ W.heap.size ≤ q ∧ (∃ A' cap' ps, StAt w' q q A' cap' ps l) ∧ Below W.heap.size W w' from fun W hW => made_yes (hT.below hW) (hr.below hW) hmade)
  have d1 : decide ((10 : Int) < (m : Int)) = false := decide_eq_false (by omega)
  have d2 : decide (10 < m) = false := decide_eq_false (by omega)
  have HN := Lib.hid (show 0 < l.length from hmade.2.1)
  have HNN := Lib.hid (show l.length ≤ 64 from hmade.2.2.1)
  have HO := Lib.hid (show okAll l.length l from hmade.2.2.2)
  have HRG := Lib.hid hrg
  have HSP := Lib.hid hsp
  have HNL := Lib.hid (show 0 < L0.length by rw [hlen]; exact hmade.2.1)
  have HR1 := Lib.hid (rgA_d hd1)
  have HR2 := Lib.hid (rgA_d hd2)
  have HD1 := Lib.hid hd1
  have HD2 := Lib.hid hd2
  have HOL := Lib.hid hok
  have HLEN := Lib.hid hlen
  have HRK := Lib.hid hrk
  have HKL := Lib.hid hkl
  have HM10 := Lib.hid hm
  have e1 : IntKind.i64.wrap ((d : Int) + 1) = (p : Int) := by rw [show (d : Int) + 1 = (p : Int) by omega]; exact IntWalk.i64_in _ (by have := hmade.1; omega)
  have e2 : IntKind.i64.wrap ((b : Int) - (p : Int)) = (b : Int) - (p : Int) := IntWalk.i64_in _ (by have := hmade.1; omega)
  have e3 : IntKind.i64.wrap ((b : Int) - (p : Int) + 1) = n := by rw [show (b : Int) - (p : Int) + 1 = n by omega]; exact IntWalk.i64_in _ (by have := hmade.1; omega)
  have d3 : decide (z.o < (a : Int)) = false := decide_eq_false (by have := hd2.o; omega)
  have d4 : decide ((d : Int) < z.o) = false := decide_eq_false (by have := hd2.o; omega)
  clear hT hr hmade hm hrg hsp hn hp hb hbl hlen hok hd1 hd2 h1 h2 hrk hkl
  go_enter Tryd.func5, Tryd.ntmps5
  go_wp2_with (first
    | (go_at_call 18; refine (range_by S5.out HT.out HNL.out HR2.out).mono ?_; rintro e_ w6 ⟨rfl, s_, k_⟩; have S6 := Lib.hid s_; have G6 := Lib.hid (k_ _ _ _ G5.out (by decide)); clear s_ k_; have cn := S6.out.cn; have ck := S6.out.ck; have cz := G6.out.six.2.1)
    | (show wpList _ _ _ ({ dst := some 76, op := .load _ _, type := _, pos := _, after := _, guard := _ } :: _) _ _; refine wpList_yields (S := fun w' => KeyAt w' g 0 z) (y_kyB (by rfl) (.tmp 11) (by rfl) g 0 (by rfl) z (fun _ h => h)) (keyAt_of G5.out) ?_)
    | (go_at_call 18; refine (range_by S4.out HT.out HNL.out HR1.out).mono ?_; rintro e_ w5 ⟨rfl, s_, k_⟩; have S5 := Lib.hid s_; have G5 := Lib.hid (k_ _ _ _ G4.out (by decide)); clear s_ k_)
    | (show wpList _ _ _ ({ dst := some 69, op := .load _ _, type := _, pos := _, after := _, guard := _ } :: _) _ _; refine wpList_yields (S := fun w' => KeyAt w' w.heap.size 0 x) (y_kyB (by rfl) (.tmp 4) (by rfl) w.heap.size 0 (by rfl) x (fun _ h => h)) (keyAt_of S4.out.b0) ?_)
    | (show wpList _ _ _ ({ dst := none, op := .store _ (.tmp 11) (.tmp 49), type := _, pos := _, after := _, guard := _ } :: _) _ _; refine wpList_store_new (l := kl z) (l0 := kl zk) (ty := 33) rfl (.tmp 11) (.tmp 49) (by rfl) _ rfl (by rfl) (by rfl) size30 rfl (kl_one _) ?_; have S4 := Lib.hid (S3.out.alloc (.cells (kl z).toArray 33)); have G4 := Lib.hid (Blk.new w3 33 (kl z).toArray); have EG := Lib.hid S3.out.sz; have NQ := Lib.hid (Nat.ne_of_gt S3.out.q_lt); generalize w3.alloc (.cells (kl z).toArray 33) = w4 at S4 G4 ⊢; generalize w3.heap.size = g at G4 EG NQ ⊢; clear cn ck)
    | (go_at_call 12; refine (split_by S2.out HT.out HO.out HN.out HNN.out HSP.out).mono ?_; rintro e_ w3 ⟨rfl, s_, k_⟩; have S3 := Lib.hid s_; clear s_ k_ cn; have cn := S3.out.cn; have ck := S3.out.ck)
    | (show wpList _ _ _ ({ dst := some 45, op := .load _ _, type := _, pos := _, after := _, guard := _ } :: _) _ _; refine wpList_yields (S := fun w' => KeyAt w' w.heap.size 0 x) (y_kyB (by rfl) (.tmp 4) (by rfl) w.heap.size 0 (by rfl) x (fun _ h => h)) (keyAt_of S2.out.b0) ?_)
    | (go_at_call 18; refine (range_by S1.out HT.out HN.out HRG.out).mono ?_; rintro e_ w2 ⟨rfl, s_, k_⟩; have S2 := Lib.hid s_; clear s_ k_ ck; have cn := S2.out.cn)
    | (show wpList _ _ _ ({ dst := some 38, op := .load _ _, type := _, pos := _, after := _, guard := _ } :: _) _ _; refine wpList_yields (S := fun w' => KeyAt w' w.heap.size 0 x) (y_kyB (by rfl) (.tmp 4) (by rfl) w.heap.size 0 (by rfl) x (fun _ h => h)) (keyAt_of S1.out.b0) ?_)
    | (go_at_call 7; refine (HM.out _ HB0.out).mono ?_; rintro e_ w1 ⟨q, rfl, hq, ⟨A, cap, ps, hs⟩, b_⟩; have S1 := Lib.hid (show Sm w w1 q A cap ps x n Av m c l from ⟨HB0.out.trans (b_.mono HB0.out.size), Nat.le_trans (by simp) b_.size, hs, HK0.out.keep b_, HP0.out.keep b_, Nat.le_trans (by simp) hq⟩); have ck := S1.out.ck; clear hq hs b_))
  clear cz cn ck d1 d2
  go_loopw [19] (fun i wr => ∃ k : Nat, k ≤ m ∧ i = .int .i64 (k : Int) ∧ ∃ L, L.length = l.length ∧ okAll l.length L ∧ BkD L x j u a d ∧ BkD L z j2 u2 p b ∧ Sm w wr q A cap ps x n Av m c L ∧ Blk wr g 33 (kl z).toArray) (fun i _ => m + 1 - (intOf i).toNat)
  case atStart => exact ⟨0, by omega, rfl, L0, HLEN.out, HOL.out, HD1.out, HD2.out, S6.out, G6.out⟩
  case round =>
    obtain ⟨k, hk, rfl, L, hlen, hok, hd1, hd2, hs, hg⟩ := hrel
    clear S1 S2 S3 S4 S5 S6 G4 G5 G6
    have HS := Lib.hid hs
    have HG := Lib.hid hg
    have HLE := Lib.hid hlen
    have HOK := Lib.hid hok
    have HB1 := Lib.hid hd1
    have HB2 := Lib.hid hd2
    have ck := hs.ck
    have EQ := Lib.hid (Nat.ne_of_gt hs.q_lt)
    clear hs hg hlen hok hd1 hd2
    by_cases hlt : k < m
    · obtain ⟨kb, off, rfl, hcell⟩ := HRK.out k (by rw [HKL.out]; exact hlt)
      generalize Kn[k]'(by rw [HKL.out]; exact hlt) = kd at hcell
      have HCE := Lib.hid hcell
      have d5 : decide ((k : Int) < (m : Int)) = true := decide_eq_true (by omega)
      have d6 : decide (k < m) = true := decide_eq_true hlt
      have d7 : (k : Int) < (m : Int) := by omega
      have HLT := Lib.hid hlt
      have hm10 : m ≤ 10 := by have := HM10.out; omega
      clear hlt hcell
      have HCF := Lib.hid (fun W (hW : Below w.heap.size w W) => ((hW.cell (World.block_lt_of_cell? w _ HCE.out)).trans HCE.out : W.cell? ⟨kb, off + k, none⟩ = some (.int .i64 kd)))
      have HOK2 := Lib.hid (show okAll L.length L by rw [HLE.out]; exact HOK.out)
      have HNL2 := Lib.hid (show 0 < L.length by rw [HLE.out]; exact HN.out)
      have HNM2 := Lib.hid (show L.length ≤ 64 by rw [HLE.out]; exact HNN.out)
      clear HCE
      rcases hpar : ((k : Int) % 2 == 1) with _ | _
      · obtain ⟨L2, r, er, hmk, hl2, ho2, hr2, hf2⟩ := mk_cases HOK2.out HB1.out kd
        have HMK := Lib.hid (fun W (hW : Sm w W q A cap ps x n (some ⟨kb, off, none⟩) m c L) => make_by hW HT.out HOK2.out HNL2.out HNM2.out hmk)
        have HL2 := Lib.hid (hl2.trans HLE.out)
        have HO2 := Lib.hid (show okAll l.length L2 by rw [← HLE.out]; exact ho2)
        have HF1 := Lib.hid (show BkD L2 x j u a d by rcases hf2 with rfl | ⟨k2, rfl⟩; exact HB1.out; exact HB1.out.made _ _ _)
        have HF2 := Lib.hid (show BkD L2 z j2 u2 p b by rcases hf2 with rfl | ⟨k2, rfl⟩; exact HB2.out; exact HB2.out.made _ _ _)
        go_wp2_with (first
          | (show wpList _ _ _ ({ dst := some 131, op := .load _ _, type := _, pos := _, after := _, guard := _ } :: _) _ _; refine wpList_yields (S := fun w' => KeyAt w' w.heap.size 0 x) (y_kyB (by rfl) (.tmp 4) (by rfl) w.heap.size 0 (by rfl) x (fun _ h => h)) (keyAt_of HS.out.b0) ?_)
          | (show wpList _ _ _ ({ dst := none, op := .store _ (.tmp 20) (.tmp 131), type := _, pos := _, after := _, guard := _ } :: _) _ _; refine wpList_store_new (l := kl x) (l0 := kl zk) (ty := 33) rfl (.tmp 20) (.tmp 131) (by rfl) _ rfl (by rfl) (by rfl) size30 rfl (kl_one _) ?_; have T1 := Lib.hid (HS.out.alloc (.cells (kl x).toArray 33)); have K1 := Lib.hid (HG.out.alloc (.cells (kl x).toArray 33)); have J1 := Lib.hid (Blk.new wr 33 (kl x).toArray); have EJ := Lib.hid (HS.out.sz); have NJ := Lib.hid (Nat.ne_of_gt HS.out.q_lt); have NG := Lib.hid (Nat.ne_of_gt HG.out.lt); clear ck; have ck := T1.out.ck; generalize wr.alloc (.cells (kl x).toArray 33) = wa at T1 K1 J1 ck ⊢; generalize wr.heap.size = h at J1 EJ NJ NG ⊢))
        clear hmk hl2 ho2 hf2
        rcases y8 : (er == 0) with _ | _
        · clear hr2
          refine wp_region_only (S := fun w' => KeyAt w' h 0 x ∧ w'.cell? ⟨w.heap.size + 1, 1, none⟩ = some (.slice (some ⟨kb, off, none⟩) m c) ∧ w'.cell? ⟨kb, off + k, none⟩ = some (.int .i64 kd)) (by kernel_rfl) ⟨keyAt_of J1.out.drew, T1.out.drew.ck, HCF.out _ T1.out.drew.bel⟩ (fun hHeld => ?_)
          refine wpAnyH_take (i := 0) (v := ?v1) rfl (by kernel_rfl) (by kernel_rfl) (by kernel_rfl) (fun _ _ _ h => h) (Or.inl ⟨by rfl, ?hy1⟩) hHeld ?rest1
          case hy1 =>
            intro w' hSw
            try dsimp only at hSw
            go_simp
            first | done | with_reducible rfl
          try simp only [Act.put, List.getElem_toArray, List.getElem_cons_zero, List.setIfInBounds_toArray, List.set_cons_zero, List.set_cons_succ]
          refine wpAnyH_take (i := 1) rfl (by kernel_rfl) (by kernel_rfl) (by kernel_rfl) (fun _ _ _ h => h) (y_kyB (by rfl) (.tmp 20) (by rfl) h 0 (by rfl) x (fun _ h => h.1)) hHeld ?_
          try simp only [Act.put, List.getElem_toArray, List.getElem_cons_succ, List.getElem_cons_zero, List.setIfInBounds_toArray, List.set_cons_zero, List.set_cons_succ]
          refine wpAnyH_take (i := 2) (v := ?v2) rfl (by kernel_rfl) (by kernel_rfl) (by kernel_rfl) (fun _ _ _ h => h) (Or.inl ⟨by rfl, ?hy2⟩) hHeld ?rest2
          case hy2 =>
            intro w' hSw
            try dsimp only at hSw
            go_simp
            first | done | with_reducible rfl
          try simp only [Act.put, List.getElem_toArray, List.getElem_cons_succ, List.getElem_cons_zero, List.setIfInBounds_toArray, List.set_cons_zero, List.set_cons_succ]
          refine wpAnyH_take (i := 3) (v := ?v3) rfl (by kernel_rfl) (by kernel_rfl) (by kernel_rfl) (fun _ _ _ h => h) (Or.inl ⟨by rfl, ?hy3⟩) hHeld ?rest3
          case hy3 =>
            intro w' hSw
            try dsimp only at hSw
            go_simp
            first | done | with_reducible rfl
          try simp only [Act.put, List.getElem_toArray, List.getElem_cons_succ, List.getElem_cons_zero, List.setIfInBounds_toArray, List.set_cons_zero, List.set_cons_succ]
          refine wpAnyH_take (i := 4) (v := ?v4) rfl (by kernel_rfl) (by kernel_rfl) (by kernel_rfl) (fun _ _ _ h => h) (Or.inl ⟨by rfl, ?hy4⟩) hHeld ?rest4
          case hy4 =>
            intro w' hSw
            try dsimp only at hSw
            go_simp
            first | done | with_reducible rfl
          try simp only [Act.put, List.getElem_toArray, List.getElem_cons_succ, List.getElem_cons_zero, List.setIfInBounds_toArray, List.set_cons_zero, List.set_cons_succ]
          refine wpAnyH_take (i := 5) (v := ?v5) rfl (by kernel_rfl) (by kernel_rfl) (by kernel_rfl) (fun _ _ _ h => h) (Or.inl ⟨by rfl, ?hy5⟩) hHeld ?rest5
          case hy5 =>
            intro w' hSw
            try dsimp only at hSw
            go_simp
            first | done | with_reducible rfl
          try simp only [Act.put, List.getElem_toArray, List.getElem_cons_succ, List.getElem_cons_zero, List.setIfInBounds_toArray, List.set_cons_zero, List.set_cons_succ]
          refine wpAnyH_take (i := 6) (v := ?v6) rfl (by kernel_rfl) (by kernel_rfl) (by kernel_rfl) (fun _ _ _ h => h) (Or.inl ⟨by rfl, ?hy6⟩) hHeld ?rest6
          case hy6 =>
            intro w' hSw
            try dsimp only at hSw
            go_simp
            first | done | with_reducible rfl
          try simp only [Act.put, List.getElem_toArray, List.getElem_cons_succ, List.getElem_cons_zero, List.setIfInBounds_toArray, List.set_cons_zero, List.set_cons_succ]
          refine wpAnyH_ready (rs := [7, 11]) (by kernel_rfl) (by simp) ?_
          refine AllReadyH.cons (by rfl) (fun K hK => ?_) (AllReadyH.cons (by rfl) (fun K hK => ?_) AllReadyH.nil)
          · go_simp
            refine (HMK.out _ T1.out.drew).mono ?_
            rintro e_ wm ⟨rfl, s_, k_⟩
            have TM := Lib.hid s_
            have KM := Lib.hid (k_ _ _ _ K1.out.drew (by decide))
            have JM := Lib.hid (k_ _ _ _ J1.out.drew (by decide))
            clear s_ k_ hHeld
            go_wp2_with fail
            refine hK.out _ _ ⟨keyAt_of JM.out, TM.out.ck, HCF.out _ TM.out.bel⟩ (fun hHeld => ?_)
            clear hK K
            try simp only [Act.put, List.getElem_toArray, List.getElem_cons_succ, List.getElem_cons_zero, List.setIfInBounds_toArray, List.set_cons_zero, List.set_cons_succ]
            refine wpAnyH_take (i := 8) (v := ?v7) rfl (by kernel_rfl) (by kernel_rfl) (by kernel_rfl) (fun _ _ _ h => h) (Or.inl ⟨by rfl, ?hy7⟩) hHeld ?rest7
            case hy7 =>
              intro w' hSw
              try dsimp only at hSw
              go_simp
              first | done | with_reducible rfl
            try simp only [Act.put, List.getElem_toArray, List.getElem_cons_succ, List.getElem_cons_zero, List.setIfInBounds_toArray, List.set_cons_zero, List.set_cons_succ]
            refine wpAnyH_take (i := 9) (v := ?v8) rfl (by kernel_rfl) (by kernel_rfl) (by kernel_rfl) (fun _ _ _ h => h) (Or.inl ⟨by rfl, ?hy8⟩) hHeld ?rest8
            case hy8 =>
              intro w' hSw
              try dsimp only at hSw
              go_simp
              first | done | with_reducible rfl
            try simp only [Act.put, List.getElem_toArray, List.getElem_cons_succ, List.getElem_cons_zero, List.setIfInBounds_toArray, List.set_cons_zero, List.set_cons_succ]
            refine wpAnyH_take (i := 10) (v := ?v9) rfl (by kernel_rfl) (by kernel_rfl) (by kernel_rfl) (fun _ _ _ h => h) (Or.inl ⟨by rfl, ?hy9⟩) hHeld ?rest9
            case hy9 =>
              intro w' hSw
              try dsimp only at hSw
              go_simp
              first | done | with_reducible rfl
            try simp only [Act.put, List.getElem_toArray, List.getElem_cons_succ, List.getElem_cons_zero, List.setIfInBounds_toArray, List.set_cons_zero, List.set_cons_succ]
            refine wpAnyH_ready (rs := [11]) (by kernel_rfl) (by simp) ?_
            refine AllReadyH.cons (by rfl) (fun K hK => ?_) AllReadyH.nil
            refine step_alloc30 rfl (by rfl) ?_
            intro r23 wn hg hw
            have TA : Hid (Sm w wn q A cap ps x n _ m c L2) := Lib.hid (by subst hw; exact TM.out.alloc _)
            have KA : Hid (Blk wn g 33 (kl z).toArray) := Lib.hid (by subst hw; exact KM.out.alloc _)
            have JA : Hid (Blk wn h 33 (kl x).toArray) := Lib.hid (by subst hw; exact JM.out.alloc _)
            have RA : Hid (Blk wn r23 33 (kl zk).toArray) := Lib.hid (by subst hw hg; exact Blk.new _ _ _)
            have ER : Hid (w.heap.size + 2 ≤ r23) := Lib.hid (by subst hg; exact TM.out.sz)
            have NR : Hid (r23 ≠ q) := Lib.hid (by subst hg; exact Nat.ne_of_gt TM.out.q_lt)
            have NRG : Hid (g ≠ r23) := Lib.hid (by subst hg; exact Nat.ne_of_lt KM.out.lt)
            have NRH : Hid (h ≠ r23) := Lib.hid (by subst hg; exact Nat.ne_of_lt JM.out.lt)
            clear hg hw hHeld
            refine hK.out _ _ ⟨keyAt_of JA.out, TA.out.ck, HCF.out _ TA.out.bel⟩ (fun hHeld => ?_)
            clear hK K
            try simp only [Act.put, List.getElem_toArray, List.getElem_cons_succ, List.getElem_cons_zero]
            refine wpAnyH_ready (rs := [12]) (by kernel_rfl) (by simp) ?_
            refine AllReadyH.cons (by rfl) (fun K hK => ?_) AllReadyH.nil
            refine step_store_big RA.out rfl (.tmp 23) (.tmp 149) (ty := 33) (l := kl r) rfl (by rfl) (by rfl) size30 rfl (kl_one _) ?_
            have TB := Lib.hid (TA.out.set RA.out (by decide) ER.out NR.out (kl r).toArray)
            have KB := Lib.hid (Blk.row_far KA.out NRG.out (kl r).toArray)
            have JB := Lib.hid (Blk.row_far JA.out NRH.out (kl r).toArray)
            have RB := Lib.hid (RA.out.setRow (kl r).toArray)
            have cr := RB.out.six.2.1
            generalize wn.setRow r23 (kl r).toArray = WB at TB KB RB JB cr ⊢
            refine hK.out _ _ ⟨keyAt_of JB.out, TB.out.ck, HCF.out _ TB.out.bel⟩ (fun hHeld => ?_)
            clear hK K
            try simp only [Act.put, List.getElem_toArray, List.getElem_cons_succ, List.getElem_cons_zero]
            refine wpAnyH_take (i := 13) (v := ?v10) rfl (by kernel_rfl) (by kernel_rfl) (by kernel_rfl) (fun _ _ _ h => h) (Or.inl ⟨by rfl, ?hy10⟩) hHeld ?rest10
            case hy10 =>
              intro w' hSw
              try dsimp only at hSw
              go_simp
              first | done | with_reducible rfl
            try simp only [Act.put, List.getElem_toArray, List.getElem_cons_succ, List.getElem_cons_zero, List.setIfInBounds_toArray, List.set_cons_zero, List.set_cons_succ]
            refine wpAnyH_done (by kernel_rfl) ?_ _
            refine OnlyN.normal ?_
            go_wp2_with fail
            go_roundw
            case rel => exact ⟨k + 1, HLT.out, by go_num, L2, HL2.out, HO2.out, HF1.out, HF2.out, TB.out, KB.out⟩
            case measure => simp [intOf]; omega
          · refine step_alloc30 rfl (by rfl) ?_
            intro r23 wn hg hw
            have TA : Hid (Sm w wn q A cap ps x n _ m c L) := Lib.hid (by subst hw; exact T1.out.drew.alloc _)
            have KA : Hid (Blk wn g 33 (kl z).toArray) := Lib.hid (by subst hw; exact K1.out.drew.alloc _)
            have JA : Hid (Blk wn h 33 (kl x).toArray) := Lib.hid (by subst hw; exact J1.out.drew.alloc _)
            have RA : Hid (Blk wn r23 33 (kl zk).toArray) := Lib.hid (by subst hw hg; exact Blk.new _ _ _)
            have ER : Hid (w.heap.size + 2 ≤ r23) := Lib.hid (by subst hg; exact T1.out.sz)
            have NR : Hid (r23 ≠ q) := Lib.hid (by subst hg; exact Nat.ne_of_gt T1.out.q_lt)
            have NRG : Hid (g ≠ r23) := Lib.hid (by subst hg; exact Nat.ne_of_lt K1.out.lt)
            have NRH : Hid (h ≠ r23) := Lib.hid (by subst hg; exact Nat.ne_of_lt J1.out.lt)
            clear hg hw hHeld
            refine hK.out _ _ ⟨keyAt_of JA.out, TA.out.ck, HCF.out _ TA.out.bel⟩ (fun hHeld => ?_)
            clear hK K
            try simp only [Act.put, List.getElem_toArray, List.getElem_cons_succ, List.getElem_cons_zero, List.setIfInBounds_toArray, List.set_cons_zero, List.set_cons_succ]
            refine wpAnyH_ready (rs := [7]) (by kernel_rfl) (by simp) ?_
            refine AllReadyH.cons (by rfl) (fun K hK => ?_) AllReadyH.nil
            go_simp
            refine (HMK.out _ TA.out).mono ?_
            rintro e_ wm ⟨rfl, s_, k_⟩
            have TM := Lib.hid s_
            have KM := Lib.hid (k_ _ _ _ KA.out (by decide))
            have JM := Lib.hid (k_ _ _ _ JA.out (by decide))
            have RM := Lib.hid (k_ _ _ _ RA.out (by decide))
            clear s_ k_ hHeld
            go_wp2_with fail
            refine hK.out _ _ ⟨keyAt_of JM.out, TM.out.ck, HCF.out _ TM.out.bel⟩ (fun hHeld => ?_)
            clear hK K
            try simp only [Act.put, List.getElem_toArray, List.getElem_cons_succ, List.getElem_cons_zero]
            refine wpAnyH_take (i := 8) (v := ?v11) rfl (by kernel_rfl) (by kernel_rfl) (by kernel_rfl) (fun _ _ _ h => h) (Or.inl ⟨by rfl, ?hy11⟩) hHeld ?rest11
            case hy11 =>
              intro w' hSw
              try dsimp only at hSw
              go_simp
              first | done | with_reducible rfl
            try simp only [Act.put, List.getElem_toArray, List.getElem_cons_succ, List.getElem_cons_zero, List.setIfInBounds_toArray, List.set_cons_zero, List.set_cons_succ]
            refine wpAnyH_take (i := 9) (v := ?v12) rfl (by kernel_rfl) (by kernel_rfl) (by kernel_rfl) (fun _ _ _ h => h) (Or.inl ⟨by rfl, ?hy12⟩) hHeld ?rest12
            case hy12 =>
              intro w' hSw
              try dsimp only at hSw
              go_simp
              first | done | with_reducible rfl
            try simp only [Act.put, List.getElem_toArray, List.getElem_cons_succ, List.getElem_cons_zero, List.setIfInBounds_toArray, List.set_cons_zero, List.set_cons_succ]
            refine wpAnyH_take (i := 10) (v := ?v13) rfl (by kernel_rfl) (by kernel_rfl) (by kernel_rfl) (fun _ _ _ h => h) (Or.inl ⟨by rfl, ?hy13⟩) hHeld ?rest13
            case hy13 =>
              intro w' hSw
              try dsimp only at hSw
              go_simp
              first | done | with_reducible rfl
            try simp only [Act.put, List.getElem_toArray, List.getElem_cons_succ, List.getElem_cons_zero, List.setIfInBounds_toArray, List.set_cons_zero, List.set_cons_succ]
            refine wpAnyH_ready (rs := [12]) (by kernel_rfl) (by simp) ?_
            refine AllReadyH.cons (by rfl) (fun K hK => ?_) AllReadyH.nil
            refine step_store_big RM.out rfl (.tmp 23) (.tmp 149) (ty := 33) (l := kl r) rfl (by rfl) (by rfl) size30 rfl (kl_one _) ?_
            have TB := Lib.hid (TM.out.set RM.out (by decide) ER.out NR.out (kl r).toArray)
            have KB := Lib.hid (Blk.row_far KM.out NRG.out (kl r).toArray)
            have JB := Lib.hid (Blk.row_far JM.out NRH.out (kl r).toArray)
            have RB := Lib.hid (RM.out.setRow (kl r).toArray)
            have cr := RB.out.six.2.1
            generalize wm.setRow r23 (kl r).toArray = WB at TB KB RB JB cr ⊢
            refine hK.out _ _ ⟨keyAt_of JB.out, TB.out.ck, HCF.out _ TB.out.bel⟩ (fun hHeld => ?_)
            clear hK K
            try simp only [Act.put, List.getElem_toArray, List.getElem_cons_succ, List.getElem_cons_zero]
            refine wpAnyH_take (i := 13) (v := ?v14) rfl (by kernel_rfl) (by kernel_rfl) (by kernel_rfl) (fun _ _ _ h => h) (Or.inl ⟨by rfl, ?hy14⟩) hHeld ?rest14
            case hy14 =>
              intro w' hSw
              try dsimp only at hSw
              go_simp
              first | done | with_reducible rfl
            try simp only [Act.put, List.getElem_toArray, List.getElem_cons_succ, List.getElem_cons_zero, List.setIfInBounds_toArray, List.set_cons_zero, List.set_cons_succ]
            refine wpAnyH_done (by kernel_rfl) ?_ _
            refine OnlyN.normal ?_
            go_wp2_with fail
            go_roundw
            case rel => exact ⟨k + 1, HLT.out, by go_num, L2, HL2.out, HO2.out, HF1.out, HF2.out, TB.out, KB.out⟩
            case measure => simp [intOf]; omega
        · have d8 : decide (r.o < (a : Int)) = false := decide_eq_false (by have := hr2 (by simpa using y8); omega)
          have d9 : decide ((d : Int) < r.o) = false := decide_eq_false (by have := hr2 (by simpa using y8); omega)
          clear hr2
          refine wp_region_only (S := fun w' => KeyAt w' h 0 x ∧ w'.cell? ⟨w.heap.size + 1, 1, none⟩ = some (.slice (some ⟨kb, off, none⟩) m c) ∧ w'.cell? ⟨kb, off + k, none⟩ = some (.int .i64 kd)) (by kernel_rfl) ⟨keyAt_of J1.out.drew, T1.out.drew.ck, HCF.out _ T1.out.drew.bel⟩ (fun hHeld => ?_)
          refine wpAnyH_take (i := 0) (v := ?v15) rfl (by kernel_rfl) (by kernel_rfl) (by kernel_rfl) (fun _ _ _ h => h) (Or.inl ⟨by rfl, ?hy15⟩) hHeld ?rest15
          case hy15 =>
            intro w' hSw
            try dsimp only at hSw
            go_simp
            first | done | with_reducible rfl
          try simp only [Act.put, List.getElem_toArray, List.getElem_cons_zero, List.setIfInBounds_toArray, List.set_cons_zero, List.set_cons_succ]
          refine wpAnyH_take (i := 1) rfl (by kernel_rfl) (by kernel_rfl) (by kernel_rfl) (fun _ _ _ h => h) (y_kyB (by rfl) (.tmp 20) (by rfl) h 0 (by rfl) x (fun _ h => h.1)) hHeld ?_
          try simp only [Act.put, List.getElem_toArray, List.getElem_cons_succ, List.getElem_cons_zero, List.setIfInBounds_toArray, List.set_cons_zero, List.set_cons_succ]
          refine wpAnyH_take (i := 2) (v := ?v16) rfl (by kernel_rfl) (by kernel_rfl) (by kernel_rfl) (fun _ _ _ h => h) (Or.inl ⟨by rfl, ?hy16⟩) hHeld ?rest16
          case hy16 =>
            intro w' hSw
            try dsimp only at hSw
            go_simp
            first | done | with_reducible rfl
          try simp only [Act.put, List.getElem_toArray, List.getElem_cons_succ, List.getElem_cons_zero, List.setIfInBounds_toArray, List.set_cons_zero, List.set_cons_succ]
          refine wpAnyH_take (i := 3) (v := ?v17) rfl (by kernel_rfl) (by kernel_rfl) (by kernel_rfl) (fun _ _ _ h => h) (Or.inl ⟨by rfl, ?hy17⟩) hHeld ?rest17
          case hy17 =>
            intro w' hSw
            try dsimp only at hSw
            go_simp
            first | done | with_reducible rfl
          try simp only [Act.put, List.getElem_toArray, List.getElem_cons_succ, List.getElem_cons_zero, List.setIfInBounds_toArray, List.set_cons_zero, List.set_cons_succ]
          refine wpAnyH_take (i := 4) (v := ?v18) rfl (by kernel_rfl) (by kernel_rfl) (by kernel_rfl) (fun _ _ _ h => h) (Or.inl ⟨by rfl, ?hy18⟩) hHeld ?rest18
          case hy18 =>
            intro w' hSw
            try dsimp only at hSw
            go_simp
            first | done | with_reducible rfl
          try simp only [Act.put, List.getElem_toArray, List.getElem_cons_succ, List.getElem_cons_zero, List.setIfInBounds_toArray, List.set_cons_zero, List.set_cons_succ]
          refine wpAnyH_take (i := 5) (v := ?v19) rfl (by kernel_rfl) (by kernel_rfl) (by kernel_rfl) (fun _ _ _ h => h) (Or.inl ⟨by rfl, ?hy19⟩) hHeld ?rest19
          case hy19 =>
            intro w' hSw
            try dsimp only at hSw
            go_simp
            first | done | with_reducible rfl
          try simp only [Act.put, List.getElem_toArray, List.getElem_cons_succ, List.getElem_cons_zero, List.setIfInBounds_toArray, List.set_cons_zero, List.set_cons_succ]
          refine wpAnyH_take (i := 6) (v := ?v20) rfl (by kernel_rfl) (by kernel_rfl) (by kernel_rfl) (fun _ _ _ h => h) (Or.inl ⟨by rfl, ?hy20⟩) hHeld ?rest20
          case hy20 =>
            intro w' hSw
            try dsimp only at hSw
            go_simp
            first | done | with_reducible rfl
          try simp only [Act.put, List.getElem_toArray, List.getElem_cons_succ, List.getElem_cons_zero, List.setIfInBounds_toArray, List.set_cons_zero, List.set_cons_succ]
          refine wpAnyH_ready (rs := [7, 11]) (by kernel_rfl) (by simp) ?_
          refine AllReadyH.cons (by rfl) (fun K hK => ?_) (AllReadyH.cons (by rfl) (fun K hK => ?_) AllReadyH.nil)
          · go_simp
            refine (HMK.out _ T1.out.drew).mono ?_
            rintro e_ wm ⟨rfl, s_, k_⟩
            have TM := Lib.hid s_
            have KM := Lib.hid (k_ _ _ _ K1.out.drew (by decide))
            have JM := Lib.hid (k_ _ _ _ J1.out.drew (by decide))
            clear s_ k_ hHeld
            go_wp2_with fail
            refine hK.out _ _ ⟨keyAt_of JM.out, TM.out.ck, HCF.out _ TM.out.bel⟩ (fun hHeld => ?_)
            clear hK K
            try simp only [Act.put, List.getElem_toArray, List.getElem_cons_succ, List.getElem_cons_zero, List.setIfInBounds_toArray, List.set_cons_zero, List.set_cons_succ]
            refine wpAnyH_take (i := 8) (v := ?v21) rfl (by kernel_rfl) (by kernel_rfl) (by kernel_rfl) (fun _ _ _ h => h) (Or.inl ⟨by rfl, ?hy21⟩) hHeld ?rest21
            case hy21 =>
              intro w' hSw
              try dsimp only at hSw
              go_simp
              first | done | with_reducible rfl
            try simp only [Act.put, List.getElem_toArray, List.getElem_cons_succ, List.getElem_cons_zero, List.setIfInBounds_toArray, List.set_cons_zero, List.set_cons_succ]
            refine wpAnyH_take (i := 9) (v := ?v22) rfl (by kernel_rfl) (by kernel_rfl) (by kernel_rfl) (fun _ _ _ h => h) (Or.inl ⟨by rfl, ?hy22⟩) hHeld ?rest22
            case hy22 =>
              intro w' hSw
              try dsimp only at hSw
              go_simp
              first | done | with_reducible rfl
            try simp only [Act.put, List.getElem_toArray, List.getElem_cons_succ, List.getElem_cons_zero, List.setIfInBounds_toArray, List.set_cons_zero, List.set_cons_succ]
            refine wpAnyH_take (i := 10) (v := ?v23) rfl (by kernel_rfl) (by kernel_rfl) (by kernel_rfl) (fun _ _ _ h => h) (Or.inl ⟨by rfl, ?hy23⟩) hHeld ?rest23
            case hy23 =>
              intro w' hSw
              try dsimp only at hSw
              go_simp
              first | done | with_reducible rfl
            try simp only [Act.put, List.getElem_toArray, List.getElem_cons_succ, List.getElem_cons_zero, List.setIfInBounds_toArray, List.set_cons_zero, List.set_cons_succ]
            refine wpAnyH_ready (rs := [11]) (by kernel_rfl) (by simp) ?_
            refine AllReadyH.cons (by rfl) (fun K hK => ?_) AllReadyH.nil
            refine step_alloc30 rfl (by rfl) ?_
            intro r23 wn hg hw
            have TA : Hid (Sm w wn q A cap ps x n _ m c L2) := Lib.hid (by subst hw; exact TM.out.alloc _)
            have KA : Hid (Blk wn g 33 (kl z).toArray) := Lib.hid (by subst hw; exact KM.out.alloc _)
            have JA : Hid (Blk wn h 33 (kl x).toArray) := Lib.hid (by subst hw; exact JM.out.alloc _)
            have RA : Hid (Blk wn r23 33 (kl zk).toArray) := Lib.hid (by subst hw hg; exact Blk.new _ _ _)
            have ER : Hid (w.heap.size + 2 ≤ r23) := Lib.hid (by subst hg; exact TM.out.sz)
            have NR : Hid (r23 ≠ q) := Lib.hid (by subst hg; exact Nat.ne_of_gt TM.out.q_lt)
            have NRG : Hid (g ≠ r23) := Lib.hid (by subst hg; exact Nat.ne_of_lt KM.out.lt)
            have NRH : Hid (h ≠ r23) := Lib.hid (by subst hg; exact Nat.ne_of_lt JM.out.lt)
            clear hg hw hHeld
            refine hK.out _ _ ⟨keyAt_of JA.out, TA.out.ck, HCF.out _ TA.out.bel⟩ (fun hHeld => ?_)
            clear hK K
            try simp only [Act.put, List.getElem_toArray, List.getElem_cons_succ, List.getElem_cons_zero]
            refine wpAnyH_ready (rs := [12]) (by kernel_rfl) (by simp) ?_
            refine AllReadyH.cons (by rfl) (fun K hK => ?_) AllReadyH.nil
            refine step_store_big RA.out rfl (.tmp 23) (.tmp 149) (ty := 33) (l := kl r) rfl (by rfl) (by rfl) size30 rfl (kl_one _) ?_
            have TB := Lib.hid (TA.out.set RA.out (by decide) ER.out NR.out (kl r).toArray)
            have KB := Lib.hid (Blk.row_far KA.out NRG.out (kl r).toArray)
            have JB := Lib.hid (Blk.row_far JA.out NRH.out (kl r).toArray)
            have RB := Lib.hid (RA.out.setRow (kl r).toArray)
            have cr := RB.out.six.2.1
            generalize wn.setRow r23 (kl r).toArray = WB at TB KB RB JB cr ⊢
            refine hK.out _ _ ⟨keyAt_of JB.out, TB.out.ck, HCF.out _ TB.out.bel⟩ (fun hHeld => ?_)
            clear hK K
            try simp only [Act.put, List.getElem_toArray, List.getElem_cons_succ, List.getElem_cons_zero]
            refine wpAnyH_take (i := 13) (v := ?v24) rfl (by kernel_rfl) (by kernel_rfl) (by kernel_rfl) (fun _ _ _ h => h) (Or.inl ⟨by rfl, ?hy24⟩) hHeld ?rest24
            case hy24 =>
              intro w' hSw
              try dsimp only at hSw
              go_simp
              first | done | with_reducible rfl
            try simp only [Act.put, List.getElem_toArray, List.getElem_cons_succ, List.getElem_cons_zero, List.setIfInBounds_toArray, List.set_cons_zero, List.set_cons_succ]
            refine wpAnyH_done (by kernel_rfl) ?_ _
            refine OnlyN.normal ?_
            go_wp2_with fail
            go_roundw
            case rel => exact ⟨k + 1, HLT.out, by go_num, L2, HL2.out, HO2.out, HF1.out, HF2.out, TB.out, KB.out⟩
            case measure => simp [intOf]; omega
          · refine step_alloc30 rfl (by rfl) ?_
            intro r23 wn hg hw
            have TA : Hid (Sm w wn q A cap ps x n _ m c L) := Lib.hid (by subst hw; exact T1.out.drew.alloc _)
            have KA : Hid (Blk wn g 33 (kl z).toArray) := Lib.hid (by subst hw; exact K1.out.drew.alloc _)
            have JA : Hid (Blk wn h 33 (kl x).toArray) := Lib.hid (by subst hw; exact J1.out.drew.alloc _)
            have RA : Hid (Blk wn r23 33 (kl zk).toArray) := Lib.hid (by subst hw hg; exact Blk.new _ _ _)
            have ER : Hid (w.heap.size + 2 ≤ r23) := Lib.hid (by subst hg; exact T1.out.sz)
            have NR : Hid (r23 ≠ q) := Lib.hid (by subst hg; exact Nat.ne_of_gt T1.out.q_lt)
            have NRG : Hid (g ≠ r23) := Lib.hid (by subst hg; exact Nat.ne_of_lt K1.out.lt)
            have NRH : Hid (h ≠ r23) := Lib.hid (by subst hg; exact Nat.ne_of_lt J1.out.lt)
            clear hg hw hHeld
            refine hK.out _ _ ⟨keyAt_of JA.out, TA.out.ck, HCF.out _ TA.out.bel⟩ (fun hHeld => ?_)
            clear hK K
            try simp only [Act.put, List.getElem_toArray, List.getElem_cons_succ, List.getElem_cons_zero, List.setIfInBounds_toArray, List.set_cons_zero, List.set_cons_succ]
            refine wpAnyH_ready (rs := [7]) (by kernel_rfl) (by simp) ?_
            refine AllReadyH.cons (by rfl) (fun K hK => ?_) AllReadyH.nil
            go_simp
            refine (HMK.out _ TA.out).mono ?_
            rintro e_ wm ⟨rfl, s_, k_⟩
            have TM := Lib.hid s_
            have KM := Lib.hid (k_ _ _ _ KA.out (by decide))
            have JM := Lib.hid (k_ _ _ _ JA.out (by decide))
            have RM := Lib.hid (k_ _ _ _ RA.out (by decide))
            clear s_ k_ hHeld
            go_wp2_with fail
            refine hK.out _ _ ⟨keyAt_of JM.out, TM.out.ck, HCF.out _ TM.out.bel⟩ (fun hHeld => ?_)
            clear hK K
            try simp only [Act.put, List.getElem_toArray, List.getElem_cons_succ, List.getElem_cons_zero]
            refine wpAnyH_take (i := 8) (v := ?v25) rfl (by kernel_rfl) (by kernel_rfl) (by kernel_rfl) (fun _ _ _ h => h) (Or.inl ⟨by rfl, ?hy25⟩) hHeld ?rest25
            case hy25 =>
              intro w' hSw
              try dsimp only at hSw
              go_simp
              first | done | with_reducible rfl
            try simp only [Act.put, List.getElem_toArray, List.getElem_cons_succ, List.getElem_cons_zero, List.setIfInBounds_toArray, List.set_cons_zero, List.set_cons_succ]
            refine wpAnyH_take (i := 9) (v := ?v26) rfl (by kernel_rfl) (by kernel_rfl) (by kernel_rfl) (fun _ _ _ h => h) (Or.inl ⟨by rfl, ?hy26⟩) hHeld ?rest26
            case hy26 =>
              intro w' hSw
              try dsimp only at hSw
              go_simp
              first | done | with_reducible rfl
            try simp only [Act.put, List.getElem_toArray, List.getElem_cons_succ, List.getElem_cons_zero, List.setIfInBounds_toArray, List.set_cons_zero, List.set_cons_succ]
            refine wpAnyH_take (i := 10) (v := ?v27) rfl (by kernel_rfl) (by kernel_rfl) (by kernel_rfl) (fun _ _ _ h => h) (Or.inl ⟨by rfl, ?hy27⟩) hHeld ?rest27
            case hy27 =>
              intro w' hSw
              try dsimp only at hSw
              go_simp
              first | done | with_reducible rfl
            try simp only [Act.put, List.getElem_toArray, List.getElem_cons_succ, List.getElem_cons_zero, List.setIfInBounds_toArray, List.set_cons_zero, List.set_cons_succ]
            refine wpAnyH_ready (rs := [12]) (by kernel_rfl) (by simp) ?_
            refine AllReadyH.cons (by rfl) (fun K hK => ?_) AllReadyH.nil
            refine step_store_big RM.out rfl (.tmp 23) (.tmp 149) (ty := 33) (l := kl r) rfl (by rfl) (by rfl) size30 rfl (kl_one _) ?_
            have TB := Lib.hid (TM.out.set RM.out (by decide) ER.out NR.out (kl r).toArray)
            have KB := Lib.hid (Blk.row_far KM.out NRG.out (kl r).toArray)
            have JB := Lib.hid (Blk.row_far JM.out NRH.out (kl r).toArray)
            have RB := Lib.hid (RM.out.setRow (kl r).toArray)
            have cr := RB.out.six.2.1
            generalize wm.setRow r23 (kl r).toArray = WB at TB KB RB JB cr ⊢
            refine hK.out _ _ ⟨keyAt_of JB.out, TB.out.ck, HCF.out _ TB.out.bel⟩ (fun hHeld => ?_)
            clear hK K
            try simp only [Act.put, List.getElem_toArray, List.getElem_cons_succ, List.getElem_cons_zero]
            refine wpAnyH_take (i := 13) (v := ?v28) rfl (by kernel_rfl) (by kernel_rfl) (by kernel_rfl) (fun _ _ _ h => h) (Or.inl ⟨by rfl, ?hy28⟩) hHeld ?rest28
            case hy28 =>
              intro w' hSw
              try dsimp only at hSw
              go_simp
              first | done | with_reducible rfl
            try simp only [Act.put, List.getElem_toArray, List.getElem_cons_succ, List.getElem_cons_zero, List.setIfInBounds_toArray, List.set_cons_zero, List.set_cons_succ]
            refine wpAnyH_done (by kernel_rfl) ?_ _
            refine OnlyN.normal ?_
            go_wp2_with fail
            go_roundw
            case rel => exact ⟨k + 1, HLT.out, by go_num, L2, HL2.out, HO2.out, HF1.out, HF2.out, TB.out, KB.out⟩
            case measure => simp [intOf]; omega
      · obtain ⟨L2, r, er, hmk, hl2, ho2, hr2, hf2⟩ := mk_cases HOK2.out HB2.out kd
        have HMK := Lib.hid (fun W (hW : Sm w W q A cap ps x n (some ⟨kb, off, none⟩) m c L) => make_by hW HT.out HOK2.out HNL2.out HNM2.out hmk)
        have HL2 := Lib.hid (hl2.trans HLE.out)
        have HO2 := Lib.hid (show okAll l.length L2 by rw [← HLE.out]; exact ho2)
        have HF1 := Lib.hid (show BkD L2 x j u a d by rcases hf2 with rfl | ⟨k2, rfl⟩; exact HB1.out; exact HB1.out.made _ _ _)
        have HF2 := Lib.hid (show BkD L2 z j2 u2 p b by rcases hf2 with rfl | ⟨k2, rfl⟩; exact HB2.out; exact HB2.out.made _ _ _)
        go_wp2_with (first
          | (show wpList _ _ _ ({ dst := some 137, op := .load _ _, type := _, pos := _, after := _, guard := _ } :: _) _ _; refine wpList_yields (S := fun w' => KeyAt w' g 0 z) (y_kyB (by rfl) (.tmp 11) (by rfl) g 0 (by rfl) z (fun _ h => h)) (keyAt_of K1.out) ?_)
          | (show wpList _ _ _ ({ dst := none, op := .store _ (.tmp 20) (.tmp 137), type := _, pos := _, after := _, guard := _ } :: _) _ _; refine wpList_store_big J1.out rfl (.tmp 20) (.tmp 137) (ty := 33) (l := kl z) rfl (by rfl) (by rfl) size30 rfl (kl_one _) ?_; have T2 := Lib.hid (T1.out.set J1.out (by decide) EJ.out NJ.out (kl z).toArray); have K2 := Lib.hid (Blk.row_far K1.out NG.out.symm (kl z).toArray); have J2 := Lib.hid (J1.out.setRow (kl z).toArray); clear ck; have ck := T2.out.ck; generalize wa.setRow h (kl z).toArray = wb at T2 K2 J2 ck ⊢)
          | (show wpList _ _ _ ({ dst := some 131, op := .load _ _, type := _, pos := _, after := _, guard := _ } :: _) _ _; refine wpList_yields (S := fun w' => KeyAt w' w.heap.size 0 x) (y_kyB (by rfl) (.tmp 4) (by rfl) w.heap.size 0 (by rfl) x (fun _ h => h)) (keyAt_of HS.out.b0) ?_)
          | (show wpList _ _ _ ({ dst := none, op := .store _ (.tmp 20) (.tmp 131), type := _, pos := _, after := _, guard := _ } :: _) _ _; refine wpList_store_new (l := kl x) (l0 := kl zk) (ty := 33) rfl (.tmp 20) (.tmp 131) (by rfl) _ rfl (by rfl) (by rfl) size30 rfl (kl_one _) ?_; have T1 := Lib.hid (HS.out.alloc (.cells (kl x).toArray 33)); have K1 := Lib.hid (HG.out.alloc (.cells (kl x).toArray 33)); have J1 := Lib.hid (Blk.new wr 33 (kl x).toArray); have EJ := Lib.hid (HS.out.sz); have NJ := Lib.hid (Nat.ne_of_gt HS.out.q_lt); have NG := Lib.hid (Nat.ne_of_gt HG.out.lt); clear ck; have ck := T1.out.ck; generalize wr.alloc (.cells (kl x).toArray 33) = wa at T1 K1 J1 ck ⊢; generalize wr.heap.size = h at J1 EJ NJ NG ⊢))
        clear hmk hl2 ho2 hf2
        rcases y8 : (er == 0) with _ | _
        · clear hr2
          refine wp_region_only (S := fun w' => KeyAt w' h 0 z ∧ w'.cell? ⟨w.heap.size + 1, 1, none⟩ = some (.slice (some ⟨kb, off, none⟩) m c) ∧ w'.cell? ⟨kb, off + k, none⟩ = some (.int .i64 kd)) (by kernel_rfl) ⟨keyAt_of J2.out.drew, T2.out.drew.ck, HCF.out _ T2.out.drew.bel⟩ (fun hHeld => ?_)
          refine wpAnyH_take (i := 0) (v := ?v29) rfl (by kernel_rfl) (by kernel_rfl) (by kernel_rfl) (fun _ _ _ h => h) (Or.inl ⟨by rfl, ?hy29⟩) hHeld ?rest29
          case hy29 =>
            intro w' hSw
            try dsimp only at hSw
            go_simp
            first | done | with_reducible rfl
          try simp only [Act.put, List.getElem_toArray, List.getElem_cons_zero, List.setIfInBounds_toArray, List.set_cons_zero, List.set_cons_succ]
          refine wpAnyH_take (i := 1) rfl (by kernel_rfl) (by kernel_rfl) (by kernel_rfl) (fun _ _ _ h => h) (y_kyB (by rfl) (.tmp 20) (by rfl) h 0 (by rfl) z (fun _ h => h.1)) hHeld ?_
          try simp only [Act.put, List.getElem_toArray, List.getElem_cons_succ, List.getElem_cons_zero, List.setIfInBounds_toArray, List.set_cons_zero, List.set_cons_succ]
          refine wpAnyH_take (i := 2) (v := ?v30) rfl (by kernel_rfl) (by kernel_rfl) (by kernel_rfl) (fun _ _ _ h => h) (Or.inl ⟨by rfl, ?hy30⟩) hHeld ?rest30
          case hy30 =>
            intro w' hSw
            try dsimp only at hSw
            go_simp
            first | done | with_reducible rfl
          try simp only [Act.put, List.getElem_toArray, List.getElem_cons_succ, List.getElem_cons_zero, List.setIfInBounds_toArray, List.set_cons_zero, List.set_cons_succ]
          refine wpAnyH_take (i := 3) (v := ?v31) rfl (by kernel_rfl) (by kernel_rfl) (by kernel_rfl) (fun _ _ _ h => h) (Or.inl ⟨by rfl, ?hy31⟩) hHeld ?rest31
          case hy31 =>
            intro w' hSw
            try dsimp only at hSw
            go_simp
            first | done | with_reducible rfl
          try simp only [Act.put, List.getElem_toArray, List.getElem_cons_succ, List.getElem_cons_zero, List.setIfInBounds_toArray, List.set_cons_zero, List.set_cons_succ]
          refine wpAnyH_take (i := 4) (v := ?v32) rfl (by kernel_rfl) (by kernel_rfl) (by kernel_rfl) (fun _ _ _ h => h) (Or.inl ⟨by rfl, ?hy32⟩) hHeld ?rest32
          case hy32 =>
            intro w' hSw
            try dsimp only at hSw
            go_simp
            first | done | with_reducible rfl
          try simp only [Act.put, List.getElem_toArray, List.getElem_cons_succ, List.getElem_cons_zero, List.setIfInBounds_toArray, List.set_cons_zero, List.set_cons_succ]
          refine wpAnyH_take (i := 5) (v := ?v33) rfl (by kernel_rfl) (by kernel_rfl) (by kernel_rfl) (fun _ _ _ h => h) (Or.inl ⟨by rfl, ?hy33⟩) hHeld ?rest33
          case hy33 =>
            intro w' hSw
            try dsimp only at hSw
            go_simp
            first | done | with_reducible rfl
          try simp only [Act.put, List.getElem_toArray, List.getElem_cons_succ, List.getElem_cons_zero, List.setIfInBounds_toArray, List.set_cons_zero, List.set_cons_succ]
          refine wpAnyH_take (i := 6) (v := ?v34) rfl (by kernel_rfl) (by kernel_rfl) (by kernel_rfl) (fun _ _ _ h => h) (Or.inl ⟨by rfl, ?hy34⟩) hHeld ?rest34
          case hy34 =>
            intro w' hSw
            try dsimp only at hSw
            go_simp
            first | done | with_reducible rfl
          try simp only [Act.put, List.getElem_toArray, List.getElem_cons_succ, List.getElem_cons_zero, List.setIfInBounds_toArray, List.set_cons_zero, List.set_cons_succ]
          refine wpAnyH_ready (rs := [7, 11]) (by kernel_rfl) (by simp) ?_
          refine AllReadyH.cons (by rfl) (fun K hK => ?_) (AllReadyH.cons (by rfl) (fun K hK => ?_) AllReadyH.nil)
          · go_simp
            refine (HMK.out _ T2.out.drew).mono ?_
            rintro e_ wm ⟨rfl, s_, k_⟩
            have TM := Lib.hid s_
            have KM := Lib.hid (k_ _ _ _ K2.out.drew (by decide))
            have JM := Lib.hid (k_ _ _ _ J2.out.drew (by decide))
            clear s_ k_ hHeld
            go_wp2_with fail
            refine hK.out _ _ ⟨keyAt_of JM.out, TM.out.ck, HCF.out _ TM.out.bel⟩ (fun hHeld => ?_)
            clear hK K
            try simp only [Act.put, List.getElem_toArray, List.getElem_cons_succ, List.getElem_cons_zero, List.setIfInBounds_toArray, List.set_cons_zero, List.set_cons_succ]
            refine wpAnyH_take (i := 8) (v := ?v35) rfl (by kernel_rfl) (by kernel_rfl) (by kernel_rfl) (fun _ _ _ h => h) (Or.inl ⟨by rfl, ?hy35⟩) hHeld ?rest35
            case hy35 =>
              intro w' hSw
              try dsimp only at hSw
              go_simp
              first | done | with_reducible rfl
            try simp only [Act.put, List.getElem_toArray, List.getElem_cons_succ, List.getElem_cons_zero, List.setIfInBounds_toArray, List.set_cons_zero, List.set_cons_succ]
            refine wpAnyH_take (i := 9) (v := ?v36) rfl (by kernel_rfl) (by kernel_rfl) (by kernel_rfl) (fun _ _ _ h => h) (Or.inl ⟨by rfl, ?hy36⟩) hHeld ?rest36
            case hy36 =>
              intro w' hSw
              try dsimp only at hSw
              go_simp
              first | done | with_reducible rfl
            try simp only [Act.put, List.getElem_toArray, List.getElem_cons_succ, List.getElem_cons_zero, List.setIfInBounds_toArray, List.set_cons_zero, List.set_cons_succ]
            refine wpAnyH_take (i := 10) (v := ?v37) rfl (by kernel_rfl) (by kernel_rfl) (by kernel_rfl) (fun _ _ _ h => h) (Or.inl ⟨by rfl, ?hy37⟩) hHeld ?rest37
            case hy37 =>
              intro w' hSw
              try dsimp only at hSw
              go_simp
              first | done | with_reducible rfl
            try simp only [Act.put, List.getElem_toArray, List.getElem_cons_succ, List.getElem_cons_zero, List.setIfInBounds_toArray, List.set_cons_zero, List.set_cons_succ]
            refine wpAnyH_ready (rs := [11]) (by kernel_rfl) (by simp) ?_
            refine AllReadyH.cons (by rfl) (fun K hK => ?_) AllReadyH.nil
            refine step_alloc30 rfl (by rfl) ?_
            intro r23 wn hg hw
            have TA : Hid (Sm w wn q A cap ps x n _ m c L2) := Lib.hid (by subst hw; exact TM.out.alloc _)
            have KA : Hid (Blk wn g 33 (kl z).toArray) := Lib.hid (by subst hw; exact KM.out.alloc _)
            have JA : Hid (Blk wn h 33 (kl z).toArray) := Lib.hid (by subst hw; exact JM.out.alloc _)
            have RA : Hid (Blk wn r23 33 (kl zk).toArray) := Lib.hid (by subst hw hg; exact Blk.new _ _ _)
            have ER : Hid (w.heap.size + 2 ≤ r23) := Lib.hid (by subst hg; exact TM.out.sz)
            have NR : Hid (r23 ≠ q) := Lib.hid (by subst hg; exact Nat.ne_of_gt TM.out.q_lt)
            have NRG : Hid (g ≠ r23) := Lib.hid (by subst hg; exact Nat.ne_of_lt KM.out.lt)
            have NRH : Hid (h ≠ r23) := Lib.hid (by subst hg; exact Nat.ne_of_lt JM.out.lt)
            clear hg hw hHeld
            refine hK.out _ _ ⟨keyAt_of JA.out, TA.out.ck, HCF.out _ TA.out.bel⟩ (fun hHeld => ?_)
            clear hK K
            try simp only [Act.put, List.getElem_toArray, List.getElem_cons_succ, List.getElem_cons_zero]
            refine wpAnyH_ready (rs := [12]) (by kernel_rfl) (by simp) ?_
            refine AllReadyH.cons (by rfl) (fun K hK => ?_) AllReadyH.nil
            refine step_store_big RA.out rfl (.tmp 23) (.tmp 149) (ty := 33) (l := kl r) rfl (by rfl) (by rfl) size30 rfl (kl_one _) ?_
            have TB := Lib.hid (TA.out.set RA.out (by decide) ER.out NR.out (kl r).toArray)
            have KB := Lib.hid (Blk.row_far KA.out NRG.out (kl r).toArray)
            have JB := Lib.hid (Blk.row_far JA.out NRH.out (kl r).toArray)
            have RB := Lib.hid (RA.out.setRow (kl r).toArray)
            have cr := RB.out.six.2.1
            generalize wn.setRow r23 (kl r).toArray = WB at TB KB RB JB cr ⊢
            refine hK.out _ _ ⟨keyAt_of JB.out, TB.out.ck, HCF.out _ TB.out.bel⟩ (fun hHeld => ?_)
            clear hK K
            try simp only [Act.put, List.getElem_toArray, List.getElem_cons_succ, List.getElem_cons_zero]
            refine wpAnyH_take (i := 13) (v := ?v38) rfl (by kernel_rfl) (by kernel_rfl) (by kernel_rfl) (fun _ _ _ h => h) (Or.inl ⟨by rfl, ?hy38⟩) hHeld ?rest38
            case hy38 =>
              intro w' hSw
              try dsimp only at hSw
              go_simp
              first | done | with_reducible rfl
            try simp only [Act.put, List.getElem_toArray, List.getElem_cons_succ, List.getElem_cons_zero, List.setIfInBounds_toArray, List.set_cons_zero, List.set_cons_succ]
            refine wpAnyH_done (by kernel_rfl) ?_ _
            refine OnlyN.normal ?_
            go_wp2_with fail
            go_roundw
            case rel => exact ⟨k + 1, HLT.out, by go_num, L2, HL2.out, HO2.out, HF1.out, HF2.out, TB.out, KB.out⟩
            case measure => simp [intOf]; omega
          · refine step_alloc30 rfl (by rfl) ?_
            intro r23 wn hg hw
            have TA : Hid (Sm w wn q A cap ps x n _ m c L) := Lib.hid (by subst hw; exact T2.out.drew.alloc _)
            have KA : Hid (Blk wn g 33 (kl z).toArray) := Lib.hid (by subst hw; exact K2.out.drew.alloc _)
            have JA : Hid (Blk wn h 33 (kl z).toArray) := Lib.hid (by subst hw; exact J2.out.drew.alloc _)
            have RA : Hid (Blk wn r23 33 (kl zk).toArray) := Lib.hid (by subst hw hg; exact Blk.new _ _ _)
            have ER : Hid (w.heap.size + 2 ≤ r23) := Lib.hid (by subst hg; exact T2.out.sz)
            have NR : Hid (r23 ≠ q) := Lib.hid (by subst hg; exact Nat.ne_of_gt T2.out.q_lt)
            have NRG : Hid (g ≠ r23) := Lib.hid (by subst hg; exact Nat.ne_of_lt K2.out.lt)
            have NRH : Hid (h ≠ r23) := Lib.hid (by subst hg; exact Nat.ne_of_lt J2.out.lt)
            clear hg hw hHeld
            refine hK.out _ _ ⟨keyAt_of JA.out, TA.out.ck, HCF.out _ TA.out.bel⟩ (fun hHeld => ?_)
            clear hK K
            try simp only [Act.put, List.getElem_toArray, List.getElem_cons_succ, List.getElem_cons_zero, List.setIfInBounds_toArray, List.set_cons_zero, List.set_cons_succ]
            refine wpAnyH_ready (rs := [7]) (by kernel_rfl) (by simp) ?_
            refine AllReadyH.cons (by rfl) (fun K hK => ?_) AllReadyH.nil
            go_simp
            refine (HMK.out _ TA.out).mono ?_
            rintro e_ wm ⟨rfl, s_, k_⟩
            have TM := Lib.hid s_
            have KM := Lib.hid (k_ _ _ _ KA.out (by decide))
            have JM := Lib.hid (k_ _ _ _ JA.out (by decide))
            have RM := Lib.hid (k_ _ _ _ RA.out (by decide))
            clear s_ k_ hHeld
            go_wp2_with fail
            refine hK.out _ _ ⟨keyAt_of JM.out, TM.out.ck, HCF.out _ TM.out.bel⟩ (fun hHeld => ?_)
            clear hK K
            try simp only [Act.put, List.getElem_toArray, List.getElem_cons_succ, List.getElem_cons_zero]
            refine wpAnyH_take (i := 8) (v := ?v39) rfl (by kernel_rfl) (by kernel_rfl) (by kernel_rfl) (fun _ _ _ h => h) (Or.inl ⟨by rfl, ?hy39⟩) hHeld ?rest39
            case hy39 =>
              intro w' hSw
              try dsimp only at hSw
              go_simp
              first | done | with_reducible rfl
            try simp only [Act.put, List.getElem_toArray, List.getElem_cons_succ, List.getElem_cons_zero, List.setIfInBounds_toArray, List.set_cons_zero, List.set_cons_succ]
            refine wpAnyH_take (i := 9) (v := ?v40) rfl (by kernel_rfl) (by kernel_rfl) (by kernel_rfl) (fun _ _ _ h => h) (Or.inl ⟨by rfl, ?hy40⟩) hHeld ?rest40
            case hy40 =>
              intro w' hSw
              try dsimp only at hSw
              go_simp
              first | done | with_reducible rfl
            try simp only [Act.put, List.getElem_toArray, List.getElem_cons_succ, List.getElem_cons_zero, List.setIfInBounds_toArray, List.set_cons_zero, List.set_cons_succ]
            refine wpAnyH_take (i := 10) (v := ?v41) rfl (by kernel_rfl) (by kernel_rfl) (by kernel_rfl) (fun _ _ _ h => h) (Or.inl ⟨by rfl, ?hy41⟩) hHeld ?rest41
            case hy41 =>
              intro w' hSw
              try dsimp only at hSw
              go_simp
              first | done | with_reducible rfl
            try simp only [Act.put, List.getElem_toArray, List.getElem_cons_succ, List.getElem_cons_zero, List.setIfInBounds_toArray, List.set_cons_zero, List.set_cons_succ]
            refine wpAnyH_ready (rs := [12]) (by kernel_rfl) (by simp) ?_
            refine AllReadyH.cons (by rfl) (fun K hK => ?_) AllReadyH.nil
            refine step_store_big RM.out rfl (.tmp 23) (.tmp 149) (ty := 33) (l := kl r) rfl (by rfl) (by rfl) size30 rfl (kl_one _) ?_
            have TB := Lib.hid (TM.out.set RM.out (by decide) ER.out NR.out (kl r).toArray)
            have KB := Lib.hid (Blk.row_far KM.out NRG.out (kl r).toArray)
            have JB := Lib.hid (Blk.row_far JM.out NRH.out (kl r).toArray)
            have RB := Lib.hid (RM.out.setRow (kl r).toArray)
            have cr := RB.out.six.2.1
            generalize wm.setRow r23 (kl r).toArray = WB at TB KB RB JB cr ⊢
            refine hK.out _ _ ⟨keyAt_of JB.out, TB.out.ck, HCF.out _ TB.out.bel⟩ (fun hHeld => ?_)
            clear hK K
            try simp only [Act.put, List.getElem_toArray, List.getElem_cons_succ, List.getElem_cons_zero]
            refine wpAnyH_take (i := 13) (v := ?v42) rfl (by kernel_rfl) (by kernel_rfl) (by kernel_rfl) (fun _ _ _ h => h) (Or.inl ⟨by rfl, ?hy42⟩) hHeld ?rest42
            case hy42 =>
              intro w' hSw
              try dsimp only at hSw
              go_simp
              first | done | with_reducible rfl
            try simp only [Act.put, List.getElem_toArray, List.getElem_cons_succ, List.getElem_cons_zero, List.setIfInBounds_toArray, List.set_cons_zero, List.set_cons_succ]
            refine wpAnyH_done (by kernel_rfl) ?_ _
            refine OnlyN.normal ?_
            go_wp2_with fail
            go_roundw
            case rel => exact ⟨k + 1, HLT.out, by go_num, L2, HL2.out, HO2.out, HF1.out, HF2.out, TB.out, KB.out⟩
            case measure => simp [intOf]; omega
        · have d8 : decide (r.o < (p : Int)) = false := decide_eq_false (by have := hr2 (by simpa using y8); omega)
          have d9 : decide ((b : Int) < r.o) = false := decide_eq_false (by have := hr2 (by simpa using y8); omega)
          clear hr2
          refine wp_region_only (S := fun w' => KeyAt w' h 0 z ∧ w'.cell? ⟨w.heap.size + 1, 1, none⟩ = some (.slice (some ⟨kb, off, none⟩) m c) ∧ w'.cell? ⟨kb, off + k, none⟩ = some (.int .i64 kd)) (by kernel_rfl) ⟨keyAt_of J2.out.drew, T2.out.drew.ck, HCF.out _ T2.out.drew.bel⟩ (fun hHeld => ?_)
          refine wpAnyH_take (i := 0) (v := ?v43) rfl (by kernel_rfl) (by kernel_rfl) (by kernel_rfl) (fun _ _ _ h => h) (Or.inl ⟨by rfl, ?hy43⟩) hHeld ?rest43
          case hy43 =>
            intro w' hSw
            try dsimp only at hSw
            go_simp
            first | done | with_reducible rfl
          try simp only [Act.put, List.getElem_toArray, List.getElem_cons_zero, List.setIfInBounds_toArray, List.set_cons_zero, List.set_cons_succ]
          refine wpAnyH_take (i := 1) rfl (by kernel_rfl) (by kernel_rfl) (by kernel_rfl) (fun _ _ _ h => h) (y_kyB (by rfl) (.tmp 20) (by rfl) h 0 (by rfl) z (fun _ h => h.1)) hHeld ?_
          try simp only [Act.put, List.getElem_toArray, List.getElem_cons_succ, List.getElem_cons_zero, List.setIfInBounds_toArray, List.set_cons_zero, List.set_cons_succ]
          refine wpAnyH_take (i := 2) (v := ?v44) rfl (by kernel_rfl) (by kernel_rfl) (by kernel_rfl) (fun _ _ _ h => h) (Or.inl ⟨by rfl, ?hy44⟩) hHeld ?rest44
          case hy44 =>
            intro w' hSw
            try dsimp only at hSw
            go_simp
            first | done | with_reducible rfl
          try simp only [Act.put, List.getElem_toArray, List.getElem_cons_succ, List.getElem_cons_zero, List.setIfInBounds_toArray, List.set_cons_zero, List.set_cons_succ]
          refine wpAnyH_take (i := 3) (v := ?v45) rfl (by kernel_rfl) (by kernel_rfl) (by kernel_rfl) (fun _ _ _ h => h) (Or.inl ⟨by rfl, ?hy45⟩) hHeld ?rest45
          case hy45 =>
            intro w' hSw
            try dsimp only at hSw
            go_simp
            first | done | with_reducible rfl
          try simp only [Act.put, List.getElem_toArray, List.getElem_cons_succ, List.getElem_cons_zero, List.setIfInBounds_toArray, List.set_cons_zero, List.set_cons_succ]
          refine wpAnyH_take (i := 4) (v := ?v46) rfl (by kernel_rfl) (by kernel_rfl) (by kernel_rfl) (fun _ _ _ h => h) (Or.inl ⟨by rfl, ?hy46⟩) hHeld ?rest46
          case hy46 =>
            intro w' hSw
            try dsimp only at hSw
            go_simp
            first | done | with_reducible rfl
          try simp only [Act.put, List.getElem_toArray, List.getElem_cons_succ, List.getElem_cons_zero, List.setIfInBounds_toArray, List.set_cons_zero, List.set_cons_succ]
          refine wpAnyH_take (i := 5) (v := ?v47) rfl (by kernel_rfl) (by kernel_rfl) (by kernel_rfl) (fun _ _ _ h => h) (Or.inl ⟨by rfl, ?hy47⟩) hHeld ?rest47
          case hy47 =>
            intro w' hSw
            try dsimp only at hSw
            go_simp
            first | done | with_reducible rfl
          try simp only [Act.put, List.getElem_toArray, List.getElem_cons_succ, List.getElem_cons_zero, List.setIfInBounds_toArray, List.set_cons_zero, List.set_cons_succ]
          refine wpAnyH_take (i := 6) (v := ?v48) rfl (by kernel_rfl) (by kernel_rfl) (by kernel_rfl) (fun _ _ _ h => h) (Or.inl ⟨by rfl, ?hy48⟩) hHeld ?rest48
          case hy48 =>
            intro w' hSw
            try dsimp only at hSw
            go_simp
            first | done | with_reducible rfl
          try simp only [Act.put, List.getElem_toArray, List.getElem_cons_succ, List.getElem_cons_zero, List.setIfInBounds_toArray, List.set_cons_zero, List.set_cons_succ]
          refine wpAnyH_ready (rs := [7, 11]) (by kernel_rfl) (by simp) ?_
          refine AllReadyH.cons (by rfl) (fun K hK => ?_) (AllReadyH.cons (by rfl) (fun K hK => ?_) AllReadyH.nil)
          · go_simp
            refine (HMK.out _ T2.out.drew).mono ?_
            rintro e_ wm ⟨rfl, s_, k_⟩
            have TM := Lib.hid s_
            have KM := Lib.hid (k_ _ _ _ K2.out.drew (by decide))
            have JM := Lib.hid (k_ _ _ _ J2.out.drew (by decide))
            clear s_ k_ hHeld
            go_wp2_with fail
            refine hK.out _ _ ⟨keyAt_of JM.out, TM.out.ck, HCF.out _ TM.out.bel⟩ (fun hHeld => ?_)
            clear hK K
            try simp only [Act.put, List.getElem_toArray, List.getElem_cons_succ, List.getElem_cons_zero, List.setIfInBounds_toArray, List.set_cons_zero, List.set_cons_succ]
            refine wpAnyH_take (i := 8) (v := ?v49) rfl (by kernel_rfl) (by kernel_rfl) (by kernel_rfl) (fun _ _ _ h => h) (Or.inl ⟨by rfl, ?hy49⟩) hHeld ?rest49
            case hy49 =>
              intro w' hSw
              try dsimp only at hSw
              go_simp
              first | done | with_reducible rfl
            try simp only [Act.put, List.getElem_toArray, List.getElem_cons_succ, List.getElem_cons_zero, List.setIfInBounds_toArray, List.set_cons_zero, List.set_cons_succ]
            refine wpAnyH_take (i := 9) (v := ?v50) rfl (by kernel_rfl) (by kernel_rfl) (by kernel_rfl) (fun _ _ _ h => h) (Or.inl ⟨by rfl, ?hy50⟩) hHeld ?rest50
            case hy50 =>
              intro w' hSw
              try dsimp only at hSw
              go_simp
              first | done | with_reducible rfl
            try simp only [Act.put, List.getElem_toArray, List.getElem_cons_succ, List.getElem_cons_zero, List.setIfInBounds_toArray, List.set_cons_zero, List.set_cons_succ]
            refine wpAnyH_take (i := 10) (v := ?v51) rfl (by kernel_rfl) (by kernel_rfl) (by kernel_rfl) (fun _ _ _ h => h) (Or.inl ⟨by rfl, ?hy51⟩) hHeld ?rest51
            case hy51 =>
              intro w' hSw
              try dsimp only at hSw
              go_simp
              first | done | with_reducible rfl
            try simp only [Act.put, List.getElem_toArray, List.getElem_cons_succ, List.getElem_cons_zero, List.setIfInBounds_toArray, List.set_cons_zero, List.set_cons_succ]
            refine wpAnyH_ready (rs := [11]) (by kernel_rfl) (by simp) ?_
            refine AllReadyH.cons (by rfl) (fun K hK => ?_) AllReadyH.nil
            refine step_alloc30 rfl (by rfl) ?_
            intro r23 wn hg hw
            have TA : Hid (Sm w wn q A cap ps x n _ m c L2) := Lib.hid (by subst hw; exact TM.out.alloc _)
            have KA : Hid (Blk wn g 33 (kl z).toArray) := Lib.hid (by subst hw; exact KM.out.alloc _)
            have JA : Hid (Blk wn h 33 (kl z).toArray) := Lib.hid (by subst hw; exact JM.out.alloc _)
            have RA : Hid (Blk wn r23 33 (kl zk).toArray) := Lib.hid (by subst hw hg; exact Blk.new _ _ _)
            have ER : Hid (w.heap.size + 2 ≤ r23) := Lib.hid (by subst hg; exact TM.out.sz)
            have NR : Hid (r23 ≠ q) := Lib.hid (by subst hg; exact Nat.ne_of_gt TM.out.q_lt)
            have NRG : Hid (g ≠ r23) := Lib.hid (by subst hg; exact Nat.ne_of_lt KM.out.lt)
            have NRH : Hid (h ≠ r23) := Lib.hid (by subst hg; exact Nat.ne_of_lt JM.out.lt)
            clear hg hw hHeld
            refine hK.out _ _ ⟨keyAt_of JA.out, TA.out.ck, HCF.out _ TA.out.bel⟩ (fun hHeld => ?_)
            clear hK K
            try simp only [Act.put, List.getElem_toArray, List.getElem_cons_succ, List.getElem_cons_zero]
            refine wpAnyH_ready (rs := [12]) (by kernel_rfl) (by simp) ?_
            refine AllReadyH.cons (by rfl) (fun K hK => ?_) AllReadyH.nil
            refine step_store_big RA.out rfl (.tmp 23) (.tmp 149) (ty := 33) (l := kl r) rfl (by rfl) (by rfl) size30 rfl (kl_one _) ?_
            have TB := Lib.hid (TA.out.set RA.out (by decide) ER.out NR.out (kl r).toArray)
            have KB := Lib.hid (Blk.row_far KA.out NRG.out (kl r).toArray)
            have JB := Lib.hid (Blk.row_far JA.out NRH.out (kl r).toArray)
            have RB := Lib.hid (RA.out.setRow (kl r).toArray)
            have cr := RB.out.six.2.1
            generalize wn.setRow r23 (kl r).toArray = WB at TB KB RB JB cr ⊢
            refine hK.out _ _ ⟨keyAt_of JB.out, TB.out.ck, HCF.out _ TB.out.bel⟩ (fun hHeld => ?_)
            clear hK K
            try simp only [Act.put, List.getElem_toArray, List.getElem_cons_succ, List.getElem_cons_zero]
            refine wpAnyH_take (i := 13) (v := ?v52) rfl (by kernel_rfl) (by kernel_rfl) (by kernel_rfl) (fun _ _ _ h => h) (Or.inl ⟨by rfl, ?hy52⟩) hHeld ?rest52
            case hy52 =>
              intro w' hSw
              try dsimp only at hSw
              go_simp
              first | done | with_reducible rfl
            try simp only [Act.put, List.getElem_toArray, List.getElem_cons_succ, List.getElem_cons_zero, List.setIfInBounds_toArray, List.set_cons_zero, List.set_cons_succ]
            refine wpAnyH_done (by kernel_rfl) ?_ _
            refine OnlyN.normal ?_
            go_wp2_with fail
            go_roundw
            case rel => exact ⟨k + 1, HLT.out, by go_num, L2, HL2.out, HO2.out, HF1.out, HF2.out, TB.out, KB.out⟩
            case measure => simp [intOf]; omega
          · refine step_alloc30 rfl (by rfl) ?_
            intro r23 wn hg hw
            have TA : Hid (Sm w wn q A cap ps x n _ m c L) := Lib.hid (by subst hw; exact T2.out.drew.alloc _)
            have KA : Hid (Blk wn g 33 (kl z).toArray) := Lib.hid (by subst hw; exact K2.out.drew.alloc _)
            have JA : Hid (Blk wn h 33 (kl z).toArray) := Lib.hid (by subst hw; exact J2.out.drew.alloc _)
            have RA : Hid (Blk wn r23 33 (kl zk).toArray) := Lib.hid (by subst hw hg; exact Blk.new _ _ _)
            have ER : Hid (w.heap.size + 2 ≤ r23) := Lib.hid (by subst hg; exact T2.out.sz)
            have NR : Hid (r23 ≠ q) := Lib.hid (by subst hg; exact Nat.ne_of_gt T2.out.q_lt)
            have NRG : Hid (g ≠ r23) := Lib.hid (by subst hg; exact Nat.ne_of_lt K2.out.lt)
            have NRH : Hid (h ≠ r23) := Lib.hid (by subst hg; exact Nat.ne_of_lt J2.out.lt)
            clear hg hw hHeld
            refine hK.out _ _ ⟨keyAt_of JA.out, TA.out.ck, HCF.out _ TA.out.bel⟩ (fun hHeld => ?_)
            clear hK K
            try simp only [Act.put, List.getElem_toArray, List.getElem_cons_succ, List.getElem_cons_zero, List.setIfInBounds_toArray, List.set_cons_zero, List.set_cons_succ]
            refine wpAnyH_ready (rs := [7]) (by kernel_rfl) (by simp) ?_
            refine AllReadyH.cons (by rfl) (fun K hK => ?_) AllReadyH.nil
            go_simp
            refine (HMK.out _ TA.out).mono ?_
            rintro e_ wm ⟨rfl, s_, k_⟩
            have TM := Lib.hid s_
            have KM := Lib.hid (k_ _ _ _ KA.out (by decide))
            have JM := Lib.hid (k_ _ _ _ JA.out (by decide))
            have RM := Lib.hid (k_ _ _ _ RA.out (by decide))
            clear s_ k_ hHeld
            go_wp2_with fail
            refine hK.out _ _ ⟨keyAt_of JM.out, TM.out.ck, HCF.out _ TM.out.bel⟩ (fun hHeld => ?_)
            clear hK K
            try simp only [Act.put, List.getElem_toArray, List.getElem_cons_succ, List.getElem_cons_zero]
            refine wpAnyH_take (i := 8) (v := ?v53) rfl (by kernel_rfl) (by kernel_rfl) (by kernel_rfl) (fun _ _ _ h => h) (Or.inl ⟨by rfl, ?hy53⟩) hHeld ?rest53
            case hy53 =>
              intro w' hSw
              try dsimp only at hSw
              go_simp
              first | done | with_reducible rfl
            try simp only [Act.put, List.getElem_toArray, List.getElem_cons_succ, List.getElem_cons_zero, List.setIfInBounds_toArray, List.set_cons_zero, List.set_cons_succ]
            refine wpAnyH_take (i := 9) (v := ?v54) rfl (by kernel_rfl) (by kernel_rfl) (by kernel_rfl) (fun _ _ _ h => h) (Or.inl ⟨by rfl, ?hy54⟩) hHeld ?rest54
            case hy54 =>
              intro w' hSw
              try dsimp only at hSw
              go_simp
              first | done | with_reducible rfl
            try simp only [Act.put, List.getElem_toArray, List.getElem_cons_succ, List.getElem_cons_zero, List.setIfInBounds_toArray, List.set_cons_zero, List.set_cons_succ]
            refine wpAnyH_take (i := 10) (v := ?v55) rfl (by kernel_rfl) (by kernel_rfl) (by kernel_rfl) (fun _ _ _ h => h) (Or.inl ⟨by rfl, ?hy55⟩) hHeld ?rest55
            case hy55 =>
              intro w' hSw
              try dsimp only at hSw
              go_simp
              first | done | with_reducible rfl
            try simp only [Act.put, List.getElem_toArray, List.getElem_cons_succ, List.getElem_cons_zero, List.setIfInBounds_toArray, List.set_cons_zero, List.set_cons_succ]
            refine wpAnyH_ready (rs := [12]) (by kernel_rfl) (by simp) ?_
            refine AllReadyH.cons (by rfl) (fun K hK => ?_) AllReadyH.nil
            refine step_store_big RM.out rfl (.tmp 23) (.tmp 149) (ty := 33) (l := kl r) rfl (by rfl) (by rfl) size30 rfl (kl_one _) ?_
            have TB := Lib.hid (TM.out.set RM.out (by decide) ER.out NR.out (kl r).toArray)
            have KB := Lib.hid (Blk.row_far KM.out NRG.out (kl r).toArray)
            have JB := Lib.hid (Blk.row_far JM.out NRH.out (kl r).toArray)
            have RB := Lib.hid (RM.out.setRow (kl r).toArray)
            have cr := RB.out.six.2.1
            generalize wm.setRow r23 (kl r).toArray = WB at TB KB RB JB cr ⊢
            refine hK.out _ _ ⟨keyAt_of JB.out, TB.out.ck, HCF.out _ TB.out.bel⟩ (fun hHeld => ?_)
            clear hK K
            try simp only [Act.put, List.getElem_toArray, List.getElem_cons_succ, List.getElem_cons_zero]
            refine wpAnyH_take (i := 13) (v := ?v56) rfl (by kernel_rfl) (by kernel_rfl) (by kernel_rfl) (fun _ _ _ h => h) (Or.inl ⟨by rfl, ?hy56⟩) hHeld ?rest56
            case hy56 =>
              intro w' hSw
              try dsimp only at hSw
              go_simp
              first | done | with_reducible rfl
            try simp only [Act.put, List.getElem_toArray, List.getElem_cons_succ, List.getElem_cons_zero, List.setIfInBounds_toArray, List.set_cons_zero, List.set_cons_succ]
            refine wpAnyH_done (by kernel_rfl) ?_ _
            refine OnlyN.normal ?_
            go_wp2_with fail
            go_roundw
            case rel => exact ⟨k + 1, HLT.out, by go_num, L2, HL2.out, HO2.out, HF1.out, HF2.out, TB.out, KB.out⟩
            case measure => simp [intOf]; omega
    · obtain rfl : k = m := by omega
      have d5 : decide ((k : Int) < (k : Int)) = false := decide_eq_false (by omega)
      have d6 : decide (k < k) = false := decide_eq_false (by omega)
      clear hk hlt
      go_wp2_with (first
        | (go_at_call 8; refine (known_by HS.out.bel HT.out).mono ?_; rintro e wk ⟨rfl, bk_⟩; have BK := Lib.hid bk_; clear bk_))
      go_ret
      exact ⟨rfl, BK.out⟩
set_option maxRecDepth 8000 in
theorem walk (w : World) (hL : laidMetH Tryd.prog laidK w) (A0 : Option Addr) (l : List Oj) (c0 : Nat) (hr : RdO w A0 l) (x : Ky) (n : Int) (Av : Option Addr) (c : Nat) (Kn : List Int) (hrk : RdQ w Av Kn) :
    Calls Tryd.prog 5 #[.slice A0 l.length c0, x.val, .agg (ptc n Av Kn.length c)] w fun e w' => e = .returned (.bool true) ∧ Below w.heap.size w w' := by
  by_cases hmade : madeP l
  · by_cases hm : 10 < Kn.length
    · exact walk_long w (tab_of hL) A0 l c0 hr x n Av _ c hmade hm
    · rcases sp_cases hmade.2.2.2 hmade.2.2.1 x n with ⟨f, t, e, g, h1, h2, h3⟩ | ⟨a, b, m, L, z, j, j2, u, u2, h1, h2, h3, h4, h5, h6, h7, h8, h9, h10, h11, h12⟩
      · exact walk_err w (tab_of hL) A0 l c0 hr x n Av _ c hmade hm f t e g h1 h2 h3 _ rfl
      · exact walk_yes w (tab_of hL) A0 l c0 hr x n Av c Kn hrk _ rfl hmade hm a b (m - 1) m L z j j2 u u2 h1 h2 (by omega) h3 h5 h6 h7 h8 h9 h10 h11 (by omega)
  · exact walk_no w (tab_of hL) A0 l c0 hr x n Av _ c hmade
set_option maxRecDepth 100000 in
theorem lifted (os : Os) (started : os.Started) (H : Type) (enc : TypeId × Value → H) :
    ReturnsInHanded {} Tryd.checked os 5 .any (fun w args => (Rows.banksSplitSpec.pre enc Tryd.prog Tryd.f5 [] false w args ∧ laidMetH Tryd.prog laidK w) ∧ sizedMet enc Tryd.prog Tryd.f5 (OpenSpec.ofChange Rows.banksSplitSpec) false w args) (Rows.banksSplitSpec.post enc Tryd.prog Tryd.f5 false true false false) := by
  refine returnsInHanded_of_change_and (C := Tryd.checked) (X := fun w _ => laidMetH Tryd.prog laidK w) (fun _ _ _ hh h => h.of_heap hh) own started (by kernel_rfl) Tryd.func5
    (ChangeSpec.witness_shaped (enc := enc) (C := Tryd.checked) (os := os) (X := fun w _ => laidMetH Tryd.prog laidK w) false (World.doorLaid Tryd.prog 40 os) #[.slice none 0 0, .agg #[.int .i64 0, .int .i64 0, .int .i64 0, .int .i64 0, .int .i64 0, .int .i64 0], .agg #[.int .i64 0, .slice none 0 0]] 8 rfl (World.shaped_of_RefB (by kernel_rfl) (by kernel_rfl)) (by kernel_rfl) (by kernel_rfl) (by kernel_rfl) (door_met os _)) ?_
  intro W base args ds gs before hval0 hW _ _ hL _
  have hval : ∀ (j : Nat) t v, Tryd.f5.params[j]? = some t → args[j]? = some v → Value.okWide Tryd.prog W .any base t v := hval0
  have hW' := hW
  obtain ⟨p, q, hA0, hV, rfl, hfz, hnd⟩ := hW
  have hA : DataW.TrodAll enc Tryd.prog W 0 (fun _ => true) true Tryd.f5.params.toList args.toList ds p := hA0
  rw [Tryd.params5] at hA hval
  obtain ⟨v0, vs0, d0, ds0, p0, q0, hargs, rfl, rfl, h0, t0⟩ := trodAll_cons hA
  obtain ⟨v1, vs1, d1, ds1, p1, q1, rfl, rfl, rfl, h1, t1⟩ := trodAll_cons t0
  obtain ⟨v2, vs2, d2, ds2, p2, q2, rfl, rfl, rfl, h2, t2⟩ := trodAll_cons t1
  obtain ⟨rfl, rfl, rfl⟩ := trodAll_nil t2
  obtain rfl : args = #[v0, v1, v2] := by cases args; simp_all
  obtain ⟨rfl, rfl⟩ := trodVars_none hV
  have k0 := h0
  have lt0 : ∀ x ∈ p0, x.block < W.heap.size := by obtain ⟨m, hm⟩ := k0; exact DataW.trod_lt m _ _ _ hm
  obtain ⟨A0, l0, c0, rfl, hlc0, hcm0, hr0⟩ := open_obs (hval 0 22 v0 rfl rfl) h0
  have k1 := h1
  have lt1 : ∀ x ∈ p1, x.block < W.heap.size := by obtain ⟨m, hm⟩ := k1; exact DataW.trod_lt m _ _ _ hm
  obtain ⟨x1, rfl⟩ := open_key (hval 1 33 v1 rfl rfl) h1
  have k2 := h2
  have lt2 : ∀ x ∈ p2, x.block < W.heap.size := by obtain ⟨m, hm⟩ := k2; exact DataW.trod_lt m _ _ _ hm
  obtain ⟨n2, Av2, cv2, K2, rfl, hrq2⟩ := open_part (hval 2 61 v2 rfl rfl) h2
  clear hA0 hval0
  refine (walk W hL A0 l0 c0 hr0 x1 n2 Av2 cv2 K2 hrq2).mono fun e W' ⟨he, bel⟩ => ?_
  subst he
  exact ⟨_, rfl, _, _, _, [], _, [], hW', trodAll_mk1 (shut_bool Tryd.underlying4 _), (trodAll_cons_mk (Below.trod laidOut (by kernel_rfl) (of_decide_eq_true (by kernel_rfl)) k0 bel lt0) (trodAll_cons_mk (Below.trod laidOut (by kernel_rfl) (of_decide_eq_true (by kernel_rfl)) k1 bel lt1) (trodAll_cons_mk (Below.trod laidOut (by kernel_rfl) (of_decide_eq_true (by kernel_rfl)) k2 bel lt2) trodAll_mk0))), rfl, bel.frame _, fun h => by cases h⟩
theorem over : Rows.banksSplitRow.holds Tryd.pinned (OpenSpec.ofChange Rows.banksSplitSpec) :=
  OpenClaim.holds_of_wide 5 Tryd.f5 rfl rfl rfl rfl rfl rfl rfl ⟨rfl, rfl, rfl, rfl, rfl⟩ rfl rfl rfl rfl rfl (by kernel_rfl) Tryd.func5 (by kernel_rfl)
    (of_decide_eq_true (by kernel_rfl)) (by unfold Func.isWrapper; first | (rw [if_pos (by decide +kernel)]; kernel_rfl) | (rw [if_neg (by decide +kernel)]; exact ⟨rfl, rfl⟩))
    (fun os started H enc _ => lifted os started H enc)
set_option maxRecDepth 8000 in
theorem proved : Rows.BanksSplitCardSaid :=
  Claim7.holds_tied_plain_at .later [] [.data] true Rows.banksSplitCard.stood.harness true
    over (fun _ h => by cases h) (by kernel_rfl) (fun _ h => by cases h) banksSplit_row_tie rfl ⟨rfl, rfl⟩ (by kernel_rfl) rfl
    (fun f fn hf hfn => by
      obtain rfl : f = 5 := Option.some.inj ((show Tryd.prog.funcNamed "chatelaine/chatelainelaw12.BanksSplit" = some 5 by kernel_rfl).symm.trans hf) |>.symm
      obtain rfl : fn = Tryd.f5 := (Option.some.inj (Tryd.func5.symm.trans hfn)).symm
      exact ⟨by kernel_rfl, fun j t ht => by
        rw [Tryd.params5] at ht
        have hm : t ∈ [22, 33, 61] := by simpa using Array.mem_of_getElem? ht
        have hall : ([22, 33, 61].all fun u => !Tryd.prog.wantsStandIn u) = true := by kernel_rfl
        exact (show Tryd.prog.wantsStandIn t = false by simpa using List.all_eq_true.1 hall t hm)⟩)
    (by kernel_rfl)
end Go.Proofs.YteodgefnbmiblaaDoor.banksSplit

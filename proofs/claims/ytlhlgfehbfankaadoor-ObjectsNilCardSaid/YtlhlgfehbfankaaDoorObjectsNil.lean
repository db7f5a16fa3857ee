/- The law ObjectsNil returns true for every input: a store that is not there answers ErrNil. No condition but that the listed variables read as the program's own text lays them; the card ties them to it. -/
import Derived.Test.YtlhlgfehbfankaaDoorOKn
import Derived.Test.YtlhlgfehbfankaaDoorOFr
import Derived.Test.YtlhlgfehbfankaaDoorRegIn
import Derived.Test.YtlhlgfehbfankaaDoorONil
import Derived.Test.YtlhlgfehbfankaaDoorOStp
import Derived.Test.YtlhlgfehbfankaaDoorOPrep
namespace Go.Proofs.YtlhlgfehbfankaaDoor.objectsNil
open Go.Shelf Go.ChangeShapes Go.WideShapes Go.ChangeAt Go.RowKit
attribute [local go_sem] Oper.semAt_some
attribute [local go_sem] fn_eql
theorem new_1 (w : World) (hT : Tab w) : Calls Tryd.prog 17 #[.int .i64 1] w fun e w' => e = .returned (.tuple #[pv (w.heap.size + 1), .int .i64 0]) ∧ (∃ A' cap' ps, StAt w' (w.heap.size + 1) (w.heap.size + 1) A' cap' ps [oz]) ∧ Below w.heap.size w w' := new_ok 1 w hT (by decide) (by decide)
theorem pv_ne {a b : Nat} (h : a ≠ b) : pv a ≠ pv b := fun e => by
  injection e with e
  injection e with e
  injection e with e
  exact h e
section
variable {w : World} {base z base2 q : Nat} {A : Option Addr} {cap : Nat} {ps : List Nat}
theorem same_nz (hz : StAt w base z none 0 [] []) : Calls Tryd.prog 26 #[.pointer none, pv z] w fun e w' => e = .returned (.bool true) ∧ w = w' :=
  same_nt (.inl rfl) (.inr ⟨z, rfl⟩) (by intro h; cases h) (size_nil _) (size_none hz) (there_nil _)
theorem same_no (ho : StAt w base2 q A cap ps [oz]) : Calls Tryd.prog 26 #[.pointer none, pv q] w fun e w' => e = .returned (.bool false) ∧ w = w' :=
  same_ne (.inl rfl) (.inr ⟨q, rfl⟩) (by intro h; cases h) (size_nil _) (size_at ho (by decide)) (by decide)
theorem same_oz (ho : StAt w base2 q A cap ps [oz]) (hz : StAt w base z none 0 [] []) (hne : q ≠ z) : Calls Tryd.prog 26 #[pv q, pv z] w fun e w' => e = .returned (.bool false) ∧ w = w' :=
  same_ne (.inr ⟨q, rfl⟩) (.inr ⟨z, rfl⟩) (pv_ne hne) (size_at ho (by decide)) (size_none hz) (by decide)
theorem unlike_no (ho : StAt w base2 q A cap ps [oz]) : Calls Tryd.prog 25 #[.pointer none, pv q] w fun e w' => e = .returned (.slice none 0 0) ∧ w = w' :=
  unlike_ne (.inl rfl) (.inr ⟨q, rfl⟩) (by intro h; cases h) (size_nil _) (size_at ho (by decide)) (by decide)
end
theorem y_kyeq_self {ops : Array Oper} {o : Oper} {a : Act} {S : World → Prop} {p q : Operand} (hw : Region.wanted o (yielded ops a.tmps) = true) (ho : o.op = .binOp .eql 30 p q 30) (x : Ky) (hx : a.eval p = x.val) (hy : a.eval q = x.val) : YieldsIf Tryd.prog ops S o (.bool true) a := by
  have := y_kyeq (S := S) hw ho x x hx hy
  simpa using this
set_option maxRecDepth 100000 in
set_option maxHeartbeats 8000000 in
theorem walk0 (w : World) (hT : Tab w) (x : Stp) (y : Ky) :
    Calls Tryd.prog 9 #[x.val, y.val] w fun e w' => e = .returned (.bool true) ∧ Below w.heap.size w w' := by
  have hz := z34
  have hbl := oz_len
  have HT := Lib.hid hT
  have HB0 := Lib.hid ((((Below.refl w.heap.size w).alloc (Nat.le_refl _) (.cells x.cells.toArray 45)).alloc (by simp) (.cells (kc y.k y.o y.c y.l y.r y.v) 30)).alloc (by simp; omega) (.cells #[.slice none 0 0] 69))
  have HX0 := Lib.hid (show StpAt (((w.alloc (.cells x.cells.toArray 45)).alloc (.cells (kc y.k y.o y.c y.l y.r y.v) 30)).alloc (.cells #[.slice none 0 0] 69)) w.heap.size 0 x from ((Blk.new w 45 x.cells.toArray).alloc (.cells (kc y.k y.o y.c y.l y.r y.v) 30) |>.alloc (.cells #[.slice none 0 0] 69)).stp)
  have HY0 := Lib.hid (show Blk (((w.alloc (.cells x.cells.toArray 45)).alloc (.cells (kc y.k y.o y.c y.l y.r y.v) 30)).alloc (.cells #[.slice none 0 0] 69)) (w.heap.size + 1) 30 (kc y.k y.o y.c y.l y.r y.v) from by have := (Blk.new (w.alloc (.cells x.cells.toArray 45)) 30 (kc y.k y.o y.c y.l y.r y.v)).alloc (.cells #[.slice none 0 0] 69); simpa using this)
  have HS0 := Lib.hid (show StAt (((w.alloc (.cells x.cells.toArray 45)).alloc (.cells (kc y.k y.o y.c y.l y.r y.v) 30)).alloc (.cells #[.slice none 0 0] 69)) w.heap.size (w.heap.size + 1 + 1) none 0 [] [] from by have := StAt.nil ((w.alloc (.cells x.cells.toArray 45)).alloc (.cells (kc y.k y.o y.c y.l y.r y.v) 30)) w.heap.size (by simp; omega); simpa using this)
  clear hT
  refine (callsIn_wide (n := 4)).1 (callsIn_of_wp_marks Tryd.func9 rfl trivial ?_ rfl)
  simp only [Tryd.ntmps9, List.size_toArray, List.length_cons, List.length_nil, Nat.reduceAdd, Nat.reduceSub, Array.replicate_succ, Array.replicate_zero, List.push_toArray, List.append_toArray, List.nil_append, List.cons_append]
  refine wpIn_wide.2 ?_
  have c1 := HX0.out.c1
  simp only [Nat.zero_add] at c1
  go_wp2_with (first
    | (go_at_call 19; refine (get_nil x.oid).mono ?_; rintro e w1 ⟨rfl, b_⟩; have HB1 := Lib.hid ((HB0.out.trans (b_.mono HB0.out.size)).alloc (Nat.le_trans HB0.out.size b_.size) (.cells oz.cells.toArray 34)); have HX1 := Lib.hid ((HX0.out.below b_).below ((Below.refl _ _).alloc (Nat.le_refl _) (.cells oz.cells.toArray 34))); have HY1 := Lib.hid ((HY0.out.keep b_).alloc (.cells oz.cells.toArray 34)); have HS1 := Lib.hid ((HS0.out.below b_).alloc (.cells oz.cells.toArray 34)); clear c1; have c1 := HX1.out.c1; simp only [Nat.zero_add] at c1; clear b_)
    | (refine wpList_store_last rfl (.tmp 7) (.tmp 22) rfl _ rfl rfl oz oz rfl ?_)
    | (refine wpList_yields (S := fun w' => ObAt w' w.heap.size 2 x.o) (y_ob (by rfl) (.tmp 27) (by rfl) w.heap.size 2 (by rfl) x.o (fun _ h => h)) HX1.out.ob0 ?_)
    | (go_at_call 18; refine (put_none HS1.out x.oid x.o).mono ?_; rintro e w2 ⟨rfl, b_⟩; have HB2 := Lib.hid (HB1.out.trans (b_.mono HB1.out.size)); have HX2 := Lib.hid (HX1.out.below b_); have HY2 := Lib.hid (HY1.out.keep b_); have HS2 := Lib.hid (HS1.out.below b_); clear c1; obtain ⟨k0, k1, k2, k3, k4, k5⟩ := HY2.out.six; clear b_)
    | (go_at_call 20; refine (named_nil _ (HT.out.below HB2.out) y).mono ?_; rintro e w3 ⟨rfl, b_⟩; have HB3 := Lib.hid ((HB2.out.trans (b_.mono HB2.out.size)).alloc (Nat.le_trans HB2.out.size b_.size) (.cells oz.cells.toArray 34)); have HX3 := Lib.hid ((HX2.out.below b_).below ((Below.refl _ _).alloc (Nat.le_refl _) (.cells oz.cells.toArray 34))); have HY3 := Lib.hid ((HY2.out.keep b_).alloc (.cells oz.cells.toArray 34)); have HS3 := Lib.hid ((HS2.out.below b_).alloc (.cells oz.cells.toArray 34)); clear k0 k1 k2 k3 k4 k5; clear b_)
    | (refine wpList_store_last rfl (.tmp 10) (.tmp 34) rfl _ rfl rfl oz oz rfl ?_)
    | (go_at_call 29; refine (all_any _ (.inl rfl) _).mono ?_; rintro e w9 ⟨rfl, rfl⟩))
  have G6 := Lib.hid (show Blk ((((w3.alloc (.cells oz.cells.toArray 34)).alloc (.cells #[.int .i64 0] 3)).alloc (.cells #[.pointer none] 37)).alloc (.cells #[.pointer none] 37)) (w3.heap.size + 1) 3 #[.int .i64 0] from by have := ((Blk.new (w3.alloc (.cells oz.cells.toArray 34)) 3 #[.int .i64 0]).alloc (.cells #[.pointer none] 37)).alloc (.cells #[.pointer none] 37); simpa using this)
  have GB := Lib.hid (show Blk ((((w3.alloc (.cells oz.cells.toArray 34)).alloc (.cells #[.int .i64 0] 3)).alloc (.cells #[.pointer none] 37)).alloc (.cells #[.pointer none] 37)) (w3.heap.size + 1 + 1 + 1) 37 #[.pointer none] from by have := Blk.new (((w3.alloc (.cells oz.cells.toArray 34)).alloc (.cells #[.int .i64 0] 3)).alloc (.cells #[.pointer none] 37)) 37 #[.pointer none]; simpa using this)
  have HY6 := Lib.hid ((((HY3.out).alloc (.cells #[.int .i64 0] 3)).alloc (.cells #[.pointer none] 37)).alloc (.cells #[.pointer none] 37))
  have HS6 := Lib.hid ((((HS3.out).alloc (.cells #[.int .i64 0] 3)).alloc (.cells #[.pointer none] 37)).alloc (.cells #[.pointer none] 37))
  have HB6 := Lib.hid (((HB3.out.alloc HB3.out.size (.cells #[.int .i64 0] 3)).alloc (by have := HB3.out.size; simp at this ⊢; omega) (.cells #[.pointer none] 37)).alloc (by have := HB3.out.size; simp at this ⊢; omega) (.cells #[.pointer none] 37))
  generalize ((((w3.alloc (.cells oz.cells.toArray 34)).alloc (.cells #[.int .i64 0] 3)).alloc (.cells #[.pointer none] 37)).alloc (.cells #[.pointer none] 37)) = W6 at G6 GB HY6 HS6 HB6 ⊢
  have HSL := Lib.hid (fun (k : Nat) (hk : stHas (w.heap.size + 1 + 1) none [] k) => (HS6.out.lt k hk).2)
  refine wpIn_wide.1 (wpIn_rangeFunc_ownH (α := Unit) (n := 4) (F := Fence.wide) (Kp := fun _ _ => True) (w0 := W6) rfl (by omega) (gf := 43) (a := { tmps := #[x.val, y.val, .pointer (some ⟨w.heap.size, 0, none⟩), .pointer (some ⟨w.heap.size + 1, 0, none⟩), .bool false, .pointer none, .pointer (some ⟨w.heap.size + 1 + 1, 0, none⟩), .pointer (some ⟨w1.heap.size, 0, none⟩), .int .i64 1, .int .i64 1, .pointer (some ⟨w3.heap.size, 0, none⟩), .bool false, .pointer (some ⟨w3.heap.size + 1, 0, none⟩), undef, undef, .agg #[.slice none 0 0], .pointer (some ⟨w.heap.size + 1 + 1, 0, none⟩), .tuple #[oz.val, .int .i64 1], .pointer none, .pointer (some ⟨w.heap.size, 1, none⟩), .int .i64 x.oid, .tuple #[oz.val, .int .i64 1], oz.val, .int .i64 1, .pointer (some ⟨w.heap.size + 1 + 1, 0, none⟩), .pointer (some ⟨w.heap.size, 1, none⟩), .int .i64 x.oid, .pointer (some ⟨w.heap.size, 2, none⟩), x.o.val, .int .i64 1, .tuple #[oz.val, .bool false], .pointer none, .agg #[.int .i64 y.k, .int .i64 y.o, .int .i64 y.c, .int .i64 y.l, .int .i64 y.r, .int .i64 y.v], .tuple #[oz.val, .bool false], oz.val, .bool false, .pointer none, .func (.func 43) #[] #[.pointer (some ⟨w3.heap.size + 1 + 1, 0, none⟩)], .bool false, .pointer none, .func (.func 43) #[] #[.pointer (some ⟨w3.heap.size + 1 + 1 + 1, 0, none⟩)], undef, undef, undef, undef, undef, undef, undef, undef, undef, undef, undef, undef, undef, undef, undef, undef, undef, undef, undef, undef, undef, undef, undef, undef, undef, undef, undef, undef, undef, undef, undef, undef, undef, undef, undef, undef, undef, undef, undef, undef, undef, undef, undef, undef, undef, undef, undef, undef, undef, undef, undef, undef, undef, undef, undef, undef, undef, undef, undef, undef, undef, undef, undef, undef, undef, undef], defers := [] }) rfl trivial (enters_of Tryd.func43 (by kernel_rfl) rfl)
    (all1_nil 3 (by omega) (w3.heap.size + 1 + 1 + 1) W6 ((GB.out.cell 0).trans rfl)) (fun _ _ => trivial) (fun _ _ _ _ _ _ _ _ => trivial) (Below.refl _ _) (fun _ => rfl)
    (fun _ W => Blk W (w3.heap.size + 1) 3 #[.int .i64 0] ∧ Blk W (w.heap.size + 1) 30 (kc y.k y.o y.c y.l y.r y.v) ∧ Below w.heap.size w W ∧ W6.heap.size ≤ W.heap.size ∧ StAt W w.heap.size (w.heap.size + 1 + 1) none 0 [] [])
    (fun _ _ _ => False)
    ((own_blk _ _ _ (fun _ => _)).and ((own_blk _ _ _ (fun _ => _)).and ((ownFrom_below (Nat.le_refl _) HB6.out.size).and ((own_size _ _).and (own_st HSL.out (Nat.le_refl _))))))
    (fun _ _ _ _ _ hs _ _ => hs.elim)
    ⟨G6.out, HY6.out, HB6.out, Nat.le_refl _, HS6.out⟩
    (fun _ _ _ => True) (fun _ _ _ _ _ _ _ _ _ => trivial) ?assign ?body ?done ?stop)
  case assign =>
    intro l' pre x' W K hi hK
    have HKK := Lib.hid (fun a' => hK a' W (KeepsFrom.refl _ _) trivial hi trivial)
    clear hK hi
    gi_wp2
    exact HKK.out _
  case body =>
    intro l' pre x' a' W _ _ _ _ hlen
    exact absurd hlen (Nat.not_lt_zero _)
  case stop =>
    rintro D c pre W _ _ hf _
    exact hf.elim
  case done =>
    rintro D xs W hD _ ⟨i1, i2, i3, i4, i5⟩ hK
    have HI1 := Lib.hid i1
    have HI2 := Lib.hid i2
    have HI3 := Lib.hid i3
    have HI5 := Lib.hid i5
    have HK := Lib.hid hK
    have HDL := Lib.hid (Array.getElem?_eq_some_iff.1 hK).1
    have HD := Lib.hid (show w.heap.size ≤ D by have := HB6.out.size; omega)
    have HZL := Lib.hid (show w.heap.size + 1 + 1 < W.heap.size from (i5.lt _ (.inl rfl)).2)
    clear i1 i2 i3 i4 i5 hK hD
    go_wp2_with (first
      | (go_at_call 17; refine (new_1 _ (HT.out.below HI3.out)).mono ?_; rintro e v1 ⟨rfl, ⟨Ao, co, pso, hs⟩, b_⟩; have JO := Lib.hid hs; have J1 := Lib.hid (HI1.out.keep b_); have J2 := Lib.hid (HI2.out.keep b_); have J3 := Lib.hid (HI3.out.trans (b_.mono HI3.out.size)); have J5 := Lib.hid (HI5.out.below b_); have JK := Lib.hid ((b_.block D HDL.out).trans HK.out); clear b_ hs; obtain ⟨k0, k1, k2, k3, k4, k5⟩ := J2.out.six; have c1 := (J1.out.cell 0).trans rfl)
      | (go_at_call 30; refine (size_nil _).mono ?_; rintro e v9 ⟨rfl, rfl⟩)
      | (go_at_call 21; refine (prep_none J5.out (HT.out.below J3.out) y).mono ?_; rintro e v2 ⟨rfl, b_⟩; have LO := Lib.hid (JO.out.below b_); have L3 := Lib.hid (J3.out.trans (b_.mono J3.out.size)); have L5 := Lib.hid (J5.out.below b_); have LK := Lib.hid ((b_.block D (Array.getElem?_eq_some_iff.1 JK.out).1).trans JK.out); clear b_ k0 k1 k2 k3 k4 k5 c1)
      | (refine wpList_yields (S := fun _ => True) (y_kyeq_self (by rfl) (by rfl) zk (by rfl) (by rfl)) trivial ?_)
      | (go_at_call 28; refine (copy_nil _).mono ?_; rintro e v9 ⟨rfl, rfl⟩)
      | (go_at_call 26; (first | (with_reducible refine (same_nz L5.out).mono ?_) | (with_reducible refine (same_no LO.out).mono ?_) | (with_reducible refine (same_oz LO.out L5.out (by have := HZL.out; omega)).mono ?_)); rintro e v9 ⟨rfl, rfl⟩)
      | (go_at_call 25; refine (unlike_no LO.out).mono ?_; rintro e v9 ⟨rfl, rfl⟩)
      | (go_at_call 11; refine (known_any _ (HT.out.below L3.out)).mono ?_; rintro e v4 ⟨rfl, b_⟩; have B9 := Lib.hid (L3.out.trans (b_.mono L3.out.size)); have K9 := Lib.hid ((b_.block D (Array.getElem?_eq_some_iff.1 LK.out).1).trans LK.out); clear b_))
    refine ⟨by simp, .inl ⟨_, _, rfl, run_takeDeferred K9.out, ?_⟩⟩
    have q1 := belowK_b (n₀ := w.heap.size) (w := w) (Nat.le_refl _) v4 D (.deferred (some [])) (.deferred none) HD.out K9.out rfl rfl
    exact ⟨_, results_tmp rfl _ _ _, rfl, B9.out.trans q1⟩
theorem walk (w : World) (hL : laidMetH Tryd.prog laidK w) (x : Stp) (y : Ky) : Calls Tryd.prog 9 #[x.val, y.val] w fun e w' => e = .returned (.bool true) ∧ Below w.heap.size w w' := walk0 w (tab_of hL) x y
set_option maxRecDepth 100000 in
theorem lifted (os : Os) (started : os.Started) (H : Type) (enc : TypeId × Value → H) :
    ReturnsInHanded {} Tryd.checked os 9 .any (fun w args => (Rows.objectsNilSpec.pre enc Tryd.prog Tryd.f9 [] false w args ∧ laidMetH Tryd.prog laidK w) ∧ sizedMet enc Tryd.prog Tryd.f9 (OpenSpec.ofChange Rows.objectsNilSpec) false w args) (Rows.objectsNilSpec.post enc Tryd.prog Tryd.f9 false true false false) := by
  refine returnsInHanded_of_change_and (C := Tryd.checked) (X := fun w _ => laidMetH Tryd.prog laidK w) (fun _ _ _ hh h => h.of_heap hh) own started (by kernel_rfl) Tryd.func9
    (ChangeSpec.witness_shaped (enc := enc) (C := Tryd.checked) (os := os) (X := fun w _ => laidMetH Tryd.prog laidK w) false (World.doorLaid Tryd.prog 40 os) #[.agg (Value.bool false :: (List.replicate 100 (Value.int .i64 0) ++ List.replicate 64 (Value.int .u8 0))).toArray, .agg #[.int .i64 0, .int .i64 0, .int .i64 0, .int .i64 0, .int .i64 0, .int .i64 0]] 8 rfl (World.shaped_of_RefB (by kernel_rfl) (by kernel_rfl)) (by kernel_rfl) (by kernel_rfl) (by kernel_rfl) (door_met os _)) ?_
  intro W base args ds gs before hval0 hW _ _ hL _
  have hval : ∀ (j : Nat) t v, Tryd.f9.params[j]? = some t → args[j]? = some v → Value.okWide Tryd.prog W .any base t v := hval0
  have hW' := hW
  obtain ⟨p, q, hA0, hV, rfl, hfz, hnd⟩ := hW
  have hA : DataW.TrodAll enc Tryd.prog W 0 (fun _ => true) true Tryd.f9.params.toList args.toList ds p := hA0
  rw [Tryd.params9] at hA hval
  obtain ⟨v0, vs0, d0, ds0, p0, q0, hargs, rfl, rfl, h0, t0⟩ := trodAll_cons hA
  obtain ⟨v1, vs1, d1, ds1, p1, q1, rfl, rfl, rfl, h1, t1⟩ := trodAll_cons t0
  obtain ⟨rfl, rfl, rfl⟩ := trodAll_nil t1
  obtain rfl : args = #[v0, v1] := by cases args; simp_all
  obtain ⟨rfl, rfl⟩ := trodVars_none hV
  have k0 := h0
  have lt0 : ∀ x ∈ p0, x.block < W.heap.size := by obtain ⟨m, hm⟩ := k0; exact DataW.trod_lt m _ _ _ hm
  obtain ⟨x0, rfl⟩ := open_stp (hval 0 45 v0 rfl rfl) h0
  have k1 := h1
  have lt1 : ∀ x ∈ p1, x.block < W.heap.size := by obtain ⟨m, hm⟩ := k1; exact DataW.trod_lt m _ _ _ hm
  obtain ⟨x1, rfl⟩ := open_key (hval 1 30 v1 rfl rfl) h1
  clear hA0 hval0
  refine (walk W hL x0 x1).mono fun e W' ⟨he, bel⟩ => ?_
  subst he
  exact ⟨_, rfl, _, _, _, [], _, [], hW', trodAll_mk1 (shut_bool Tryd.underlying4 _), (trodAll_cons_mk (Below.trod laidOut (by kernel_rfl) (of_decide_eq_true (by kernel_rfl)) k0 bel lt0) (trodAll_cons_mk (Below.trod laidOut (by kernel_rfl) (of_decide_eq_true (by kernel_rfl)) k1 bel lt1) trodAll_mk0)), rfl, bel.frame _, fun h => by cases h⟩
theorem over : Rows.objectsNilRow.holds Tryd.pinned (OpenSpec.ofChange Rows.objectsNilSpec) :=
  OpenClaim.holds_of_wide 9 Tryd.f9 rfl rfl rfl rfl rfl rfl rfl ⟨rfl, rfl, rfl, rfl, rfl⟩ rfl rfl rfl rfl rfl (by kernel_rfl) Tryd.func9 (by kernel_rfl)
    (of_decide_eq_true (by kernel_rfl)) (by unfold Func.isWrapper; first | (rw [if_pos (by decide +kernel)]; kernel_rfl) | (rw [if_neg (by decide +kernel)]; exact ⟨rfl, rfl⟩))
    (fun os started H enc _ => lifted os started H enc)
theorem proved : Rows.ObjectsNilCardSaid :=
  Claim7.holds_tied_plain_at .later [] [.data] true Rows.objectsNilCard.stood.harness false
    over (fun _ h => by cases h) (by kernel_rfl) (fun _ h => by cases h) objectsNil_row_tie rfl ⟨rfl, rfl⟩ (by kernel_rfl) rfl
    (fun f fn hf hfn => by
      obtain rfl : f = 9 := Option.some.inj ((show Tryd.prog.funcNamed "chatelaine/chatelainelaw04.ObjectsNil" = some 9 by kernel_rfl).symm.trans hf) |>.symm
      obtain rfl : fn = Tryd.f9 := (Option.some.inj (Tryd.func9.symm.trans hfn)).symm
      exact ⟨by kernel_rfl, fun j t ht => by
        rw [Tryd.params9] at ht
        have hm : t ∈ [45, 30] := by simpa using Array.mem_of_getElem? ht
        have hall : ([45, 30].all fun u => !Tryd.prog.wantsStandIn u) = true := by kernel_rfl
        exact (show Tryd.prog.wantsStandIn t = false by simpa using List.all_eq_true.1 hall t hm)⟩)
    (by kernel_rfl)
end Go.Proofs.YtlhlgfehbfankaaDoor.objectsNil

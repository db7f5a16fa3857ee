/- law 12: same. -/
import Derived.Test.YteodgefnbmiblaaDoorR17
import Derived.Test.YteodgefnbmiblaaDoorR09
import Derived.Test.YteodgefnbmiblaaDoorR07
import Derived.Test.YteodgefnbmiblaaDoorR08
namespace Go.Proofs.YteodgefnbmiblaaDoor
open Go.RowKit Go.Shelf
attribute [local go_sem] Oper.semAt_some
theorem keeps_drew {B : Nat} {W W' : World} (h : KeepsFrom B W W') : KeepsFrom B W W'.drew := ⟨h.size, h.same⟩
section
variable {w : World} {base p : Nat} {A : Option Addr} {cap : Nat} {ps : List Nat} {os : List Oj}
set_option maxRecDepth 100000 in
set_option maxHeartbeats 4000000 in
theorem same_at (h : StAt w base p A cap ps os) (hN : 0 < os.length) (hN' : os.length ≤ 1000) (A2 : Option Addr) (cap2 : Nat) (hr : RdO w A2 os) :
    Calls Tryd.prog 19 #[pv p, .slice A2 os.length cap2] w fun e w' => e = .returned (.bool true) ∧ Below w.heap.size w w' := by
  have hz := z34
  have hbl := oz_len
  have hFw : ∀ f, Fence.wide.fn f := fun _ => trivial
  have HB := Lib.hid (((((Below.refl w.heap.size w).alloc (Nat.le_refl _) (.cells #[.slice A2 os.length cap2] 22)).alloc (by simp) (.cells #[.bool false] 4)).alloc (by simp; omega) (.cells #[.int .i64 0] 3)).alloc (by simp; omega) (.cells #[pv p] 25))
  have HS := Lib.hid ((((h.alloc (.cells #[.slice A2 os.length cap2] 22)).alloc (.cells #[.bool false] 4)).alloc (.cells #[.int .i64 0] 3)).alloc (.cells #[pv p] 25))
  have HR := Lib.hid hr
  have HL := Lib.hid (fun (k : Nat) (hk : stHas p A ps k) => (h.lt k hk).2)
  have H0 := Lib.hid ((((Blk.new w 22 #[.slice A2 os.length cap2]).alloc (.cells #[.bool false] 4)).alloc (.cells #[.int .i64 0] 3)).alloc (.cells #[pv p] 25))
  have H1 := Lib.hid (((show Blk ((w.alloc (.cells #[.slice A2 os.length cap2] 22)).alloc (.cells #[.bool false] 4)) (w.heap.size + 1) 4 #[.bool false] from by have := Blk.new (w.alloc (.cells #[.slice A2 os.length cap2] 22)) 4 #[.bool false]; simpa using this).alloc (.cells #[.int .i64 0] 3)).alloc (.cells #[pv p] 25))
  have H2 := Lib.hid ((show Blk (((w.alloc (.cells #[.slice A2 os.length cap2] 22)).alloc (.cells #[.bool false] 4)).alloc (.cells #[.int .i64 0] 3)) (w.heap.size + 1 + 1) 3 #[.int .i64 0] from by have := Blk.new ((w.alloc (.cells #[.slice A2 os.length cap2] 22)).alloc (.cells #[.bool false] 4)) 3 #[.int .i64 0]; simpa using this).alloc (.cells #[pv p] 25))
  have H4 := Lib.hid (show Blk ((((w.alloc (.cells #[.slice A2 os.length cap2] 22)).alloc (.cells #[.bool false] 4)).alloc (.cells #[.int .i64 0] 3)).alloc (.cells #[pv p] 25)) (w.heap.size + 1 + 1 + 1) 25 #[pv p] from by have := Blk.new (((w.alloc (.cells #[.slice A2 os.length cap2] 22)).alloc (.cells #[.bool false] 4)).alloc (.cells #[.int .i64 0] 3)) 25 #[pv p]; simpa using this)
  have SZ := Lib.hid (show ((((w.alloc (.cells #[.slice A2 os.length cap2] 22)).alloc (.cells #[.bool false] 4)).alloc (.cells #[.int .i64 0] 3)).alloc (.cells #[pv p] 25)).heap.size = w.heap.size + 4 by simp)
  have HN := Lib.hid hN
  have HN' := Lib.hid hN'
  clear h hr hN
  refine (callsIn_wide (n := 4)).1 (callsIn_of_wp_marks Tryd.func19 rfl trivial ?_ rfl)
  simp only [Tryd.ntmps19, List.size_toArray, List.length_cons, List.length_nil, Nat.reduceAdd, Nat.reduceSub, Array.replicate_succ, Array.replicate_zero, List.push_toArray, List.append_toArray, List.nil_append, List.cons_append]
  gi_wp2_with (gi_at_call 16; refine ((callsIn_wide (n := 3)).2 (all_any _ (.inr ⟨p, rfl⟩) _)).mono ?_; rintro e w' ⟨rfl, rfl⟩)
  generalize ((((w.alloc (.cells #[.slice A2 os.length cap2] 22)).alloc (.cells #[.bool false] 4)).alloc (.cells #[.int .i64 0] 3)).alloc (.cells #[pv p] 25)) = W5 at HB HS H0 H1 H2 H4 SZ ⊢
  refine wpIn_rangeFunc_ownH (α := Ie os) (Kp := KS p A ps) (w0 := W5) rfl (by omega) (gf := 43) (a := { tmps := #[pv p, .slice A2 os.length cap2, undef, .pointer (some ⟨w.heap.size, 0, none⟩), .pointer (some ⟨w.heap.size + 1, 0, none⟩), .pointer (some ⟨w.heap.size + 1 + 1, 0, none⟩), undef, undef, pv p, .func (.func 43) #[] #[.pointer (some ⟨w.heap.size + 1 + 1 + 1, 0, none⟩)], undef, undef, undef, undef, undef, undef, undef, undef, undef, undef, undef, undef, undef, undef, undef, undef, undef, undef, undef, undef, undef, undef, undef, undef, undef], defers := [] }) rfl trivial (enters_of Tryd.func43 (by kernel_rfl) rfl)
    (all1_in 3 (by omega) (w.heap.size + 1 + 1 + 1) HS.out HN.out HN'.out ((H4.out.cell 0).trans rfl)) (fun h k => h.trans k) (fun W l o o' => KS.put HS.out l o o') (Below.refl _ _) (fun _ => rfl)
    (fun pre W => Blk W (w.heap.size + 1 + 1) 3 #[.int .i64 (pre.length : Int)] ∧ Blk W w.heap.size 22 #[.slice A2 os.length cap2] ∧ Blk W (w.heap.size + 1) 4 #[.bool false] ∧ Below w.heap.size w W ∧ W5.heap.size ≤ W.heap.size ∧ StAt W base p A cap ps os)
    (fun (_ : Code) (xs : List (Ie os)) (_ : World) => ∃ (pre : List (Ie os)) (x : Ie os), xs = pre ++ [x] ∧ x.i ≠ pre.length)
    ((own_blk _ _ _ (fun pre : List (Ie os) => #[.int .i64 (pre.length : Int)])).and ((own_blk _ _ _ (fun _ => _)).and ((own_blk _ _ _ (fun _ => _)).and ((ownFrom_below (Nat.le_refl _) HB.out.size).and ((own_size _ _).and (own_st HL.out HB.out.size))))))
    (fun _ _ _ _ _ hs _ _ => hs) ⟨H2.out, H0.out, H1.out, HB.out, Nat.le_refl _, HS.out⟩
    (fun x a' W => ∃ b, W5.heap.size ≤ b ∧ a' = { tmps := #[pv p, .slice A2 os.length cap2, undef, .pointer (some ⟨w.heap.size, 0, none⟩), .pointer (some ⟨w.heap.size + 1, 0, none⟩), .pointer (some ⟨w.heap.size + 1 + 1, 0, none⟩), .int .i64 (x.i : Int), .pointer (some ⟨b, 0, none⟩), pv p, .func (.func 43) #[] #[.pointer (some ⟨w.heap.size + 1 + 1 + 1, 0, none⟩)], .int .i64 (x.i : Int), x.o.val, undef, undef, undef, undef, undef, undef, undef, undef, undef, undef, undef, undef, undef, undef, undef, undef, undef, undef, undef, undef, undef, undef, undef], defers := [] } ∧ Blk W b 47 x.o.cells.toArray)
    (fun x a' s X Y row hs hg hr => by
      obtain ⟨b, h1, h2, h3⟩ := hs
      exact ⟨b, h1, h2, own_blk W5.heap.size b _ (fun _ => _) s X Y row h3 hg hr⟩)
    ?assign ?body ?done ?stop
  case assign =>
    rintro l pre x W K ⟨i1, i2, i3, i4, i5, i6⟩ hK
    have hk := hK { tmps := #[pv p, .slice A2 os.length cap2, undef, .pointer (some ⟨w.heap.size, 0, none⟩), .pointer (some ⟨w.heap.size + 1, 0, none⟩), .pointer (some ⟨w.heap.size + 1 + 1, 0, none⟩), .int .i64 (x.i : Int), .pointer (some ⟨W.heap.size, 0, none⟩), pv p, .func (.func 43) #[] #[.pointer (some ⟨w.heap.size + 1 + 1 + 1, 0, none⟩)], .int .i64 (x.i : Int), x.o.val, undef, undef, undef, undef, undef, undef, undef, undef, undef, undef, undef, undef, undef, undef, undef, undef, undef, undef, undef, undef, undef, undef, undef], defers := [] } (W.alloc (.cells x.o.cells.toArray 47)) ((KeepsOthers.alloc W _).from _) (fun k hk => Below.heap_alloc W _ _ (i6.lt k hk).2) ⟨i1.alloc _, i2.alloc _, i3.alloc _, i4.alloc i4.size _, by rw [World.size_alloc]; omega, i6.alloc _⟩ ⟨W.heap.size, i5, rfl, Blk.new W _ _⟩
    have HKK := Lib.hid hk
    clear hK hk i1 i2 i3 i4 i5 i6
    gi_wp2_with (refine wpListIn_store_last rfl (.tmp 7) (.tmp 11) rfl _ rfl rfl x.o oz rfl ?_)
    exact HKK.out
  case body =>
    rintro l pre x a' W hl _ ⟨i1, i2, i3, i4, i5, i6⟩ ⟨b, hb, rfl, hbw⟩ hlen
    obtain ⟨k, hk⟩ : ∃ k, k = pre.length := ⟨_, rfl⟩
    rw [← hk] at i1 hlen
    have SW := SZ.out
    by_cases hxi : x.i = k
    · obtain ⟨gl, off, rfl, hob0⟩ := HR.out k hlen
      have hxo : x.o = os[k]'hlen := by
        obtain ⟨xi, xl⟩ := x
        simp only at hxi
        subst hxi
        rfl
      have hob1 := hob0.below i4
      rw [← hxo] at hob1
      have HOB := Lib.hid hob1
      have d0 : decide ((os.length : Int) ≤ (k : Int)) = false := decide_eq_false (by omega)
      have d0' : decide (os.length ≤ k) = false := decide_eq_false (by omega)
      have I1 := Lib.hid i1
      have II := Lib.hid (show _ ∧ _ ∧ _ ∧ _ ∧ _ from ⟨i2, i3, i4, i5, i6⟩)
      have HXI := Lib.hid hxi
      have HKP := Lib.hid hk
      have hll : (k : Int) < (os.length : Int) := by omega
      rw [hxi]
      clear hob0 hob1 hxo hxi hk
      gi_wp2_with fail
      refine wpIn_region_round (S := fun w' => w'.cell? ⟨w.heap.size + 1 + 1, 0, none⟩ = some (.int .i64 (k : Int)) ∧ w'.cell? ⟨w.heap.size, 0, none⟩ = some (.slice (some ⟨gl, off, none⟩) os.length cap2) ∧ ObAt w' b 0 x.o ∧ ObAt w' gl (off + k * 163) x.o) (by kernel_rfl) (noDefer (by kernel_rfl)) ⟨(i1.cell 0).trans rfl, (i2.cell 0).trans rfl, hbw.ob.drew, HOB.out.drew⟩ (fun hHeld => ?_)
      refine wpAnyH_take (i := 0) (v := ?v1) rfl (by kernel_rfl) (by kernel_rfl) (by kernel_rfl) (fun _ _ _ h => h) (Or.inl ⟨by rfl, ?hy1⟩) hHeld ?rest1
      case hy1 =>
        intro w' hSw
        try dsimp only at hSw
        go_simp
        first | done | with_reducible rfl
      try simp only [Act.put, List.getElem_toArray, List.getElem_cons_zero, List.setIfInBounds_toArray, List.set_cons_zero, List.set_cons_succ]
      refine wpAnyH_take (i := 1) (v := ?v2) rfl (by kernel_rfl) (by kernel_rfl) (by kernel_rfl) (fun _ _ _ h => h) (Or.inl ⟨by rfl, ?hy2⟩) hHeld ?rest2
      case hy2 =>
        intro w' hSw
        try dsimp only at hSw
        go_simp
        first | done | with_reducible rfl
      try simp only [Act.put, List.getElem_toArray, List.getElem_cons_succ, List.getElem_cons_zero, List.setIfInBounds_toArray, List.set_cons_zero, List.set_cons_succ]
      refine wpAnyH_take (i := 2) (v := ?v3) rfl (by kernel_rfl) (by kernel_rfl) (by kernel_rfl) (fun _ _ _ h => h) (Or.inl ⟨by rfl, ?hy3⟩) hHeld ?rest3
      case hy3 =>
        intro w' hSw
        try dsimp only at hSw
        go_simp
        first | done | with_reducible rfl
      try simp only [Act.put, List.getElem_toArray, List.getElem_cons_succ, List.getElem_cons_zero, List.setIfInBounds_toArray, List.set_cons_zero, List.set_cons_succ]
      refine wpAnyH_take (i := 3) (v := ?v4) rfl (by kernel_rfl) (by kernel_rfl) (by kernel_rfl) (fun _ _ _ h => h) (Or.inl ⟨by rfl, ?hy4⟩) hHeld ?rest4
      case hy4 =>
        intro w' hSw
        try dsimp only at hSw
        go_simp
        first | done | with_reducible rfl
      try simp only [Act.put, List.getElem_toArray, List.getElem_cons_succ, List.getElem_cons_zero, List.setIfInBounds_toArray, List.set_cons_zero, List.set_cons_succ]
      refine wpAnyH_take (i := 4) (v := ?v5) rfl (by kernel_rfl) (by kernel_rfl) (by kernel_rfl) (fun _ _ _ h => h) (Or.inl ⟨by rfl, ?hy5⟩) hHeld ?rest5
      case hy5 =>
        intro w' hSw
        try dsimp only at hSw
        go_simp
        first | done | with_reducible rfl
      try simp only [Act.put, List.getElem_toArray, List.getElem_cons_succ, List.getElem_cons_zero, List.setIfInBounds_toArray, List.set_cons_zero, List.set_cons_succ]
      refine wpAnyH_take (i := 5) (v := ?v6) rfl (by kernel_rfl) (by kernel_rfl) (by kernel_rfl) (fun _ _ _ h => h) (Or.inl ⟨by rfl, ?hy6⟩) hHeld ?rest6
      case hy6 =>
        intro w' hSw
        try dsimp only at hSw
        go_simp
        first | done | with_reducible rfl
      try simp only [Act.put, List.getElem_toArray, List.getElem_cons_succ, List.getElem_cons_zero, List.setIfInBounds_toArray, List.set_cons_zero, List.set_cons_succ]
      refine wpAnyH_take (i := 6) (v := ?v7) rfl (by kernel_rfl) (by kernel_rfl) (by kernel_rfl) (fun _ _ _ h => h) (Or.inl ⟨by rfl, ?hy7⟩) hHeld ?rest7
      case hy7 =>
        intro w' hSw
        try dsimp only at hSw
        go_simp
        first | done | with_reducible rfl
      try simp only [Act.put, List.getElem_toArray, List.getElem_cons_succ, List.getElem_cons_zero, List.setIfInBounds_toArray, List.set_cons_zero, List.set_cons_succ]
      refine wpAnyH_take (i := 7) (v := ?v8) rfl (by kernel_rfl) (by kernel_rfl) (by kernel_rfl) (fun _ _ _ h => h) (Or.inl ⟨by rfl, ?hy8⟩) hHeld ?rest8
      case hy8 =>
        intro w' hSw
        try dsimp only at hSw
        go_simp
        first | done | with_reducible rfl
      try simp only [Act.put, List.getElem_toArray, List.getElem_cons_succ, List.getElem_cons_zero, List.setIfInBounds_toArray, List.set_cons_zero, List.set_cons_succ]
      refine wpAnyH_take (i := 8) (v := ?v9) rfl (by kernel_rfl) (by kernel_rfl) (by kernel_rfl) (fun _ _ _ h => h) (Or.inl ⟨by rfl, ?hy9⟩) hHeld ?rest9
      case hy9 =>
        intro w' hSw
        try dsimp only at hSw
        go_simp
        first | done | with_reducible rfl
      try simp only [Act.put, List.getElem_toArray, List.getElem_cons_succ, List.getElem_cons_zero, List.setIfInBounds_toArray, List.set_cons_zero, List.set_cons_succ]
      refine wpAnyH_take (i := 9) (v := ?v10) rfl (by kernel_rfl) (by kernel_rfl) (by kernel_rfl) (fun _ _ _ h => h) (Or.inl ⟨by rfl, ?hy10⟩) hHeld ?rest10
      case hy10 =>
        intro w' hSw
        try dsimp only at hSw
        go_simp
        first | done | with_reducible rfl
      try simp only [Act.put, List.getElem_toArray, List.getElem_cons_succ, List.getElem_cons_zero, List.setIfInBounds_toArray, List.set_cons_zero, List.set_cons_succ]
      refine wpAnyH_take (i := 10) rfl (by kernel_rfl) (by kernel_rfl) (by kernel_rfl) (fun _ _ _ h => h) (y_ob (by rfl) (.tmp 7) (by rfl) b 0 (by rfl) x.o (fun _ h => h.2.2.1)) hHeld ?_
      try simp only [Act.put, List.getElem_toArray, List.getElem_cons_succ, List.getElem_cons_zero, List.setIfInBounds_toArray, List.set_cons_zero, List.set_cons_succ]
      refine wpAnyH_take (i := 11) (v := ?v11) rfl (by kernel_rfl) (by kernel_rfl) (by kernel_rfl) (fun _ _ _ h => h) (Or.inl ⟨by rfl, ?hy11⟩) hHeld ?rest11
      case hy11 =>
        intro w' hSw
        try dsimp only at hSw
        go_simp
        first | done | with_reducible rfl
      try simp only [Act.put, List.getElem_toArray, List.getElem_cons_succ, List.getElem_cons_zero, List.setIfInBounds_toArray, List.set_cons_zero, List.set_cons_succ]
      refine wpAnyH_take (i := 12) (v := ?v12) rfl (by kernel_rfl) (by kernel_rfl) (by kernel_rfl) (fun _ _ _ h => h) (Or.inl ⟨by rfl, ?hy12⟩) hHeld ?rest12
      case hy12 =>
        intro w' hSw
        try dsimp only at hSw
        go_simp
        first | done | with_reducible rfl
      try simp only [Act.put, List.getElem_toArray, List.getElem_cons_succ, List.getElem_cons_zero, List.setIfInBounds_toArray, List.set_cons_zero, List.set_cons_succ]
      refine wpAnyH_take (i := 13) (v := ?v13) rfl (by kernel_rfl) (by kernel_rfl) (by kernel_rfl) (fun _ _ _ h => h) (Or.inl ⟨by rfl, ?hy13⟩) hHeld ?rest13
      case hy13 =>
        intro w' hSw
        try dsimp only at hSw
        go_simp
        first | done | with_reducible rfl
      try simp only [Act.put, List.getElem_toArray, List.getElem_cons_succ, List.getElem_cons_zero, List.setIfInBounds_toArray, List.set_cons_zero, List.set_cons_succ]
      refine wpAnyH_take (i := 14) rfl (by kernel_rfl) (by kernel_rfl) (by kernel_rfl) (fun _ _ _ h => h) (y_ob (by rfl) (.tmp 25) (by rfl) gl (off + k * 163) (by rfl) x.o (fun _ h => h.2.2.2)) hHeld ?_
      try simp only [Act.put, List.getElem_toArray, List.getElem_cons_succ, List.getElem_cons_zero, List.setIfInBounds_toArray, List.set_cons_zero, List.set_cons_succ]
      refine wpAnyH_take (i := 15) rfl (by kernel_rfl) (by kernel_rfl) (by kernel_rfl) (fun _ _ _ h => h) (y_obne_self (by rfl) (by rfl) x.o (by rfl) (by rfl)) hHeld ?_
      try simp only [Act.put, List.getElem_toArray, List.getElem_cons_succ, List.getElem_cons_zero, List.setIfInBounds_toArray, List.set_cons_zero, List.set_cons_succ]
      refine wpAnyH_take (i := 16) (v := ?v14) rfl (by kernel_rfl) (by kernel_rfl) (by kernel_rfl) (fun _ _ _ h => h) (Or.inl ⟨by rfl, ?hy14⟩) hHeld ?rest14
      case hy14 =>
        intro w' hSw
        try dsimp only at hSw
        go_simp
        first | done | with_reducible rfl
      try simp only [Act.put, List.getElem_toArray, List.getElem_cons_succ, List.getElem_cons_zero, List.setIfInBounds_toArray, List.set_cons_zero, List.set_cons_succ]
      refine wpAnyH_done (by kernel_rfl) ?_ _
      refine OnlyN.normal ?_
      clear hHeld i1 i2 i3 i4 i5 i6
      have c2 : W.drew.cell? ⟨w.heap.size + 1 + 1, 0, none⟩ = some (.int .i64 (k : Int)) := (I1.out.drew.cell 0).trans rfl
      have f2 : W.drew.frozen? ⟨w.heap.size + 1 + 1, 0, none⟩ = false := I1.out.drew.frozen 0
      have HK1 : Hid (((k : Int) + 1) = (((pre ++ [x]).length : Nat) : Int)) := by show ((k : Int) + 1) = _; rw [List.length_append, ← HKP.out]; simp
      gi_wp2
      obtain ⟨i2, i3, i4, i5, i6⟩ := II.out
      refine ⟨keeps_drew ((KeepsOthers.setCell _ _ _).from _), fun q hq => Below.heap_setCell _ _ _ _ (by have := HL.out q hq; simp; omega), ?_, (i2.far (by simp; omega) _).drew, (i3.far (by simp) _).drew, below_drew (i4.setCell (p := ⟨w.heap.size + 1 + 1, 0, none⟩) (by simp; omega) _), by simpa [World.setCell] using i5, i6.keep fun q hq => Below.heap_setCell _ _ _ _ (by have := HL.out q hq; simp; omega)⟩
      rw [← HK1.out]
      have := I1.out.set_ 0 (.int .i64 ((k : Int) + 1))
      exact this
    · have d0 : ((x.i : Int) != (k : Int)) = true := by simp; omega
      have I1 := Lib.hid i1
      have I3 := Lib.hid i3
      have HXI := Lib.hid hxi
      have HKP := Lib.hid hk
      clear hxi hk
      gi_wp2_with fail
      refine wpIn_region_round (S := fun w' => w'.cell? ⟨w.heap.size + 1 + 1, 0, none⟩ = some (.int .i64 (k : Int))) (by kernel_rfl) (noDefer (by kernel_rfl)) ((i1.cell 0).trans rfl) (fun hHeld => ?_)
      refine wpAnyH_take (i := 0) (v := ?v15) rfl (by kernel_rfl) (by kernel_rfl) (by kernel_rfl) (fun _ _ _ h => h) (Or.inl ⟨by rfl, ?hy15⟩) hHeld ?rest15
      case hy15 =>
        intro w' hSw
        try dsimp only at hSw
        go_simp
        first | done | with_reducible rfl
      try simp only [Act.put, List.getElem_toArray, List.getElem_cons_zero, List.setIfInBounds_toArray, List.set_cons_zero, List.set_cons_succ]
      refine wpAnyH_take (i := 1) (v := ?v16) rfl (by kernel_rfl) (by kernel_rfl) (by kernel_rfl) (fun _ _ _ h => h) (Or.inl ⟨by rfl, ?hy16⟩) hHeld ?rest16
      case hy16 =>
        intro w' hSw
        try dsimp only at hSw
        go_simp
        first | done | with_reducible rfl
      try simp only [Act.put, List.getElem_toArray, List.getElem_cons_succ, List.getElem_cons_zero, List.setIfInBounds_toArray, List.set_cons_zero, List.set_cons_succ]
      refine wpAnyH_take (i := 2) (v := ?v17) rfl (by kernel_rfl) (by kernel_rfl) (by kernel_rfl) (fun _ _ _ h => h) (Or.inl ⟨by rfl, ?hy17⟩) hHeld ?rest17
      case hy17 =>
        intro w' hSw
        try dsimp only at hSw
        go_simp
        first | done | with_reducible rfl
      try simp only [Act.put, List.getElem_toArray, List.getElem_cons_succ, List.getElem_cons_zero, List.setIfInBounds_toArray, List.set_cons_zero, List.set_cons_succ]
      refine wpAnyH_take (i := 3) (v := ?v18) rfl (by kernel_rfl) (by kernel_rfl) (by kernel_rfl) (fun _ _ _ h => h) (Or.inl ⟨by rfl, ?hy18⟩) hHeld ?rest18
      case hy18 =>
        intro w' hSw
        try dsimp only at hSw
        go_simp
        first | done | with_reducible rfl
      try simp only [Act.put, List.getElem_toArray, List.getElem_cons_succ, List.getElem_cons_zero, List.setIfInBounds_toArray, List.set_cons_zero, List.set_cons_succ]
      refine wpAnyH_take (i := 4) (v := undef) rfl (by kernel_rfl) (by kernel_rfl) (by kernel_rfl) (fun _ _ _ h => h) (Or.inr ⟨by rfl, rfl⟩) hHeld ?_
      try simp only [Act.put, List.getElem_toArray, List.getElem_cons_succ, List.getElem_cons_zero, List.setIfInBounds_toArray, List.set_cons_zero, List.set_cons_succ]
      refine wpAnyH_take (i := 5) (v := undef) rfl (by kernel_rfl) (by kernel_rfl) (by kernel_rfl) (fun _ _ _ h => h) (Or.inr ⟨by rfl, rfl⟩) hHeld ?_
      try simp only [Act.put, List.getElem_toArray, List.getElem_cons_succ, List.getElem_cons_zero, List.setIfInBounds_toArray, List.set_cons_zero, List.set_cons_succ]
      refine wpAnyH_take (i := 6) (v := undef) rfl (by kernel_rfl) (by kernel_rfl) (by kernel_rfl) (fun _ _ _ h => h) (Or.inr ⟨by rfl, rfl⟩) hHeld ?_
      try simp only [Act.put, List.getElem_toArray, List.getElem_cons_succ, List.getElem_cons_zero, List.setIfInBounds_toArray, List.set_cons_zero, List.set_cons_succ]
      refine wpAnyH_take (i := 7) (v := undef) rfl (by kernel_rfl) (by kernel_rfl) (by kernel_rfl) (fun _ _ _ h => h) (Or.inr ⟨by rfl, rfl⟩) hHeld ?_
      try simp only [Act.put, List.getElem_toArray, List.getElem_cons_succ, List.getElem_cons_zero, List.setIfInBounds_toArray, List.set_cons_zero, List.set_cons_succ]
      refine wpAnyH_take (i := 8) (v := ?v19) rfl (by kernel_rfl) (by kernel_rfl) (by kernel_rfl) (fun _ _ _ h => h) (Or.inl ⟨by rfl, ?hy19⟩) hHeld ?rest19
      case hy19 =>
        intro w' hSw
        try dsimp only at hSw
        go_simp
        first | done | with_reducible rfl
      try simp only [Act.put, List.getElem_toArray, List.getElem_cons_succ, List.getElem_cons_zero, List.setIfInBounds_toArray, List.set_cons_zero, List.set_cons_succ]
      refine wpAnyH_take (i := 9) (v := ?v20) rfl (by kernel_rfl) (by kernel_rfl) (by kernel_rfl) (fun _ _ _ h => h) (Or.inl ⟨by rfl, ?hy20⟩) hHeld ?rest20
      case hy20 =>
        intro w' hSw
        try dsimp only at hSw
        go_simp
        first | done | with_reducible rfl
      try simp only [Act.put, List.getElem_toArray, List.getElem_cons_succ, List.getElem_cons_zero, List.setIfInBounds_toArray, List.set_cons_zero, List.set_cons_succ]
      refine wpAnyH_take (i := 10) (v := undef) rfl (by kernel_rfl) (by kernel_rfl) (by kernel_rfl) (fun _ _ _ h => h) (Or.inr ⟨by rfl, rfl⟩) hHeld ?_
      try simp only [Act.put, List.getElem_toArray, List.getElem_cons_succ, List.getElem_cons_zero, List.setIfInBounds_toArray, List.set_cons_zero, List.set_cons_succ]
      refine wpAnyH_take (i := 11) (v := undef) rfl (by kernel_rfl) (by kernel_rfl) (by kernel_rfl) (fun _ _ _ h => h) (Or.inr ⟨by rfl, rfl⟩) hHeld ?_
      try simp only [Act.put, List.getElem_toArray, List.getElem_cons_succ, List.getElem_cons_zero, List.setIfInBounds_toArray, List.set_cons_zero, List.set_cons_succ]
      refine wpAnyH_take (i := 12) (v := undef) rfl (by kernel_rfl) (by kernel_rfl) (by kernel_rfl) (fun _ _ _ h => h) (Or.inr ⟨by rfl, rfl⟩) hHeld ?_
      try simp only [Act.put, List.getElem_toArray, List.getElem_cons_succ, List.getElem_cons_zero, List.setIfInBounds_toArray, List.set_cons_zero, List.set_cons_succ]
      refine wpAnyH_take (i := 13) (v := undef) rfl (by kernel_rfl) (by kernel_rfl) (by kernel_rfl) (fun _ _ _ h => h) (Or.inr ⟨by rfl, rfl⟩) hHeld ?_
      try simp only [Act.put, List.getElem_toArray, List.getElem_cons_succ, List.getElem_cons_zero, List.setIfInBounds_toArray, List.set_cons_zero, List.set_cons_succ]
      refine wpAnyH_take (i := 14) (v := undef) rfl (by kernel_rfl) (by kernel_rfl) (by kernel_rfl) (fun _ _ _ h => h) (Or.inr ⟨by rfl, rfl⟩) hHeld ?_
      try simp only [Act.put, List.getElem_toArray, List.getElem_cons_succ, List.getElem_cons_zero, List.setIfInBounds_toArray, List.set_cons_zero, List.set_cons_succ]
      refine wpAnyH_take (i := 15) (v := undef) rfl (by kernel_rfl) (by kernel_rfl) (by kernel_rfl) (fun _ _ _ h => h) (Or.inr ⟨by rfl, rfl⟩) hHeld ?_
      try simp only [Act.put, List.getElem_toArray, List.getElem_cons_succ, List.getElem_cons_zero, List.setIfInBounds_toArray, List.set_cons_zero, List.set_cons_succ]
      refine wpAnyH_take (i := 16) (v := ?v21) rfl (by kernel_rfl) (by kernel_rfl) (by kernel_rfl) (fun _ _ _ h => h) (Or.inl ⟨by rfl, ?hy21⟩) hHeld ?rest21
      case hy21 =>
        intro w' hSw
        try dsimp only at hSw
        go_simp
        first | done | with_reducible rfl
      try simp only [Act.put, List.getElem_toArray, List.getElem_cons_succ, List.getElem_cons_zero, List.setIfInBounds_toArray, List.set_cons_zero, List.set_cons_succ]
      refine wpAnyH_done (by kernel_rfl) ?_ _
      refine OnlyN.normal ?_
      clear hHeld i1 i2 i3 i4 i5 i6
      have c1 : W.drew.cell? ⟨w.heap.size + 1, 0, none⟩ = some (.bool false) := (I3.out.drew.cell 0).trans rfl
      have f1 : W.drew.frozen? ⟨w.heap.size + 1, 0, none⟩ = false := I3.out.drew.frozen 0
      gi_wp2
      exact ⟨keeps_drew ((KeepsOthers.setCell _ _ _).from _), pre, x, rfl, fun e => HXI.out (by rw [HKP.out]; exact e)⟩
  case stop =>
    rintro D c pre W _ ⟨k, _, hk⟩ ⟨q, x, rfl, hx⟩ _
    exact absurd hk.last hx
  case done =>
    rintro D xs W hD hS ⟨i1, i2, i3, i4, i5, i6⟩ hK
    rw [hS.1] at i1
    have I1 := Lib.hid i1
    have I2 := Lib.hid i2
    have I3 := Lib.hid i3
    have I4 := Lib.hid i4
    have I6 := Lib.hid i6
    have HK := Lib.hid hK
    have HD := Lib.hid (show w.heap.size + 4 ≤ D by have := SZ.out; omega)
    clear i1 i2 i3 i4 i5 i6 hK hS
    have c2 : W.cell? ⟨w.heap.size + 1 + 1, 0, none⟩ = some (.int .i64 (os.length : Int)) := (I1.out.cell 0).trans rfl
    have c0 : W.cell? ⟨w.heap.size, 0, none⟩ = some (.slice A2 os.length cap2) := (I2.out.cell 0).trans rfl
    have c1 : W.cell? ⟨w.heap.size + 1, 0, none⟩ = some (.bool false) := (I3.out.cell 0).trans rfl
    have f1 : W.frozen? ⟨w.heap.size + 1, 0, none⟩ = false := I3.out.frozen 0
    gi_wp2
    have hDB : (W.setCell ⟨w.heap.size + 1, 0, none⟩ (.bool true)).heap[D]? = some (.deferred (some [])) := (Below.heap_setCell W ⟨w.heap.size + 1, 0, none⟩ (.bool true) D (by have := HD.out; simp; omega)).trans HK.out
    have hb1 : Blk (W.setCell ⟨w.heap.size + 1, 0, none⟩ (.bool true)) (w.heap.size + 1) 4 #[.bool true] := (I3.out.set_ 0 (.bool true))
    refine ⟨by simp, .inl ⟨_, _, rfl, run_takeDeferred hDB, ?_⟩⟩
    have hb2 := (World.putObj_heap_other (o := .deferred none) (show w.heap.size + 1 ≠ D by have := HD.out; omega)).trans hb1
    refine ⟨_, results_bool rfl _ _ (w.heap.size + 1) true rfl ((Blk.cell hb2 0).trans rfl), rfl, (I4.out.setCell (p := ⟨w.heap.size + 1, 0, none⟩) (by simp) (.bool true)).trans ?_⟩
    exact (belowK_b (w := w) (Nat.le_refl _) _ D _ _ (by have := HD.out; omega) hDB rfl rfl)
end
end Go.Proofs.YteodgefnbmiblaaDoor

/- objects: Copy. -/
import Derived.Test.YtlhlgfehbfankaaDoorOAll
import Derived.Test.YtlhlgfehbfankaaDoorKCou
namespace Go.Proofs.YtlhlgfehbfankaaDoor
open Go.RowKit Go.Shelf
attribute [local go_sem] Oper.semAt_some
section
variable {w : World} {base p : Nat} {A : Option Addr} {cap : Nat} {ps : List Nat} {os : List Oj}
/-- a store's blocks are cells -/
theorem StAt.isCells (h : StAt w base p A cap ps os) {k : Nat} (hk : stHas p A ps k) : ∃ o : Obj, w.heap[k]? = some o ∧ o.isCells = true := by
  rcases hk with rfl | hk | hk
  · exact ⟨_, h.blk, rfl⟩
  · rcases h.own.2 with ⟨h0, _⟩ | ⟨g, c, cur, h1, h2, h3, _⟩
    · injection h0 with h0
      rw [h0] at hk
      cases hk
    · injection h1 with h1
      rw [h1] at hk
      injection hk with hk
      simp only at hk
      subst hk
      exact ⟨_, h3, rfl⟩
  · obtain ⟨i, hi, rfl⟩ := List.mem_iff_getElem.1 hk
    exact ⟨_, h.obj i (by rw [← h.len]; exact hi) hi, rfl⟩
theorem StAt.blk_ne (h : StAt w base p A cap ps os) {k : Nat} {t : TypeId} {cs : Array Value} (hb : Blk w k t cs) (ht : t ≠ 78 ∧ t ≠ 34) (hne : k ≠ p) : ¬ stHas p A ps k := by
  rintro (e | e | e)
  · exact hne e
  · rcases h.own.2 with ⟨h0, _⟩ | ⟨g, c, cur, h1, h2, h3, _⟩
    · injection h0 with h0
      rw [h0] at e
      cases e
    · injection h1 with h1
      rw [h1] at e
      injection e with e
      simp only at e
      subst e
      unfold Blk at hb
      rw [h3] at hb
      injection hb with hb
      injection hb with _ hb
      exact ht.1 hb.symm
  · obtain ⟨i, hi, rfl⟩ := List.mem_iff_getElem.1 e
    have h3 := h.obj i (by rw [← h.len]; exact hi) hi
    unfold Blk at hb h3
    rw [h3] at hb
    injection hb with hb
    injection hb with _ hb
    exact ht.2 hb.symm
theorem own_stc {β : Type} (B : Nat) (f : β → List Oj) : OwnFrom B (fun (s : β) W => ∃ A' cap' ps', StAt W base p A' cap' ps' (f s)) := fun s X Y row hs hg hr => by
  obtain ⟨A', cap', ps', hs⟩ := hs
  refine ⟨A', cap', ps', hs.keep fun k hk => ?_⟩
  obtain ⟨o, ho, hc⟩ := hs.isCells hk
  refine hg.block k (Array.getElem?_eq_some_iff.1 ho).1 (fun e => ?_)
  obtain ⟨_, o', ho', hc'⟩ := hr k e.symm
  rw [ho] at ho'
  injection ho' with ho'
  subst ho'
  rw [hc] at hc'
  cases hc'
/-- add, with its frame -/
theorem StAt.push_fr (_ : StAt w base p A cap ps os) (o : Oj) (t : TypeId) (cs : Array Value) {w' : World} (v : Value)
    (hg : ((w.alloc (.cells o.cells.toArray 34)).alloc (.cells cs t)).grownBy w' (rowOf A)) : Fr (stHas p A ps) w (w'.setCell ⟨p, 0, none⟩ v) := by
  have hb2 : Below w.heap.size w ((w.alloc (.cells o.cells.toArray 34)).alloc (.cells cs t)) := ((Below.refl _ _).alloc (Nat.le_refl _) _).alloc (by simp) _
  exact ((Fr.of_below hb2).grown hg (fun k hk _ => .inr (.inl hk))).setCell (p := ⟨p, 0, none⟩) (fun _ => .inl rfl) v
set_option maxHeartbeats 1000000 in
theorem add_fr (h : StAt w base p A cap ps os) (hn : os.length ≤ 1000) (o : Oj) :
    Calls Tryd.prog 35 #[pv p, o.val] w fun e w' => e = .returned (.tuple #[]) ∧ ∃ A' cap', StAt w' base p A' cap' (ps ++ [w.heap.size]) (os ++ [o]) ∧ Below base w w' ∧ Fr (stHas p A ps) w w' := by
  have HS := Lib.hid h
  have HN := Lib.hid hn
  have hp := h.lt p (.inl rfl)
  have c0 := (h.alloc (.cells o.cells.toArray 34)).c0
  have HOW := Lib.hid ((h.alloc (.cells o.cells.toArray 34)).alloc (.cells #[pv w.heap.size] 78)).own
  have HP := Lib.hid hp
  have HC := Lib.hid (((h.alloc (.cells o.cells.toArray 34)).alloc (.cells #[pv w.heap.size] 78)).blk)
  have HPN := Lib.hid h.pn
  obtain ⟨i0, hi, hz0, hz1, hz2⟩ := info_parts info78
  have HI := Lib.hid (show _ ∧ _ ∧ _ ∧ _ from ⟨hi, hz0, hz1, hz2⟩)
  clear h hn hp hi hz0 hz1 hz2
  go_enter Tryd.func35, Tryd.ntmps35
  go_wp2_with (refine wpList_append_lies _ rfl (.tmp 8) (.tmp 9) 67 rfl base 78 i0 (.pointer none) 1 8 Tryd.underlying67 HI.out.1 HI.out.2.1 HI.out.2.2.1 HI.out.2.2.2 rfl (by decide) (.slice A os.length cap) os.length (ps.map pv) (by rfl) HOW.out ⟨w.heap.size + 1, 0, none⟩ 1 1 [pv w.heap.size] (by first | rfl | simp) rfl ?_ (by simp [Value.oneCell']) (by decide) (by have := HN.out; simp only [maxLen]; omega) (by have := HN.out; omega) (by have := HP.out; simp; omega) _ rfl ?_)
  · intro j u hu
    rw [Addr.add_mid, Nat.zero_add]
    have := (Blk.new (w.alloc (.cells o.cells.toArray 34)) 78 #[pv w.heap.size]).cell j
    rw [World.size_alloc] at this
    rw [this]
    simpa using hu
  · intro g cap' w' hown hg hr _
    rw [ownBlock_row] at hg hr
    have hpush := HS.out.push o 78 #[pv w.heap.size] hown hg hr
    have hb : Blk w' p 69 #[.slice A os.length cap] := (hg.block p (by have := HP.out; simp; omega) (fun e => HPN.out e.symm)).trans HC.out
    have c1 := (hb.cell 0).trans rfl
    have f1 := hb.frozen 0
    have HPU := Lib.hid hpush
    have HFR := Lib.hid (HS.out.push_fr o 78 #[pv w.heap.size] (.slice (some ⟨g, 0, none⟩) (os.length + 1) cap') hg)
    clear hpush hb hown hg hr c0
    go_wp2
    go_end0
    exact ⟨rfl, _, _, HPU.out.1, HPU.out.2, HFR.out⟩
end
theorem elts_all {os : List Oj} {xs : List (Ie os)} (h : EltsI os.length xs) : xs.map Ie.o = os := by
  apply List.ext_getElem?
  intro i
  rw [List.getElem?_map]
  cases hx : xs[i]? with
  | none =>
    rw [List.getElem?_eq_none_iff] at hx
    rw [List.getElem?_eq_none (by have := h.1; omega)]
    rfl
  | some y =>
    have hi := h.2 i y hx
    subst hi
    rw [List.getElem?_eq_getElem y.lt]
    rfl
section
variable {w : World} {base p : Nat} {A : Option Addr} {cap : Nat} {ps : List Nat} {os : List Oj}
set_option maxRecDepth 100000 in
set_option maxHeartbeats 4000000 in
theorem copy_at (h : StAt w base p A cap ps os) (hN : 0 < os.length) (hN' : os.length ≤ 1000) :
    Calls Tryd.prog 28 #[pv p] w fun e w' => e = .returned (pv w.heap.size) ∧ (∃ A' cap' ps', StAt w' w.heap.size w.heap.size A' cap' ps' os) ∧ Below w.heap.size w w' := by
  have hz := z34
  have hbl := oz_len
  have hFw : ∀ f, Fence.wide.fn f := fun _ => trivial
  have HS := Lib.hid h
  have HN := Lib.hid hN
  have HN' := Lib.hid hN'
  have HL := Lib.hid (fun (k : Nat) (hk : stHas p A ps k) => (h.lt k hk).2)
  have HB := Lib.hid ((((Below.refl w.heap.size w).alloc (Nat.le_refl _) (.cells #[.slice none 0 0] 69)).alloc (by simp) (.cells #[pv w.heap.size] 37)).alloc (by simp; omega) (.cells #[pv p] 37))
  have HS3 := Lib.hid (((h.alloc (.cells #[.slice none 0 0] 69)).alloc (.cells #[pv w.heap.size] 37)).alloc (.cells #[pv p] 37))
  have HQ := Lib.hid (((StAt.nil w w.heap.size (Nat.le_refl _)).alloc (.cells #[pv w.heap.size] 37)).alloc (.cells #[pv p] 37))
  have HV := Lib.hid (show Blk (((w.alloc (.cells #[.slice none 0 0] 69)).alloc (.cells #[pv w.heap.size] 37)).alloc (.cells #[pv p] 37)) (w.heap.size + 1) 37 #[pv w.heap.size] from by have := (Blk.new (w.alloc (.cells #[.slice none 0 0] 69)) 37 #[pv w.heap.size]).alloc (.cells #[pv p] 37); simpa using this)
  have HP := Lib.hid (show Blk (((w.alloc (.cells #[.slice none 0 0] 69)).alloc (.cells #[pv w.heap.size] 37)).alloc (.cells #[pv p] 37)) (w.heap.size + 1 + 1) 37 #[pv p] from by have := Blk.new ((w.alloc (.cells #[.slice none 0 0] 69)).alloc (.cells #[pv w.heap.size] 37)) 37 #[pv p]; simpa using this)
  have SZ := Lib.hid (show (((w.alloc (.cells #[.slice none 0 0] 69)).alloc (.cells #[pv w.heap.size] 37)).alloc (.cells #[pv p] 37)).heap.size = w.heap.size + 3 by simp)
  clear h hN
  refine (callsIn_wide (n := 4)).1 (callsIn_of_wp_marks Tryd.func28 rfl trivial ?_ rfl)
  simp only [Tryd.ntmps28, List.size_toArray, List.length_cons, List.length_nil, Nat.reduceAdd, Nat.reduceSub, Array.replicate_succ, Array.replicate_zero, List.push_toArray, List.append_toArray, List.nil_append, List.cons_append]
  gi_wp2_with (first
    | (gi_at_call 39; refine ((callsIn_wide (n := 3)).2 (there_yes HS.out HN.out)).mono ?_; rintro e w1 ⟨rfl, rfl⟩)
    | (gi_at_call 29; refine ((callsIn_wide (n := 3)).2 (all_any _ (.inr ⟨p, rfl⟩) _)).mono ?_; rintro e w1 ⟨rfl, rfl⟩))
  generalize (((w.alloc (.cells #[.slice none 0 0] 69)).alloc (.cells #[pv w.heap.size] 37)).alloc (.cells #[pv p] 37)) = W3 at HB HS3 HQ HV HP SZ ⊢
  refine wpIn_rangeFunc_ownH (α := Ie os) (Kp := KS p A ps) (w0 := W3) rfl (by omega) (gf := 43) (a := { tmps := #[pv p, undef, .pointer none, .pointer (some ⟨w.heap.size + 1, 0, none⟩), undef, undef, pv p, .bool true, .bool false, .agg #[.slice none 0 0], pv w.heap.size, pv p, .func (.func 43) #[] #[.pointer (some ⟨w.heap.size + 1 + 1, 0, none⟩)], undef, undef, undef, undef, undef, undef], defers := [] }) rfl trivial (enters_of Tryd.func43 (by kernel_rfl) rfl)
    (all1_in 3 (by omega) (w.heap.size + 1 + 1) HS3.out HN.out HN'.out ((HP.out.cell 0).trans rfl)) (fun h k => h.trans k) (fun W l o o' => KS.put HS3.out l o o') (Below.refl _ _) (fun _ => rfl)
    (fun pre W => Blk W (w.heap.size + 1) 37 #[pv w.heap.size] ∧ Below w.heap.size w W ∧ W3.heap.size ≤ W.heap.size ∧ StAt W base p A cap ps os ∧ (∃ A' cap' ps', StAt W w.heap.size w.heap.size A' cap' ps' (pre.map Ie.o)) ∧ pre.length ≤ 1000)
    (fun _ _ _ => False)
    ((own_blk _ _ _ (fun _ => _)).and ((ownFrom_below (Nat.le_refl _) HB.out.size).and ((own_size _ _).and ((own_st HL.out HB.out.size).and ((own_stc _ (fun pre : List (Ie os) => pre.map Ie.o)).and (fun _ _ _ _ hs _ _ => hs))))))
    (fun _ _ _ _ _ hs _ _ => hs.elim) ⟨HV.out, HB.out, Nat.le_refl _, HS3.out, ⟨_, _, _, HQ.out⟩, by simp⟩
    (fun x a' W => ∃ b, W3.heap.size ≤ b ∧ a' = { tmps := #[pv p, undef, .pointer none, .pointer (some ⟨w.heap.size + 1, 0, none⟩), undef, .pointer (some ⟨b, 0, none⟩), pv p, .bool true, .bool false, .agg #[.slice none 0 0], pv w.heap.size, pv p, .func (.func 43) #[] #[.pointer (some ⟨w.heap.size + 1 + 1, 0, none⟩)], .int .i64 (x.i : Int), x.o.val, undef, undef, undef, undef], defers := [] } ∧ Blk W b 34 x.o.cells.toArray)
    (fun x a' s X Y row hs hg hr => by
      obtain ⟨b, h1, h2, h3⟩ := hs
      exact ⟨b, h1, h2, own_blk W3.heap.size b _ (fun _ => _) s X Y row h3 hg hr⟩)
    ?assign ?body ?done ?stop
  case assign =>
    rintro l pre x W K ⟨i1, i2, i3, i4, ⟨A', cap', ps', i5⟩, i6⟩ hK
    have hk := hK { tmps := #[pv p, undef, .pointer none, .pointer (some ⟨w.heap.size + 1, 0, none⟩), undef, .pointer (some ⟨W.heap.size, 0, none⟩), pv p, .bool true, .bool false, .agg #[.slice none 0 0], pv w.heap.size, pv p, .func (.func 43) #[] #[.pointer (some ⟨w.heap.size + 1 + 1, 0, none⟩)], .int .i64 (x.i : Int), x.o.val, undef, undef, undef, undef], defers := [] } (W.alloc (.cells x.o.cells.toArray 34)) ((KeepsOthers.alloc W _).from _) (fun k hk => Below.heap_alloc W _ _ (i4.lt k hk).2) ⟨i1.alloc _, i2.alloc i2.size _, by rw [World.size_alloc]; omega, i4.alloc _, ⟨A', cap', ps', i5.alloc _⟩, i6⟩ ⟨W.heap.size, i3, rfl, Blk.new W _ _⟩
    have HKK := Lib.hid hk
    clear hK hk i1 i2 i3 i4 i5 i6
    gi_wp2_with (refine wpListIn_store_last rfl (.tmp 5) (.tmp 14) rfl _ rfl rfl x.o oz rfl ?_)
    exact HKK.out
  case body =>
    rintro l pre x a' W hl _ ⟨i1, i2, i3, i4, ⟨A', cap', ps', i5⟩, i6⟩ ⟨b, hb, rfl, hbw⟩ hlen
    have c1 : W.cell? ⟨w.heap.size + 1, 0, none⟩ = some (pv w.heap.size) := (i1.cell 0).trans rfl
    have I1 := Lib.hid i1
    have I2 := Lib.hid i2
    have I3 := Lib.hid i3
    have I4 := Lib.hid i4
    have I5 := Lib.hid i5
    have I6 := Lib.hid (show (pre.map Ie.o).length ≤ 1000 by rw [List.length_map]; exact i6)
    have IW := Lib.hid hbw.ob
    have HLEN := Lib.hid hlen
    clear i1 i2 i3 i4 i5 i6 hbw hlen
    gi_wp2_with (first
      | (refine wpListIn_ob rfl (.tmp 5) rfl b 0 rfl x.o IW.out ?_)
      | (gi_at_call 35; refine (CallsIn.inRound l ((callsIn_wide (n := 1)).2 (add_fr I5.out I6.out x.o))).mono ?_; rintro e w2 ⟨rfl, A2, cap2, hs2, b2, f2⟩; have JS := Lib.hid hs2; have JB := Lib.hid b2; have JF := Lib.hid f2; clear hs2 b2 f2))
    have hne : ∀ k, stHas p A ps k → ¬ stHas w.heap.size A' ps' k := fun k hk h' => by
      have h1 := (I5.out.lt k h').1
      have h2 := HL.out k hk
      omega
    have hkp : KS p A ps W w2 := fun k hk => JF.out.block k (I4.out.lt k hk).2 (hne k hk)
    refine ⟨⟨JF.out.size, fun k o _ ho hc => (JF.out.block k (Array.getElem?_eq_some_iff.1 ho).1 (fun h' => ?_)).trans ho⟩, hkp, ?_, I2.out.trans JB.out, Nat.le_trans I3.out JF.out.size, I4.out.keep hkp, ⟨A2, cap2, ps' ++ [W.heap.size], by rw [List.map_append]; exact JS.out⟩, by rw [List.length_append]; have := HLEN.out; have := HN'.out; simp; omega⟩
    · obtain ⟨o', ho', hc'⟩ := I5.out.isCells h'
      rw [ho] at ho'
      injection ho' with ho'
      subst ho'
      rw [hc] at hc'
      cases hc'
    · exact (JF.out.block _ I1.out.lt (I5.out.blk_ne I1.out (by decide) (by omega))).trans I1.out
  case stop =>
    rintro D c pre W _ _ hf _
    exact hf.elim
  case done =>
    rintro D xs W hD hS ⟨i1, i2, i3, i4, i5, i6⟩ hK
    rw [elts_all hS] at i5
    have c1 : W.cell? ⟨w.heap.size + 1, 0, none⟩ = some (pv w.heap.size) := (i1.cell 0).trans rfl
    have I2 := Lib.hid i2
    have I5 := Lib.hid i5
    have HK := Lib.hid hK
    have HD := Lib.hid (show w.heap.size + 3 ≤ D by have := SZ.out; omega)
    clear i1 i2 i3 i4 i5 i6 hK hS hD
    gi_wp2
    refine ⟨by simp, .inl ⟨_, _, rfl, run_takeDeferred HK.out, ?_⟩⟩
    obtain ⟨A', cap', ps', hs⟩ := I5.out
    refine ⟨_, results_tmp rfl _ _ _, rfl, ⟨A', cap', ps', hs.keep fun k hk => World.putObj_heap_other (fun e => ?_)⟩, I2.out.trans (belowK_b (w := w) (Nat.le_refl _) W D _ _ (by have := HD.out; omega) HK.out rfl rfl)⟩
    obtain ⟨o, ho, hc⟩ := hs.isCells hk
    rw [e, HK.out] at ho
    injection ho with ho
    subst ho
    cases hc
end
end Go.Proofs.YtlhlgfehbfankaaDoor

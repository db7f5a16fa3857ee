/- objects: Copy. -/
import Derived.Test.YtljfddeolapeaaaDoorR17
import Derived.Test.YtljfddeolapeaaaDoorR08
namespace Go.Proofs.YtljfddeolapeaaaDoor
open List renaming getElem_toArray → zq1, getElem_cons_succ → zq2, getElem_cons_zero → zq3, setIfInBounds_toArray → zq4, set_cons_zero → zq5, set_cons_succ → zq6
open Go.RowKit Go.Shelf
attribute [local go_sem] Oper.semAt_some
section
variable {w : World} {base p : Nat} {A : Option Addr} {cap : Nat} {ps : List Nat} {os : List Oj}
set_option maxRecDepth 8000 in
/-- a store's blocks are cells -/
theorem StAt.isCells (h : StAt w base p A cap ps os) {k : Nat} (hk : stHas p A ps k) : ∃ o : Obj, w.heap[k]? = some o ∧ o.isCells = true := by
  rcases hk with rfl | hk | hk
  · exact ⟨_, h.blk, rfl⟩
  · rcases h.own.2 with ⟨h0, _⟩ | ⟨g, c, cur, h1, h2, h3, _⟩
    · injection h0 with h0
      rw [h0] at hk
      cases hk
    · injection h1 with h1
      rw [h1] at hk
      injection hk with hk
      simp only at hk
      subst hk
      exact ⟨_, h3, rfl⟩
  · obtain ⟨i, hi, rfl⟩ := List.mem_iff_getElem.1 hk
    exact ⟨_, h.obj i (by rw [← h.len]; exact hi) hi, rfl⟩
set_option maxRecDepth 8000 in
theorem StAt.blk_ne (h : StAt w base p A cap ps os) {k : Nat} {t : TypeId} {cs : Array Value} (hb : Blk w k t cs) (ht : t ≠ 123 ∧ t ≠ 56) (hne : k ≠ p) : ¬ stHas p A ps k := by
  rintro (e | e | e)
  · exact hne e
  · rcases h.own.2 with ⟨h0, _⟩ | ⟨g, c, cur, h1, h2, h3, _⟩
    · injection h0 with h0
      rw [h0] at e
      cases e
    · injection h1 with h1
      rw [h1] at e
      injection e with e
      simp only at e
      subst e
      unfold Blk at hb
      rw [h3] at hb
      injection hb with hb
      injection hb with _ hb
      exact ht.1 hb.symm
  · obtain ⟨i, hi, rfl⟩ := List.mem_iff_getElem.1 e
    have h3 := h.obj i (by rw [← h.len]; exact hi) hi
    unfold Blk at hb h3
    rw [h3] at hb
    injection hb with hb
    injection hb with _ hb
    exact ht.2 hb.symm
theorem own_stc {β : Type} (B : Nat) (f : β → List Oj) : OwnFrom B (fun (s : β) W => ∃ A' cap' ps', StAt W base p A' cap' ps' (f s)) := fun s X Y row hs hg hr => by
  obtain ⟨A', cap', ps', hs⟩ := hs
  refine ⟨A', cap', ps', hs.keep fun k hk => ?_⟩
  obtain ⟨o, ho, hc⟩ := hs.isCells hk
  refine hg.block k (Array.getElem?_eq_some_iff.1 ho).1 (fun e => ?_)
  obtain ⟨_, o', ho', hc'⟩ := hr k e.symm
  rw [ho] at ho'
  injection ho' with ho'
  subst ho'
  rw [hc] at hc'
  cases hc'
set_option maxRecDepth 8000 in
/-- add, with its frame -/
theorem StAt.push_fr (_ : StAt w base p A cap ps os) (o : Oj) (t : TypeId) (cs : Array Value) {w' : World} (v : Value)
    (hg : ((w.alloc (.cells o.cells.toArray 56)).alloc (.cells cs t)).grownBy w' (rowOf A)) : Fr (stHas p A ps) w (w'.setCell ⟨p, 0, none⟩ v) := by
  have hb2 : Below w.heap.size w ((w.alloc (.cells o.cells.toArray 56)).alloc (.cells cs t)) := ((Below.refl _ _).alloc (Nat.le_refl _) _).alloc (by simp) _
  exact ((Fr.of_below hb2).grown hg (fun k hk _ => .inr (.inl hk))).setCell (p := ⟨p, 0, none⟩) (fun _ => .inl rfl) v
set_option maxRecDepth 8000 in
set_option maxHeartbeats 1000000 in
theorem add_fr (h : StAt w base p A cap ps os) (hn : os.length ≤ 1000) (o : Oj) :
    Calls Tryd.prog 33 #[pv p, o.val] w fun e w' => e = .returned (.tuple #[]) ∧ ∃ A' cap', StAt w' base p A' cap' (ps ++ [w.heap.size]) (os ++ [o]) ∧ Below base w w' ∧ Fr (stHas p A ps) w w' := by
  have HS := Lib.hid h
  have HN := Lib.hid hn
  have hp := h.lt p (.inl rfl)
  have c0 := (h.alloc (.cells o.cells.toArray 56)).c0
  have HOW := Lib.hid ((h.alloc (.cells o.cells.toArray 56)).alloc (.cells #[pv w.heap.size] 123)).own
  have HP := Lib.hid hp
  have HC := Lib.hid (((h.alloc (.cells o.cells.toArray 56)).alloc (.cells #[pv w.heap.size] 123)).blk)
  have HPN := Lib.hid h.pn
  obtain ⟨i0, hi, hz0, hz1, hz2⟩ := info_parts info78
  have HI := Lib.hid (show _ ∧ _ ∧ _ ∧ _ from ⟨hi, hz0, hz1, hz2⟩)
  clear h hn hp hi hz0 hz1 hz2
  go_enter Tryd.func33, Tryd.ntmps33
  go_wp2_with (refine wpList_append_lies _ rfl (.tmp 8) (.tmp 9) 81 rfl base 123 i0 (.pointer none) 1 8 Tryd.underlying81 HI.out.1 HI.out.2.1 HI.out.2.2.1 HI.out.2.2.2 rfl (by decide) (.slice A os.length cap) os.length (ps.map pv) (by rfl) HOW.out ⟨w.heap.size + 1, 0, none⟩ 1 1 [pv w.heap.size] (by first | rfl | simp) rfl ?_ (by simp [Value.oneCell']) (by decide) (by have := HN.out; simp only [maxLen]; omega) (by have := HN.out; omega) (by have := HP.out; simp; omega) _ rfl ?_)
  · intro j u hu
    rw [Addr.add_mid, Nat.zero_add]
    have := (Blk.new (w.alloc (.cells o.cells.toArray 56)) 123 #[pv w.heap.size]).cell j
    rw [World.size_alloc] at this
    rw [this]
    simpa using hu
  · intro g cap' w' hown hg hr _
    rw [ownBlock_row] at hg hr
    have hpush := HS.out.push o 123 #[pv w.heap.size] hown hg hr
    have hb : Blk w' p 83 #[.slice A os.length cap] := (hg.block p (by have := HP.out; simp; omega) (fun e => HPN.out e.symm)).trans HC.out
    have c1 := (hb.cell 0).trans rfl
    have f1 := hb.frozen 0
    have HPU := Lib.hid hpush
    have HFR := Lib.hid (HS.out.push_fr o 123 #[pv w.heap.size] (.slice (some ⟨g, 0, none⟩) (os.length + 1) cap') hg)
    clear hpush hb hown hg hr c0
    go_wp2
    go_end0
    exact ⟨rfl, _, _, HPU.out.1, HPU.out.2, HFR.out⟩
end
set_option maxRecDepth 8000 in
theorem elts_all {os : List Oj} {xs : List (Ie os)} (h : EltsI os.length xs) : xs.map Ie.o = os := by
  apply List.ext_getElem?
  intro i
  rw [List.getElem?_map]
  cases hx : xs[i]? with
  | none =>
    rw [List.getElem?_eq_none_iff] at hx
    rw [List.getElem?_eq_none (by have := h.1; omega)]
    rfl
  | some y =>
    have hi := h.2 i y hx
    subst hi
    rw [List.getElem?_eq_getElem y.lt]
    rfl
section
variable {w : World} {base p : Nat} {A : Option Addr} {cap : Nat} {ps : List Nat} {os : List Oj}
set_option maxRecDepth 100000 in
set_option maxHeartbeats 4000000 in
theorem copy_at (h : StAt w base p A cap ps os) (hN : 0 < os.length) (hN' : os.length ≤ 1000) :
    Calls Tryd.prog 13 #[pv p] w fun e w' => e = .returned (pv w.heap.size) ∧ (∃ A' cap' ps', StAt w' w.heap.size w.heap.size A' cap' ps' os) ∧ Below w.heap.size w w' := by
  have hz := z34
  have hbl := oz_len
  have hFw : ∀ f, Fence.wide.fn f := fun _ => trivial
  have HS := Lib.hid h
  have HN := Lib.hid hN
  have HN' := Lib.hid hN'
  have HL := Lib.hid (fun (k : Nat) (hk : stHas p A ps k) => (h.lt k hk).2)
  have HB := Lib.hid ((((Below.refl w.heap.size w).alloc (Nat.le_refl _) (.cells #[.slice none 0 0] 83)).alloc (by simp) (.cells #[pv w.heap.size] 24)).alloc (by simp; omega) (.cells #[pv p] 24))
  have HS3 := Lib.hid (((h.alloc (.cells #[.slice none 0 0] 83)).alloc (.cells #[pv w.heap.size] 24)).alloc (.cells #[pv p] 24))
  have HQ := Lib.hid (((StAt.nil w w.heap.size (Nat.le_refl _)).alloc (.cells #[pv w.heap.size] 24)).alloc (.cells #[pv p] 24))
  have HV := Lib.hid (show Blk (((w.alloc (.cells #[.slice none 0 0] 83)).alloc (.cells #[pv w.heap.size] 24)).alloc (.cells #[pv p] 24)) (w.heap.size + 1) 24 #[pv w.heap.size] from by have := (Blk.new (w.alloc (.cells #[.slice none 0 0] 83)) 24 #[pv w.heap.size]).alloc (.cells #[pv p] 24); simpa using this)
  have HP := Lib.hid (show Blk (((w.alloc (.cells #[.slice none 0 0] 83)).alloc (.cells #[pv w.heap.size] 24)).alloc (.cells #[pv p] 24)) (w.heap.size + 1 + 1) 24 #[pv p] from by have := Blk.new ((w.alloc (.cells #[.slice none 0 0] 83)).alloc (.cells #[pv w.heap.size] 24)) 24 #[pv p]; simpa using this)
  have SZ := Lib.hid (show (((w.alloc (.cells #[.slice none 0 0] 83)).alloc (.cells #[pv w.heap.size] 24)).alloc (.cells #[pv p] 24)).heap.size = w.heap.size + 3 by simp)
  clear h hN
  refine (callsIn_wide (n := 4)).1 (callsIn_of_wp_marks Tryd.func13 rfl trivial ?_ rfl)
  simp only [Tryd.ntmps13, List.size_toArray, List.length_cons, List.length_nil, Nat.reduceAdd, Nat.reduceSub, Array.replicate_succ, Array.replicate_zero, List.push_toArray, List.append_toArray, List.nil_append, List.cons_append]
  gi_wp2_with (first
    | (gi_at_call 32; refine ((callsIn_wide (n := 3)).2 (there_yes HS.out HN.out)).mono ?_; rintro e w1 ⟨rfl, rfl⟩)
    | (gi_at_call 28; refine ((callsIn_wide (n := 3)).2 (all_any _ (.inr ⟨p, rfl⟩) _)).mono ?_; rintro e w1 ⟨rfl, rfl⟩))
  generalize (((w.alloc (.cells #[.slice none 0 0] 83)).alloc (.cells #[pv w.heap.size] 24)).alloc (.cells #[pv p] 24)) = W3 at HB HS3 HQ HV HP SZ ⊢
  refine wpIn_rangeFunc_ownH (α := Ie os) (Kp := KS p A ps) (w0 := W3) rfl (by omega) (gf := 68) (a := { tmps := #[pv p, undef, .pointer none, .pointer (some ⟨w.heap.size + 1, 0, none⟩), undef, undef, pv p, .bool true, .bool false, .agg #[.slice none 0 0], pv w.heap.size, pv p, .func (.func 68) #[] #[.pointer (some ⟨w.heap.size + 1 + 1, 0, none⟩)], undef, undef, undef, undef, undef, undef], defers := [] }) rfl trivial (enters_of Tryd.func68 (by kernel_rfl) rfl)
    (all1_in 3 (by omega) (w.heap.size + 1 + 1) HS3.out HN.out HN'.out ((HP.out.cell 0).trans rfl)) (fun h k => h.trans k) (fun W l o o' => KS.put HS3.out l o o') (Below.refl _ _) (fun _ => rfl)
    (fun pre W => Blk W (w.heap.size + 1) 24 #[pv w.heap.size] ∧ Below w.heap.size w W ∧ W3.heap.size ≤ W.heap.size ∧ StAt W base p A cap ps os ∧ (∃ A' cap' ps', StAt W w.heap.size w.heap.size A' cap' ps' (pre.map Ie.o)) ∧ pre.length ≤ 1000)
    (fun _ _ _ => False)
    ((own_blk _ _ _ (fun _ => _)).and ((ownFrom_below (Nat.le_refl _) HB.out.size).and ((own_size _ _).and ((own_st HL.out HB.out.size).and ((own_stc _ (fun pre : List (Ie os) => pre.map Ie.o)).and (fun _ _ _ _ hs _ _ => hs))))))
    (fun _ _ _ _ _ hs _ _ => hs.elim) ⟨HV.out, HB.out, Nat.le_refl _, HS3.out, ⟨_, _, _, HQ.out⟩, by simp⟩
    (fun x a' W => ∃ b, W3.heap.size ≤ b ∧ a' = { tmps := #[pv p, undef, .pointer none, .pointer (some ⟨w.heap.size + 1, 0, none⟩), undef, .pointer (some ⟨b, 0, none⟩), pv p, .bool true, .bool false, .agg #[.slice none 0 0], pv w.heap.size, pv p, .func (.func 68) #[] #[.pointer (some ⟨w.heap.size + 1 + 1, 0, none⟩)], .int .i64 (x.i : Int), x.o.val, undef, undef, undef, undef], defers := [] } ∧ Blk W b 56 x.o.cells.toArray)
    (fun x a' s X Y row hs hg hr => by
      obtain ⟨b, h1, h2, h3⟩ := hs
      exact ⟨b, h1, h2, own_blk W3.heap.size b _ (fun _ => _) s X Y row h3 hg hr⟩)
    ?assign ?body ?done ?stop
  case assign =>
    rintro l pre x W K ⟨i1, i2, i3, i4, ⟨A', cap', ps', i5⟩, i6⟩ hK
    have hk := hK { tmps := #[pv p, undef, .pointer none, .pointer (some ⟨w.heap.size + 1, 0, none⟩), undef, .pointer (some ⟨W.heap.size, 0, none⟩), pv p, .bool true, .bool false, .agg #[.slice none 0 0], pv w.heap.size, pv p, .func (.func 68) #[] #[.pointer (some ⟨w.heap.size + 1 + 1, 0, none⟩)], .int .i64 (x.i : Int), x.o.val, undef, undef, undef, undef], defers := [] } (W.alloc (.cells x.o.cells.toArray 56)) ((KeepsOthers.alloc W _).from _) (fun k hk => Below.heap_alloc W _ _ (i4.lt k hk).2) ⟨i1.alloc _, i2.alloc i2.size _, by rw [World.size_alloc]; omega, i4.alloc _, ⟨A', cap', ps', i5.alloc _⟩, i6⟩ ⟨W.heap.size, i3, rfl, Blk.new W _ _⟩
    have HKK := Lib.hid hk
    clear hK hk i1 i2 i3 i4 i5 i6
    gi_wp2_with (refine wpListIn_store_last rfl (.tmp 5) (.tmp 14) rfl _ rfl rfl x.o oz rfl ?_)
    exact HKK.out
  case body =>
    rintro l pre x a' W hl _ ⟨i1, i2, i3, i4, ⟨A', cap', ps', i5⟩, i6⟩ ⟨b, hb, rfl, hbw⟩ hlen
    have c1 : W.cell? ⟨w.heap.size + 1, 0, none⟩ = some (pv w.heap.size) := (i1.cell 0).trans rfl
    have I1 := Lib.hid i1
    have I2 := Lib.hid i2
    have I3 := Lib.hid i3
    have I4 := Lib.hid i4
    have I5 := Lib.hid i5
    have I6 := Lib.hid (show (pre.map Ie.o).length ≤ 1000 by rw [List.length_map]; exact i6)
    have IW := Lib.hid hbw.ob
    have HLEN := Lib.hid hlen
    clear i1 i2 i3 i4 i5 i6 hbw hlen
    gi_wp2_with (first
      | (refine wpListIn_ob rfl (.tmp 5) rfl b 0 rfl x.o IW.out ?_)
      | (gi_at_call 33; refine (CallsIn.inRound l ((callsIn_wide (n := 1)).2 (add_fr I5.out I6.out x.o))).mono ?_; rintro e w2 ⟨rfl, A2, cap2, hs2, b2, f2⟩; have JS := Lib.hid hs2; have JB := Lib.hid b2; have JF := Lib.hid f2; clear hs2 b2 f2))
    have hne : ∀ k, stHas p A ps k → ¬ stHas w.heap.size A' ps' k := fun k hk h' => by
      have h1 := (I5.out.lt k h').1
      have h2 := HL.out k hk
      omega
    have hkp : KS p A ps W w2 := fun k hk => JF.out.block k (I4.out.lt k hk).2 (hne k hk)
    refine ⟨⟨JF.out.size, fun k o _ ho hc => (JF.out.block k (Array.getElem?_eq_some_iff.1 ho).1 (fun h' => ?_)).trans ho⟩, hkp, ?_, I2.out.trans JB.out, Nat.le_trans I3.out JF.out.size, I4.out.keep hkp, ⟨A2, cap2, ps' ++ [W.heap.size], by rw [List.map_append]; exact JS.out⟩, by rw [List.length_append]; have := HLEN.out; have := HN'.out; simp; omega⟩
    · obtain ⟨o', ho', hc'⟩ := I5.out.isCells h'
      rw [ho] at ho'
      injection ho' with ho'
      subst ho'
      rw [hc] at hc'
      cases hc'
    · exact (JF.out.block _ I1.out.lt (I5.out.blk_ne I1.out (by decide) (by omega))).trans I1.out
  case stop =>
    rintro D c pre W _ _ hf _
    exact hf.elim
  case done =>
    rintro D xs W hD hS ⟨i1, i2, i3, i4, i5, i6⟩ hK
    rw [elts_all hS] at i5
    have c1 : W.cell? ⟨w.heap.size + 1, 0, none⟩ = some (pv w.heap.size) := (i1.cell 0).trans rfl
    have I2 := Lib.hid i2
    have I5 := Lib.hid i5
    have HK := Lib.hid hK
    have HD := Lib.hid (show w.heap.size + 3 ≤ D by have := SZ.out; omega)
    clear i1 i2 i3 i4 i5 i6 hK hS hD
    gi_wp2
    refine ⟨by simp, .inl ⟨_, _, rfl, run_takeDeferred HK.out, ?_⟩⟩
    obtain ⟨A', cap', ps', hs⟩ := I5.out
    refine ⟨_, results_tmp rfl _ _ _, rfl, ⟨A', cap', ps', hs.keep fun k hk => World.putObj_heap_other (fun e => ?_)⟩, I2.out.trans (belowK_b (w := w) (Nat.le_refl _) W D _ _ (by have := HD.out; omega) HK.out rfl rfl)⟩
    obtain ⟨o, ho, hc⟩ := hs.isCells hk
    rw [e, HK.out] at ho
    injection ho with ho
    subst ho
    cases hc
end
end Go.Proofs.YtljfddeolapeaaaDoor
namespace Go.Proofs.YtljfddeolapeaaaDoor
open List renaming getElem_toArray → zq1, getElem_cons_succ → zq2, getElem_cons_zero → zq3, setIfInBounds_toArray → zq4, set_cons_zero → zq5, set_cons_succ → zq6
open Go.RowKit Go.Shelf
attribute [local go_sem] Oper.semAt_some
abbrev SizeIs (w : World) (P : Value) (n : Int) : Prop := Calls Tryd.prog 42 #[P] w fun e w' => e = .returned (.int .i64 n) ∧ w = w'
def IsPtr (P : Value) : Prop := P = .pointer none ∨ ∃ q, P = pv q
section
variable {w : World} {P Q : Value}
set_option maxRecDepth 8000 in
theorem same_ne (hP' : IsPtr P) (hQ' : IsPtr Q) (hPQ : P ≠ Q) {m n : Int} (hP : SizeIs w P m) (hQ : SizeIs w Q n) (hne : m ≠ n) : Calls Tryd.prog 15 #[P, Q] w fun e w' => e = .returned (.bool false) ∧ w = w' := by
  have HP := Lib.hid hP
  have HQ := Lib.hid hQ
  have dd : (m == n) = false := by simpa using hne
  clear hP hQ hne
  rcases hP' with rfl | ⟨p, rfl⟩
  all_goals
    rcases hQ' with rfl | ⟨q, rfl⟩
    all_goals
      first
        | exact absurd rfl hPQ
        | (go_enter Tryd.func15, Tryd.ntmps15
           go_wp2_with (first
             | (go_at_call 42; (first | (with_reducible refine HP.out.mono ?_) | (with_reducible refine HQ.out.mono ?_)); rintro e w1 ⟨rfl, rfl⟩))
           go_ret
           exact ⟨rfl, rfl⟩)
end
end Go.Proofs.YtljfddeolapeaaaDoor
namespace Go.Proofs.YtljfddeolapeaaaDoor
open List renaming getElem_toArray → zq1, getElem_cons_succ → zq2, getElem_cons_zero → zq3, setIfInBounds_toArray → zq4, set_cons_zero → zq5, set_cons_succ → zq6
open Go.RowKit
attribute [local go_sem] Oper.semAt_some
set_option maxRecDepth 8000 in
theorem infoInt : (Tryd.prog.info? 3).map (fun i => (i.zero, i.size, i.bytes)) = some (some (.int .i64 0), 1, 8) := by kernel_rfl
/-- numbers' cells -/
def dv (l : List Nat) : List Value := l.map fun (i : Nat) => Value.int .i64 (i : Int)
/-- where two lists are not the same, of the first k places -/
def diffs (a b : List Oj) (k : Nat) : List Nat := (List.range k).filter fun i => a[i]? != b[i]?
set_option maxRecDepth 8000 in
theorem diffs_same {a b : List Oj} {k : Nat} (h : a[k]? = b[k]?) : diffs a b (k + 1) = diffs a b k := by simp [diffs, List.range_succ, h]
set_option maxRecDepth 8000 in
theorem diffs_other {a b : List Oj} {k : Nat} (h : a[k]? ≠ b[k]?) : diffs a b (k + 1) = diffs a b k ++ [k] := by simp [diffs, List.range_succ, h]
set_option maxRecDepth 8000 in
theorem diffs_le (a b : List Oj) (k : Nat) : (diffs a b k).length ≤ k := by
  have := List.length_filter_le (fun i => a[i]? != b[i]?) (List.range k)
  simpa [diffs] using this
set_option maxRecDepth 8000 in
theorem diffs_self (a : List Oj) (k : Nat) : diffs a a k = [] := by simp [diffs]
set_option maxRecDepth 8000 in
theorem diffs_nil {a b : List Oj} (hl : a.length = b.length) : diffs a b a.length = [] ↔ a = b := by
  constructor
  · intro h
    apply List.ext_getElem?
    intro i
    rcases Nat.lt_or_ge i a.length with hi | hi
    · have h1 : ∀ x ∈ List.range a.length, ¬ (a[x]? != b[x]?) = true := by
        intro x hx hh
        have : x ∈ diffs a b a.length := List.mem_filter.2 ⟨hx, hh⟩
        rw [h] at this
        cases this
      have := h1 i (List.mem_range.2 hi)
      simpa using this
    · rw [List.getElem?_eq_none hi, List.getElem?_eq_none (by omega)]
  · rintro rfl
    exact diffs_self _ _
set_option maxRecDepth 8000 in
/-- append of an int that was boxed last -/
theorem wpList_append_int {ops : Array Oper} {rest : List Oper} {o : Oper} {a : Act} {Q : Exit → Act → World → Prop} {W : World} (hgd : o.guard = none) (s x : Operand) (ho : o.op = .call { callee := .builtin .append, args := #[s, x], argTypes := #[49, 49] })
    {base n : Nat} {v : Value} {xs : List Value} (hs : a.eval s = v) (hown : W.ownsRow base 3 1 v n xs) (q : Int) (hx : a.eval x = .slice (some ⟨W.heap.size, 0, none⟩) 1 1) (hn : n ≤ 1000) (hbase : base ≤ W.heap.size)
    (h : ∀ g c w', w'.ownsRow base 3 1 (.slice (some ⟨g, 0, none⟩) (n + 1) c) (n + 1) (xs ++ [.int .i64 q]) → Below base W w' → wpList Tryd.prog ops Q rest (a.put o.dst (.slice (some ⟨g, 0, none⟩) (n + 1) c)) w') : wpList Tryd.prog ops Q (o :: rest) a (W.alloc (.cells #[.int .i64 q] 3)) := by
  obtain ⟨i0, hi, hz0, hz1, hz2⟩ := info_parts infoInt
  have hown2 : (W.alloc (.cells #[.int .i64 q] 3)).ownsRow base 3 1 v n xs := own_below hown ((Below.refl _ _).alloc (Nat.le_refl _) _)
  refine wpList_append_lies _ hgd s x 49 ho base 3 i0 (.int .i64 0) 1 8 Tryd.underlying49 hi hz0 hz1 hz2 rfl (by decide) v n xs hs hown2 ⟨W.heap.size, 0, none⟩ 1 1 [.int .i64 q] hx rfl ?_ (by simp [Value.oneCell']) (by decide) (by simp only [maxLen]; omega) (by omega) (by simp; omega) _ rfl ?_
  · intro j u hu
    rw [Addr.add_mid, Nat.zero_add]
    have := (Blk.new W 3 #[.int .i64 q]).cell j
    rw [this]
    simpa using hu
  · intro g c w' h1 h2 h3 _
    refine h g c w' h1 ?_
    have hb : Below base W (W.alloc (.cells #[.int .i64 q] 3)) := (Below.refl _ _).alloc hbase _
    exact hb.grown h2 (by simp; omega) fun k hk => (hown2.lt k hk).1
section
variable {w : World} {base p : Nat} {A : Option Addr} {cap : Nat} {ps : List Nat} {os : List Oj} {base2 p2 : Nat} {A2 : Option Addr} {cap2 : Nat} {ps2 : List Nat} {os2 : List Oj}
set_option maxRecDepth 8000 in
theorem y_obne_of {ops : Array Oper} {o : Oper} {a : Act} {S : World → Prop} {p q : Operand} (hw : Region.wanted o (yielded ops a.tmps) = true) (ho : o.op = .binOp .neq 56 p q 56) (x y : Oj) (b : Bool) (hb : (!decide (x = y)) = b) (hx : a.eval p = x.val) (hy : a.eval q = y.val) : YieldsIf Tryd.prog ops S o (.bool b) a := by
  have := y_obne (S := S) hw ho x y hx hy
  rwa [hb] at this
set_option maxRecDepth 100000 in
set_option maxHeartbeats 4000000 in
theorem unl_at (h : StAt w base p A cap ps os) (h2 : StAt w base2 p2 A2 cap2 ps2 os2) (hl : os2.length = os.length) (hN : os.length ≤ 1000) :
    Calls Tryd.prog 75 #[.slice A os.length cap, .slice A2 os.length cap2] w fun e w' => ∃ v, e = .returned v ∧ w'.ownsRow w.heap.size 3 1 v (diffs os os2 os.length).length (dv (diffs os os2 os.length)) ∧ Below w.heap.size w w' := by
  have HS := Lib.hid h
  have HS2 := Lib.hid h2
  have HL := Lib.hid hl
  clear h h2 hl
  go_enter Tryd.func75, Tryd.ntmps75
  go_wp2
  go_loopw [5, 6, 9] (fun v _ i wr => ∃ k : Nat, k ≤ os.length ∧ i = .int .i64 k ∧ Below w.heap.size w wr ∧ wr.ownsRow w.heap.size 3 1 v (diffs os os2 k).length (dv (diffs os os2 k))) (fun _ _ i _ => os.length + 1 - (intOf i).toNat)
  case atStart => exact ⟨0, by omega, rfl, Below.refl _ _, ⟨rfl, .inl ⟨rfl, rfl⟩⟩⟩
  case round =>
    obtain ⟨k, hk, rfl, hb, hown⟩ := hrel
    by_cases hlt : k < os.length
    · obtain ⟨g, b, x, hA, hc, hx, hox⟩ := (HS.out.below hb).at_ hlt
      obtain ⟨g2, b2, y, hA2, hc2, hy, hoy⟩ := (HS2.out.below hb).at_ (show k < os2.length by rw [HL.out]; exact hlt)
      subst hA hA2
      have HB := Lib.hid hb
      have HOW := Lib.hid hown
      have HC := Lib.hid hc
      have HC2 := Lib.hid hc2
      have HX := Lib.hid hox
      have HY := Lib.hid hoy
      have HD := Lib.hid (diffs_le os os2 k)
      have hil : (k : Int) < (os.length : Int) := by omega
      have e1 : os[k]? = some x := by rw [List.getElem?_eq_getElem hlt, hx]
      have e2 : os2[k]? = some y := by rw [List.getElem?_eq_getElem (by rw [HL.out]; exact hlt), hy]
      have HE := Lib.hid (show _ ∧ _ from ⟨e1, e2⟩)
      clear hb hown hc hc2 hox hoy hx hy e1 e2
      by_cases hxy : x = y
      · have HXY := Lib.hid (show (!decide (x = y)) = false by simpa using hxy)
        have HQ := Lib.hid hxy
        clear hxy
        go_wp2_with fail
        refine wp_region_only (S := fun w' => w'.cell? ⟨g, k, none⟩ = some (pv b) ∧ w'.cell? ⟨g2, k, none⟩ = some (pv b2) ∧ ObAt w' b 0 x ∧ ObAt w' b2 0 y) (by kernel_rfl) ⟨HC.out, HC2.out, HX.out.drew, HY.out.drew⟩ (fun hHeld => ?_)
        refine wpAnyH_take (i := 0) (v := ?v1) rfl (by kernel_rfl) (by kernel_rfl) (by kernel_rfl) (fun _ _ _ h => h) (Or.inl ⟨by rfl, ?hy1⟩) hHeld ?rest1
        case hy1 =>
          intro w' hSw
          try dsimp only at hSw
          go_simp
          first | done | with_reducible rfl
        try simp only [Act.put, zq1, zq3, zq4, zq5, zq6]
        refine wpAnyH_take (i := 1) (v := ?v2) rfl (by kernel_rfl) (by kernel_rfl) (by kernel_rfl) (fun _ _ _ h => h) (Or.inl ⟨by rfl, ?hy2⟩) hHeld ?rest2
        case hy2 =>
          intro w' hSw
          try dsimp only at hSw
          go_simp
          first | done | with_reducible rfl
        try simp only [Act.put, zq1, zq2, zq3, zq4, zq5, zq6]
        refine wpAnyH_take (i := 2) (v := ?v3) rfl (by kernel_rfl) (by kernel_rfl) (by kernel_rfl) (fun _ _ _ h => h) (Or.inl ⟨by rfl, ?hy3⟩) hHeld ?rest3
        case hy3 =>
          intro w' hSw
          try dsimp only at hSw
          go_simp
          first | done | with_reducible rfl
        try simp only [Act.put, zq1, zq2, zq3, zq4, zq5, zq6]
        refine wpAnyH_take (i := 3) (v := ?v4) rfl (by kernel_rfl) (by kernel_rfl) (by kernel_rfl) (fun _ _ _ h => h) (Or.inl ⟨by rfl, ?hy4⟩) hHeld ?rest4
        case hy4 =>
          intro w' hSw
          try dsimp only at hSw
          go_simp
          first | done | with_reducible rfl
        try simp only [Act.put, zq1, zq2, zq3, zq4, zq5, zq6]
        refine wpAnyH_take (i := 4) (v := ?v5) rfl (by kernel_rfl) (by kernel_rfl) (by kernel_rfl) (fun _ _ _ h => h) (Or.inl ⟨by rfl, ?hy5⟩) hHeld ?rest5
        case hy5 =>
          intro w' hSw
          try dsimp only at hSw
          go_simp
          first | done | with_reducible rfl
        try simp only [Act.put, zq1, zq2, zq3, zq4, zq5, zq6]
        refine wpAnyH_take (i := 5) rfl (by kernel_rfl) (by kernel_rfl) (by kernel_rfl) (fun _ _ _ h => h) (y_ob (by rfl) (.tmp 16) (by rfl) b 0 (by rfl) x (fun _ h => h.2.2.1)) hHeld ?_
        try simp only [Act.put, zq1, zq2, zq3, zq4, zq5, zq6]
        refine wpAnyH_take (i := 6) (v := ?v6) rfl (by kernel_rfl) (by kernel_rfl) (by kernel_rfl) (fun _ _ _ h => h) (Or.inl ⟨by rfl, ?hy6⟩) hHeld ?rest6
        case hy6 =>
          intro w' hSw
          try dsimp only at hSw
          go_simp
          first | done | with_reducible rfl
        try simp only [Act.put, zq1, zq2, zq3, zq4, zq5, zq6]
        refine wpAnyH_take (i := 7) (v := ?v7) rfl (by kernel_rfl) (by kernel_rfl) (by kernel_rfl) (fun _ _ _ h => h) (Or.inl ⟨by rfl, ?hy7⟩) hHeld ?rest7
        case hy7 =>
          intro w' hSw
          try dsimp only at hSw
          go_simp
          first | done | with_reducible rfl
        try simp only [Act.put, zq1, zq2, zq3, zq4, zq5, zq6]
        refine wpAnyH_take (i := 8) (v := ?v8) rfl (by kernel_rfl) (by kernel_rfl) (by kernel_rfl) (fun _ _ _ h => h) (Or.inl ⟨by rfl, ?hy8⟩) hHeld ?rest8
        case hy8 =>
          intro w' hSw
          try dsimp only at hSw
          go_simp
          first | done | with_reducible rfl
        try simp only [Act.put, zq1, zq2, zq3, zq4, zq5, zq6]
        refine wpAnyH_take (i := 9) (v := ?v9) rfl (by kernel_rfl) (by kernel_rfl) (by kernel_rfl) (fun _ _ _ h => h) (Or.inl ⟨by rfl, ?hy9⟩) hHeld ?rest9
        case hy9 =>
          intro w' hSw
          try dsimp only at hSw
          go_simp
          first | done | with_reducible rfl
        try simp only [Act.put, zq1, zq2, zq3, zq4, zq5, zq6]
        refine wpAnyH_take (i := 10) (v := ?v10) rfl (by kernel_rfl) (by kernel_rfl) (by kernel_rfl) (fun _ _ _ h => h) (Or.inl ⟨by rfl, ?hy10⟩) hHeld ?rest10
        case hy10 =>
          intro w' hSw
          try dsimp only at hSw
          go_simp
          first | done | with_reducible rfl
        try simp only [Act.put, zq1, zq2, zq3, zq4, zq5, zq6]
        refine wpAnyH_take (i := 11) rfl (by kernel_rfl) (by kernel_rfl) (by kernel_rfl) (fun _ _ _ h => h) (y_ob (by rfl) (.tmp 22) (by rfl) b2 0 (by rfl) y (fun _ h => h.2.2.2)) hHeld ?_
        try simp only [Act.put, zq1, zq2, zq3, zq4, zq5, zq6]
        refine wpAnyH_take (i := 12) rfl (by kernel_rfl) (by kernel_rfl) (by kernel_rfl) (fun _ _ _ h => h) (y_obne_of (by rfl) (by rfl) x y false HXY.out (by rfl) (by rfl)) hHeld ?_
        try simp only [Act.put, zq1, zq2, zq3, zq4, zq5, zq6]
        refine wpAnyH_done (by kernel_rfl) ?_ _
        refine OnlyN.normal ?_
        clear hHeld
        go_wp2
        go_roundw
        case rel => exact ⟨k + 1, by omega, by go_num, below_drew HB.out, by rw [diffs_same (by rw [HE.out.1, HE.out.2, HQ.out])]; exact own_below HOW.out (below_drew (Below.refl _ _))⟩
        case measure => simp [intOf]; omega
      · have HXY := Lib.hid (show (!decide (x = y)) = true by simpa using hxy)
        have HQ := Lib.hid hxy
        clear hxy
        go_wp2_with fail
        refine wp_region_only (S := fun w' => w'.cell? ⟨g, k, none⟩ = some (pv b) ∧ w'.cell? ⟨g2, k, none⟩ = some (pv b2) ∧ ObAt w' b 0 x ∧ ObAt w' b2 0 y) (by kernel_rfl) ⟨HC.out, HC2.out, HX.out.drew, HY.out.drew⟩ (fun hHeld => ?_)
        refine wpAnyH_take (i := 0) (v := ?v11) rfl (by kernel_rfl) (by kernel_rfl) (by kernel_rfl) (fun _ _ _ h => h) (Or.inl ⟨by rfl, ?hy11⟩) hHeld ?rest11
        case hy11 =>
          intro w' hSw
          try dsimp only at hSw
          go_simp
          first | done | with_reducible rfl
        try simp only [Act.put, zq1, zq3, zq4, zq5, zq6]
        refine wpAnyH_take (i := 1) (v := ?v12) rfl (by kernel_rfl) (by kernel_rfl) (by kernel_rfl) (fun _ _ _ h => h) (Or.inl ⟨by rfl, ?hy12⟩) hHeld ?rest12
        case hy12 =>
          intro w' hSw
          try dsimp only at hSw
          go_simp
          first | done | with_reducible rfl
        try simp only [Act.put, zq1, zq2, zq3, zq4, zq5, zq6]
        refine wpAnyH_take (i := 2) (v := ?v13) rfl (by kernel_rfl) (by kernel_rfl) (by kernel_rfl) (fun _ _ _ h => h) (Or.inl ⟨by rfl, ?hy13⟩) hHeld ?rest13
        case hy13 =>
          intro w' hSw
          try dsimp only at hSw
          go_simp
          first | done | with_reducible rfl
        try simp only [Act.put, zq1, zq2, zq3, zq4, zq5, zq6]
        refine wpAnyH_take (i := 3) (v := ?v14) rfl (by kernel_rfl) (by kernel_rfl) (by kernel_rfl) (fun _ _ _ h => h) (Or.inl ⟨by rfl, ?hy14⟩) hHeld ?rest14
        case hy14 =>
          intro w' hSw
          try dsimp only at hSw
          go_simp
          first | done | with_reducible rfl
        try simp only [Act.put, zq1, zq2, zq3, zq4, zq5, zq6]
        refine wpAnyH_take (i := 4) (v := ?v15) rfl (by kernel_rfl) (by kernel_rfl) (by kernel_rfl) (fun _ _ _ h => h) (Or.inl ⟨by rfl, ?hy15⟩) hHeld ?rest15
        case hy15 =>
          intro w' hSw
          try dsimp only at hSw
          go_simp
          first | done | with_reducible rfl
        try simp only [Act.put, zq1, zq2, zq3, zq4, zq5, zq6]
        refine wpAnyH_take (i := 5) rfl (by kernel_rfl) (by kernel_rfl) (by kernel_rfl) (fun _ _ _ h => h) (y_ob (by rfl) (.tmp 16) (by rfl) b 0 (by rfl) x (fun _ h => h.2.2.1)) hHeld ?_
        try simp only [Act.put, zq1, zq2, zq3, zq4, zq5, zq6]
        refine wpAnyH_take (i := 6) (v := ?v16) rfl (by kernel_rfl) (by kernel_rfl) (by kernel_rfl) (fun _ _ _ h => h) (Or.inl ⟨by rfl, ?hy16⟩) hHeld ?rest16
        case hy16 =>
          intro w' hSw
          try dsimp only at hSw
          go_simp
          first | done | with_reducible rfl
        try simp only [Act.put, zq1, zq2, zq3, zq4, zq5, zq6]
        refine wpAnyH_take (i := 7) (v := ?v17) rfl (by kernel_rfl) (by kernel_rfl) (by kernel_rfl) (fun _ _ _ h => h) (Or.inl ⟨by rfl, ?hy17⟩) hHeld ?rest17
        case hy17 =>
          intro w' hSw
          try dsimp only at hSw
          go_simp
          first | done | with_reducible rfl
        try simp only [Act.put, zq1, zq2, zq3, zq4, zq5, zq6]
        refine wpAnyH_take (i := 8) (v := ?v18) rfl (by kernel_rfl) (by kernel_rfl) (by kernel_rfl) (fun _ _ _ h => h) (Or.inl ⟨by rfl, ?hy18⟩) hHeld ?rest18
        case hy18 =>
          intro w' hSw
          try dsimp only at hSw
          go_simp
          first | done | with_reducible rfl
        try simp only [Act.put, zq1, zq2, zq3, zq4, zq5, zq6]
        refine wpAnyH_take (i := 9) (v := ?v19) rfl (by kernel_rfl) (by kernel_rfl) (by kernel_rfl) (fun _ _ _ h => h) (Or.inl ⟨by rfl, ?hy19⟩) hHeld ?rest19
        case hy19 =>
          intro w' hSw
          try dsimp only at hSw
          go_simp
          first | done | with_reducible rfl
        try simp only [Act.put, zq1, zq2, zq3, zq4, zq5, zq6]
        refine wpAnyH_take (i := 10) (v := ?v20) rfl (by kernel_rfl) (by kernel_rfl) (by kernel_rfl) (fun _ _ _ h => h) (Or.inl ⟨by rfl, ?hy20⟩) hHeld ?rest20
        case hy20 =>
          intro w' hSw
          try dsimp only at hSw
          go_simp
          first | done | with_reducible rfl
        try simp only [Act.put, zq1, zq2, zq3, zq4, zq5, zq6]
        refine wpAnyH_take (i := 11) rfl (by kernel_rfl) (by kernel_rfl) (by kernel_rfl) (fun _ _ _ h => h) (y_ob (by rfl) (.tmp 22) (by rfl) b2 0 (by rfl) y (fun _ h => h.2.2.2)) hHeld ?_
        try simp only [Act.put, zq1, zq2, zq3, zq4, zq5, zq6]
        refine wpAnyH_take (i := 12) rfl (by kernel_rfl) (by kernel_rfl) (by kernel_rfl) (fun _ _ _ h => h) (y_obne_of (by rfl) (by rfl) x y true HXY.out (by rfl) (by rfl)) hHeld ?_
        try simp only [Act.put, zq1, zq2, zq3, zq4, zq5, zq6]
        refine wpAnyH_done (by kernel_rfl) ?_ _
        refine OnlyN.normal ?_
        clear hHeld
        have HOW2 := Lib.hid (own_below HOW.out (below_drew (Below.refl wr.heap.size wr)))
        have HBD := Lib.hid (below_drew HB.out)
        have HSZ := Lib.hid (show w.heap.size ≤ wr.drew.heap.size from HB.out.size)
        clear HOW HB
        go_wp2_with (refine wpList_append_int rfl (.tmp 25) (.tmp 27) rfl (by rfl) HOW2.out (k : Int) (by first | rfl | simp) (by have := HD.out; omega) HSZ.out ?_; intro g' c' w' hw1 hw2)
        go_roundw
        case rel => exact ⟨k + 1, by omega, by go_num, HBD.out.trans hw2, by rw [diffs_other (by rw [HE.out.1, HE.out.2]; intro e; injection e with e; exact HQ.out e)]; simpa [dv] using hw1⟩
        case measure => simp [intOf]; omega
    · obtain rfl : k = os.length := by omega
      go_wp2
      go_ret
      exact ⟨_, rfl, hown, hb⟩
end
end Go.Proofs.YtljfddeolapeaaaDoor
namespace Go.Proofs.YtljfddeolapeaaaDoor
open List renaming getElem_toArray → zq1, getElem_cons_succ → zq2, getElem_cons_zero → zq3, setIfInBounds_toArray → zq4, set_cons_zero → zq5, set_cons_succ → zq6
open Go.RowKit
attribute [local go_sem] Oper.semAt_some
theorem below_of_drew {B : Nat} {a w : World} (h : Below B a.drew w) : Below B a w := ⟨h.os, h.tape, h.output, h.size, h.block⟩
set_option maxRecDepth 8000 in
theorem own_shape {w : World} {base n : Nat} {e : TypeId} {size : Nat} {v : Value} {xs : List Value} (h : w.ownsRow base e size v n xs) : ∃ A cap, v = .slice A n cap := by
  rcases h.2 with ⟨rfl, rfl⟩ | ⟨g, cap, cur, rfl, _⟩
  · exact ⟨_, _, rfl⟩
  · exact ⟨_, _, rfl⟩
section
variable {w : World} {base p : Nat} {A : Option Addr} {cap : Nat} {ps : List Nat} {os : List Oj} {base2 p2 : Nat} {A2 : Option Addr} {cap2 : Nat} {ps2 : List Nat} {os2 : List Oj}
abbrev UnlIs (w : World) (P Q : Value) (d : List Nat) : Prop := Calls Tryd.prog 43 #[P, Q] w fun e w' => ∃ v, e = .returned v ∧ w'.ownsRow w.heap.size 3 1 v d.length (dv d) ∧ Below w.heap.size w w'
set_option maxRecDepth 100000 in
set_option maxHeartbeats 2000000 in
theorem unlike_eq (h : StAt w base p A cap ps os) (h2 : StAt w base2 p2 A2 cap2 ps2 os2) (hl : os2.length = os.length) (h0 : 0 < os.length) (hN : os.length ≤ 1000) : UnlIs w (pv p) (pv p2) (diffs os os2 os.length) := by
  have HS := Lib.hid h
  have HS2 := Lib.hid h2
  have HL := Lib.hid hl
  have H0 := Lib.hid h0
  have HN := Lib.hid hN
  have HC := Lib.hid h.c0
  have HC2 := Lib.hid (show w.cell? ⟨p2, 0, none⟩ = some (.slice A2 os.length cap2) from hl ▸ h2.c0)
  have HZ2 := Lib.hid (show SizeIs w (pv p2) (os.length : Int) from hl ▸ size_at h2 (by omega))
  clear h h2 hl h0 hN
  go_enter Tryd.func43, Tryd.ntmps43
  go_wp2_with (first
    | (go_at_call 42; (first | (with_reducible refine (size_at HS.out H0.out).mono ?_) | (with_reducible refine HZ2.out.mono ?_)); rintro e w1 ⟨rfl, rfl⟩)
    | (go_at_call 32; refine (there_yes HS.out H0.out).mono ?_; rintro e w1 ⟨rfl, rfl⟩))
  refine wp_region_only (S := fun w' => w'.cell? ⟨p, 0, none⟩ = some (.slice A os.length cap) ∧ w'.cell? ⟨p2, 0, none⟩ = some (.slice A2 os.length cap2)) (by kernel_rfl) ⟨HC.out, HC2.out⟩ (fun hHeld => ?_)
  refine wpAnyH_take (i := 0) (v := ?v1) rfl (by kernel_rfl) (by kernel_rfl) (by kernel_rfl) (fun _ _ _ h => h) (Or.inl ⟨by rfl, ?hy1⟩) hHeld ?rest1
  case hy1 =>
    intro w' hSw
    try dsimp only at hSw
    go_simp
    first | done | with_reducible rfl
  try simp only [Act.put, zq1, zq3, zq4, zq5, zq6]
  refine wpAnyH_take (i := 1) (v := ?v2) rfl (by kernel_rfl) (by kernel_rfl) (by kernel_rfl) (fun _ _ _ h => h) (Or.inl ⟨by rfl, ?hy2⟩) hHeld ?rest2
  case hy2 =>
    intro w' hSw
    try dsimp only at hSw
    go_simp
    first | done | with_reducible rfl
  try simp only [Act.put, zq1, zq2, zq3, zq4, zq5, zq6]
  refine wpAnyH_take (i := 2) (v := ?v3) rfl (by kernel_rfl) (by kernel_rfl) (by kernel_rfl) (fun _ _ _ h => h) (Or.inl ⟨by rfl, ?hy3⟩) hHeld ?rest3
  case hy3 =>
    intro w' hSw
    try dsimp only at hSw
    go_simp
    first | done | with_reducible rfl
  try simp only [Act.put, zq1, zq2, zq3, zq4, zq5, zq6]
  refine wpAnyH_take (i := 3) (v := ?v4) rfl (by kernel_rfl) (by kernel_rfl) (by kernel_rfl) (fun _ _ _ h => h) (Or.inl ⟨by rfl, ?hy4⟩) hHeld ?rest4
  case hy4 =>
    intro w' hSw
    try dsimp only at hSw
    go_simp
    first | done | with_reducible rfl
  try simp only [Act.put, zq1, zq2, zq3, zq4, zq5, zq6]
  refine wpAnyH_take (i := 4) (v := ?v5) rfl (by kernel_rfl) (by kernel_rfl) (by kernel_rfl) (fun _ _ _ h => h) (Or.inl ⟨by rfl, ?hy5⟩) hHeld ?rest5
  case hy5 =>
    intro w' hSw
    try dsimp only at hSw
    go_simp
    first | done | with_reducible rfl
  try simp only [Act.put, zq1, zq2, zq3, zq4, zq5, zq6]
  refine wpAnyH_take (i := 5) (v := ?v6) rfl (by kernel_rfl) (by kernel_rfl) (by kernel_rfl) (fun _ _ _ h => h) (Or.inl ⟨by rfl, ?hy6⟩) hHeld ?rest6
  case hy6 =>
    intro w' hSw
    try dsimp only at hSw
    go_simp
    first | done | with_reducible rfl
  try simp only [Act.put, zq1, zq2, zq3, zq4, zq5, zq6]
  refine wpAnyH_take (i := 6) (v := ?v7) rfl (by kernel_rfl) (by kernel_rfl) (by kernel_rfl) (fun _ _ _ h => h) (Or.inl ⟨by rfl, ?hy7⟩) hHeld ?rest7
  case hy7 =>
    intro w' hSw
    try dsimp only at hSw
    go_simp
    first | done | with_reducible rfl
  try simp only [Act.put, zq1, zq2, zq3, zq4, zq5, zq6]
  refine wpAnyH_take (i := 7) (v := ?v8) rfl (by kernel_rfl) (by kernel_rfl) (by kernel_rfl) (fun _ _ _ h => h) (Or.inl ⟨by rfl, ?hy8⟩) hHeld ?rest8
  case hy8 =>
    intro w' hSw
    try dsimp only at hSw
    go_simp
    first | done | with_reducible rfl
  try simp only [Act.put, zq1, zq2, zq3, zq4, zq5, zq6]
  refine wpAnyH_ready (rs := [8]) (by kernel_rfl) (by simp) ?_
  refine AllReadyH.cons (by rfl) (fun K hK => ?_) AllReadyH.nil
  go_simp
  refine (unl_at HS.out.drew HS2.out.drew HL.out HN.out).mono ?_
  rintro e y1 ⟨v, rfl, hv, b1⟩
  have HV := Lib.hid hv
  have HB := Lib.hid b1
  have HD1 := Lib.hid (HS.out.drew.below b1).c0
  have HD2 := Lib.hid (HL.out ▸ (HS2.out.drew.below b1).c0 : y1.cell? ⟨p2, 0, none⟩ = some (.slice A2 os.length cap2))
  clear hv b1 hHeld
  go_wp2_with fail
  refine hK.out _ _ ⟨HD1.out, HD2.out⟩ (fun hHeld => ?_)
  clear hK K
  try simp only [Act.put, zq1, zq2, zq3, zq4, zq5, zq6]
  refine wpAnyH_take (i := 9) (v := ?v9) rfl (by kernel_rfl) (by kernel_rfl) (by kernel_rfl) (fun _ _ _ h => h) (Or.inl ⟨by rfl, ?hy9⟩) hHeld ?rest9
  case hy9 =>
    intro w' hSw
    try dsimp only at hSw
    go_simp
    first | done | with_reducible rfl
  try simp only [Act.put, zq1, zq2, zq3, zq4, zq5, zq6]
  refine wpAnyH_done (by kernel_rfl) ?_ _
  refine OnlyN.normal ?_
  clear hHeld
  go_wp2
  go_ret
  exact ⟨_, rfl, HV.out, below_of_drew HB.out⟩
set_option maxRecDepth 100000 in
set_option maxHeartbeats 2000000 in
theorem same_eq (h : StAt w base p A cap ps os) (h2 : StAt w base2 p2 A2 cap2 ps2 os2) (hl : os2.length = os.length) (h0 : 0 < os.length) (hN : os.length ≤ 1000) :
    Calls Tryd.prog 15 #[pv p, pv p2] w fun e w' => e = .returned (.bool (decide (os = os2))) ∧ Below w.heap.size w w' := by
  have HU := Lib.hid (unlike_eq h h2 hl h0 hN)
  have HS := Lib.hid h
  have H0 := Lib.hid h0
  have HZ2 := Lib.hid (show SizeIs w (pv p2) (os.length : Int) from hl ▸ size_at h2 (by omega))
  have HE := Lib.hid (show (((diffs os os2 os.length).length : Int) == 0) = decide (os = os2) from by
    rw [Bool.eq_iff_iff]
    simp only [beq_iff_eq, decide_eq_true_eq]
    rw [← diffs_nil hl.symm, ← List.length_eq_zero_iff]
    omega)
  clear h h2 hl h0 hN
  go_enter Tryd.func15, Tryd.ntmps15
  go_wp2_with (first
    | (go_at_call 42; (first | (with_reducible refine (size_at HS.out H0.out).mono ?_) | (with_reducible refine HZ2.out.mono ?_)); rintro e w1 ⟨rfl, rfl⟩)
    | (go_at_call 43; refine HU.out.mono ?_; rintro e w1 ⟨v, rfl, hv, b1⟩; obtain ⟨A3, c3, rfl⟩ := own_shape hv; have HB := Lib.hid b1; clear hv b1))
  go_ret
  refine ⟨?_, HB.out⟩
  rw [← HE.out]
  first | rfl | simp
set_option maxRecDepth 8000 in
theorem same_st (h : StAt w base p A cap ps os) (h2 : StAt w base2 p2 A2 cap2 ps2 os2) (h0 : 0 < os.length) (h02 : 0 < os2.length) (hN : os.length ≤ 1000) :
    Calls Tryd.prog 15 #[pv p, pv p2] w fun e w' => e = .returned (.bool (decide (os = os2))) ∧ Below w.heap.size w w' := by
  by_cases hl : os.length = os2.length
  · exact same_eq h h2 hl.symm h0 hN
  · have hpp : pv p ≠ pv p2 := fun e => by
      injection e with e
      injection e with e
      injection e with e
      subst e
      have h1 := h.c0
      rw [h2.c0] at h1
      injection h1 with h1
      injection h1 with _ h1
      exact hl h1.symm
    rw [show decide (os = os2) = false from decide_eq_false (fun e => hl (by rw [e]))]
    refine (same_ne (.inr ⟨p, rfl⟩) (.inr ⟨p2, rfl⟩) hpp (size_at h h0) (size_at h2 h02) (by omega)).mono ?_
    rintro e w' ⟨he, rfl⟩
    exact ⟨he, Below.refl _ _⟩
end
section
variable {w : World} {A : Option Addr} {l : List Oj} {cap : Nat} {A2 : Option Addr} {l2 : List Oj} {cap2 : Nat}
end
end Go.Proofs.YtljfddeolapeaaaDoor

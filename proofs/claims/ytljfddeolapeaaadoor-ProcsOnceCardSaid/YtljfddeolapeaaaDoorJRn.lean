/- procs: Running of a store that is not there. -/
import Derived.Test.YtljfddeolapeaaaDoorJCl
import Derived.Test.YtljfddeolapeaaaDoorR18
import Derived.Test.YtljfddeolapeaaaDoorR17
import Derived.OwnWalkIn
namespace Go.Proofs.YtljfddeolapeaaaDoor
open Go.RowKit Go.Shelf
attribute [local go_sem] Oper.semAt_some
section
variable {F : Fence} {n : Nat} {P : Program} {ops : Array Oper} {rest : List Oper} {o : Oper} {a : Act} {w : World} {Q : Exit → Act → World → Prop}
set_option maxRecDepth 8000 in
/-- what an operation yields in each world that meets S, within a fence that lets all in -/
theorem wpListIn_yields {S : World → Prop} {v : Value} (hF : ∀ f, F.fn f) (hnc : ∀ c, o.op = .defer c → False) (hy : YieldsIf P ops S o v a) (hS : S w) (h : wpListIn F n P ops Q rest (a.put o.dst v) w) : wpListIn F n P ops Q (o :: rest) a w := by
  refine wpListIn_step fun K hK => ?_
  rcases hy with ⟨hw, hrun⟩ | ⟨hw, rfl⟩
  · rw [if_pos hw]
    unfold Oper.wpIn
    refine ⟨fun f _ => hF f, ?_⟩
    rw [Oper.semAt_plain F _ _ (fun c hc => (hnc c hc).elim), hrun w hS]
    exact hK _ _ h
  · rw [if_neg (by rw [hw]; decide)]
    exact ⟨fun f _ => hF f, hK _ _ h⟩
set_option maxRecDepth 8000 in
/-- a node's cells into the block that was made last -/
theorem wpListIn_store_node {W : World} (hgd : o.guard = none) (x y : Operand) (ho : o.op = .store 93 x y) (b : Nat) (hb : b = W.heap.size) (hx : a.eval x = .pointer (some ⟨b, 0, none⟩)) (p : Option Addr) (i : Int) (u : Oj) (hy : a.eval y = .agg (jc p i u).toArray)
    (h : wpListIn F n Tryd.prog ops Q rest (a.put o.dst undef) (W.alloc (.cells (jc p i u).toArray 93))) : wpListIn F n Tryd.prog ops Q (o :: rest) a (W.alloc (.cells (jc none 0 oz).toArray 93)) := by
  subst hb
  refine wpListIn_plain hgd fun K hK' => ?_
  unfold Oper.wpIn
  refine ⟨?_, ?_⟩
  · simp [Oper.about, ho]
  · rw [Oper.semAt_plain F _ _ (by rw [ho]; intro c hc'; cases hc')]
    have hs := run_storeVar_part (P := Tryd.prog) (off := 0) 93 (Blk.new W 93 (jc none 0 oz).toArray) (ys := jc p i u) (by rw [jc_len, jc_len]; omega) (by rw [jc_len]; exact sizeJ) (jc_one _ _ _)
    have e : (jc none 0 oz).take 0 ++ jc p i u ++ (jc none 0 oz).drop (0 + (jc p i u).length) = jc p i u := by
      rw [List.drop_eq_nil_of_le (by rw [jc_len, jc_len]; omega), List.append_nil]
      rfl
    rw [e, World.setRow_alloc_new] at hs
    simp only [execOp, ho, hx, hy, Instr.storeAt, Instr.sureAddr, hs, Sem.run_bind, Sem.run_pure, Result.andThen_ok]
    exact hK' _ _ h
set_option maxRecDepth 8000 in
/-- append of an int that was boxed last, within a range -/
theorem wpListIn_append_int {W : World} (hgd : o.guard = none) (s x : Operand) (ho : o.op = .call { callee := .builtin .append, args := #[s, x], argTypes := #[49, 49] })
    {base m : Nat} {v : Value} {xs : List Value} (hs : a.eval s = v) (hown : W.ownsRow base 3 1 v m xs) (q : Int) (hx : a.eval x = .slice (some ⟨W.heap.size, 0, none⟩) 1 1) (hn : m ≤ 1000) (hbase : base ≤ W.heap.size)
    (h : ∀ g c w', w'.ownsRow base 3 1 (.slice (some ⟨g, 0, none⟩) (m + 1) c) (m + 1) (xs ++ [.int .i64 q]) → Below base W w' → (W.alloc (.cells #[.int .i64 q] 3)).grownBy w' v.ownBlock → wpListIn F n Tryd.prog ops Q rest (a.put o.dst (.slice (some ⟨g, 0, none⟩) (m + 1) c)) w') : wpListIn F n Tryd.prog ops Q (o :: rest) a (W.alloc (.cells #[.int .i64 q] 3)) := by
  obtain ⟨i0, hi, hz0, hz1, hz2⟩ := info_parts infoInt
  have hown2 : (W.alloc (.cells #[.int .i64 q] 3)).ownsRow base 3 1 v m xs := own_below hown ((Below.refl _ _).alloc (Nat.le_refl _) _)
  refine wpListIn_append_own _ hgd s x 49 ho base 3 i0 (.int .i64 0) 1 8 Tryd.underlying49 hi hz0 hz1 hz2 rfl (by decide) v m xs hs hown2 ⟨W.heap.size, 0, none⟩ 1 1 [.int .i64 q] hx rfl ?_ (by simp [Value.oneCell']) (by simp only [maxLen]; omega) (by omega) (by simp; omega) ?_
  · intro j u hu
    rw [Addr.add_mid, Nat.zero_add]
    have := (Blk.new W 3 #[.int .i64 q]).cell j
    rw [this]
    simpa using hu
  · intro v' w' h1 h2 _
    have h1' := h1
    obtain ⟨_, ⟨_, h0⟩ | ⟨g, c, cur, rfl, _⟩⟩ := h1'
    · omega
    · refine h g c w' h1 ?_ h2
      have hb : Below base W (W.alloc (.cells #[.int .i64 q] 3)) := (Below.refl _ _).alloc hbase _
      exact hb.grown h2 (by simp; omega) fun k hk => (hown2.lt k hk).1
end
section
variable {w : World} {base p : Nat} {A : Option Addr} {cap : Nat} {ps : List Nat} {os : List Oj}
/-- who runs, of these -/
def runL (xs : List (Ie os)) : List Nat := (xs.map Ie.i).filter fun (i : Nat) => decide (stA os (i : Int) = some 1)
set_option maxRecDepth 8000 in
theorem runL_len (xs : List (Ie os)) : (runL xs).length ≤ xs.length := by
  have := List.length_filter_le (fun (i : Nat) => decide (stA os (i : Int) = some 1)) (xs.map Ie.i)
  simpa [runL] using this
set_option maxRecDepth 8000 in
theorem runL_yes {xs : List (Ie os)} {x : Ie os} (h : stN x.o = some 1) : runL (xs ++ [x]) = runL xs ++ [x.i] := by
  have : stA os (x.i : Int) = some 1 := by unfold stA; rw [objA_in os x.i x.lt]; exact h
  simp [runL, this]
set_option maxRecDepth 8000 in
theorem runL_no {xs : List (Ie os)} {x : Ie os} (h : ¬ stN x.o = some 1) : runL (xs ++ [x]) = runL xs := by
  have : ¬ stA os (x.i : Int) = some 1 := by unfold stA; rw [objA_in os x.i x.lt]; exact h
  simp [runL, this]
set_option maxRecDepth 8000 in
theorem runL_all {xs : List (Ie os)} (h : EltsI os.length xs) : runL xs = runA os := by
  have e : xs.map Ie.i = List.range os.length := by
    apply List.ext_getElem?
    intro i
    rw [List.getElem?_map]
    cases hx : xs[i]? with
    | none =>
      rw [List.getElem?_eq_none_iff] at hx
      rw [List.getElem?_eq_none (by rw [List.length_range]; have := h.1; omega)]
      rfl
    | some y =>
      have hi := h.2 i y hx
      subst hi
      rw [List.getElem?_eq_getElem (by rw [List.length_range]; exact y.lt), List.getElem_range]
      rfl
  unfold runL runA
  rw [e]
set_option maxRecDepth 8000 in
theorem own_put {w : World} {b n size : Nat} {e : TypeId} {v : Value} {xs : List Value} (h : w.ownsRow b e size v n xs) (q : Addr) (u : Value) (hq : q.block < b) : (w.setCell q u).ownsRow b e size v n xs := by
  refine ⟨h.1, ?_⟩
  rcases h.2 with h' | ⟨g, cap, cur, hv, hb, hg, rest⟩
  · exact .inl h'
  · exact .inr ⟨g, cap, cur, hv, hb, (Below.heap_setCell w q u g (by omega)).trans hg, rest⟩
/-- the row that a captured cell leads to is kept by a range's own doings -/
theorem own_runs (B g : Nat) (t : TypeId) (b : Nat) : OwnFrom B (fun (pre : List (Ie os)) W => ∃ v, Blk W g t #[v] ∧ W.ownsRow b 3 1 v (runL pre).length (dv (runL pre))) := fun s X Y row hs hg hr => by
  obtain ⟨v, h1, h2⟩ := hs
  refine ⟨v, own_blk B g t (fun (_ : List (Ie os)) => #[v]) s X Y row h1 hg hr, h2.1, ?_⟩
  rcases h2.2 with h' | ⟨g', cap, cur, hv, hb, hg', rest⟩
  · exact .inl h'
  · refine .inr ⟨g', cap, cur, hv, hb, (hg.block g' (Array.getElem?_eq_some_iff.1 hg').1 (fun e => ?_)).trans hg', rest⟩
    obtain ⟨_, o', ho', hc'⟩ := hr g' e.symm
    rw [hg'] at ho'
    injection ho' with ho'
    subst ho'
    cases hc'
set_option maxRecDepth 100000 in
set_option maxHeartbeats 4000000 in
theorem running_at (h : StAt w base p A cap ps os) (hN : 0 < os.length) (hN' : os.length ≤ 1000) : Calls Tryd.prog 16 #[pv p] w fun e w' => ∃ v, e = .returned v ∧ w'.ownsRow w.heap.size 3 1 v (runA os).length (dv (runA os)) ∧ Below w.heap.size w w' := by
  have hz := z34
  have hbl := oz_len
  have hz2 := zJ
  have hzj := jc_len none 0 oz
  have hFw : ∀ f, Fence.wide.fn f := fun _ => trivial
  have HS := Lib.hid h
  have HN0 := Lib.hid hN
  have HN' := Lib.hid hN'
  have HL := Lib.hid (fun (k : Nat) (hk : stHas p A ps k) => (h.lt k hk).2)
  have HB := Lib.hid ((((Below.refl w.heap.size w).alloc (Nat.le_refl _) (.cells #[pv p] 24)).alloc (by simp) (.cells #[.slice none 0 0] 49)).alloc (by simp; omega) (.cells #[pv p] 24))
  have HS3 := Lib.hid (((h.alloc (.cells #[pv p] 24)).alloc (.cells #[.slice none 0 0] 49)).alloc (.cells #[pv p] 24))
  have HU := Lib.hid (show Blk (((w.alloc (.cells #[pv p] 24)).alloc (.cells #[.slice none 0 0] 49)).alloc (.cells #[pv p] 24)) w.heap.size 24 #[pv p] from ((Blk.new w 24 #[pv p]).alloc (.cells #[.slice none 0 0] 49)).alloc (.cells #[pv p] 24))
  have HV := Lib.hid (show Blk (((w.alloc (.cells #[pv p] 24)).alloc (.cells #[.slice none 0 0] 49)).alloc (.cells #[pv p] 24)) (w.heap.size + 1) 49 #[.slice none 0 0] from by have := (Blk.new (w.alloc (.cells #[pv p] 24)) 49 #[.slice none 0 0]).alloc (.cells #[pv p] 24); simpa using this)
  have HP := Lib.hid (show Blk (((w.alloc (.cells #[pv p] 24)).alloc (.cells #[.slice none 0 0] 49)).alloc (.cells #[pv p] 24)) (w.heap.size + 1 + 1) 24 #[pv p] from by have := Blk.new ((w.alloc (.cells #[pv p] 24)).alloc (.cells #[.slice none 0 0] 49)) 24 #[pv p]; simpa using this)
  have SZ := Lib.hid (show (((w.alloc (.cells #[pv p] 24)).alloc (.cells #[.slice none 0 0] 49)).alloc (.cells #[pv p] 24)).heap.size = w.heap.size + 3 by simp)
  clear h hN
  refine (callsIn_wide (n := 4)).1 (callsIn_of_wp_marks Tryd.func16 rfl trivial ?_ rfl)
  simp only [Tryd.ntmps16, List.size_toArray, List.length_cons, List.length_nil, Nat.reduceAdd, Nat.reduceSub, Array.replicate_succ, Array.replicate_zero, List.push_toArray, List.append_toArray, List.nil_append, List.cons_append]
  gi_wp2_with (first
    | (gi_at_call 28; refine ((callsIn_wide (n := 3)).2 (all_any _ (.inr ⟨p, rfl⟩) _)).mono ?_; rintro e w1 ⟨rfl, rfl⟩))
  generalize (((w.alloc (.cells #[pv p] 24)).alloc (.cells #[.slice none 0 0] 49)).alloc (.cells #[pv p] 24)) = W3 at HB HS3 HU HV HP SZ ⊢
  refine wpIn_rangeFunc_ownH (α := Ie os) (F := Fence.wide) (Kp := KS p A ps) (w0 := W3) rfl (by omega) (gf := 68) (a := { tmps := #[pv p, .pointer (some ⟨w.heap.size, 0, none⟩), .slice none 0 0, .pointer (some ⟨w.heap.size + 1, 0, none⟩), undef, undef, undef, pv p, .func (.func 68) #[] #[.pointer (some ⟨w.heap.size + 1 + 1, 0, none⟩)], undef, undef, undef, undef, undef, undef, undef, undef, undef, undef, undef, undef], defers := [] }) rfl trivial (enters_of Tryd.func68 (by kernel_rfl) rfl)
    (all1_in 3 (by omega) (w.heap.size + 1 + 1) HS3.out HN0.out HN'.out ((HP.out.cell 0).trans rfl)) (fun h k => h.trans k) (fun W l o o' => KS.put HS3.out l o o') (Below.refl _ _) (fun _ => rfl)
    (fun pre W => (∃ v, Blk W (w.heap.size + 1) 49 #[v] ∧ W.ownsRow (w.heap.size + 3) 3 1 v (runL pre).length (dv (runL pre))) ∧ Blk W w.heap.size 24 #[pv p] ∧ Below w.heap.size w W ∧ W3.heap.size ≤ W.heap.size ∧ StAt W base p A cap ps os ∧ pre.length ≤ 1000)
    (fun _ _ _ => False)
    ((own_runs _ _ _ _).and ((own_blk _ _ _ (fun _ => _)).and ((ownFrom_below (Nat.le_refl _) HB.out.size).and ((own_size _ _).and ((own_st HL.out HB.out.size).and (fun _ _ _ _ hs _ _ => hs))))))
    (fun _ _ _ _ _ hs _ _ => hs.elim) ⟨⟨_, HV.out, rfl, .inl ⟨rfl, rfl⟩⟩, HU.out, HB.out, Nat.le_refl _, HS3.out, by simp⟩
    (fun x a' W => ∃ b, W3.heap.size ≤ b ∧ a' = { tmps := #[pv p, .pointer (some ⟨w.heap.size, 0, none⟩), .slice none 0 0, .pointer (some ⟨w.heap.size + 1, 0, none⟩), .int .i64 (x.i : Int), .pointer (some ⟨b, 0, none⟩), undef, pv p, .func (.func 68) #[] #[.pointer (some ⟨w.heap.size + 1 + 1, 0, none⟩)], .int .i64 (x.i : Int), x.o.val, undef, undef, undef, undef, undef, undef, undef, undef, undef, undef], defers := [] } ∧ Blk W b 56 x.o.cells.toArray)
    (fun x a' s X Y row hs hg hr => by
      obtain ⟨b, h1, h2, h3⟩ := hs
      exact ⟨b, h1, h2, own_blk W3.heap.size b _ (fun _ => _) s X Y row h3 hg hr⟩)
    ?assign ?body ?done ?stop
  case assign =>
    rintro l pre x W K ⟨⟨v, i1, i1'⟩, i2, i3, i4, i5, i6⟩ hK
    have hk := hK { tmps := #[pv p, .pointer (some ⟨w.heap.size, 0, none⟩), .slice none 0 0, .pointer (some ⟨w.heap.size + 1, 0, none⟩), .int .i64 (x.i : Int), .pointer (some ⟨W.heap.size, 0, none⟩), undef, pv p, .func (.func 68) #[] #[.pointer (some ⟨w.heap.size + 1 + 1, 0, none⟩)], .int .i64 (x.i : Int), x.o.val, undef, undef, undef, undef, undef, undef, undef, undef, undef, undef], defers := [] } (W.alloc (.cells x.o.cells.toArray 56)) ((KeepsOthers.alloc W _).from _) (fun k hk => Below.heap_alloc W _ _ (i5.lt k hk).2) ⟨⟨v, i1.alloc _, own_below i1' ((Below.refl _ _).alloc (Nat.le_refl _) _)⟩, i2.alloc _, i3.alloc i3.size _, by rw [World.size_alloc]; omega, i5.alloc _, i6⟩ ⟨W.heap.size, i4, rfl, Blk.new W _ _⟩
    have HKK := Lib.hid hk
    clear hK hk i1 i1' i2 i3 i4 i5 i6
    gi_wp2_with (refine wpListIn_store_last rfl (.tmp 5) (.tmp 10) rfl _ rfl rfl x.o oz rfl ?_)
    exact HKK.out
  case body =>
    rintro l pre x a' W hl _ ⟨⟨v, i1, i1'⟩, i2, i3, i4, i5, i6⟩ ⟨b, hb, rfl, hbw⟩ hlen
    have c0 : W.cell? ⟨w.heap.size, 0, none⟩ = some (pv p) := (i2.cell 0).trans rfl
    have c1 : W.cell? ⟨w.heap.size + 1, 0, none⟩ = some v := (i1.cell 0).trans rfl
    have I1 := Lib.hid i1
    have I1' := Lib.hid i1'
    have I2 := Lib.hid i2
    have I3 := Lib.hid i3
    have I4 := Lib.hid i4
    have I5 := Lib.hid i5
    have IW := Lib.hid hbw.ob
    have HLEN := Lib.hid hlen
    have HL6 := Lib.hid i6
    have HN := Lib.hid (NdB.own (Blk.new W 93 (jc (some ⟨p, 0, none⟩) (x.i : Int) x.o).toArray))
    have hjl := jc_len (some ⟨p, 0, none⟩) (x.i : Int) x.o
    clear i1 i1' i2 i3 i4 i5 i6 hbw hlen
    by_cases hs : stN x.o = some 1
    · have hb1 : decide (stN x.o = some 1) = true := decide_eq_true hs
      have HRL := Lib.hid (runL_yes (xs := pre) hs)
      clear hs
      gi_wp2_with (first
        | (refine wpListIn_ob rfl (.tmp 5) rfl b 0 rfl x.o IW.out ?_)
        | (refine wpListIn_yields (S := fun _ => True) (fun _ => trivial) (by intro c hc'; cases hc') (y_bl3 (by rfl) (.tmp 11) (.tmp 12) (.tmp 13) (by rfl) (by rfl) (by rfl) (by rfl) (builtJ (some ⟨p, 0, none⟩) (x.i : Int) x.o)) trivial ?_)
        | (refine wpListIn_store_node rfl (.tmp 6) (.tmp 14) rfl W.heap.size rfl rfl (some ⟨p, 0, none⟩) (x.i : Int) x.o rfl ?_)
        | (gi_at_call 44; refine (CallsIn.inRound l ((callsIn_wide (n := 1)).2 (is_any HN.out 1 hb1))).mono ?_; rintro e w2 ⟨rfl, b2⟩; have B2 := Lib.hid (((Below.refl W.heap.size W).alloc (Nat.le_refl _) (.cells (jc (some ⟨p, 0, none⟩) (x.i : Int) x.o).toArray 93)).trans (b2.mono (by simp))); clear b2 c0 c1; have c2 : w2.cell? ⟨w.heap.size + 1, 0, none⟩ = some v := (((I1.out.keep B2.out).cell 0).trans rfl))
        | (refine wpListIn_append_int rfl (.tmp 16) (.tmp 18) rfl (by rfl) (own_below I1'.out B2.out) (x.i : Int) (by rfl) (by have := runL_len pre; have := HL6.out; omega) (by have := B2.out.size; have := I4.out; have := SZ.out; omega) ?_; intro g c w3 h1 b3 hg; have OW := Lib.hid h1; have B3 := Lib.hid b3; have HG := Lib.hid hg; clear c2 h1 b3 hg; have Q3 := Lib.hid (show Blk w3 (w.heap.size + 1) 49 #[v] from (B3.out.block _ (by omega)).trans (I1.out.keep B2.out)); have c3 := (Q3.out.cell 0).trans rfl; have f3 := Q3.out.frozen 0))
      have e1 : (runL pre ++ [x.i]).length = (runL pre).length + 1 := by simp
      have e2 : dv (runL pre ++ [x.i]) = dv (runL pre) ++ [.int .i64 (x.i : Int)] := by simp [dv]
      refine ⟨⟨Nat.le_trans B2.out.size (Nat.le_trans B3.out.size (by simp [World.setCell])), fun k o _ ho hc => ?_⟩, fun k hk => (Below.heap_setCell _ _ _ _ (by have := HL.out k hk; simp; omega)).trans ((B3.out.block k (by have := HL.out k hk; omega)).trans (B2.out.block k (I5.out.lt k hk).2)), ⟨_, Q3.out.set_ 0 _, by rw [HRL.out, e1, e2]; exact own_put OW.out _ _ (by simp)⟩, (Below.heap_setCell _ _ _ _ (by simp)).trans ((B3.out.block _ (by omega)).trans (I2.out.keep B2.out)), (((I3.out.trans (B2.out.mono I3.out.size)).trans (B3.out.mono (by omega))).setCell (p := ⟨w.heap.size + 1, 0, none⟩) (by simp) _), Nat.le_trans I4.out (Nat.le_trans B2.out.size (Nat.le_trans B3.out.size (by simp [World.setCell]))), I5.out.keep fun k hk => (Below.heap_setCell _ _ _ _ (by have := HL.out k hk; simp; omega)).trans ((B3.out.block k (by have := HL.out k hk; omega)).trans (B2.out.block k (I5.out.lt k hk).2)), by rw [List.length_append]; have := HLEN.out; have := HN'.out; simp; omega⟩
      have hk1 : k < W.heap.size := (Array.getElem?_eq_some_iff.1 ho).1
      have hne : k ≠ w.heap.size + 1 := fun e => by
        subst e
        have h := I1.out
        unfold Blk at h
        rw [h] at ho
        injection ho with ho
        subst ho
        cases hc
      have hno : some k ≠ v.ownBlock := fun e => by
        obtain ⟨_, ⟨rfl, _⟩ | ⟨g', cap, cur, rfl, _, hg', _⟩⟩ := I1'.out
        · cases e
        · injection e with e
          have e : k = g' := e
          subst e
          rw [hg'] at ho
          injection ho with ho
          subst ho
          cases hc
      refine (Below.heap_setCell _ _ _ _ hne).trans ((HG.out.block k (by have := B2.out.size; simp; omega) ?_).trans ((Below.heap_alloc w2 _ k (Nat.lt_of_lt_of_le hk1 B2.out.size)).trans ((B2.out.block k hk1).trans ho)))
      first
        | exact hno
        | exact fun e => hno e.symm
    · have hb1 : decide (stN x.o = some 1) = false := decide_eq_false hs
      have HRL := Lib.hid (runL_no (xs := pre) hs)
      clear hs
      gi_wp2_with (first
        | (refine wpListIn_ob rfl (.tmp 5) rfl b 0 rfl x.o IW.out ?_)
        | (refine wpListIn_yields (S := fun _ => True) (fun _ => trivial) (by intro c hc'; cases hc') (y_bl3 (by rfl) (.tmp 11) (.tmp 12) (.tmp 13) (by rfl) (by rfl) (by rfl) (by rfl) (builtJ (some ⟨p, 0, none⟩) (x.i : Int) x.o)) trivial ?_)
        | (refine wpListIn_store_node rfl (.tmp 6) (.tmp 14) rfl W.heap.size rfl rfl (some ⟨p, 0, none⟩) (x.i : Int) x.o rfl ?_)
        | (gi_at_call 44; refine (CallsIn.inRound l ((callsIn_wide (n := 1)).2 (is_any HN.out 1 hb1))).mono ?_; rintro e w2 ⟨rfl, b2⟩; have B2 := Lib.hid (((Below.refl W.heap.size W).alloc (Nat.le_refl _) (.cells (jc (some ⟨p, 0, none⟩) (x.i : Int) x.o).toArray 93)).trans (b2.mono (by simp))); clear b2 c0 c1; have c2 : w2.cell? ⟨w.heap.size + 1, 0, none⟩ = some v := (((I1.out.keep B2.out).cell 0).trans rfl)))
      refine ⟨⟨B2.out.size, fun k o _ ho hc => (B2.out.block k (Array.getElem?_eq_some_iff.1 ho).1).trans ho⟩, fun k hk => B2.out.block k (I5.out.lt k hk).2, ⟨v, I1.out.keep B2.out, by rw [HRL.out]; exact own_below I1'.out B2.out⟩, I2.out.keep B2.out, I3.out.trans (B2.out.mono I3.out.size), Nat.le_trans I4.out B2.out.size, I5.out.below B2.out, by rw [List.length_append]; have := HLEN.out; have := HN'.out; simp; omega⟩
  case stop =>
    rintro D c pre W _ _ hf _
    exact hf.elim
  case done =>
    rintro D xs W hD hS ⟨⟨v, i1, i1'⟩, i2, i3, i4, i5, i6⟩ hK
    rw [runL_all hS] at i1'
    have c1 : W.cell? ⟨w.heap.size + 1, 0, none⟩ = some v := (i1.cell 0).trans rfl
    have I1 := Lib.hid i1'
    have I3 := Lib.hid i3
    have HK := Lib.hid hK
    have HD := Lib.hid (show w.heap.size + 3 ≤ D by have := SZ.out; omega)
    clear i1 i1' i2 i3 i4 i5 i6 hK hS hD
    gi_wp2
    refine ⟨by simp, .inl ⟨_, _, rfl, run_takeDeferred HK.out, ?_⟩⟩
    refine ⟨_, results_tmp rfl _ _ _, _, rfl, ?_, I3.out.trans (belowK_b (w := w) (Nat.le_refl _) W D _ _ (by have := HD.out; omega) HK.out rfl rfl)⟩
    show (W.putObj D (.deferred none)).ownsRow w.heap.size 3 1 v _ _
    refine ⟨I1.out.1, ?_⟩
    rcases I1.out.2 with h' | ⟨g', cap, cur, hv, hb, hg', rest⟩
    · exact .inl h'
    · refine .inr ⟨g', cap, cur, hv, by omega, (World.putObj_heap_other (fun e => ?_)).trans hg', rest⟩
      rw [e, HK.out] at hg'
      injection hg' with hg'
      cases hg'
end
end Go.Proofs.YtljfddeolapeaaaDoor

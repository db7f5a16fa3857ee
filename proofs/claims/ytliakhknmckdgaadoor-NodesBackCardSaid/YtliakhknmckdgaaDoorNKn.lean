/- law 9: known, made, a key weak. -/
import Derived.Test.YtliakhknmckdgaaDoorNBk
namespace Go.Proofs.YtliakhknmckdgaaDoor
open Go.RowKit
section
variable {ops : Array Oper} {o : Oper} {a : Act} {S : World → Prop} {rest : List Oper} {Q : Exit → Act → World → Prop}
theorem y_build2 {t : TypeId} {i j : Nat} {x y : Value} {cs : Array Value} (hw : Region.wanted o (yielded ops a.tmps) = true) (ho : o.op = .build t #[(i, .const x), (j, .const y)]) (hb : Tryd.prog.built t [(i, x), (j, y)] = some cs) : YieldsIf Tryd.prog ops S o (.agg cs) a := .inl ⟨hw, fun w _ => by
  unfold execOp
  simp only [ho, Sem.run_bind]
  have := run_build w t #[(i, x), (j, y)] _ hb
  simp only [List.map_toArray, List.map_cons, List.map_nil, Act.eval, this, Result.andThen_ok, Sem.run_pure]⟩
set_option maxRecDepth 8000 in
theorem run_buildSlice34 (w : World) (u : Oj) :
    (Instr.buildSlice 22 1 #[(0, u.val)]).run Tryd.prog w = .ok (.slice (some ⟨w.heap.size, 0, none⟩) 1 1) (w.alloc (.cells u.cells.toArray 60)) := by
  have hz := z34 w
  have hs := run_sizeOf (P := Tryd.prog) size34 w
  have hol := oz_len
  have c1 : ∀ cs : Array Value, cs.size = 163 → Instr.fill (fun i => some (i * 163, 163)) cs [(0, u.val)] = some u.cells.toArray := by
    intro cs hcs
    have e2 : u.val.cells.size = 163 := by show u.cells.toArray.size = 163; rw [List.size_toArray, u.len]
    rw [fill_one _ _ 0 u.val _ 0 (by rw [e2]) (by rw [e2, hcs]; omega)]
    simp only [Instr.fill, e2]
    have e : cs.toList.take 0 ++ u.cells ++ cs.toList.drop (0 + 163) = u.cells := by
      rw [List.drop_eq_nil_of_le (by rw [Array.length_toList, hcs]; omega), List.append_nil]
      rfl
    exact congrArg (fun x : List Value => some x.toArray) e
  have h2 := c1 ((Array.range (1 * 163)).map (oz.val.cells[· % oz.val.cells.size]!)) (by simp)
  simp only [Instr.buildSlice, Sem.run_bind, run_underlying Tryd.underlying22, Result.andThen_ok, hs]
  rw [if_neg (by decide), if_neg (by decide)]
  simp only [Sem.run_bind, hz, Result.andThen_ok, Sem.run_pure, h2]
  simp [newRow, Result.andThen]
set_option maxRecDepth 8000 in
theorem wpList_buildSlice34 {w : World} (hgd : o.guard = none) (x : Operand) (ho : o.op = .buildSlice 22 1 #[(0, x)]) (u : Oj) (hx : a.eval x = u.val)
    (h : wpList Tryd.prog ops Q rest (a.put o.dst (.slice (some ⟨w.heap.size, 0, none⟩) 1 1)) (w.alloc (.cells u.cells.toArray 60))) : wpList Tryd.prog ops Q (o :: rest) a w := by
  refine wpList_plain hgd fun K hK => ?_
  unfold Oper.wp
  simp [execOp, ho, hx, run_buildSlice34 w u, Result.andThen]
  exact hK _ _ h
end
set_option maxRecDepth 8000 in
theorem rdo_one {w : World} {g : Nat} {t : TypeId} {u : Oj} (h : Blk w g t u.cells.toArray) : RdO w (some ⟨g, 0, none⟩) [u] := fun i hi => by
  obtain rfl : i = 0 := by simpa using hi
  exact ⟨g, 0, rfl, h.ob⟩
set_option maxRecDepth 100000 in
set_option maxHeartbeats 2000000 in
theorem known_aux (w : World) (hT : Tab w) (x v : Ky) (u u' : Oj) (h1 : Tryd.prog.built 60 [(0, .int .i64 1), (1, .int .i64 1)] = some u.cells.toArray) (h2 : Tryd.prog.built 32 [(0, .int .i64 2), (2, .int .i64 1)] = some (kl x).toArray) (h3 : Tryd.prog.built 32 [(0, .int .i64 1), (5, .int .i64 7)] = some (kl v).toArray)
    (hp : putA [u] x 3 v = ([u'], zk, 0)) (hg : getA [u'] x 3 = (v, 0)) (h7 : v.v = 7) (hr : rightP [u]) : Calls Tryd.prog 10 #[] w fun e w' => e = .returned (.bool true) ∧ Below w.heap.size w w' := by
  have HT := Lib.hid hT
  have HR := Lib.hid (rdo_one (Blk.new w 60 u.cells.toArray))
  have HB0 := Lib.hid ((Below.refl w.heap.size w).alloc (Nat.le_refl _) (.cells u.cells.toArray 60))
  have HOF : ∀ (W : World) (A : Option Addr), Tab W → RdO W A [u] → Calls Tryd.prog 23 #[.slice A 1 1] W fun e w' => ∃ q, e = .returned (.tuple #[pv q, .int .i64 0]) ∧ W.heap.size ≤ q ∧ (∃ A' cap' ps, StAt w' q q A' cap' ps [u]) ∧ Below W.heap.size W w' := fun W A hT hA => (of_yes (cap := 1) hT hA hr).mono fun e w' h => ⟨W.heap.size, h.1, Nat.le_refl _, h.2.1, h.2.2⟩
  have HPU : ∀ (W : World) (base p : Nat) (A : Option Addr) (cap : Nat) (ps : List Nat), StAt W base p A cap ps [u] → Tab W → Calls Tryd.prog 15 #[pv p, x.val, .int .i64 3, v.val] W fun e w' => e = .returned (.tuple #[zk.val, .int .i64 0]) ∧ StAt w' base p A cap ps [u'] ∧ Fr (fun k => k ∈ ps) W w' := fun W base p A cap ps h hT => by
    have := put_all h hr.2.2 Nat.zero_lt_one hT x 3 v
    rw [hp] at this
    exact this
  have HGE : ∀ (W : World) (base p : Nat) (A : Option Addr) (cap : Nat) (ps : List Nat), StAt W base p A cap ps [u'] → Tab W → Calls Tryd.prog 14 #[pv p, x.val, .int .i64 3] W fun e w' => e = .returned (.tuple #[v.val, .int .i64 0]) ∧ Below W.heap.size W w' := fun W base p A cap ps h hT => by
    have := get_all h Nat.zero_lt_one hT x 3
    rw [hg] at this
    exact this
  have HO := Lib.hid HOF
  have HP := Lib.hid HPU
  have HG := Lib.hid HGE
  have H1 := Lib.hid h1
  have H2 := Lib.hid h2
  have H3 := Lib.hid h3
  clear hT hp hg hr HOF HPU HGE h1 h2 h3
  go_enter Tryd.func10, Tryd.ntmps10
  go_wp2_with (first
    | (show wpList _ _ _ ({ dst := some 9, op := .build _ _, type := _, pos := _, after := _, guard := _ } :: _) _ _; refine wpList_yields (S := fun _ => True) (y_build2 (by rfl) (by rfl) H1.out) trivial ?_)
    | (refine wpList_buildSlice34 rfl (.tmp 9) rfl u rfl ?_)
    | (go_at_call 23; refine (HO.out _ _ (HT.out.below HB0.out) HR.out).mono ?_; rintro e w1 ⟨q, rfl, hq, ⟨A1, cap1, ps1, hs⟩, b1⟩; have HQ := Lib.hid hq; clear hq; have HB1 := Lib.hid ((HB0.out.trans (b1.mono HB0.out.size)).alloc (Nat.le_trans HB0.out.size b1.size) (.cells (kl x).toArray 32)); have HX1 := Lib.hid (Blk.new w1 32 (kl x).toArray); have HS1 := Lib.hid (hs.alloc (.cells (kl x).toArray 32)); have HL1 := Lib.hid b1.size; clear b1; obtain ⟨c0, c1, c2, c3, c4, c5⟩ := HX1.out.six)
    | (show wpList _ _ _ ({ dst := some 14, op := .build _ _, type := _, pos := _, after := _, guard := _ } :: _) _ _; refine wpList_yields (S := fun _ => True) (y_build2 (by rfl) (by rfl) H2.out) trivial ?_)
    | (show wpList _ _ _ ({ dst := none, op := .store _ (.tmp 3) (.tmp 14), type := _, pos := _, after := _, guard := _ } :: _) _ _; refine wpList_store_new (l := kl x) (l0 := kl zk) (ty := 32) rfl (.tmp 3) (.tmp 14) (by rfl) _ rfl (by rfl) (by rfl) size30 rfl (kl_one _) ?_)
    | (show wpList _ _ _ ({ dst := some 18, op := .build _ _, type := _, pos := _, after := _, guard := _ } :: _) _ _; refine wpList_yields (S := fun _ => True) (y_build2 (by rfl) (by rfl) H3.out) trivial ?_)
    | (go_at_call 15; refine (HP.out _ _ _ _ _ _ HS1.out (HT.out.below HB1.out)).mono ?_; rintro e w2 ⟨rfl, hs2, f2⟩; have HB2 := Lib.hid ((HB1.out.trans (f2.to_below (fun k hk => by have h1 := (HS1.out.pps k hk).1; have h2 := HQ.out; have h3 := HB0.out.size; omega) HB1.out.size)).alloc (Nat.le_trans HB1.out.size f2.size) (.cells (kl zk).toArray 32)); have HX2 := Lib.hid (show Blk _ _ _ _ from ((f2.block _ HX1.out.lt (fun hm => by have := hs.lt _ (.inr (.inr hm)); omega)).trans HX1.out)); have HX3 := Lib.hid (HX2.out.alloc (.cells (kl zk).toArray 32)); have HS2 := Lib.hid (hs2.alloc (.cells (kl zk).toArray 32)); clear f2 hs2 hs c0 c1 c2 c3 c4 c5; obtain ⟨c0, c1, c2, c3, c4, c5⟩ := HX3.out.six)
    | (show wpList _ _ _ ({ dst := none, op := .store _ (.tmp 4) (.tmp 20), type := _, pos := _, after := _, guard := _ } :: _) _ _; refine wpList_store_new (l := kl zk) (l0 := kl zk) (ty := 32) rfl (.tmp 4) (.tmp 20) (by rfl) _ rfl (by rfl) (by rfl) size30 rfl (kl_one _) ?_)
    | (go_at_call 14; refine (HG.out _ _ _ _ _ _ HS2.out (HT.out.below HB2.out)).mono ?_; rintro e w3 ⟨rfl, b3⟩; have HB3 := Lib.hid ((HB2.out.trans (b3.mono HB2.out.size)).alloc (Nat.le_trans HB2.out.size b3.size) (.cells (kl v).toArray 32)); have HV3 := Lib.hid (Blk.new w3 32 (kl v).toArray); clear b3 c0 c1 c2 c3 c4 c5; have c5 := HV3.out.six.2.2.2.2.2; rw [h7] at c5)
    | (show wpList _ _ _ ({ dst := none, op := .store _ (.tmp 6) (.tmp 26), type := _, pos := _, after := _, guard := _ } :: _) _ _; refine wpList_store_new (l := kl v) (l0 := kl zk) (ty := 32) rfl (.tmp 6) (.tmp 26) (by rfl) _ rfl (by rfl) (by rfl) size30 rfl (kl_one _) ?_))
  go_ret
  exact ⟨rfl, HB3.out⟩
theorem known_any (w : World) (hT : Tab w) : Calls Tryd.prog 10 #[] w fun e w' => e = .returned (.bool true) ∧ Below w.heap.size w w' :=
  known_aux w hT knk9 knv9 kn9 kn9' built9 builtK9 builtV9 kn9_put kn9_get rfl kn9_right
/-- may the law go on with these objects -/
def madeP (l : List Oj) : Prop := l.length ≤ 20 ∧ rightP l
set_option maxRecDepth 8000 in
theorem made_yes {w : World} {A : Option Addr} {l : List Oj} {cap : Nat} (hT : Tab w) (hr : RdO w A l) (h : madeP l) :
    Calls Tryd.prog 9 #[.slice A l.length cap] w fun e w' => ∃ q, e = .returned (pv q) ∧ w.heap.size ≤ q ∧ (∃ A' cap' ps, StAt w' q q A' cap' ps l) ∧ Below w.heap.size w w' := by
  have HT := Lib.hid hT
  have HR := Lib.hid hr
  have H := Lib.hid h.2
  have d1 : decide ((20 : Int) < (l.length : Int)) = false := decide_eq_false (by have := h.1; omega)
  have d2 : decide (20 < l.length) = false := decide_eq_false (by have := h.1; omega)
  have HB0 := Lib.hid (Below.refl w.heap.size w)
  clear hT hr h
  go_enter Tryd.func9, Tryd.ntmps9
  go_wp2_with (first
    | (go_at_call 22; refine (right_yes HR.out H.out).mono ?_; rintro e w1 ⟨rfl, b1⟩; have HB1 := Lib.hid (HB0.out.trans b1); clear b1)
    | (go_at_call 23; refine (of_yes (HT.out.below HB1.out) (HR.out.below HB1.out) H.out).mono ?_; rintro e w2 ⟨rfl, hs, b2⟩; have HS := Lib.hid hs; have HB2 := Lib.hid (HB1.out.trans (b2.mono HB1.out.size)); clear b2 hs))
  go_ret
  obtain ⟨A', cap', ps, hs⟩ := HS.out
  have hb := HB1.out.size
  exact ⟨_, rfl, hb, ⟨A', cap', ps, hs⟩, HB2.out⟩
set_option maxRecDepth 8000 in
theorem made_no {w : World} {A : Option Addr} {l : List Oj} {cap : Nat} (hr : RdO w A l) (h : ¬ madeP l) :
    Calls Tryd.prog 9 #[.slice A l.length cap] w fun e w' => e = .returned (.pointer none) ∧ Below w.heap.size w w' := by
  have HR := Lib.hid hr
  have HB0 := Lib.hid (Below.refl w.heap.size w)
  by_cases h1 : l.length ≤ 20
  · have H := Lib.hid (fun hp => h ⟨h1, hp⟩ : ¬ rightP l)
    have d1 : decide ((20 : Int) < (l.length : Int)) = false := decide_eq_false (by omega)
    have d2 : decide (20 < l.length) = false := decide_eq_false (by omega)
    clear hr h h1
    go_enter Tryd.func9, Tryd.ntmps9
    go_wp2_with (first
      | (go_at_call 22; refine (right_no HR.out H.out).mono ?_; rintro e w1 ⟨rfl, b1⟩; have HB1 := Lib.hid (HB0.out.trans b1); clear b1))
    go_ret
    exact ⟨rfl, HB1.out⟩
  · have d1 : decide ((20 : Int) < (l.length : Int)) = true := decide_eq_true (by omega)
    have d2 : decide (20 < l.length) = true := decide_eq_true (by omega)
    clear hr h h1
    go_enter Tryd.func9, Tryd.ntmps9
    go_wp2_with fail
    go_ret
    exact ⟨rfl, HB0.out⟩
end Go.Proofs.YtliakhknmckdgaaDoor

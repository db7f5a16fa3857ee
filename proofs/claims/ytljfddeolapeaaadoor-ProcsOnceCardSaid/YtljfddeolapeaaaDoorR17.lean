/- nodes: what each call does, of any store, by the program and by the document. -/
import Derived.Test.YtljfddeolapeaaaDoorR16
import Derived.RangeFuncNested
import Derived.RangeFuncBound
import Derived.RangeFuncCalls
import Derived.RangeFuncLeaves
import Derived.RangeFuncBox
import Derived.RangeFuncFrom
import Derived.Shelf.Abstract
import Derived.Shelf.RegionOpen
import Derived.WalkKit
import Derived.OwnWalkIn
import Derived.TacticsInMore
import Derived.LoopNIn
import Derived.LoopIn
import Derived.Test.YtljfddeolapeaaaDoorR11
import Derived.Test.YtljfddeolapeaaaDoorR12
namespace Go.Proofs.YtljfddeolapeaaaDoor
open Go.RowKit
section
variable {w : World} {base p : Nat} {A : Option Addr} {cap : Nat} {ps : List Nat} {os : List Oj}
theorem askN_no {os : List Oj} {x : Ky} (h : ¬ askN os x) : ¬ ((named os x).isSome = true ∧ x.k = 2) := h
set_option maxRecDepth 8000 in
theorem AskD.slot {os : List Oj} {x : Ky} {j : Nat} {u : Oj} (_ : AskD os x j u) {i : Nat} (hi : i < 16) : u.s[i]? = some ((u.s[i]?).getD zk) := by
  rw [List.getElem?_eq_getElem (by rw [u.hs]; exact hi)]
  rfl
end
section
variable {w : World} {A : Option Addr} {l : List Oj} {n cap : Nat}
end
end Go.Proofs.YtljfddeolapeaaaDoor
namespace Go.Proofs.YtljfddeolapeaaaDoor
open Go.RowKit
section
variable {os : List Oj} {j : Nat} {u : Oj}
theorem cn_slots (y : Ky) (u : Oj) (s : List Ky) (hs : s.length = 16) : y.cn (slotsAs u s hs) = y.cn u := rfl
set_option maxRecDepth 8000 in
theorem named_set (hj : j < os.length) (hu : os[j] = u) (s : List Ky) (hs : s.length = 16) (y : Ky) : named (os.set j (slotsAs u s hs)) y = if y.o.toNat = j then (named os y).map (fun _ => slotsAs u s hs) else named os y := by
  by_cases hy : y.of
  · rw [named_is hy, named_is hy]
    by_cases e : y.o.toNat = j
    · subst e
      rw [if_pos rfl, List.getElem?_set_self hj, List.getElem?_eq_getElem hj, hu]
      have hcs := cn_slots y u s hs
      simp only [Option.filter_some]
      by_cases hc : y.cn u = true
      · rw [if_pos hc, if_pos (hcs.trans hc)]
        rfl
      · rw [if_neg hc, if_neg (fun h => hc (hcs.symm.trans h))]
        rfl
    · rw [if_neg e, List.getElem?_set_ne (fun h => e h.symm)]
  · rw [named_not hy, named_not hy]
    split <;> rfl
theorem AskD.set {x : Ky} (d : AskD os x j u) (s : List Ky) (hs : s.length = 16) : AskD (os.set j (slotsAs u s hs)) x j (slotsAs u s hs) :=
  ⟨by rw [named_set d.lt d.at_, if_pos d.jn, d.nm]; rfl, d.k, d.ok, d.o, by rw [List.length_set]; exact d.lt, by rw [List.getElem_set_self], d.uk⟩
set_option maxRecDepth 8000 in
theorem getA_d {x : Ky} (d : AskD os x j u) {i : Nat} (hi : i < 16) : getA os x (i : Int) = (gotK os x (u.s[i]'(by rw [u.hs]; exact hi)), 0) := by
  unfold getA
  rw [if_pos d.is, if_pos (by omega), d.eq, Int.toNat_natCast, List.getElem?_eq_getElem (by rw [u.hs]; exact hi)]
  rfl
set_option maxRecDepth 8000 in
theorem putA_d {x v : Ky} (d : AskD os x j u) (hr : x.r % 4 = 0) {i : Nat} (hi : i < 16) (hv : v.may os.length) : putA os x (i : Int) v = (os.set j (slotAs u i (prepd os v)), gotK os x (u.s[i]'(by rw [u.hs]; exact hi)), 0) := by
  unfold putA
  rw [if_pos d.is, if_pos hr, if_pos (by omega), if_pos hv, d.eq, Int.toNat_natCast, List.getElem?_eq_getElem (by rw [u.hs]; exact hi), d.jn]
  rfl
end
/-- a node that was given once, its key, and a number -/
def kn9 : Oj := ⟨1, 1, 0, zks, zbs, rfl, rfl⟩
def knk9 : Ky := ⟨2, 0, 1, 0, 0, 0⟩
def knv9 : Ky := ⟨1, 0, 0, 0, 0, 7⟩
set_option maxRecDepth 8000 in
theorem built9 : Tryd.prog.built 56 [(0, .int .i64 1), (1, .int .i64 1)] = some kn9.cells.toArray := by kernel_rfl
set_option maxRecDepth 8000 in
theorem builtK9 : Tryd.prog.built 33 [(0, .int .i64 2), (2, .int .i64 1)] = some (kl knk9).toArray := by kernel_rfl
set_option maxRecDepth 8000 in
theorem builtV9 : Tryd.prog.built 33 [(0, .int .i64 1), (5, .int .i64 7)] = some (kl knv9).toArray := by kernel_rfl
theorem kn9_ok : kn9.ok 1 := ⟨by decide, by decide, by decide, .inl ⟨rfl, zks_may 1⟩⟩
theorem knk9_ok : knk9.ok := ⟨2, rfl, by decide, by decide, by decide, by decide, by decide, by decide, by decide, by decide, by decide, .inl rfl⟩
theorem knk9_of : knk9.of := ⟨knk9_ok, by decide, by decide⟩
theorem knv9_ok : knv9.ok := ⟨1, rfl, by decide, by decide, by decide, by decide, by decide, by decide, by decide, by decide, by decide, .inr rfl⟩
theorem knv9_not : ¬ knv9.of := fun h => absurd h.2.1 (by decide)
theorem knv9_may : knv9.may 1 := ⟨knv9_ok, fun h => absurd h knv9_not⟩
set_option maxRecDepth 8000 in
theorem knk9_cn : knk9.cn kn9 = true := by
  unfold Ky.cn
  refine cnt_yes ⟨knk9_ok, fun h => ⟨?_, rfl, .inl (by decide)⟩⟩
  unfold Ky.want
  rw [if_pos h]
  rfl
theorem kn9_d : AskD [kn9] knk9 0 kn9 := ⟨by
  rw [named_is knk9_of]
  have e : ([kn9] : List Oj)[knk9.o.toNat]? = some kn9 := rfl
  rw [e, Option.filter_some, knk9_cn]
  rfl, rfl, knk9_ok, rfl, by decide, rfl, rfl⟩
set_option maxRecDepth 8000 in
theorem prepd_knv (os : List Oj) : prepd os knv9 = knv9 := by
  unfold prepd
  rw [cn_oz.2 ⟨knv9_ok, knv9_not⟩, Bool.or_true, if_pos rfl]
set_option maxRecDepth 8000 in
theorem prepd_zk (os : List Oj) : prepd os zk = zk := by
  unfold prepd
  split <;> rfl
theorem kn9_all : okAll ([kn9] : List Oj).length [kn9] := fun x hx => by
  rw [List.mem_singleton.1 hx]
  exact kn9_ok
theorem kn9_right : rightP [kn9] := ⟨by decide, by decide, kn9_all⟩
def kn9' : Oj := slotAs kn9 3 knv9
set_option maxRecDepth 8000 in
theorem kn9_put : putA [kn9] knk9 3 knv9 = ([kn9'], zk, 0) := by
  have := putA_d (v := knv9) kn9_d (by decide) (i := 3) (by decide) knv9_may
  rw [prepd_knv] at this
  have e : gotK [kn9] knk9 zk = zk := by unfold gotK; rw [if_neg (by decide), prepd_zk]
  exact this.trans (congrArg (fun z => ([kn9'], z, (0 : Int))) e)
set_option maxRecDepth 8000 in
theorem kn9_get : getA [kn9'] knk9 3 = (knv9, 0) := by
  have d := kn9_d.set (kn9.s.set 3 knv9) (by rw [List.length_set]; exact kn9.hs)
  have := getA_d d (i := 3) (by decide)
  have e : gotK [kn9'] knk9 knv9 = knv9 := by unfold gotK; rw [if_neg (by decide), prepd_knv]
  exact this.trans (congrArg (fun z => (z, (0 : Int))) e)
end Go.Proofs.YtljfddeolapeaaaDoor
namespace Go.Proofs.YtljfddeolapeaaaDoor
open Go.RowKit
section
variable {ops : Array Oper} {o : Oper} {a : Act} {S : World → Prop} {rest : List Oper} {Q : Exit → Act → World → Prop}
theorem y_build2 {t : TypeId} {i j : Nat} {x y : Value} {cs : Array Value} (hw : Region.wanted o (yielded ops a.tmps) = true) (ho : o.op = .build t #[(i, .const x), (j, .const y)]) (hb : Tryd.prog.built t [(i, x), (j, y)] = some cs) : YieldsIf Tryd.prog ops S o (.agg cs) a := .inl ⟨hw, fun w _ => by
  unfold execOp
  simp only [ho, Sem.run_bind]
  have := run_build w t #[(i, x), (j, y)] _ hb
  simp only [List.map_toArray, List.map_cons, List.map_nil, Act.eval, this, Result.andThen_ok, Sem.run_pure]⟩
set_option maxRecDepth 8000 in
theorem run_buildSlice34 (w : World) (u : Oj) :
    (Instr.buildSlice 22 1 #[(0, u.val)]).run Tryd.prog w = .ok (.slice (some ⟨w.heap.size, 0, none⟩) 1 1) (w.alloc (.cells u.cells.toArray 56)) := by
  have hz := z34 w
  have hs := run_sizeOf (P := Tryd.prog) size34 w
  have hol := oz_len
  have c1 : ∀ cs : Array Value, cs.size = 163 → Instr.fill (fun i => some (i * 163, 163)) cs [(0, u.val)] = some u.cells.toArray := by
    intro cs hcs
    have e2 : u.val.cells.size = 163 := by show u.cells.toArray.size = 163; rw [List.size_toArray, u.len]
    rw [fill_one _ _ 0 u.val _ 0 (by rw [e2]) (by rw [e2, hcs]; omega)]
    simp only [Instr.fill, e2]
    have e : cs.toList.take 0 ++ u.cells ++ cs.toList.drop (0 + 163) = u.cells := by
      rw [List.drop_eq_nil_of_le (by rw [Array.length_toList, hcs]; omega), List.append_nil]
      rfl
    exact congrArg (fun x : List Value => some x.toArray) e
  have h2 := c1 ((Array.range (1 * 163)).map (oz.val.cells[· % oz.val.cells.size]!)) (by simp)
  simp only [Instr.buildSlice, Sem.run_bind, run_underlying Tryd.underlying22, Result.andThen_ok, hs]
  rw [if_neg (by decide), if_neg (by decide)]
  simp only [Sem.run_bind, hz, Result.andThen_ok, Sem.run_pure, h2]
  simp [newRow, Result.andThen]
set_option maxRecDepth 8000 in
theorem wpList_buildSlice34 {w : World} (hgd : o.guard = none) (x : Operand) (ho : o.op = .buildSlice 22 1 #[(0, x)]) (u : Oj) (hx : a.eval x = u.val)
    (h : wpList Tryd.prog ops Q rest (a.put o.dst (.slice (some ⟨w.heap.size, 0, none⟩) 1 1)) (w.alloc (.cells u.cells.toArray 56))) : wpList Tryd.prog ops Q (o :: rest) a w := by
  refine wpList_plain hgd fun K hK => ?_
  unfold Oper.wp
  simp [execOp, ho, hx, run_buildSlice34 w u, Result.andThen]
  exact hK _ _ h
end
set_option maxRecDepth 8000 in
theorem rdo_one {w : World} {g : Nat} {t : TypeId} {u : Oj} (h : Blk w g t u.cells.toArray) : RdO w (some ⟨g, 0, none⟩) [u] := fun i hi => by
  obtain rfl : i = 0 := by simpa using hi
  exact ⟨g, 0, rfl, h.ob⟩
/-- may the law go on with these objects -/
def madeP (l : List Oj) : Prop := l.length ≤ 20 ∧ rightP l
end Go.Proofs.YtljfddeolapeaaaDoor
namespace Go.Proofs.YtljfddeolapeaaaDoor
open Go.RowKit Go.Shelf
attribute [local go_sem] Oper.semAt_some
set_option maxRecDepth 8000 in
theorem all_any (P : Value) (hP : P = .pointer none ∨ ∃ q, P = pv q) (w : World) : Calls Tryd.prog 28 #[P] w fun e w' => e = .returned (.func (.func 68) #[] #[.pointer (some ⟨w.heap.size, 0, none⟩)]) ∧ w.alloc (.cells #[P] 24) = w' := by
  rcases hP with rfl | ⟨q, rfl⟩
  all_goals
    go_enter Tryd.func28, Tryd.ntmps28
    go_wp2
    go_ret
    exact ⟨rfl, rfl⟩
/-- what comes: a place -/
structure Ie (os : List Oj) where
  i : Nat
  lt : i < os.length
def Ie.o {os : List Oj} (y : Ie os) : Oj := os[y.i]'y.lt
/-- what has come: the first so many, in order -/
def EltsI {os : List Oj} (k : Nat) (xs : List (Ie os)) : Prop := xs.length = k ∧ ∀ (i : Nat) (y : Ie os), xs[i]? = some y → y.i = i
set_option maxRecDepth 8000 in
theorem EltsI.snoc {os : List Oj} {k : Nat} {xs : List (Ie os)} (h : EltsI k xs) (x : Ie os) (hx : x.i = k) : EltsI (k + 1) (xs ++ [x]) := by
  refine ⟨by simp [h.1], fun i y hy => ?_⟩
  rcases Nat.lt_or_ge i xs.length with hi | hi
  · rw [List.getElem?_append_left hi] at hy
    exact h.2 i y hy
  · rw [List.getElem?_append_right hi] at hy
    have hi' : i = xs.length := by
      rcases Nat.eq_or_lt_of_le hi with e | e
      · exact e.symm
      · rw [List.getElem?_eq_none (by simp; omega)] at hy; cases hy
    subst hi'
    rw [Nat.sub_self] at hy
    simp only [List.getElem?_cons_zero, Option.some.injEq] at hy
    subst hy
    rw [h.1]
    exact hx
theorem EltsI.last {os : List Oj} {k : Nat} {pre : List (Ie os)} {x : Ie os} (h : EltsI k (pre ++ [x])) : x.i = pre.length := h.2 pre.length x (by simp)
/-- the blocks of a store lie as they lay -/
def KS (p : Nat) (A : Option Addr) (ps : List Nat) (W W' : World) : Prop := ∀ k, stHas p A ps k → W'.heap[k]? = W.heap[k]?
section
variable {F : Fence} {n : Nat} {w : World} {ops : Array Oper} {rest : List Oper} {o : Oper} {a : Act} {Q : Exit → Act → World → Prop}
set_option maxRecDepth 8000 in
theorem wpListIn_ob (hgd : o.guard = none) (x : Operand) (ho : o.op = .load 56 x) (b off : Nat) (hx : a.eval x = .pointer (some ⟨b, off, none⟩)) (u : Oj) (hc : ObAt w b off u)
    (h : wpListIn F n Tryd.prog ops Q rest (a.put o.dst u.val) w) : wpListIn F n Tryd.prog ops Q (o :: rest) a w := by
  refine wpListIn_plain hgd fun K hK' => ?_
  unfold Oper.wpIn
  refine ⟨?_, ?_⟩
  · simp [Oper.about, ho]
  · rw [Oper.semAt_plain F _ _ (by rw [ho]; intro c hc'; cases hc')]
    simp only [execOp, ho, hx, run_loadAt_mid w b off 56 u.cells _ hc Tryd.underlying56 rfl (by rw [u.len]; exact size34), Sem.run_bind, Result.andThen]
    exact hK' _ _ h
set_option maxRecDepth 8000 in
theorem wpListIn_store_last {W : World} {t : TypeId} (hgd : o.guard = none) (x y : Operand) (ho : o.op = .store 56 x y) (b : Nat) (hb : b = W.heap.size) (hx : a.eval x = .pointer (some ⟨b, 0, none⟩)) (u u0 : Oj) (hy : a.eval y = u.val)
    (h : wpListIn F n Tryd.prog ops Q rest (a.put o.dst undef) (W.alloc (.cells u.cells.toArray t))) : wpListIn F n Tryd.prog ops Q (o :: rest) a (W.alloc (.cells u0.cells.toArray t)) := by
  subst hb
  refine wpListIn_plain hgd fun K hK' => ?_
  unfold Oper.wpIn
  refine ⟨?_, ?_⟩
  · simp [Oper.about, ho]
  · rw [Oper.semAt_plain F _ _ (by rw [ho]; intro c hc'; cases hc')]
    have hs := run_storeVar_part (P := Tryd.prog) (off := 0) 56 (Blk.new W t u0.cells.toArray) (ys := u.cells) (by rw [u.len, u0.len]; omega) (by rw [u.len]; exact size34) u.one
    have e : u0.cells.take 0 ++ u.cells ++ u0.cells.drop (0 + u.cells.length) = u.cells := by
      rw [List.drop_eq_nil_of_le (by rw [u.len, u0.len]; omega), List.append_nil]
      rfl
    rw [e, World.setRow_alloc_new] at hs
    simp only [execOp, ho, hx, hy, Instr.storeAt, Instr.sureAddr, hs, Sem.run_bind, Sem.run_pure, Result.andThen_ok]
    exact hK' _ _ h
set_option maxRecDepth 8000 in
theorem y_obne_self {S : World → Prop} {p q : Operand} (hw : Region.wanted o (yielded ops a.tmps) = true) (ho : o.op = .binOp .neq 56 p q 56) (x : Oj) (hx : a.eval p = x.val) (hy : a.eval q = x.val) : YieldsIf Tryd.prog ops S o (.bool false) a := by
  have := y_obne (S := S) hw ho x x hx hy
  simpa using this
end
set_option maxRecDepth 8000 in
theorem results_bool {fn : Func} {p : Tmp} (h : fn.results = #[.cell p 4]) (tmps : Array Value) (w : World) (g : Nat) (b : Bool)
    (hp : tmps.getD p undef = .pointer (some ⟨g, 0, none⟩)) (hg : w.cell? ⟨g, 0, none⟩ = some (.bool b)) : (results fn tmps).run Tryd.prog w = .ok (.bool b) w := by
  have hp' : tmps[p]?.getD undef = .pointer (some ⟨g, 0, none⟩) := by simpa using hp
  simp [results, h, hp', asAddr, loadVar, isAgg, run_underlying Tryd.underlying4, hg]
section
variable {w0 : World} {base p : Nat} {A : Option Addr} {cap : Nat} {ps : List Nat} {os : List Oj}
set_option maxRecDepth 100000 in
set_option maxHeartbeats 2000000 in
theorem all1_in (n : Nat) (hn : 1 ≤ n) (bS : Nat) (h : StAt w0 base p A cap ps os) (hN : 0 < os.length) (hN' : os.length ≤ 1000) (hbox : w0.cell? ⟨bS, 0, none⟩ = some (pv p)) :
    SeqStopsK Fence.wide n Tryd.prog 68 #[.pointer (some ⟨bS, 0, none⟩)] (fun y : Ie os => #[.int .i64 (y.i : Int), y.o.val]) (KS p A ps) (EltsI os.length) (fun pre => ∃ k, k ≤ os.length ∧ EltsI k pre) os.length w0 := by
  intro l J Jx W hb hJ hJx hY h0
  have hFw : ∀ f, Fence.wide.fn f := fun _ => trivial
  have hbox' := (hb.cell (p := ⟨bS, 0, none⟩) (World.block_lt_of_cell? w0 _ hbox)).trans hbox
  have HS := Lib.hid (h.below hb)
  have c0 := HS.out.c0
  have HJ := Lib.hid hJ
  have HY := Lib.hid hY
  have HN := Lib.hid hN
  clear hbox h hJ hJx hY hb hN
  refine callsIn_of_wp Tryd.func68 rfl trivial ?_ rfl
  simp only [Tryd.ntmps68, List.size_toArray, List.length_cons, List.length_nil, Nat.reduceAdd, Nat.reduceSub, Array.replicate_succ, Array.replicate_zero, List.push_toArray, List.append_toArray, List.nil_append, List.cons_append]
  gi_wp2_with (gi_at_call 32; refine ((callsIn_wide (n := n - 1)).2 (there_yes HS.out HN.out)).mono ?_; rintro e w' ⟨rfl, rfl⟩)
  gi_loopw [3, 4, 13] (fun _ _ i wr => ∃ k : Nat, k ≤ os.length ∧ i = .int .i64 k ∧ ∃ pre, EltsI k pre ∧ J pre wr ∧ StAt wr base p A cap ps os) (fun _ _ i _ => os.length - (intOf i).toNat)
  case atStart => exact ⟨0, Nat.zero_le _, rfl, [], ⟨rfl, by simp⟩, h0, HS.out⟩
  case round =>
    obtain ⟨k, hk, rfl, pre, hpre, hJs, hst⟩ := hrel
    by_cases hlt : k < os.length
    · obtain ⟨g, b, o, rfl, hc, ho, hob⟩ := hst.at_ hlt
      obtain ⟨fn, tmps, assign, body, hy, hR⟩ := HY.out pre ⟨k, hlt⟩ _ hJs (by rw [hpre.1]; exact hlt)
      have HRR := Lib.hid hR
      have HE : (Ie.o ⟨k, hlt⟩ : Oj) = o := ho
      rw [HE] at hy
      have HO := Lib.hid hob
      have HP := Lib.hid hpre
      have HST := Lib.hid hst
      have HLT := Lib.hid hlt
      have i2 : (k : Int) < (os.length : Int) := by omega
      clear hR hob hpre hst hJs ho HE
      gi_wp2_with (refine wpListIn_ob rfl (.tmp 21) rfl b 0 rfl o HO.out ?_)
      refine HRR.out.mono ?_
      rintro e W3 (⟨rfl, hJ3, hk3⟩ | ⟨rfl, hJx3⟩)
      · have HS3 := Lib.hid (HST.out.keep hk3)
        have HP3 := Lib.hid (HP.out.snoc ⟨k, HLT.out⟩ rfl)
        have HJ3 := Lib.hid hJ3
        clear hJ3 hk3
        gi_wp2
        go_roundw
        case rel => exact ⟨k + 1, by omega, by go_num, _, HP3.out, HJ3.out, HS3.out⟩
        case measure => simp [intOf]; omega
      · have HP3 := Lib.hid (HP.out.snoc ⟨k, HLT.out⟩ rfl)
        have HJ3 := Lib.hid hJx3
        clear hJx3
        gi_wp2
        refine bodyPost_ret (results_none rfl _ _ _) rfl ?_
        exact ⟨⟨_, rfl⟩, .inr ⟨_, ⟨k + 1, by omega, HP3.out⟩, HJ3.out⟩⟩
    · obtain rfl : k = os.length := by omega
      gi_wp2
      go_end0
      exact ⟨⟨_, rfl⟩, .inl ⟨pre, hpre, hJs⟩⟩
end
set_option maxRecDepth 8000 in
theorem KS.put {w W : World} {base p : Nat} {A : Option Addr} {cap : Nat} {ps : List Nat} {os : List Oj} (h : StAt w base p A cap ps os) (l : Nat) (o o' : Obj) (hl : w.heap.size ≤ l) (_ : W.heap[l]? = some o) (_ : o.isCells = false) (_ : o.isWalk = false) : KS p A ps W (W.putObj l o') := by
  intro k hk
  have := (h.lt k hk).2
  simp only [World.putObj]
  rw [Array.getElem?_setIfInBounds_ne (by omega)]
theorem KS.trans {p : Nat} {A : Option Addr} {ps : List Nat} {X Y Z : World} (h : KS p A ps X Y) (k : KS p A ps Y Z) : KS p A ps X Z := fun b hb => (k b hb).trans (h b hb)
theorem own_blk {β : Type} (B : Nat) (g : Nat) (t : TypeId) (f : β → Array Value) : OwnFrom B (fun (s : β) W => Blk W g t (f s)) := fun s X Y row hs hg hr =>
  (hg.block g hs.lt (fun e => by obtain ⟨_, o, ho, hc⟩ := hr g e.symm; unfold Blk at hs; rw [hs] at ho; cases ho; cases hc)).trans hs
theorem own_size {β : Type} (B n : Nat) : OwnFrom B (fun (_ : β) W => n ≤ W.heap.size) := fun _ _ _ _ hs hg _ => Nat.le_trans hs hg.size
theorem own_st {β : Type} {B B0 base p : Nat} {A : Option Addr} {cap : Nat} {ps : List Nat} {os : List Oj} (hL : ∀ k, stHas p A ps k → k < B0) (hB : B0 ≤ B) : OwnFrom B (fun (_ : β) W => StAt W base p A cap ps os) := fun _ X Y row hs hg hr =>
  hs.keep fun k hk => hg.block k (hs.lt k hk).2 (fun e => by have := (hr k e.symm).1; have := hL k hk; omega)
end Go.Proofs.YtljfddeolapeaaaDoor

/- objects: All, and a range over it. -/
import Derived.RangeFuncNested
import Derived.RangeFuncBound
import Derived.RangeFuncCalls
import Derived.RangeFuncLeaves
import Derived.RangeFuncBox
import Derived.RangeFuncFrom
import Derived.Shelf.Abstract
import Derived.Shelf.RegionOpen
import Derived.WalkKit
import Derived.OwnWalkIn
import Derived.TacticsInMore
import Derived.LoopNIn
import Derived.LoopIn
import Derived.Test.YtlhlgfehbfankaaDoorORight
import Derived.Test.YtlhlgfehbfankaaDoorOPart
namespace Go.Proofs.YtlhlgfehbfankaaDoor
open Go.RowKit Go.Shelf
attribute [local go_sem] Oper.semAt_some
theorem all_any (P : Value) (hP : P = .pointer none ∨ ∃ q, P = pv q) (w : World) : Calls Tryd.prog 29 #[P] w fun e w' => e = .returned (.func (.func 43) #[] #[.pointer (some ⟨w.heap.size, 0, none⟩)]) ∧ w.alloc (.cells #[P] 37) = w' := by
  rcases hP with rfl | ⟨q, rfl⟩
  all_goals
    go_enter Tryd.func29, Tryd.ntmps29
    go_wp2
    go_ret
    exact ⟨rfl, rfl⟩
theorem fn_equalIn (w : World) (d : Nat) (f : Fn) (a b : Array Value) : (Op.equalIn (d + 1) 65 (.func f a b) .nilFunc).run Tryd.prog w = .ok false w := by
  simp [Op.equalIn, run_underlying Tryd.underlying65]
theorem fn_eql (w : World) (f : Fn) (a b : Array Value) : (binOp .eql 65 (.func f a b) .nilFunc).run Tryd.prog w = .ok (.bool false) w := by
  have := fn_equalIn w 9999 f a b
  simp only [binOp]
  simp [show Op.equal 65 (.func f a b) .nilFunc = Op.equalIn (9999 + 1) 65 (.func f a b) .nilFunc from rfl, this]
/-- what comes: a place -/
structure Ie (os : List Oj) where
  i : Nat
  lt : i < os.length
def Ie.o {os : List Oj} (y : Ie os) : Oj := os[y.i]'y.lt
/-- what has come: the first so many, in order -/
def EltsI {os : List Oj} (k : Nat) (xs : List (Ie os)) : Prop := xs.length = k ∧ ∀ (i : Nat) (y : Ie os), xs[i]? = some y → y.i = i
theorem EltsI.snoc {os : List Oj} {k : Nat} {xs : List (Ie os)} (h : EltsI k xs) (x : Ie os) (hx : x.i = k) : EltsI (k + 1) (xs ++ [x]) := by
  refine ⟨by simp [h.1], fun i y hy => ?_⟩
  rcases Nat.lt_or_ge i xs.length with hi | hi
  · rw [List.getElem?_append_left hi] at hy
    exact h.2 i y hy
  · rw [List.getElem?_append_right hi] at hy
    have hi' : i = xs.length := by
      rcases Nat.eq_or_lt_of_le hi with e | e
      · exact e.symm
      · rw [List.getElem?_eq_none (by simp; omega)] at hy; cases hy
    subst hi'
    rw [Nat.sub_self] at hy
    simp only [List.getElem?_cons_zero, Option.some.injEq] at hy
    subst hy
    rw [h.1]
    exact hx
theorem EltsI.last {os : List Oj} {k : Nat} {pre : List (Ie os)} {x : Ie os} (h : EltsI k (pre ++ [x])) : x.i = pre.length := h.2 pre.length x (by simp)
/-- the blocks of a store lie as they lay -/
def KS (p : Nat) (A : Option Addr) (ps : List Nat) (W W' : World) : Prop := ∀ k, stHas p A ps k → W'.heap[k]? = W.heap[k]?
section
variable {F : Fence} {n : Nat} {w : World} {ops : Array Oper} {rest : List Oper} {o : Oper} {a : Act} {Q : Exit → Act → World → Prop}
theorem wpListIn_ob (hgd : o.guard = none) (x : Operand) (ho : o.op = .load 34 x) (b off : Nat) (hx : a.eval x = .pointer (some ⟨b, off, none⟩)) (u : Oj) (hc : ObAt w b off u)
    (h : wpListIn F n Tryd.prog ops Q rest (a.put o.dst u.val) w) : wpListIn F n Tryd.prog ops Q (o :: rest) a w := by
  refine wpListIn_plain hgd fun K hK' => ?_
  unfold Oper.wpIn
  refine ⟨?_, ?_⟩
  · simp [Oper.about, ho]
  · rw [Oper.semAt_plain F _ _ (by rw [ho]; intro c hc'; cases hc')]
    simp only [execOp, ho, hx, run_loadAt_mid w b off 34 u.cells _ hc Tryd.underlying34 rfl (by rw [u.len]; exact size34), Sem.run_bind, Result.andThen]
    exact hK' _ _ h
theorem wpListIn_store_last {W : World} {t : TypeId} (hgd : o.guard = none) (x y : Operand) (ho : o.op = .store 34 x y) (b : Nat) (hb : b = W.heap.size) (hx : a.eval x = .pointer (some ⟨b, 0, none⟩)) (u u0 : Oj) (hy : a.eval y = u.val)
    (h : wpListIn F n Tryd.prog ops Q rest (a.put o.dst undef) (W.alloc (.cells u.cells.toArray t))) : wpListIn F n Tryd.prog ops Q (o :: rest) a (W.alloc (.cells u0.cells.toArray t)) := by
  subst hb
  refine wpListIn_plain hgd fun K hK' => ?_
  unfold Oper.wpIn
  refine ⟨?_, ?_⟩
  · simp [Oper.about, ho]
  · rw [Oper.semAt_plain F _ _ (by rw [ho]; intro c hc'; cases hc')]
    have hs := run_storeVar_part (P := Tryd.prog) (off := 0) 34 (Blk.new W t u0.cells.toArray) (ys := u.cells) (by rw [u.len, u0.len]; omega) (by rw [u.len]; exact size34) u.one
    have e : u0.cells.take 0 ++ u.cells ++ u0.cells.drop (0 + u.cells.length) = u.cells := by
      rw [List.drop_eq_nil_of_le (by rw [u.len, u0.len]; omega), List.append_nil]
      rfl
    rw [e, World.setRow_alloc_new] at hs
    simp only [execOp, ho, hx, hy, Instr.storeAt, Instr.sureAddr, hs, Sem.run_bind, Sem.run_pure, Result.andThen_ok]
    exact hK' _ _ h
theorem y_obne_self {S : World → Prop} {p q : Operand} (hw : Region.wanted o (yielded ops a.tmps) = true) (ho : o.op = .binOp .neq 34 p q 34) (x : Oj) (hx : a.eval p = x.val) (hy : a.eval q = x.val) : YieldsIf Tryd.prog ops S o (.bool false) a := by
  have := y_obne (S := S) hw ho x x hx hy
  simpa using this
end
theorem results_bool {fn : Func} {p : Tmp} (h : fn.results = #[.cell p 4]) (tmps : Array Value) (w : World) (g : Nat) (b : Bool)
    (hp : tmps.getD p undef = .pointer (some ⟨g, 0, none⟩)) (hg : w.cell? ⟨g, 0, none⟩ = some (.bool b)) : (results fn tmps).run Tryd.prog w = .ok (.bool b) w := by
  have hp' : tmps[p]?.getD undef = .pointer (some ⟨g, 0, none⟩) := by simpa using hp
  simp [results, h, hp', asAddr, loadVar, isAgg, run_underlying Tryd.underlying4, hg]
section
variable {w0 : World} {base p : Nat} {A : Option Addr} {cap : Nat} {ps : List Nat} {os : List Oj}
set_option maxRecDepth 100000 in
set_option maxHeartbeats 2000000 in
theorem all1_in (n : Nat) (hn : 1 ≤ n) (bS : Nat) (h : StAt w0 base p A cap ps os) (hN : 0 < os.length) (hN' : os.length ≤ 1000) (hbox : w0.cell? ⟨bS, 0, none⟩ = some (pv p)) :
    SeqStopsK Fence.wide n Tryd.prog 43 #[.pointer (some ⟨bS, 0, none⟩)] (fun y : Ie os => #[.int .i64 (y.i : Int), y.o.val]) (KS p A ps) (EltsI os.length) (fun pre => ∃ k, k ≤ os.length ∧ EltsI k pre) os.length w0 := by
  intro l J Jx W hb hJ hJx hY h0
  have hFw : ∀ f, Fence.wide.fn f := fun _ => trivial
  have hbox' := (hb.cell (p := ⟨bS, 0, none⟩) (World.block_lt_of_cell? w0 _ hbox)).trans hbox
  have HS := Lib.hid (h.below hb)
  have c0 := HS.out.c0
  have HJ := Lib.hid hJ
  have HY := Lib.hid hY
  have HN := Lib.hid hN
  clear hbox h hJ hJx hY hb hN
  refine callsIn_of_wp Tryd.func43 rfl trivial ?_ rfl
  simp only [Tryd.ntmps43, List.size_toArray, List.length_cons, List.length_nil, Nat.reduceAdd, Nat.reduceSub, Array.replicate_succ, Array.replicate_zero, List.push_toArray, List.append_toArray, List.nil_append, List.cons_append]
  gi_wp2_with (gi_at_call 39; refine ((callsIn_wide (n := n - 1)).2 (there_yes HS.out HN.out)).mono ?_; rintro e w' ⟨rfl, rfl⟩)
  gi_loopw [3, 4, 13] (fun _ _ i wr => ∃ k : Nat, k ≤ os.length ∧ i = .int .i64 k ∧ ∃ pre, EltsI k pre ∧ J pre wr ∧ StAt wr base p A cap ps os) (fun _ _ i _ => os.length - (intOf i).toNat)
  case atStart => exact ⟨0, Nat.zero_le _, rfl, [], ⟨rfl, by simp⟩, h0, HS.out⟩
  case round =>
    obtain ⟨k, hk, rfl, pre, hpre, hJs, hst⟩ := hrel
    by_cases hlt : k < os.length
    · obtain ⟨g, b, o, rfl, hc, ho, hob⟩ := hst.at_ hlt
      obtain ⟨fn, tmps, assign, body, hy, hR⟩ := HY.out pre ⟨k, hlt⟩ _ hJs (by rw [hpre.1]; exact hlt)
      have HRR := Lib.hid hR
      have HE : (Ie.o ⟨k, hlt⟩ : Oj) = o := ho
      rw [HE] at hy
      have HO := Lib.hid hob
      have HP := Lib.hid hpre
      have HST := Lib.hid hst
      have HLT := Lib.hid hlt
      have i2 : (k : Int) < (os.length : Int) := by omega
      clear hR hob hpre hst hJs ho HE
      gi_wp2_with (refine wpListIn_ob rfl (.tmp 21) rfl b 0 rfl o HO.out ?_)
      refine HRR.out.mono ?_
      rintro e W3 (⟨rfl, hJ3, hk3⟩ | ⟨rfl, hJx3⟩)
      · have HS3 := Lib.hid (HST.out.keep hk3)
        have HP3 := Lib.hid (HP.out.snoc ⟨k, HLT.out⟩ rfl)
        have HJ3 := Lib.hid hJ3
        clear hJ3 hk3
        gi_wp2
        go_roundw
        case rel => exact ⟨k + 1, by omega, by go_num, _, HP3.out, HJ3.out, HS3.out⟩
        case measure => simp [intOf]; omega
      · have HP3 := Lib.hid (HP.out.snoc ⟨k, HLT.out⟩ rfl)
        have HJ3 := Lib.hid hJx3
        clear hJx3
        gi_wp2
        refine bodyPost_ret (results_none rfl _ _ _) rfl ?_
        exact ⟨⟨_, rfl⟩, .inr ⟨_, ⟨k + 1, by omega, HP3.out⟩, HJ3.out⟩⟩
    · obtain rfl : k = os.length := by omega
      gi_wp2
      go_end0
      exact ⟨⟨_, rfl⟩, .inl ⟨pre, hpre, hJs⟩⟩
end
theorem KS.put {w W : World} {base p : Nat} {A : Option Addr} {cap : Nat} {ps : List Nat} {os : List Oj} (h : StAt w base p A cap ps os) (l : Nat) (o o' : Obj) (hl : w.heap.size ≤ l) (_ : W.heap[l]? = some o) (_ : o.isCells = false) (_ : o.isWalk = false) : KS p A ps W (W.putObj l o') := by
  intro k hk
  have := (h.lt k hk).2
  simp only [World.putObj]
  rw [Array.getElem?_setIfInBounds_ne (by omega)]
theorem KS.trans {p : Nat} {A : Option Addr} {ps : List Nat} {X Y Z : World} (h : KS p A ps X Y) (k : KS p A ps Y Z) : KS p A ps X Z := fun b hb => (k b hb).trans (h b hb)
theorem own_blk {β : Type} (B : Nat) (g : Nat) (t : TypeId) (f : β → Array Value) : OwnFrom B (fun (s : β) W => Blk W g t (f s)) := fun s X Y row hs hg hr =>
  (hg.block g hs.lt (fun e => by obtain ⟨_, o, ho, hc⟩ := hr g e.symm; unfold Blk at hs; rw [hs] at ho; cases ho; cases hc)).trans hs
theorem own_size {β : Type} (B n : Nat) : OwnFrom B (fun (_ : β) W => n ≤ W.heap.size) := fun _ _ _ _ hs hg _ => Nat.le_trans hs hg.size
theorem own_st {β : Type} {B B0 base p : Nat} {A : Option Addr} {cap : Nat} {ps : List Nat} {os : List Oj} (hL : ∀ k, stHas p A ps k → k < B0) (hB : B0 ≤ B) : OwnFrom B (fun (_ : β) W => StAt W base p A cap ps os) := fun _ X Y row hs hg hr =>
  hs.keep fun k hk => hg.block k (hs.lt k hk).2 (fun e => by have := (hr k e.symm).1; have := hL k hk; omega)
end Go.Proofs.YtlhlgfehbfankaaDoor

/- objects: All, and a range over it. -/
import Derived.RangeFuncNested
import Derived.RangeFuncBound
import Derived.RangeFuncCalls
import Derived.RangeFuncLeaves
import Derived.RangeFuncBox
import Derived.RangeFuncFrom
import Derived.Shelf.Abstract
import Derived.Shelf.RegionOpen
import Derived.WalkKit
import Derived.OwnWalkIn
import Derived.TacticsInMore
import Derived.LoopNIn
import Derived.LoopIn
import Derived.Test.YtfckdbennjkgoaaDoorR10
import Derived.Test.YtfckdbennjkgoaaDoorR09
namespace Go.Proofs.YtfckdbennjkgoaaDoor
open Go.RowKit Go.Shelf
attribute [local go_sem] Oper.semAt_some
set_option maxRecDepth 8000 in
theorem all_any (P : Value) (hP : P = .pointer none ∨ ∃ q, P = pv q) (w : World) : Calls Tryd.prog 31 #[P] w fun e w' => e = .returned (.func (.func 56) #[] #[.pointer (some ⟨w.heap.size, 0, none⟩)]) ∧ w.alloc (.cells #[P] 25) = w' := by
  rcases hP with rfl | ⟨q, rfl⟩
  all_goals
    go_enter Tryd.func31, Tryd.ntmps31
    go_wp2
    go_ret
    exact ⟨rfl, rfl⟩
set_option maxRecDepth 8000 in
theorem fn_equalIn (w : World) (d : Nat) (f : Fn) (a b : Array Value) : (Op.equalIn (d + 1) 91 (.func f a b) .nilFunc).run Tryd.prog w = .ok false w := by
  simp [Op.equalIn, run_underlying Tryd.underlying91]
set_option maxRecDepth 8000 in
theorem fn_eql (w : World) (f : Fn) (a b : Array Value) : (binOp .eql 91 (.func f a b) .nilFunc).run Tryd.prog w = .ok (.bool false) w := by
  have := fn_equalIn w 9999 f a b
  simp only [binOp]
  simp [show Op.equal 91 (.func f a b) .nilFunc = Op.equalIn (9999 + 1) 91 (.func f a b) .nilFunc from rfl, this]
/-- what comes: a place -/
structure Ie (os : List Oj) where
  i : Nat
  lt : i < os.length
def Ie.o {os : List Oj} (y : Ie os) : Oj := os[y.i]'y.lt
/-- what has come: the first so many, in order -/
def EltsI {os : List Oj} (k : Nat) (xs : List (Ie os)) : Prop := xs.length = k ∧ ∀ (i : Nat) (y : Ie os), xs[i]? = some y → y.i = i
set_option maxRecDepth 8000 in
theorem EltsI.snoc {os : List Oj} {k : Nat} {xs : List (Ie os)} (h : EltsI k xs) (x : Ie os) (hx : x.i = k) : EltsI (k + 1) (xs ++ [x]) := by
  refine ⟨by simp [h.1], fun i y hy => ?_⟩
  rcases Nat.lt_or_ge i xs.length with hi | hi
  · rw [List.getElem?_append_left hi] at hy
    exact h.2 i y hy
  · rw [List.getElem?_append_right hi] at hy
    have hi' : i = xs.length := by
      rcases Nat.eq_or_lt_of_le hi with e | e
      · exact e.symm
      · rw [List.getElem?_eq_none (by simp; omega)] at hy; cases hy
    subst hi'
    rw [Nat.sub_self] at hy
    simp only [List.getElem?_cons_zero, Option.some.injEq] at hy
    subst hy
    rw [h.1]
    exact hx
theorem EltsI.last {os : List Oj} {k : Nat} {pre : List (Ie os)} {x : Ie os} (h : EltsI k (pre ++ [x])) : x.i = pre.length := h.2 pre.length x (by simp)
/-- the blocks of a store lie as they lay -/
def KS (p : Nat) (A : Option Addr) (ps : List Nat) (W W' : World) : Prop := ∀ k, stHas p A ps k → W'.heap[k]? = W.heap[k]?
section
variable {F : Fence} {n : Nat} {w : World} {ops : Array Oper} {rest : List Oper} {o : Oper} {a : Act} {Q : Exit → Act → World → Prop}
set_option maxRecDepth 8000 in
theorem wpListIn_ob (hgd : o.guard = none) (x : Operand) (ho : o.op = .load 52 x) (b off : Nat) (hx : a.eval x = .pointer (some ⟨b, off, none⟩)) (u : Oj) (hc : ObAt w b off u)
    (h : wpListIn F n Tryd.prog ops Q rest (a.put o.dst u.val) w) : wpListIn F n Tryd.prog ops Q (o :: rest) a w := by
  refine wpListIn_plain hgd fun K hK' => ?_
  unfold Oper.wpIn
  refine ⟨?_, ?_⟩
  · simp [Oper.about, ho]
  · rw [Oper.semAt_plain F _ _ (by rw [ho]; intro c hc'; cases hc')]
    simp only [execOp, ho, hx, run_loadAt_mid w b off 52 u.cells _ hc Tryd.underlying52 rfl (by rw [u.len]; exact size34), Sem.run_bind, Result.andThen]
    exact hK' _ _ h
set_option maxRecDepth 8000 in
theorem wpListIn_store_last {W : World} {t : TypeId} (hgd : o.guard = none) (x y : Operand) (ho : o.op = .store 52 x y) (b : Nat) (hb : b = W.heap.size) (hx : a.eval x = .pointer (some ⟨b, 0, none⟩)) (u u0 : Oj) (hy : a.eval y = u.val)
    (h : wpListIn F n Tryd.prog ops Q rest (a.put o.dst undef) (W.alloc (.cells u.cells.toArray t))) : wpListIn F n Tryd.prog ops Q (o :: rest) a (W.alloc (.cells u0.cells.toArray t)) := by
  subst hb
  refine wpListIn_plain hgd fun K hK' => ?_
  unfold Oper.wpIn
  refine ⟨?_, ?_⟩
  · simp [Oper.about, ho]
  · rw [Oper.semAt_plain F _ _ (by rw [ho]; intro c hc'; cases hc')]
    have hs := run_storeVar_part (P := Tryd.prog) (off := 0) 52 (Blk.new W t u0.cells.toArray) (ys := u.cells) (by rw [u.len, u0.len]; omega) (by rw [u.len]; exact size34) u.one
    have e : u0.cells.take 0 ++ u.cells ++ u0.cells.drop (0 + u.cells.length) = u.cells := by
      rw [List.drop_eq_nil_of_le (by rw [u.len, u0.len]; omega), List.append_nil]
      rfl
    rw [e, World.setRow_alloc_new] at hs
    simp only [execOp, ho, hx, hy, Instr.storeAt, Instr.sureAddr, hs, Sem.run_bind, Sem.run_pure, Result.andThen_ok]
    exact hK' _ _ h
set_option maxRecDepth 8000 in
theorem y_obne_self {S : World → Prop} {p q : Operand} (hw : Region.wanted o (yielded ops a.tmps) = true) (ho : o.op = .binOp .neq 52 p q 52) (x : Oj) (hx : a.eval p = x.val) (hy : a.eval q = x.val) : YieldsIf Tryd.prog ops S o (.bool false) a := by
  have := y_obne (S := S) hw ho x x hx hy
  simpa using this
end
set_option maxRecDepth 8000 in
theorem results_bool {fn : Func} {p : Tmp} (h : fn.results = #[.cell p 4]) (tmps : Array Value) (w : World) (g : Nat) (b : Bool)
    (hp : tmps.getD p undef = .pointer (some ⟨g, 0, none⟩)) (hg : w.cell? ⟨g, 0, none⟩ = some (.bool b)) : (results fn tmps).run Tryd.prog w = .ok (.bool b) w := by
  have hp' : tmps[p]?.getD undef = .pointer (some ⟨g, 0, none⟩) := by simpa using hp
  simp [results, h, hp', asAddr, loadVar, isAgg, run_underlying Tryd.underlying4, hg]
section
variable {w0 : World} {base p : Nat} {A : Option Addr} {cap : Nat} {ps : List Nat} {os : List Oj}
set_option maxRecDepth 100000 in
set_option maxHeartbeats 2000000 in
theorem all1_in (n : Nat) (hn : 1 ≤ n) (bS : Nat) (h : StAt w0 base p A cap ps os) (hN : 0 < os.length) (hN' : os.length ≤ 1000) (hbox : w0.cell? ⟨bS, 0, none⟩ = some (pv p)) :
    SeqStopsK Fence.wide n Tryd.prog 56 #[.pointer (some ⟨bS, 0, none⟩)] (fun y : Ie os => #[.int .i64 (y.i : Int), y.o.val]) (KS p A ps) (EltsI os.length) (fun pre => ∃ k, k ≤ os.length ∧ EltsI k pre) os.length w0 := by
  intro l J Jx W hb hJ hJx hY h0
  have hFw : ∀ f, Fence.wide.fn f := fun _ => trivial
  have hbox' := (hb.cell (p := ⟨bS, 0, none⟩) (World.block_lt_of_cell? w0 _ hbox)).trans hbox
  have HS := Lib.hid (h.below hb)
  have c0 := HS.out.c0
  have HJ := Lib.hid hJ
  have HY := Lib.hid hY
  have HN := Lib.hid hN
  clear hbox h hJ hJx hY hb hN
  refine callsIn_of_wp Tryd.func56 rfl trivial ?_ rfl
  simp only [Tryd.ntmps56, List.size_toArray, List.length_cons, List.length_nil, Nat.reduceAdd, Nat.reduceSub, Array.replicate_succ, Array.replicate_zero, List.push_toArray, List.append_toArray, List.nil_append, List.cons_append]
  gi_wp2_with (gi_at_call 57; refine ((callsIn_wide (n := n - 1)).2 (there_yes HS.out HN.out)).mono ?_; rintro e w' ⟨rfl, rfl⟩)
  gi_loopw [3, 4, 13] (fun _ _ i wr => ∃ k : Nat, k ≤ os.length ∧ i = .int .i64 k ∧ ∃ pre, EltsI k pre ∧ J pre wr ∧ StAt wr base p A cap ps os) (fun _ _ i _ => os.length - (intOf i).toNat)
  case atStart => exact ⟨0, Nat.zero_le _, rfl, [], ⟨rfl, by simp⟩, h0, HS.out⟩
  case round =>
    obtain ⟨k, hk, rfl, pre, hpre, hJs, hst⟩ := hrel
    by_cases hlt : k < os.length
    · obtain ⟨g, b, o, rfl, hc, ho, hob⟩ := hst.at_ hlt
      obtain ⟨fn, tmps, assign, body, hy, hR⟩ := HY.out pre ⟨k, hlt⟩ _ hJs (by rw [hpre.1]; exact hlt)
      have HRR := Lib.hid hR
      have HE : (Ie.o ⟨k, hlt⟩ : Oj) = o := ho
      rw [HE] at hy
      have HO := Lib.hid hob
      have HP := Lib.hid hpre
      have HST := Lib.hid hst
      have HLT := Lib.hid hlt
      have i2 : (k : Int) < (os.length : Int) := by omega
      clear hR hob hpre hst hJs ho HE
      gi_wp2_with (refine wpListIn_ob rfl (.tmp 21) rfl b 0 rfl o HO.out ?_)
      refine HRR.out.mono ?_
      rintro e W3 (⟨rfl, hJ3, hk3⟩ | ⟨rfl, hJx3⟩)
      · have HS3 := Lib.hid (HST.out.keep hk3)
        have HP3 := Lib.hid (HP.out.snoc ⟨k, HLT.out⟩ rfl)
        have HJ3 := Lib.hid hJ3
        clear hJ3 hk3
        gi_wp2
        go_roundw
        case rel => exact ⟨k + 1, by omega, by go_num, _, HP3.out, HJ3.out, HS3.out⟩
        case measure => simp [intOf]; omega
      · have HP3 := Lib.hid (HP.out.snoc ⟨k, HLT.out⟩ rfl)
        have HJ3 := Lib.hid hJx3
        clear hJx3
        gi_wp2
        refine bodyPost_ret (results_none rfl _ _ _) rfl ?_
        exact ⟨⟨_, rfl⟩, .inr ⟨_, ⟨k + 1, by omega, HP3.out⟩, HJ3.out⟩⟩
    · obtain rfl : k = os.length := by omega
      gi_wp2
      go_end0
      exact ⟨⟨_, rfl⟩, .inl ⟨pre, hpre, hJs⟩⟩
end
set_option maxRecDepth 8000 in
theorem KS.put {w W : World} {base p : Nat} {A : Option Addr} {cap : Nat} {ps : List Nat} {os : List Oj} (h : StAt w base p A cap ps os) (l : Nat) (o o' : Obj) (hl : w.heap.size ≤ l) (_ : W.heap[l]? = some o) (_ : o.isCells = false) (_ : o.isWalk = false) : KS p A ps W (W.putObj l o') := by
  intro k hk
  have := (h.lt k hk).2
  simp only [World.putObj]
  rw [Array.getElem?_setIfInBounds_ne (by omega)]
theorem KS.trans {p : Nat} {A : Option Addr} {ps : List Nat} {X Y Z : World} (h : KS p A ps X Y) (k : KS p A ps Y Z) : KS p A ps X Z := fun b hb => (k b hb).trans (h b hb)
theorem own_blk {β : Type} (B : Nat) (g : Nat) (t : TypeId) (f : β → Array Value) : OwnFrom B (fun (s : β) W => Blk W g t (f s)) := fun s X Y row hs hg hr =>
  (hg.block g hs.lt (fun e => by obtain ⟨_, o, ho, hc⟩ := hr g e.symm; unfold Blk at hs; rw [hs] at ho; cases ho; cases hc)).trans hs
theorem own_size {β : Type} (B n : Nat) : OwnFrom B (fun (_ : β) W => n ≤ W.heap.size) := fun _ _ _ _ hs hg _ => Nat.le_trans hs hg.size
theorem own_st {β : Type} {B B0 base p : Nat} {A : Option Addr} {cap : Nat} {ps : List Nat} {os : List Oj} (hL : ∀ k, stHas p A ps k → k < B0) (hB : B0 ≤ B) : OwnFrom B (fun (_ : β) W => StAt W base p A cap ps os) := fun _ X Y row hs hg hr =>
  hs.keep fun k hk => hg.block k (hs.lt k hk).2 (fun e => by have := (hr k e.symm).1; have := hL k hk; omega)
end Go.Proofs.YtfckdbennjkgoaaDoor
namespace Go.Proofs.YtfckdbennjkgoaaDoor
open Go.RowKit
set_option maxRecDepth 8000 in
theorem infoOb : (Tryd.prog.info? 52).map (fun i => (i.zero, i.size, i.bytes)) = some (some oz.val, 163, 856) := by kernel_rfl
/-- n free ones, as they lie -/
def mkO (n : Nat) : List Value := (madeCells oz.cells.toArray (n * 163)).toList
set_option maxRecDepth 8000 in
theorem made_get (z : List Value) (hl : z.length = 163) (n i j : Nat) (hi : i < n) (hj : j < 163) : (madeCells z.toArray (n * 163)).toList[i * 163 + j]? = z[j]? := by
  unfold madeCells
  rw [Array.getElem?_toList, Array.getElem?_map, Array.getElem?_range, if_pos (by
    have : (i + 1) * 163 ≤ n * 163 := Nat.mul_le_mul_right _ hi
    omega)]
  have e : (i * 163 + j) % 163 = j := by rw [Nat.mul_comm, Nat.mul_add_mod]; exact Nat.mod_eq_of_lt hj
  have hj' : j < z.length := by omega
  simp only [Option.map_some, List.size_toArray, hl, e]
  rw [List.getElem?_eq_getElem hj']
  congr 1
  rw [getElem!_pos z.toArray j (by simpa using hj')]
  simp
theorem mkO_get (n i j : Nat) (hi : i < n) (hj : j < 163) : (mkO n)[i * 163 + j]? = oz.cells[j]? := made_get oz.cells oz_len n i j hi hj
set_option maxRecDepth 8000 in
theorem mk_rdo {w : World} {g : Nat} {t : TypeId} (n : Nat) (h : Blk w g t (mkO n).toArray) : RdO w (some ⟨g, 0, none⟩) (List.replicate n oz) := fun i hi => by
  have hi' : i < n := by simpa using hi
  refine ⟨g, 0, rfl, fun j v hv => ?_⟩
  rw [List.getElem_replicate] at hv
  have hj : j < 163 := by have := (List.getElem?_eq_some_iff.1 hv).1; have := oz_len; omega
  rw [Nat.zero_add, h.cell, ← hv, ← mkO_get n i j hi' hj]
  simp
set_option maxRecDepth 8000 in
theorem run_mk (n : Nat) (hn : n ≤ 64) (w : World) : (Instr.makeSlice 22 (.int .i64 (n : Int)) (.int .i64 (n : Int))).run Tryd.prog w = .ok (.slice (some ⟨w.heap.size, 0, none⟩) n n) (w.alloc (.cells (mkO n).toArray 52)) := by
  obtain ⟨i, hi, hz, hs, hb⟩ := info_parts infoOb
  have hr := run_make (P := Tryd.prog) w 22 52 i oz.val Tryd.underlying22 hi hz .i64 .i64 n n (by omega) (Int.le_refl _) (by rw [hb]; omega) (by omega)
  rw [hs, Int.toNat_natCast] at hr
  rw [hr]
  rfl
theorem oz_ok {n : Int} (h1 : 1 ≤ n) (h2 : n ≤ 64) : oz.ok n := ⟨⟨h1, h2⟩, by decide, by decide, .inr (.inr ⟨.inl rfl, rfl, rfl, rfl⟩)⟩
theorem okAll_oz {n : Nat} (h1 : 1 ≤ n) (h2 : n ≤ 64) : okAll (n : Int) (List.replicate n oz) := fun x hx => by
  obtain rfl := (List.mem_replicate.1 hx).2
  exact oz_ok (by omega) (by omega)
set_option maxRecDepth 8000 in
theorem ofN (g n : Nat) (w : World) (hT : Tab w) (hr : RdO w (some ⟨g, 0, none⟩) (List.replicate n oz)) (h1 : 1 ≤ n) (h2 : n ≤ 64) :
    Calls Tryd.prog 23 #[.slice (some ⟨g, 0, none⟩) n n] w fun e w' => e = .returned (.tuple #[pv w.heap.size, .int .i64 0]) ∧ (∃ A' cap' ps, StAt w' w.heap.size w.heap.size A' cap' ps (List.replicate n oz)) ∧ Below w.heap.size w w' := by
  have hl : (List.replicate n oz).length = n := List.length_replicate
  have := of_any (some ⟨g, 0, none⟩) (List.replicate n oz) n w hT hr (by omega) (by omega)
  rw [hl] at this
  refine this.mono ?_
  rintro e w' ⟨⟨A', cap', ps, he, hs, _⟩ | ⟨_, hno⟩, hb⟩
  · exact ⟨he, ⟨_, _, _, hs⟩, hb⟩
  · exact absurd (okAll_oz h1 h2) hno
end Go.Proofs.YtfckdbennjkgoaaDoor
namespace Go.Proofs.YtfckdbennjkgoaaDoor
open Go.RowKit
attribute [local go_sem] Oper.semAt_some
set_option maxRecDepth 100000 in
set_option maxHeartbeats 2000000 in
theorem rcou_bad (x : Ky) (l : List Value) (kk cc ll : Int) (w : World) (ho : Ob l kk cc ll) (h : ¬ x.ok) :
    Calls Tryd.prog 54 #[x.val, .agg l.toArray] w fun e w' => e = .returned (.bool false) ∧ Below w.heap.size w w' := by
  have HO := Lib.hid ho
  have HK := Lib.hid h
  clear h
  clear ho
  go_enter Tryd.func54, Tryd.ntmps54
  go_wp2_with (first
    | (go_at_call 52; refine (rchk_no x.k x.o x.c x.l x.r x.v _ HK.out).mono ?_; rintro e w1 ⟨rfl, b1⟩; obtain ⟨B1, B2, b2⟩ := box2 b1; have HB := Lib.hid b2; have H1 := Lib.hid B1; have H2 := Lib.hid B2; clear b1; obtain ⟨c0, c1, c2, c3, c4, c5⟩ := B1.six; obtain ⟨d0, d1, d2⟩ := ob3 B2 HO.out; clear B1 B2 b2))
  go_ret
  exact ⟨rfl, HB.out⟩
set_option maxRecDepth 100000 in
set_option maxHeartbeats 2000000 in
theorem rcou_none (x : Ky) (l : List Value) (kk cc ll : Int) (w : World) (ho : Ob l kk cc ll) (h : x.ok) (hf : ¬ x.of) :
    Calls Tryd.prog 54 #[x.val, .agg l.toArray] w fun e w' => e = .returned (.bool true) ∧ Below w.heap.size w w' := by
  have HO := Lib.hid ho
  have HK := Lib.hid h
  have HF := Lib.hid hf
  clear h hf
  clear ho
  go_enter Tryd.func54, Tryd.ntmps54
  go_wp2_with (first
    | (go_at_call 52; refine (rchk_ok x.k x.o x.c x.l x.r x.v _ HK.out).mono ?_; rintro e w1 ⟨rfl, b1⟩; obtain ⟨B1, B2, b2⟩ := box2 b1; have HB := Lib.hid b2; have H1 := Lib.hid B1; have H2 := Lib.hid B2; clear b1; obtain ⟨c0, c1, c2, c3, c4, c5⟩ := B1.six; obtain ⟨d0, d1, d2⟩ := ob3 B2 HO.out; clear B1 B2 b2)
    | (go_at_call 53; refine (rname_no x _ HF.out).mono ?_; rintro e w2 ⟨rfl, b2⟩; have HB2 := Lib.hid (HB.out.trans (b2.mono HB.out.size)); have P1 := Lib.hid (H1.out.keep b2); have P2 := Lib.hid (H2.out.keep b2); clear b2 c0 c1 c2 c3 c4 c5 d0 d1 d2))
  go_ret
  exact ⟨rfl, HB2.out⟩
set_option maxRecDepth 100000 in
set_option maxHeartbeats 2000000 in
theorem rcou_k (x : Ky) (l : List Value) (kk cc ll : Int) (w : World) (ho : Ob l kk cc ll) (hf : x.of) (hk : x.want ≠ kk) :
    Calls Tryd.prog 54 #[x.val, .agg l.toArray] w fun e w' => e = .returned (.bool false) ∧ Below w.heap.size w w' := by
  have HO := Lib.hid ho
  have HF := Lib.hid hf
  have HK := Lib.hid hf.1
  have h0 := of_o hf
  have h0' : ¬ x.o < 0 := by omega
  have d0 : decide (x.o < 0) = false := by simpa using h0'
  clear h0 h0'
  obtain ⟨wv, hwv⟩ : ∃ y : Int, x.want = y := ⟨_, rfl⟩
  have HW := Lib.hid hwv
  rw [hwv] at hk
  clear hf hwv
  have dk : (kk == wv) = false := by simp; exact fun e => hk e.symm
  clear hk
  clear ho
  go_enter Tryd.func54, Tryd.ntmps54
  go_wp2_with (first
    | (go_at_call 52; refine (rchk_ok x.k x.o x.c x.l x.r x.v _ HK.out).mono ?_; rintro e w1 ⟨rfl, b1⟩; obtain ⟨B1, B2, b2⟩ := box2 b1; have HB := Lib.hid b2; have H1 := Lib.hid B1; have H2 := Lib.hid B2; clear b1; obtain ⟨c0, c1, c2, c3, c4, c5⟩ := B1.six; obtain ⟨d0, d1, d2⟩ := ob3 B2 HO.out; clear B1 B2 b2)
    | (go_at_call 53; refine (rname_yes x _ HF.out).mono ?_; rintro e w2 ⟨rfl, b2⟩; have HB2 := Lib.hid (HB.out.trans (b2.mono HB.out.size)); have P1 := Lib.hid (H1.out.keep b2); have P2 := Lib.hid (H2.out.keep b2); clear b2 c0 c1 c2 c3 c4 c5 d0 d1 d2))
  refine wp_region_only (S := fun w' => (w'.cell? ⟨w.heap.size, 0, none⟩ = some (.int .i64 x.k) ∧ w'.cell? ⟨w.heap.size, 1, none⟩ = some (.int .i64 x.o) ∧ w'.cell? ⟨w.heap.size, 2, none⟩ = some (.int .i64 x.c) ∧ w'.cell? ⟨w.heap.size, 3, none⟩ = some (.int .i64 x.l) ∧ w'.cell? ⟨w.heap.size, 4, none⟩ = some (.int .i64 x.r) ∧ w'.cell? ⟨w.heap.size, 5, none⟩ = some (.int .i64 x.v)) ∧ (w'.cell? ⟨w.heap.size + 1, 0, none⟩ = some (.int .i64 kk) ∧ w'.cell? ⟨w.heap.size + 1, 1, none⟩ = some (.int .i64 cc) ∧ w'.cell? ⟨w.heap.size + 1, 2, none⟩ = some (.int .i64 ll))) (by kernel_rfl) ⟨P1.out.drew.six, ob3 P2.out.drew HO.out⟩ (fun hHeld => ?_)
  refine wpAnyH_take (i := 0) (v := ?v1) rfl (by kernel_rfl) (by kernel_rfl) (by kernel_rfl) (fun _ _ _ h => h) (Or.inl ⟨by rfl, ?hy1⟩) hHeld ?rest1
  case hy1 =>
    intro w' hSw
    try dsimp only at hSw
    go_simp
    first | done | with_reducible rfl
  try simp only [Act.put, List.getElem_toArray, List.getElem_cons_zero, List.setIfInBounds_toArray, List.set_cons_zero, List.set_cons_succ]
  refine wpAnyH_take (i := 1) (v := ?v2) rfl (by kernel_rfl) (by kernel_rfl) (by kernel_rfl) (fun _ _ _ h => h) (Or.inl ⟨by rfl, ?hy2⟩) hHeld ?rest2
  case hy2 =>
    intro w' hSw
    try dsimp only at hSw
    go_simp
    first | done | with_reducible rfl
  try simp only [Act.put, List.getElem_toArray, List.getElem_cons_succ, List.getElem_cons_zero, List.setIfInBounds_toArray, List.set_cons_zero, List.set_cons_succ]
  refine wpAnyH_take (i := 2) (v := ?v3) rfl (by kernel_rfl) (by kernel_rfl) (by kernel_rfl) (fun _ _ _ h => h) (Or.inl ⟨by rfl, ?hy3⟩) hHeld ?rest3
  case hy3 =>
    intro w' hSw
    try dsimp only at hSw
    go_simp
    first | done | with_reducible rfl
  try simp only [Act.put, List.getElem_toArray, List.getElem_cons_succ, List.getElem_cons_zero, List.setIfInBounds_toArray, List.set_cons_zero, List.set_cons_succ]
  refine wpAnyH_ready (rs := [3]) (by kernel_rfl) (by simp) ?_
  refine AllReadyH.cons (by rfl) (fun K hK => ?_) AllReadyH.nil
  go_simp
  refine (HW.out ▸ rwant_any x _).mono ?_
  rintro e w3 ⟨rfl, b3⟩
  have HB3 := Lib.hid ((below_drew HB2.out).trans (b3.mono HB2.out.size))
  have Q1 := Lib.hid (P1.out.drew.keep b3)
  have Q2 := Lib.hid (P2.out.drew.keep b3)
  clear b3 hHeld
  go_wp2_with fail
  refine hK.out _ _ ⟨Q1.out.six, ob3 Q2.out HO.out⟩ (fun hHeld => ?_)
  clear hK K
  try simp only [Act.put, List.getElem_toArray, List.getElem_cons_succ, List.getElem_cons_zero, List.setIfInBounds_toArray, List.set_cons_zero, List.set_cons_succ]
  refine wpAnyH_take (i := 4) (v := ?v4) rfl (by kernel_rfl) (by kernel_rfl) (by kernel_rfl) (fun _ _ _ h => h) (Or.inl ⟨by rfl, ?hy4⟩) hHeld ?rest4
  case hy4 =>
    intro w' hSw
    try dsimp only at hSw
    go_simp
    first | done | with_reducible rfl
  try simp only [Act.put, List.getElem_toArray, List.getElem_cons_succ, List.getElem_cons_zero, List.setIfInBounds_toArray, List.set_cons_zero, List.set_cons_succ]
  refine wpAnyH_take (i := 5) (v := ?v5) rfl (by kernel_rfl) (by kernel_rfl) (by kernel_rfl) (fun _ _ _ h => h) (Or.inl ⟨by rfl, ?hy5⟩) hHeld ?rest5
  case hy5 =>
    intro w' hSw
    try dsimp only at hSw
    go_simp
    first | done | with_reducible rfl
  try simp only [Act.put, List.getElem_toArray, List.getElem_cons_succ, List.getElem_cons_zero, List.setIfInBounds_toArray, List.set_cons_zero, List.set_cons_succ]
  refine wpAnyH_take (i := 6) (v := undef) rfl (by kernel_rfl) (by kernel_rfl) (by kernel_rfl) (fun _ _ _ h => h) (Or.inr ⟨by rfl, rfl⟩) hHeld ?_
  try simp only [Act.put, List.getElem_toArray, List.getElem_cons_succ, List.getElem_cons_zero, List.setIfInBounds_toArray, List.set_cons_zero, List.set_cons_succ]
  refine wpAnyH_take (i := 7) (v := undef) rfl (by kernel_rfl) (by kernel_rfl) (by kernel_rfl) (fun _ _ _ h => h) (Or.inr ⟨by rfl, rfl⟩) hHeld ?_
  try simp only [Act.put, List.getElem_toArray, List.getElem_cons_succ, List.getElem_cons_zero, List.setIfInBounds_toArray, List.set_cons_zero, List.set_cons_succ]
  refine wpAnyH_take (i := 8) (v := undef) rfl (by kernel_rfl) (by kernel_rfl) (by kernel_rfl) (fun _ _ _ h => h) (Or.inr ⟨by rfl, rfl⟩) hHeld ?_
  try simp only [Act.put, List.getElem_toArray, List.getElem_cons_succ, List.getElem_cons_zero, List.setIfInBounds_toArray, List.set_cons_zero, List.set_cons_succ]
  refine wpAnyH_take (i := 9) (v := undef) rfl (by kernel_rfl) (by kernel_rfl) (by kernel_rfl) (fun _ _ _ h => h) (Or.inr ⟨by rfl, rfl⟩) hHeld ?_
  try simp only [Act.put, List.getElem_toArray, List.getElem_cons_succ, List.getElem_cons_zero, List.setIfInBounds_toArray, List.set_cons_zero, List.set_cons_succ]
  refine wpAnyH_take (i := 10) (v := undef) rfl (by kernel_rfl) (by kernel_rfl) (by kernel_rfl) (fun _ _ _ h => h) (Or.inr ⟨by rfl, rfl⟩) hHeld ?_
  try simp only [Act.put, List.getElem_toArray, List.getElem_cons_succ, List.getElem_cons_zero, List.setIfInBounds_toArray, List.set_cons_zero, List.set_cons_succ]
  refine wpAnyH_take (i := 11) (v := ?v6) rfl (by kernel_rfl) (by kernel_rfl) (by kernel_rfl) (fun _ _ _ h => h) (Or.inl ⟨by rfl, ?hy6⟩) hHeld ?rest6
  case hy6 =>
    intro w' hSw
    try dsimp only at hSw
    go_simp
    first | done | with_reducible rfl
  try simp only [Act.put, List.getElem_toArray, List.getElem_cons_succ, List.getElem_cons_zero, List.setIfInBounds_toArray, List.set_cons_zero, List.set_cons_succ]
  refine wpAnyH_take (i := 12) (v := ?v7) rfl (by kernel_rfl) (by kernel_rfl) (by kernel_rfl) (fun _ _ _ h => h) (Or.inl ⟨by rfl, ?hy7⟩) hHeld ?rest7
  case hy7 =>
    intro w' hSw
    try dsimp only at hSw
    go_simp
    first | done | with_reducible rfl
  try simp only [Act.put, List.getElem_toArray, List.getElem_cons_succ, List.getElem_cons_zero, List.setIfInBounds_toArray, List.set_cons_zero, List.set_cons_succ]
  refine wpAnyH_take (i := 13) (v := undef) rfl (by kernel_rfl) (by kernel_rfl) (by kernel_rfl) (fun _ _ _ h => h) (Or.inr ⟨by rfl, rfl⟩) hHeld ?_
  try simp only [Act.put, List.getElem_toArray, List.getElem_cons_succ, List.getElem_cons_zero, List.setIfInBounds_toArray, List.set_cons_zero, List.set_cons_succ]
  refine wpAnyH_take (i := 14) (v := undef) rfl (by kernel_rfl) (by kernel_rfl) (by kernel_rfl) (fun _ _ _ h => h) (Or.inr ⟨by rfl, rfl⟩) hHeld ?_
  try simp only [Act.put, List.getElem_toArray, List.getElem_cons_succ, List.getElem_cons_zero, List.setIfInBounds_toArray, List.set_cons_zero, List.set_cons_succ]
  refine wpAnyH_take (i := 15) (v := undef) rfl (by kernel_rfl) (by kernel_rfl) (by kernel_rfl) (fun _ _ _ h => h) (Or.inr ⟨by rfl, rfl⟩) hHeld ?_
  try simp only [Act.put, List.getElem_toArray, List.getElem_cons_succ, List.getElem_cons_zero, List.setIfInBounds_toArray, List.set_cons_zero, List.set_cons_succ]
  refine wpAnyH_take (i := 16) (v := undef) rfl (by kernel_rfl) (by kernel_rfl) (by kernel_rfl) (fun _ _ _ h => h) (Or.inr ⟨by rfl, rfl⟩) hHeld ?_
  try simp only [Act.put, List.getElem_toArray, List.getElem_cons_succ, List.getElem_cons_zero, List.setIfInBounds_toArray, List.set_cons_zero, List.set_cons_succ]
  refine wpAnyH_take (i := 17) (v := undef) rfl (by kernel_rfl) (by kernel_rfl) (by kernel_rfl) (fun _ _ _ h => h) (Or.inr ⟨by rfl, rfl⟩) hHeld ?_
  try simp only [Act.put, List.getElem_toArray, List.getElem_cons_succ, List.getElem_cons_zero, List.setIfInBounds_toArray, List.set_cons_zero, List.set_cons_succ]
  refine wpAnyH_take (i := 18) (v := undef) rfl (by kernel_rfl) (by kernel_rfl) (by kernel_rfl) (fun _ _ _ h => h) (Or.inr ⟨by rfl, rfl⟩) hHeld ?_
  try simp only [Act.put, List.getElem_toArray, List.getElem_cons_succ, List.getElem_cons_zero, List.setIfInBounds_toArray, List.set_cons_zero, List.set_cons_succ]
  refine wpAnyH_take (i := 19) (v := undef) rfl (by kernel_rfl) (by kernel_rfl) (by kernel_rfl) (fun _ _ _ h => h) (Or.inr ⟨by rfl, rfl⟩) hHeld ?_
  try simp only [Act.put, List.getElem_toArray, List.getElem_cons_succ, List.getElem_cons_zero, List.setIfInBounds_toArray, List.set_cons_zero, List.set_cons_succ]
  refine wpAnyH_take (i := 20) (v := undef) rfl (by kernel_rfl) (by kernel_rfl) (by kernel_rfl) (fun _ _ _ h => h) (Or.inr ⟨by rfl, rfl⟩) hHeld ?_
  try simp only [Act.put, List.getElem_toArray, List.getElem_cons_succ, List.getElem_cons_zero, List.setIfInBounds_toArray, List.set_cons_zero, List.set_cons_succ]
  refine wpAnyH_take (i := 21) (v := undef) rfl (by kernel_rfl) (by kernel_rfl) (by kernel_rfl) (fun _ _ _ h => h) (Or.inr ⟨by rfl, rfl⟩) hHeld ?_
  try simp only [Act.put, List.getElem_toArray, List.getElem_cons_succ, List.getElem_cons_zero, List.setIfInBounds_toArray, List.set_cons_zero, List.set_cons_succ]
  refine wpAnyH_take (i := 22) (v := undef) rfl (by kernel_rfl) (by kernel_rfl) (by kernel_rfl) (fun _ _ _ h => h) (Or.inr ⟨by rfl, rfl⟩) hHeld ?_
  try simp only [Act.put, List.getElem_toArray, List.getElem_cons_succ, List.getElem_cons_zero, List.setIfInBounds_toArray, List.set_cons_zero, List.set_cons_succ]
  refine wpAnyH_take (i := 23) (v := ?v8) rfl (by kernel_rfl) (by kernel_rfl) (by kernel_rfl) (fun _ _ _ h => h) (Or.inl ⟨by rfl, ?hy8⟩) hHeld ?rest8
  case hy8 =>
    intro w' hSw
    try dsimp only at hSw
    go_simp
    first | done | with_reducible rfl
  try simp only [Act.put, List.getElem_toArray, List.getElem_cons_succ, List.getElem_cons_zero, List.setIfInBounds_toArray, List.set_cons_zero, List.set_cons_succ]
  refine wpAnyH_take (i := 24) (v := ?v9) rfl (by kernel_rfl) (by kernel_rfl) (by kernel_rfl) (fun _ _ _ h => h) (Or.inl ⟨by rfl, ?hy9⟩) hHeld ?rest9
  case hy9 =>
    intro w' hSw
    try dsimp only at hSw
    go_simp
    first | done | with_reducible rfl
  try simp only [Act.put, List.getElem_toArray, List.getElem_cons_succ, List.getElem_cons_zero, List.setIfInBounds_toArray, List.set_cons_zero, List.set_cons_succ]
  refine wpAnyH_done (by kernel_rfl) ?_ _
  refine OnlyN.normal ?_
  clear hHeld
  go_wp2
  go_ret
  exact ⟨rfl, HB3.out⟩
set_option maxRecDepth 100000 in
set_option maxHeartbeats 2000000 in
theorem rcou_c (x : Ky) (l : List Value) (kk cc ll : Int) (w : World) (ho : Ob l kk cc ll) (hf : x.of) (hk : x.want = kk) (hc : x.c ≠ cc) :
    Calls Tryd.prog 54 #[x.val, .agg l.toArray] w fun e w' => e = .returned (.bool false) ∧ Below w.heap.size w w' := by
  have HO := Lib.hid ho
  have HF := Lib.hid hf
  have HK := Lib.hid hf.1
  have h0 := of_o hf
  have h0' : ¬ x.o < 0 := by omega
  have d0 : decide (x.o < 0) = false := by simpa using h0'
  clear h0 h0'
  obtain ⟨wv, hwv⟩ : ∃ y : Int, x.want = y := ⟨_, rfl⟩
  have HW := Lib.hid hwv
  rw [hwv] at hk
  clear hf hwv
  have hk' := hk.symm
  subst hk'
  clear hk
  have dc : (cc == x.c) = false := by simp; exact fun e => hc e.symm
  clear hc
  clear ho
  go_enter Tryd.func54, Tryd.ntmps54
  go_wp2_with (first
    | (go_at_call 52; refine (rchk_ok x.k x.o x.c x.l x.r x.v _ HK.out).mono ?_; rintro e w1 ⟨rfl, b1⟩; obtain ⟨B1, B2, b2⟩ := box2 b1; have HB := Lib.hid b2; have H1 := Lib.hid B1; have H2 := Lib.hid B2; clear b1; obtain ⟨c0, c1, c2, c3, c4, c5⟩ := B1.six; obtain ⟨d0, d1, d2⟩ := ob3 B2 HO.out; clear B1 B2 b2)
    | (go_at_call 53; refine (rname_yes x _ HF.out).mono ?_; rintro e w2 ⟨rfl, b2⟩; have HB2 := Lib.hid (HB.out.trans (b2.mono HB.out.size)); have P1 := Lib.hid (H1.out.keep b2); have P2 := Lib.hid (H2.out.keep b2); clear b2 c0 c1 c2 c3 c4 c5 d0 d1 d2))
  refine wp_region_only (S := fun w' => (w'.cell? ⟨w.heap.size, 0, none⟩ = some (.int .i64 x.k) ∧ w'.cell? ⟨w.heap.size, 1, none⟩ = some (.int .i64 x.o) ∧ w'.cell? ⟨w.heap.size, 2, none⟩ = some (.int .i64 x.c) ∧ w'.cell? ⟨w.heap.size, 3, none⟩ = some (.int .i64 x.l) ∧ w'.cell? ⟨w.heap.size, 4, none⟩ = some (.int .i64 x.r) ∧ w'.cell? ⟨w.heap.size, 5, none⟩ = some (.int .i64 x.v)) ∧ (w'.cell? ⟨w.heap.size + 1, 0, none⟩ = some (.int .i64 kk) ∧ w'.cell? ⟨w.heap.size + 1, 1, none⟩ = some (.int .i64 cc) ∧ w'.cell? ⟨w.heap.size + 1, 2, none⟩ = some (.int .i64 ll))) (by kernel_rfl) ⟨P1.out.drew.six, ob3 P2.out.drew HO.out⟩ (fun hHeld => ?_)
  refine wpAnyH_take (i := 0) (v := ?v10) rfl (by kernel_rfl) (by kernel_rfl) (by kernel_rfl) (fun _ _ _ h => h) (Or.inl ⟨by rfl, ?hy10⟩) hHeld ?rest10
  case hy10 =>
    intro w' hSw
    try dsimp only at hSw
    go_simp
    first | done | with_reducible rfl
  try simp only [Act.put, List.getElem_toArray, List.getElem_cons_zero, List.setIfInBounds_toArray, List.set_cons_zero, List.set_cons_succ]
  refine wpAnyH_take (i := 1) (v := ?v11) rfl (by kernel_rfl) (by kernel_rfl) (by kernel_rfl) (fun _ _ _ h => h) (Or.inl ⟨by rfl, ?hy11⟩) hHeld ?rest11
  case hy11 =>
    intro w' hSw
    try dsimp only at hSw
    go_simp
    first | done | with_reducible rfl
  try simp only [Act.put, List.getElem_toArray, List.getElem_cons_succ, List.getElem_cons_zero, List.setIfInBounds_toArray, List.set_cons_zero, List.set_cons_succ]
  refine wpAnyH_take (i := 2) (v := ?v12) rfl (by kernel_rfl) (by kernel_rfl) (by kernel_rfl) (fun _ _ _ h => h) (Or.inl ⟨by rfl, ?hy12⟩) hHeld ?rest12
  case hy12 =>
    intro w' hSw
    try dsimp only at hSw
    go_simp
    first | done | with_reducible rfl
  try simp only [Act.put, List.getElem_toArray, List.getElem_cons_succ, List.getElem_cons_zero, List.setIfInBounds_toArray, List.set_cons_zero, List.set_cons_succ]
  refine wpAnyH_ready (rs := [3]) (by kernel_rfl) (by simp) ?_
  refine AllReadyH.cons (by rfl) (fun K hK => ?_) AllReadyH.nil
  go_simp
  refine (HW.out ▸ rwant_any x _).mono ?_
  rintro e w3 ⟨rfl, b3⟩
  have HB3 := Lib.hid ((below_drew HB2.out).trans (b3.mono HB2.out.size))
  have Q1 := Lib.hid (P1.out.drew.keep b3)
  have Q2 := Lib.hid (P2.out.drew.keep b3)
  clear b3 hHeld
  go_wp2_with fail
  refine hK.out _ _ ⟨Q1.out.six, ob3 Q2.out HO.out⟩ (fun hHeld => ?_)
  clear hK K
  try simp only [Act.put, List.getElem_toArray, List.getElem_cons_succ, List.getElem_cons_zero, List.setIfInBounds_toArray, List.set_cons_zero, List.set_cons_succ]
  refine wpAnyH_take (i := 4) (v := ?v13) rfl (by kernel_rfl) (by kernel_rfl) (by kernel_rfl) (fun _ _ _ h => h) (Or.inl ⟨by rfl, ?hy13⟩) hHeld ?rest13
  case hy13 =>
    intro w' hSw
    try dsimp only at hSw
    go_simp
    first | done | with_reducible rfl
  try simp only [Act.put, List.getElem_toArray, List.getElem_cons_succ, List.getElem_cons_zero, List.setIfInBounds_toArray, List.set_cons_zero, List.set_cons_succ]
  refine wpAnyH_take (i := 5) (v := ?v14) rfl (by kernel_rfl) (by kernel_rfl) (by kernel_rfl) (fun _ _ _ h => h) (Or.inl ⟨by rfl, ?hy14⟩) hHeld ?rest14
  case hy14 =>
    intro w' hSw
    try dsimp only at hSw
    go_simp
    first | done | with_reducible rfl
  try simp only [Act.put, List.getElem_toArray, List.getElem_cons_succ, List.getElem_cons_zero, List.setIfInBounds_toArray, List.set_cons_zero, List.set_cons_succ]
  refine wpAnyH_take (i := 6) (v := ?v15) rfl (by kernel_rfl) (by kernel_rfl) (by kernel_rfl) (fun _ _ _ h => h) (Or.inl ⟨by rfl, ?hy15⟩) hHeld ?rest15
  case hy15 =>
    intro w' hSw
    try dsimp only at hSw
    go_simp
    first | done | with_reducible rfl
  try simp only [Act.put, List.getElem_toArray, List.getElem_cons_succ, List.getElem_cons_zero, List.setIfInBounds_toArray, List.set_cons_zero, List.set_cons_succ]
  refine wpAnyH_take (i := 7) (v := ?v16) rfl (by kernel_rfl) (by kernel_rfl) (by kernel_rfl) (fun _ _ _ h => h) (Or.inl ⟨by rfl, ?hy16⟩) hHeld ?rest16
  case hy16 =>
    intro w' hSw
    try dsimp only at hSw
    go_simp
    first | done | with_reducible rfl
  try simp only [Act.put, List.getElem_toArray, List.getElem_cons_succ, List.getElem_cons_zero, List.setIfInBounds_toArray, List.set_cons_zero, List.set_cons_succ]
  refine wpAnyH_take (i := 8) (v := ?v17) rfl (by kernel_rfl) (by kernel_rfl) (by kernel_rfl) (fun _ _ _ h => h) (Or.inl ⟨by rfl, ?hy17⟩) hHeld ?rest17
  case hy17 =>
    intro w' hSw
    try dsimp only at hSw
    go_simp
    first | done | with_reducible rfl
  try simp only [Act.put, List.getElem_toArray, List.getElem_cons_succ, List.getElem_cons_zero, List.setIfInBounds_toArray, List.set_cons_zero, List.set_cons_succ]
  refine wpAnyH_take (i := 9) (v := ?v18) rfl (by kernel_rfl) (by kernel_rfl) (by kernel_rfl) (fun _ _ _ h => h) (Or.inl ⟨by rfl, ?hy18⟩) hHeld ?rest18
  case hy18 =>
    intro w' hSw
    try dsimp only at hSw
    go_simp
    first | done | with_reducible rfl
  try simp only [Act.put, List.getElem_toArray, List.getElem_cons_succ, List.getElem_cons_zero, List.setIfInBounds_toArray, List.set_cons_zero, List.set_cons_succ]
  refine wpAnyH_take (i := 10) (v := ?v19) rfl (by kernel_rfl) (by kernel_rfl) (by kernel_rfl) (fun _ _ _ h => h) (Or.inl ⟨by rfl, ?hy19⟩) hHeld ?rest19
  case hy19 =>
    intro w' hSw
    try dsimp only at hSw
    go_simp
    first | done | with_reducible rfl
  try simp only [Act.put, List.getElem_toArray, List.getElem_cons_succ, List.getElem_cons_zero, List.setIfInBounds_toArray, List.set_cons_zero, List.set_cons_succ]
  refine wpAnyH_take (i := 11) (v := ?v20) rfl (by kernel_rfl) (by kernel_rfl) (by kernel_rfl) (fun _ _ _ h => h) (Or.inl ⟨by rfl, ?hy20⟩) hHeld ?rest20
  case hy20 =>
    intro w' hSw
    try dsimp only at hSw
    go_simp
    first | done | with_reducible rfl
  try simp only [Act.put, List.getElem_toArray, List.getElem_cons_succ, List.getElem_cons_zero, List.setIfInBounds_toArray, List.set_cons_zero, List.set_cons_succ]
  refine wpAnyH_take (i := 12) (v := ?v21) rfl (by kernel_rfl) (by kernel_rfl) (by kernel_rfl) (fun _ _ _ h => h) (Or.inl ⟨by rfl, ?hy21⟩) hHeld ?rest21
  case hy21 =>
    intro w' hSw
    try dsimp only at hSw
    go_simp
    first | done | with_reducible rfl
  try simp only [Act.put, List.getElem_toArray, List.getElem_cons_succ, List.getElem_cons_zero, List.setIfInBounds_toArray, List.set_cons_zero, List.set_cons_succ]
  refine wpAnyH_take (i := 13) (v := undef) rfl (by kernel_rfl) (by kernel_rfl) (by kernel_rfl) (fun _ _ _ h => h) (Or.inr ⟨by rfl, rfl⟩) hHeld ?_
  try simp only [Act.put, List.getElem_toArray, List.getElem_cons_succ, List.getElem_cons_zero, List.setIfInBounds_toArray, List.set_cons_zero, List.set_cons_succ]
  refine wpAnyH_take (i := 14) (v := undef) rfl (by kernel_rfl) (by kernel_rfl) (by kernel_rfl) (fun _ _ _ h => h) (Or.inr ⟨by rfl, rfl⟩) hHeld ?_
  try simp only [Act.put, List.getElem_toArray, List.getElem_cons_succ, List.getElem_cons_zero, List.setIfInBounds_toArray, List.set_cons_zero, List.set_cons_succ]
  refine wpAnyH_take (i := 15) (v := undef) rfl (by kernel_rfl) (by kernel_rfl) (by kernel_rfl) (fun _ _ _ h => h) (Or.inr ⟨by rfl, rfl⟩) hHeld ?_
  try simp only [Act.put, List.getElem_toArray, List.getElem_cons_succ, List.getElem_cons_zero, List.setIfInBounds_toArray, List.set_cons_zero, List.set_cons_succ]
  refine wpAnyH_take (i := 16) (v := undef) rfl (by kernel_rfl) (by kernel_rfl) (by kernel_rfl) (fun _ _ _ h => h) (Or.inr ⟨by rfl, rfl⟩) hHeld ?_
  try simp only [Act.put, List.getElem_toArray, List.getElem_cons_succ, List.getElem_cons_zero, List.setIfInBounds_toArray, List.set_cons_zero, List.set_cons_succ]
  refine wpAnyH_take (i := 17) (v := undef) rfl (by kernel_rfl) (by kernel_rfl) (by kernel_rfl) (fun _ _ _ h => h) (Or.inr ⟨by rfl, rfl⟩) hHeld ?_
  try simp only [Act.put, List.getElem_toArray, List.getElem_cons_succ, List.getElem_cons_zero, List.setIfInBounds_toArray, List.set_cons_zero, List.set_cons_succ]
  refine wpAnyH_take (i := 18) (v := undef) rfl (by kernel_rfl) (by kernel_rfl) (by kernel_rfl) (fun _ _ _ h => h) (Or.inr ⟨by rfl, rfl⟩) hHeld ?_
  try simp only [Act.put, List.getElem_toArray, List.getElem_cons_succ, List.getElem_cons_zero, List.setIfInBounds_toArray, List.set_cons_zero, List.set_cons_succ]
  refine wpAnyH_take (i := 19) (v := undef) rfl (by kernel_rfl) (by kernel_rfl) (by kernel_rfl) (fun _ _ _ h => h) (Or.inr ⟨by rfl, rfl⟩) hHeld ?_
  try simp only [Act.put, List.getElem_toArray, List.getElem_cons_succ, List.getElem_cons_zero, List.setIfInBounds_toArray, List.set_cons_zero, List.set_cons_succ]
  refine wpAnyH_take (i := 20) (v := undef) rfl (by kernel_rfl) (by kernel_rfl) (by kernel_rfl) (fun _ _ _ h => h) (Or.inr ⟨by rfl, rfl⟩) hHeld ?_
  try simp only [Act.put, List.getElem_toArray, List.getElem_cons_succ, List.getElem_cons_zero, List.setIfInBounds_toArray, List.set_cons_zero, List.set_cons_succ]
  refine wpAnyH_take (i := 21) (v := undef) rfl (by kernel_rfl) (by kernel_rfl) (by kernel_rfl) (fun _ _ _ h => h) (Or.inr ⟨by rfl, rfl⟩) hHeld ?_
  try simp only [Act.put, List.getElem_toArray, List.getElem_cons_succ, List.getElem_cons_zero, List.setIfInBounds_toArray, List.set_cons_zero, List.set_cons_succ]
  refine wpAnyH_take (i := 22) (v := undef) rfl (by kernel_rfl) (by kernel_rfl) (by kernel_rfl) (fun _ _ _ h => h) (Or.inr ⟨by rfl, rfl⟩) hHeld ?_
  try simp only [Act.put, List.getElem_toArray, List.getElem_cons_succ, List.getElem_cons_zero, List.setIfInBounds_toArray, List.set_cons_zero, List.set_cons_succ]
  refine wpAnyH_take (i := 23) (v := ?v22) rfl (by kernel_rfl) (by kernel_rfl) (by kernel_rfl) (fun _ _ _ h => h) (Or.inl ⟨by rfl, ?hy22⟩) hHeld ?rest22
  case hy22 =>
    intro w' hSw
    try dsimp only at hSw
    go_simp
    first | done | with_reducible rfl
  try simp only [Act.put, List.getElem_toArray, List.getElem_cons_succ, List.getElem_cons_zero, List.setIfInBounds_toArray, List.set_cons_zero, List.set_cons_succ]
  refine wpAnyH_take (i := 24) (v := ?v23) rfl (by kernel_rfl) (by kernel_rfl) (by kernel_rfl) (fun _ _ _ h => h) (Or.inl ⟨by rfl, ?hy23⟩) hHeld ?rest23
  case hy23 =>
    intro w' hSw
    try dsimp only at hSw
    go_simp
    first | done | with_reducible rfl
  try simp only [Act.put, List.getElem_toArray, List.getElem_cons_succ, List.getElem_cons_zero, List.setIfInBounds_toArray, List.set_cons_zero, List.set_cons_succ]
  refine wpAnyH_done (by kernel_rfl) ?_ _
  refine OnlyN.normal ?_
  clear hHeld
  go_wp2
  go_ret
  exact ⟨rfl, HB3.out⟩
set_option maxRecDepth 100000 in
set_option maxHeartbeats 2000000 in
theorem rcou_y (x : Ky) (l : List Value) (kk cc ll : Int) (w : World) (ho : Ob l kk cc ll) (hf : x.of) (hk : x.want = kk) (hc : x.c = cc) (h7 : x.k ≠ 7) :
    Calls Tryd.prog 54 #[x.val, .agg l.toArray] w fun e w' => e = .returned (.bool true) ∧ Below w.heap.size w w' := by
  have HO := Lib.hid ho
  have HF := Lib.hid hf
  have HK := Lib.hid hf.1
  have h0 := of_o hf
  have h0' : ¬ x.o < 0 := by omega
  have d0 : decide (x.o < 0) = false := by simpa using h0'
  clear h0 h0'
  obtain ⟨wv, hwv⟩ : ∃ y : Int, x.want = y := ⟨_, rfl⟩
  have HW := Lib.hid hwv
  rw [hwv] at hk
  clear hf hwv
  have hk' := hk.symm
  subst hk'
  clear hk
  have dc : (cc == x.c) = true := by simp; exact hc.symm
  have d7 : (x.k != 7) = true := by simpa using h7
  clear hc h7
  clear ho
  go_enter Tryd.func54, Tryd.ntmps54
  go_wp2_with (first
    | (go_at_call 52; refine (rchk_ok x.k x.o x.c x.l x.r x.v _ HK.out).mono ?_; rintro e w1 ⟨rfl, b1⟩; obtain ⟨B1, B2, b2⟩ := box2 b1; have HB := Lib.hid b2; have H1 := Lib.hid B1; have H2 := Lib.hid B2; clear b1; obtain ⟨c0, c1, c2, c3, c4, c5⟩ := B1.six; obtain ⟨d0, d1, d2⟩ := ob3 B2 HO.out; clear B1 B2 b2)
    | (go_at_call 53; refine (rname_yes x _ HF.out).mono ?_; rintro e w2 ⟨rfl, b2⟩; have HB2 := Lib.hid (HB.out.trans (b2.mono HB.out.size)); have P1 := Lib.hid (H1.out.keep b2); have P2 := Lib.hid (H2.out.keep b2); clear b2 c0 c1 c2 c3 c4 c5 d0 d1 d2))
  refine wp_region_only (S := fun w' => (w'.cell? ⟨w.heap.size, 0, none⟩ = some (.int .i64 x.k) ∧ w'.cell? ⟨w.heap.size, 1, none⟩ = some (.int .i64 x.o) ∧ w'.cell? ⟨w.heap.size, 2, none⟩ = some (.int .i64 x.c) ∧ w'.cell? ⟨w.heap.size, 3, none⟩ = some (.int .i64 x.l) ∧ w'.cell? ⟨w.heap.size, 4, none⟩ = some (.int .i64 x.r) ∧ w'.cell? ⟨w.heap.size, 5, none⟩ = some (.int .i64 x.v)) ∧ (w'.cell? ⟨w.heap.size + 1, 0, none⟩ = some (.int .i64 kk) ∧ w'.cell? ⟨w.heap.size + 1, 1, none⟩ = some (.int .i64 cc) ∧ w'.cell? ⟨w.heap.size + 1, 2, none⟩ = some (.int .i64 ll))) (by kernel_rfl) ⟨P1.out.drew.six, ob3 P2.out.drew HO.out⟩ (fun hHeld => ?_)
  refine wpAnyH_take (i := 0) (v := ?v24) rfl (by kernel_rfl) (by kernel_rfl) (by kernel_rfl) (fun _ _ _ h => h) (Or.inl ⟨by rfl, ?hy24⟩) hHeld ?rest24
  case hy24 =>
    intro w' hSw
    try dsimp only at hSw
    go_simp
    first | done | with_reducible rfl
  try simp only [Act.put, List.getElem_toArray, List.getElem_cons_zero, List.setIfInBounds_toArray, List.set_cons_zero, List.set_cons_succ]
  refine wpAnyH_take (i := 1) (v := ?v25) rfl (by kernel_rfl) (by kernel_rfl) (by kernel_rfl) (fun _ _ _ h => h) (Or.inl ⟨by rfl, ?hy25⟩) hHeld ?rest25
  case hy25 =>
    intro w' hSw
    try dsimp only at hSw
    go_simp
    first | done | with_reducible rfl
  try simp only [Act.put, List.getElem_toArray, List.getElem_cons_succ, List.getElem_cons_zero, List.setIfInBounds_toArray, List.set_cons_zero, List.set_cons_succ]
  refine wpAnyH_take (i := 2) (v := ?v26) rfl (by kernel_rfl) (by kernel_rfl) (by kernel_rfl) (fun _ _ _ h => h) (Or.inl ⟨by rfl, ?hy26⟩) hHeld ?rest26
  case hy26 =>
    intro w' hSw
    try dsimp only at hSw
    go_simp
    first | done | with_reducible rfl
  try simp only [Act.put, List.getElem_toArray, List.getElem_cons_succ, List.getElem_cons_zero, List.setIfInBounds_toArray, List.set_cons_zero, List.set_cons_succ]
  refine wpAnyH_ready (rs := [3]) (by kernel_rfl) (by simp) ?_
  refine AllReadyH.cons (by rfl) (fun K hK => ?_) AllReadyH.nil
  go_simp
  refine (HW.out ▸ rwant_any x _).mono ?_
  rintro e w3 ⟨rfl, b3⟩
  have HB3 := Lib.hid ((below_drew HB2.out).trans (b3.mono HB2.out.size))
  have Q1 := Lib.hid (P1.out.drew.keep b3)
  have Q2 := Lib.hid (P2.out.drew.keep b3)
  clear b3 hHeld
  go_wp2_with fail
  refine hK.out _ _ ⟨Q1.out.six, ob3 Q2.out HO.out⟩ (fun hHeld => ?_)
  clear hK K
  try simp only [Act.put, List.getElem_toArray, List.getElem_cons_succ, List.getElem_cons_zero, List.setIfInBounds_toArray, List.set_cons_zero, List.set_cons_succ]
  refine wpAnyH_take (i := 4) (v := ?v27) rfl (by kernel_rfl) (by kernel_rfl) (by kernel_rfl) (fun _ _ _ h => h) (Or.inl ⟨by rfl, ?hy27⟩) hHeld ?rest27
  case hy27 =>
    intro w' hSw
    try dsimp only at hSw
    go_simp
    first | done | with_reducible rfl
  try simp only [Act.put, List.getElem_toArray, List.getElem_cons_succ, List.getElem_cons_zero, List.setIfInBounds_toArray, List.set_cons_zero, List.set_cons_succ]
  refine wpAnyH_take (i := 5) (v := ?v28) rfl (by kernel_rfl) (by kernel_rfl) (by kernel_rfl) (fun _ _ _ h => h) (Or.inl ⟨by rfl, ?hy28⟩) hHeld ?rest28
  case hy28 =>
    intro w' hSw
    try dsimp only at hSw
    go_simp
    first | done | with_reducible rfl
  try simp only [Act.put, List.getElem_toArray, List.getElem_cons_succ, List.getElem_cons_zero, List.setIfInBounds_toArray, List.set_cons_zero, List.set_cons_succ]
  refine wpAnyH_take (i := 6) (v := ?v29) rfl (by kernel_rfl) (by kernel_rfl) (by kernel_rfl) (fun _ _ _ h => h) (Or.inl ⟨by rfl, ?hy29⟩) hHeld ?rest29
  case hy29 =>
    intro w' hSw
    try dsimp only at hSw
    go_simp
    first | done | with_reducible rfl
  try simp only [Act.put, List.getElem_toArray, List.getElem_cons_succ, List.getElem_cons_zero, List.setIfInBounds_toArray, List.set_cons_zero, List.set_cons_succ]
  refine wpAnyH_take (i := 7) (v := ?v30) rfl (by kernel_rfl) (by kernel_rfl) (by kernel_rfl) (fun _ _ _ h => h) (Or.inl ⟨by rfl, ?hy30⟩) hHeld ?rest30
  case hy30 =>
    intro w' hSw
    try dsimp only at hSw
    go_simp
    first | done | with_reducible rfl
  try simp only [Act.put, List.getElem_toArray, List.getElem_cons_succ, List.getElem_cons_zero, List.setIfInBounds_toArray, List.set_cons_zero, List.set_cons_succ]
  refine wpAnyH_take (i := 8) (v := ?v31) rfl (by kernel_rfl) (by kernel_rfl) (by kernel_rfl) (fun _ _ _ h => h) (Or.inl ⟨by rfl, ?hy31⟩) hHeld ?rest31
  case hy31 =>
    intro w' hSw
    try dsimp only at hSw
    go_simp
    first | done | with_reducible rfl
  try simp only [Act.put, List.getElem_toArray, List.getElem_cons_succ, List.getElem_cons_zero, List.setIfInBounds_toArray, List.set_cons_zero, List.set_cons_succ]
  refine wpAnyH_take (i := 9) (v := ?v32) rfl (by kernel_rfl) (by kernel_rfl) (by kernel_rfl) (fun _ _ _ h => h) (Or.inl ⟨by rfl, ?hy32⟩) hHeld ?rest32
  case hy32 =>
    intro w' hSw
    try dsimp only at hSw
    go_simp
    first | done | with_reducible rfl
  try simp only [Act.put, List.getElem_toArray, List.getElem_cons_succ, List.getElem_cons_zero, List.setIfInBounds_toArray, List.set_cons_zero, List.set_cons_succ]
  refine wpAnyH_take (i := 10) (v := ?v33) rfl (by kernel_rfl) (by kernel_rfl) (by kernel_rfl) (fun _ _ _ h => h) (Or.inl ⟨by rfl, ?hy33⟩) hHeld ?rest33
  case hy33 =>
    intro w' hSw
    try dsimp only at hSw
    go_simp
    first | done | with_reducible rfl
  try simp only [Act.put, List.getElem_toArray, List.getElem_cons_succ, List.getElem_cons_zero, List.setIfInBounds_toArray, List.set_cons_zero, List.set_cons_succ]
  refine wpAnyH_take (i := 11) (v := ?v34) rfl (by kernel_rfl) (by kernel_rfl) (by kernel_rfl) (fun _ _ _ h => h) (Or.inl ⟨by rfl, ?hy34⟩) hHeld ?rest34
  case hy34 =>
    intro w' hSw
    try dsimp only at hSw
    go_simp
    first | done | with_reducible rfl
  try simp only [Act.put, List.getElem_toArray, List.getElem_cons_succ, List.getElem_cons_zero, List.setIfInBounds_toArray, List.set_cons_zero, List.set_cons_succ]
  refine wpAnyH_take (i := 12) (v := ?v35) rfl (by kernel_rfl) (by kernel_rfl) (by kernel_rfl) (fun _ _ _ h => h) (Or.inl ⟨by rfl, ?hy35⟩) hHeld ?rest35
  case hy35 =>
    intro w' hSw
    try dsimp only at hSw
    go_simp
    first | done | with_reducible rfl
  try simp only [Act.put, List.getElem_toArray, List.getElem_cons_succ, List.getElem_cons_zero, List.setIfInBounds_toArray, List.set_cons_zero, List.set_cons_succ]
  refine wpAnyH_take (i := 13) (v := ?v36) rfl (by kernel_rfl) (by kernel_rfl) (by kernel_rfl) (fun _ _ _ h => h) (Or.inl ⟨by rfl, ?hy36⟩) hHeld ?rest36
  case hy36 =>
    intro w' hSw
    try dsimp only at hSw
    go_simp
    first | done | with_reducible rfl
  try simp only [Act.put, List.getElem_toArray, List.getElem_cons_succ, List.getElem_cons_zero, List.setIfInBounds_toArray, List.set_cons_zero, List.set_cons_succ]
  refine wpAnyH_take (i := 14) (v := ?v37) rfl (by kernel_rfl) (by kernel_rfl) (by kernel_rfl) (fun _ _ _ h => h) (Or.inl ⟨by rfl, ?hy37⟩) hHeld ?rest37
  case hy37 =>
    intro w' hSw
    try dsimp only at hSw
    go_simp
    first | done | with_reducible rfl
  try simp only [Act.put, List.getElem_toArray, List.getElem_cons_succ, List.getElem_cons_zero, List.setIfInBounds_toArray, List.set_cons_zero, List.set_cons_succ]
  refine wpAnyH_take (i := 15) (v := ?v38) rfl (by kernel_rfl) (by kernel_rfl) (by kernel_rfl) (fun _ _ _ h => h) (Or.inl ⟨by rfl, ?hy38⟩) hHeld ?rest38
  case hy38 =>
    intro w' hSw
    try dsimp only at hSw
    go_simp
    first | done | with_reducible rfl
  try simp only [Act.put, List.getElem_toArray, List.getElem_cons_succ, List.getElem_cons_zero, List.setIfInBounds_toArray, List.set_cons_zero, List.set_cons_succ]
  refine wpAnyH_take (i := 16) (v := ?v39) rfl (by kernel_rfl) (by kernel_rfl) (by kernel_rfl) (fun _ _ _ h => h) (Or.inl ⟨by rfl, ?hy39⟩) hHeld ?rest39
  case hy39 =>
    intro w' hSw
    try dsimp only at hSw
    go_simp
    first | done | with_reducible rfl
  try simp only [Act.put, List.getElem_toArray, List.getElem_cons_succ, List.getElem_cons_zero, List.setIfInBounds_toArray, List.set_cons_zero, List.set_cons_succ]
  refine wpAnyH_take (i := 17) (v := undef) rfl (by kernel_rfl) (by kernel_rfl) (by kernel_rfl) (fun _ _ _ h => h) (Or.inr ⟨by rfl, rfl⟩) hHeld ?_
  try simp only [Act.put, List.getElem_toArray, List.getElem_cons_succ, List.getElem_cons_zero, List.setIfInBounds_toArray, List.set_cons_zero, List.set_cons_succ]
  refine wpAnyH_take (i := 18) (v := undef) rfl (by kernel_rfl) (by kernel_rfl) (by kernel_rfl) (fun _ _ _ h => h) (Or.inr ⟨by rfl, rfl⟩) hHeld ?_
  try simp only [Act.put, List.getElem_toArray, List.getElem_cons_succ, List.getElem_cons_zero, List.setIfInBounds_toArray, List.set_cons_zero, List.set_cons_succ]
  refine wpAnyH_take (i := 19) (v := undef) rfl (by kernel_rfl) (by kernel_rfl) (by kernel_rfl) (fun _ _ _ h => h) (Or.inr ⟨by rfl, rfl⟩) hHeld ?_
  try simp only [Act.put, List.getElem_toArray, List.getElem_cons_succ, List.getElem_cons_zero, List.setIfInBounds_toArray, List.set_cons_zero, List.set_cons_succ]
  refine wpAnyH_take (i := 20) (v := undef) rfl (by kernel_rfl) (by kernel_rfl) (by kernel_rfl) (fun _ _ _ h => h) (Or.inr ⟨by rfl, rfl⟩) hHeld ?_
  try simp only [Act.put, List.getElem_toArray, List.getElem_cons_succ, List.getElem_cons_zero, List.setIfInBounds_toArray, List.set_cons_zero, List.set_cons_succ]
  refine wpAnyH_take (i := 21) (v := undef) rfl (by kernel_rfl) (by kernel_rfl) (by kernel_rfl) (fun _ _ _ h => h) (Or.inr ⟨by rfl, rfl⟩) hHeld ?_
  try simp only [Act.put, List.getElem_toArray, List.getElem_cons_succ, List.getElem_cons_zero, List.setIfInBounds_toArray, List.set_cons_zero, List.set_cons_succ]
  refine wpAnyH_take (i := 22) (v := ?v40) rfl (by kernel_rfl) (by kernel_rfl) (by kernel_rfl) (fun _ _ _ h => h) (Or.inl ⟨by rfl, ?hy40⟩) hHeld ?rest40
  case hy40 =>
    intro w' hSw
    try dsimp only at hSw
    go_simp
    first | done | with_reducible rfl
  try simp only [Act.put, List.getElem_toArray, List.getElem_cons_succ, List.getElem_cons_zero, List.setIfInBounds_toArray, List.set_cons_zero, List.set_cons_succ]
  refine wpAnyH_take (i := 23) (v := ?v41) rfl (by kernel_rfl) (by kernel_rfl) (by kernel_rfl) (fun _ _ _ h => h) (Or.inl ⟨by rfl, ?hy41⟩) hHeld ?rest41
  case hy41 =>
    intro w' hSw
    try dsimp only at hSw
    go_simp
    first | done | with_reducible rfl
  try simp only [Act.put, List.getElem_toArray, List.getElem_cons_succ, List.getElem_cons_zero, List.setIfInBounds_toArray, List.set_cons_zero, List.set_cons_succ]
  refine wpAnyH_take (i := 24) (v := ?v42) rfl (by kernel_rfl) (by kernel_rfl) (by kernel_rfl) (fun _ _ _ h => h) (Or.inl ⟨by rfl, ?hy42⟩) hHeld ?rest42
  case hy42 =>
    intro w' hSw
    try dsimp only at hSw
    go_simp
    first | done | with_reducible rfl
  try simp only [Act.put, List.getElem_toArray, List.getElem_cons_succ, List.getElem_cons_zero, List.setIfInBounds_toArray, List.set_cons_zero, List.set_cons_succ]
  refine wpAnyH_done (by kernel_rfl) ?_ _
  refine OnlyN.normal ?_
  clear hHeld
  go_wp2
  go_ret
  exact ⟨rfl, HB3.out⟩
set_option maxRecDepth 100000 in
set_option maxHeartbeats 2000000 in
theorem rcou_z (x : Ky) (l : List Value) (kk cc ll : Int) (w : World) (ho : Ob l kk cc ll) (hf : x.of) (hk : x.want = kk) (hc : x.c = cc) (h7 : x.k = 7) :
    Calls Tryd.prog 54 #[x.val, .agg l.toArray] w fun e w' => e = .returned (.bool (ll == x.l)) ∧ Below w.heap.size w w' := by
  have HO := Lib.hid ho
  have HF := Lib.hid hf
  have HK := Lib.hid hf.1
  have h0 := of_o hf
  have h0' : ¬ x.o < 0 := by omega
  have d0 : decide (x.o < 0) = false := by simpa using h0'
  clear h0 h0'
  obtain ⟨wv, hwv⟩ : ∃ y : Int, x.want = y := ⟨_, rfl⟩
  have HW := Lib.hid hwv
  rw [hwv] at hk
  clear hf hwv
  have hk' := hk.symm
  subst hk'
  clear hk
  have dc : (cc == x.c) = true := by simp; exact hc.symm
  have d7 : (x.k != 7) = false := by simpa using h7
  clear hc h7
  clear ho
  go_enter Tryd.func54, Tryd.ntmps54
  go_wp2_with (first
    | (go_at_call 52; refine (rchk_ok x.k x.o x.c x.l x.r x.v _ HK.out).mono ?_; rintro e w1 ⟨rfl, b1⟩; obtain ⟨B1, B2, b2⟩ := box2 b1; have HB := Lib.hid b2; have H1 := Lib.hid B1; have H2 := Lib.hid B2; clear b1; obtain ⟨c0, c1, c2, c3, c4, c5⟩ := B1.six; obtain ⟨d0, d1, d2⟩ := ob3 B2 HO.out; clear B1 B2 b2)
    | (go_at_call 53; refine (rname_yes x _ HF.out).mono ?_; rintro e w2 ⟨rfl, b2⟩; have HB2 := Lib.hid (HB.out.trans (b2.mono HB.out.size)); have P1 := Lib.hid (H1.out.keep b2); have P2 := Lib.hid (H2.out.keep b2); clear b2 c0 c1 c2 c3 c4 c5 d0 d1 d2))
  refine wp_region_only (S := fun w' => (w'.cell? ⟨w.heap.size, 0, none⟩ = some (.int .i64 x.k) ∧ w'.cell? ⟨w.heap.size, 1, none⟩ = some (.int .i64 x.o) ∧ w'.cell? ⟨w.heap.size, 2, none⟩ = some (.int .i64 x.c) ∧ w'.cell? ⟨w.heap.size, 3, none⟩ = some (.int .i64 x.l) ∧ w'.cell? ⟨w.heap.size, 4, none⟩ = some (.int .i64 x.r) ∧ w'.cell? ⟨w.heap.size, 5, none⟩ = some (.int .i64 x.v)) ∧ (w'.cell? ⟨w.heap.size + 1, 0, none⟩ = some (.int .i64 kk) ∧ w'.cell? ⟨w.heap.size + 1, 1, none⟩ = some (.int .i64 cc) ∧ w'.cell? ⟨w.heap.size + 1, 2, none⟩ = some (.int .i64 ll))) (by kernel_rfl) ⟨P1.out.drew.six, ob3 P2.out.drew HO.out⟩ (fun hHeld => ?_)
  refine wpAnyH_take (i := 0) (v := ?v43) rfl (by kernel_rfl) (by kernel_rfl) (by kernel_rfl) (fun _ _ _ h => h) (Or.inl ⟨by rfl, ?hy43⟩) hHeld ?rest43
  case hy43 =>
    intro w' hSw
    try dsimp only at hSw
    go_simp
    first | done | with_reducible rfl
  try simp only [Act.put, List.getElem_toArray, List.getElem_cons_zero, List.setIfInBounds_toArray, List.set_cons_zero, List.set_cons_succ]
  refine wpAnyH_take (i := 1) (v := ?v44) rfl (by kernel_rfl) (by kernel_rfl) (by kernel_rfl) (fun _ _ _ h => h) (Or.inl ⟨by rfl, ?hy44⟩) hHeld ?rest44
  case hy44 =>
    intro w' hSw
    try dsimp only at hSw
    go_simp
    first | done | with_reducible rfl
  try simp only [Act.put, List.getElem_toArray, List.getElem_cons_succ, List.getElem_cons_zero, List.setIfInBounds_toArray, List.set_cons_zero, List.set_cons_succ]
  refine wpAnyH_take (i := 2) (v := ?v45) rfl (by kernel_rfl) (by kernel_rfl) (by kernel_rfl) (fun _ _ _ h => h) (Or.inl ⟨by rfl, ?hy45⟩) hHeld ?rest45
  case hy45 =>
    intro w' hSw
    try dsimp only at hSw
    go_simp
    first | done | with_reducible rfl
  try simp only [Act.put, List.getElem_toArray, List.getElem_cons_succ, List.getElem_cons_zero, List.setIfInBounds_toArray, List.set_cons_zero, List.set_cons_succ]
  refine wpAnyH_ready (rs := [3]) (by kernel_rfl) (by simp) ?_
  refine AllReadyH.cons (by rfl) (fun K hK => ?_) AllReadyH.nil
  go_simp
  refine (HW.out ▸ rwant_any x _).mono ?_
  rintro e w3 ⟨rfl, b3⟩
  have HB3 := Lib.hid ((below_drew HB2.out).trans (b3.mono HB2.out.size))
  have Q1 := Lib.hid (P1.out.drew.keep b3)
  have Q2 := Lib.hid (P2.out.drew.keep b3)
  clear b3 hHeld
  go_wp2_with fail
  refine hK.out _ _ ⟨Q1.out.six, ob3 Q2.out HO.out⟩ (fun hHeld => ?_)
  clear hK K
  try simp only [Act.put, List.getElem_toArray, List.getElem_cons_succ, List.getElem_cons_zero, List.setIfInBounds_toArray, List.set_cons_zero, List.set_cons_succ]
  refine wpAnyH_take (i := 4) (v := ?v46) rfl (by kernel_rfl) (by kernel_rfl) (by kernel_rfl) (fun _ _ _ h => h) (Or.inl ⟨by rfl, ?hy46⟩) hHeld ?rest46
  case hy46 =>
    intro w' hSw
    try dsimp only at hSw
    go_simp
    first | done | with_reducible rfl
  try simp only [Act.put, List.getElem_toArray, List.getElem_cons_succ, List.getElem_cons_zero, List.setIfInBounds_toArray, List.set_cons_zero, List.set_cons_succ]
  refine wpAnyH_take (i := 5) (v := ?v47) rfl (by kernel_rfl) (by kernel_rfl) (by kernel_rfl) (fun _ _ _ h => h) (Or.inl ⟨by rfl, ?hy47⟩) hHeld ?rest47
  case hy47 =>
    intro w' hSw
    try dsimp only at hSw
    go_simp
    first | done | with_reducible rfl
  try simp only [Act.put, List.getElem_toArray, List.getElem_cons_succ, List.getElem_cons_zero, List.setIfInBounds_toArray, List.set_cons_zero, List.set_cons_succ]
  refine wpAnyH_take (i := 6) (v := ?v48) rfl (by kernel_rfl) (by kernel_rfl) (by kernel_rfl) (fun _ _ _ h => h) (Or.inl ⟨by rfl, ?hy48⟩) hHeld ?rest48
  case hy48 =>
    intro w' hSw
    try dsimp only at hSw
    go_simp
    first | done | with_reducible rfl
  try simp only [Act.put, List.getElem_toArray, List.getElem_cons_succ, List.getElem_cons_zero, List.setIfInBounds_toArray, List.set_cons_zero, List.set_cons_succ]
  refine wpAnyH_take (i := 7) (v := ?v49) rfl (by kernel_rfl) (by kernel_rfl) (by kernel_rfl) (fun _ _ _ h => h) (Or.inl ⟨by rfl, ?hy49⟩) hHeld ?rest49
  case hy49 =>
    intro w' hSw
    try dsimp only at hSw
    go_simp
    first | done | with_reducible rfl
  try simp only [Act.put, List.getElem_toArray, List.getElem_cons_succ, List.getElem_cons_zero, List.setIfInBounds_toArray, List.set_cons_zero, List.set_cons_succ]
  refine wpAnyH_take (i := 8) (v := ?v50) rfl (by kernel_rfl) (by kernel_rfl) (by kernel_rfl) (fun _ _ _ h => h) (Or.inl ⟨by rfl, ?hy50⟩) hHeld ?rest50
  case hy50 =>
    intro w' hSw
    try dsimp only at hSw
    go_simp
    first | done | with_reducible rfl
  try simp only [Act.put, List.getElem_toArray, List.getElem_cons_succ, List.getElem_cons_zero, List.setIfInBounds_toArray, List.set_cons_zero, List.set_cons_succ]
  refine wpAnyH_take (i := 9) (v := ?v51) rfl (by kernel_rfl) (by kernel_rfl) (by kernel_rfl) (fun _ _ _ h => h) (Or.inl ⟨by rfl, ?hy51⟩) hHeld ?rest51
  case hy51 =>
    intro w' hSw
    try dsimp only at hSw
    go_simp
    first | done | with_reducible rfl
  try simp only [Act.put, List.getElem_toArray, List.getElem_cons_succ, List.getElem_cons_zero, List.setIfInBounds_toArray, List.set_cons_zero, List.set_cons_succ]
  refine wpAnyH_take (i := 10) (v := ?v52) rfl (by kernel_rfl) (by kernel_rfl) (by kernel_rfl) (fun _ _ _ h => h) (Or.inl ⟨by rfl, ?hy52⟩) hHeld ?rest52
  case hy52 =>
    intro w' hSw
    try dsimp only at hSw
    go_simp
    first | done | with_reducible rfl
  try simp only [Act.put, List.getElem_toArray, List.getElem_cons_succ, List.getElem_cons_zero, List.setIfInBounds_toArray, List.set_cons_zero, List.set_cons_succ]
  refine wpAnyH_take (i := 11) (v := ?v53) rfl (by kernel_rfl) (by kernel_rfl) (by kernel_rfl) (fun _ _ _ h => h) (Or.inl ⟨by rfl, ?hy53⟩) hHeld ?rest53
  case hy53 =>
    intro w' hSw
    try dsimp only at hSw
    go_simp
    first | done | with_reducible rfl
  try simp only [Act.put, List.getElem_toArray, List.getElem_cons_succ, List.getElem_cons_zero, List.setIfInBounds_toArray, List.set_cons_zero, List.set_cons_succ]
  refine wpAnyH_take (i := 12) (v := ?v54) rfl (by kernel_rfl) (by kernel_rfl) (by kernel_rfl) (fun _ _ _ h => h) (Or.inl ⟨by rfl, ?hy54⟩) hHeld ?rest54
  case hy54 =>
    intro w' hSw
    try dsimp only at hSw
    go_simp
    first | done | with_reducible rfl
  try simp only [Act.put, List.getElem_toArray, List.getElem_cons_succ, List.getElem_cons_zero, List.setIfInBounds_toArray, List.set_cons_zero, List.set_cons_succ]
  refine wpAnyH_take (i := 13) (v := ?v55) rfl (by kernel_rfl) (by kernel_rfl) (by kernel_rfl) (fun _ _ _ h => h) (Or.inl ⟨by rfl, ?hy55⟩) hHeld ?rest55
  case hy55 =>
    intro w' hSw
    try dsimp only at hSw
    go_simp
    first | done | with_reducible rfl
  try simp only [Act.put, List.getElem_toArray, List.getElem_cons_succ, List.getElem_cons_zero, List.setIfInBounds_toArray, List.set_cons_zero, List.set_cons_succ]
  refine wpAnyH_take (i := 14) (v := ?v56) rfl (by kernel_rfl) (by kernel_rfl) (by kernel_rfl) (fun _ _ _ h => h) (Or.inl ⟨by rfl, ?hy56⟩) hHeld ?rest56
  case hy56 =>
    intro w' hSw
    try dsimp only at hSw
    go_simp
    first | done | with_reducible rfl
  try simp only [Act.put, List.getElem_toArray, List.getElem_cons_succ, List.getElem_cons_zero, List.setIfInBounds_toArray, List.set_cons_zero, List.set_cons_succ]
  refine wpAnyH_take (i := 15) (v := ?v57) rfl (by kernel_rfl) (by kernel_rfl) (by kernel_rfl) (fun _ _ _ h => h) (Or.inl ⟨by rfl, ?hy57⟩) hHeld ?rest57
  case hy57 =>
    intro w' hSw
    try dsimp only at hSw
    go_simp
    first | done | with_reducible rfl
  try simp only [Act.put, List.getElem_toArray, List.getElem_cons_succ, List.getElem_cons_zero, List.setIfInBounds_toArray, List.set_cons_zero, List.set_cons_succ]
  refine wpAnyH_take (i := 16) (v := ?v58) rfl (by kernel_rfl) (by kernel_rfl) (by kernel_rfl) (fun _ _ _ h => h) (Or.inl ⟨by rfl, ?hy58⟩) hHeld ?rest58
  case hy58 =>
    intro w' hSw
    try dsimp only at hSw
    go_simp
    first | done | with_reducible rfl
  try simp only [Act.put, List.getElem_toArray, List.getElem_cons_succ, List.getElem_cons_zero, List.setIfInBounds_toArray, List.set_cons_zero, List.set_cons_succ]
  refine wpAnyH_take (i := 17) (v := ?v59) rfl (by kernel_rfl) (by kernel_rfl) (by kernel_rfl) (fun _ _ _ h => h) (Or.inl ⟨by rfl, ?hy59⟩) hHeld ?rest59
  case hy59 =>
    intro w' hSw
    try dsimp only at hSw
    go_simp
    first | done | with_reducible rfl
  try simp only [Act.put, List.getElem_toArray, List.getElem_cons_succ, List.getElem_cons_zero, List.setIfInBounds_toArray, List.set_cons_zero, List.set_cons_succ]
  refine wpAnyH_take (i := 18) (v := ?v60) rfl (by kernel_rfl) (by kernel_rfl) (by kernel_rfl) (fun _ _ _ h => h) (Or.inl ⟨by rfl, ?hy60⟩) hHeld ?rest60
  case hy60 =>
    intro w' hSw
    try dsimp only at hSw
    go_simp
    first | done | with_reducible rfl
  try simp only [Act.put, List.getElem_toArray, List.getElem_cons_succ, List.getElem_cons_zero, List.setIfInBounds_toArray, List.set_cons_zero, List.set_cons_succ]
  refine wpAnyH_take (i := 19) (v := ?v61) rfl (by kernel_rfl) (by kernel_rfl) (by kernel_rfl) (fun _ _ _ h => h) (Or.inl ⟨by rfl, ?hy61⟩) hHeld ?rest61
  case hy61 =>
    intro w' hSw
    try dsimp only at hSw
    go_simp
    first | done | with_reducible rfl
  try simp only [Act.put, List.getElem_toArray, List.getElem_cons_succ, List.getElem_cons_zero, List.setIfInBounds_toArray, List.set_cons_zero, List.set_cons_succ]
  refine wpAnyH_take (i := 20) (v := ?v62) rfl (by kernel_rfl) (by kernel_rfl) (by kernel_rfl) (fun _ _ _ h => h) (Or.inl ⟨by rfl, ?hy62⟩) hHeld ?rest62
  case hy62 =>
    intro w' hSw
    try dsimp only at hSw
    go_simp
    first | done | with_reducible rfl
  try simp only [Act.put, List.getElem_toArray, List.getElem_cons_succ, List.getElem_cons_zero, List.setIfInBounds_toArray, List.set_cons_zero, List.set_cons_succ]
  refine wpAnyH_take (i := 21) (v := ?v63) rfl (by kernel_rfl) (by kernel_rfl) (by kernel_rfl) (fun _ _ _ h => h) (Or.inl ⟨by rfl, ?hy63⟩) hHeld ?rest63
  case hy63 =>
    intro w' hSw
    try dsimp only at hSw
    go_simp
    first | done | with_reducible rfl
  try simp only [Act.put, List.getElem_toArray, List.getElem_cons_succ, List.getElem_cons_zero, List.setIfInBounds_toArray, List.set_cons_zero, List.set_cons_succ]
  refine wpAnyH_take (i := 22) (v := ?v64) rfl (by kernel_rfl) (by kernel_rfl) (by kernel_rfl) (fun _ _ _ h => h) (Or.inl ⟨by rfl, ?hy64⟩) hHeld ?rest64
  case hy64 =>
    intro w' hSw
    try dsimp only at hSw
    go_simp
    first | done | with_reducible rfl
  try simp only [Act.put, List.getElem_toArray, List.getElem_cons_succ, List.getElem_cons_zero, List.setIfInBounds_toArray, List.set_cons_zero, List.set_cons_succ]
  refine wpAnyH_take (i := 23) (v := ?v65) rfl (by kernel_rfl) (by kernel_rfl) (by kernel_rfl) (fun _ _ _ h => h) (Or.inl ⟨by rfl, ?hy65⟩) hHeld ?rest65
  case hy65 =>
    intro w' hSw
    try dsimp only at hSw
    go_simp
    first | done | with_reducible rfl
  try simp only [Act.put, List.getElem_toArray, List.getElem_cons_succ, List.getElem_cons_zero, List.setIfInBounds_toArray, List.set_cons_zero, List.set_cons_succ]
  refine wpAnyH_take (i := 24) (v := ?v66) rfl (by kernel_rfl) (by kernel_rfl) (by kernel_rfl) (fun _ _ _ h => h) (Or.inl ⟨by rfl, ?hy66⟩) hHeld ?rest66
  case hy66 =>
    intro w' hSw
    try dsimp only at hSw
    go_simp
    first | done | with_reducible rfl
  try simp only [Act.put, List.getElem_toArray, List.getElem_cons_succ, List.getElem_cons_zero, List.setIfInBounds_toArray, List.set_cons_zero, List.set_cons_succ]
  refine wpAnyH_done (by kernel_rfl) ?_ _
  refine OnlyN.normal ?_
  clear hHeld
  go_wp2
  go_ret
  exact ⟨rfl, HB3.out⟩
set_option maxRecDepth 8000 in
theorem cnt_of {x : Ky} {kk cc ll : Int} (hf : x.of) : x.cnt kk cc ll = true ↔ x.want = kk ∧ x.c = cc ∧ (x.k ≠ 7 ∨ x.l = ll) := by
  unfold Ky.cnt
  simp only [decide_eq_true_eq]
  exact ⟨fun h => h.2 hf, fun h => ⟨hf.1, fun _ => h⟩⟩
set_option maxRecDepth 8000 in
theorem cnt_f {x : Ky} {kk cc ll : Int} (hf : x.of) (h : ¬ (x.want = kk ∧ x.c = cc ∧ (x.k ≠ 7 ∨ x.l = ll))) : x.cnt kk cc ll = false := by
  rw [← Bool.not_eq_true]
  exact fun e => h ((cnt_of hf).1 e)
set_option maxRecDepth 8000 in
theorem want_of {x : Ky} (hf : x.of) : kWants x.k.toNat = x.want := by
  unfold Ky.want
  rw [if_pos hf, wants_of hf]
set_option maxRecDepth 8000 in
theorem want_ne {x : Ky} (hf : x.of) : x.want ≠ 0 := by
  rw [← want_of hf, wants_of hf]
  split <;> decide
set_option maxRecDepth 8000 in
theorem count_any (x : Ky) (l : List Value) (kk cc ll : Int) (w : World) (hT : Tab w) (ho : Ob l kk cc ll) :
    Calls Tryd.prog 96 #[x.val, .agg l.toArray] w fun e w' => e = .returned (.bool (x.cnt kk cc ll)) ∧ Below w.heap.size w w' := by
  by_cases hok : x.ok
  · by_cases hf : x.of
    · have hw := want_of hf
      have hn := want_ne hf
      have hkn := hf.2
      obtain ⟨k, oo, c, l', r, v⟩ := x
      simp only at hkn
      obtain ⟨n, rfl⟩ := Int.eq_ofNat_of_zero_le (show 0 ≤ k by omega)
      by_cases h7 : n = 7
      · subst h7
        by_cases hk : Ky.want ⟨((7 : Nat) : Int), oo, c, l', r, v⟩ = kk
        · by_cases hc : c = cc
          · have e : Ky.cnt ⟨((7 : Nat) : Int), oo, c, l', r, v⟩ kk cc ll = (l' == ll) := by
              rw [Bool.eq_iff_iff, cnt_of hf]
              exact ⟨fun h => beq_iff_eq.2 (h.2.2.resolve_left (fun e => e rfl)), fun h => ⟨hk, hc, .inr (beq_iff_eq.1 h)⟩⟩
            rw [e]
            exact cou7_y oo c l' r v l kk cc ll w hT ho hok _ hw hn hk hc
          · rw [cnt_f hf (fun h => hc h.2.1)]
            exact cou7_c oo c l' r v l kk cc ll w hT ho hok _ hw hn hk hc
        · rw [cnt_f hf (fun h => hk h.1)]
          exact cou7_k oo c l' r v l kk cc ll w hT ho hok _ hw hn hk
      · have h7' : ((n : Int)) ≠ 7 := by omega
        by_cases hk : Ky.want ⟨(n : Int), oo, c, l', r, v⟩ = kk
        · by_cases hc : c = cc
          · rw [cnt_yes ⟨hok, fun _ => ⟨hk, hc, .inl h7'⟩⟩]
            exact cou_y n oo c l' r v l kk cc ll w hT ho hok _ hw hn h7 hk hc
          · rw [cnt_f hf (fun h => hc h.2.1)]
            exact cou_c n oo c l' r v l kk cc ll w hT ho hok _ hw hn h7 hk hc
        · rw [cnt_f hf (fun h => hk h.1)]
          exact cou_k n oo c l' r v l kk cc ll w hT ho hok _ hw hn h7 hk
    · rw [cnt_yes ⟨hok, fun h => absurd h hf⟩]
      have hw := wants_not hf hok
      have hk0 := okK_in hok
      obtain ⟨k, oo, c, l', r, v⟩ := x
      simp only at hk0
      obtain ⟨n, rfl⟩ := Int.eq_ofNat_of_zero_le hk0.1
      exact cou_none n oo c l' r v l kk cc ll w hT ho hok _ hw rfl
  · rw [cnt_no (fun h => hok h.1)]
    exact cou_bad x l kk cc ll w hT ho hok
set_option maxRecDepth 8000 in
theorem rcount_any (x : Ky) (l : List Value) (kk cc ll : Int) (w : World) (ho : Ob l kk cc ll) :
    Calls Tryd.prog 54 #[x.val, .agg l.toArray] w fun e w' => e = .returned (.bool (x.cnt kk cc ll)) ∧ Below w.heap.size w w' := by
  by_cases hok : x.ok
  · by_cases hf : x.of
    · by_cases hk : x.want = kk
      · by_cases hc : x.c = cc
        · by_cases h7 : x.k = 7
          · have e : x.cnt kk cc ll = (ll == x.l) := by
              rw [Bool.eq_iff_iff, cnt_of hf]
              exact ⟨fun h => beq_iff_eq.2 (h.2.2.resolve_left (fun e => e h7)).symm, fun h => ⟨hk, hc, .inr (beq_iff_eq.1 h).symm⟩⟩
            rw [e]
            exact rcou_z x l kk cc ll w ho hf hk hc h7
          · rw [cnt_yes ⟨hok, fun _ => ⟨hk, hc, .inl h7⟩⟩]
            exact rcou_y x l kk cc ll w ho hf hk hc h7
        · rw [cnt_f hf (fun h => hc h.2.1)]
          exact rcou_c x l kk cc ll w ho hf hk hc
      · rw [cnt_f hf (fun h => hk h.1)]
        exact rcou_k x l kk cc ll w ho hf hk
    · rw [cnt_yes ⟨hok, fun h => absurd h hf⟩]
      exact rcou_none x l kk cc ll w ho hok hf
  · rw [cnt_no (fun h => hok h.1)]
    exact rcou_bad x l kk cc ll w ho hok
end Go.Proofs.YtfckdbennjkgoaaDoor
namespace Go.Proofs.YtfckdbennjkgoaaDoor
open Go.RowKit
theorem Oj.ob (o : Oj) : Ob o.cells o.k o.c o.l := ⟨rfl, rfl, rfl⟩
/-- does a key count with an object -/
noncomputable def Ky.cn (x : Ky) (o : Oj) : Bool := x.cnt o.k o.c o.l
theorem cn_any (x : Ky) (o : Oj) (w : World) (hT : Tab w) : Calls Tryd.prog 96 #[x.val, o.val] w fun e w' => e = .returned (.bool (x.cn o)) ∧ Below w.heap.size w w' := count_any x o.cells _ _ _ w hT o.ob
theorem rcn_any (x : Ky) (o : Oj) (w : World) : Calls Tryd.prog 54 #[x.val, o.val] w fun e w' => e = .returned (.bool (x.cn o)) ∧ Below w.heap.size w w' := rcount_any x o.cells _ _ _ w o.ob
theorem cn_eq {x : Ky} {o : Oj} {b : Bool} {w : World} (h : x.cn o = b) (hT : Tab w) : Calls Tryd.prog 96 #[x.val, o.val] w fun e w' => e = .returned (.bool b) ∧ Below w.heap.size w w' := h ▸ cn_any x o w hT
/-- a pointer to a store, or nil -/
def IsP (v : Value) : Prop := v = .pointer none ∨ ∃ q, v = pv q
theorem Blk.setRow {w : World} {b : Nat} {t : TypeId} {l0 : Array Value} (h : Blk w b t l0) (c : Array Value) : Blk (w.setRow b c) b t c := setRow_heap w b l0 c t (0, 0) h
theorem below_setRow {B : Nat} {a w : World} {b : Nat} (h : Below B a w) (hb : B ≤ b) (c : Array Value) : Below B a (w.setRow b c) := ⟨h.os, h.tape, h.output, by have := h.size; simpa [World.setRow] using this, fun k hk => (setRow_other w b k c (by omega)).trans (h.block k hk)⟩
set_option maxRecDepth 100000 in
set_option maxHeartbeats 2000000 in
theorem nam_not0 (P : Value) (hP : IsP P) (x : Ky) (o : Oj) (hf : ¬ x.of) (w : World) (hT : Tab w) (ha : ∀ W, Below w.heap.size w W → Calls Tryd.prog 15 #[P, .int .i64 0] W fun e' w' => e' = .returned (.tuple #[o.val, .int .i64 0]) ∧ Below W.heap.size W w') :
    Calls Tryd.prog 82 #[P, x.val] w fun e' w' => e' = .returned (.tuple #[oz.val, .bool false]) ∧ Below w.heap.size w w' := by
  have hz := z34
  have hbl := oz_len
  have HA := Lib.hid ha
  have HF := Lib.hid hf
  have HT0 := Lib.hid ((hT.alloc (.cells (kc x.k x.o x.c x.l x.r x.v) 31)).alloc (.cells oz.cells.toArray 52))
  have HB0 := Lib.hid (((Below.refl w.heap.size w).alloc (Nat.le_refl _) (.cells (kc x.k x.o x.c x.l x.r x.v) 31)).alloc (by simp) (.cells oz.cells.toArray 52))
  have HK0 := Lib.hid ((Blk.new w 31 (kc x.k x.o x.c x.l x.r x.v)).alloc (.cells oz.cells.toArray 52))
  have HO0 := Lib.hid (show Blk ((w.alloc (.cells (kc x.k x.o x.c x.l x.r x.v) 31)).alloc (.cells oz.cells.toArray 52)) (w.heap.size + 1) 52 oz.cells.toArray from by have := Blk.new (w.alloc (.cells (kc x.k x.o x.c x.l x.r x.v) 31)) 52 oz.cells.toArray; simpa using this)
  clear hT ha hf
  rcases hP with rfl | ⟨q, rfl⟩
  all_goals
    go_enter Tryd.func82, Tryd.ntmps82
    go_wp2_with (first
      | (go_at_call 75; refine (kname_no x _ HT0.out HF.out).mono ?_; rintro e w1 ⟨rfl, b1⟩; have HB1 := Lib.hid (HB0.out.trans (b1.mono HB0.out.size)); have HT1 := Lib.hid (HT0.out.below b1); have HK1 := Lib.hid (HK0.out.keep b1); have HO1 := Lib.hid (HO0.out.keep b1); clear b1)
      | (go_at_call 15; refine (HA.out _ HB1.out).mono ?_; rintro e w2 ⟨rfl, b2⟩; have HB2 := Lib.hid (((HB1.out.trans (b2.mono HB1.out.size)).alloc (by have := HB1.out.size; have := b2.size; omega) (.cells o.cells.toArray 52))); have HT2 := Lib.hid ((HT1.out.below b2).alloc (.cells o.cells.toArray 52)); have HK2 := Lib.hid ((HK1.out.keep b2).alloc (.cells o.cells.toArray 52)); have HO2 := Lib.hid ((HO1.out.keep b2).alloc (.cells o.cells.toArray 52)); have HG2 := Lib.hid (Blk.new w2 52 o.cells.toArray); obtain ⟨c0, c1, c2, c3, c4, c5⟩ := HK2.out.six; clear b2)
      | (refine wpList_store_last rfl (.tmp 8) (.tmp 19) rfl _ rfl rfl o oz rfl ?_)
      | (refine wpList_yields (S := fun _ => True) (y_build (by rfl) (by rfl) built34) trivial ?_)
      | (refine wpList_store_ob HO2.out rfl (.tmp 4) (.tmp 33) rfl (by rfl) oz rfl ?_))
    exact bodyPost_ret (results_obj rfl _ _ (w.heap.size + 1) oz rfl (HO2.out.setRow _)) rfl ⟨rfl, below_setRow HB2.out (by omega) _⟩
set_option maxRecDepth 100000 in
set_option maxHeartbeats 2000000 in
theorem nam_notE (P : Value) (hP : IsP P) (x : Ky) (o : Oj) (hf : ¬ x.of) (e : Int) (w : World) (hT : Tab w) (ha : ∀ W, Below w.heap.size w W → Calls Tryd.prog 15 #[P, .int .i64 0] W fun e' w' => e' = .returned (.tuple #[o.val, .int .i64 e]) ∧ Below W.heap.size W w') :
    Calls Tryd.prog 82 #[P, x.val] w fun e' w' => e' = .returned (.tuple #[oz.val, .bool false]) ∧ Below w.heap.size w w' := by
  have hz := z34
  have hbl := oz_len
  have HA := Lib.hid ha
  have HF := Lib.hid hf
  have HT0 := Lib.hid ((hT.alloc (.cells (kc x.k x.o x.c x.l x.r x.v) 31)).alloc (.cells oz.cells.toArray 52))
  have HB0 := Lib.hid (((Below.refl w.heap.size w).alloc (Nat.le_refl _) (.cells (kc x.k x.o x.c x.l x.r x.v) 31)).alloc (by simp) (.cells oz.cells.toArray 52))
  have HK0 := Lib.hid ((Blk.new w 31 (kc x.k x.o x.c x.l x.r x.v)).alloc (.cells oz.cells.toArray 52))
  have HO0 := Lib.hid (show Blk ((w.alloc (.cells (kc x.k x.o x.c x.l x.r x.v) 31)).alloc (.cells oz.cells.toArray 52)) (w.heap.size + 1) 52 oz.cells.toArray from by have := Blk.new (w.alloc (.cells (kc x.k x.o x.c x.l x.r x.v) 31)) 52 oz.cells.toArray; simpa using this)
  clear hT ha hf
  rcases hP with rfl | ⟨q, rfl⟩
  all_goals
    go_enter Tryd.func82, Tryd.ntmps82
    go_wp2_with (first
      | (go_at_call 75; refine (kname_no x _ HT0.out HF.out).mono ?_; rintro e w1 ⟨rfl, b1⟩; have HB1 := Lib.hid (HB0.out.trans (b1.mono HB0.out.size)); have HT1 := Lib.hid (HT0.out.below b1); have HK1 := Lib.hid (HK0.out.keep b1); have HO1 := Lib.hid (HO0.out.keep b1); clear b1)
      | (go_at_call 15; refine (HA.out _ HB1.out).mono ?_; rintro e w2 ⟨rfl, b2⟩; have HB2 := Lib.hid (((HB1.out.trans (b2.mono HB1.out.size)).alloc (by have := HB1.out.size; have := b2.size; omega) (.cells o.cells.toArray 52))); have HT2 := Lib.hid ((HT1.out.below b2).alloc (.cells o.cells.toArray 52)); have HK2 := Lib.hid ((HK1.out.keep b2).alloc (.cells o.cells.toArray 52)); have HO2 := Lib.hid ((HO1.out.keep b2).alloc (.cells o.cells.toArray 52)); have HG2 := Lib.hid (Blk.new w2 52 o.cells.toArray); obtain ⟨c0, c1, c2, c3, c4, c5⟩ := HK2.out.six; clear b2)
      | (refine wpList_store_last rfl (.tmp 8) (.tmp 19) rfl _ rfl rfl o oz rfl ?_)
      | (refine wpList_yields (S := fun _ => True) (y_build (by rfl) (by rfl) built34) trivial ?_)
      | (refine wpList_store_ob HO2.out rfl (.tmp 4) (.tmp 33) rfl (by rfl) oz rfl ?_))
    exact bodyPost_ret (results_obj rfl _ _ (w.heap.size + 1) oz rfl (HO2.out.setRow _)) rfl ⟨rfl, below_setRow HB2.out (by omega) _⟩
set_option maxRecDepth 100000 in
set_option maxHeartbeats 2000000 in
theorem nam_out (P : Value) (hP : IsP P) (x : Ky) (o : Oj) (hf : x.of) (e : Int) (he : e ≠ 0) (w : World) (hT : Tab w) (ha : ∀ W, Below w.heap.size w W → Calls Tryd.prog 15 #[P, .int .i64 x.o] W fun e' w' => e' = .returned (.tuple #[o.val, .int .i64 e]) ∧ Below W.heap.size W w') :
    Calls Tryd.prog 82 #[P, x.val] w fun e' w' => e' = .returned (.tuple #[oz.val, .bool false]) ∧ Below w.heap.size w w' := by
  have hz := z34
  have hbl := oz_len
  have HA := Lib.hid ha
  have HF := Lib.hid hf
  have de : (e != 0) = true := by simpa using he
  have HT0 := Lib.hid ((hT.alloc (.cells (kc x.k x.o x.c x.l x.r x.v) 31)).alloc (.cells oz.cells.toArray 52))
  have HB0 := Lib.hid (((Below.refl w.heap.size w).alloc (Nat.le_refl _) (.cells (kc x.k x.o x.c x.l x.r x.v) 31)).alloc (by simp) (.cells oz.cells.toArray 52))
  have HK0 := Lib.hid ((Blk.new w 31 (kc x.k x.o x.c x.l x.r x.v)).alloc (.cells oz.cells.toArray 52))
  have HO0 := Lib.hid (show Blk ((w.alloc (.cells (kc x.k x.o x.c x.l x.r x.v) 31)).alloc (.cells oz.cells.toArray 52)) (w.heap.size + 1) 52 oz.cells.toArray from by have := Blk.new (w.alloc (.cells (kc x.k x.o x.c x.l x.r x.v) 31)) 52 oz.cells.toArray; simpa using this)
  clear hT ha hf he
  rcases hP with rfl | ⟨q, rfl⟩
  all_goals
    go_enter Tryd.func82, Tryd.ntmps82
    go_wp2_with (first
      | (go_at_call 75; refine (kname_yes x _ HT0.out HF.out).mono ?_; rintro e w1 ⟨rfl, b1⟩; have HB1 := Lib.hid (HB0.out.trans (b1.mono HB0.out.size)); have HT1 := Lib.hid (HT0.out.below b1); have HK1 := Lib.hid (HK0.out.keep b1); have HO1 := Lib.hid (HO0.out.keep b1); clear b1)
      | (go_at_call 15; refine (HA.out _ HB1.out).mono ?_; rintro e w2 ⟨rfl, b2⟩; have HB2 := Lib.hid (((HB1.out.trans (b2.mono HB1.out.size)).alloc (by have := HB1.out.size; have := b2.size; omega) (.cells o.cells.toArray 52))); have HT2 := Lib.hid ((HT1.out.below b2).alloc (.cells o.cells.toArray 52)); have HK2 := Lib.hid ((HK1.out.keep b2).alloc (.cells o.cells.toArray 52)); have HO2 := Lib.hid ((HO1.out.keep b2).alloc (.cells o.cells.toArray 52)); have HG2 := Lib.hid (Blk.new w2 52 o.cells.toArray); obtain ⟨c0, c1, c2, c3, c4, c5⟩ := HK2.out.six; clear b2)
      | (refine wpList_store_last rfl (.tmp 8) (.tmp 19) rfl _ rfl rfl o oz rfl ?_)
      | (refine wpList_yields (S := fun _ => True) (y_build (by rfl) (by rfl) built34) trivial ?_)
      | (refine wpList_store_ob HO2.out rfl (.tmp 4) (.tmp 33) rfl (by rfl) oz rfl ?_))
    exact bodyPost_ret (results_obj rfl _ _ (w.heap.size + 1) oz rfl (HO2.out.setRow _)) rfl ⟨rfl, below_setRow HB2.out (by omega) _⟩
set_option maxRecDepth 100000 in
set_option maxHeartbeats 2000000 in
theorem nam_no (P : Value) (hP : IsP P) (x : Ky) (o : Oj) (hf : x.of) (hc : x.cn o = false) (w : World) (hT : Tab w) (ha : ∀ W, Below w.heap.size w W → Calls Tryd.prog 15 #[P, .int .i64 x.o] W fun e' w' => e' = .returned (.tuple #[o.val, .int .i64 0]) ∧ Below W.heap.size W w') :
    Calls Tryd.prog 82 #[P, x.val] w fun e' w' => e' = .returned (.tuple #[oz.val, .bool false]) ∧ Below w.heap.size w w' := by
  have hz := z34
  have hbl := oz_len
  have HA := Lib.hid ha
  have HF := Lib.hid hf
  have HC := Lib.hid hc
  have HT0 := Lib.hid ((hT.alloc (.cells (kc x.k x.o x.c x.l x.r x.v) 31)).alloc (.cells oz.cells.toArray 52))
  have HB0 := Lib.hid (((Below.refl w.heap.size w).alloc (Nat.le_refl _) (.cells (kc x.k x.o x.c x.l x.r x.v) 31)).alloc (by simp) (.cells oz.cells.toArray 52))
  have HK0 := Lib.hid ((Blk.new w 31 (kc x.k x.o x.c x.l x.r x.v)).alloc (.cells oz.cells.toArray 52))
  have HO0 := Lib.hid (show Blk ((w.alloc (.cells (kc x.k x.o x.c x.l x.r x.v) 31)).alloc (.cells oz.cells.toArray 52)) (w.heap.size + 1) 52 oz.cells.toArray from by have := Blk.new (w.alloc (.cells (kc x.k x.o x.c x.l x.r x.v) 31)) 52 oz.cells.toArray; simpa using this)
  clear hT ha hf hc
  rcases hP with rfl | ⟨q, rfl⟩
  all_goals
    go_enter Tryd.func82, Tryd.ntmps82
    go_wp2_with (first
      | (go_at_call 75; refine (kname_yes x _ HT0.out HF.out).mono ?_; rintro e w1 ⟨rfl, b1⟩; have HB1 := Lib.hid (HB0.out.trans (b1.mono HB0.out.size)); have HT1 := Lib.hid (HT0.out.below b1); have HK1 := Lib.hid (HK0.out.keep b1); have HO1 := Lib.hid (HO0.out.keep b1); clear b1)
      | (go_at_call 15; refine (HA.out _ HB1.out).mono ?_; rintro e w2 ⟨rfl, b2⟩; have HB2 := Lib.hid (((HB1.out.trans (b2.mono HB1.out.size)).alloc (by have := HB1.out.size; have := b2.size; omega) (.cells o.cells.toArray 52))); have HT2 := Lib.hid ((HT1.out.below b2).alloc (.cells o.cells.toArray 52)); have HK2 := Lib.hid ((HK1.out.keep b2).alloc (.cells o.cells.toArray 52)); have HO2 := Lib.hid ((HO1.out.keep b2).alloc (.cells o.cells.toArray 52)); have HG2 := Lib.hid (Blk.new w2 52 o.cells.toArray); obtain ⟨c0, c1, c2, c3, c4, c5⟩ := HK2.out.six; clear b2)
      | (refine wpList_store_last rfl (.tmp 8) (.tmp 19) rfl _ rfl rfl o oz rfl ?_)
      | (refine wpList_yields (S := fun w' => ObAt w' w2.heap.size 0 o) (y_ob (by rfl) (.tmp 8) (by rfl) w2.heap.size 0 (by rfl) o (fun _ h => h)) HG2.out.ob ?_)
      | (go_at_call 96; refine (cn_eq HC.out HT2.out).mono ?_; rintro e w3 ⟨rfl, b3⟩; have HB3 := Lib.hid (HB2.out.trans (b3.mono HB2.out.size)); have HO3 := Lib.hid (HO2.out.keep b3); have HG3 := Lib.hid (HG2.out.keep b3); clear b3 c0 c1 c2 c3 c4 c5)
      | (refine wpList_yields (S := fun _ => True) (y_build (by rfl) (by rfl) built34) trivial ?_)
      | (refine wpList_store_ob HO3.out rfl (.tmp 4) (.tmp 33) rfl (by rfl) oz rfl ?_))
    exact bodyPost_ret (results_obj rfl _ _ (w.heap.size + 1) oz rfl (HO3.out.setRow _)) rfl ⟨rfl, below_setRow HB3.out (by omega) _⟩
set_option maxRecDepth 100000 in
set_option maxHeartbeats 2000000 in
theorem nam_yes (P : Value) (hP : IsP P) (x : Ky) (o : Oj) (hf : x.of) (hc : x.cn o = true) (w : World) (hT : Tab w) (ha : ∀ W, Below w.heap.size w W → Calls Tryd.prog 15 #[P, .int .i64 x.o] W fun e' w' => e' = .returned (.tuple #[o.val, .int .i64 0]) ∧ Below W.heap.size W w') :
    Calls Tryd.prog 82 #[P, x.val] w fun e' w' => e' = .returned (.tuple #[o.val, .bool true]) ∧ Below w.heap.size w w' := by
  have hz := z34
  have hbl := oz_len
  have HA := Lib.hid ha
  have HF := Lib.hid hf
  have HC := Lib.hid hc
  have HT0 := Lib.hid ((hT.alloc (.cells (kc x.k x.o x.c x.l x.r x.v) 31)).alloc (.cells oz.cells.toArray 52))
  have HB0 := Lib.hid (((Below.refl w.heap.size w).alloc (Nat.le_refl _) (.cells (kc x.k x.o x.c x.l x.r x.v) 31)).alloc (by simp) (.cells oz.cells.toArray 52))
  have HK0 := Lib.hid ((Blk.new w 31 (kc x.k x.o x.c x.l x.r x.v)).alloc (.cells oz.cells.toArray 52))
  have HO0 := Lib.hid (show Blk ((w.alloc (.cells (kc x.k x.o x.c x.l x.r x.v) 31)).alloc (.cells oz.cells.toArray 52)) (w.heap.size + 1) 52 oz.cells.toArray from by have := Blk.new (w.alloc (.cells (kc x.k x.o x.c x.l x.r x.v) 31)) 52 oz.cells.toArray; simpa using this)
  clear hT ha hf hc
  rcases hP with rfl | ⟨q, rfl⟩
  all_goals
    go_enter Tryd.func82, Tryd.ntmps82
    go_wp2_with (first
      | (go_at_call 75; refine (kname_yes x _ HT0.out HF.out).mono ?_; rintro e w1 ⟨rfl, b1⟩; have HB1 := Lib.hid (HB0.out.trans (b1.mono HB0.out.size)); have HT1 := Lib.hid (HT0.out.below b1); have HK1 := Lib.hid (HK0.out.keep b1); have HO1 := Lib.hid (HO0.out.keep b1); clear b1)
      | (go_at_call 15; refine (HA.out _ HB1.out).mono ?_; rintro e w2 ⟨rfl, b2⟩; have HB2 := Lib.hid (((HB1.out.trans (b2.mono HB1.out.size)).alloc (by have := HB1.out.size; have := b2.size; omega) (.cells o.cells.toArray 52))); have HT2 := Lib.hid ((HT1.out.below b2).alloc (.cells o.cells.toArray 52)); have HK2 := Lib.hid ((HK1.out.keep b2).alloc (.cells o.cells.toArray 52)); have HO2 := Lib.hid ((HO1.out.keep b2).alloc (.cells o.cells.toArray 52)); have HG2 := Lib.hid (Blk.new w2 52 o.cells.toArray); obtain ⟨c0, c1, c2, c3, c4, c5⟩ := HK2.out.six; clear b2)
      | (refine wpList_store_last rfl (.tmp 8) (.tmp 19) rfl _ rfl rfl o oz rfl ?_)
      | (refine wpList_yields (S := fun w' => ObAt w' w2.heap.size 0 o) (y_ob (by rfl) (.tmp 8) (by rfl) w2.heap.size 0 (by rfl) o (fun _ h => h)) HG2.out.ob ?_)
      | (go_at_call 96; refine (cn_eq HC.out HT2.out).mono ?_; rintro e w3 ⟨rfl, b3⟩; have HB3 := Lib.hid (HB2.out.trans (b3.mono HB2.out.size)); have HO3 := Lib.hid (HO2.out.keep b3); have HG3 := Lib.hid (HG2.out.keep b3); clear b3 c0 c1 c2 c3 c4 c5)
      | (refine wpList_yields (S := fun w' => ObAt w' w2.heap.size 0 o) (y_ob (by rfl) (.tmp 8) (by rfl) w2.heap.size 0 (by rfl) o (fun _ h => h)) HG3.out.ob ?_)
      | (refine wpList_store_ob HO3.out rfl (.tmp 4) (.tmp 34) rfl (by rfl) o rfl ?_))
    exact bodyPost_ret (results_obj rfl _ _ (w.heap.size + 1) o rfl (HO3.out.setRow _)) rfl ⟨rfl, below_setRow HB3.out (by omega) _⟩
end Go.Proofs.YtfckdbennjkgoaaDoor

/- keys: contracts with one answer each. -/
import Derived.Test.YtedlacdijkggjaaDoorR04
import Derived.Test.YtedlacdijkggjaaDoorR03
import Derived.MapKept
import Derived.Maps.OwnOps
import Derived.Test.YtedlacdijkggjaaDoorR01
import Derived.RangeFuncNested
import Derived.OrdersHeld
import Derived.OrdersIn
import Derived.Deep.RegionHeld3
namespace Go.Proofs.YtedlacdijkggjaaDoor
open Go.RowKit
/-- 0 of a key that may be, 2 of others -/
noncomputable def Ky.chk (x : Ky) : Int := @ite Int x.ok (Classical.propDecidable _) 0 2
theorem Ky.chk_yes {x : Ky} (h : x.ok) : x.chk = 0 := if_pos h
theorem Ky.chk_no {x : Ky} (h : ¬ x.ok) : x.chk = 2 := if_neg h
set_option maxRecDepth 8000 in
theorem kchk_any (x : Ky) (w : World) (hT : Tab w) : Calls Tryd.prog 55 #[x.val] w fun e w' => e = .returned (.int .i64 x.chk) ∧ Below w.heap.size w w' := by
  by_cases h : x.ok
  · rw [Ky.chk_yes h]; exact chk_ok _ _ _ _ _ _ w hT h
  · rw [Ky.chk_no h]; exact chk_no _ _ _ _ _ _ w hT h
set_option maxRecDepth 8000 in
theorem rchk_any (x : Ky) (w : World) : Calls Tryd.prog 42 #[x.val] w fun e w' => e = .returned (.int .i64 x.chk) ∧ Below w.heap.size w w' := by
  by_cases h : x.ok
  · rw [Ky.chk_yes h]; exact rchk_ok _ _ _ _ _ _ w h
  · rw [Ky.chk_no h]; exact rchk_no _ _ _ _ _ _ w h
/-- is a key of an object -/
def Ky.of (x : Ky) : Prop := x.ok ∧ 2 ≤ x.k ∧ x.k ≤ 7
set_option maxRecDepth 8000 in
theorem nA_of {x : Ky} (h : x.of) : nA x.k = true := by unfold nA; simpa using h.2
set_option maxRecDepth 8000 in
theorem nA_not {x : Ky} (h : ¬ x.of) (ho : x.ok) : nA x.k = false := by
  unfold nA
  simp only [decide_eq_false_iff_not]
  exact fun h' => h ⟨ho, h'⟩
set_option maxRecDepth 8000 in
theorem wants_of {x : Ky} (h : x.of) : kWants x.k.toNat = if x.k = 3 then 2 else 1 := by
  obtain ⟨k, o, c, l, r, v⟩ := x
  obtain ⟨_, h2, h7⟩ := h
  simp only at h2 h7 ⊢
  have hcase : k = 2 ∨ k = 3 ∨ k = 4 ∨ k = 5 ∨ k = 6 ∨ k = 7 := by omega
  rcases hcase with rfl | rfl | rfl | rfl | rfl | rfl <;> rfl
set_option maxRecDepth 8000 in
theorem wants_not {x : Ky} (h : ¬ x.of) (ho : x.ok) : kWants x.k.toNat = 0 := by
  have hk := okK_in ho
  have h' : ¬ (2 ≤ x.k ∧ x.k ≤ 7) := fun h' => h ⟨ho, h'⟩
  obtain ⟨k, o, c, l, r, v⟩ := x
  simp only at h' hk ⊢
  have hcase : k = 0 ∨ k = 1 ∨ k = 8 ∨ k = 9 ∨ k = 10 := by omega
  rcases hcase with rfl | rfl | rfl | rfl | rfl <;> rfl
/-- what a key wants -/
noncomputable def Ky.want (x : Ky) : Int := @ite Int x.of (Classical.propDecidable _) (if x.k = 3 then 2 else 1) 0
set_option maxRecDepth 8000 in
theorem kwant_any (x : Ky) (w : World) (hT : Tab w) : Calls Tryd.prog 54 #[x.val] w fun e w' => e = .returned (.int .i64 x.want) ∧ Below w.heap.size w w' := by
  unfold Ky.want
  by_cases h : x.of
  · rw [if_pos h, ← wants_of h]; exact wants_any _ _ _ _ _ _ w hT h.1
  · rw [if_neg h]
    by_cases ho : x.ok
    · rw [← wants_not h ho]; exact wants_any _ _ _ _ _ _ w hT ho
    · exact wants_no _ _ _ _ _ _ w hT ho
set_option maxRecDepth 8000 in
theorem rwant_any (x : Ky) (w : World) : Calls Tryd.prog 60 #[x.val] w fun e w' => e = .returned (.int .i64 x.want) ∧ Below w.heap.size w w' := by
  unfold Ky.want
  by_cases h : x.of
  · rw [if_pos h]
    by_cases h3 : x.k = 3
    · rw [if_pos h3]; exact rw_3 _ _ _ _ _ _ w h.1 (nA_of h) h3
    · rw [if_neg h3]; exact rw_1 _ _ _ _ _ _ w h.1 (nA_of h) h3
  · rw [if_neg h]
    by_cases ho : x.ok
    · exact rw_none _ _ _ _ _ _ w ho (nA_not h ho)
    · exact rw_no _ _ _ _ _ _ w ho
theorem kname_yes (x : Ky) (w : World) (hT : Tab w) (h : x.of) : Calls Tryd.prog 47 #[x.val] w fun e w' => e = .returned (.tuple #[.int .i64 x.o, .bool true]) ∧ Below w.heap.size w w' :=
  kn_some _ _ _ _ _ _ w hT h.1 (by rw [wants_of h]; split <;> decide)
set_option maxRecDepth 8000 in
theorem kname_no (x : Ky) (w : World) (hT : Tab w) (h : ¬ x.of) : Calls Tryd.prog 47 #[x.val] w fun e w' => e = .returned (.tuple #[.int .i64 0, .bool false]) ∧ Below w.heap.size w w' := by
  by_cases ho : x.ok
  · exact kn_none _ _ _ _ _ _ w hT ho (wants_not h ho)
  · exact kn_no _ _ _ _ _ _ w hT ho
theorem rname_yes (x : Ky) (w : World) (h : x.of) : Calls Tryd.prog 43 #[x.val] w fun e w' => e = .returned (.int .i64 x.o) ∧ Below w.heap.size w w' := rn_some _ _ _ _ _ _ w h.1 (nA_of h)
set_option maxRecDepth 8000 in
theorem rname_no (x : Ky) (w : World) (h : ¬ x.of) : Calls Tryd.prog 43 #[x.val] w fun e w' => e = .returned (.int .i64 (-1)) ∧ Below w.heap.size w w' := by
  by_cases ho : x.ok
  · exact rn_none _ _ _ _ _ _ w ho (nA_not h ho)
  · exact rn_no _ _ _ _ _ _ w ho
set_option maxRecDepth 8000 in
theorem of_o {x : Ky} (h : x.of) : 0 ≤ x.o := by
  obtain ⟨⟨n, _, _, h0, _⟩, _⟩ := h
  exact h0
theorem kchk_yes (x : Ky) (w : World) (hT : Tab w) (h : x.ok) : Calls Tryd.prog 55 #[x.val] w fun e w' => e = .returned (.int .i64 0) ∧ Below w.heap.size w w' := chk_ok _ _ _ _ _ _ w hT h
theorem kchk_no (x : Ky) (w : World) (hT : Tab w) (h : ¬ x.ok) : Calls Tryd.prog 55 #[x.val] w fun e w' => e = .returned (.int .i64 2) ∧ Below w.heap.size w w' := chk_no _ _ _ _ _ _ w hT h
end Go.Proofs.YtedlacdijkggjaaDoor
namespace Go.Proofs.YtedlacdijkggjaaDoor
open Go.RowKit
open Go.MapKept (run_getObj_map run_setObj_map run_findKey)
set_option maxRecDepth 8000 in
theorem push_set {α : Type} (a : Array α) (x y : α) : (a.push x).setIfInBounds a.size y = a.push y := by
  apply Array.ext'
  rw [Array.toList_setIfInBounds, Array.toList_push, Array.toList_push, List.set_append_right _ _ (by simp)]
  simp
set_option maxRecDepth 8000 in
theorem run_check_int {P : Program} {k : TypeId} {q : IntKind} (hk : P.underlying k = some (.int q)) (W : World) (b : Bool) (n : Int) : (Instr.checkKey b 10000 k (.int q n)).run P W = .ok () W := by
  have h : ∀ d, (Instr.checkKey b (d + 1) k (.int q n)).run P W = .ok () W := fun d => by simp [Instr.checkKey, run_underlying hk]
  exact h 9999
set_option maxRecDepth 8000 in
theorem run_upd_new {P : Program} {t k e : TypeId} (ht : P.underlying t = some (.map k e)) (hk : P.underlying k = some (.int .i64)) (W : World) (es : Array MapEntry) (clock : Nat) (n : Int) (v : Value)
    (hfind : Instr.findNow (.int .i64) (.int .i64 n) es.toList 0 = some none) :
    (Instr.mapUpdate t (.map (some W.heap.size)) (.int .i64 n) v).run P (W.alloc (.map es clock)) = .ok () (W.alloc (.map (es.push { key := .int .i64 n, val := v, born := clock }) (clock + 1))) := by
  have hb : (W.alloc (.map es clock)).heap[W.heap.size]? = some (.map es clock) := heap_alloc_new W _
  have hf := run_findKey (P := P) (w := W.alloc (.map es clock)) hk hfind
  have hck := run_check_int hk (W.alloc (.map es clock)) false n
  simp [Instr.mapUpdate, run_underlying ht, Go.MapKept.run_getObj_map hb, hck, hf, Go.MapKept.run_setObj_map _ hb, Result.andThen]
  show ({ W with heap := (W.heap.push _).setIfInBounds W.heap.size _ } : World) = { W with heap := W.heap.push _ }
  rw [push_set]
set_option maxRecDepth 8000 in
theorem run_look_fn {P : Program} {t k e : TypeId} (ht : P.underlying t = some (.map k e)) (hk : P.underlying k = some (.int .i64)) (hz : ∀ W : World, (zeroValue e).run P W = .ok .nilFunc W) (W : World) (b : Nat) (es : Array MapEntry) (clock : Nat) (n : Int)
    (hb : W.heap[b]? = some (.map es clock)) (a : Option (Nat × Value)) (hfind : Instr.findNow (.int .i64) (.int .i64 n) es.toList 0 = some a) :
    (Instr.lookup t (.map (some b)) (.int .i64 n) true).run P W = .ok (.tuple #[(a.map (·.2)).getD .nilFunc, .bool a.isSome]) W := by
  have hf := run_findKey (P := P) (w := W) hk hfind
  have hck := fun x => run_check_int hk W x n
  cases a with
  | none => simp [Instr.lookup, run_underlying ht, Go.MapKept.run_getObj_map hb, hf, hck, hz W, Result.andThen]
  | some p => simp [Instr.lookup, run_underlying ht, Go.MapKept.run_getObj_map hb, hf, hck, Result.andThen]
end Go.Proofs.YtedlacdijkggjaaDoor
namespace Go.Proofs.YtedlacdijkggjaaDoor
open Go.RowKit
/-- Q at the normal end, and no other end -/
def OnlyN (Q : Exit → Act → World → Prop) : Exit → Act → World → Prop
  | .normal, a, w => Q .normal a w
  | _, _, _ => False
section
variable {P : Program} {ops : Array Oper} {Q : Exit → Act → World → Prop} {md : Region.Mode} {S : World → Prop} {l n : Nat}
set_option maxRecDepth 8000 in
theorem onlyN_not_out : ¬ LetsOut (OnlyN Q) := by rintro ⟨a, w, h⟩; exact h
set_option maxRecDepth 8000 in
theorem wpOpIn_of_only (hd : ∀ (i : Nat) (o : Oper), ops[i]? = some o → ∀ c, o.op ≠ .defer c) {i : Nat} {K K' : Act → World → Prop} (hK : ∀ a w, K a w → K' a w) {a : Act} {w : World} (h : wpOp P ops (OnlyN Q) i K a w) :
    wpOpIn (Fence.wide.inRound l) n P ops Q i K' a w := by
  unfold wpOp at h
  unfold wpOpIn
  cases ho : ops[i]? with
  | none => rw [ho] at h; exact hK _ _ h
  | some o =>
    rw [ho] at h
    simp only at h ⊢
    split
    · rename_i hw
      rw [if_pos hw] at h
      rcases h with h | ⟨_, h⟩
      · unfold Oper.wp at h
        unfold Oper.wpIn
        refine ⟨fun _ _ => trivial, ?_⟩
        rw [Oper.semAt_eq _ _ _ (hd i o ho)]
        generalize (execOp a.eval o).run P w = r at h ⊢
        cases r with
        | ok x w' =>
          cases x with
          | value v => exact hK _ _ h
          | skip => exact hK _ _ h
          | defer d => exact hK _ _ h
          | enter f args =>
            refine ⟨(fun h => by cases h), callsIn_wide.2 (Calls.mono h fun e w'' he => ?_)⟩
            cases e with
            | returned v => exact hK _ _ he
            | panicked c => exact (he : False).elim
            | outgrown => exact absurd he onlyN_not_out
          | row row args =>
            refine ⟨(fun h => by cases h), fun c cs _ => ?_⟩
            obtain ⟨v, w'', hr, hs⟩ := h c cs
            exact ⟨v, w'', hK _ _ hr, stepsIn_wide.2 hs⟩
          | _ => exact (h : False).elim
        | halt x w' =>
          cases x <;> exact (h : False).elim
      · exact absurd h onlyN_not_out
    · rename_i hw
      rw [if_neg hw] at h
      exact ⟨fun _ _ => trivial, hK _ _ h⟩
theorem wpAnyIn_of_only (hd : ∀ (i : Nat) (o : Oper), ops[i]? = some o → ∀ c, o.op ≠ .defer c) : ∀ (fuel : Nat) (listed : Array Bool) (a : Act) (w : World), wpAny P md ops (OnlyN Q) fuel listed a w → wpAnyIn (Fence.wide.inRound l) n P md ops Q fuel listed a w
  | 0, _, _, _, h => h
  | fuel + 1, _, _, _, h => ⟨h.1, fun i hi => wpOpIn_of_only hd (fun a' w' h' => wpAnyIn_of_only hd fuel _ a' w' h') (h.2 i hi)⟩
theorem wpIn_region_round {id : Nat} {a : Act} {w : World} (hm : P.follows .mixedOrders = true) (hd : ∀ (i : Nat) (o : Oper), ops[i]? = some o → ∀ c, o.op ≠ .defer c) (hS : S w.drew)
    (h : S w.drew → wpAnyH P .any ops (OnlyN Q) S ops.size (Array.replicate ops.size false) a w.drew) : (Code.region id ops true).wpIn (Fence.wide.inRound l) n P Q a w :=
  wpIn_region_any hm (wpAnyIn_of_only hd _ _ _ _ (wpAny_of_held _ _ _ _ (h hS)))
theorem OnlyN.normal {a : Act} {w : World} (h : Q .normal a w) : OnlyN Q .normal a w := h
theorem OnlyN.imp : ∀ (e : Exit) (a : Act) (w : World), OnlyN Q e a w → Q e a w := fun e a w h => by
  cases e <;> first | exact h | exact (h : False).elim
theorem wp_region_only {id : Nat} {a : Act} {w : World} (hm : P.follows .mixedOrders = true) (hS : S w.drew)
    (h : S w.drew → wpAnyH P .any ops (OnlyN Q) S ops.size (Array.replicate ops.size false) a w.drew) : (Code.region id ops true).wp P Q a w :=
  Code.wp_mono OnlyN.imp (wp_region_held_drew hm hS h)
theorem wpIn_region_out {id : Nat} {a : Act} {w : World} (hm : P.follows .mixedOrders = true) (hS : S w.drew)
    (h : S w.drew → wpAnyH P .any ops (OnlyN Q) S ops.size (Array.replicate ops.size false) a w.drew) : (Code.region id ops true).wpIn Fence.wide n P Q a w :=
  wpIn_wide.2 (wp_region_only hm hS h)
/-- no operation of the row is a defer -/
def noDeferB (ops : Array Oper) : Bool := ops.all fun o => match o.op with | .defer _ => false | _ => true
set_option maxRecDepth 8000 in
theorem noDefer (h : noDeferB ops = true) : ∀ (i : Nat) (o : Oper), ops[i]? = some o → ∀ c, o.op ≠ .defer c := by
  intro i o ho c hc
  have := (Array.all_eq_true_iff_forall_mem.1 h) o (Array.mem_of_getElem? ho)
  rw [hc] at this
  cases this
end
end Go.Proofs.YtedlacdijkggjaaDoor
namespace Go.Proofs.YtedlacdijkggjaaDoor
open Go.RowKit
end Go.Proofs.YtedlacdijkggjaaDoor

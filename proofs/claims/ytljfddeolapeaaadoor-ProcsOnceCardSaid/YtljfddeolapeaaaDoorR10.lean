/- keys.weakOnes: the map of function values. -/
import Derived.Test.YtljfddeolapeaaaDoorR03
import Derived.MapKept
import Derived.Maps.OwnOps
import Derived.Test.YtljfddeolapeaaaDoorR04
import Derived.Test.YtljfddeolapeaaaDoorR07
namespace Go.Proofs.YtljfddeolapeaaaDoor
open List renaming getElem_toArray → zq1, getElem_cons_succ → zq2, getElem_cons_zero → zq3, setIfInBounds_toArray → zq4, set_cons_zero → zq5, set_cons_succ → zq6
open Go.RowKit
open Go.MapKept (run_getObj_map run_setObj_map run_findKey)
set_option maxRecDepth 8000 in
theorem push_set {α : Type} (a : Array α) (x y : α) : (a.push x).setIfInBounds a.size y = a.push y := by
  apply Array.ext'
  rw [Array.toList_setIfInBounds, Array.toList_push, Array.toList_push, List.set_append_right _ _ (by simp)]
  simp
set_option maxRecDepth 8000 in
theorem run_check_int {P : Program} {k : TypeId} {q : IntKind} (hk : P.underlying k = some (.int q)) (W : World) (b : Bool) (n : Int) : (Instr.checkKey b 10000 k (.int q n)).run P W = .ok () W := by
  have h : ∀ d, (Instr.checkKey b (d + 1) k (.int q n)).run P W = .ok () W := fun d => by simp [Instr.checkKey, run_underlying hk]
  exact h 9999
set_option maxRecDepth 8000 in
theorem run_upd_new {P : Program} {t k e : TypeId} (ht : P.underlying t = some (.map k e)) (hk : P.underlying k = some (.int .i64)) (W : World) (es : Array MapEntry) (clock : Nat) (n : Int) (v : Value)
    (hfind : Instr.findNow (.int .i64) (.int .i64 n) es.toList 0 = some none) :
    (Instr.mapUpdate t (.map (some W.heap.size)) (.int .i64 n) v).run P (W.alloc (.map es clock)) = .ok () (W.alloc (.map (es.push { key := .int .i64 n, val := v, born := clock }) (clock + 1))) := by
  have hb : (W.alloc (.map es clock)).heap[W.heap.size]? = some (.map es clock) := heap_alloc_new W _
  have hf := run_findKey (P := P) (w := W.alloc (.map es clock)) hk hfind
  have hck := run_check_int hk (W.alloc (.map es clock)) false n
  simp [Instr.mapUpdate, run_underlying ht, Go.MapKept.run_getObj_map hb, hck, hf, Go.MapKept.run_setObj_map _ hb, Result.andThen]
  show ({ W with heap := (W.heap.push _).setIfInBounds W.heap.size _ } : World) = { W with heap := W.heap.push _ }
  rw [push_set]
set_option maxRecDepth 8000 in
theorem run_look_fn {P : Program} {t k e : TypeId} (ht : P.underlying t = some (.map k e)) (hk : P.underlying k = some (.int .i64)) (hz : ∀ W : World, (zeroValue e).run P W = .ok .nilFunc W) (W : World) (b : Nat) (es : Array MapEntry) (clock : Nat) (n : Int)
    (hb : W.heap[b]? = some (.map es clock)) (a : Option (Nat × Value)) (hfind : Instr.findNow (.int .i64) (.int .i64 n) es.toList 0 = some a) :
    (Instr.lookup t (.map (some b)) (.int .i64 n) true).run P W = .ok (.tuple #[(a.map (·.2)).getD .nilFunc, .bool a.isSome]) W := by
  have hf := run_findKey (P := P) (w := W) hk hfind
  have hck := fun x => run_check_int hk W x n
  cases a with
  | none => simp [Instr.lookup, run_underlying ht, Go.MapKept.run_getObj_map hb, hf, hck, hz W, Result.andThen]
  | some p => simp [Instr.lookup, run_underlying ht, Go.MapKept.run_getObj_map hb, hf, hck, Result.andThen]
end Go.Proofs.YtljfddeolapeaaaDoor
namespace Go.Proofs.YtljfddeolapeaaaDoor
open List renaming getElem_toArray → zq1, getElem_cons_succ → zq2, getElem_cons_zero → zq3, setIfInBounds_toArray → zq4, set_cons_zero → zq5, set_cons_succ → zq6
open Go.RowKit
end Go.Proofs.YtljfddeolapeaaaDoor
namespace Go.Proofs.YtljfddeolapeaaaDoor
open List renaming getElem_toArray → zq1, getElem_cons_succ → zq2, getElem_cons_zero → zq3, setIfInBounds_toArray → zq4, set_cons_zero → zq5, set_cons_succ → zq6
open Go.RowKit
end Go.Proofs.YtljfddeolapeaaaDoor
namespace Go.Proofs.YtljfddeolapeaaaDoor
open List renaming getElem_toArray → zq1, getElem_cons_succ → zq2, getElem_cons_zero → zq3, setIfInBounds_toArray → zq4, set_cons_zero → zq5, set_cons_succ → zq6
open Go.RowKit
def b1 (r q b : Nat) : Nat := if r / b % 2 = 1 ∨ q / b % 2 = 1 then b else 0
end Go.Proofs.YtljfddeolapeaaaDoor

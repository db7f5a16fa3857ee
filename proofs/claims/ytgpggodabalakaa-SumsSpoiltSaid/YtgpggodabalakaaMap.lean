/- A map that the call makes out of a list of pairs; the walk of greatestOf, and what is looked up in it. -/
import Derived.Test.YtgpggodabalakaaPut
import Derived.MapKept
import Derived.Maps.OwnOps
namespace Go.Proofs.Ytgpggodabalakaa
open Go.RowKit
open Go.MapKept (run_getObj_map run_setObj_map run_findKey)
theorem push_set {α : Type} (a : Array α) (x y : α) : (a.push x).setIfInBounds a.size y = a.push y := by
  apply Array.ext'
  rw [Array.toList_setIfInBounds, Array.toList_push, Array.toList_push, List.set_append_right _ _ (by simp)]
  simp
theorem run_check_int {P : Program} {k : TypeId} {q : IntKind} (hk : P.underlying k = some (.int q)) (W : World) (b : Bool) (n : Int) : (Instr.checkKey b 10000 k (.int q n)).run P W = .ok () W := by
  have h : ∀ d, (Instr.checkKey b (d + 1) k (.int q n)).run P W = .ok () W := fun d => by simp [Instr.checkKey, run_underlying hk]
  exact h 9999
theorem run_upd_new {P : Program} {t k e : TypeId} (ht : P.underlying t = some (.map k e)) (hk : P.underlying k = some (.int .i64)) (W : World) (es : Array MapEntry) (clock : Nat) (n : Int) (v : Value)
    (hfind : Instr.findNow (.int .i64) (.int .i64 n) es.toList 0 = some none) :
    (Instr.mapUpdate t (.map (some W.heap.size)) (.int .i64 n) v).run P (W.alloc (.map es clock)) = .ok () (W.alloc (.map (es.push { key := .int .i64 n, val := v, born := clock }) (clock + 1))) := by
  have hb : (W.alloc (.map es clock)).heap[W.heap.size]? = some (.map es clock) := heap_alloc_new W _
  have hf := run_findKey (P := P) (w := W.alloc (.map es clock)) hk hfind
  have hck := run_check_int hk (W.alloc (.map es clock)) false n
  simp [Instr.mapUpdate, run_underlying ht, Go.MapKept.run_getObj_map hb, hck, hf, Go.MapKept.run_setObj_map _ hb, Result.andThen]
  show ({ W with heap := (W.heap.push _).setIfInBounds W.heap.size _ } : World) = { W with heap := W.heap.push _ }
  rw [push_set]
theorem run_look_int {P : Program} {t k e : TypeId} (ht : P.underlying t = some (.map k e)) (hk : P.underlying k = some (.int .i64)) (hz : ∀ W : World, (zeroValue e).run P W = .ok (.int .i64 0) W) (W : World) (b : Nat) (es : Array MapEntry) (clock : Nat) (n : Int)
    (hb : W.heap[b]? = some (.map es clock)) (a : Option (Nat × Value)) (hfind : Instr.findNow (.int .i64) (.int .i64 n) es.toList 0 = some a) :
    (Instr.lookup t (.map (some b)) (.int .i64 n) true).run P W = .ok (.tuple #[(a.map (·.2)).getD (.int .i64 0), .bool a.isSome]) W := by
  have hf := run_findKey (P := P) (w := W) hk hfind
  have hck := fun x => run_check_int hk W x n
  cases a with
  | none => simp [Instr.lookup, run_underlying ht, Go.MapKept.run_getObj_map hb, hf, hck, hz W, Result.andThen]
  | some p => simp [Instr.lookup, run_underlying ht, Go.MapKept.run_getObj_map hb, hf, hck, Result.andThen]
def gEs : Array MapEntry := #[{ key := .int .i64 2, val := .int .i64 65535, born := 0 }, { key := .int .i64 4, val := .int .i64 4294967295, born := 1 }, { key := .int .i64 8, val := .int .i64 9223372036854775807, born := 2 }]
theorem upd1 (W : World) : (Instr.mapUpdate 49 (.map (some W.heap.size)) (.int .i64 2) (.int .i64 65535)).run Try.prog (W.alloc (.map #[] 0)) = .ok () (W.alloc (.map #[{ key := .int .i64 2, val := .int .i64 65535, born := 0 }] 1)) :=
  run_upd_new Try.underlying49 Try.underlying3 W #[] 0 _ _ rfl
theorem upd2 (W : World) : (Instr.mapUpdate 49 (.map (some W.heap.size)) (.int .i64 4) (.int .i64 4294967295)).run Try.prog (W.alloc (.map #[{ key := .int .i64 2, val := .int .i64 65535, born := 0 }] 1)) =
    .ok () (W.alloc (.map #[{ key := .int .i64 2, val := .int .i64 65535, born := 0 }, { key := .int .i64 4, val := .int .i64 4294967295, born := 1 }] 2)) :=
  run_upd_new Try.underlying49 Try.underlying3 W _ 1 _ _ rfl
theorem upd3 (W : World) : (Instr.mapUpdate 49 (.map (some W.heap.size)) (.int .i64 8) (.int .i64 9223372036854775807)).run Try.prog (W.alloc (.map #[{ key := .int .i64 2, val := .int .i64 65535, born := 0 }, { key := .int .i64 4, val := .int .i64 4294967295, born := 1 }] 2)) =
    .ok () (W.alloc (.map gEs 3)) :=
  run_upd_new Try.underlying49 Try.underlying3 W _ 2 _ _ rfl
/-- the greatest number of so many bytes, where there is one -/
def greatestN (n : Int) : Option Int := if n = 2 then some 65535 else if n = 4 then some 4294967295 else if n = 8 then some 9223372036854775807 else none
theorem gLook (W : World) (b : Nat) (n : Int) (hb : W.heap[b]? = some (.map gEs 3)) :
    (Instr.lookup 49 (.map (some b)) (.int .i64 n) true).run Try.prog W = .ok (.tuple #[.int .i64 ((greatestN n).getD 0), .bool (greatestN n).isSome]) W := by
  unfold greatestN
  split
  · subst n; exact run_look_int Try.underlying49 Try.underlying3 (fun W => by kernel_rfl) W b gEs 3 _ hb (some (0, .int .i64 65535)) rfl
  · split
    · subst n; exact run_look_int Try.underlying49 Try.underlying3 (fun W => by kernel_rfl) W b gEs 3 _ hb (some (1, .int .i64 4294967295)) rfl
    · split
      · subst n; exact run_look_int Try.underlying49 Try.underlying3 (fun W => by kernel_rfl) W b gEs 3 _ hb (some (2, .int .i64 9223372036854775807)) rfl
      · exact run_look_int Try.underlying49 Try.underlying3 (fun W => by kernel_rfl) W b gEs 3 _ hb none (by
          have e2 : (n == 2) = false := by simpa using ‹¬ n = 2›
          have e4 : (n == 4) = false := by simpa using ‹¬ n = 4›
          have e8 : (n == 8) = false := by simpa using ‹¬ n = 8›
          simp [Instr.findNow, Instr.sameNow, gEs, e2, e4, e8])
set_option maxHeartbeats 400000 in
theorem greatest_any (w : World) :
    Calls Try.prog 25 #[] w fun e w' => e = .returned (.map (some w.heap.size)) ∧ w.alloc (.map gEs 3) = w' := by
  have hmm := @run_makeMap Try.prog
  have h1 := upd1
  have h2 := upd2
  have h3 := upd3
  go_enter Try.func25, Try.ntmps25
  go_wp2
  go_ret
  exact ⟨rfl, rfl⟩
end Go.Proofs.Ytgpggodabalakaa

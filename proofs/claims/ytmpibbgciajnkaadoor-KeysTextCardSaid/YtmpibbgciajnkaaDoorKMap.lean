/- keys.weakOnes: the map of function values. -/
import Derived.Test.YtmpibbgciajnkaaDoorKW1
import Derived.MapKept
import Derived.Maps.OwnOps
namespace Go.Proofs.YtmpibbgciajnkaaDoor
open Go.RowKit
open Go.MapKept (run_getObj_map run_setObj_map run_findKey)
theorem push_set {α : Type} (a : Array α) (x y : α) : (a.push x).setIfInBounds a.size y = a.push y := by
  apply Array.ext'
  rw [Array.toList_setIfInBounds, Array.toList_push, Array.toList_push, List.set_append_right _ _ (by simp)]
  simp
theorem run_check_int {P : Program} {k : TypeId} {q : IntKind} (hk : P.underlying k = some (.int q)) (W : World) (b : Bool) (n : Int) : (Instr.checkKey b 10000 k (.int q n)).run P W = .ok () W := by
  have h : ∀ d, (Instr.checkKey b (d + 1) k (.int q n)).run P W = .ok () W := fun d => by simp [Instr.checkKey, run_underlying hk]
  exact h 9999
theorem run_upd_new {P : Program} {t k e : TypeId} (ht : P.underlying t = some (.map k e)) (hk : P.underlying k = some (.int .i64)) (W : World) (es : Array MapEntry) (clock : Nat) (n : Int) (v : Value)
    (hfind : Instr.findNow (.int .i64) (.int .i64 n) es.toList 0 = some none) :
    (Instr.mapUpdate t (.map (some W.heap.size)) (.int .i64 n) v).run P (W.alloc (.map es clock)) = .ok () (W.alloc (.map (es.push { key := .int .i64 n, val := v, born := clock }) (clock + 1))) := by
  have hb : (W.alloc (.map es clock)).heap[W.heap.size]? = some (.map es clock) := heap_alloc_new W _
  have hf := run_findKey (P := P) (w := W.alloc (.map es clock)) hk hfind
  have hck := run_check_int hk (W.alloc (.map es clock)) false n
  simp [Instr.mapUpdate, run_underlying ht, Go.MapKept.run_getObj_map hb, hck, hf, Go.MapKept.run_setObj_map _ hb, Result.andThen]
  show ({ W with heap := (W.heap.push _).setIfInBounds W.heap.size _ } : World) = { W with heap := W.heap.push _ }
  rw [push_set]
theorem run_look_fn {P : Program} {t k e : TypeId} (ht : P.underlying t = some (.map k e)) (hk : P.underlying k = some (.int .i64)) (hz : ∀ W : World, (zeroValue e).run P W = .ok .nilFunc W) (W : World) (b : Nat) (es : Array MapEntry) (clock : Nat) (n : Int)
    (hb : W.heap[b]? = some (.map es clock)) (a : Option (Nat × Value)) (hfind : Instr.findNow (.int .i64) (.int .i64 n) es.toList 0 = some a) :
    (Instr.lookup t (.map (some b)) (.int .i64 n) true).run P W = .ok (.tuple #[(a.map (·.2)).getD .nilFunc, .bool a.isSome]) W := by
  have hf := run_findKey (P := P) (w := W) hk hfind
  have hck := fun x => run_check_int hk W x n
  cases a with
  | none => simp [Instr.lookup, run_underlying ht, Go.MapKept.run_getObj_map hb, hf, hck, hz W, Result.andThen]
  | some p => simp [Instr.lookup, run_underlying ht, Go.MapKept.run_getObj_map hb, hf, hck, Result.andThen]
def wE1 : Array MapEntry := #[{ key := .int .i64 0, val := .func (.func 46) #[] #[], born := 0 }]
theorem wupd1 (W : World) : (Instr.mapUpdate 68 (.map (some W.heap.size)) (.int .i64 0) (.func (.func 46) #[] #[])).run Tryd.prog (W.alloc (.map #[] 0)) = .ok () (W.alloc (.map wE1 1)) :=
  run_upd_new Tryd.underlying68 Tryd.underlying22 W #[] 0 _ _ rfl
def wE2 : Array MapEntry := #[{ key := .int .i64 0, val := .func (.func 46) #[] #[], born := 0 }, { key := .int .i64 1, val := .func (.func 46) #[] #[], born := 1 }]
theorem wupd2 (W : World) : (Instr.mapUpdate 68 (.map (some W.heap.size)) (.int .i64 1) (.func (.func 46) #[] #[])).run Tryd.prog (W.alloc (.map wE1 1)) = .ok () (W.alloc (.map wE2 2)) :=
  run_upd_new Tryd.underlying68 Tryd.underlying22 W wE1 1 _ _ rfl
def wE3 : Array MapEntry := #[{ key := .int .i64 0, val := .func (.func 46) #[] #[], born := 0 }, { key := .int .i64 1, val := .func (.func 46) #[] #[], born := 1 }, { key := .int .i64 8, val := .func (.func 46) #[] #[], born := 2 }]
theorem wupd3 (W : World) : (Instr.mapUpdate 68 (.map (some W.heap.size)) (.int .i64 8) (.func (.func 46) #[] #[])).run Tryd.prog (W.alloc (.map wE2 2)) = .ok () (W.alloc (.map wE3 3)) :=
  run_upd_new Tryd.underlying68 Tryd.underlying22 W wE2 2 _ _ rfl
def wE4 : Array MapEntry := #[{ key := .int .i64 0, val := .func (.func 46) #[] #[], born := 0 }, { key := .int .i64 1, val := .func (.func 46) #[] #[], born := 1 }, { key := .int .i64 8, val := .func (.func 46) #[] #[], born := 2 }, { key := .int .i64 2, val := .func (.func 47) #[] #[], born := 3 }]
theorem wupd4 (W : World) : (Instr.mapUpdate 68 (.map (some W.heap.size)) (.int .i64 2) (.func (.func 47) #[] #[])).run Tryd.prog (W.alloc (.map wE3 3)) = .ok () (W.alloc (.map wE4 4)) :=
  run_upd_new Tryd.underlying68 Tryd.underlying22 W wE3 3 _ _ rfl
def wE5 : Array MapEntry := #[{ key := .int .i64 0, val := .func (.func 46) #[] #[], born := 0 }, { key := .int .i64 1, val := .func (.func 46) #[] #[], born := 1 }, { key := .int .i64 8, val := .func (.func 46) #[] #[], born := 2 }, { key := .int .i64 2, val := .func (.func 47) #[] #[], born := 3 }, { key := .int .i64 3, val := .func (.func 47) #[] #[], born := 4 }]
theorem wupd5 (W : World) : (Instr.mapUpdate 68 (.map (some W.heap.size)) (.int .i64 3) (.func (.func 47) #[] #[])).run Tryd.prog (W.alloc (.map wE4 4)) = .ok () (W.alloc (.map wE5 5)) :=
  run_upd_new Tryd.underlying68 Tryd.underlying22 W wE4 4 _ _ rfl
theorem wlook (W : World) (b : Nat) (n : Int) (a : Option (Nat × Value)) (hb : W.heap[b]? = some (.map wE5 5)) (hfind : Instr.findNow (.int .i64) (.int .i64 n) wE5.toList 0 = some a) :
    (Instr.lookup 68 (.map (some b)) (.int .i64 n) true).run Tryd.prog W = .ok (.tuple #[(a.map (·.2)).getD .nilFunc, .bool a.isSome]) W :=
  run_look_fn Tryd.underlying68 Tryd.underlying22 (fun W => by kernel_rfl) W b wE5 5 _ hb a hfind
theorem wfind_none {n : Int} (h : n ≠ 0 ∧ n ≠ 1 ∧ n ≠ 8 ∧ n ≠ 2 ∧ n ≠ 3) : Instr.findNow (.int .i64) (.int .i64 n) wE5.toList 0 = some none := by
  obtain ⟨h0, h1, h8, h2, h3⟩ := h
  have e0 : (n == 0) = false := by simpa using h0
  have e1 : (n == 1) = false := by simpa using h1
  have e8 : (n == 8) = false := by simpa using h8
  have e2 : (n == 2) = false := by simpa using h2
  have e3 : (n == 3) = false := by simpa using h3
  simp [Instr.findNow, Instr.sameNow, wE5, e0, e1, e8, e2, e3]
set_option maxHeartbeats 400000 in
theorem weakOnes_any (w : World) :
    Calls Tryd.prog 36 #[] w fun e w' => e = .returned (.map (some w.heap.size)) ∧ w.alloc (.map wE5 5) = w' := by
  have hmm := @run_makeMap Tryd.prog
  have h1 := wupd1
  have h2 := wupd2
  have h3 := wupd3
  have h4 := wupd4
  have h5 := wupd5
  go_enter Tryd.func36, Tryd.ntmps36
  go_wp2
  go_ret
  exact ⟨rfl, rfl⟩
end Go.Proofs.YtmpibbgciajnkaaDoor

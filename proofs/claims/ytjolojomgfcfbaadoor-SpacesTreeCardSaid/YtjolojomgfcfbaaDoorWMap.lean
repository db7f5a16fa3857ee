/- spaces.steps: the map of method expressions. -/
import Derived.Test.YtjolojomgfcfbaaDoorWPl
import Derived.MapKept
import Derived.Maps.OwnOps
namespace Go.Proofs.YtjolojomgfcfbaaDoor
open Go.RowKit
open Go.MapKept (run_getObj_map run_setObj_map run_findKey)
def sE1 : Array MapEntry := #[{ key := .int .i64 2, val := .func (.func 49) #[] #[], born := 0 }]
theorem supd1 (W : World) : (Instr.mapUpdate 85 (.map (some W.heap.size)) (.int .i64 2) (.func (.func 49) #[] #[])).run Tryd.prog (W.alloc (.map #[] 0)) = .ok () (W.alloc (.map sE1 1)) :=
  run_upd_new Tryd.underlying85 Tryd.underlying27 W #[] 0 _ _ rfl
def sE2 : Array MapEntry := #[{ key := .int .i64 2, val := .func (.func 49) #[] #[], born := 0 }, { key := .int .i64 3, val := .func (.func 50) #[] #[], born := 1 }]
theorem supd2 (W : World) : (Instr.mapUpdate 85 (.map (some W.heap.size)) (.int .i64 3) (.func (.func 50) #[] #[])).run Tryd.prog (W.alloc (.map sE1 1)) = .ok () (W.alloc (.map sE2 2)) :=
  run_upd_new Tryd.underlying85 Tryd.underlying27 W sE1 1 _ _ rfl
theorem slook (W : World) (b : Nat) (n : Int) (a : Option (Nat × Value)) (hb : W.heap[b]? = some (.map sE2 2)) (hfind : Instr.findNow (.int .i64) (.int .i64 n) sE2.toList 0 = some a) :
    (Instr.lookup 85 (.map (some b)) (.int .i64 n) true).run Tryd.prog W = .ok (.tuple #[(a.map (·.2)).getD .nilFunc, .bool a.isSome]) W :=
  run_look_fn Tryd.underlying85 Tryd.underlying27 (fun W => by kernel_rfl) W b sE2 2 _ hb a hfind
set_option maxRecDepth 8000 in
theorem sfind_none {n : Int} (h : n ≠ 2 ∧ n ≠ 3) : Instr.findNow (.int .i64) (.int .i64 n) sE2.toList 0 = some none := by
  obtain ⟨h2, h3⟩ := h
  have e2 : (n == 2) = false := by simpa using h2
  have e3 : (n == 3) = false := by simpa using h3
  simp [Instr.findNow, Instr.sameNow, sE2, e2, e3]
set_option maxRecDepth 8000 in
set_option maxHeartbeats 400000 in
theorem steps_any (w : World) :
    Calls Tryd.prog 37 #[] w fun e w' => e = .returned (.map (some w.heap.size)) ∧ w.alloc (.map sE2 2) = w' := by
  have hmm := @run_makeMap Tryd.prog
  have h1 := supd1
  have h2 := supd2
  go_enter Tryd.func37, Tryd.ntmps37
  go_wp2
  go_ret
  exact ⟨rfl, rfl⟩
end Go.Proofs.YtjolojomgfcfbaaDoor

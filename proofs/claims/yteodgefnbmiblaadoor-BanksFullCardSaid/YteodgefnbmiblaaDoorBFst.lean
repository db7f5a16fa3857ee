/- banks: the first and the last Oid, empty, keyKind; words for walks within a range. -/
import Derived.Test.YteodgefnbmiblaaDoorBPl
import Derived.Test.YteodgefnbmiblaaDoorR17
import Derived.Test.YteodgefnbmiblaaDoorR18
namespace Go.Proofs.YteodgefnbmiblaaDoor
open Go.RowKit
section
variable {F : Fence} {n : Nat} {P : Program} {ops : Array Oper} {rest : List Oper} {o : Oper} {a : Act} {w : World} {Q : Exit → Act → World → Prop}
set_option maxRecDepth 8000 in
/-- what an operation yields in each world that meets S, within a fence that lets all in -/
theorem wpListIn_yields {S : World → Prop} {v : Value} (hF : ∀ f, F.fn f) (hnc : ∀ c, o.op = .defer c → False) (hy : YieldsIf P ops S o v a) (hS : S w) (h : wpListIn F n P ops Q rest (a.put o.dst v) w) : wpListIn F n P ops Q (o :: rest) a w := by
  refine wpListIn_step fun K hK => ?_
  rcases hy with ⟨hw, hrun⟩ | ⟨hw, rfl⟩
  · rw [if_pos hw]
    unfold Oper.wpIn
    refine ⟨fun f _ => hF f, ?_⟩
    rw [Oper.semAt_plain F _ _ (fun c hc => (hnc c hc).elim), hrun w hS]
    exact hK _ _ h
  · rw [if_neg (by rw [hw]; decide)]
    exact ⟨fun f _ => hF f, hK _ _ h⟩
end
theorem grown_of_below {w w' : World} (hb : Below w.heap.size w w') : w.grownBy w' none := ⟨hb.os, hb.tape, hb.output, hb.size, fun k hk _ => hb.block k hk⟩
set_option maxRecDepth 8000 in
theorem first_any (p : Nat) (x : Int) (u : Oj) (w : World) : Calls Tryd.prog 34 #[bkv p x u] w fun e w' => e = .returned (.int .i64 (sl0 u).v) ∧ Below w.heap.size w w' := by
  have HB := Lib.hid (Blk.new w 78 (bkc p x u).toArray)
  have HW := Lib.hid ((Below.refl w.heap.size w).alloc (Nat.le_refl _) (.cells (bkc p x u).toArray 78))
  have c5 : (w.alloc (.cells (bkc p x u).toArray 78)).cell? ⟨w.heap.size, 8, none⟩ = some (.int .i64 (sl0 u).v) := HB.out.bk.s0.2.2.2.2.2
  go_enter Tryd.func34, Tryd.ntmps34
  go_wp2
  go_ret
  exact ⟨rfl, HW.out⟩
set_option maxRecDepth 8000 in
theorem last_any (p : Nat) (x : Int) (u : Oj) (w : World) : Calls Tryd.prog 33 #[bkv p x u] w fun e w' => e = .returned (.int .i64 (sl1 u).v) ∧ Below w.heap.size w w' := by
  have HB := Lib.hid (Blk.new w 78 (bkc p x u).toArray)
  have HW := Lib.hid ((Below.refl w.heap.size w).alloc (Nat.le_refl _) (.cells (bkc p x u).toArray 78))
  have c5 : (w.alloc (.cells (bkc p x u).toArray 78)).cell? ⟨w.heap.size, 14, none⟩ = some (.int .i64 (sl1 u).v) := HB.out.bk.s1.2.2.2.2.2
  go_enter Tryd.func33, Tryd.ntmps33
  go_wp2
  go_ret
  exact ⟨rfl, HW.out⟩
theorem first_eq (p : Nat) (x : Int) (u : Oj) (w : World) {a : Int} (h : (sl0 u).v = a) : Calls Tryd.prog 34 #[bkv p x u] w fun e w' => e = .returned (.int .i64 a) ∧ Below w.heap.size w w' := h ▸ first_any p x u w
theorem last_eq (p : Nat) (x : Int) (u : Oj) (w : World) {b : Int} (h : (sl1 u).v = b) : Calls Tryd.prog 33 #[bkv p x u] w fun e w' => e = .returned (.int .i64 b) ∧ Below w.heap.size w w' := h ▸ last_any p x u w
/-- neither a node nor a page -/
def emp (o : Oj) : Prop := o.k = 0 ∨ o.k = 3
instance (o : Oj) : Decidable (emp o) := by unfold emp; infer_instance
set_option maxRecDepth 8000 in
theorem empty_any (o : Oj) (w : World) : Calls Tryd.prog 56 #[o.val] w fun e w' => e = .returned (.bool (decide (emp o))) ∧ Below w.heap.size w w' := by
  have HW := Lib.hid ((Below.refl w.heap.size w).alloc (Nat.le_refl _) (.cells o.cells.toArray 47))
  have c0 := (Blk.new w 47 o.cells.toArray).ob.cells.1
  by_cases h0 : o.k = 0
  · have d0 : (o.k == 0) = true := by simpa using h0
    have HE := Lib.hid (show decide (emp o) = true from decide_eq_true (.inl h0))
    clear h0
    rw [HE.out]
    go_enter Tryd.func56, Tryd.ntmps56
    go_wp2
    go_ret
    exact ⟨rfl, HW.out⟩
  · have d0 : (o.k == 0) = false := by simpa using h0
    by_cases h3 : o.k = 3
    · have d3 : (o.k == 3) = true := by simpa using h3
      have HE := Lib.hid (show decide (emp o) = true from decide_eq_true (.inr h3))
      clear h0 h3
      rw [HE.out]
      go_enter Tryd.func56, Tryd.ntmps56
      go_wp2
      go_ret
      exact ⟨rfl, HW.out⟩
    · have d3 : (o.k == 3) = false := by simpa using h3
      have HE := Lib.hid (show decide (emp o) = false from decide_eq_false (by rintro (h | h); exact h0 h; exact h3 h))
      clear h0 h3
      rw [HE.out]
      go_enter Tryd.func56, Tryd.ntmps56
      go_wp2
      go_ret
      exact ⟨rfl, HW.out⟩
set_option maxRecDepth 8000 in
theorem kind_node (w : World) : Calls Tryd.prog 53 #[.int .i64 1] w fun e w' => e = .returned (.int .i64 2) ∧ w = w' := by
  go_enter Tryd.func53, Tryd.ntmps53
  go_wp2
  go_ret
  exact ⟨rfl, rfl⟩
set_option maxRecDepth 8000 in
theorem kind_page (w : World) : Calls Tryd.prog 53 #[.int .i64 2] w fun e w' => e = .returned (.int .i64 3) ∧ w = w' := by
  go_enter Tryd.func53, Tryd.ntmps53
  go_wp2
  go_ret
  exact ⟨rfl, rfl⟩
set_option maxRecDepth 8000 in
theorem kind_none (k : Int) (h1 : k ≠ 1) (h2 : k ≠ 2) (w : World) : Calls Tryd.prog 53 #[.int .i64 k] w fun e w' => e = .panicked (erc 2) ∧ w = w' := by
  have d1 : (k == 1) = false := by simpa using h1
  have d2 : (k == 2) = false := by simpa using h2
  clear h1 h2
  go_enter Tryd.func53, Tryd.ntmps53
  go_wp2
  exact ⟨rfl, rfl, rfl⟩
end Go.Proofs.YteodgefnbmiblaaDoor

/- spaces: Load, Store. -/
import Derived.Test.YtjolojomgfcfbaaDoorWFn
import Derived.StillTailTactics
namespace Go.Proofs.YtjolojomgfcfbaaDoor
open Go.RowKit
section
variable {w : World} {g base q : Nat} {A : Option Addr} {cap : Nat} {ps : List Nat} {os : List Oj} {ad : Int} {s : Ws} {y : Ky}
set_option maxRecDepth 100000 in
set_option maxHeartbeats 2000000 in
theorem hold_no {a : Nat} (ha : a ≤ 64) (H : WkS w g base q A cap ps os ad s y (a : Int)) (n : Int) (hn : 64 < (a : Int) + n) :
    Calls Tryd.prog 14 #[.pointer (some ⟨g, 0, none⟩), .int .i64 n] w fun e w' => e = .panicked (faP ⟨5, s.kp, ad⟩) ∧ Below w.heap.size w w' := by
  obtain ⟨c0, c1, c2, c3, c4, c5, c6, c7, c8, c9, c10, c11, c12, c13, c14, c15, c16, c17, c18, c19, c20, c21, c22, c23, c24⟩ := wk_cells H.blk
  have HS := Lib.hid H
  obtain ⟨m, hm⟩ : ∃ m : Int, m = 64 - (a : Int) := ⟨_, rfl⟩
  have e1 : 64 - (a : Int) = m := hm.symm
  have e2 : -9223372036854775808 ≤ m := by omega
  have e3 : m ≤ 9223372036854775807 := by omega
  have e4 : decide (m < n) = true := decide_eq_true (by omega)
  clear H hn hm
  go_enter Tryd.func14, Tryd.ntmps14
  go_wp2_with (first
    | (go_at_call 26; refine (HS.out.fault 5).mono ?_; rintro e w1 ⟨rfl, b_⟩; have HB := Lib.hid b_; clear b_))
  exact ⟨rfl, rfl, HB.out⟩
set_option maxRecDepth 100000 in
set_option maxHeartbeats 2000000 in
theorem hold_yes {a : Nat} (ha : a ≤ 64) (H : WkS w g base q A cap ps os ad s y (a : Int)) (n : Int) (hn : ¬ 64 < (a : Int) + n) :
    Calls Tryd.prog 14 #[.pointer (some ⟨g, 0, none⟩), .int .i64 n] w fun e w' => e = .returned (.tuple #[]) ∧ Below w.heap.size w w' := by
  obtain ⟨c0, c1, c2, c3, c4, c5, c6, c7, c8, c9, c10, c11, c12, c13, c14, c15, c16, c17, c18, c19, c20, c21, c22, c23, c24⟩ := wk_cells H.blk
  obtain ⟨m, hm⟩ : ∃ m : Int, m = 64 - (a : Int) := ⟨_, rfl⟩
  have e1 : 64 - (a : Int) = m := hm.symm
  have e2 : -9223372036854775808 ≤ m := by omega
  have e3 : m ≤ 9223372036854775807 := by omega
  have e4 : decide (m < n) = false := decide_eq_false (by omega)
  clear H hn hm
  go_enter Tryd.func14, Tryd.ntmps14
  go_wp2_with fail
  go_end0
  exact ⟨rfl, Below.refl _ _⟩
set_option maxRecDepth 8000 in
theorem and1 {r : Int} (n : Nat) (hr : r = n) (hn : n ≤ 1) : bits .and .i64 r 1 = (n : Int) := by
  subst hr
  rw [show ((1 : Int)) = ((1 : Nat) : Int) from rfl, and_n n 1 (by omega) (by decide)]
  have : ∀ n, n ≤ 1 → n &&& 1 = n := by decide
  rw [this n hn]
set_option maxRecDepth 100000 in
set_option maxHeartbeats 2000000 in
theorem open_fault {a : Int} (H : WkS w g base q A cap ps os ad s y a) (hr : y.r = 1) :
    Calls Tryd.prog 15 #[.pointer (some ⟨g, 0, none⟩)] w fun e w' => e = .panicked (faP ⟨6, s.kp, ad⟩) ∧ Below w.heap.size w w' := by
  obtain ⟨c0, c1, c2, c3, c4, c5, c6, c7, c8, c9, c10, c11, c12, c13, c14, c15, c16, c17, c18, c19, c20, c21, c22, c23, c24⟩ := wk_cells H.blk
  have HS := Lib.hid H
  have ha := and1 1 (rfl : (1 : Int) = ((1 : Nat) : Int)) (by decide)
  rw [hr] at c15
  clear H hr
  go_enter Tryd.func15, Tryd.ntmps15
  go_wp2_with (first
    | (go_at_call 26; refine (HS.out.fault 6).mono ?_; rintro e w1 ⟨rfl, b_⟩; have HB := Lib.hid b_; clear b_))
  exact ⟨rfl, rfl, HB.out⟩
set_option maxRecDepth 100000 in
set_option maxHeartbeats 2000000 in
theorem open_goes {a : Int} (H : WkS w g base q A cap ps os ad s y a) (hr : y.r = 0) :
    Calls Tryd.prog 15 #[.pointer (some ⟨g, 0, none⟩)] w fun e w' => e = .returned (.tuple #[]) ∧ Below w.heap.size w w' := by
  obtain ⟨c0, c1, c2, c3, c4, c5, c6, c7, c8, c9, c10, c11, c12, c13, c14, c15, c16, c17, c18, c19, c20, c21, c22, c23, c24⟩ := wk_cells H.blk
  have ha := and1 0 (rfl : (0 : Int) = ((0 : Nat) : Int)) (by decide)
  rw [hr] at c15
  clear H hr
  go_enter Tryd.func15, Tryd.ntmps15
  go_wp2_with fail
  go_end0
  exact ⟨rfl, Below.refl _ _⟩
theorem WkS.page {a : Int} (h : WkS w g base q A cap ps os ad s y a) : KeyAt w g 11 y := ⟨h.blk.cell 11, h.blk.cell 12, h.blk.cell 13, h.blk.cell 14, h.blk.cell 15, h.blk.cell 16⟩
end
end Go.Proofs.YtjolojomgfcfbaaDoor

/- The law SpacesTree returns true for every input: in a tree of pages, each in a slot of a node, in a slot of a node, each address lies where it must, read-only or weak on the way, or not. No condition but that the listed variables read as the program's own text lays them; the card ties them to it. -/
import Derived.Test.YtjolojomgfcfbaaDoorWKn
import Derived.Test.YtjolojomgfcfbaaDoorWArgs
import Derived.Test.YtjolojomgfcfbaaDoorR05
import Derived.Test.YtjolojomgfcfbaaDoorWTc
import Derived.Test.YtjolojomgfcfbaaDoorWTs
namespace Go.Proofs.YtjolojomgfcfbaaDoor.spacesTree
open Go.ChangeShapes Go.WideShapes Go.ChangeAt Go.RowKit
attribute [local go_sem] Oper.semAt_some
set_option maxRecDepth 100000 in
set_option maxHeartbeats 4000000 in
theorem tree_no0 (w : World) (hT : Tab w) (m n t r i : Int)  (h0 : m < 0) : Calls Tryd.prog 3 #[.int .i64 m, .int .i64 n, .agg #[.int .i64 t, .int .i64 r, .int .i64 i]] w fun e w' => e = .returned (.bool true) ∧ Below w.heap.size w w' := by
  have d0 : decide (m < 0) = true := decide_eq_true (by omega)
  have X0 := Lib.hid (Blk.new w 24 #[.int .i64 t, .int .i64 r, .int .i64 i])
  have B0 := Lib.hid ((Below.refl w.heap.size w).alloc (Nat.le_refl _) (.cells #[.int .i64 t, .int .i64 r, .int .i64 i] 24))
  have HT := Lib.hid hT
  have c0 := (X0.out.cell 0).trans (show _ = some (.int .i64 t) from rfl)
  have c1 := (X0.out.cell 1).trans (show _ = some (.int .i64 r) from rfl)
  have c2 := (X0.out.cell 2).trans (show _ = some (.int .i64 i) from rfl)
  clear hT h0
  go_enter Tryd.func3, Tryd.ntmps3
  go_wp2_with (go_at_call 4; refine (known_w _ (HT.out.below B0.out)).mono ?_; rintro e v9 ⟨rfl, b_⟩; have B9 := Lib.hid (B0.out.trans (b_.mono B0.out.size)); clear b_)
  go_ret
  exact ⟨rfl, B9.out⟩
set_option maxRecDepth 100000 in
set_option maxHeartbeats 4000000 in
theorem tree_no1 (w : World) (hT : Tab w) (m n t r i : Int) (h0 : ¬ m < 0) (h1 : 13 < m) : Calls Tryd.prog 3 #[.int .i64 m, .int .i64 n, .agg #[.int .i64 t, .int .i64 r, .int .i64 i]] w fun e w' => e = .returned (.bool true) ∧ Below w.heap.size w w' := by
  have d0 : decide (m < 0) = false := decide_eq_false (by omega)
  have d1 : decide (13 < m) = true := decide_eq_true (by omega)
  have X0 := Lib.hid (Blk.new w 24 #[.int .i64 t, .int .i64 r, .int .i64 i])
  have B0 := Lib.hid ((Below.refl w.heap.size w).alloc (Nat.le_refl _) (.cells #[.int .i64 t, .int .i64 r, .int .i64 i] 24))
  have HT := Lib.hid hT
  have c0 := (X0.out.cell 0).trans (show _ = some (.int .i64 t) from rfl)
  have c1 := (X0.out.cell 1).trans (show _ = some (.int .i64 r) from rfl)
  have c2 := (X0.out.cell 2).trans (show _ = some (.int .i64 i) from rfl)
  clear hT h0 h1
  go_enter Tryd.func3, Tryd.ntmps3
  go_wp2_with (go_at_call 4; refine (known_w _ (HT.out.below B0.out)).mono ?_; rintro e v9 ⟨rfl, b_⟩; have B9 := Lib.hid (B0.out.trans (b_.mono B0.out.size)); clear b_)
  go_ret
  exact ⟨rfl, B9.out⟩
set_option maxRecDepth 100000 in
set_option maxHeartbeats 4000000 in
theorem tree_no2 (w : World) (hT : Tab w) (m n t r i : Int) (h0 : ¬ m < 0) (h1 : ¬ 13 < m) (h2 : n < 0) : Calls Tryd.prog 3 #[.int .i64 m, .int .i64 n, .agg #[.int .i64 t, .int .i64 r, .int .i64 i]] w fun e w' => e = .returned (.bool true) ∧ Below w.heap.size w w' := by
  have d0 : decide (m < 0) = false := decide_eq_false (by omega)
  have d1 : decide (13 < m) = false := decide_eq_false (by omega)
  have d2 : decide (n < 0) = true := decide_eq_true (by omega)
  have X0 := Lib.hid (Blk.new w 24 #[.int .i64 t, .int .i64 r, .int .i64 i])
  have B0 := Lib.hid ((Below.refl w.heap.size w).alloc (Nat.le_refl _) (.cells #[.int .i64 t, .int .i64 r, .int .i64 i] 24))
  have HT := Lib.hid hT
  have c0 := (X0.out.cell 0).trans (show _ = some (.int .i64 t) from rfl)
  have c1 := (X0.out.cell 1).trans (show _ = some (.int .i64 r) from rfl)
  have c2 := (X0.out.cell 2).trans (show _ = some (.int .i64 i) from rfl)
  clear hT h0 h1 h2
  go_enter Tryd.func3, Tryd.ntmps3
  go_wp2_with (go_at_call 4; refine (known_w _ (HT.out.below B0.out)).mono ?_; rintro e v9 ⟨rfl, b_⟩; have B9 := Lib.hid (B0.out.trans (b_.mono B0.out.size)); clear b_)
  go_ret
  exact ⟨rfl, B9.out⟩
set_option maxRecDepth 100000 in
set_option maxHeartbeats 4000000 in
theorem tree_no3 (w : World) (hT : Tab w) (m n t r i : Int) (h0 : ¬ m < 0) (h1 : ¬ 13 < m) (h2 : ¬ n < 0) (h3 : 13 < n) : Calls Tryd.prog 3 #[.int .i64 m, .int .i64 n, .agg #[.int .i64 t, .int .i64 r, .int .i64 i]] w fun e w' => e = .returned (.bool true) ∧ Below w.heap.size w w' := by
  have d0 : decide (m < 0) = false := decide_eq_false (by omega)
  have d1 : decide (13 < m) = false := decide_eq_false (by omega)
  have d2 : decide (n < 0) = false := decide_eq_false (by omega)
  have d3 : decide (13 < n) = true := decide_eq_true (by omega)
  have X0 := Lib.hid (Blk.new w 24 #[.int .i64 t, .int .i64 r, .int .i64 i])
  have B0 := Lib.hid ((Below.refl w.heap.size w).alloc (Nat.le_refl _) (.cells #[.int .i64 t, .int .i64 r, .int .i64 i] 24))
  have HT := Lib.hid hT
  have c0 := (X0.out.cell 0).trans (show _ = some (.int .i64 t) from rfl)
  have c1 := (X0.out.cell 1).trans (show _ = some (.int .i64 r) from rfl)
  have c2 := (X0.out.cell 2).trans (show _ = some (.int .i64 i) from rfl)
  clear hT h0 h1 h2 h3
  go_enter Tryd.func3, Tryd.ntmps3
  go_wp2_with (go_at_call 4; refine (known_w _ (HT.out.below B0.out)).mono ?_; rintro e v9 ⟨rfl, b_⟩; have B9 := Lib.hid (B0.out.trans (b_.mono B0.out.size)); clear b_)
  go_ret
  exact ⟨rfl, B9.out⟩
set_option maxRecDepth 100000 in
set_option maxHeartbeats 4000000 in
theorem tree_no4 (w : World) (hT : Tab w) (m n t r i : Int) (h0 : ¬ m < 0) (h1 : ¬ 13 < m) (h2 : ¬ n < 0) (h3 : ¬ 13 < n) (h4 : t < 0) : Calls Tryd.prog 3 #[.int .i64 m, .int .i64 n, .agg #[.int .i64 t, .int .i64 r, .int .i64 i]] w fun e w' => e = .returned (.bool true) ∧ Below w.heap.size w w' := by
  have d0 : decide (m < 0) = false := decide_eq_false (by omega)
  have d1 : decide (13 < m) = false := decide_eq_false (by omega)
  have d2 : decide (n < 0) = false := decide_eq_false (by omega)
  have d3 : decide (13 < n) = false := decide_eq_false (by omega)
  have d4 : decide (t < 0) = true := decide_eq_true (by omega)
  have X0 := Lib.hid (Blk.new w 24 #[.int .i64 t, .int .i64 r, .int .i64 i])
  have B0 := Lib.hid ((Below.refl w.heap.size w).alloc (Nat.le_refl _) (.cells #[.int .i64 t, .int .i64 r, .int .i64 i] 24))
  have HT := Lib.hid hT
  have c0 := (X0.out.cell 0).trans (show _ = some (.int .i64 t) from rfl)
  have c1 := (X0.out.cell 1).trans (show _ = some (.int .i64 r) from rfl)
  have c2 := (X0.out.cell 2).trans (show _ = some (.int .i64 i) from rfl)
  clear hT h0 h1 h2 h3 h4
  go_enter Tryd.func3, Tryd.ntmps3
  go_wp2_with (go_at_call 4; refine (known_w _ (HT.out.below B0.out)).mono ?_; rintro e v9 ⟨rfl, b_⟩; have B9 := Lib.hid (B0.out.trans (b_.mono B0.out.size)); clear b_)
  go_ret
  exact ⟨rfl, B9.out⟩
set_option maxRecDepth 100000 in
set_option maxHeartbeats 4000000 in
theorem tree_no5 (w : World) (hT : Tab w) (m n t r i : Int) (h0 : ¬ m < 0) (h1 : ¬ 13 < m) (h2 : ¬ n < 0) (h3 : ¬ 13 < n) (h4 : ¬ t < 0) (h5 : 63 < t) : Calls Tryd.prog 3 #[.int .i64 m, .int .i64 n, .agg #[.int .i64 t, .int .i64 r, .int .i64 i]] w fun e w' => e = .returned (.bool true) ∧ Below w.heap.size w w' := by
  have d0 : decide (m < 0) = false := decide_eq_false (by omega)
  have d1 : decide (13 < m) = false := decide_eq_false (by omega)
  have d2 : decide (n < 0) = false := decide_eq_false (by omega)
  have d3 : decide (13 < n) = false := decide_eq_false (by omega)
  have d4 : decide (t < 0) = false := decide_eq_false (by omega)
  have d5 : decide (63 < t) = true := decide_eq_true (by omega)
  have X0 := Lib.hid (Blk.new w 24 #[.int .i64 t, .int .i64 r, .int .i64 i])
  have B0 := Lib.hid ((Below.refl w.heap.size w).alloc (Nat.le_refl _) (.cells #[.int .i64 t, .int .i64 r, .int .i64 i] 24))
  have HT := Lib.hid hT
  have c0 := (X0.out.cell 0).trans (show _ = some (.int .i64 t) from rfl)
  have c1 := (X0.out.cell 1).trans (show _ = some (.int .i64 r) from rfl)
  have c2 := (X0.out.cell 2).trans (show _ = some (.int .i64 i) from rfl)
  clear hT h0 h1 h2 h3 h4 h5
  go_enter Tryd.func3, Tryd.ntmps3
  go_wp2_with (go_at_call 4; refine (known_w _ (HT.out.below B0.out)).mono ?_; rintro e v9 ⟨rfl, b_⟩; have B9 := Lib.hid (B0.out.trans (b_.mono B0.out.size)); clear b_)
  go_ret
  exact ⟨rfl, B9.out⟩
set_option maxRecDepth 100000 in
set_option maxHeartbeats 4000000 in
theorem tree_no6 (w : World) (hT : Tab w) (m n t r i : Int) (h0 : ¬ m < 0) (h1 : ¬ 13 < m) (h2 : ¬ n < 0) (h3 : ¬ 13 < n) (h4 : ¬ t < 0) (h5 : ¬ 63 < t) (h6 : r < 0) : Calls Tryd.prog 3 #[.int .i64 m, .int .i64 n, .agg #[.int .i64 t, .int .i64 r, .int .i64 i]] w fun e w' => e = .returned (.bool true) ∧ Below w.heap.size w w' := by
  have d0 : decide (m < 0) = false := decide_eq_false (by omega)
  have d1 : decide (13 < m) = false := decide_eq_false (by omega)
  have d2 : decide (n < 0) = false := decide_eq_false (by omega)
  have d3 : decide (13 < n) = false := decide_eq_false (by omega)
  have d4 : decide (t < 0) = false := decide_eq_false (by omega)
  have d5 : decide (63 < t) = false := decide_eq_false (by omega)
  have d6 : decide (r < 0) = true := decide_eq_true (by omega)
  have X0 := Lib.hid (Blk.new w 24 #[.int .i64 t, .int .i64 r, .int .i64 i])
  have B0 := Lib.hid ((Below.refl w.heap.size w).alloc (Nat.le_refl _) (.cells #[.int .i64 t, .int .i64 r, .int .i64 i] 24))
  have HT := Lib.hid hT
  have c0 := (X0.out.cell 0).trans (show _ = some (.int .i64 t) from rfl)
  have c1 := (X0.out.cell 1).trans (show _ = some (.int .i64 r) from rfl)
  have c2 := (X0.out.cell 2).trans (show _ = some (.int .i64 i) from rfl)
  clear hT h0 h1 h2 h3 h4 h5 h6
  go_enter Tryd.func3, Tryd.ntmps3
  go_wp2_with (go_at_call 4; refine (known_w _ (HT.out.below B0.out)).mono ?_; rintro e v9 ⟨rfl, b_⟩; have B9 := Lib.hid (B0.out.trans (b_.mono B0.out.size)); clear b_)
  go_ret
  exact ⟨rfl, B9.out⟩
set_option maxRecDepth 100000 in
set_option maxHeartbeats 4000000 in
theorem tree_no7 (w : World) (hT : Tab w) (m n t r i : Int) (h0 : ¬ m < 0) (h1 : ¬ 13 < m) (h2 : ¬ n < 0) (h3 : ¬ 13 < n) (h4 : ¬ t < 0) (h5 : ¬ 63 < t) (h6 : ¬ r < 0) (h7 : 7 < r) : Calls Tryd.prog 3 #[.int .i64 m, .int .i64 n, .agg #[.int .i64 t, .int .i64 r, .int .i64 i]] w fun e w' => e = .returned (.bool true) ∧ Below w.heap.size w w' := by
  have d0 : decide (m < 0) = false := decide_eq_false (by omega)
  have d1 : decide (13 < m) = false := decide_eq_false (by omega)
  have d2 : decide (n < 0) = false := decide_eq_false (by omega)
  have d3 : decide (13 < n) = false := decide_eq_false (by omega)
  have d4 : decide (t < 0) = false := decide_eq_false (by omega)
  have d5 : decide (63 < t) = false := decide_eq_false (by omega)
  have d6 : decide (r < 0) = false := decide_eq_false (by omega)
  have d7 : decide (7 < r) = true := decide_eq_true (by omega)
  have X0 := Lib.hid (Blk.new w 24 #[.int .i64 t, .int .i64 r, .int .i64 i])
  have B0 := Lib.hid ((Below.refl w.heap.size w).alloc (Nat.le_refl _) (.cells #[.int .i64 t, .int .i64 r, .int .i64 i] 24))
  have HT := Lib.hid hT
  have c0 := (X0.out.cell 0).trans (show _ = some (.int .i64 t) from rfl)
  have c1 := (X0.out.cell 1).trans (show _ = some (.int .i64 r) from rfl)
  have c2 := (X0.out.cell 2).trans (show _ = some (.int .i64 i) from rfl)
  clear hT h0 h1 h2 h3 h4 h5 h6 h7
  go_enter Tryd.func3, Tryd.ntmps3
  go_wp2_with (go_at_call 4; refine (known_w _ (HT.out.below B0.out)).mono ?_; rintro e v9 ⟨rfl, b_⟩; have B9 := Lib.hid (B0.out.trans (b_.mono B0.out.size)); clear b_)
  go_ret
  exact ⟨rfl, B9.out⟩
set_option maxRecDepth 100000 in
set_option maxHeartbeats 4000000 in
theorem tree_no8 (w : World) (hT : Tab w) (m n t r i : Int) (h0 : ¬ m < 0) (h1 : ¬ 13 < m) (h2 : ¬ n < 0) (h3 : ¬ 13 < n) (h4 : ¬ t < 0) (h5 : ¬ 63 < t) (h6 : ¬ r < 0) (h7 : ¬ 7 < r) (h8 : i < 0) : Calls Tryd.prog 3 #[.int .i64 m, .int .i64 n, .agg #[.int .i64 t, .int .i64 r, .int .i64 i]] w fun e w' => e = .returned (.bool true) ∧ Below w.heap.size w w' := by
  have d0 : decide (m < 0) = false := decide_eq_false (by omega)
  have d1 : decide (13 < m) = false := decide_eq_false (by omega)
  have d2 : decide (n < 0) = false := decide_eq_false (by omega)
  have d3 : decide (13 < n) = false := decide_eq_false (by omega)
  have d4 : decide (t < 0) = false := decide_eq_false (by omega)
  have d5 : decide (63 < t) = false := decide_eq_false (by omega)
  have d6 : decide (r < 0) = false := decide_eq_false (by omega)
  have d7 : decide (7 < r) = false := decide_eq_false (by omega)
  have d8 : decide (i < 0) = true := decide_eq_true (by omega)
  have X0 := Lib.hid (Blk.new w 24 #[.int .i64 t, .int .i64 r, .int .i64 i])
  have B0 := Lib.hid ((Below.refl w.heap.size w).alloc (Nat.le_refl _) (.cells #[.int .i64 t, .int .i64 r, .int .i64 i] 24))
  have HT := Lib.hid hT
  have c0 := (X0.out.cell 0).trans (show _ = some (.int .i64 t) from rfl)
  have c1 := (X0.out.cell 1).trans (show _ = some (.int .i64 r) from rfl)
  have c2 := (X0.out.cell 2).trans (show _ = some (.int .i64 i) from rfl)
  clear hT h0 h1 h2 h3 h4 h5 h6 h7 h8
  go_enter Tryd.func3, Tryd.ntmps3
  go_wp2_with (go_at_call 4; refine (known_w _ (HT.out.below B0.out)).mono ?_; rintro e v9 ⟨rfl, b_⟩; have B9 := Lib.hid (B0.out.trans (b_.mono B0.out.size)); clear b_)
  go_ret
  exact ⟨rfl, B9.out⟩
set_option maxRecDepth 100000 in
set_option maxHeartbeats 4000000 in
theorem tree_no9 (w : World) (hT : Tab w) (m n t r i : Int) (h0 : ¬ m < 0) (h1 : ¬ 13 < m) (h2 : ¬ n < 0) (h3 : ¬ 13 < n) (h4 : ¬ t < 0) (h5 : ¬ 63 < t) (h6 : ¬ r < 0) (h7 : ¬ 7 < r) (h8 : ¬ i < 0) (h9 : 7 < i) : Calls Tryd.prog 3 #[.int .i64 m, .int .i64 n, .agg #[.int .i64 t, .int .i64 r, .int .i64 i]] w fun e w' => e = .returned (.bool true) ∧ Below w.heap.size w w' := by
  have d0 : decide (m < 0) = false := decide_eq_false (by omega)
  have d1 : decide (13 < m) = false := decide_eq_false (by omega)
  have d2 : decide (n < 0) = false := decide_eq_false (by omega)
  have d3 : decide (13 < n) = false := decide_eq_false (by omega)
  have d4 : decide (t < 0) = false := decide_eq_false (by omega)
  have d5 : decide (63 < t) = false := decide_eq_false (by omega)
  have d6 : decide (r < 0) = false := decide_eq_false (by omega)
  have d7 : decide (7 < r) = false := decide_eq_false (by omega)
  have d8 : decide (i < 0) = false := decide_eq_false (by omega)
  have d9 : decide (7 < i) = true := decide_eq_true (by omega)
  have X0 := Lib.hid (Blk.new w 24 #[.int .i64 t, .int .i64 r, .int .i64 i])
  have B0 := Lib.hid ((Below.refl w.heap.size w).alloc (Nat.le_refl _) (.cells #[.int .i64 t, .int .i64 r, .int .i64 i] 24))
  have HT := Lib.hid hT
  have c0 := (X0.out.cell 0).trans (show _ = some (.int .i64 t) from rfl)
  have c1 := (X0.out.cell 1).trans (show _ = some (.int .i64 r) from rfl)
  have c2 := (X0.out.cell 2).trans (show _ = some (.int .i64 i) from rfl)
  clear hT h0 h1 h2 h3 h4 h5 h6 h7 h8 h9
  go_enter Tryd.func3, Tryd.ntmps3
  go_wp2_with (go_at_call 4; refine (known_w _ (HT.out.below B0.out)).mono ?_; rintro e v9 ⟨rfl, b_⟩; have B9 := Lib.hid (B0.out.trans (b_.mono B0.out.size)); clear b_)
  go_ret
  exact ⟨rfl, B9.out⟩
set_option maxRecDepth 8000 in
theorem and3 : ∀ r : Nat, r < 8 → bits BinOp.and .i64 (r : Int) 3 = ((r % 4 : Nat) : Int) := by decide
set_option maxRecDepth 100000 in
set_option maxHeartbeats 4000000 in
theorem tree_goFF (w : World) (hT : Tab w) (a b t r i : Nat) (ha : a ≤ 13) (hb : b ≤ 13) (ht : t ≤ 63) (hr : r < 8) (hi : i < 8) (br : bits BinOp.and .i64 (r : Int) 3 = 0) (bi : bits BinOp.and .i64 (i : Int) 3 = 0) (hq : tQ r i = 0) :
    Calls Tryd.prog 3 #[.int .i64 (a : Int), .int .i64 (b : Int), .agg #[.int .i64 (t : Int), .int .i64 (r : Int), .int .i64 (i : Int)]] w fun e w' => e = .returned (.bool true) ∧ Below w.heap.size w w' := by
  have d0 : decide ((a : Int) < 0) = false := decide_eq_false (by omega)
  have d0' : decide (a < 0) = false := decide_eq_false (by omega)
  have d1 : decide (13 < (a : Int)) = false := decide_eq_false (by omega)
  have d1' : decide (13 < a) = false := decide_eq_false (by omega)
  have d2 : decide ((b : Int) < 0) = false := decide_eq_false (by omega)
  have d2' : decide (b < 0) = false := decide_eq_false (by omega)
  have d3 : decide (13 < (b : Int)) = false := decide_eq_false (by omega)
  have d3' : decide (13 < b) = false := decide_eq_false (by omega)
  have d4 : decide ((t : Int) < 0) = false := decide_eq_false (by omega)
  have d4' : decide (t < 0) = false := decide_eq_false (by omega)
  have d5 : decide (63 < (t : Int)) = false := decide_eq_false (by omega)
  have d5' : decide (63 < t) = false := decide_eq_false (by omega)
  have d6 : decide ((r : Int) < 0) = false := decide_eq_false (by omega)
  have d6' : decide (r < 0) = false := decide_eq_false (by omega)
  have d7 : decide (7 < (r : Int)) = false := decide_eq_false (by omega)
  have d7' : decide (7 < r) = false := decide_eq_false (by omega)
  have d8 : decide ((i : Int) < 0) = false := decide_eq_false (by omega)
  have d8' : decide (i < 0) = false := decide_eq_false (by omega)
  have d9 : decide (7 < (i : Int)) = false := decide_eq_false (by omega)
  have d9' : decide (7 < i) = false := decide_eq_false (by omega)
  obtain ⟨ad, had⟩ : ∃ ad : Nat, ad = a * 1024 + b * 64 + t := ⟨_, rfl⟩
  obtain ⟨fo, hfo⟩ : ∃ fo : Fo, fo = ⟨tP 0, (t : Int), zk, 2⟩ := ⟨_, rfl⟩
  obtain ⟨g1, fa, g2, g3⟩ := store_t (a := a) (b := b) (t := t) ha hb ht hr hi 122
  have hM := tO_made (a := a) (b := b) hi
  have hw1 : ∀ (W : World) (base q : Nat) (A' : Option Addr) (cap' : Nat) (ps : List Nat), StAt W base q A' cap' ps (tO a b i) → Tab W → Calls Tryd.prog 6 #[pv q, .agg (kc 2 0 1 0 (r : Int) 0), .int .i64 (ad : Int)] W fun e w' => e = .returned (.tuple #[fo.val, zfa.val, .int .i64 0]) ∧ Below W.heap.size W w' := fun W base q A' cap' ps hS hT => by
    have := walk_all hS hM.2.1 hM.2.2.2 hT (tK 0 r) (ad : Int) (by omega)
    rw [had, walk_t ha hb ht hr hi, hq, ← hfo, ← had] at this
    exact this
  have hw2 : ∀ (W : World) (base q : Nat) (A' : Option Addr) (cap' : Nat) (ps : List Nat), StAt W base q A' cap' ps (tO a b i) → Tab W → Calls Tryd.prog 7 #[pv q, .agg (kc 2 0 1 0 (r : Int) 0), .int .i64 (ad : Int), .string { data := #[122] }] W fun e w' => e = .returned (.tuple #[fa.val, .int .i64 0]) ∧ StAt w' base q A' cap' ps (storeA (tO a b i) (tK 0 r) (ad : Int) [122]).1 ∧ Fr (fun k => k ∈ ps) W w' := fun W base q A' cap' ps hS hT => by
    have := sstore_all hS hM.2.1 hM.2.2.2 hT (tK 0 r) (ad : Int) (by omega) [122]
    rw [had, g1, g2, ← had] at this
    exact this
  have HWK := Lib.hid hw1
  have HST := Lib.hid hw2
  have HMD := Lib.hid hM
  have HFK := Lib.hid (show fa.k = 0 by rw [g3, hq]; rfl)
  have HFO := Lib.hid hfo
  have HT := Lib.hid hT
  have HA := Lib.hid ha
  have HB := Lib.hid hb
  have HR := Lib.hid hr
  have HI := Lib.hid hi
  have i1 : (0 : Int) ≤ (a : Int) := by omega
  have i2 : (a : Int) < 16 := by omega
  have i3 : (0 : Int) ≤ (b : Int) := by omega
  have i4 : (b : Int) < 16 := by omega
  have i5 : a < 16 := by omega
  have i6 : b < 16 := by omega
  have m1 : IntKind.i64.wrap ((a : Int) * 1024) = (a : Int) * 1024 := IntWalk.i64_in _ (by omega)
  have m2 : IntKind.i64.wrap ((b : Int) * 64) = (b : Int) * 64 := IntWalk.i64_in _ (by omega)
  have m3 : IntKind.i64.wrap ((a : Int) * 1024 + (b : Int) * 64) = (a : Int) * 1024 + (b : Int) * 64 := IntWalk.i64_in _ (by omega)
  have m4 : IntKind.i64.wrap ((a : Int) * 1024 + (b : Int) * 64 + (t : Int)) = (ad : Int) := by rw [show (a : Int) * 1024 + (b : Int) * 64 + (t : Int) = (ad : Int) by omega]; exact IntWalk.i64_in _ (by omega)
  have X0 := Lib.hid (Blk.new w 24 #[.int .i64 (t : Int), .int .i64 (r : Int), .int .i64 (i : Int)])
  have B0 := Lib.hid ((Below.refl w.heap.size w).alloc (Nat.le_refl _) (.cells #[.int .i64 (t : Int), .int .i64 (r : Int), .int .i64 (i : Int)] 24))
  have T0 := Lib.hid (show Tt w.heap.size w ((w.alloc (.cells #[.int .i64 (t : Int), .int .i64 (r : Int), .int .i64 (i : Int)] 24)).alloc (.cells (ocs [kn9, kn9, kn10]).toArray 33)) #[.int .i64 (t : Int), .int .i64 (r : Int), .int .i64 (i : Int)] [kn9, kn9, kn10] from ⟨B0.out.alloc B0.out.size _, X0.out.alloc _, Blk.new_of (w.alloc (.cells #[.int .i64 (t : Int), .int .i64 (r : Int), .int .i64 (i : Int)] 24)) 33 _ (g := w.heap.size + 1) (by simp)⟩)
  have c0 := (X0.out.cell 0).trans (show _ = some (.int .i64 (t : Int)) from rfl)
  have c1 := (X0.out.cell 1).trans (show _ = some (.int .i64 (r : Int)) from rfl)
  have c2 := (X0.out.cell 2).trans (show _ = some (.int .i64 (i : Int)) from rfl)
  clear hT ha hb ht hr hi hw1 hw2 g1 g2 g3 hM had hfo hq
  go_enter Tryd.func3, Tryd.ntmps3
  go_wp2_with (first
    | (show wpList _ _ _ ({ dst := some 62, op := .build _ _, type := _, pos := _, after := _, guard := _ } :: _) _ _; refine wpList_yields (S := fun _ => True) (y_build2 (by rfl) (by rfl) built9) trivial ?_)
    | (show wpList _ _ _ ({ dst := some 63, op := .build _ _, type := _, pos := _, after := _, guard := _ } :: _) _ _; refine wpList_yields (S := fun _ => True) (y_build2 (by rfl) (by rfl) built9) trivial ?_)
    | (show wpList _ _ _ ({ dst := some 64, op := .build _ _, type := _, pos := _, after := _, guard := _ } :: _) _ _; refine wpList_yields (S := fun _ => True) (y_build2 (by rfl) (by rfl) built10) trivial ?_)
    | (refine wpList_buildSlice3 rfl (.tmp 62) (.tmp 63) (.tmp 64) rfl kn9 kn9 kn10 rfl rfl rfl ?_))
  generalize (w.alloc (.cells #[.int .i64 (t : Int), .int .i64 (r : Int), .int .i64 (i : Int)] 24)).alloc (.cells (ocs [kn9, kn9, kn10]).toArray 33) = W1 at T0 ⊢
  have T1 := Lib.hid T0.out.drew
  clear c0 c1 c2 X0 B0 T0 d0 d1 d2 d3 d4 d5 d6 d7 d8 d9 d0' d1' d2' d3' d4' d5' d6' d7' d8' d9'
  refine wp_region_only (S := fun _ => True) (by kernel_rfl) trivial (fun hHeld => ?_)
  refine wpAnyH_take (i := 0) (v := ?v1) rfl (by kernel_rfl) (by kernel_rfl) (by kernel_rfl) (fun _ _ _ h => h) (Or.inl ⟨by rfl, ?hy1⟩) hHeld ?rest1
  case hy1 =>
    intro w' hSw
    try dsimp only at hSw
    go_simp
    first | done | with_reducible rfl
  try simp only [Act.put, List.getElem_toArray, List.getElem_cons_zero, List.setIfInBounds_toArray, List.set_cons_zero, List.set_cons_succ]
  refine wpAnyH_take (i := 1) (v := ?v2) rfl (by kernel_rfl) (by kernel_rfl) (by kernel_rfl) (fun _ _ _ h => h) (Or.inl ⟨by rfl, ?hy2⟩) hHeld ?rest2
  case hy2 =>
    intro w' hSw
    try dsimp only at hSw
    go_simp
    first | done | with_reducible rfl
  try simp only [Act.put, List.getElem_toArray, List.getElem_cons_succ, List.getElem_cons_zero, List.setIfInBounds_toArray, List.set_cons_zero, List.set_cons_succ]
  refine wpAnyH_take (i := 2) rfl (by kernel_rfl) (by kernel_rfl) (by kernel_rfl) (fun _ _ _ h => h) (y_build2 (by rfl) (by rfl) (builtV 2)) hHeld ?_
  try simp only [Act.put, List.getElem_toArray, List.getElem_cons_succ, List.getElem_cons_zero, List.setIfInBounds_toArray, List.set_cons_zero, List.set_cons_succ]
  refine wpAnyH_take (i := 3) rfl (by kernel_rfl) (by kernel_rfl) (by kernel_rfl) (fun _ _ _ h => h) (y_build2 (by rfl) (by rfl) (builtV 1)) hHeld ?_
  try simp only [Act.put, List.getElem_toArray, List.getElem_cons_succ, List.getElem_cons_zero, List.setIfInBounds_toArray, List.set_cons_zero, List.set_cons_succ]
  refine wpAnyH_take (i := 4) (v := ?v3) rfl (by kernel_rfl) (by kernel_rfl) (by kernel_rfl) (fun _ _ _ h => h) (Or.inl ⟨by rfl, ?hy3⟩) hHeld ?rest3
  case hy3 =>
    intro w' hSw
    try dsimp only at hSw
    go_simp
    first | done | with_reducible rfl
  try simp only [Act.put, List.getElem_toArray, List.getElem_cons_succ, List.getElem_cons_zero, List.setIfInBounds_toArray, List.set_cons_zero, List.set_cons_succ]
  refine wpAnyH_take (i := 5) (v := ?v4) rfl (by kernel_rfl) (by kernel_rfl) (by kernel_rfl) (fun _ _ _ h => h) (Or.inl ⟨by rfl, ?hy4⟩) hHeld ?rest4
  case hy4 =>
    intro w' hSw
    try dsimp only at hSw
    go_simp
    first | done | with_reducible rfl
  try simp only [Act.put, List.getElem_toArray, List.getElem_cons_succ, List.getElem_cons_zero, List.setIfInBounds_toArray, List.set_cons_zero, List.set_cons_succ]
  refine wpAnyH_take (i := 6) (v := ?v5) rfl (by kernel_rfl) (by kernel_rfl) (by kernel_rfl) (fun _ _ _ h => h) (Or.inl ⟨by rfl, ?hy5⟩) hHeld ?rest5
  case hy5 =>
    intro w' hSw
    try dsimp only at hSw
    go_simp
    first | done | with_reducible rfl
  try simp only [Act.put, List.getElem_toArray, List.getElem_cons_succ, List.getElem_cons_zero, List.setIfInBounds_toArray, List.set_cons_zero, List.set_cons_succ]
  refine wpAnyH_take (i := 8) (v := ?v6) rfl (by kernel_rfl) (by kernel_rfl) (by kernel_rfl) (fun _ _ _ h => h) (Or.inl ⟨by rfl, ?hy6⟩) hHeld ?rest6
  case hy6 =>
    intro w' hSw
    try dsimp only at hSw
    go_simp
    first | done | with_reducible rfl
  try simp only [Act.put, List.getElem_toArray, List.getElem_cons_succ, List.getElem_cons_zero, List.setIfInBounds_toArray, List.set_cons_zero, List.set_cons_succ]
  refine wpAnyH_take (i := 9) (v := ?v7) rfl (by kernel_rfl) (by kernel_rfl) (by kernel_rfl) (fun _ _ _ h => h) (Or.inl ⟨by rfl, ?hy7⟩) hHeld ?rest7
  case hy7 =>
    intro w' hSw
    try dsimp only at hSw
    go_simp
    first | done | with_reducible rfl
  try simp only [Act.put, List.getElem_toArray, List.getElem_cons_succ, List.getElem_cons_zero, List.setIfInBounds_toArray, List.set_cons_zero, List.set_cons_succ]
  refine wpAnyH_ready (rs := [7]) (by kernel_rfl) (by simp) ?_
  refine AllReadyH.cons (by rfl) (fun K hK => ?_) AllReadyH.nil
  refine step_store_tree rfl T1.out 0 (by decide) 15 (by decide) (tV 2) (.tmp 72) (.tmp 68) (by rfl) 93 (by rfl) (by rfl) (by rfl) ?_
  intro W3 ht
  replace T1 := Lib.hid (show Tt w.heap.size w W3 #[.int .i64 (t : Int), .int .i64 (r : Int), .int .i64 (i : Int)] [slotAs kn9 15 (tV 2), kn9, kn10] from ht)
  clear ht hHeld
  refine hK.out _ _ trivial (fun hHeld => ?_)
  clear hK K
  try simp only [Act.put, List.getElem_toArray, List.getElem_cons_succ, List.getElem_cons_zero]
  refine wpAnyH_take (i := 10) (v := ?v8) rfl (by kernel_rfl) (by kernel_rfl) (by kernel_rfl) (fun _ _ _ h => h) (Or.inl ⟨by rfl, ?hy8⟩) hHeld ?rest8
  case hy8 =>
    intro w' hSw
    try dsimp only at hSw
    go_simp
    first | done | with_reducible rfl
  try simp only [Act.put, List.getElem_toArray, List.getElem_cons_succ, List.getElem_cons_zero, List.setIfInBounds_toArray, List.set_cons_zero, List.set_cons_succ]
  refine wpAnyH_ready (rs := [11]) (by kernel_rfl) (by simp) ?_
  refine AllReadyH.cons (by rfl) (fun K hK => ?_) AllReadyH.nil
  refine step_store_tree rfl T1.out 1 (by decide) 15 (by decide) (tV 1) (.tmp 75) (.tmp 69) (by rfl) 256 (by rfl) (by rfl) (by rfl) ?_
  intro W4 ht
  replace T1 := Lib.hid (show Tt w.heap.size w W4 #[.int .i64 (t : Int), .int .i64 (r : Int), .int .i64 (i : Int)] [slotAs kn9 15 (tV 2), slotAs kn9 15 (tV 1), kn10] from ht)
  clear ht hHeld
  refine hK.out _ _ trivial (fun hHeld => ?_)
  clear hK K
  try simp only [Act.put, List.getElem_toArray, List.getElem_cons_succ, List.getElem_cons_zero]
  refine wpAnyH_done (by kernel_rfl) ?_ _
  refine OnlyN.normal ?_
  try clear hHeld
  go_wp2_with fail
  replace T1 := Lib.hid T1.out.drew
  refine wp_region_only (S := fun W => W.cell? ⟨w.heap.size, 2, none⟩ = some (.int .i64 (i : Int))) (by kernel_rfl) ((T1.out.bx.cell 2).trans rfl) (fun hHeld => ?_)
  refine wpAnyH_take (i := 0) (v := ?v9) rfl (by kernel_rfl) (by kernel_rfl) (by kernel_rfl) (fun _ _ _ h => h) (Or.inl ⟨by rfl, ?hy9⟩) hHeld ?rest9
  case hy9 =>
    intro w' hSw
    try dsimp only at hSw
    go_simp
    first | done | with_reducible rfl
  try simp only [Act.put, List.getElem_toArray, List.getElem_cons_zero, List.setIfInBounds_toArray, List.set_cons_zero, List.set_cons_succ]
  refine wpAnyH_take (i := 1) (v := ?v10) rfl (by kernel_rfl) (by kernel_rfl) (by kernel_rfl) (fun _ _ _ h => h) (Or.inl ⟨by rfl, ?hy10⟩) hHeld ?rest10
  case hy10 =>
    intro w' hSw
    try dsimp only at hSw
    go_simp
    first | done | with_reducible rfl
  try simp only [Act.put, List.getElem_toArray, List.getElem_cons_succ, List.getElem_cons_zero, List.setIfInBounds_toArray, List.set_cons_zero, List.set_cons_succ]
  refine wpAnyH_take (i := 2) (v := ?v11) rfl (by kernel_rfl) (by kernel_rfl) (by kernel_rfl) (fun _ _ _ h => h) (Or.inl ⟨by rfl, ?hy11⟩) hHeld ?rest11
  case hy11 =>
    intro w' hSw
    try dsimp only at hSw
    go_simp
    first | done | with_reducible rfl
  try simp only [Act.put, List.getElem_toArray, List.getElem_cons_succ, List.getElem_cons_zero, List.setIfInBounds_toArray, List.set_cons_zero, List.set_cons_succ]
  refine wpAnyH_take (i := 3) (v := ?v12) rfl (by kernel_rfl) (by kernel_rfl) (by kernel_rfl) (fun _ _ _ h => h) (Or.inl ⟨by rfl, ?hy12⟩) hHeld ?rest12
  case hy12 =>
    intro w' hSw
    try dsimp only at hSw
    go_simp
    first | done | with_reducible rfl
  try simp only [Act.put, List.getElem_toArray, List.getElem_cons_succ, List.getElem_cons_zero, List.setIfInBounds_toArray, List.set_cons_zero, List.set_cons_succ]
  refine wpAnyH_take (i := 4) rfl (by kernel_rfl) (by kernel_rfl) (by kernel_rfl) (fun _ _ _ h => h) (y_build4 (by rfl) (by rfl) (by rfl) (by rfl) (by rfl) (by rfl) (builtT4 (i : Int))) hHeld ?_
  try simp only [Act.put, List.getElem_toArray, List.getElem_cons_succ, List.getElem_cons_zero, List.setIfInBounds_toArray, List.set_cons_zero, List.set_cons_succ]
  refine wpAnyH_take (i := 5) (v := ?v13) rfl (by kernel_rfl) (by kernel_rfl) (by kernel_rfl) (fun _ _ _ h => h) (Or.inl ⟨by rfl, ?hy13⟩) hHeld ?rest13
  case hy13 =>
    intro w' hSw
    try dsimp only at hSw
    go_simp
    first | done | with_reducible rfl
  try simp only [Act.put, List.getElem_toArray, List.getElem_cons_succ, List.getElem_cons_zero, List.setIfInBounds_toArray, List.set_cons_zero, List.set_cons_succ]
  refine wpAnyH_take (i := 6) (v := ?v14) rfl (by kernel_rfl) (by kernel_rfl) (by kernel_rfl) (fun _ _ _ h => h) (Or.inl ⟨by rfl, ?hy14⟩) hHeld ?rest14
  case hy14 =>
    intro w' hSw
    try dsimp only at hSw
    go_simp
    first | done | with_reducible rfl
  try simp only [Act.put, List.getElem_toArray, List.getElem_cons_succ, List.getElem_cons_zero, List.setIfInBounds_toArray, List.set_cons_zero, List.set_cons_succ]
  refine wpAnyH_take (i := 7) (v := ?v15) rfl (by kernel_rfl) (by kernel_rfl) (by kernel_rfl) (fun _ _ _ h => h) (Or.inl ⟨by rfl, ?hy15⟩) hHeld ?rest15
  case hy15 =>
    intro w' hSw
    try dsimp only at hSw
    go_simp
    first | done | with_reducible rfl
  try simp only [Act.put, List.getElem_toArray, List.getElem_cons_succ, List.getElem_cons_zero, List.setIfInBounds_toArray, List.set_cons_zero, List.set_cons_succ]
  refine wpAnyH_ready (rs := [8]) (by kernel_rfl) (by simp) ?_
  refine AllReadyH.cons (by rfl) (fun K hK => ?_) AllReadyH.nil
  refine step_store_tree rfl T1.out 0 (by decide) a (by have := HA.out; omega) (tK 1 i) (.tmp 83) (.tmp 80) (by rfl) (3 + a * 6) (by omega) (by rfl) (by rfl) ?_
  intro W5 ht
  replace T1 := Lib.hid (show Tt w.heap.size w W5 #[.int .i64 (t : Int), .int .i64 (r : Int), .int .i64 (i : Int)] [slotAs (slotAs kn9 15 (tV 2)) a (tK 1 i), slotAs kn9 15 (tV 1), kn10] from ht)
  clear ht hHeld
  refine hK.out _ _ ((T1.out.bx.cell 2).trans rfl) (fun hHeld => ?_)
  clear hK K
  try simp only [Act.put, List.getElem_toArray, List.getElem_cons_succ, List.getElem_cons_zero]
  refine wpAnyH_done (by kernel_rfl) ?_ _
  refine OnlyN.normal ?_
  try clear hHeld
  have hz6 := z59
  have hz7 := z35
  go_wp2_with (first
    | (show wpList _ _ _ ({ dst := some 86, op := .build _ _, type := _, pos := _, after := _, guard := _ } :: _) _ _; refine wpList_yields (S := fun _ => True) (y_build3 (by rfl) (by rfl) (by rfl) (by rfl) (by rfl) builtTP) trivial ?_)
    | (show wpList _ _ _ ({ dst := none, op := .store _ (.tmp 89) (.tmp 86), type := _, pos := _, after := _, guard := _ } :: _) _ _; refine wpList_store_tree rfl T1.out 1 (by simp) b (by have := HB.out; omega) (tP 0) (.tmp 89) (.tmp 86) (by rfl) (163 + 3 + b * 6) (by omega) (by rfl) (by rfl) ?_; intro W6 ht; have T2 := Lib.hid (show Tt w.heap.size w W6 #[.int .i64 (t : Int), .int .i64 (r : Int), .int .i64 (i : Int)] (tO a b i) from ht); clear ht)
    | (go_at_call 5; refine (show Calls Tryd.prog _ #[.slice (some ⟨w.heap.size + 1, 0, none⟩) 3 3] W6 _ from made_w (l := tO a b i) (cap := 3) (HT.out.below T2.out.be) T2.out.bg.rdo HMD.out).mono ?_; rintro e w1 ⟨q, rfl, hq, ⟨A1, cap1, ps1, hs⟩, b1⟩; have T3 := Lib.hid (tq_made T2.out T2.out.be.size hq hs b1); have T4 := Lib.hid (T3.out.push 29 (kl (tK 0 r)).toArray); have c1 := ((T3.out.at_ 0 rfl).cell 1).trans (show _ = some (.int .i64 (r : Int)) from rfl); have c2 := ((T4.out.at_ 1 rfl).cell 0).trans (show _ = some (.int .i64 (t : Int)) from rfl); obtain ⟨k0, k1, k2, k3, k4, k5⟩ := (show Blk _ _ _ (kc 2 0 1 0 (r : Int) 0) from T4.out.at_ 0 rfl).six; clear b1 hq hs)
    | (show wpList _ _ _ ({ dst := some 94, op := .build _ _, type := _, pos := _, after := _, guard := _ } :: _) _ _; refine wpList_yields (S := fun _ => True) (y_build3 (by rfl) (by rfl) (by rfl) (by rfl) (by rfl) (builtT3 (r : Int))) trivial ?_)
    | (show wpList _ _ _ ({ dst := none, op := .store _ (.tmp 9) (.tmp 94), type := _, pos := _, after := _, guard := _ } :: _) _ _; refine wpList_store_new (l := kl (tK 0 r)) (l0 := kl zk) (ty := 29) rfl (.tmp 9) (.tmp 94) (by rfl) _ rfl (by rfl) (by rfl) size30 rfl (kl_one _) ?_)
    | (go_at_call 6; refine (HWK.out _ _ _ _ _ _ T4.out.st (HT.out.below T4.out.be)).mono ?_; rintro e w2 ⟨rfl, b_⟩; have T5 := Lib.hid ((T4.out.below b_).push2 38 41 zfo.cells.toArray zfa.cells.toArray); have HN2 := Lib.hid (T4.out.below b_).sz; clear b_ c1 c2 k0 k1 k2 k3 k4 k5)
    | (show wpList _ _ _ ({ dst := none, op := .store _ (.tmp 11) (.tmp 108), type := _, pos := _, after := _, guard := _ } :: _) _ _; refine wpList_store_tq T5.out 1 (l1 := fo.cells) rfl HN2.out rfl (.tmp 11) (.tmp 108) (by rfl) (by rfl) (by rfl) sizeFo rfl (Fo.one _) ?_; intro W7 ht; have T6 := Lib.hid ht; clear ht)
    | (show wpList _ _ _ ({ dst := none, op := .store _ (.tmp 12) (.tmp 109), type := _, pos := _, after := _, guard := _ } :: _) _ _; refine wpList_store_tq T6.out 0 (l1 := zfa.cells) rfl (by have := HN2.out; omega) rfl (.tmp 12) (.tmp 109) (by rfl) (by rfl) (by rfl) sizeFa rfl (Fa.one _) ?_; intro W8 ht; have T7 := Lib.hid (show Tq w.heap.size w W8 [(w2.heap.size + 1, 41, zfa.cells.toArray), (w2.heap.size, 38, fo.cells.toArray), (w1.heap.size, 29, (kl (tK 0 r)).toArray), (w.heap.size, 24, #[.int .i64 (t : Int), .int .i64 (r : Int), .int .i64 (i : Int)])] q A1 cap1 ps1 (tO a b i) from ht); clear ht T5 T6; have e1 := ((T7.out.at_ 3 rfl).cell 1).trans (show _ = some (.int .i64 (r : Int)) from rfl); have e2 := ((T7.out.at_ 3 rfl).cell 2).trans (show _ = some (.int .i64 (i : Int)) from rfl); obtain ⟨k0, k1, k2, k3, k4, k5⟩ := (show Blk _ _ _ (kc 2 0 1 0 (r : Int) 0) from T7.out.at_ 2 rfl).six)
    | (go_at_call 7; refine (HST.out _ _ _ _ _ _ T7.out.st (HT.out.below T7.out.be)).mono ?_; rintro e w3 ⟨rfl, hs, hf⟩; have T8 := Lib.hid ((T7.out.wrote hs hf).push 41 zfa.cells.toArray); have HN3 := Lib.hid (T7.out.wrote hs hf).sz; clear hs hf e1 e2 k0 k1 k2 k3 k4 k5)
    | (show wpList _ _ _ ({ dst := none, op := .store _ (.tmp 15) (.tmp 126), type := _, pos := _, after := _, guard := _ } :: _) _ _; refine wpList_store_tq T8.out 0 (l1 := fa.cells) rfl HN3.out rfl (.tmp 15) (.tmp 126) (by rfl) (by rfl) (by rfl) sizeFa rfl (Fa.one _) ?_; intro W9 ht; have T9 := Lib.hid ht; clear ht T8; have f0 := ((T9.out.at_ 0 rfl).cell 0).trans (show some (Value.int .i64 fa.k) = some (.int .i64 0) from by rw [HFK.out]); have f1 := ((T9.out.at_ 1 rfl).cell 0).trans (show _ = some (.int .i64 0) from rfl); have f2 := ((T9.out.at_ 2 rfl).cell 1).trans (show fo.cells.toArray[1]? = some (.int .i64 2) from by rw [HFO.out]; rfl); have f3 := ((T9.out.at_ 2 rfl).cell 6).trans (show fo.cells.toArray[6]? = some (.int .i64 (t : Int)) from by rw [HFO.out]; rfl); have f4 := ((T9.out.at_ 2 rfl).cell 13).trans (show fo.cells.toArray[13]? = some (.int .i64 2) from by rw [HFO.out]; rfl); have f5 := ((T9.out.at_ 2 rfl).cell 4).trans (show fo.cells.toArray[4]? = some (.int .i64 0) from by rw [HFO.out]; rfl); have f6 := ((T9.out.at_ 4 rfl).cell 0).trans (show _ = some (.int .i64 (t : Int)) from rfl))
    | (go_at_call 4; refine (known_w _ (HT.out.below T9.out.be)).mono ?_; rintro e v9 ⟨rfl, b_⟩; have B9 := Lib.hid (T9.out.below b_).be; clear b_))
  go_ret
  exact ⟨rfl, B9.out⟩
set_option maxRecDepth 100000 in
set_option maxHeartbeats 4000000 in
theorem tree_goFT (w : World) (hT : Tab w) (a b t r i : Nat) (ha : a ≤ 13) (hb : b ≤ 13) (ht : t ≤ 63) (hr : r < 8) (hi : i < 8) (br : bits BinOp.and .i64 (r : Int) 3 = 0) (bi2 : (bits BinOp.and .i64 (i : Int) 3 != 0) = true) (hq : tQ r i = 1) :
    Calls Tryd.prog 3 #[.int .i64 (a : Int), .int .i64 (b : Int), .agg #[.int .i64 (t : Int), .int .i64 (r : Int), .int .i64 (i : Int)]] w fun e w' => e = .returned (.bool true) ∧ Below w.heap.size w w' := by
  have d0 : decide ((a : Int) < 0) = false := decide_eq_false (by omega)
  have d0' : decide (a < 0) = false := decide_eq_false (by omega)
  have d1 : decide (13 < (a : Int)) = false := decide_eq_false (by omega)
  have d1' : decide (13 < a) = false := decide_eq_false (by omega)
  have d2 : decide ((b : Int) < 0) = false := decide_eq_false (by omega)
  have d2' : decide (b < 0) = false := decide_eq_false (by omega)
  have d3 : decide (13 < (b : Int)) = false := decide_eq_false (by omega)
  have d3' : decide (13 < b) = false := decide_eq_false (by omega)
  have d4 : decide ((t : Int) < 0) = false := decide_eq_false (by omega)
  have d4' : decide (t < 0) = false := decide_eq_false (by omega)
  have d5 : decide (63 < (t : Int)) = false := decide_eq_false (by omega)
  have d5' : decide (63 < t) = false := decide_eq_false (by omega)
  have d6 : decide ((r : Int) < 0) = false := decide_eq_false (by omega)
  have d6' : decide (r < 0) = false := decide_eq_false (by omega)
  have d7 : decide (7 < (r : Int)) = false := decide_eq_false (by omega)
  have d7' : decide (7 < r) = false := decide_eq_false (by omega)
  have d8 : decide ((i : Int) < 0) = false := decide_eq_false (by omega)
  have d8' : decide (i < 0) = false := decide_eq_false (by omega)
  have d9 : decide (7 < (i : Int)) = false := decide_eq_false (by omega)
  have d9' : decide (7 < i) = false := decide_eq_false (by omega)
  obtain ⟨ad, had⟩ : ∃ ad : Nat, ad = a * 1024 + b * 64 + t := ⟨_, rfl⟩
  obtain ⟨fo, hfo⟩ : ∃ fo : Fo, fo = ⟨tP 1, (t : Int), zk, 2⟩ := ⟨_, rfl⟩
  obtain ⟨g1, fa, g2, g3⟩ := store_t (a := a) (b := b) (t := t) ha hb ht hr hi 122
  have hM := tO_made (a := a) (b := b) hi
  have hw1 : ∀ (W : World) (base q : Nat) (A' : Option Addr) (cap' : Nat) (ps : List Nat), StAt W base q A' cap' ps (tO a b i) → Tab W → Calls Tryd.prog 6 #[pv q, .agg (kc 2 0 1 0 (r : Int) 0), .int .i64 (ad : Int)] W fun e w' => e = .returned (.tuple #[fo.val, zfa.val, .int .i64 0]) ∧ Below W.heap.size W w' := fun W base q A' cap' ps hS hT => by
    have := walk_all hS hM.2.1 hM.2.2.2 hT (tK 0 r) (ad : Int) (by omega)
    rw [had, walk_t ha hb ht hr hi, hq, ← hfo, ← had] at this
    exact this
  have hw2 : ∀ (W : World) (base q : Nat) (A' : Option Addr) (cap' : Nat) (ps : List Nat), StAt W base q A' cap' ps (tO a b i) → Tab W → Calls Tryd.prog 7 #[pv q, .agg (kc 2 0 1 0 (r : Int) 0), .int .i64 (ad : Int), .string { data := #[122] }] W fun e w' => e = .returned (.tuple #[fa.val, .int .i64 0]) ∧ StAt w' base q A' cap' ps (storeA (tO a b i) (tK 0 r) (ad : Int) [122]).1 ∧ Fr (fun k => k ∈ ps) W w' := fun W base q A' cap' ps hS hT => by
    have := sstore_all hS hM.2.1 hM.2.2.2 hT (tK 0 r) (ad : Int) (by omega) [122]
    rw [had, g1, g2, ← had] at this
    exact this
  have HWK := Lib.hid hw1
  have HST := Lib.hid hw2
  have HMD := Lib.hid hM
  have HFK := Lib.hid (show fa.k = 6 by rw [g3, hq]; rfl)
  have HFO := Lib.hid hfo
  have HT := Lib.hid hT
  have HA := Lib.hid ha
  have HB := Lib.hid hb
  have HR := Lib.hid hr
  have HI := Lib.hid hi
  have i1 : (0 : Int) ≤ (a : Int) := by omega
  have i2 : (a : Int) < 16 := by omega
  have i3 : (0 : Int) ≤ (b : Int) := by omega
  have i4 : (b : Int) < 16 := by omega
  have i5 : a < 16 := by omega
  have i6 : b < 16 := by omega
  have m1 : IntKind.i64.wrap ((a : Int) * 1024) = (a : Int) * 1024 := IntWalk.i64_in _ (by omega)
  have m2 : IntKind.i64.wrap ((b : Int) * 64) = (b : Int) * 64 := IntWalk.i64_in _ (by omega)
  have m3 : IntKind.i64.wrap ((a : Int) * 1024 + (b : Int) * 64) = (a : Int) * 1024 + (b : Int) * 64 := IntWalk.i64_in _ (by omega)
  have m4 : IntKind.i64.wrap ((a : Int) * 1024 + (b : Int) * 64 + (t : Int)) = (ad : Int) := by rw [show (a : Int) * 1024 + (b : Int) * 64 + (t : Int) = (ad : Int) by omega]; exact IntWalk.i64_in _ (by omega)
  have X0 := Lib.hid (Blk.new w 24 #[.int .i64 (t : Int), .int .i64 (r : Int), .int .i64 (i : Int)])
  have B0 := Lib.hid ((Below.refl w.heap.size w).alloc (Nat.le_refl _) (.cells #[.int .i64 (t : Int), .int .i64 (r : Int), .int .i64 (i : Int)] 24))
  have T0 := Lib.hid (show Tt w.heap.size w ((w.alloc (.cells #[.int .i64 (t : Int), .int .i64 (r : Int), .int .i64 (i : Int)] 24)).alloc (.cells (ocs [kn9, kn9, kn10]).toArray 33)) #[.int .i64 (t : Int), .int .i64 (r : Int), .int .i64 (i : Int)] [kn9, kn9, kn10] from ⟨B0.out.alloc B0.out.size _, X0.out.alloc _, Blk.new_of (w.alloc (.cells #[.int .i64 (t : Int), .int .i64 (r : Int), .int .i64 (i : Int)] 24)) 33 _ (g := w.heap.size + 1) (by simp)⟩)
  have c0 := (X0.out.cell 0).trans (show _ = some (.int .i64 (t : Int)) from rfl)
  have c1 := (X0.out.cell 1).trans (show _ = some (.int .i64 (r : Int)) from rfl)
  have c2 := (X0.out.cell 2).trans (show _ = some (.int .i64 (i : Int)) from rfl)
  clear hT ha hb ht hr hi hw1 hw2 g1 g2 g3 hM had hfo hq
  go_enter Tryd.func3, Tryd.ntmps3
  go_wp2_with (first
    | (show wpList _ _ _ ({ dst := some 62, op := .build _ _, type := _, pos := _, after := _, guard := _ } :: _) _ _; refine wpList_yields (S := fun _ => True) (y_build2 (by rfl) (by rfl) built9) trivial ?_)
    | (show wpList _ _ _ ({ dst := some 63, op := .build _ _, type := _, pos := _, after := _, guard := _ } :: _) _ _; refine wpList_yields (S := fun _ => True) (y_build2 (by rfl) (by rfl) built9) trivial ?_)
    | (show wpList _ _ _ ({ dst := some 64, op := .build _ _, type := _, pos := _, after := _, guard := _ } :: _) _ _; refine wpList_yields (S := fun _ => True) (y_build2 (by rfl) (by rfl) built10) trivial ?_)
    | (refine wpList_buildSlice3 rfl (.tmp 62) (.tmp 63) (.tmp 64) rfl kn9 kn9 kn10 rfl rfl rfl ?_))
  generalize (w.alloc (.cells #[.int .i64 (t : Int), .int .i64 (r : Int), .int .i64 (i : Int)] 24)).alloc (.cells (ocs [kn9, kn9, kn10]).toArray 33) = W1 at T0 ⊢
  have T1 := Lib.hid T0.out.drew
  clear c0 c1 c2 X0 B0 T0 d0 d1 d2 d3 d4 d5 d6 d7 d8 d9 d0' d1' d2' d3' d4' d5' d6' d7' d8' d9'
  refine wp_region_only (S := fun _ => True) (by kernel_rfl) trivial (fun hHeld => ?_)
  refine wpAnyH_take (i := 0) (v := ?v1) rfl (by kernel_rfl) (by kernel_rfl) (by kernel_rfl) (fun _ _ _ h => h) (Or.inl ⟨by rfl, ?hy1⟩) hHeld ?rest1
  case hy1 =>
    intro w' hSw
    try dsimp only at hSw
    go_simp
    first | done | with_reducible rfl
  try simp only [Act.put, List.getElem_toArray, List.getElem_cons_zero, List.setIfInBounds_toArray, List.set_cons_zero, List.set_cons_succ]
  refine wpAnyH_take (i := 1) (v := ?v2) rfl (by kernel_rfl) (by kernel_rfl) (by kernel_rfl) (fun _ _ _ h => h) (Or.inl ⟨by rfl, ?hy2⟩) hHeld ?rest2
  case hy2 =>
    intro w' hSw
    try dsimp only at hSw
    go_simp
    first | done | with_reducible rfl
  try simp only [Act.put, List.getElem_toArray, List.getElem_cons_succ, List.getElem_cons_zero, List.setIfInBounds_toArray, List.set_cons_zero, List.set_cons_succ]
  refine wpAnyH_take (i := 2) rfl (by kernel_rfl) (by kernel_rfl) (by kernel_rfl) (fun _ _ _ h => h) (y_build2 (by rfl) (by rfl) (builtV 2)) hHeld ?_
  try simp only [Act.put, List.getElem_toArray, List.getElem_cons_succ, List.getElem_cons_zero, List.setIfInBounds_toArray, List.set_cons_zero, List.set_cons_succ]
  refine wpAnyH_take (i := 3) rfl (by kernel_rfl) (by kernel_rfl) (by kernel_rfl) (fun _ _ _ h => h) (y_build2 (by rfl) (by rfl) (builtV 1)) hHeld ?_
  try simp only [Act.put, List.getElem_toArray, List.getElem_cons_succ, List.getElem_cons_zero, List.setIfInBounds_toArray, List.set_cons_zero, List.set_cons_succ]
  refine wpAnyH_take (i := 4) (v := ?v3) rfl (by kernel_rfl) (by kernel_rfl) (by kernel_rfl) (fun _ _ _ h => h) (Or.inl ⟨by rfl, ?hy3⟩) hHeld ?rest3
  case hy3 =>
    intro w' hSw
    try dsimp only at hSw
    go_simp
    first | done | with_reducible rfl
  try simp only [Act.put, List.getElem_toArray, List.getElem_cons_succ, List.getElem_cons_zero, List.setIfInBounds_toArray, List.set_cons_zero, List.set_cons_succ]
  refine wpAnyH_take (i := 5) (v := ?v4) rfl (by kernel_rfl) (by kernel_rfl) (by kernel_rfl) (fun _ _ _ h => h) (Or.inl ⟨by rfl, ?hy4⟩) hHeld ?rest4
  case hy4 =>
    intro w' hSw
    try dsimp only at hSw
    go_simp
    first | done | with_reducible rfl
  try simp only [Act.put, List.getElem_toArray, List.getElem_cons_succ, List.getElem_cons_zero, List.setIfInBounds_toArray, List.set_cons_zero, List.set_cons_succ]
  refine wpAnyH_take (i := 6) (v := ?v5) rfl (by kernel_rfl) (by kernel_rfl) (by kernel_rfl) (fun _ _ _ h => h) (Or.inl ⟨by rfl, ?hy5⟩) hHeld ?rest5
  case hy5 =>
    intro w' hSw
    try dsimp only at hSw
    go_simp
    first | done | with_reducible rfl
  try simp only [Act.put, List.getElem_toArray, List.getElem_cons_succ, List.getElem_cons_zero, List.setIfInBounds_toArray, List.set_cons_zero, List.set_cons_succ]
  refine wpAnyH_take (i := 8) (v := ?v6) rfl (by kernel_rfl) (by kernel_rfl) (by kernel_rfl) (fun _ _ _ h => h) (Or.inl ⟨by rfl, ?hy6⟩) hHeld ?rest6
  case hy6 =>
    intro w' hSw
    try dsimp only at hSw
    go_simp
    first | done | with_reducible rfl
  try simp only [Act.put, List.getElem_toArray, List.getElem_cons_succ, List.getElem_cons_zero, List.setIfInBounds_toArray, List.set_cons_zero, List.set_cons_succ]
  refine wpAnyH_take (i := 9) (v := ?v7) rfl (by kernel_rfl) (by kernel_rfl) (by kernel_rfl) (fun _ _ _ h => h) (Or.inl ⟨by rfl, ?hy7⟩) hHeld ?rest7
  case hy7 =>
    intro w' hSw
    try dsimp only at hSw
    go_simp
    first | done | with_reducible rfl
  try simp only [Act.put, List.getElem_toArray, List.getElem_cons_succ, List.getElem_cons_zero, List.setIfInBounds_toArray, List.set_cons_zero, List.set_cons_succ]
  refine wpAnyH_ready (rs := [7]) (by kernel_rfl) (by simp) ?_
  refine AllReadyH.cons (by rfl) (fun K hK => ?_) AllReadyH.nil
  refine step_store_tree rfl T1.out 0 (by decide) 15 (by decide) (tV 2) (.tmp 72) (.tmp 68) (by rfl) 93 (by rfl) (by rfl) (by rfl) ?_
  intro W3 ht
  replace T1 := Lib.hid (show Tt w.heap.size w W3 #[.int .i64 (t : Int), .int .i64 (r : Int), .int .i64 (i : Int)] [slotAs kn9 15 (tV 2), kn9, kn10] from ht)
  clear ht hHeld
  refine hK.out _ _ trivial (fun hHeld => ?_)
  clear hK K
  try simp only [Act.put, List.getElem_toArray, List.getElem_cons_succ, List.getElem_cons_zero]
  refine wpAnyH_take (i := 10) (v := ?v8) rfl (by kernel_rfl) (by kernel_rfl) (by kernel_rfl) (fun _ _ _ h => h) (Or.inl ⟨by rfl, ?hy8⟩) hHeld ?rest8
  case hy8 =>
    intro w' hSw
    try dsimp only at hSw
    go_simp
    first | done | with_reducible rfl
  try simp only [Act.put, List.getElem_toArray, List.getElem_cons_succ, List.getElem_cons_zero, List.setIfInBounds_toArray, List.set_cons_zero, List.set_cons_succ]
  refine wpAnyH_ready (rs := [11]) (by kernel_rfl) (by simp) ?_
  refine AllReadyH.cons (by rfl) (fun K hK => ?_) AllReadyH.nil
  refine step_store_tree rfl T1.out 1 (by decide) 15 (by decide) (tV 1) (.tmp 75) (.tmp 69) (by rfl) 256 (by rfl) (by rfl) (by rfl) ?_
  intro W4 ht
  replace T1 := Lib.hid (show Tt w.heap.size w W4 #[.int .i64 (t : Int), .int .i64 (r : Int), .int .i64 (i : Int)] [slotAs kn9 15 (tV 2), slotAs kn9 15 (tV 1), kn10] from ht)
  clear ht hHeld
  refine hK.out _ _ trivial (fun hHeld => ?_)
  clear hK K
  try simp only [Act.put, List.getElem_toArray, List.getElem_cons_succ, List.getElem_cons_zero]
  refine wpAnyH_done (by kernel_rfl) ?_ _
  refine OnlyN.normal ?_
  try clear hHeld
  go_wp2_with fail
  replace T1 := Lib.hid T1.out.drew
  refine wp_region_only (S := fun W => W.cell? ⟨w.heap.size, 2, none⟩ = some (.int .i64 (i : Int))) (by kernel_rfl) ((T1.out.bx.cell 2).trans rfl) (fun hHeld => ?_)
  refine wpAnyH_take (i := 0) (v := ?v9) rfl (by kernel_rfl) (by kernel_rfl) (by kernel_rfl) (fun _ _ _ h => h) (Or.inl ⟨by rfl, ?hy9⟩) hHeld ?rest9
  case hy9 =>
    intro w' hSw
    try dsimp only at hSw
    go_simp
    first | done | with_reducible rfl
  try simp only [Act.put, List.getElem_toArray, List.getElem_cons_zero, List.setIfInBounds_toArray, List.set_cons_zero, List.set_cons_succ]
  refine wpAnyH_take (i := 1) (v := ?v10) rfl (by kernel_rfl) (by kernel_rfl) (by kernel_rfl) (fun _ _ _ h => h) (Or.inl ⟨by rfl, ?hy10⟩) hHeld ?rest10
  case hy10 =>
    intro w' hSw
    try dsimp only at hSw
    go_simp
    first | done | with_reducible rfl
  try simp only [Act.put, List.getElem_toArray, List.getElem_cons_succ, List.getElem_cons_zero, List.setIfInBounds_toArray, List.set_cons_zero, List.set_cons_succ]
  refine wpAnyH_take (i := 2) (v := ?v11) rfl (by kernel_rfl) (by kernel_rfl) (by kernel_rfl) (fun _ _ _ h => h) (Or.inl ⟨by rfl, ?hy11⟩) hHeld ?rest11
  case hy11 =>
    intro w' hSw
    try dsimp only at hSw
    go_simp
    first | done | with_reducible rfl
  try simp only [Act.put, List.getElem_toArray, List.getElem_cons_succ, List.getElem_cons_zero, List.setIfInBounds_toArray, List.set_cons_zero, List.set_cons_succ]
  refine wpAnyH_take (i := 3) (v := ?v12) rfl (by kernel_rfl) (by kernel_rfl) (by kernel_rfl) (fun _ _ _ h => h) (Or.inl ⟨by rfl, ?hy12⟩) hHeld ?rest12
  case hy12 =>
    intro w' hSw
    try dsimp only at hSw
    go_simp
    first | done | with_reducible rfl
  try simp only [Act.put, List.getElem_toArray, List.getElem_cons_succ, List.getElem_cons_zero, List.setIfInBounds_toArray, List.set_cons_zero, List.set_cons_succ]
  refine wpAnyH_take (i := 4) rfl (by kernel_rfl) (by kernel_rfl) (by kernel_rfl) (fun _ _ _ h => h) (y_build4 (by rfl) (by rfl) (by rfl) (by rfl) (by rfl) (by rfl) (builtT4 (i : Int))) hHeld ?_
  try simp only [Act.put, List.getElem_toArray, List.getElem_cons_succ, List.getElem_cons_zero, List.setIfInBounds_toArray, List.set_cons_zero, List.set_cons_succ]
  refine wpAnyH_take (i := 5) (v := ?v13) rfl (by kernel_rfl) (by kernel_rfl) (by kernel_rfl) (fun _ _ _ h => h) (Or.inl ⟨by rfl, ?hy13⟩) hHeld ?rest13
  case hy13 =>
    intro w' hSw
    try dsimp only at hSw
    go_simp
    first | done | with_reducible rfl
  try simp only [Act.put, List.getElem_toArray, List.getElem_cons_succ, List.getElem_cons_zero, List.setIfInBounds_toArray, List.set_cons_zero, List.set_cons_succ]
  refine wpAnyH_take (i := 6) (v := ?v14) rfl (by kernel_rfl) (by kernel_rfl) (by kernel_rfl) (fun _ _ _ h => h) (Or.inl ⟨by rfl, ?hy14⟩) hHeld ?rest14
  case hy14 =>
    intro w' hSw
    try dsimp only at hSw
    go_simp
    first | done | with_reducible rfl
  try simp only [Act.put, List.getElem_toArray, List.getElem_cons_succ, List.getElem_cons_zero, List.setIfInBounds_toArray, List.set_cons_zero, List.set_cons_succ]
  refine wpAnyH_take (i := 7) (v := ?v15) rfl (by kernel_rfl) (by kernel_rfl) (by kernel_rfl) (fun _ _ _ h => h) (Or.inl ⟨by rfl, ?hy15⟩) hHeld ?rest15
  case hy15 =>
    intro w' hSw
    try dsimp only at hSw
    go_simp
    first | done | with_reducible rfl
  try simp only [Act.put, List.getElem_toArray, List.getElem_cons_succ, List.getElem_cons_zero, List.setIfInBounds_toArray, List.set_cons_zero, List.set_cons_succ]
  refine wpAnyH_ready (rs := [8]) (by kernel_rfl) (by simp) ?_
  refine AllReadyH.cons (by rfl) (fun K hK => ?_) AllReadyH.nil
  refine step_store_tree rfl T1.out 0 (by decide) a (by have := HA.out; omega) (tK 1 i) (.tmp 83) (.tmp 80) (by rfl) (3 + a * 6) (by omega) (by rfl) (by rfl) ?_
  intro W5 ht
  replace T1 := Lib.hid (show Tt w.heap.size w W5 #[.int .i64 (t : Int), .int .i64 (r : Int), .int .i64 (i : Int)] [slotAs (slotAs kn9 15 (tV 2)) a (tK 1 i), slotAs kn9 15 (tV 1), kn10] from ht)
  clear ht hHeld
  refine hK.out _ _ ((T1.out.bx.cell 2).trans rfl) (fun hHeld => ?_)
  clear hK K
  try simp only [Act.put, List.getElem_toArray, List.getElem_cons_succ, List.getElem_cons_zero]
  refine wpAnyH_done (by kernel_rfl) ?_ _
  refine OnlyN.normal ?_
  try clear hHeld
  have hz6 := z59
  have hz7 := z35
  go_wp2_with (first
    | (show wpList _ _ _ ({ dst := some 86, op := .build _ _, type := _, pos := _, after := _, guard := _ } :: _) _ _; refine wpList_yields (S := fun _ => True) (y_build3 (by rfl) (by rfl) (by rfl) (by rfl) (by rfl) builtTP) trivial ?_)
    | (show wpList _ _ _ ({ dst := none, op := .store _ (.tmp 89) (.tmp 86), type := _, pos := _, after := _, guard := _ } :: _) _ _; refine wpList_store_tree rfl T1.out 1 (by simp) b (by have := HB.out; omega) (tP 0) (.tmp 89) (.tmp 86) (by rfl) (163 + 3 + b * 6) (by omega) (by rfl) (by rfl) ?_; intro W6 ht; have T2 := Lib.hid (show Tt w.heap.size w W6 #[.int .i64 (t : Int), .int .i64 (r : Int), .int .i64 (i : Int)] (tO a b i) from ht); clear ht)
    | (go_at_call 5; refine (show Calls Tryd.prog _ #[.slice (some ⟨w.heap.size + 1, 0, none⟩) 3 3] W6 _ from made_w (l := tO a b i) (cap := 3) (HT.out.below T2.out.be) T2.out.bg.rdo HMD.out).mono ?_; rintro e w1 ⟨q, rfl, hq, ⟨A1, cap1, ps1, hs⟩, b1⟩; have T3 := Lib.hid (tq_made T2.out T2.out.be.size hq hs b1); have T4 := Lib.hid (T3.out.push 29 (kl (tK 0 r)).toArray); have c1 := ((T3.out.at_ 0 rfl).cell 1).trans (show _ = some (.int .i64 (r : Int)) from rfl); have c2 := ((T4.out.at_ 1 rfl).cell 0).trans (show _ = some (.int .i64 (t : Int)) from rfl); obtain ⟨k0, k1, k2, k3, k4, k5⟩ := (show Blk _ _ _ (kc 2 0 1 0 (r : Int) 0) from T4.out.at_ 0 rfl).six; clear b1 hq hs)
    | (show wpList _ _ _ ({ dst := some 94, op := .build _ _, type := _, pos := _, after := _, guard := _ } :: _) _ _; refine wpList_yields (S := fun _ => True) (y_build3 (by rfl) (by rfl) (by rfl) (by rfl) (by rfl) (builtT3 (r : Int))) trivial ?_)
    | (show wpList _ _ _ ({ dst := none, op := .store _ (.tmp 9) (.tmp 94), type := _, pos := _, after := _, guard := _ } :: _) _ _; refine wpList_store_new (l := kl (tK 0 r)) (l0 := kl zk) (ty := 29) rfl (.tmp 9) (.tmp 94) (by rfl) _ rfl (by rfl) (by rfl) size30 rfl (kl_one _) ?_)
    | (go_at_call 6; refine (HWK.out _ _ _ _ _ _ T4.out.st (HT.out.below T4.out.be)).mono ?_; rintro e w2 ⟨rfl, b_⟩; have T5 := Lib.hid ((T4.out.below b_).push2 38 41 zfo.cells.toArray zfa.cells.toArray); have HN2 := Lib.hid (T4.out.below b_).sz; clear b_ c1 c2 k0 k1 k2 k3 k4 k5)
    | (show wpList _ _ _ ({ dst := none, op := .store _ (.tmp 11) (.tmp 108), type := _, pos := _, after := _, guard := _ } :: _) _ _; refine wpList_store_tq T5.out 1 (l1 := fo.cells) rfl HN2.out rfl (.tmp 11) (.tmp 108) (by rfl) (by rfl) (by rfl) sizeFo rfl (Fo.one _) ?_; intro W7 ht; have T6 := Lib.hid ht; clear ht)
    | (show wpList _ _ _ ({ dst := none, op := .store _ (.tmp 12) (.tmp 109), type := _, pos := _, after := _, guard := _ } :: _) _ _; refine wpList_store_tq T6.out 0 (l1 := zfa.cells) rfl (by have := HN2.out; omega) rfl (.tmp 12) (.tmp 109) (by rfl) (by rfl) (by rfl) sizeFa rfl (Fa.one _) ?_; intro W8 ht; have T7 := Lib.hid (show Tq w.heap.size w W8 [(w2.heap.size + 1, 41, zfa.cells.toArray), (w2.heap.size, 38, fo.cells.toArray), (w1.heap.size, 29, (kl (tK 0 r)).toArray), (w.heap.size, 24, #[.int .i64 (t : Int), .int .i64 (r : Int), .int .i64 (i : Int)])] q A1 cap1 ps1 (tO a b i) from ht); clear ht T5 T6; have e1 := ((T7.out.at_ 3 rfl).cell 1).trans (show _ = some (.int .i64 (r : Int)) from rfl); have e2 := ((T7.out.at_ 3 rfl).cell 2).trans (show _ = some (.int .i64 (i : Int)) from rfl); obtain ⟨k0, k1, k2, k3, k4, k5⟩ := (show Blk _ _ _ (kc 2 0 1 0 (r : Int) 0) from T7.out.at_ 2 rfl).six)
    | (go_at_call 7; refine (HST.out _ _ _ _ _ _ T7.out.st (HT.out.below T7.out.be)).mono ?_; rintro e w3 ⟨rfl, hs, hf⟩; have T8 := Lib.hid ((T7.out.wrote hs hf).push 41 zfa.cells.toArray); have HN3 := Lib.hid (T7.out.wrote hs hf).sz; clear hs hf e1 e2 k0 k1 k2 k3 k4 k5)
    | (show wpList _ _ _ ({ dst := none, op := .store _ (.tmp 15) (.tmp 126), type := _, pos := _, after := _, guard := _ } :: _) _ _; refine wpList_store_tq T8.out 0 (l1 := fa.cells) rfl HN3.out rfl (.tmp 15) (.tmp 126) (by rfl) (by rfl) (by rfl) sizeFa rfl (Fa.one _) ?_; intro W9 ht; have T9 := Lib.hid ht; clear ht T8; have f0 := ((T9.out.at_ 0 rfl).cell 0).trans (show some (Value.int .i64 fa.k) = some (.int .i64 6) from by rw [HFK.out]); have f1 := ((T9.out.at_ 1 rfl).cell 0).trans (show _ = some (.int .i64 0) from rfl); have f2 := ((T9.out.at_ 2 rfl).cell 1).trans (show fo.cells.toArray[1]? = some (.int .i64 2) from by rw [HFO.out]; rfl); have f3 := ((T9.out.at_ 2 rfl).cell 6).trans (show fo.cells.toArray[6]? = some (.int .i64 (t : Int)) from by rw [HFO.out]; rfl); have f4 := ((T9.out.at_ 2 rfl).cell 13).trans (show fo.cells.toArray[13]? = some (.int .i64 2) from by rw [HFO.out]; rfl); have f5 := ((T9.out.at_ 2 rfl).cell 4).trans (show fo.cells.toArray[4]? = some (.int .i64 1) from by rw [HFO.out]; rfl); have f6 := ((T9.out.at_ 4 rfl).cell 0).trans (show _ = some (.int .i64 (t : Int)) from rfl))
    | (go_at_call 4; refine (known_w _ (HT.out.below T9.out.be)).mono ?_; rintro e v9 ⟨rfl, b_⟩; have B9 := Lib.hid (T9.out.below b_).be; clear b_))
  go_ret
  exact ⟨rfl, B9.out⟩
set_option maxRecDepth 100000 in
set_option maxHeartbeats 4000000 in
theorem tree_goT (w : World) (hT : Tab w) (a b t r i : Nat) (ha : a ≤ 13) (hb : b ≤ 13) (ht : t ≤ 63) (hr : r < 8) (hi : i < 8) (br2 : (bits BinOp.and .i64 (r : Int) 3 != 0) = true) (hq : tQ r i = 1) :
    Calls Tryd.prog 3 #[.int .i64 (a : Int), .int .i64 (b : Int), .agg #[.int .i64 (t : Int), .int .i64 (r : Int), .int .i64 (i : Int)]] w fun e w' => e = .returned (.bool true) ∧ Below w.heap.size w w' := by
  have d0 : decide ((a : Int) < 0) = false := decide_eq_false (by omega)
  have d0' : decide (a < 0) = false := decide_eq_false (by omega)
  have d1 : decide (13 < (a : Int)) = false := decide_eq_false (by omega)
  have d1' : decide (13 < a) = false := decide_eq_false (by omega)
  have d2 : decide ((b : Int) < 0) = false := decide_eq_false (by omega)
  have d2' : decide (b < 0) = false := decide_eq_false (by omega)
  have d3 : decide (13 < (b : Int)) = false := decide_eq_false (by omega)
  have d3' : decide (13 < b) = false := decide_eq_false (by omega)
  have d4 : decide ((t : Int) < 0) = false := decide_eq_false (by omega)
  have d4' : decide (t < 0) = false := decide_eq_false (by omega)
  have d5 : decide (63 < (t : Int)) = false := decide_eq_false (by omega)
  have d5' : decide (63 < t) = false := decide_eq_false (by omega)
  have d6 : decide ((r : Int) < 0) = false := decide_eq_false (by omega)
  have d6' : decide (r < 0) = false := decide_eq_false (by omega)
  have d7 : decide (7 < (r : Int)) = false := decide_eq_false (by omega)
  have d7' : decide (7 < r) = false := decide_eq_false (by omega)
  have d8 : decide ((i : Int) < 0) = false := decide_eq_false (by omega)
  have d8' : decide (i < 0) = false := decide_eq_false (by omega)
  have d9 : decide (7 < (i : Int)) = false := decide_eq_false (by omega)
  have d9' : decide (7 < i) = false := decide_eq_false (by omega)
  obtain ⟨ad, had⟩ : ∃ ad : Nat, ad = a * 1024 + b * 64 + t := ⟨_, rfl⟩
  obtain ⟨fo, hfo⟩ : ∃ fo : Fo, fo = ⟨tP 1, (t : Int), zk, 2⟩ := ⟨_, rfl⟩
  obtain ⟨g1, fa, g2, g3⟩ := store_t (a := a) (b := b) (t := t) ha hb ht hr hi 122
  have hM := tO_made (a := a) (b := b) hi
  have hw1 : ∀ (W : World) (base q : Nat) (A' : Option Addr) (cap' : Nat) (ps : List Nat), StAt W base q A' cap' ps (tO a b i) → Tab W → Calls Tryd.prog 6 #[pv q, .agg (kc 2 0 1 0 (r : Int) 0), .int .i64 (ad : Int)] W fun e w' => e = .returned (.tuple #[fo.val, zfa.val, .int .i64 0]) ∧ Below W.heap.size W w' := fun W base q A' cap' ps hS hT => by
    have := walk_all hS hM.2.1 hM.2.2.2 hT (tK 0 r) (ad : Int) (by omega)
    rw [had, walk_t ha hb ht hr hi, hq, ← hfo, ← had] at this
    exact this
  have hw2 : ∀ (W : World) (base q : Nat) (A' : Option Addr) (cap' : Nat) (ps : List Nat), StAt W base q A' cap' ps (tO a b i) → Tab W → Calls Tryd.prog 7 #[pv q, .agg (kc 2 0 1 0 (r : Int) 0), .int .i64 (ad : Int), .string { data := #[122] }] W fun e w' => e = .returned (.tuple #[fa.val, .int .i64 0]) ∧ StAt w' base q A' cap' ps (storeA (tO a b i) (tK 0 r) (ad : Int) [122]).1 ∧ Fr (fun k => k ∈ ps) W w' := fun W base q A' cap' ps hS hT => by
    have := sstore_all hS hM.2.1 hM.2.2.2 hT (tK 0 r) (ad : Int) (by omega) [122]
    rw [had, g1, g2, ← had] at this
    exact this
  have HWK := Lib.hid hw1
  have HST := Lib.hid hw2
  have HMD := Lib.hid hM
  have HFK := Lib.hid (show fa.k = 6 by rw [g3, hq]; rfl)
  have HFO := Lib.hid hfo
  have HT := Lib.hid hT
  have HA := Lib.hid ha
  have HB := Lib.hid hb
  have HR := Lib.hid hr
  have HI := Lib.hid hi
  have i1 : (0 : Int) ≤ (a : Int) := by omega
  have i2 : (a : Int) < 16 := by omega
  have i3 : (0 : Int) ≤ (b : Int) := by omega
  have i4 : (b : Int) < 16 := by omega
  have i5 : a < 16 := by omega
  have i6 : b < 16 := by omega
  have m1 : IntKind.i64.wrap ((a : Int) * 1024) = (a : Int) * 1024 := IntWalk.i64_in _ (by omega)
  have m2 : IntKind.i64.wrap ((b : Int) * 64) = (b : Int) * 64 := IntWalk.i64_in _ (by omega)
  have m3 : IntKind.i64.wrap ((a : Int) * 1024 + (b : Int) * 64) = (a : Int) * 1024 + (b : Int) * 64 := IntWalk.i64_in _ (by omega)
  have m4 : IntKind.i64.wrap ((a : Int) * 1024 + (b : Int) * 64 + (t : Int)) = (ad : Int) := by rw [show (a : Int) * 1024 + (b : Int) * 64 + (t : Int) = (ad : Int) by omega]; exact IntWalk.i64_in _ (by omega)
  have X0 := Lib.hid (Blk.new w 24 #[.int .i64 (t : Int), .int .i64 (r : Int), .int .i64 (i : Int)])
  have B0 := Lib.hid ((Below.refl w.heap.size w).alloc (Nat.le_refl _) (.cells #[.int .i64 (t : Int), .int .i64 (r : Int), .int .i64 (i : Int)] 24))
  have T0 := Lib.hid (show Tt w.heap.size w ((w.alloc (.cells #[.int .i64 (t : Int), .int .i64 (r : Int), .int .i64 (i : Int)] 24)).alloc (.cells (ocs [kn9, kn9, kn10]).toArray 33)) #[.int .i64 (t : Int), .int .i64 (r : Int), .int .i64 (i : Int)] [kn9, kn9, kn10] from ⟨B0.out.alloc B0.out.size _, X0.out.alloc _, Blk.new_of (w.alloc (.cells #[.int .i64 (t : Int), .int .i64 (r : Int), .int .i64 (i : Int)] 24)) 33 _ (g := w.heap.size + 1) (by simp)⟩)
  have c0 := (X0.out.cell 0).trans (show _ = some (.int .i64 (t : Int)) from rfl)
  have c1 := (X0.out.cell 1).trans (show _ = some (.int .i64 (r : Int)) from rfl)
  have c2 := (X0.out.cell 2).trans (show _ = some (.int .i64 (i : Int)) from rfl)
  clear hT ha hb ht hr hi hw1 hw2 g1 g2 g3 hM had hfo hq
  go_enter Tryd.func3, Tryd.ntmps3
  go_wp2_with (first
    | (show wpList _ _ _ ({ dst := some 62, op := .build _ _, type := _, pos := _, after := _, guard := _ } :: _) _ _; refine wpList_yields (S := fun _ => True) (y_build2 (by rfl) (by rfl) built9) trivial ?_)
    | (show wpList _ _ _ ({ dst := some 63, op := .build _ _, type := _, pos := _, after := _, guard := _ } :: _) _ _; refine wpList_yields (S := fun _ => True) (y_build2 (by rfl) (by rfl) built9) trivial ?_)
    | (show wpList _ _ _ ({ dst := some 64, op := .build _ _, type := _, pos := _, after := _, guard := _ } :: _) _ _; refine wpList_yields (S := fun _ => True) (y_build2 (by rfl) (by rfl) built10) trivial ?_)
    | (refine wpList_buildSlice3 rfl (.tmp 62) (.tmp 63) (.tmp 64) rfl kn9 kn9 kn10 rfl rfl rfl ?_))
  generalize (w.alloc (.cells #[.int .i64 (t : Int), .int .i64 (r : Int), .int .i64 (i : Int)] 24)).alloc (.cells (ocs [kn9, kn9, kn10]).toArray 33) = W1 at T0 ⊢
  have T1 := Lib.hid T0.out.drew
  clear c0 c1 c2 X0 B0 T0 d0 d1 d2 d3 d4 d5 d6 d7 d8 d9 d0' d1' d2' d3' d4' d5' d6' d7' d8' d9'
  refine wp_region_only (S := fun _ => True) (by kernel_rfl) trivial (fun hHeld => ?_)
  refine wpAnyH_take (i := 0) (v := ?v1) rfl (by kernel_rfl) (by kernel_rfl) (by kernel_rfl) (fun _ _ _ h => h) (Or.inl ⟨by rfl, ?hy1⟩) hHeld ?rest1
  case hy1 =>
    intro w' hSw
    try dsimp only at hSw
    go_simp
    first | done | with_reducible rfl
  try simp only [Act.put, List.getElem_toArray, List.getElem_cons_zero, List.setIfInBounds_toArray, List.set_cons_zero, List.set_cons_succ]
  refine wpAnyH_take (i := 1) (v := ?v2) rfl (by kernel_rfl) (by kernel_rfl) (by kernel_rfl) (fun _ _ _ h => h) (Or.inl ⟨by rfl, ?hy2⟩) hHeld ?rest2
  case hy2 =>
    intro w' hSw
    try dsimp only at hSw
    go_simp
    first | done | with_reducible rfl
  try simp only [Act.put, List.getElem_toArray, List.getElem_cons_succ, List.getElem_cons_zero, List.setIfInBounds_toArray, List.set_cons_zero, List.set_cons_succ]
  refine wpAnyH_take (i := 2) rfl (by kernel_rfl) (by kernel_rfl) (by kernel_rfl) (fun _ _ _ h => h) (y_build2 (by rfl) (by rfl) (builtV 2)) hHeld ?_
  try simp only [Act.put, List.getElem_toArray, List.getElem_cons_succ, List.getElem_cons_zero, List.setIfInBounds_toArray, List.set_cons_zero, List.set_cons_succ]
  refine wpAnyH_take (i := 3) rfl (by kernel_rfl) (by kernel_rfl) (by kernel_rfl) (fun _ _ _ h => h) (y_build2 (by rfl) (by rfl) (builtV 1)) hHeld ?_
  try simp only [Act.put, List.getElem_toArray, List.getElem_cons_succ, List.getElem_cons_zero, List.setIfInBounds_toArray, List.set_cons_zero, List.set_cons_succ]
  refine wpAnyH_take (i := 4) (v := ?v3) rfl (by kernel_rfl) (by kernel_rfl) (by kernel_rfl) (fun _ _ _ h => h) (Or.inl ⟨by rfl, ?hy3⟩) hHeld ?rest3
  case hy3 =>
    intro w' hSw
    try dsimp only at hSw
    go_simp
    first | done | with_reducible rfl
  try simp only [Act.put, List.getElem_toArray, List.getElem_cons_succ, List.getElem_cons_zero, List.setIfInBounds_toArray, List.set_cons_zero, List.set_cons_succ]
  refine wpAnyH_take (i := 5) (v := ?v4) rfl (by kernel_rfl) (by kernel_rfl) (by kernel_rfl) (fun _ _ _ h => h) (Or.inl ⟨by rfl, ?hy4⟩) hHeld ?rest4
  case hy4 =>
    intro w' hSw
    try dsimp only at hSw
    go_simp
    first | done | with_reducible rfl
  try simp only [Act.put, List.getElem_toArray, List.getElem_cons_succ, List.getElem_cons_zero, List.setIfInBounds_toArray, List.set_cons_zero, List.set_cons_succ]
  refine wpAnyH_take (i := 6) (v := ?v5) rfl (by kernel_rfl) (by kernel_rfl) (by kernel_rfl) (fun _ _ _ h => h) (Or.inl ⟨by rfl, ?hy5⟩) hHeld ?rest5
  case hy5 =>
    intro w' hSw
    try dsimp only at hSw
    go_simp
    first | done | with_reducible rfl
  try simp only [Act.put, List.getElem_toArray, List.getElem_cons_succ, List.getElem_cons_zero, List.setIfInBounds_toArray, List.set_cons_zero, List.set_cons_succ]
  refine wpAnyH_take (i := 8) (v := ?v6) rfl (by kernel_rfl) (by kernel_rfl) (by kernel_rfl) (fun _ _ _ h => h) (Or.inl ⟨by rfl, ?hy6⟩) hHeld ?rest6
  case hy6 =>
    intro w' hSw
    try dsimp only at hSw
    go_simp
    first | done | with_reducible rfl
  try simp only [Act.put, List.getElem_toArray, List.getElem_cons_succ, List.getElem_cons_zero, List.setIfInBounds_toArray, List.set_cons_zero, List.set_cons_succ]
  refine wpAnyH_take (i := 9) (v := ?v7) rfl (by kernel_rfl) (by kernel_rfl) (by kernel_rfl) (fun _ _ _ h => h) (Or.inl ⟨by rfl, ?hy7⟩) hHeld ?rest7
  case hy7 =>
    intro w' hSw
    try dsimp only at hSw
    go_simp
    first | done | with_reducible rfl
  try simp only [Act.put, List.getElem_toArray, List.getElem_cons_succ, List.getElem_cons_zero, List.setIfInBounds_toArray, List.set_cons_zero, List.set_cons_succ]
  refine wpAnyH_ready (rs := [7]) (by kernel_rfl) (by simp) ?_
  refine AllReadyH.cons (by rfl) (fun K hK => ?_) AllReadyH.nil
  refine step_store_tree rfl T1.out 0 (by decide) 15 (by decide) (tV 2) (.tmp 72) (.tmp 68) (by rfl) 93 (by rfl) (by rfl) (by rfl) ?_
  intro W3 ht
  replace T1 := Lib.hid (show Tt w.heap.size w W3 #[.int .i64 (t : Int), .int .i64 (r : Int), .int .i64 (i : Int)] [slotAs kn9 15 (tV 2), kn9, kn10] from ht)
  clear ht hHeld
  refine hK.out _ _ trivial (fun hHeld => ?_)
  clear hK K
  try simp only [Act.put, List.getElem_toArray, List.getElem_cons_succ, List.getElem_cons_zero]
  refine wpAnyH_take (i := 10) (v := ?v8) rfl (by kernel_rfl) (by kernel_rfl) (by kernel_rfl) (fun _ _ _ h => h) (Or.inl ⟨by rfl, ?hy8⟩) hHeld ?rest8
  case hy8 =>
    intro w' hSw
    try dsimp only at hSw
    go_simp
    first | done | with_reducible rfl
  try simp only [Act.put, List.getElem_toArray, List.getElem_cons_succ, List.getElem_cons_zero, List.setIfInBounds_toArray, List.set_cons_zero, List.set_cons_succ]
  refine wpAnyH_ready (rs := [11]) (by kernel_rfl) (by simp) ?_
  refine AllReadyH.cons (by rfl) (fun K hK => ?_) AllReadyH.nil
  refine step_store_tree rfl T1.out 1 (by decide) 15 (by decide) (tV 1) (.tmp 75) (.tmp 69) (by rfl) 256 (by rfl) (by rfl) (by rfl) ?_
  intro W4 ht
  replace T1 := Lib.hid (show Tt w.heap.size w W4 #[.int .i64 (t : Int), .int .i64 (r : Int), .int .i64 (i : Int)] [slotAs kn9 15 (tV 2), slotAs kn9 15 (tV 1), kn10] from ht)
  clear ht hHeld
  refine hK.out _ _ trivial (fun hHeld => ?_)
  clear hK K
  try simp only [Act.put, List.getElem_toArray, List.getElem_cons_succ, List.getElem_cons_zero]
  refine wpAnyH_done (by kernel_rfl) ?_ _
  refine OnlyN.normal ?_
  try clear hHeld
  go_wp2_with fail
  replace T1 := Lib.hid T1.out.drew
  refine wp_region_only (S := fun W => W.cell? ⟨w.heap.size, 2, none⟩ = some (.int .i64 (i : Int))) (by kernel_rfl) ((T1.out.bx.cell 2).trans rfl) (fun hHeld => ?_)
  refine wpAnyH_take (i := 0) (v := ?v9) rfl (by kernel_rfl) (by kernel_rfl) (by kernel_rfl) (fun _ _ _ h => h) (Or.inl ⟨by rfl, ?hy9⟩) hHeld ?rest9
  case hy9 =>
    intro w' hSw
    try dsimp only at hSw
    go_simp
    first | done | with_reducible rfl
  try simp only [Act.put, List.getElem_toArray, List.getElem_cons_zero, List.setIfInBounds_toArray, List.set_cons_zero, List.set_cons_succ]
  refine wpAnyH_take (i := 1) (v := ?v10) rfl (by kernel_rfl) (by kernel_rfl) (by kernel_rfl) (fun _ _ _ h => h) (Or.inl ⟨by rfl, ?hy10⟩) hHeld ?rest10
  case hy10 =>
    intro w' hSw
    try dsimp only at hSw
    go_simp
    first | done | with_reducible rfl
  try simp only [Act.put, List.getElem_toArray, List.getElem_cons_succ, List.getElem_cons_zero, List.setIfInBounds_toArray, List.set_cons_zero, List.set_cons_succ]
  refine wpAnyH_take (i := 2) (v := ?v11) rfl (by kernel_rfl) (by kernel_rfl) (by kernel_rfl) (fun _ _ _ h => h) (Or.inl ⟨by rfl, ?hy11⟩) hHeld ?rest11
  case hy11 =>
    intro w' hSw
    try dsimp only at hSw
    go_simp
    first | done | with_reducible rfl
  try simp only [Act.put, List.getElem_toArray, List.getElem_cons_succ, List.getElem_cons_zero, List.setIfInBounds_toArray, List.set_cons_zero, List.set_cons_succ]
  refine wpAnyH_take (i := 3) (v := ?v12) rfl (by kernel_rfl) (by kernel_rfl) (by kernel_rfl) (fun _ _ _ h => h) (Or.inl ⟨by rfl, ?hy12⟩) hHeld ?rest12
  case hy12 =>
    intro w' hSw
    try dsimp only at hSw
    go_simp
    first | done | with_reducible rfl
  try simp only [Act.put, List.getElem_toArray, List.getElem_cons_succ, List.getElem_cons_zero, List.setIfInBounds_toArray, List.set_cons_zero, List.set_cons_succ]
  refine wpAnyH_take (i := 4) rfl (by kernel_rfl) (by kernel_rfl) (by kernel_rfl) (fun _ _ _ h => h) (y_build4 (by rfl) (by rfl) (by rfl) (by rfl) (by rfl) (by rfl) (builtT4 (i : Int))) hHeld ?_
  try simp only [Act.put, List.getElem_toArray, List.getElem_cons_succ, List.getElem_cons_zero, List.setIfInBounds_toArray, List.set_cons_zero, List.set_cons_succ]
  refine wpAnyH_take (i := 5) (v := ?v13) rfl (by kernel_rfl) (by kernel_rfl) (by kernel_rfl) (fun _ _ _ h => h) (Or.inl ⟨by rfl, ?hy13⟩) hHeld ?rest13
  case hy13 =>
    intro w' hSw
    try dsimp only at hSw
    go_simp
    first | done | with_reducible rfl
  try simp only [Act.put, List.getElem_toArray, List.getElem_cons_succ, List.getElem_cons_zero, List.setIfInBounds_toArray, List.set_cons_zero, List.set_cons_succ]
  refine wpAnyH_take (i := 6) (v := ?v14) rfl (by kernel_rfl) (by kernel_rfl) (by kernel_rfl) (fun _ _ _ h => h) (Or.inl ⟨by rfl, ?hy14⟩) hHeld ?rest14
  case hy14 =>
    intro w' hSw
    try dsimp only at hSw
    go_simp
    first | done | with_reducible rfl
  try simp only [Act.put, List.getElem_toArray, List.getElem_cons_succ, List.getElem_cons_zero, List.setIfInBounds_toArray, List.set_cons_zero, List.set_cons_succ]
  refine wpAnyH_take (i := 7) (v := ?v15) rfl (by kernel_rfl) (by kernel_rfl) (by kernel_rfl) (fun _ _ _ h => h) (Or.inl ⟨by rfl, ?hy15⟩) hHeld ?rest15
  case hy15 =>
    intro w' hSw
    try dsimp only at hSw
    go_simp
    first | done | with_reducible rfl
  try simp only [Act.put, List.getElem_toArray, List.getElem_cons_succ, List.getElem_cons_zero, List.setIfInBounds_toArray, List.set_cons_zero, List.set_cons_succ]
  refine wpAnyH_ready (rs := [8]) (by kernel_rfl) (by simp) ?_
  refine AllReadyH.cons (by rfl) (fun K hK => ?_) AllReadyH.nil
  refine step_store_tree rfl T1.out 0 (by decide) a (by have := HA.out; omega) (tK 1 i) (.tmp 83) (.tmp 80) (by rfl) (3 + a * 6) (by omega) (by rfl) (by rfl) ?_
  intro W5 ht
  replace T1 := Lib.hid (show Tt w.heap.size w W5 #[.int .i64 (t : Int), .int .i64 (r : Int), .int .i64 (i : Int)] [slotAs (slotAs kn9 15 (tV 2)) a (tK 1 i), slotAs kn9 15 (tV 1), kn10] from ht)
  clear ht hHeld
  refine hK.out _ _ ((T1.out.bx.cell 2).trans rfl) (fun hHeld => ?_)
  clear hK K
  try simp only [Act.put, List.getElem_toArray, List.getElem_cons_succ, List.getElem_cons_zero]
  refine wpAnyH_done (by kernel_rfl) ?_ _
  refine OnlyN.normal ?_
  try clear hHeld
  have hz6 := z59
  have hz7 := z35
  go_wp2_with (first
    | (show wpList _ _ _ ({ dst := some 86, op := .build _ _, type := _, pos := _, after := _, guard := _ } :: _) _ _; refine wpList_yields (S := fun _ => True) (y_build3 (by rfl) (by rfl) (by rfl) (by rfl) (by rfl) builtTP) trivial ?_)
    | (show wpList _ _ _ ({ dst := none, op := .store _ (.tmp 89) (.tmp 86), type := _, pos := _, after := _, guard := _ } :: _) _ _; refine wpList_store_tree rfl T1.out 1 (by simp) b (by have := HB.out; omega) (tP 0) (.tmp 89) (.tmp 86) (by rfl) (163 + 3 + b * 6) (by omega) (by rfl) (by rfl) ?_; intro W6 ht; have T2 := Lib.hid (show Tt w.heap.size w W6 #[.int .i64 (t : Int), .int .i64 (r : Int), .int .i64 (i : Int)] (tO a b i) from ht); clear ht)
    | (go_at_call 5; refine (show Calls Tryd.prog _ #[.slice (some ⟨w.heap.size + 1, 0, none⟩) 3 3] W6 _ from made_w (l := tO a b i) (cap := 3) (HT.out.below T2.out.be) T2.out.bg.rdo HMD.out).mono ?_; rintro e w1 ⟨q, rfl, hq, ⟨A1, cap1, ps1, hs⟩, b1⟩; have T3 := Lib.hid (tq_made T2.out T2.out.be.size hq hs b1); have T4 := Lib.hid (T3.out.push 29 (kl (tK 0 r)).toArray); have c1 := ((T3.out.at_ 0 rfl).cell 1).trans (show _ = some (.int .i64 (r : Int)) from rfl); have c2 := ((T4.out.at_ 1 rfl).cell 0).trans (show _ = some (.int .i64 (t : Int)) from rfl); obtain ⟨k0, k1, k2, k3, k4, k5⟩ := (show Blk _ _ _ (kc 2 0 1 0 (r : Int) 0) from T4.out.at_ 0 rfl).six; clear b1 hq hs)
    | (show wpList _ _ _ ({ dst := some 94, op := .build _ _, type := _, pos := _, after := _, guard := _ } :: _) _ _; refine wpList_yields (S := fun _ => True) (y_build3 (by rfl) (by rfl) (by rfl) (by rfl) (by rfl) (builtT3 (r : Int))) trivial ?_)
    | (show wpList _ _ _ ({ dst := none, op := .store _ (.tmp 9) (.tmp 94), type := _, pos := _, after := _, guard := _ } :: _) _ _; refine wpList_store_new (l := kl (tK 0 r)) (l0 := kl zk) (ty := 29) rfl (.tmp 9) (.tmp 94) (by rfl) _ rfl (by rfl) (by rfl) size30 rfl (kl_one _) ?_)
    | (go_at_call 6; refine (HWK.out _ _ _ _ _ _ T4.out.st (HT.out.below T4.out.be)).mono ?_; rintro e w2 ⟨rfl, b_⟩; have T5 := Lib.hid ((T4.out.below b_).push2 38 41 zfo.cells.toArray zfa.cells.toArray); have HN2 := Lib.hid (T4.out.below b_).sz; clear b_ c1 c2 k0 k1 k2 k3 k4 k5)
    | (show wpList _ _ _ ({ dst := none, op := .store _ (.tmp 11) (.tmp 108), type := _, pos := _, after := _, guard := _ } :: _) _ _; refine wpList_store_tq T5.out 1 (l1 := fo.cells) rfl HN2.out rfl (.tmp 11) (.tmp 108) (by rfl) (by rfl) (by rfl) sizeFo rfl (Fo.one _) ?_; intro W7 ht; have T6 := Lib.hid ht; clear ht)
    | (show wpList _ _ _ ({ dst := none, op := .store _ (.tmp 12) (.tmp 109), type := _, pos := _, after := _, guard := _ } :: _) _ _; refine wpList_store_tq T6.out 0 (l1 := zfa.cells) rfl (by have := HN2.out; omega) rfl (.tmp 12) (.tmp 109) (by rfl) (by rfl) (by rfl) sizeFa rfl (Fa.one _) ?_; intro W8 ht; have T7 := Lib.hid (show Tq w.heap.size w W8 [(w2.heap.size + 1, 41, zfa.cells.toArray), (w2.heap.size, 38, fo.cells.toArray), (w1.heap.size, 29, (kl (tK 0 r)).toArray), (w.heap.size, 24, #[.int .i64 (t : Int), .int .i64 (r : Int), .int .i64 (i : Int)])] q A1 cap1 ps1 (tO a b i) from ht); clear ht T5 T6; have e1 := ((T7.out.at_ 3 rfl).cell 1).trans (show _ = some (.int .i64 (r : Int)) from rfl); have e2 := ((T7.out.at_ 3 rfl).cell 2).trans (show _ = some (.int .i64 (i : Int)) from rfl); obtain ⟨k0, k1, k2, k3, k4, k5⟩ := (show Blk _ _ _ (kc 2 0 1 0 (r : Int) 0) from T7.out.at_ 2 rfl).six)
    | (go_at_call 7; refine (HST.out _ _ _ _ _ _ T7.out.st (HT.out.below T7.out.be)).mono ?_; rintro e w3 ⟨rfl, hs, hf⟩; have T8 := Lib.hid ((T7.out.wrote hs hf).push 41 zfa.cells.toArray); have HN3 := Lib.hid (T7.out.wrote hs hf).sz; clear hs hf e1 e2 k0 k1 k2 k3 k4 k5)
    | (show wpList _ _ _ ({ dst := none, op := .store _ (.tmp 15) (.tmp 126), type := _, pos := _, after := _, guard := _ } :: _) _ _; refine wpList_store_tq T8.out 0 (l1 := fa.cells) rfl HN3.out rfl (.tmp 15) (.tmp 126) (by rfl) (by rfl) (by rfl) sizeFa rfl (Fa.one _) ?_; intro W9 ht; have T9 := Lib.hid ht; clear ht T8; have f0 := ((T9.out.at_ 0 rfl).cell 0).trans (show some (Value.int .i64 fa.k) = some (.int .i64 6) from by rw [HFK.out]); have f1 := ((T9.out.at_ 1 rfl).cell 0).trans (show _ = some (.int .i64 0) from rfl); have f2 := ((T9.out.at_ 2 rfl).cell 1).trans (show fo.cells.toArray[1]? = some (.int .i64 2) from by rw [HFO.out]; rfl); have f3 := ((T9.out.at_ 2 rfl).cell 6).trans (show fo.cells.toArray[6]? = some (.int .i64 (t : Int)) from by rw [HFO.out]; rfl); have f4 := ((T9.out.at_ 2 rfl).cell 13).trans (show fo.cells.toArray[13]? = some (.int .i64 2) from by rw [HFO.out]; rfl); have f5 := ((T9.out.at_ 2 rfl).cell 4).trans (show fo.cells.toArray[4]? = some (.int .i64 1) from by rw [HFO.out]; rfl); have f6 := ((T9.out.at_ 4 rfl).cell 0).trans (show _ = some (.int .i64 (t : Int)) from rfl))
    | (go_at_call 4; refine (known_w _ (HT.out.below T9.out.be)).mono ?_; rintro e v9 ⟨rfl, b_⟩; have B9 := Lib.hid (T9.out.below b_).be; clear b_))
  go_ret
  exact ⟨rfl, B9.out⟩
set_option maxRecDepth 8000 in
theorem walk (w : World) (hL : laidMetH Tryd.prog laidK w) (m n : Int) (p : Sp) : Calls Tryd.prog 3 #[.int .i64 m, .int .i64 n, p.val] w fun e w' => e = .returned (.bool true) ∧ Below w.heap.size w w' := by
  obtain ⟨t, r, i, _, _, _⟩ := p
  by_cases h0 : m < 0
  · exact tree_no0 w (tab_of hL) m n t r i h0
  by_cases h1 : 13 < m
  · exact tree_no1 w (tab_of hL) m n t r i h0 h1
  by_cases h2 : n < 0
  · exact tree_no2 w (tab_of hL) m n t r i h0 h1 h2
  by_cases h3 : 13 < n
  · exact tree_no3 w (tab_of hL) m n t r i h0 h1 h2 h3
  by_cases h4 : t < 0
  · exact tree_no4 w (tab_of hL) m n t r i h0 h1 h2 h3 h4
  by_cases h5 : 63 < t
  · exact tree_no5 w (tab_of hL) m n t r i h0 h1 h2 h3 h4 h5
  by_cases h6 : r < 0
  · exact tree_no6 w (tab_of hL) m n t r i h0 h1 h2 h3 h4 h5 h6
  by_cases h7 : 7 < r
  · exact tree_no7 w (tab_of hL) m n t r i h0 h1 h2 h3 h4 h5 h6 h7
  by_cases h8 : i < 0
  · exact tree_no8 w (tab_of hL) m n t r i h0 h1 h2 h3 h4 h5 h6 h7 h8
  by_cases h9 : 7 < i
  · exact tree_no9 w (tab_of hL) m n t r i h0 h1 h2 h3 h4 h5 h6 h7 h8 h9
  obtain ⟨a, rfl⟩ := Int.eq_ofNat_of_zero_le (show 0 ≤ m by omega)
  obtain ⟨b, rfl⟩ := Int.eq_ofNat_of_zero_le (show 0 ≤ n by omega)
  obtain ⟨t', rfl⟩ := Int.eq_ofNat_of_zero_le (show 0 ≤ t by omega)
  obtain ⟨r', rfl⟩ := Int.eq_ofNat_of_zero_le (show 0 ≤ r by omega)
  obtain ⟨i', rfl⟩ := Int.eq_ofNat_of_zero_le (show 0 ≤ i by omega)
  have kr := and3 r' (by omega)
  have ki := and3 i' (by omega)
  have kq := tQ_eq r' (by omega) i' (by omega)
  by_cases q1 : r' % 4 = 0
  · by_cases q2 : i' % 4 = 0
    · exact tree_goFF w (tab_of hL) a b t' r' i' (by omega) (by omega) (by omega) (by omega) (by omega) (by rw [kr, q1]; rfl) (by rw [ki, q2]; rfl) (by rw [kq, if_pos ⟨q1, q2⟩])
    · have e : ¬ bits BinOp.and .i64 (i' : Int) 3 = 0 := by rw [ki]; omega
      exact tree_goFT w (tab_of hL) a b t' r' i' (by omega) (by omega) (by omega) (by omega) (by omega) (by rw [kr, q1]; rfl) (bne_iff_ne.2 e) (by rw [kq, if_neg (fun h => q2 h.2)])
  · have e : ¬ bits BinOp.and .i64 (r' : Int) 3 = 0 := by rw [kr]; omega
    exact tree_goT w (tab_of hL) a b t' r' i' (by omega) (by omega) (by omega) (by omega) (by omega) (bne_iff_ne.2 e) (by rw [kq, if_neg (fun h => q1 h.1)])
set_option maxRecDepth 100000 in
theorem lifted (os : Os) (started : os.Started) (H : Type) (enc : TypeId × Value → H) :
    ReturnsInHanded {} Tryd.checked os 3 .any (fun w args => (Rows.spacesTreeSpec.pre enc Tryd.prog Tryd.f3 [] false w args ∧ laidMetH Tryd.prog laidK w) ∧ sizedMet enc Tryd.prog Tryd.f3 (OpenSpec.ofChange Rows.spacesTreeSpec) false w args) (Rows.spacesTreeSpec.post enc Tryd.prog Tryd.f3 false true false false) := by
  refine returnsInHanded_of_change_and (C := Tryd.checked) (X := fun w _ => laidMetH Tryd.prog laidK w) (fun _ _ _ hh h => h.of_heap hh) own started (by kernel_rfl) Tryd.func3
    (ChangeSpec.witness_shaped (enc := enc) (C := Tryd.checked) (os := os) (X := fun w _ => laidMetH Tryd.prog laidK w) false (World.doorLaid Tryd.prog 40 os) #[.int .i64 0, .int .i64 0, .agg #[.int .i64 0, .int .i64 0, .int .i64 0]] 8 rfl (World.shaped_of_RefB (by kernel_rfl) (by kernel_rfl)) (by kernel_rfl) (by kernel_rfl) (by kernel_rfl) (door_met os _)) ?_
  intro W base args ds gs before hval0 hW _ _ hL _
  have hval : ∀ (j : Nat) t v, Tryd.f3.params[j]? = some t → args[j]? = some v → Value.okWide Tryd.prog W .any base t v := hval0
  have hW' := hW
  obtain ⟨p, q, hA0, hV, rfl, hfz, hnd⟩ := hW
  have hA : DataW.TrodAll enc Tryd.prog W 0 (fun _ => true) true Tryd.f3.params.toList args.toList ds p := hA0
  rw [Tryd.params3] at hA hval
  obtain ⟨v0, vs0, d0, ds0, p0, q0, hargs, rfl, rfl, h0, t0⟩ := trodAll_cons hA
  obtain ⟨v1, vs1, d1, ds1, p1, q1, rfl, rfl, rfl, h1, t1⟩ := trodAll_cons t0
  obtain ⟨v2, vs2, d2, ds2, p2, q2, rfl, rfl, rfl, h2, t2⟩ := trodAll_cons t1
  obtain ⟨rfl, rfl, rfl⟩ := trodAll_nil t2
  obtain rfl : args = #[v0, v1, v2] := by cases args; simp_all
  obtain ⟨rfl, rfl⟩ := trodVars_none hV
  have k0 := h0
  have lt0 : ∀ x ∈ p0, x.block < W.heap.size := by obtain ⟨m, hm⟩ := k0; exact DataW.trod_lt m _ _ _ hm
  obtain ⟨a0, rfl, rfl, rfl, _⟩ := open_int Tryd.underlying3 (hval 0 3 v0 rfl rfl) h0
  have k1 := h1
  have lt1 : ∀ x ∈ p1, x.block < W.heap.size := by obtain ⟨m, hm⟩ := k1; exact DataW.trod_lt m _ _ _ hm
  obtain ⟨a1, rfl, rfl, rfl, _⟩ := open_int Tryd.underlying3 (hval 1 3 v1 rfl rfl) h1
  have k2 := h2
  have lt2 : ∀ x ∈ p2, x.block < W.heap.size := by obtain ⟨m, hm⟩ := k2; exact DataW.trod_lt m _ _ _ hm
  obtain ⟨a2, rfl⟩ := open_Sp (hval 2 24 v2 rfl rfl) h2
  clear hA0 hval0
  refine (walk W hL a0 a1 a2).mono fun e W' ⟨he, bel⟩ => ?_
  subst he
  exact ⟨_, rfl, _, _, _, [], _, [], hW', trodAll_mk1 (shut_bool Tryd.underlying4 _), (trodAll_cons_mk (Below.trod laidOut (by kernel_rfl) (of_decide_eq_true (by kernel_rfl)) k0 bel lt0) (trodAll_cons_mk (Below.trod laidOut (by kernel_rfl) (of_decide_eq_true (by kernel_rfl)) k1 bel lt1) (trodAll_cons_mk (Below.trod laidOut (by kernel_rfl) (of_decide_eq_true (by kernel_rfl)) k2 bel lt2) trodAll_mk0))), rfl, bel.frame _, fun h => by cases h⟩
theorem over : Rows.spacesTreeRow.holds Tryd.pinned (OpenSpec.ofChange Rows.spacesTreeSpec) :=
  OpenClaim.holds_of_wide 3 Tryd.f3 rfl rfl rfl rfl rfl rfl rfl ⟨rfl, rfl, rfl, rfl, rfl⟩ rfl rfl rfl rfl rfl (by kernel_rfl) Tryd.func3 (by kernel_rfl)
    (of_decide_eq_true (by kernel_rfl)) (by unfold Func.isWrapper; first | (rw [if_pos (by decide +kernel)]; kernel_rfl) | (rw [if_neg (by decide +kernel)]; exact ⟨rfl, rfl⟩))
    (fun os started H enc _ => lifted os started H enc)
set_option maxRecDepth 8000 in
theorem proved : Rows.SpacesTreeCardSaid :=
  Claim7.holds_tied_plain_at .later [] [.data] true Rows.spacesTreeCard.stood.harness true
    over (fun _ h => by cases h) (by kernel_rfl) (fun _ h => by cases h) spacesTree_row_tie rfl ⟨rfl, rfl⟩ (by kernel_rfl) rfl
    (fun f fn hf hfn => by
      obtain rfl : f = 3 := Option.some.inj ((show Tryd.prog.funcNamed "chatelaine/chatelainelaw11.SpacesTree" = some 3 by kernel_rfl).symm.trans hf) |>.symm
      obtain rfl : fn = Tryd.f3 := (Option.some.inj (Tryd.func3.symm.trans hfn)).symm
      exact ⟨by kernel_rfl, fun j t ht => by
        rw [Tryd.params3] at ht
        have hm : t ∈ [3, 3, 24] := by simpa using Array.mem_of_getElem? ht
        have hall : ([3, 3, 24].all fun u => !Tryd.prog.wantsStandIn u) = true := by kernel_rfl
        exact (show Tryd.prog.wantsStandIn t = false by simpa using List.all_eq_true.1 hall t hm)⟩)
    (by kernel_rfl)
end Go.Proofs.YtjolojomgfcfbaaDoor.spacesTree

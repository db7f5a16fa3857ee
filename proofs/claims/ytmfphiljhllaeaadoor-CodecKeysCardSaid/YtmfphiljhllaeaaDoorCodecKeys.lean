/- The law CodecKeys returns true for every input: two keys' bytes are the same just where the keys are, and are read as the key. No condition but that the listed variables read as the program's own text lays them; the card ties them to it. -/
import Derived.Test.YtmfphiljhllaeaaDoorZW
import Derived.Test.YtmfphiljhllaeaaDoorRegIn
namespace Go.Proofs.YtmfphiljhllaeaaDoor.codecKeys
open Go.ChangeShapes Go.WideShapes Go.ChangeAt Go.RowKit
attribute [local go_sem] Oper.semAt_some
theorem y_str {ops : Array Oper} {o : Oper} {a : Act} {S : World → Prop} (hw : Region.wanted o (yielded ops a.tmps) = true) (x : Operand) (ho : o.op = .convert 26 9 x) {A : Option Addr} {n c : Nat} {l : List UInt8} (hx : a.eval x = .slice A n c) (hn : l.length = n) (hS : ∀ w, S w → Rd w A l) : YieldsIf Tryd.prog ops S o (.string (st l)) a := .inl ⟨hw, fun w h => by
  have := str26 (c := c) hn (hS w h)
  unfold execOp
  simp only [ho, hx, Sem.run_bind, this, Result.andThen_ok, Sem.run_pure]⟩
set_option maxRecDepth 8000 in
theorem y_kyeq_of {ops : Array Oper} {o : Oper} {a : Act} {S : World → Prop} {p q : Operand} (hw : Region.wanted o (yielded ops a.tmps) = true) (ho : o.op = .binOp .eql 25 p q 25) (x y : Ky) (b : Bool) (hb : decide (x = y) = b) (hx : a.eval p = x.val) (hy : a.eval q = y.val) : YieldsIf Tryd.prog ops S o (.bool b) a := by
  have := y_kyeq (S := S) hw ho x y hx hy
  rwa [hb] at this
set_option maxRecDepth 100000 in
set_option maxHeartbeats 1000000 in
theorem walk_nn (w : World) (hT : Tab w) (x y : Ky) (h : (¬ x.ok) ∧ (¬ y.ok)) :
    Calls Tryd.prog 8 #[x.val, y.val] w fun e w' => e = .returned (.bool true) ∧ Below w.heap.size w w' := by
  have HT := Lib.hid ((hT.alloc (.cells (kl x).toArray 25)).alloc (.cells (kl y).toArray 25))
  have HX := Lib.hid (Blk.alloc (Blk.new w 25 (kl x).toArray) (.cells (kl y).toArray 25))
  have HY := Lib.hid (Blk.new_of (w.alloc (.cells (kl x).toArray 25)) 25 (kl y).toArray (g := w.heap.size + 1) (by simp))
  have HB := Lib.hid (((Below.refl w.heap.size w).alloc (Nat.le_refl _) (.cells (kl x).toArray 25)).alloc (by simp) (.cells (kl y).toArray 25))
  have HH := Lib.hid h
  have M1 := Lib.hid True.intro
  obtain ⟨c0, c1, c2, c3, c4, c5⟩ := Blk.six HX.out
  clear hT h
  go_enter Tryd.func8, Tryd.ntmps8
  go_wp2_with (first
    | (go_at_call 11; clear M1; refine (putkey_no x _ HT.out HH.out.1).mono ?_; rintro e w1 ⟨rfl, hb⟩; have B1 := Lib.hid (HB.out.trans (hb.mono HB.out.size)); have T1 := Lib.hid (HT.out.below hb); have X1 := Lib.hid (Blk.keep HX.out hb); have Y1 := Lib.hid (Blk.keep HY.out hb); obtain ⟨d0, d1, d2, d3, d4, d5⟩ := Blk.six Y1.out; clear c0 c1 c2 c3 c4 c5 hb)
    | (go_at_call 11; refine (putkey_no y _ T1.out HH.out.2).mono ?_; rintro e w2 ⟨rfl, hb⟩; have B2 := Lib.hid (B1.out.trans (hb.mono B1.out.size)); have T2 := Lib.hid (T1.out.below hb); have X2 := Lib.hid (Blk.keep X1.out hb); have Y2 := Lib.hid (Blk.keep Y1.out hb); clear d0 d1 d2 d3 d4 d5 hb)
    | (go_at_call 13; refine (cnum_any _ _).mono ?_; rintro e y ⟨rfl, rfl⟩)
    | (go_at_call 14; refine (works_any _ T2.out).mono ?_; rintro e w9 ⟨rfl, hb⟩; have B9 := Lib.hid (B2.out.trans (hb.mono B2.out.size)); clear hb))
  go_ret
  exact ⟨rfl, B9.out⟩
set_option maxRecDepth 100000 in
set_option maxHeartbeats 1000000 in
theorem walk_ny (w : World) (hT : Tab w) (x y : Ky) (h : (¬ x.ok) ∧ (y.ok ∧ y.fit)) :
    Calls Tryd.prog 8 #[x.val, y.val] w fun e w' => e = .returned (.bool true) ∧ Below w.heap.size w w' := by
  have HT := Lib.hid ((hT.alloc (.cells (kl x).toArray 25)).alloc (.cells (kl y).toArray 25))
  have HX := Lib.hid (Blk.alloc (Blk.new w 25 (kl x).toArray) (.cells (kl y).toArray 25))
  have HY := Lib.hid (Blk.new_of (w.alloc (.cells (kl x).toArray 25)) 25 (kl y).toArray (g := w.heap.size + 1) (by simp))
  have HB := Lib.hid (((Below.refl w.heap.size w).alloc (Nat.le_refl _) (.cells (kl x).toArray 25)).alloc (by simp) (.cells (kl y).toArray 25))
  have HH := Lib.hid h
  have M1 := Lib.hid True.intro
  obtain ⟨c0, c1, c2, c3, c4, c5⟩ := Blk.six HX.out
  clear hT h
  go_enter Tryd.func8, Tryd.ntmps8
  go_wp2_with (first
    | (go_at_call 11; clear M1; refine (putkey_no x _ HT.out HH.out.1).mono ?_; rintro e w1 ⟨rfl, hb⟩; have B1 := Lib.hid (HB.out.trans (hb.mono HB.out.size)); have T1 := Lib.hid (HT.out.below hb); have X1 := Lib.hid (Blk.keep HX.out hb); have Y1 := Lib.hid (Blk.keep HY.out hb); obtain ⟨d0, d1, d2, d3, d4, d5⟩ := Blk.six Y1.out; clear c0 c1 c2 c3 c4 c5 hb)
    | (go_at_call 11; refine (putkey_yes y _ T1.out HH.out.2.1 HH.out.2.2).mono ?_; rintro e w2 ⟨v, rfl, ho, hb⟩; obtain ⟨D2, cp2, rfl, hcp2, -, -, hrd, -⟩ := own_cell (by decide) ho; have B2 := Lib.hid (B1.out.trans (hb.mono B1.out.size)); have T2 := Lib.hid (T1.out.below hb); have X2 := Lib.hid (Blk.keep X1.out hb); have Y2 := Lib.hid (Blk.keep Y1.out hb); have R2 := Lib.hid hrd; clear d0 d1 d2 d3 d4 d5 hb ho hrd)
    | (go_at_call 13; refine (cnum_any _ _).mono ?_; rintro e y ⟨rfl, rfl⟩)
    | (go_at_call 14; refine (works_any _ T2.out).mono ?_; rintro e w9 ⟨rfl, hb⟩; have B9 := Lib.hid (B2.out.trans (hb.mono B2.out.size)); clear hb))
  go_ret
  exact ⟨rfl, B9.out⟩
set_option maxRecDepth 100000 in
set_option maxHeartbeats 1000000 in
theorem walk_yn (w : World) (hT : Tab w) (x y : Ky) (h : (x.ok ∧ x.fit) ∧ (¬ y.ok)) :
    Calls Tryd.prog 8 #[x.val, y.val] w fun e w' => e = .returned (.bool true) ∧ Below w.heap.size w w' := by
  have HT := Lib.hid ((hT.alloc (.cells (kl x).toArray 25)).alloc (.cells (kl y).toArray 25))
  have HX := Lib.hid (Blk.alloc (Blk.new w 25 (kl x).toArray) (.cells (kl y).toArray 25))
  have HY := Lib.hid (Blk.new_of (w.alloc (.cells (kl x).toArray 25)) 25 (kl y).toArray (g := w.heap.size + 1) (by simp))
  have HB := Lib.hid (((Below.refl w.heap.size w).alloc (Nat.le_refl _) (.cells (kl x).toArray 25)).alloc (by simp) (.cells (kl y).toArray 25))
  have HH := Lib.hid h
  have M1 := Lib.hid True.intro
  obtain ⟨c0, c1, c2, c3, c4, c5⟩ := Blk.six HX.out
  clear hT h
  go_enter Tryd.func8, Tryd.ntmps8
  go_wp2_with (first
    | (go_at_call 11; clear M1; refine (putkey_yes x _ HT.out HH.out.1.1 HH.out.1.2).mono ?_; rintro e w1 ⟨v, rfl, ho, hb⟩; obtain ⟨D1, cp1, rfl, hcp1, -, -, hrd, -⟩ := own_cell (by decide) ho; have B1 := Lib.hid (HB.out.trans (hb.mono HB.out.size)); have T1 := Lib.hid (HT.out.below hb); have X1 := Lib.hid (Blk.keep HX.out hb); have Y1 := Lib.hid (Blk.keep HY.out hb); have R1 := Lib.hid hrd; obtain ⟨d0, d1, d2, d3, d4, d5⟩ := Blk.six Y1.out; clear c0 c1 c2 c3 c4 c5 hb ho hrd)
    | (go_at_call 11; refine (putkey_no y _ T1.out HH.out.2).mono ?_; rintro e w2 ⟨rfl, hb⟩; have B2 := Lib.hid (B1.out.trans (hb.mono B1.out.size)); have T2 := Lib.hid (T1.out.below hb); have X2 := Lib.hid (Blk.keep X1.out hb); have Y2 := Lib.hid (Blk.keep Y1.out hb); clear d0 d1 d2 d3 d4 d5 hb)
    | (go_at_call 13; refine (cnum_any _ _).mono ?_; rintro e y ⟨rfl, rfl⟩)
    | (go_at_call 14; refine (works_any _ T2.out).mono ?_; rintro e w9 ⟨rfl, hb⟩; have B9 := Lib.hid (B2.out.trans (hb.mono B2.out.size)); clear hb))
  go_ret
  exact ⟨rfl, B9.out⟩
set_option maxRecDepth 100000 in
set_option maxHeartbeats 2000000 in
theorem walk_yy (w : World) (hT : Tab w) (x y : Ky) (h : (x.ok ∧ x.fit) ∧ (y.ok ∧ y.fit)) (q : Bool) (hq : decide (x = y) = q) (hs : ((st (kbs x)).toList == (st (kbs y)).toList) = q) :
    Calls Tryd.prog 8 #[x.val, y.val] w fun e w' => e = .returned (.bool true) ∧ Below w.heap.size w w' := by
  have HT := Lib.hid ((hT.alloc (.cells (kl x).toArray 25)).alloc (.cells (kl y).toArray 25))
  have HX := Lib.hid (Blk.alloc (Blk.new w 25 (kl x).toArray) (.cells (kl y).toArray 25))
  have HY := Lib.hid (Blk.new_of (w.alloc (.cells (kl x).toArray 25)) 25 (kl y).toArray (g := w.heap.size + 1) (by simp))
  have HB := Lib.hid (((Below.refl w.heap.size w).alloc (Nat.le_refl _) (.cells (kl x).toArray 25)).alloc (by simp) (.cells (kl y).toArray 25))
  have HH := Lib.hid h
  have M1 := Lib.hid True.intro
  obtain ⟨c0, c1, c2, c3, c4, c5⟩ := Blk.six HX.out
  have HQ := Lib.hid hq
  have HG := Lib.hid (show good (kbs x) from ⟨kbs_length _, by rw [kof_kbs0 h.1.2]; exact h.1.1⟩)
  have HK := Lib.hid (kof_kbs0 h.1.2)
  clear hT h hq
  go_enter Tryd.func8, Tryd.ntmps8
  go_wp2_with (first
    | (go_at_call 11; clear M1; refine (putkey_yes x _ HT.out HH.out.1.1 HH.out.1.2).mono ?_; rintro e w1 ⟨v, rfl, ho, hb⟩; obtain ⟨D1, cp1, rfl, hcp1, -, -, hrd, -⟩ := own_cell (by decide) ho; have B1 := Lib.hid (HB.out.trans (hb.mono HB.out.size)); have T1 := Lib.hid (HT.out.below hb); have X1 := Lib.hid (Blk.keep HX.out hb); have Y1 := Lib.hid (Blk.keep HY.out hb); have R1 := Lib.hid hrd; obtain ⟨d0, d1, d2, d3, d4, d5⟩ := Blk.six Y1.out; clear c0 c1 c2 c3 c4 c5 hb ho hrd)
    | (go_at_call 11; refine (putkey_yes y _ T1.out HH.out.2.1 HH.out.2.2).mono ?_; rintro e w2 ⟨v, rfl, ho, hb⟩; obtain ⟨D2, cp2, rfl, hcp2, -, -, hrd, -⟩ := own_cell (by decide) ho; have B2 := Lib.hid (B1.out.trans (hb.mono B1.out.size)); have T2 := Lib.hid (T1.out.below hb); have X2 := Lib.hid (Blk.keep X1.out hb); have Y2 := Lib.hid (Blk.keep Y1.out hb); have R2 := Lib.hid hrd; have R3 := Lib.hid (R1.out.below hb); clear d0 d1 d2 d3 d4 d5 hb ho hrd)
    | (go_at_call 13; refine (cnum_any _ _).mono ?_; rintro e y ⟨rfl, rfl⟩)
    | (go_at_call 15; refine (getkey_yes (some ⟨D1, 0, none⟩) 20 cp1 (kbs x) _ T2.out (kbs_length x) hcp1 R3.out HG.out).mono ?_; rw [HK.out]; rintro e w3 ⟨rfl, hb⟩; have B3 := Lib.hid ((B2.out.trans (hb.mono B2.out.size)).alloc (by have := B2.out.size; have := hb.size; omega) (.cells (kl x).toArray 25)); have T3 := Lib.hid ((T2.out.below hb).alloc (.cells (kl x).toArray 25)); have X3 := Lib.hid (Blk.alloc (Blk.keep X2.out hb) (.cells (kl x).toArray 25)); have Y3 := Lib.hid (Blk.alloc (Blk.keep Y2.out hb) (.cells (kl x).toArray 25)); have Z3 := Lib.hid (Blk.new w3 25 (kl x).toArray); have R4 := Lib.hid ((R3.out.below hb).alloc (.cells (kl x).toArray 25)); have R5 := Lib.hid ((R2.out.below hb).alloc (.cells (kl x).toArray 25)); clear hb))
  refine wp_region_only (S := fun w' => (w'.cell? ⟨w.heap.size, 0, none⟩ = some (.int .i64 x.k) ∧ w'.cell? ⟨w.heap.size, 1, none⟩ = some (.int .i64 x.o) ∧ w'.cell? ⟨w.heap.size, 2, none⟩ = some (.int .i64 x.c) ∧ w'.cell? ⟨w.heap.size, 3, none⟩ = some (.int .i64 x.l) ∧ w'.cell? ⟨w.heap.size, 4, none⟩ = some (.int .i64 x.r) ∧ w'.cell? ⟨w.heap.size, 5, none⟩ = some (.int .i64 x.v)) ∧ (w'.cell? ⟨(w.heap.size + 1), 0, none⟩ = some (.int .i64 y.k) ∧ w'.cell? ⟨(w.heap.size + 1), 1, none⟩ = some (.int .i64 y.o) ∧ w'.cell? ⟨(w.heap.size + 1), 2, none⟩ = some (.int .i64 y.c) ∧ w'.cell? ⟨(w.heap.size + 1), 3, none⟩ = some (.int .i64 y.l) ∧ w'.cell? ⟨(w.heap.size + 1), 4, none⟩ = some (.int .i64 y.r) ∧ w'.cell? ⟨(w.heap.size + 1), 5, none⟩ = some (.int .i64 y.v)) ∧ (w'.cell? ⟨w3.heap.size, 0, none⟩ = some (.int .i64 x.k) ∧ w'.cell? ⟨w3.heap.size, 1, none⟩ = some (.int .i64 x.o) ∧ w'.cell? ⟨w3.heap.size, 2, none⟩ = some (.int .i64 x.c) ∧ w'.cell? ⟨w3.heap.size, 3, none⟩ = some (.int .i64 x.l) ∧ w'.cell? ⟨w3.heap.size, 4, none⟩ = some (.int .i64 x.r) ∧ w'.cell? ⟨w3.heap.size, 5, none⟩ = some (.int .i64 x.v)) ∧ Rd w' (some ⟨D1, 0, none⟩) (kbs x) ∧ Rd w' (some ⟨D2, 0, none⟩) (kbs y)) (by kernel_rfl) ⟨Blk.six (Blk.drew X3.out), Blk.six (Blk.drew Y3.out), Blk.six (Blk.drew Z3.out), R4.out.drew, R5.out.drew⟩ (fun hHeld => ?_)
  refine wpAnyH_take (i := 0) (v := ?v1) rfl (by kernel_rfl) (by kernel_rfl) (by kernel_rfl) (fun _ _ _ h => h) (Or.inl ⟨by rfl, ?hy1⟩) hHeld ?rest1
  case hy1 =>
    intro w' hSw
    try dsimp only at hSw
    go_simp
    first | done | with_reducible rfl
  try simp only [Act.put, List.getElem_toArray, List.getElem_cons_zero, List.setIfInBounds_toArray, List.set_cons_zero, List.set_cons_succ]
  refine wpAnyH_take (i := 1) rfl (by kernel_rfl) (by kernel_rfl) (by kernel_rfl) (fun _ _ _ h => h) (y_str (by rfl) (.tmp 33) (by rfl) (by rfl) (kbs_length x) (fun _ h => h.2.2.2.1)) hHeld ?_
  try simp only [Act.put, List.getElem_toArray, List.getElem_cons_succ, List.getElem_cons_zero, List.setIfInBounds_toArray, List.set_cons_zero, List.set_cons_succ]
  refine wpAnyH_take (i := 2) (v := ?v2) rfl (by kernel_rfl) (by kernel_rfl) (by kernel_rfl) (fun _ _ _ h => h) (Or.inl ⟨by rfl, ?hy2⟩) hHeld ?rest2
  case hy2 =>
    intro w' hSw
    try dsimp only at hSw
    go_simp
    first | done | with_reducible rfl
  try simp only [Act.put, List.getElem_toArray, List.getElem_cons_succ, List.getElem_cons_zero, List.setIfInBounds_toArray, List.set_cons_zero, List.set_cons_succ]
  refine wpAnyH_take (i := 3) rfl (by kernel_rfl) (by kernel_rfl) (by kernel_rfl) (fun _ _ _ h => h) (y_str (by rfl) (.tmp 35) (by rfl) (by rfl) (kbs_length y) (fun _ h => h.2.2.2.2)) hHeld ?_
  try simp only [Act.put, List.getElem_toArray, List.getElem_cons_succ, List.getElem_cons_zero, List.setIfInBounds_toArray, List.set_cons_zero, List.set_cons_succ]
  refine wpAnyH_take (i := 4) (v := ?v3) rfl (by kernel_rfl) (by kernel_rfl) (by kernel_rfl) (fun _ _ _ h => h) (Or.inl ⟨by rfl, ?hy3⟩) hHeld ?rest3
  case hy3 =>
    intro w' hSw
    try dsimp only at hSw
    go_simp
    first | done | with_reducible rfl
  try simp only [Act.put, List.getElem_toArray, List.getElem_cons_succ, List.getElem_cons_zero, List.setIfInBounds_toArray, List.set_cons_zero, List.set_cons_succ]
  refine wpAnyH_take (i := 5) (v := ?v4) rfl (by kernel_rfl) (by kernel_rfl) (by kernel_rfl) (fun _ _ _ h => h) (Or.inl ⟨by rfl, ?hy4⟩) hHeld ?rest4
  case hy4 =>
    intro w' hSw
    try dsimp only at hSw
    go_simp
    first | done | with_reducible rfl
  try simp only [Act.put, List.getElem_toArray, List.getElem_cons_succ, List.getElem_cons_zero, List.setIfInBounds_toArray, List.set_cons_zero, List.set_cons_succ]
  refine wpAnyH_take (i := 6) (v := ?v5) rfl (by kernel_rfl) (by kernel_rfl) (by kernel_rfl) (fun _ _ _ h => h) (Or.inl ⟨by rfl, ?hy5⟩) hHeld ?rest5
  case hy5 =>
    intro w' hSw
    try dsimp only at hSw
    go_simp
    first | done | with_reducible rfl
  try simp only [Act.put, List.getElem_toArray, List.getElem_cons_succ, List.getElem_cons_zero, List.setIfInBounds_toArray, List.set_cons_zero, List.set_cons_succ]
  refine wpAnyH_take (i := 7) rfl (by kernel_rfl) (by kernel_rfl) (by kernel_rfl) (fun _ _ _ h => h) (y_kyeq_of (by rfl) (by rfl) x y q HQ.out (by rfl) (by rfl)) hHeld ?_
  try simp only [Act.put, List.getElem_toArray, List.getElem_cons_succ, List.getElem_cons_zero, List.setIfInBounds_toArray, List.set_cons_zero, List.set_cons_succ]
  refine wpAnyH_take (i := 8) (v := ?v6) rfl (by kernel_rfl) (by kernel_rfl) (by kernel_rfl) (fun _ _ _ h => h) (Or.inl ⟨by rfl, ?hy6⟩) hHeld ?rest6
  case hy6 =>
    intro w' hSw
    try dsimp only at hSw
    go_simp
    first | done | with_reducible rfl
  try simp only [Act.put, List.getElem_toArray, List.getElem_cons_succ, List.getElem_cons_zero, List.setIfInBounds_toArray, List.set_cons_zero, List.set_cons_succ]
  refine wpAnyH_take (i := 9) (v := ?v7) rfl (by kernel_rfl) (by kernel_rfl) (by kernel_rfl) (fun _ _ _ h => h) (Or.inl ⟨by rfl, ?hy7⟩) hHeld ?rest7
  case hy7 =>
    intro w' hSw
    try dsimp only at hSw
    go_simp
    first | done | with_reducible rfl
  try simp only [Act.put, List.getElem_toArray, List.getElem_cons_succ, List.getElem_cons_zero, List.setIfInBounds_toArray, List.set_cons_zero, List.set_cons_succ]
  refine wpAnyH_take (i := 10) (v := ?v8) rfl (by kernel_rfl) (by kernel_rfl) (by kernel_rfl) (fun _ _ _ h => h) (Or.inl ⟨by rfl, ?hy8⟩) hHeld ?rest8
  case hy8 =>
    intro w' hSw
    try dsimp only at hSw
    go_simp
    first | done | with_reducible rfl
  try simp only [Act.put, List.getElem_toArray, List.getElem_cons_succ, List.getElem_cons_zero, List.setIfInBounds_toArray, List.set_cons_zero, List.set_cons_succ]
  refine wpAnyH_take (i := 11) (v := ?v9) rfl (by kernel_rfl) (by kernel_rfl) (by kernel_rfl) (fun _ _ _ h => h) (Or.inl ⟨by rfl, ?hy9⟩) hHeld ?rest9
  case hy9 =>
    intro w' hSw
    try dsimp only at hSw
    go_simp
    first | done | with_reducible rfl
  try simp only [Act.put, List.getElem_toArray, List.getElem_cons_succ, List.getElem_cons_zero, List.setIfInBounds_toArray, List.set_cons_zero, List.set_cons_succ]
  refine wpAnyH_take (i := 12) rfl (by kernel_rfl) (by kernel_rfl) (by kernel_rfl) (fun _ _ _ h => h) (y_kyeq_of (by rfl) (by rfl) x x true (decide_eq_true rfl) (by rfl) (by rfl)) hHeld ?_
  try simp only [Act.put, List.getElem_toArray, List.getElem_cons_succ, List.getElem_cons_zero, List.setIfInBounds_toArray, List.set_cons_zero, List.set_cons_succ]
  refine wpAnyH_take (i := 13) (v := ?v10) rfl (by kernel_rfl) (by kernel_rfl) (by kernel_rfl) (fun _ _ _ h => h) (Or.inl ⟨by rfl, ?hy10⟩) hHeld ?rest10
  case hy10 =>
    intro w' hSw
    try dsimp only at hSw
    go_simp
    first | done | with_reducible rfl
  try simp only [Act.put, List.getElem_toArray, List.getElem_cons_succ, List.getElem_cons_zero, List.setIfInBounds_toArray, List.set_cons_zero, List.set_cons_succ]
  refine wpAnyH_take (i := 14) (v := ?v11) rfl (by kernel_rfl) (by kernel_rfl) (by kernel_rfl) (fun _ _ _ h => h) (Or.inl ⟨by rfl, ?hy11⟩) hHeld ?rest11
  case hy11 =>
    intro w' hSw
    try dsimp only at hSw
    go_simp
    first | done | with_reducible rfl
  try simp only [Act.put, List.getElem_toArray, List.getElem_cons_succ, List.getElem_cons_zero, List.setIfInBounds_toArray, List.set_cons_zero, List.set_cons_succ]
  refine wpAnyH_take (i := 15) (v := ?v12) rfl (by kernel_rfl) (by kernel_rfl) (by kernel_rfl) (fun _ _ _ h => h) (Or.inl ⟨by rfl, ?hy12⟩) hHeld ?rest12
  case hy12 =>
    intro w' hSw
    try dsimp only at hSw
    go_simp
    first | done | with_reducible rfl
  try simp only [Act.put, List.getElem_toArray, List.getElem_cons_succ, List.getElem_cons_zero, List.setIfInBounds_toArray, List.set_cons_zero, List.set_cons_succ]
  refine wpAnyH_ready (rs := [16]) (by kernel_rfl) (by simp) ?_
  refine AllReadyH.cons (by rfl) (fun K hK => ?_) AllReadyH.nil
  go_simp
  refine (cnum_any _ _).mono ?_
  rintro e y1 ⟨rfl, rfl⟩
  clear hHeld
  go_wp2_with fail
  refine hK.out _ _ ⟨Blk.six (Blk.drew X3.out), Blk.six (Blk.drew Y3.out), Blk.six (Blk.drew Z3.out), R4.out.drew, R5.out.drew⟩ (fun hHeld => ?_)
  clear hK K
  try simp only [Act.put, List.getElem_toArray, List.getElem_cons_succ, List.getElem_cons_zero, List.setIfInBounds_toArray, List.set_cons_zero, List.set_cons_succ]
  refine wpAnyH_take (i := 17) (v := ?v13) rfl (by kernel_rfl) (by kernel_rfl) (by kernel_rfl) (fun _ _ _ h => h) (Or.inl ⟨by rfl, ?hy13⟩) hHeld ?rest13
  case hy13 =>
    intro w' hSw
    try dsimp only at hSw
    go_simp
    first | done | with_reducible rfl
  try simp only [Act.put, List.getElem_toArray, List.getElem_cons_succ, List.getElem_cons_zero, List.setIfInBounds_toArray, List.set_cons_zero, List.set_cons_succ]
  refine wpAnyH_take (i := 18) (v := ?v14) rfl (by kernel_rfl) (by kernel_rfl) (by kernel_rfl) (fun _ _ _ h => h) (Or.inl ⟨by rfl, ?hy14⟩) hHeld ?rest14
  case hy14 =>
    intro w' hSw
    try dsimp only at hSw
    go_simp
    first | done | with_reducible rfl
  try simp only [Act.put, List.getElem_toArray, List.getElem_cons_succ, List.getElem_cons_zero, List.setIfInBounds_toArray, List.set_cons_zero, List.set_cons_succ]
  refine wpAnyH_take (i := 19) (v := ?v15) rfl (by kernel_rfl) (by kernel_rfl) (by kernel_rfl) (fun _ _ _ h => h) (Or.inl ⟨by rfl, ?hy15⟩) hHeld ?rest15
  case hy15 =>
    intro w' hSw
    try dsimp only at hSw
    go_simp
    first | done | with_reducible rfl
  try simp only [Act.put, List.getElem_toArray, List.getElem_cons_succ, List.getElem_cons_zero, List.setIfInBounds_toArray, List.set_cons_zero, List.set_cons_succ]
  refine wpAnyH_ready (rs := [20]) (by kernel_rfl) (by simp) ?_
  refine AllReadyH.cons (by rfl) (fun K hK => ?_) AllReadyH.nil
  go_simp
  refine (works_any _ T3.out.drew).mono ?_
  rintro e y2 ⟨rfl, b2⟩
  have B9 := Lib.hid (B3.out.drew.trans (b2.mono B3.out.size))
  have X9 := Lib.hid (Blk.keep (Blk.drew X3.out) b2)
  have Y9 := Lib.hid (Blk.keep (Blk.drew Y3.out) b2)
  have Z9 := Lib.hid (Blk.keep (Blk.drew Z3.out) b2)
  have R8 := Lib.hid (R4.out.drew.below b2)
  have R9 := Lib.hid (R5.out.drew.below b2)
  clear b2 hHeld
  go_wp2_with fail
  refine hK.out _ _ ⟨Blk.six X9.out, Blk.six Y9.out, Blk.six Z9.out, R8.out, R9.out⟩ (fun hHeld => ?_)
  clear hK K
  try simp only [Act.put, List.getElem_toArray, List.getElem_cons_succ, List.getElem_cons_zero, List.setIfInBounds_toArray, List.set_cons_zero, List.set_cons_succ]
  refine wpAnyH_take (i := 21) (v := ?v16) rfl (by kernel_rfl) (by kernel_rfl) (by kernel_rfl) (fun _ _ _ h => h) (Or.inl ⟨by rfl, ?hy16⟩) hHeld ?rest16
  case hy16 =>
    intro w' hSw
    try dsimp only at hSw
    go_simp
    first | done | with_reducible rfl
  try simp only [Act.put, List.getElem_toArray, List.getElem_cons_succ, List.getElem_cons_zero, List.setIfInBounds_toArray, List.set_cons_zero, List.set_cons_succ]
  refine wpAnyH_take (i := 22) (v := ?v17) rfl (by kernel_rfl) (by kernel_rfl) (by kernel_rfl) (fun _ _ _ h => h) (Or.inl ⟨by rfl, ?hy17⟩) hHeld ?rest17
  case hy17 =>
    intro w' hSw
    try dsimp only at hSw
    go_simp
    first | done | with_reducible rfl
  try simp only [Act.put, List.getElem_toArray, List.getElem_cons_succ, List.getElem_cons_zero, List.setIfInBounds_toArray, List.set_cons_zero, List.set_cons_succ]
  refine wpAnyH_done (by kernel_rfl) ?_ _
  refine OnlyN.normal ?_
  clear hHeld
  go_wp2
  go_ret
  exact ⟨rfl, B9.out⟩
set_option maxRecDepth 8000 in
theorem walk (w : World) (hL : laidMetH Tryd.prog laidK w) (x : Ky) (hx : x.vb) (y : Ky) (hy : y.vb) :
    Calls Tryd.prog 8 #[x.val, y.val] w fun e w' => e = .returned (.bool true) ∧ Below w.heap.size w w' := by
  have hT := tab_of hL
  by_cases h1 : x.ok
  · have f1 := fit_of h1 hx.1 hx.2
    by_cases h2 : y.ok
    · have f2 := fit_of h2 hy.1 hy.2
      by_cases he : x = y
      · exact walk_yy w hT x y ⟨⟨h1, f1⟩, ⟨h2, f2⟩⟩ true (decide_eq_true he) (st_beq (by rw [he]))
      · refine walk_yy w hT x y ⟨⟨h1, f1⟩, ⟨h2, f2⟩⟩ false (decide_eq_false he) (st_bne fun hk => he ?_)
        rw [← kof_kbs0 f1, ← kof_kbs0 f2, hk]
    · exact walk_yn w hT x y ⟨⟨h1, f1⟩, h2⟩
  · by_cases h2 : y.ok
    · exact walk_ny w hT x y ⟨h1, ⟨h2, fit_of h2 hy.1 hy.2⟩⟩
    · exact walk_nn w hT x y ⟨h1, h2⟩
set_option maxRecDepth 100000 in
theorem lifted (os : Os) (started : os.Started) (H : Type) (enc : TypeId × Value → H) :
    ReturnsInHanded {} Tryd.checked os 8 .any (fun w args => (Rows.codecKeysSpec.pre enc Tryd.prog Tryd.f8 [] false w args ∧ laidMetH Tryd.prog laidK w) ∧ sizedMet enc Tryd.prog Tryd.f8 (OpenSpec.ofChange Rows.codecKeysSpec) false w args) (Rows.codecKeysSpec.post enc Tryd.prog Tryd.f8 false true false false) := by
  refine returnsInHanded_of_change_and (C := Tryd.checked) (X := fun w _ => laidMetH Tryd.prog laidK w) (fun _ _ _ hh h => h.of_heap hh) own started (by kernel_rfl) Tryd.func8
    (ChangeSpec.witness_shaped (enc := enc) (C := Tryd.checked) (os := os) (X := fun w _ => laidMetH Tryd.prog laidK w) false (World.doorLaid Tryd.prog 40 os) #[.agg #[.int .i64 0, .int .i64 0, .int .i64 0, .int .i64 0, .int .i64 0, .int .i64 0], .agg #[.int .i64 0, .int .i64 0, .int .i64 0, .int .i64 0, .int .i64 0, .int .i64 0]] 8 rfl (World.shaped_of_RefB (by kernel_rfl) (by kernel_rfl)) (by kernel_rfl) (by kernel_rfl) (by kernel_rfl) (door_met os _)) ?_
  intro W base args ds gs before hval0 hW _ _ hL _
  have hval : ∀ (j : Nat) t v, Tryd.f8.params[j]? = some t → args[j]? = some v → Value.okWide Tryd.prog W .any base t v := hval0
  have hW' := hW
  obtain ⟨p, q, hA0, hV, rfl, hfz, hnd⟩ := hW
  have hA : DataW.TrodAll enc Tryd.prog W 0 (fun _ => true) true Tryd.f8.params.toList args.toList ds p := hA0
  rw [Tryd.params8] at hA hval
  obtain ⟨v0, vs0, d0, ds0, p0, q0, hargs, rfl, rfl, h0, t0⟩ := trodAll_cons hA
  obtain ⟨v1, vs1, d1, ds1, p1, q1, rfl, rfl, rfl, h1, t1⟩ := trodAll_cons t0
  obtain ⟨rfl, rfl, rfl⟩ := trodAll_nil t1
  obtain rfl : args = #[v0, v1] := by cases args; simp_all
  obtain ⟨rfl, rfl⟩ := trodVars_none hV
  have k0 := h0
  have lt0 : ∀ x ∈ p0, x.block < W.heap.size := by obtain ⟨m, hm⟩ := k0; exact DataW.trod_lt m _ _ _ hm
  obtain ⟨x0, rfl, hx0⟩ := open_keyv (hval 0 25 v0 rfl rfl) h0
  have k1 := h1
  have lt1 : ∀ x ∈ p1, x.block < W.heap.size := by obtain ⟨m, hm⟩ := k1; exact DataW.trod_lt m _ _ _ hm
  obtain ⟨x1, rfl, hx1⟩ := open_keyv (hval 1 25 v1 rfl rfl) h1
  clear hA0 hval0
  refine (walk W hL x0 hx0 x1 hx1).mono fun e W' ⟨he, bel⟩ => ?_
  subst he
  exact ⟨_, rfl, _, _, _, [], _, [], hW', trodAll_mk1 (shut_bool Tryd.underlying4 _), (trodAll_cons_mk (Below.trod laidOut (by kernel_rfl) (of_decide_eq_true (by kernel_rfl)) k0 bel lt0) (trodAll_cons_mk (Below.trod laidOut (by kernel_rfl) (of_decide_eq_true (by kernel_rfl)) k1 bel lt1) trodAll_mk0)), rfl, bel.frame _, fun h => by cases h⟩
theorem over : Rows.codecKeysRow.holds Tryd.pinned (OpenSpec.ofChange Rows.codecKeysSpec) :=
  OpenClaim.holds_of_wide 8 Tryd.f8 rfl rfl rfl rfl rfl rfl rfl ⟨rfl, rfl, rfl, rfl, rfl⟩ rfl rfl rfl rfl rfl (by kernel_rfl) Tryd.func8 (by kernel_rfl)
    (of_decide_eq_true (by kernel_rfl)) (by unfold Func.isWrapper; first | (rw [if_pos (by decide +kernel)]; kernel_rfl) | (rw [if_neg (by decide +kernel)]; exact ⟨rfl, rfl⟩))
    (fun os started H enc _ => lifted os started H enc)
set_option maxRecDepth 8000 in
theorem proved : Rows.CodecKeysCardSaid :=
  Claim7.holds_tied_plain_at .later [] [.data] true Rows.codecKeysCard.stood.harness true
    over (fun _ h => by cases h) (by kernel_rfl) (fun _ h => by cases h) codecKeys_row_tie rfl ⟨rfl, rfl⟩ (by kernel_rfl) rfl
    (fun f fn hf hfn => by
      obtain rfl : f = 8 := Option.some.inj ((show Tryd.prog.funcNamed "chatelaine/chatelainelaw05.CodecKeys" = some 8 by kernel_rfl).symm.trans hf) |>.symm
      obtain rfl : fn = Tryd.f8 := (Option.some.inj (Tryd.func8.symm.trans hfn)).symm
      exact ⟨by kernel_rfl, fun j t ht => by
        rw [Tryd.params8] at ht
        have hm : t ∈ [25, 25] := by simpa using Array.mem_of_getElem? ht
        have hall : ([25, 25].all fun u => !Tryd.prog.wantsStandIn u) = true := by kernel_rfl
        exact (show Tryd.prog.wantsStandIn t = false by simpa using List.all_eq_true.1 hall t hm)⟩)
    (by kernel_rfl)
end Go.Proofs.YtmfphiljhllaeaaDoor.codecKeys

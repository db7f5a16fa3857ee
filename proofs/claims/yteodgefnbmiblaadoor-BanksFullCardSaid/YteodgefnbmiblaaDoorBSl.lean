/- banks: Split. -/
import Derived.Test.YteodgefnbmiblaaDoorBTr
namespace Go.Proofs.YteodgefnbmiblaaDoor
open Go.RowKit
section
variable {w : World} {base p : Nat} {A : Option Addr} {cap : Nat} {ps : List Nat} {os : List Oj}
set_option maxRecDepth 100000 in
set_option maxHeartbeats 4000000 in
theorem cl_split_low {w : World} (p : Nat) (x : Int) (u : Oj) (N : Nat) (n : Int) (hNc : w.cell? ⟨N, 0, none⟩ = some (.int .i64 n)) (h1 : n < 1) :
    Calls Tryd.prog 32 #[bkv p x u, .pointer (some ⟨N, 0, none⟩)] w fun e w' => e = .panicked (erc 4) ∧ Below w.heap.size w w' := by
  have d1 : decide (n < 1) = true := decide_eq_true h1
  have hmf : ∀ (fn : Fn) (first cap : Array Value) (w : World), (Instr.makeFunc fn first cap).run Tryd.prog w = .ok (.func fn first cap) w := fun _ _ _ _ => rfl
  have hbl := bkc_len p x u
  have HB0 := Lib.hid (show Below w.heap.size w ((w.alloc (.cells (bkc p x u).toArray 78)).alloc (.cells #[.int .i64 0, .int .i64 0, .int .i64 0, .int .i64 0, .int .i64 0, .int .i64 0] 33)) from ((Below.refl w.heap.size w).alloc (Nat.le_refl _) (.cells (bkc p x u).toArray 78)).alloc (by simp) (.cells #[.int .i64 0, .int .i64 0, .int .i64 0, .int .i64 0, .int .i64 0, .int .i64 0] 33))
  have HK0 := Lib.hid (show Blk ((w.alloc (.cells (bkc p x u).toArray 78)).alloc (.cells #[.int .i64 0, .int .i64 0, .int .i64 0, .int .i64 0, .int .i64 0, .int .i64 0] 33)) w.heap.size 78 (bkc p x u).toArray from (Blk.new w _ _).alloc _)
  have HZ0 := Lib.hid (show Blk ((w.alloc (.cells (bkc p x u).toArray 78)).alloc (.cells #[.int .i64 0, .int .i64 0, .int .i64 0, .int .i64 0, .int .i64 0, .int .i64 0] 33)) (w.heap.size + 1) 33 (kl zk).toArray from Blk.new_of _ _ (kl zk).toArray (by simp))
  have HN0 : Hid ((((w.alloc (.cells (bkc p x u).toArray 78)).alloc (.cells #[.int .i64 0, .int .i64 0, .int .i64 0, .int .i64 0, .int .i64 0, .int .i64 0] 33))).cell? ⟨N, 0, none⟩ = some (.int .i64 n)) := Lib.hid ((HB0.out.cell (World.block_lt_of_cell? w _ hNc)).trans hNc)
  clear hNc h1
  go_enter Tryd.func32, Tryd.ntmps32
  go_wp2
  generalize ((w.alloc (.cells (bkc p x u).toArray 78)).alloc (.cells #[.int .i64 0, .int .i64 0, .int .i64 0, .int .i64 0, .int .i64 0, .int .i64 0] 33)) = W2 at HB0 HK0 HZ0 HN0 ⊢
  refine wp_region_only (S := fun w' => BkAt w' w.heap.size 0 p x u ∧ w'.cell? ⟨N, 0, none⟩ = some (.int .i64 n)) (by kernel_rfl) ⟨HK0.out.drew.bk, HN0.out⟩ (fun hHeld => ?_)
  refine wpAnyH_take (i := 0) (v := ?v1) rfl (by kernel_rfl) (by kernel_rfl) (by kernel_rfl) (fun _ _ _ h => h) (Or.inl ⟨by rfl, ?hy1⟩) hHeld ?rest1
  case hy1 =>
    intro w' hSw
    try dsimp only at hSw
    go_simp
    first | done | with_reducible rfl
  try simp only [Act.put, List.getElem_toArray, List.getElem_cons_zero, List.setIfInBounds_toArray, List.set_cons_zero, List.set_cons_succ]
  refine wpAnyH_take (i := 1) (v := ?v2) rfl (by kernel_rfl) (by kernel_rfl) (by kernel_rfl) (fun _ _ _ h => h) (Or.inl ⟨by rfl, ?hy2⟩) hHeld ?rest2
  case hy2 =>
    intro w' hSw
    try dsimp only at hSw
    go_simp
    first | done | with_reducible rfl
  try simp only [Act.put, List.getElem_toArray, List.getElem_cons_succ, List.getElem_cons_zero, List.setIfInBounds_toArray, List.set_cons_zero, List.set_cons_succ]
  refine wpAnyH_take (i := 2) (v := ?v3) rfl (by kernel_rfl) (by kernel_rfl) (by kernel_rfl) (fun _ _ _ h => h) (Or.inl ⟨by rfl, ?hy3⟩) hHeld ?rest3
  case hy3 =>
    intro w' hSw
    try dsimp only at hSw
    go_simp
    first | done | with_reducible rfl
  try simp only [Act.put, List.getElem_toArray, List.getElem_cons_succ, List.getElem_cons_zero, List.setIfInBounds_toArray, List.set_cons_zero, List.set_cons_succ]
  refine wpAnyH_take (i := 3) (v := undef) rfl (by kernel_rfl) (by kernel_rfl) (by kernel_rfl) (fun _ _ _ h => h) (Or.inr ⟨by rfl, rfl⟩) hHeld ?_
  try simp only [Act.put, List.getElem_toArray, List.getElem_cons_succ, List.getElem_cons_zero, List.setIfInBounds_toArray, List.set_cons_zero, List.set_cons_succ]
  refine wpAnyH_take (i := 4) (v := undef) rfl (by kernel_rfl) (by kernel_rfl) (by kernel_rfl) (fun _ _ _ h => h) (Or.inr ⟨by rfl, rfl⟩) hHeld ?_
  try simp only [Act.put, List.getElem_toArray, List.getElem_cons_succ, List.getElem_cons_zero, List.setIfInBounds_toArray, List.set_cons_zero, List.set_cons_succ]
  refine wpAnyH_take (i := 5) (v := undef) rfl (by kernel_rfl) (by kernel_rfl) (by kernel_rfl) (fun _ _ _ h => h) (Or.inr ⟨by rfl, rfl⟩) hHeld ?_
  try simp only [Act.put, List.getElem_toArray, List.getElem_cons_succ, List.getElem_cons_zero, List.setIfInBounds_toArray, List.set_cons_zero, List.set_cons_succ]
  refine wpAnyH_take (i := 6) (v := undef) rfl (by kernel_rfl) (by kernel_rfl) (by kernel_rfl) (fun _ _ _ h => h) (Or.inr ⟨by rfl, rfl⟩) hHeld ?_
  try simp only [Act.put, List.getElem_toArray, List.getElem_cons_succ, List.getElem_cons_zero, List.setIfInBounds_toArray, List.set_cons_zero, List.set_cons_succ]
  refine wpAnyH_take (i := 7) (v := undef) rfl (by kernel_rfl) (by kernel_rfl) (by kernel_rfl) (fun _ _ _ h => h) (Or.inr ⟨by rfl, rfl⟩) hHeld ?_
  try simp only [Act.put, List.getElem_toArray, List.getElem_cons_succ, List.getElem_cons_zero, List.setIfInBounds_toArray, List.set_cons_zero, List.set_cons_succ]
  refine wpAnyH_take (i := 8) (v := undef) rfl (by kernel_rfl) (by kernel_rfl) (by kernel_rfl) (fun _ _ _ h => h) (Or.inr ⟨by rfl, rfl⟩) hHeld ?_
  try simp only [Act.put, List.getElem_toArray, List.getElem_cons_succ, List.getElem_cons_zero, List.setIfInBounds_toArray, List.set_cons_zero, List.set_cons_succ]
  refine wpAnyH_take (i := 9) (v := undef) rfl (by kernel_rfl) (by kernel_rfl) (by kernel_rfl) (fun _ _ _ h => h) (Or.inr ⟨by rfl, rfl⟩) hHeld ?_
  try simp only [Act.put, List.getElem_toArray, List.getElem_cons_succ, List.getElem_cons_zero, List.setIfInBounds_toArray, List.set_cons_zero, List.set_cons_succ]
  refine wpAnyH_take (i := 10) (v := ?v4) rfl (by kernel_rfl) (by kernel_rfl) (by kernel_rfl) (fun _ _ _ h => h) (Or.inl ⟨by rfl, ?hy4⟩) hHeld ?rest4
  case hy4 =>
    intro w' hSw
    try dsimp only at hSw
    go_simp
    first | done | with_reducible rfl
  try simp only [Act.put, List.getElem_toArray, List.getElem_cons_succ, List.getElem_cons_zero, List.setIfInBounds_toArray, List.set_cons_zero, List.set_cons_succ]
  refine wpAnyH_done (by kernel_rfl) ?_ _
  refine OnlyN.normal ?_
  go_wp2_with fail
  exact ⟨rfl, rfl, below_drew HB0.out⟩
set_option maxRecDepth 100000 in
set_option maxHeartbeats 4000000 in
theorem cl_split_high {w : World} (p : Nat) (x : Int) (u : Oj) (N : Nat) (n : Int) (hNc : w.cell? ⟨N, 0, none⟩ = some (.int .i64 n)) (h1 : ¬ n < 1) (a b : Nat) (ha : (sl0 u).v = (a : Int)) (hb : (sl1 u).v = (b : Int)) (hab : a ≤ b) (hb64 : b < 64) (h2 : (b : Int) - (a : Int) < n) :
    Calls Tryd.prog 32 #[bkv p x u, .pointer (some ⟨N, 0, none⟩)] w fun e w' => e = .panicked (erc 4) ∧ Below w.heap.size w w' := by
  have d2 : decide ((b : Int) - (a : Int) < n) = true := decide_eq_true h2
  have d1 : decide (n < 1) = false := decide_eq_false h1
  have e8 : IntKind.i64.wrap ((b : Int) - (a : Int)) = (b : Int) - (a : Int) := IntWalk.i64_in _ (by omega)
  have HBV := Lib.hid hb
  have HAV := Lib.hid ha
  have hmf : ∀ (fn : Fn) (first cap : Array Value) (w : World), (Instr.makeFunc fn first cap).run Tryd.prog w = .ok (.func fn first cap) w := fun _ _ _ _ => rfl
  have hbl := bkc_len p x u
  have HB0 := Lib.hid (show Below w.heap.size w ((w.alloc (.cells (bkc p x u).toArray 78)).alloc (.cells #[.int .i64 0, .int .i64 0, .int .i64 0, .int .i64 0, .int .i64 0, .int .i64 0] 33)) from ((Below.refl w.heap.size w).alloc (Nat.le_refl _) (.cells (bkc p x u).toArray 78)).alloc (by simp) (.cells #[.int .i64 0, .int .i64 0, .int .i64 0, .int .i64 0, .int .i64 0, .int .i64 0] 33))
  have HK0 := Lib.hid (show Blk ((w.alloc (.cells (bkc p x u).toArray 78)).alloc (.cells #[.int .i64 0, .int .i64 0, .int .i64 0, .int .i64 0, .int .i64 0, .int .i64 0] 33)) w.heap.size 78 (bkc p x u).toArray from (Blk.new w _ _).alloc _)
  have HZ0 := Lib.hid (show Blk ((w.alloc (.cells (bkc p x u).toArray 78)).alloc (.cells #[.int .i64 0, .int .i64 0, .int .i64 0, .int .i64 0, .int .i64 0, .int .i64 0] 33)) (w.heap.size + 1) 33 (kl zk).toArray from Blk.new_of _ _ (kl zk).toArray (by simp))
  have HN0 : Hid ((((w.alloc (.cells (bkc p x u).toArray 78)).alloc (.cells #[.int .i64 0, .int .i64 0, .int .i64 0, .int .i64 0, .int .i64 0, .int .i64 0] 33))).cell? ⟨N, 0, none⟩ = some (.int .i64 n)) := Lib.hid ((HB0.out.cell (World.block_lt_of_cell? w _ hNc)).trans hNc)
  clear hNc h1 h2 ha hb
  go_enter Tryd.func32, Tryd.ntmps32
  go_wp2
  generalize ((w.alloc (.cells (bkc p x u).toArray 78)).alloc (.cells #[.int .i64 0, .int .i64 0, .int .i64 0, .int .i64 0, .int .i64 0, .int .i64 0] 33)) = W2 at HB0 HK0 HZ0 HN0 ⊢
  refine wp_region_only (S := fun w' => BkAt w' w.heap.size 0 p x u ∧ w'.cell? ⟨N, 0, none⟩ = some (.int .i64 n)) (by kernel_rfl) ⟨HK0.out.drew.bk, HN0.out⟩ (fun hHeld => ?_)
  refine wpAnyH_take (i := 0) (v := ?v5) rfl (by kernel_rfl) (by kernel_rfl) (by kernel_rfl) (fun _ _ _ h => h) (Or.inl ⟨by rfl, ?hy5⟩) hHeld ?rest5
  case hy5 =>
    intro w' hSw
    try dsimp only at hSw
    go_simp
    first | done | with_reducible rfl
  try simp only [Act.put, List.getElem_toArray, List.getElem_cons_zero, List.setIfInBounds_toArray, List.set_cons_zero, List.set_cons_succ]
  refine wpAnyH_take (i := 1) (v := ?v6) rfl (by kernel_rfl) (by kernel_rfl) (by kernel_rfl) (fun _ _ _ h => h) (Or.inl ⟨by rfl, ?hy6⟩) hHeld ?rest6
  case hy6 =>
    intro w' hSw
    try dsimp only at hSw
    go_simp
    first | done | with_reducible rfl
  try simp only [Act.put, List.getElem_toArray, List.getElem_cons_succ, List.getElem_cons_zero, List.setIfInBounds_toArray, List.set_cons_zero, List.set_cons_succ]
  refine wpAnyH_take (i := 2) (v := ?v7) rfl (by kernel_rfl) (by kernel_rfl) (by kernel_rfl) (fun _ _ _ h => h) (Or.inl ⟨by rfl, ?hy7⟩) hHeld ?rest7
  case hy7 =>
    intro w' hSw
    try dsimp only at hSw
    go_simp
    first | done | with_reducible rfl
  try simp only [Act.put, List.getElem_toArray, List.getElem_cons_succ, List.getElem_cons_zero, List.setIfInBounds_toArray, List.set_cons_zero, List.set_cons_succ]
  refine wpAnyH_take (i := 3) (v := ?v8) rfl (by kernel_rfl) (by kernel_rfl) (by kernel_rfl) (fun _ _ _ h => h) (Or.inl ⟨by rfl, ?hy8⟩) hHeld ?rest8
  case hy8 =>
    intro w' hSw
    try dsimp only at hSw
    go_simp
    first | done | with_reducible rfl
  try simp only [Act.put, List.getElem_toArray, List.getElem_cons_succ, List.getElem_cons_zero, List.setIfInBounds_toArray, List.set_cons_zero, List.set_cons_succ]
  refine wpAnyH_take (i := 4) rfl (by kernel_rfl) (by kernel_rfl) (by kernel_rfl) (fun _ _ _ h => h) (y_bk (by rfl) (.tmp 2) (by rfl) w.heap.size 0 (by rfl) p x u (fun _ h => h.1)) hHeld ?_
  try simp only [Act.put, List.getElem_toArray, List.getElem_cons_succ, List.getElem_cons_zero, List.setIfInBounds_toArray, List.set_cons_zero, List.set_cons_succ]
  refine wpAnyH_take (i := 6) rfl (by kernel_rfl) (by kernel_rfl) (by kernel_rfl) (fun _ _ _ h => h) (y_bk (by rfl) (.tmp 2) (by rfl) w.heap.size 0 (by rfl) p x u (fun _ h => h.1)) hHeld ?_
  try simp only [Act.put, List.getElem_toArray, List.getElem_cons_succ, List.getElem_cons_zero, List.setIfInBounds_toArray, List.set_cons_zero, List.set_cons_succ]
  refine wpAnyH_ready (rs := [5]) (by kernel_rfl) (by simp) ?_
  refine AllReadyH.cons (by rfl) (fun K hK => ?_) AllReadyH.nil
  go_simp
  refine (last_eq p x u _ HBV.out).mono ?_
  rintro e_ w1 ⟨rfl, b_⟩
  have HB1 := Lib.hid ((below_drew HB0.out).trans (b_.mono (below_drew HB0.out).size))
  have HK1 := Lib.hid ((HK0.out.drew).keep b_)
  have HZ1 := Lib.hid ((HZ0.out.drew).keep b_)
  have HN1 : Hid (w1.cell? ⟨N, 0, none⟩ = some (.int .i64 n)) := Lib.hid ((b_.cell (World.block_lt_of_cell? _ _ HN0.out)).trans HN0.out)
  clear b_ hHeld
  go_wp2_with fail
  refine hK.out _ _ ⟨HK1.out.bk, HN1.out⟩ (fun hHeld => ?_)
  clear hK K
  try simp only [Act.put, List.getElem_toArray, List.getElem_cons_succ, List.getElem_cons_zero, List.setIfInBounds_toArray, List.set_cons_zero, List.set_cons_succ]
  refine wpAnyH_ready (rs := [7]) (by kernel_rfl) (by simp) ?_
  refine AllReadyH.cons (by rfl) (fun K hK => ?_) AllReadyH.nil
  go_simp
  refine (first_eq p x u _ HAV.out).mono ?_
  rintro e_ w2 ⟨rfl, b_⟩
  have HB2 := Lib.hid (HB1.out.trans (b_.mono HB1.out.size))
  have HK2 := Lib.hid ((HK1.out).keep b_)
  have HZ2 := Lib.hid ((HZ1.out).keep b_)
  have HN2 : Hid (w2.cell? ⟨N, 0, none⟩ = some (.int .i64 n)) := Lib.hid ((b_.cell (World.block_lt_of_cell? _ _ HN1.out)).trans HN1.out)
  clear b_ hHeld
  go_wp2_with fail
  refine hK.out _ _ ⟨HK2.out.bk, HN2.out⟩ (fun hHeld => ?_)
  clear hK K
  try simp only [Act.put, List.getElem_toArray, List.getElem_cons_succ, List.getElem_cons_zero, List.setIfInBounds_toArray, List.set_cons_zero, List.set_cons_succ]
  refine wpAnyH_take (i := 8) (v := ?v9) rfl (by kernel_rfl) (by kernel_rfl) (by kernel_rfl) (fun _ _ _ h => h) (Or.inl ⟨by rfl, ?hy9⟩) hHeld ?rest9
  case hy9 =>
    intro w' hSw
    try dsimp only at hSw
    go_simp
    first | done | with_reducible rfl
  try simp only [Act.put, List.getElem_toArray, List.getElem_cons_succ, List.getElem_cons_zero, List.setIfInBounds_toArray, List.set_cons_zero, List.set_cons_succ]
  refine wpAnyH_take (i := 9) (v := ?v10) rfl (by kernel_rfl) (by kernel_rfl) (by kernel_rfl) (fun _ _ _ h => h) (Or.inl ⟨by rfl, ?hy10⟩) hHeld ?rest10
  case hy10 =>
    intro w' hSw
    try dsimp only at hSw
    go_simp
    first | done | with_reducible rfl
  try simp only [Act.put, List.getElem_toArray, List.getElem_cons_succ, List.getElem_cons_zero, List.setIfInBounds_toArray, List.set_cons_zero, List.set_cons_succ]
  refine wpAnyH_take (i := 10) (v := ?v11) rfl (by kernel_rfl) (by kernel_rfl) (by kernel_rfl) (fun _ _ _ h => h) (Or.inl ⟨by rfl, ?hy11⟩) hHeld ?rest11
  case hy11 =>
    intro w' hSw
    try dsimp only at hSw
    go_simp
    first | done | with_reducible rfl
  try simp only [Act.put, List.getElem_toArray, List.getElem_cons_succ, List.getElem_cons_zero, List.setIfInBounds_toArray, List.set_cons_zero, List.set_cons_succ]
  refine wpAnyH_done (by kernel_rfl) ?_ _
  refine OnlyN.normal ?_
  go_wp2_with fail
  exact ⟨rfl, rfl, HB2.out⟩
set_option maxRecDepth 100000 in
set_option maxHeartbeats 4000000 in
theorem cl_split_no (m : Int) (h : StAt w base p A cap ps os) (L : List Oj) (x : Int) (u : Oj) (N : Nat) (n : Int) (hNc : w.cell? ⟨N, 0, none⟩ = some (.int .i64 n)) (h1 : ¬ n < 1) (a b : Nat) (ha : (sl0 u).v = (a : Int)) (hb : (sl1 u).v = (b : Int)) (hab : a ≤ b) (hb64 : b < 64) (h2 : ¬ (b : Int) - (a : Int) < n) (hC : ∀ W, Below w.heap.size w W → W.cell? ⟨N, 0, none⟩ = some (.int .i64 n) → Calls Tryd.prog 35 #[bkv p x u, .func (.func 36) #[] #[.pointer (some ⟨N, 0, none⟩)]] W fun e w' => e = .panicked (erc m) ∧ StAt w' base p A cap ps L ∧ Fr (fun k => k ∈ ps) W w') :
    Calls Tryd.prog 32 #[bkv p x u, .pointer (some ⟨N, 0, none⟩)] w fun e w' => e = .panicked (erc m) ∧ StAt w' base p A cap ps L ∧ Fr (fun k => k ∈ ps) w w' := by
  have d2 : decide ((b : Int) - (a : Int) < n) = false := decide_eq_false h2
  have d1 : decide (n < 1) = false := decide_eq_false h1
  have e8 : IntKind.i64.wrap ((b : Int) - (a : Int)) = (b : Int) - (a : Int) := IntWalk.i64_in _ (by omega)
  have HBV := Lib.hid hb
  have HAV := Lib.hid ha
  have hmf : ∀ (fn : Fn) (first cap : Array Value) (w : World), (Instr.makeFunc fn first cap).run Tryd.prog w = .ok (.func fn first cap) w := fun _ _ _ _ => rfl
  have hbl := bkc_len p x u
  have HB0 := Lib.hid (show Below w.heap.size w ((w.alloc (.cells (bkc p x u).toArray 78)).alloc (.cells #[.int .i64 0, .int .i64 0, .int .i64 0, .int .i64 0, .int .i64 0, .int .i64 0] 33)) from ((Below.refl w.heap.size w).alloc (Nat.le_refl _) (.cells (bkc p x u).toArray 78)).alloc (by simp) (.cells #[.int .i64 0, .int .i64 0, .int .i64 0, .int .i64 0, .int .i64 0, .int .i64 0] 33))
  have HK0 := Lib.hid (show Blk ((w.alloc (.cells (bkc p x u).toArray 78)).alloc (.cells #[.int .i64 0, .int .i64 0, .int .i64 0, .int .i64 0, .int .i64 0, .int .i64 0] 33)) w.heap.size 78 (bkc p x u).toArray from (Blk.new w _ _).alloc _)
  have HZ0 := Lib.hid (show Blk ((w.alloc (.cells (bkc p x u).toArray 78)).alloc (.cells #[.int .i64 0, .int .i64 0, .int .i64 0, .int .i64 0, .int .i64 0, .int .i64 0] 33)) (w.heap.size + 1) 33 (kl zk).toArray from Blk.new_of _ _ (kl zk).toArray (by simp))
  have HN0 : Hid ((((w.alloc (.cells (bkc p x u).toArray 78)).alloc (.cells #[.int .i64 0, .int .i64 0, .int .i64 0, .int .i64 0, .int .i64 0, .int .i64 0] 33))).cell? ⟨N, 0, none⟩ = some (.int .i64 n)) := Lib.hid ((HB0.out.cell (World.block_lt_of_cell? w _ hNc)).trans hNc)
  have HCC := Lib.hid hC
  have HSL := Lib.hid (fun k (hk : k ∈ ps) => (h.lt k (.inr (.inr hk))).2)
  have HP := Lib.hid (h.lt p (.inl rfl)).2
  clear hNc h1 h2 ha hb hC h
  go_enter Tryd.func32, Tryd.ntmps32
  go_wp2
  generalize ((w.alloc (.cells (bkc p x u).toArray 78)).alloc (.cells #[.int .i64 0, .int .i64 0, .int .i64 0, .int .i64 0, .int .i64 0, .int .i64 0] 33)) = W2 at HB0 HK0 HZ0 HN0 ⊢
  refine wp_region_only (S := fun w' => BkAt w' w.heap.size 0 p x u ∧ w'.cell? ⟨N, 0, none⟩ = some (.int .i64 n)) (by kernel_rfl) ⟨HK0.out.drew.bk, HN0.out⟩ (fun hHeld => ?_)
  refine wpAnyH_take (i := 0) (v := ?v5) rfl (by kernel_rfl) (by kernel_rfl) (by kernel_rfl) (fun _ _ _ h => h) (Or.inl ⟨by rfl, ?hy5⟩) hHeld ?rest5
  case hy5 =>
    intro w' hSw
    try dsimp only at hSw
    go_simp
    first | done | with_reducible rfl
  try simp only [Act.put, List.getElem_toArray, List.getElem_cons_zero, List.setIfInBounds_toArray, List.set_cons_zero, List.set_cons_succ]
  refine wpAnyH_take (i := 1) (v := ?v6) rfl (by kernel_rfl) (by kernel_rfl) (by kernel_rfl) (fun _ _ _ h => h) (Or.inl ⟨by rfl, ?hy6⟩) hHeld ?rest6
  case hy6 =>
    intro w' hSw
    try dsimp only at hSw
    go_simp
    first | done | with_reducible rfl
  try simp only [Act.put, List.getElem_toArray, List.getElem_cons_succ, List.getElem_cons_zero, List.setIfInBounds_toArray, List.set_cons_zero, List.set_cons_succ]
  refine wpAnyH_take (i := 2) (v := ?v7) rfl (by kernel_rfl) (by kernel_rfl) (by kernel_rfl) (fun _ _ _ h => h) (Or.inl ⟨by rfl, ?hy7⟩) hHeld ?rest7
  case hy7 =>
    intro w' hSw
    try dsimp only at hSw
    go_simp
    first | done | with_reducible rfl
  try simp only [Act.put, List.getElem_toArray, List.getElem_cons_succ, List.getElem_cons_zero, List.setIfInBounds_toArray, List.set_cons_zero, List.set_cons_succ]
  refine wpAnyH_take (i := 3) (v := ?v8) rfl (by kernel_rfl) (by kernel_rfl) (by kernel_rfl) (fun _ _ _ h => h) (Or.inl ⟨by rfl, ?hy8⟩) hHeld ?rest8
  case hy8 =>
    intro w' hSw
    try dsimp only at hSw
    go_simp
    first | done | with_reducible rfl
  try simp only [Act.put, List.getElem_toArray, List.getElem_cons_succ, List.getElem_cons_zero, List.setIfInBounds_toArray, List.set_cons_zero, List.set_cons_succ]
  refine wpAnyH_take (i := 4) rfl (by kernel_rfl) (by kernel_rfl) (by kernel_rfl) (fun _ _ _ h => h) (y_bk (by rfl) (.tmp 2) (by rfl) w.heap.size 0 (by rfl) p x u (fun _ h => h.1)) hHeld ?_
  try simp only [Act.put, List.getElem_toArray, List.getElem_cons_succ, List.getElem_cons_zero, List.setIfInBounds_toArray, List.set_cons_zero, List.set_cons_succ]
  refine wpAnyH_take (i := 6) rfl (by kernel_rfl) (by kernel_rfl) (by kernel_rfl) (fun _ _ _ h => h) (y_bk (by rfl) (.tmp 2) (by rfl) w.heap.size 0 (by rfl) p x u (fun _ h => h.1)) hHeld ?_
  try simp only [Act.put, List.getElem_toArray, List.getElem_cons_succ, List.getElem_cons_zero, List.setIfInBounds_toArray, List.set_cons_zero, List.set_cons_succ]
  refine wpAnyH_ready (rs := [5]) (by kernel_rfl) (by simp) ?_
  refine AllReadyH.cons (by rfl) (fun K hK => ?_) AllReadyH.nil
  go_simp
  refine (last_eq p x u _ HBV.out).mono ?_
  rintro e_ w1 ⟨rfl, b_⟩
  have HB1 := Lib.hid ((below_drew HB0.out).trans (b_.mono (below_drew HB0.out).size))
  have HK1 := Lib.hid ((HK0.out.drew).keep b_)
  have HZ1 := Lib.hid ((HZ0.out.drew).keep b_)
  have HN1 : Hid (w1.cell? ⟨N, 0, none⟩ = some (.int .i64 n)) := Lib.hid ((b_.cell (World.block_lt_of_cell? _ _ HN0.out)).trans HN0.out)
  clear b_ hHeld
  go_wp2_with fail
  refine hK.out _ _ ⟨HK1.out.bk, HN1.out⟩ (fun hHeld => ?_)
  clear hK K
  try simp only [Act.put, List.getElem_toArray, List.getElem_cons_succ, List.getElem_cons_zero, List.setIfInBounds_toArray, List.set_cons_zero, List.set_cons_succ]
  refine wpAnyH_ready (rs := [7]) (by kernel_rfl) (by simp) ?_
  refine AllReadyH.cons (by rfl) (fun K hK => ?_) AllReadyH.nil
  go_simp
  refine (first_eq p x u _ HAV.out).mono ?_
  rintro e_ w2 ⟨rfl, b_⟩
  have HB2 := Lib.hid (HB1.out.trans (b_.mono HB1.out.size))
  have HK2 := Lib.hid ((HK1.out).keep b_)
  have HZ2 := Lib.hid ((HZ1.out).keep b_)
  have HN2 : Hid (w2.cell? ⟨N, 0, none⟩ = some (.int .i64 n)) := Lib.hid ((b_.cell (World.block_lt_of_cell? _ _ HN1.out)).trans HN1.out)
  clear b_ hHeld
  go_wp2_with fail
  refine hK.out _ _ ⟨HK2.out.bk, HN2.out⟩ (fun hHeld => ?_)
  clear hK K
  try simp only [Act.put, List.getElem_toArray, List.getElem_cons_succ, List.getElem_cons_zero, List.setIfInBounds_toArray, List.set_cons_zero, List.set_cons_succ]
  refine wpAnyH_take (i := 8) (v := ?v9) rfl (by kernel_rfl) (by kernel_rfl) (by kernel_rfl) (fun _ _ _ h => h) (Or.inl ⟨by rfl, ?hy9⟩) hHeld ?rest9
  case hy9 =>
    intro w' hSw
    try dsimp only at hSw
    go_simp
    first | done | with_reducible rfl
  try simp only [Act.put, List.getElem_toArray, List.getElem_cons_succ, List.getElem_cons_zero, List.setIfInBounds_toArray, List.set_cons_zero, List.set_cons_succ]
  refine wpAnyH_take (i := 9) (v := ?v10) rfl (by kernel_rfl) (by kernel_rfl) (by kernel_rfl) (fun _ _ _ h => h) (Or.inl ⟨by rfl, ?hy10⟩) hHeld ?rest10
  case hy10 =>
    intro w' hSw
    try dsimp only at hSw
    go_simp
    first | done | with_reducible rfl
  try simp only [Act.put, List.getElem_toArray, List.getElem_cons_succ, List.getElem_cons_zero, List.setIfInBounds_toArray, List.set_cons_zero, List.set_cons_succ]
  refine wpAnyH_take (i := 10) (v := ?v11) rfl (by kernel_rfl) (by kernel_rfl) (by kernel_rfl) (fun _ _ _ h => h) (Or.inl ⟨by rfl, ?hy11⟩) hHeld ?rest11
  case hy11 =>
    intro w' hSw
    try dsimp only at hSw
    go_simp
    first | done | with_reducible rfl
  try simp only [Act.put, List.getElem_toArray, List.getElem_cons_succ, List.getElem_cons_zero, List.setIfInBounds_toArray, List.set_cons_zero, List.set_cons_succ]
  refine wpAnyH_done (by kernel_rfl) ?_ _
  refine OnlyN.normal ?_
  go_wp2_with (first
    | (show wpList _ _ _ ({ dst := some 16, op := .load _ _, type := _, pos := _, after := _, guard := _ } :: _) _ _; refine wpList_yields (S := fun w' => BkAt w' w.heap.size 0 p x u) (y_bk (by rfl) (.tmp 2) (by rfl) w.heap.size 0 (by rfl) p x u (fun _ h => h)) HK2.out.bk ?_)
    | (go_at_call 35; refine (HCC.out _ HB2.out HN2.out).mono ?_; rintro e w3 ⟨rfl, hs, hf⟩; have S3 := Lib.hid hs; have F3 := Lib.hid ((Fr.of_below HB2.out : Fr (fun k => k ∈ ps) w _).trans hf); have Z3 := Lib.hid (show Blk w3 (w.heap.size + 1) _ _ from (hf.block _ HZ2.out.lt (fun hm => by have := (HSL.out _ hm); omega)).trans HZ2.out); clear hs hf))
  exact ⟨rfl, rfl, S3.out, F3.out⟩
set_option maxRecDepth 100000 in
set_option maxHeartbeats 4000000 in
theorem cl_split_yes (r : Ky) (h : StAt w base p A cap ps os) (L : List Oj) (x : Int) (u : Oj) (N : Nat) (n : Int) (hNc : w.cell? ⟨N, 0, none⟩ = some (.int .i64 n)) (h1 : ¬ n < 1) (a b : Nat) (ha : (sl0 u).v = (a : Int)) (hb : (sl1 u).v = (b : Int)) (hab : a ≤ b) (hb64 : b < 64) (h2 : ¬ (b : Int) - (a : Int) < n) (hC : ∀ W, Below w.heap.size w W → W.cell? ⟨N, 0, none⟩ = some (.int .i64 n) → Calls Tryd.prog 35 #[bkv p x u, .func (.func 36) #[] #[.pointer (some ⟨N, 0, none⟩)]] W fun e w' => e = .returned r.val ∧ StAt w' base p A cap ps L ∧ Fr (fun k => k ∈ ps) W w') :
    Calls Tryd.prog 32 #[bkv p x u, .pointer (some ⟨N, 0, none⟩)] w fun e w' => e = .returned r.val ∧ StAt w' base p A cap ps L ∧ Fr (fun k => k ∈ ps) w w' := by
  have d2 : decide ((b : Int) - (a : Int) < n) = false := decide_eq_false h2
  have d1 : decide (n < 1) = false := decide_eq_false h1
  have e8 : IntKind.i64.wrap ((b : Int) - (a : Int)) = (b : Int) - (a : Int) := IntWalk.i64_in _ (by omega)
  have HBV := Lib.hid hb
  have HAV := Lib.hid ha
  have hmf : ∀ (fn : Fn) (first cap : Array Value) (w : World), (Instr.makeFunc fn first cap).run Tryd.prog w = .ok (.func fn first cap) w := fun _ _ _ _ => rfl
  have hbl := bkc_len p x u
  have HB0 := Lib.hid (show Below w.heap.size w ((w.alloc (.cells (bkc p x u).toArray 78)).alloc (.cells #[.int .i64 0, .int .i64 0, .int .i64 0, .int .i64 0, .int .i64 0, .int .i64 0] 33)) from ((Below.refl w.heap.size w).alloc (Nat.le_refl _) (.cells (bkc p x u).toArray 78)).alloc (by simp) (.cells #[.int .i64 0, .int .i64 0, .int .i64 0, .int .i64 0, .int .i64 0, .int .i64 0] 33))
  have HK0 := Lib.hid (show Blk ((w.alloc (.cells (bkc p x u).toArray 78)).alloc (.cells #[.int .i64 0, .int .i64 0, .int .i64 0, .int .i64 0, .int .i64 0, .int .i64 0] 33)) w.heap.size 78 (bkc p x u).toArray from (Blk.new w _ _).alloc _)
  have HZ0 := Lib.hid (show Blk ((w.alloc (.cells (bkc p x u).toArray 78)).alloc (.cells #[.int .i64 0, .int .i64 0, .int .i64 0, .int .i64 0, .int .i64 0, .int .i64 0] 33)) (w.heap.size + 1) 33 (kl zk).toArray from Blk.new_of _ _ (kl zk).toArray (by simp))
  have HN0 : Hid ((((w.alloc (.cells (bkc p x u).toArray 78)).alloc (.cells #[.int .i64 0, .int .i64 0, .int .i64 0, .int .i64 0, .int .i64 0, .int .i64 0] 33))).cell? ⟨N, 0, none⟩ = some (.int .i64 n)) := Lib.hid ((HB0.out.cell (World.block_lt_of_cell? w _ hNc)).trans hNc)
  have HCC := Lib.hid hC
  have HSL := Lib.hid (fun k (hk : k ∈ ps) => (h.lt k (.inr (.inr hk))).2)
  have HP := Lib.hid (h.lt p (.inl rfl)).2
  clear hNc h1 h2 ha hb hC h
  go_enter Tryd.func32, Tryd.ntmps32
  go_wp2
  generalize ((w.alloc (.cells (bkc p x u).toArray 78)).alloc (.cells #[.int .i64 0, .int .i64 0, .int .i64 0, .int .i64 0, .int .i64 0, .int .i64 0] 33)) = W2 at HB0 HK0 HZ0 HN0 ⊢
  refine wp_region_only (S := fun w' => BkAt w' w.heap.size 0 p x u ∧ w'.cell? ⟨N, 0, none⟩ = some (.int .i64 n)) (by kernel_rfl) ⟨HK0.out.drew.bk, HN0.out⟩ (fun hHeld => ?_)
  refine wpAnyH_take (i := 0) (v := ?v5) rfl (by kernel_rfl) (by kernel_rfl) (by kernel_rfl) (fun _ _ _ h => h) (Or.inl ⟨by rfl, ?hy5⟩) hHeld ?rest5
  case hy5 =>
    intro w' hSw
    try dsimp only at hSw
    go_simp
    first | done | with_reducible rfl
  try simp only [Act.put, List.getElem_toArray, List.getElem_cons_zero, List.setIfInBounds_toArray, List.set_cons_zero, List.set_cons_succ]
  refine wpAnyH_take (i := 1) (v := ?v6) rfl (by kernel_rfl) (by kernel_rfl) (by kernel_rfl) (fun _ _ _ h => h) (Or.inl ⟨by rfl, ?hy6⟩) hHeld ?rest6
  case hy6 =>
    intro w' hSw
    try dsimp only at hSw
    go_simp
    first | done | with_reducible rfl
  try simp only [Act.put, List.getElem_toArray, List.getElem_cons_succ, List.getElem_cons_zero, List.setIfInBounds_toArray, List.set_cons_zero, List.set_cons_succ]
  refine wpAnyH_take (i := 2) (v := ?v7) rfl (by kernel_rfl) (by kernel_rfl) (by kernel_rfl) (fun _ _ _ h => h) (Or.inl ⟨by rfl, ?hy7⟩) hHeld ?rest7
  case hy7 =>
    intro w' hSw
    try dsimp only at hSw
    go_simp
    first | done | with_reducible rfl
  try simp only [Act.put, List.getElem_toArray, List.getElem_cons_succ, List.getElem_cons_zero, List.setIfInBounds_toArray, List.set_cons_zero, List.set_cons_succ]
  refine wpAnyH_take (i := 3) (v := ?v8) rfl (by kernel_rfl) (by kernel_rfl) (by kernel_rfl) (fun _ _ _ h => h) (Or.inl ⟨by rfl, ?hy8⟩) hHeld ?rest8
  case hy8 =>
    intro w' hSw
    try dsimp only at hSw
    go_simp
    first | done | with_reducible rfl
  try simp only [Act.put, List.getElem_toArray, List.getElem_cons_succ, List.getElem_cons_zero, List.setIfInBounds_toArray, List.set_cons_zero, List.set_cons_succ]
  refine wpAnyH_take (i := 4) rfl (by kernel_rfl) (by kernel_rfl) (by kernel_rfl) (fun _ _ _ h => h) (y_bk (by rfl) (.tmp 2) (by rfl) w.heap.size 0 (by rfl) p x u (fun _ h => h.1)) hHeld ?_
  try simp only [Act.put, List.getElem_toArray, List.getElem_cons_succ, List.getElem_cons_zero, List.setIfInBounds_toArray, List.set_cons_zero, List.set_cons_succ]
  refine wpAnyH_take (i := 6) rfl (by kernel_rfl) (by kernel_rfl) (by kernel_rfl) (fun _ _ _ h => h) (y_bk (by rfl) (.tmp 2) (by rfl) w.heap.size 0 (by rfl) p x u (fun _ h => h.1)) hHeld ?_
  try simp only [Act.put, List.getElem_toArray, List.getElem_cons_succ, List.getElem_cons_zero, List.setIfInBounds_toArray, List.set_cons_zero, List.set_cons_succ]
  refine wpAnyH_ready (rs := [5]) (by kernel_rfl) (by simp) ?_
  refine AllReadyH.cons (by rfl) (fun K hK => ?_) AllReadyH.nil
  go_simp
  refine (last_eq p x u _ HBV.out).mono ?_
  rintro e_ w1 ⟨rfl, b_⟩
  have HB1 := Lib.hid ((below_drew HB0.out).trans (b_.mono (below_drew HB0.out).size))
  have HK1 := Lib.hid ((HK0.out.drew).keep b_)
  have HZ1 := Lib.hid ((HZ0.out.drew).keep b_)
  have HN1 : Hid (w1.cell? ⟨N, 0, none⟩ = some (.int .i64 n)) := Lib.hid ((b_.cell (World.block_lt_of_cell? _ _ HN0.out)).trans HN0.out)
  clear b_ hHeld
  go_wp2_with fail
  refine hK.out _ _ ⟨HK1.out.bk, HN1.out⟩ (fun hHeld => ?_)
  clear hK K
  try simp only [Act.put, List.getElem_toArray, List.getElem_cons_succ, List.getElem_cons_zero, List.setIfInBounds_toArray, List.set_cons_zero, List.set_cons_succ]
  refine wpAnyH_ready (rs := [7]) (by kernel_rfl) (by simp) ?_
  refine AllReadyH.cons (by rfl) (fun K hK => ?_) AllReadyH.nil
  go_simp
  refine (first_eq p x u _ HAV.out).mono ?_
  rintro e_ w2 ⟨rfl, b_⟩
  have HB2 := Lib.hid (HB1.out.trans (b_.mono HB1.out.size))
  have HK2 := Lib.hid ((HK1.out).keep b_)
  have HZ2 := Lib.hid ((HZ1.out).keep b_)
  have HN2 : Hid (w2.cell? ⟨N, 0, none⟩ = some (.int .i64 n)) := Lib.hid ((b_.cell (World.block_lt_of_cell? _ _ HN1.out)).trans HN1.out)
  clear b_ hHeld
  go_wp2_with fail
  refine hK.out _ _ ⟨HK2.out.bk, HN2.out⟩ (fun hHeld => ?_)
  clear hK K
  try simp only [Act.put, List.getElem_toArray, List.getElem_cons_succ, List.getElem_cons_zero, List.setIfInBounds_toArray, List.set_cons_zero, List.set_cons_succ]
  refine wpAnyH_take (i := 8) (v := ?v9) rfl (by kernel_rfl) (by kernel_rfl) (by kernel_rfl) (fun _ _ _ h => h) (Or.inl ⟨by rfl, ?hy9⟩) hHeld ?rest9
  case hy9 =>
    intro w' hSw
    try dsimp only at hSw
    go_simp
    first | done | with_reducible rfl
  try simp only [Act.put, List.getElem_toArray, List.getElem_cons_succ, List.getElem_cons_zero, List.setIfInBounds_toArray, List.set_cons_zero, List.set_cons_succ]
  refine wpAnyH_take (i := 9) (v := ?v10) rfl (by kernel_rfl) (by kernel_rfl) (by kernel_rfl) (fun _ _ _ h => h) (Or.inl ⟨by rfl, ?hy10⟩) hHeld ?rest10
  case hy10 =>
    intro w' hSw
    try dsimp only at hSw
    go_simp
    first | done | with_reducible rfl
  try simp only [Act.put, List.getElem_toArray, List.getElem_cons_succ, List.getElem_cons_zero, List.setIfInBounds_toArray, List.set_cons_zero, List.set_cons_succ]
  refine wpAnyH_take (i := 10) (v := ?v11) rfl (by kernel_rfl) (by kernel_rfl) (by kernel_rfl) (fun _ _ _ h => h) (Or.inl ⟨by rfl, ?hy11⟩) hHeld ?rest11
  case hy11 =>
    intro w' hSw
    try dsimp only at hSw
    go_simp
    first | done | with_reducible rfl
  try simp only [Act.put, List.getElem_toArray, List.getElem_cons_succ, List.getElem_cons_zero, List.setIfInBounds_toArray, List.set_cons_zero, List.set_cons_succ]
  refine wpAnyH_done (by kernel_rfl) ?_ _
  refine OnlyN.normal ?_
  go_wp2_with (first
    | (show wpList _ _ _ ({ dst := some 16, op := .load _ _, type := _, pos := _, after := _, guard := _ } :: _) _ _; refine wpList_yields (S := fun w' => BkAt w' w.heap.size 0 p x u) (y_bk (by rfl) (.tmp 2) (by rfl) w.heap.size 0 (by rfl) p x u (fun _ h => h)) HK2.out.bk ?_)
    | (go_at_call 35; refine (HCC.out _ HB2.out HN2.out).mono ?_; rintro e w3 ⟨rfl, hs, hf⟩; have S3 := Lib.hid hs; have F3 := Lib.hid ((Fr.of_below HB2.out : Fr (fun k => k ∈ ps) w _).trans hf); have Z3 := Lib.hid (show Blk w3 (w.heap.size + 1) _ _ from (hf.block _ HZ2.out.lt (fun hm => by have := (HSL.out _ hm); omega)).trans HZ2.out); clear hs hf)
    | (refine wpList_store_row rfl 33 (.tmp 3) (.tmp 18) rfl (w.heap.size + 1) (kl r).toArray rfl rfl 33 (kl zk).toArray Z3.out size30 rfl (all_one (kl_one r)) ?_))
  refine bodyPost_ret (res_1 rfl _ _ (w.heap.size + 1) _ rfl (load_key r (Z3.out.setRow _))) rfl ⟨rfl, ?_⟩
  exact ⟨S3.out.keep fun k hk => setRow_other _ _ _ _ (fun e => S3.out.blk_ne Z3.out (by decide) (by have := HP.out; omega) (e ▸ hk)), F3.out.then_ (setRow_fr _ _ _) (fun i hi he => by omega)⟩
open Classical in
/-- what Split tells, and leaves -/
noncomputable def spA (os : List Oj) (x : Ky) (n : Int) : List Oj × Ky × Int :=
  if bnkE os x = 0 then
    (if 1 ≤ n ∧ n ≤ (bnkB os x : Int) - (bnkA os x : Int) then
      (match fnd os (bnkA os x) (bnkB os x + 1 - bnkA os x) with
        | some i => if AllE (mkL os (bnkA os x) (bnkB os x) 1) (bnkB os x - n.toNat + 1) (bnkB os x) then
            (spL os x.o ((named os x).getD oz) (mkK os (bnkA os x + i) 2) (bnkA os x) (bnkB os x) (bnkB os x - n.toNat + 1), bnkK (mkK os (bnkA os x + i) 2), 0) else (os, zk, 221)
        | none => (os, zk, 221))
    else (os, zk, 4))
  else (os, zk, bnkE os x)
theorem spA_e {os : List Oj} {x : Ky} (n : Int) (h : bnkE os x ≠ 0) : spA os x n = (os, zk, bnkE os x) := if_neg h
set_option maxRecDepth 8000 in
theorem spA_rng {os : List Oj} {x : Ky} {j : Nat} {u : Oj} {a b : Nat} (d : BkD os x j u a b) {n : Int} (h : ¬ (1 ≤ n ∧ n ≤ (b : Int) - (a : Int))) : spA os x n = (os, zk, 4) := by
  unfold spA
  rw [if_pos d.e, d.fa, d.fb, if_neg h]
set_option maxRecDepth 8000 in
theorem spA_none {os : List Oj} {x : Ky} {j : Nat} {u : Oj} {a b : Nat} (d : BkD os x j u a b) {n : Int} (h : 1 ≤ n ∧ n ≤ (b : Int) - (a : Int)) (hf : fnd os a (b + 1 - a) = none) : spA os x n = (os, zk, 221) := by
  unfold spA
  rw [if_pos d.e, d.fa, d.fb, if_pos h, hf]
set_option maxRecDepth 8000 in
theorem spA_full {os : List Oj} {x : Ky} {j : Nat} {u : Oj} {a b : Nat} (d : BkD os x j u a b) {n : Int} (h : 1 ≤ n ∧ n ≤ (b : Int) - (a : Int)) {i : Nat} (hf : fnd os a (b + 1 - a) = some i) (hE : ¬ AllE (mkL os a b 1) (b - n.toNat + 1) b) : spA os x n = (os, zk, 221) := by
  unfold spA
  rw [if_pos d.e, d.fa, d.fb, if_pos h, hf]
  exact if_neg hE
set_option maxRecDepth 8000 in
theorem spA_yes {os : List Oj} {x : Ky} {j : Nat} {u : Oj} {a b : Nat} (d : BkD os x j u a b) {n : Int} (h : 1 ≤ n ∧ n ≤ (b : Int) - (a : Int)) {i : Nat} (hf : fnd os a (b + 1 - a) = some i) (hE : AllE (mkL os a b 1) (b - n.toNat + 1) b) : spA os x n = (spL os x.o u (mkK os (a + i) 2) a b (b - n.toNat + 1), bnkK (mkK os (a + i) 2), 0) := by
  unfold spA
  rw [if_pos d.e, d.fa, d.fb, if_pos h, hf, d.nm]
  exact if_pos hE
set_option maxRecDepth 8000 in
theorem spL_len (os : List Oj) (x : Int) (u : Oj) (k : Ky) (a b m : Nat) : (spL os x u k a b m).length = os.length := by
  unfold spL
  rw [gvA_len, gvA_len, mkL_len]
set_option maxRecDepth 8000 in
theorem spL_ok {os : List Oj} (ho : okAll os.length os) {x : Ky} {j : Nat} {u : Oj} {a b : Nat} (d : BkD os x j u a b) (xo : Int) (v : Oj) (k : Ky) (m : Nat) : okAll os.length (spL os xo v k a b m) := by
  unfold spL
  have h1 : okAll (mkL os a b 1).length (mkL os a b 1) := by rw [mkL_len]; exact mkL_ok ho d (.inl rfl)
  have h2 : okAll (gvA (mkL os a b 1) k (m : Int) (b : Int)).length (gvA (mkL os a b 1) k (m : Int) (b : Int)) := by rw [gvA_len]; exact gvA_ok h1 _ _ _
  have h3 := gvA_ok h2 (ownK xo v) (a : Int) ((m : Int) - 1)
  rwa [gvA_len, mkL_len] at h3
set_option maxRecDepth 8000 in
theorem bsplit_all (h : StAt w base p A cap ps os) (ho : okAll os.length os) (hn : 0 < os.length) (hN : os.length ≤ 64) (hT : TabB base w) (x : Ky) (n : Int) :
    Calls Tryd.prog 12 #[pv p, x.val, .int .i64 n] w fun e w' => e = .returned (.tuple #[(spA os x n).2.1.val, .int .i64 (spA os x n).2.2]) ∧ StAt w' base p A cap ps (spA os x n).1 ∧ Fr (fun k => k ∈ ps) w w' := by
  have hTB : ∀ {W}, Below w.heap.size w W → TabB base W := fun hW => hT.up h hW
  by_cases hE : bnkE os x = 0
  · obtain ⟨j, u, a, b, d⟩ := bnkE_d hE
    have hb64 : b < 64 := by have := d.bl; omega
    have low : ∀ (W V : World) (N : Nat), Below W.heap.size W V → W.cell? ⟨N, 0, none⟩ = some (.int .i64 n) → V.cell? ⟨N, 0, none⟩ = some (.int .i64 n) := fun W V N hV hK => (hV.cell (World.block_lt_of_cell? W _ hK)).trans hK
    by_cases hr : 1 ≤ n ∧ n ≤ (b : Int) - (a : Int)
    · have hn1 : ¬ n < 1 := by omega
      have hn2 : ¬ (b : Int) - (a : Int) < n := by omega
      obtain ⟨n', rfl⟩ := Int.eq_ofNat_of_zero_le (show 0 ≤ n by omega)
      have no : spA os x (n' : Int) = (os, zk, 221) → (∀ (W : World) (q : Nat) (A' : Option Addr) (cap' : Nat) (ps' : List Nat), StAt W q q A' cap' ps' os → TabB q W → Calls Tryd.prog 37 #[bkv q x.o u, .int .i64 (n' : Int)] W fun e w' => e = .panicked (erc 221) ∧ ∃ L, StAt w' q q A' cap' ps' L ∧ Fr (fun k => k ∈ ps') W w') → Calls Tryd.prog 12 #[pv p, x.val, .int .i64 (n' : Int)] w fun e w' => e = .returned (.tuple #[(spA os x (n' : Int)).2.1.val, .int .i64 (spA os x (n' : Int)).2.2]) ∧ StAt w' base p A cap ps (spA os x (n' : Int)).1 ∧ Fr (fun k => k ∈ ps) w w' := fun e hd => by
        rw [e]
        exact exp_split_s h _ x _ _ _ fun W N hW hK => bface_split_no (h.below hW) _ x _ N (fun V hV => bask_d ((h.below hW).below hV) hn ((hTB hW).up (h.below hW) hV).tab d) _ fun V hV => cl_split_no _ ((h.below hW).below hV) _ x.o u N _ (low _ _ _ hV hK) hn1 a b d.v0 d.v1 d.ab hb64 hn2 fun U hU hUK => tried_no (((h.below hW).below hV).below hU) (((hTB hW).up (h.below hW) hV).up ((h.below hW).below hV) hU) hn hN x.o u N _ fun X q A' cap' ps' hX hq hs hTX => cl2_no hs x.o u N (n' : Int) ((hX.cell (World.block_lt_of_cell? _ _ hUK)).trans hUK) _ fun Y hY => hd Y q A' cap' ps' (hs.below hY) (hTX.up hs hY)
      cases hf : fnd os a (b + 1 - a) with
      | none =>
        exact no (spA_none d hr hf) fun W q A' cap' ps' hs hTW => split_none hs ho hTW d hN _ hf
      | some i =>
        have had : a ≤ b - n' := by omega
        by_cases hall : AllE (mkL os a b 1) (b - n' + 1) b
        · have hall' : AllE (mkL os a b 1) (b - ((n' : Int)).toNat + 1) b := by rw [Int.toNat_natCast]; exact hall
          rw [spA_yes d hr hf hall', Int.toNat_natCast]
          refine exp_split_s h _ x _ _ _ fun W N hW hK => bface_split_yes (h.below hW) _ x _ N (fun V hV => bask_d ((h.below hW).below hV) hn ((hTB hW).up (h.below hW) hV).tab d) _ fun V hV => cl_split_yes _ ((h.below hW).below hV) _ x.o u N _ (low _ _ _ hV hK) hn1 a b d.v0 d.v1 d.ab hb64 hn2 fun U hU hUK => tried_yes (((h.below hW).below hV).below hU) (((hTB hW).up (h.below hW) hV).up ((h.below hW).below hV) hU) hn hN x.o u N _ _ (spL_len _ _ _ _ _ _ _) (spL_ok ho d _ _ _ _) fun X q A' cap' ps' hX hq hs hTX => cl2_yes hs _ x.o u N (n' : Int) ((hX.cell (World.block_lt_of_cell? _ _ hUK)).trans hUK) _ fun Y hY => (split_some (hs.below hY) ho (hTX.up hs hY) d hN n' (b - n') (b - n' + 1) had rfl (by omega) _ i hf rfl).mono ?_
          rintro e w' ⟨L, h1, h2, (⟨_, h4, h5⟩ | ⟨h3, _⟩)⟩
          · exact ⟨h4, by rw [h5] at h1; exact h1, h2⟩
          · exact absurd hall h3
        · refine no (spA_full d hr hf (by rw [Int.toNat_natCast]; exact hall)) fun W q A' cap' ps' hs hTW => (split_some hs ho hTW d hN n' (b - n') (b - n' + 1) had rfl (by omega) _ i hf rfl).mono ?_
          rintro e w' ⟨L, h1, h2, (⟨h3, _⟩ | ⟨_, h4⟩)⟩
          · exact absurd h3 hall
          · exact ⟨h4, L, h1, h2⟩
    · rw [spA_rng d hr]
      refine exp_split_s h _ x _ _ _ fun W N hW hK => bface_split_no (h.below hW) _ x _ N (fun V hV => bask_d ((h.below hW).below hV) hn ((hTB hW).up (h.below hW) hV).tab d) _ fun V hV => ?_
      have hs := (h.below hW).below hV
      by_cases h1 : n < 1
      · exact (cl_split_low p x.o u N n (low _ _ _ hV hK) h1).mono fun e w' q => ⟨q.1, hs.below q.2, Fr.of_below q.2⟩
      · exact (cl_split_high p x.o u N n (low _ _ _ hV hK) h1 a b d.v0 d.v1 d.ab hb64 (by omega)).mono fun e w' q => ⟨q.1, hs.below q.2, Fr.of_below q.2⟩
  · rw [spA_e n hE]
    refine (exp_split_b (pv p) x n zk _ fun W K hW hK => bface_split_ask (pv p) x _ K fun V hV => bask_e ((h.below hW).below hV) hn ((hTB hW).up (h.below hW) hV).tab x hE).mono ?_
    rintro e w' ⟨h1, h2⟩
    exact ⟨h1, h.below h2, Fr.of_below h2⟩
end
end Go.Proofs.YteodgefnbmiblaaDoor

/- law 8: HeadersTurns, its walk where the slot is 0. -/
import Derived.Test.YtjfcmoappbfnjaaHK
namespace Go.Proofs.Ytjfcmoappbfnjaa
open List renaming getElem_toArray → zq1, getElem_cons_succ → zq2, getElem_cons_zero → zq3, setIfInBounds_toArray → zq4, set_cons_zero → zq5, set_cons_succ → zq6
open Go.RowKit
attribute [local go_sem] Oper.semAt_some
set_option maxRecDepth 100000 in
set_option maxHeartbeats 8000000 in
theorem turns_go0 (w : World) (x y z : Hd) (A : Option Addr) (cap : Nat) (c : Cr) (f : Int) (b : Nat) (h1 : ¬ z.o < 1) (h2 : ¬ 64 < z.o) (h3 : ¬ 300 < (c.keep.length : Int)) (h4 : ¬ c.bytes < 0) (h5 : ¬ 512 < c.bytes) (h : ¬ x.e = z.e)
    (mx : x.e ≤ 9223372036854775807) (my : y.e ≤ 9223372036854775807) (mz : z.e ≤ 9223372036854775807) (hr : RdB w A c.keep) (hb : b < 4294967296) :
    Calls Try.prog 6 #[.agg (x.cs ++ y.cs ++ z.cs).toArray, .int .i64 0, .agg #[.slice A c.keep.length cap, .int .i64 c.torn, .int .i64 c.bytes], .agg #[.int .i64 f, .int .u32 (b : Int)]] w fun e w' => e = .returned (.bool true) ∧ Below w.heap.size w w' := by
  have d2 : decide (z.o < 1) = false := decide_eq_false (by omega)
  have d3 : decide (64 < z.o) = false := decide_eq_false (by omega)
  have d4 : decide ((300 : Int) < (c.keep.length : Int)) = false := decide_eq_false (by omega)
  have d4' : decide (300 < c.keep.length) = false := decide_eq_false (by omega)
  have d5 : decide (c.bytes < 0) = false := decide_eq_false (by omega)
  have d6 : decide (512 < c.bytes) = false := decide_eq_false (by omega)
  obtain ⟨X, hX⟩ : ∃ X : Hd, X = ⟨x.e, x.a, z.o⟩ := ⟨_, rfl⟩
  obtain ⟨Y, hY⟩ : ∃ Y : Hd, Y = ⟨y.e, y.a, z.o⟩ := ⟨_, rfl⟩
  obtain ⟨zz, hzz⟩ : ∃ zz : Nat, 20 + 3 * z.o = (zz : Int) := ⟨(20 + 3 * z.o).toNat, by omega⟩
  obtain ⟨bx, hbx⟩ : ∃ bx : Bool, bx = decide X.ok := ⟨_, rfl⟩
  obtain ⟨bY, hby⟩ : ∃ bY : Bool, bY = decide Y.ok := ⟨_, rfl⟩
  have XE := Lib.hid (show X.e ≤ 9223372036854775807 by rw [hX]; exact mx)
  have YE := Lib.hid (show Y.e ≤ 9223372036854775807 by rw [hY]; exact my)
  have ZE := Lib.hid mz
  have XO := Lib.hid (show X.o = z.o by rw [hX])
  have YO := Lib.hid (show Y.o = z.o by rw [hY])
  have XZ := Lib.hid (show 20 + 3 * X.o = (zz : Int) by rw [hX]; exact hzz)
  have YZ := Lib.hid (show 20 + 3 * Y.o = (zz : Int) by rw [hY]; exact hzz)
  have ZZ := Lib.hid hzz
  have BX := Lib.hid hbx
  have BY := Lib.hid hby
  have Z1 := Lib.hid (show 2 ≤ zz ∧ zz ≤ 4096 by omega)
  have HNE := Lib.hid (show X.e ≠ z.e by rw [hX]; exact h)
  have d7 : (X.e == z.e) = false := beq_eq_false_iff_ne.2 HNE.out
  have HR := Lib.hid hr
  have HB0 := Lib.hid (show 0 ≤ c.bytes by omega)
  have HB5 := Lib.hid (show c.bytes ≤ 512 by omega)
  have HU := Lib.hid hb
  have m1 : IntKind.i64.wrap (3 * z.o) = 3 * z.o := IntWalk.i64_in _ (by omega)
  have m2 : IntKind.i64.wrap (20 + 3 * z.o) = (zz : Int) := by rw [hzz]; exact IntWalk.i64_in _ (by omega)
  clear h1 h2 h3 h4 h5 h hr mx my mz hb
  obtain ⟨W0, hW⟩ : ∃ W, W = ((w.alloc (.cells (x.cs ++ y.cs ++ z.cs).toArray 59)).alloc (.cells #[.slice A c.keep.length cap, .int .i64 c.torn, .int .i64 c.bytes] 62)).alloc (.cells #[.int .i64 f, .int .u32 (b : Int)] 65) := ⟨_, rfl⟩
  have G0 := Lib.hid (show Blk W0 w.heap.size 59 (x.cs ++ y.cs ++ z.cs).toArray from by rw [hW]; exact ((Blk.new w _ _).alloc _).alloc _)
  obtain ⟨W, hW1⟩ : ∃ W, W = ((w.alloc (.cells ((.int .i64 x.e :: .int .i64 x.a :: .int .i64 z.o :: .int .i64 y.e :: .int .i64 y.a :: .int .i64 z.o :: z.cs : List Value).toArray) 59)).alloc (.cells #[.slice A c.keep.length cap, .int .i64 c.torn, .int .i64 c.bytes] 62)).alloc (.cells #[.int .i64 f, .int .u32 (b : Int)] 65) := ⟨_, rfl⟩
  have G1 := Lib.hid (show Blk W w.heap.size 59 (c9 X Y z) from by rw [hW1, hX, hY]; exact ((Blk.new w _ _).alloc _).alloc _)
  have K1 := Lib.hid (show Blk W (w.heap.size + 1) 62 #[.slice A c.keep.length cap, .int .i64 c.torn, .int .i64 c.bytes] from by rw [hW1]; exact (blk_new1 w _ _ _).alloc _)
  have T1 := Lib.hid (show Blk W (w.heap.size + 2) 65 #[.int .i64 f, .int .u32 (b : Int)] from by rw [hW1]; exact blk_new2 w _ _ _ _)
  have L1 := Lib.hid (show Below w.heap.size w W from by rw [hW1]; exact (((Below.refl w.heap.size w).alloc (Nat.le_refl _) _).alloc (by simp) _).alloc (by simp; omega) _)
  have Z3 := Lib.hid (show W.heap.size = w.heap.size + 3 by rw [hW1]; simp)
  have q2 := (G0.out.cell 2).trans (show _ = some (.int .i64 x.o) from rfl)
  have q5 := ((G0.out.set_ 2 (.int .i64 z.o)).cell 5).trans (show _ = some (.int .i64 y.o) from rfl)
  have q8 := (G0.out.cell 8).trans (show _ = some (.int .i64 z.o) from rfl)
  have f2 := G0.out.frozen 2
  have f5 := (G0.out.set_ 2 (.int .i64 z.o)).frozen 5
  rw [hW] at q2 q5 q8 f2 f5
  subst hW
  go_enter Try.func6, Try.ntmps6
  go_wp2_with fail
  rw [← hW1]
  clear hW1 q2 q5 q8 f2 f5 G0 hX hY hzz hbx hby
  replace G1 := Lib.hid (blk_drew G1.out)
  replace K1 := Lib.hid (blk_drew K1.out)
  replace T1 := Lib.hid (blk_drew T1.out)
  replace L1 := Lib.hid L1.out.drew
  replace Z3 := Lib.hid (show W.drew.heap.size = w.heap.size + 3 from Z3.out)
  refine wp_region_only (S := fun w' => w'.cell? ⟨w.heap.size + 1, 0, none⟩ = some (.slice A c.keep.length cap) ∧ w'.cell? ⟨w.heap.size + 1, 2, none⟩ = some (.int .i64 c.bytes) ∧ w'.cell? ⟨w.heap.size, 0, none⟩ = some (.int .i64 X.e) ∧ w'.cell? ⟨w.heap.size, 3, none⟩ = some (.int .i64 Y.e) ∧ w'.cell? ⟨w.heap.size, 6, none⟩ = some (.int .i64 z.e)) (by kernel_rfl) (⟨(K1.out.cell 0).trans rfl, (K1.out.cell 2).trans rfl, (G1.out.cell 0).trans rfl, (G1.out.cell 3).trans rfl, (G1.out.cell 6).trans rfl⟩) (fun hHeld => ?_)
  refine wpAnyH_take (i := 0) (v := ?v1) rfl (by kernel_rfl) (by kernel_rfl) (by kernel_rfl) (fun _ _ _ h => h) (Or.inl ⟨by rfl, ?hy1⟩) hHeld ?rest1
  case hy1 =>
    intro w' hSw
    try dsimp only at hSw
    go_simp
    first | done | with_reducible rfl
  try simp only [Act.put, zq1, zq3, zq4, zq5, zq6]
  refine wpAnyH_take (i := 1) (v := ?v2) rfl (by kernel_rfl) (by kernel_rfl) (by kernel_rfl) (fun _ _ _ h => h) (Or.inl ⟨by rfl, ?hy2⟩) hHeld ?rest2
  case hy2 =>
    intro w' hSw
    try dsimp only at hSw
    go_simp
    first | done | with_reducible rfl
  try simp only [Act.put, zq1, zq2, zq3, zq4, zq5, zq6]
  refine wpAnyH_take (i := 2) (v := ?v3) rfl (by kernel_rfl) (by kernel_rfl) (by kernel_rfl) (fun _ _ _ h => h) (Or.inl ⟨by rfl, ?hy3⟩) hHeld ?rest3
  case hy3 =>
    intro w' hSw
    try dsimp only at hSw
    go_simp
    first | done | with_reducible rfl
  try simp only [Act.put, zq1, zq2, zq3, zq4, zq5, zq6]
  refine wpAnyH_take (i := 3) (v := ?v4) rfl (by kernel_rfl) (by kernel_rfl) (by kernel_rfl) (fun _ _ _ h => h) (Or.inl ⟨by rfl, ?hy4⟩) hHeld ?rest4
  case hy4 =>
    intro w' hSw
    try dsimp only at hSw
    go_simp
    first | done | with_reducible rfl
  try simp only [Act.put, zq1, zq2, zq3, zq4, zq5, zq6]
  refine wpAnyH_take (i := 4) (v := ?v5) rfl (by kernel_rfl) (by kernel_rfl) (by kernel_rfl) (fun _ _ _ h => h) (Or.inl ⟨by rfl, ?hy5⟩) hHeld ?rest5
  case hy5 =>
    intro w' hSw
    try dsimp only at hSw
    go_simp
    first | done | with_reducible rfl
  try simp only [Act.put, zq1, zq2, zq3, zq4, zq5, zq6]
  refine wpAnyH_take (i := 5) (v := ?v6) rfl (by kernel_rfl) (by kernel_rfl) (by kernel_rfl) (fun _ _ _ h => h) (Or.inl ⟨by rfl, ?hy6⟩) hHeld ?rest6
  case hy6 =>
    intro w' hSw
    try dsimp only at hSw
    go_simp
    first | done | with_reducible rfl
  try simp only [Act.put, zq1, zq2, zq3, zq4, zq5, zq6]
  refine wpAnyH_take (i := 6) (v := ?v7) rfl (by kernel_rfl) (by kernel_rfl) (by kernel_rfl) (fun _ _ _ h => h) (Or.inl ⟨by rfl, ?hy7⟩) hHeld ?rest7
  case hy7 =>
    intro w' hSw
    try dsimp only at hSw
    go_simp
    first | done | with_reducible rfl
  try simp only [Act.put, zq1, zq2, zq3, zq4, zq5, zq6]
  refine wpAnyH_take (i := 7) (v := ?v8) rfl (by kernel_rfl) (by kernel_rfl) (by kernel_rfl) (fun _ _ _ h => h) (Or.inl ⟨by rfl, ?hy8⟩) hHeld ?rest8
  case hy8 =>
    intro w' hSw
    try dsimp only at hSw
    go_simp
    first | done | with_reducible rfl
  try simp only [Act.put, zq1, zq2, zq3, zq4, zq5, zq6]
  refine wpAnyH_take (i := 8) (v := ?v9) rfl (by kernel_rfl) (by kernel_rfl) (by kernel_rfl) (fun _ _ _ h => h) (Or.inl ⟨by rfl, ?hy9⟩) hHeld ?rest9
  case hy9 =>
    intro w' hSw
    try dsimp only at hSw
    go_simp
    first | done | with_reducible rfl
  try simp only [Act.put, zq1, zq2, zq3, zq4, zq5, zq6]
  refine wpAnyH_take (i := 9) (v := ?v10) rfl (by kernel_rfl) (by kernel_rfl) (by kernel_rfl) (fun _ _ _ h => h) (Or.inl ⟨by rfl, ?hy10⟩) hHeld ?rest10
  case hy10 =>
    intro w' hSw
    try dsimp only at hSw
    go_simp
    first | done | with_reducible rfl
  try simp only [Act.put, zq1, zq2, zq3, zq4, zq5, zq6]
  refine wpAnyH_take (i := 10) (v := ?v11) rfl (by kernel_rfl) (by kernel_rfl) (by kernel_rfl) (fun _ _ _ h => h) (Or.inl ⟨by rfl, ?hy11⟩) hHeld ?rest11
  case hy11 =>
    intro w' hSw
    try dsimp only at hSw
    go_simp
    first | done | with_reducible rfl
  try simp only [Act.put, zq1, zq2, zq3, zq4, zq5, zq6]
  refine wpAnyH_take (i := 11) (v := ?v12) rfl (by kernel_rfl) (by kernel_rfl) (by kernel_rfl) (fun _ _ _ h => h) (Or.inl ⟨by rfl, ?hy12⟩) hHeld ?rest12
  case hy12 =>
    intro w' hSw
    try dsimp only at hSw
    go_simp
    first | done | with_reducible rfl
  try simp only [Act.put, zq1, zq2, zq3, zq4, zq5, zq6]
  refine wpAnyH_take (i := 12) (v := ?v13) rfl (by kernel_rfl) (by kernel_rfl) (by kernel_rfl) (fun _ _ _ h => h) (Or.inl ⟨by rfl, ?hy13⟩) hHeld ?rest13
  case hy13 =>
    intro w' hSw
    try dsimp only at hSw
    go_simp
    first | done | with_reducible rfl
  try simp only [Act.put, zq1, zq2, zq3, zq4, zq5, zq6]
  refine wpAnyH_take (i := 13) (v := ?v14) rfl (by kernel_rfl) (by kernel_rfl) (by kernel_rfl) (fun _ _ _ h => h) (Or.inl ⟨by rfl, ?hy14⟩) hHeld ?rest14
  case hy14 =>
    intro w' hSw
    try dsimp only at hSw
    go_simp
    first | done | with_reducible rfl
  try simp only [Act.put, zq1, zq2, zq3, zq4, zq5, zq6]
  refine wpAnyH_take (i := 14) (v := ?v15) rfl (by kernel_rfl) (by kernel_rfl) (by kernel_rfl) (fun _ _ _ h => h) (Or.inl ⟨by rfl, ?hy15⟩) hHeld ?rest15
  case hy15 =>
    intro w' hSw
    try dsimp only at hSw
    go_simp
    first | done | with_reducible rfl
  try simp only [Act.put, zq1, zq2, zq3, zq4, zq5, zq6]
  refine wpAnyH_take (i := 15) (v := ?v16) rfl (by kernel_rfl) (by kernel_rfl) (by kernel_rfl) (fun _ _ _ h => h) (Or.inl ⟨by rfl, ?hy16⟩) hHeld ?rest16
  case hy16 =>
    intro w' hSw
    try dsimp only at hSw
    go_simp
    first | done | with_reducible rfl
  try simp only [Act.put, zq1, zq2, zq3, zq4, zq5, zq6]
  refine wpAnyH_take (i := 16) (v := ?v17) rfl (by kernel_rfl) (by kernel_rfl) (by kernel_rfl) (fun _ _ _ h => h) (Or.inl ⟨by rfl, ?hy17⟩) hHeld ?rest17
  case hy17 =>
    intro w' hSw
    try dsimp only at hSw
    go_simp
    first | done | with_reducible rfl
  try simp only [Act.put, zq1, zq2, zq3, zq4, zq5, zq6]
  refine wpAnyH_take (i := 17) (v := ?v18) rfl (by kernel_rfl) (by kernel_rfl) (by kernel_rfl) (fun _ _ _ h => h) (Or.inl ⟨by rfl, ?hy18⟩) hHeld ?rest18
  case hy18 =>
    intro w' hSw
    try dsimp only at hSw
    go_simp
    first | done | with_reducible rfl
  try simp only [Act.put, zq1, zq2, zq3, zq4, zq5, zq6]
  refine wpAnyH_take (i := 18) (v := ?v19) rfl (by kernel_rfl) (by kernel_rfl) (by kernel_rfl) (fun _ _ _ h => h) (Or.inl ⟨by rfl, ?hy19⟩) hHeld ?rest19
  case hy19 =>
    intro w' hSw
    try dsimp only at hSw
    go_simp
    first | done | with_reducible rfl
  try simp only [Act.put, zq1, zq2, zq3, zq4, zq5, zq6]
  refine wpAnyH_take (i := 19) (v := ?v20) rfl (by kernel_rfl) (by kernel_rfl) (by kernel_rfl) (fun _ _ _ h => h) (Or.inl ⟨by rfl, ?hy20⟩) hHeld ?rest20
  case hy20 =>
    intro w' hSw
    try dsimp only at hSw
    go_simp
    first | done | with_reducible rfl
  try simp only [Act.put, zq1, zq2, zq3, zq4, zq5, zq6]
  refine wpAnyH_take (i := 20) (v := ?v21) rfl (by kernel_rfl) (by kernel_rfl) (by kernel_rfl) (fun _ _ _ h => h) (Or.inl ⟨by rfl, ?hy21⟩) hHeld ?rest21
  case hy21 =>
    intro w' hSw
    try dsimp only at hSw
    go_simp
    first | done | with_reducible rfl
  try simp only [Act.put, zq1, zq2, zq3, zq4, zq5, zq6]
  refine wpAnyH_take (i := 21) (v := ?v22) rfl (by kernel_rfl) (by kernel_rfl) (by kernel_rfl) (fun _ _ _ h => h) (Or.inl ⟨by rfl, ?hy22⟩) hHeld ?rest22
  case hy22 =>
    intro w' hSw
    try dsimp only at hSw
    go_simp
    first | done | with_reducible rfl
  try simp only [Act.put, zq1, zq2, zq3, zq4, zq5, zq6]
  refine wpAnyH_take (i := 22) (v := ?v23) rfl (by kernel_rfl) (by kernel_rfl) (by kernel_rfl) (fun _ _ _ h => h) (Or.inl ⟨by rfl, ?hy23⟩) hHeld ?rest23
  case hy23 =>
    intro w' hSw
    try dsimp only at hSw
    go_simp
    first | done | with_reducible rfl
  try simp only [Act.put, zq1, zq2, zq3, zq4, zq5, zq6]
  refine wpAnyH_take (i := 23) (v := ?v24) rfl (by kernel_rfl) (by kernel_rfl) (by kernel_rfl) (fun _ _ _ h => h) (Or.inl ⟨by rfl, ?hy24⟩) hHeld ?rest24
  case hy24 =>
    intro w' hSw
    try dsimp only at hSw
    go_simp
    first | done | with_reducible rfl
  try simp only [Act.put, zq1, zq2, zq3, zq4, zq5, zq6]
  refine wpAnyH_take (i := 24) (v := ?v25) rfl (by kernel_rfl) (by kernel_rfl) (by kernel_rfl) (fun _ _ _ h => h) (Or.inl ⟨by rfl, ?hy25⟩) hHeld ?rest25
  case hy25 =>
    intro w' hSw
    try dsimp only at hSw
    go_simp
    first | done | with_reducible rfl
  try simp only [Act.put, zq1, zq2, zq3, zq4, zq5, zq6]
  refine wpAnyH_take (i := 25) (v := ?v26) rfl (by kernel_rfl) (by kernel_rfl) (by kernel_rfl) (fun _ _ _ h => h) (Or.inl ⟨by rfl, ?hy26⟩) hHeld ?rest26
  case hy26 =>
    intro w' hSw
    try dsimp only at hSw
    go_simp
    first | done | with_reducible rfl
  try simp only [Act.put, zq1, zq2, zq3, zq4, zq5, zq6]
  refine wpAnyH_take (i := 26) (v := ?v27) rfl (by kernel_rfl) (by kernel_rfl) (by kernel_rfl) (fun _ _ _ h => h) (Or.inl ⟨by rfl, ?hy27⟩) hHeld ?rest27
  case hy27 =>
    intro w' hSw
    try dsimp only at hSw
    go_simp
    first | done | with_reducible rfl
  try simp only [Act.put, zq1, zq2, zq3, zq4, zq5, zq6]
  refine wpAnyH_take (i := 27) (v := ?v28) rfl (by kernel_rfl) (by kernel_rfl) (by kernel_rfl) (fun _ _ _ h => h) (Or.inl ⟨by rfl, ?hy28⟩) hHeld ?rest28
  case hy28 =>
    intro w' hSw
    try dsimp only at hSw
    go_simp
    first | done | with_reducible rfl
  try simp only [Act.put, zq1, zq2, zq3, zq4, zq5, zq6]
  refine wpAnyH_take (i := 28) (v := ?v29) rfl (by kernel_rfl) (by kernel_rfl) (by kernel_rfl) (fun _ _ _ h => h) (Or.inl ⟨by rfl, ?hy29⟩) hHeld ?rest29
  case hy29 =>
    intro w' hSw
    try dsimp only at hSw
    go_simp
    first | done | with_reducible rfl
  try simp only [Act.put, zq1, zq2, zq3, zq4, zq5, zq6]
  refine wpAnyH_take (i := 29) (v := ?v30) rfl (by kernel_rfl) (by kernel_rfl) (by kernel_rfl) (fun _ _ _ h => h) (Or.inl ⟨by rfl, ?hy30⟩) hHeld ?rest30
  case hy30 =>
    intro w' hSw
    try dsimp only at hSw
    go_simp
    first | done | with_reducible rfl
  try simp only [Act.put, zq1, zq2, zq3, zq4, zq5, zq6]
  refine wpAnyH_take (i := 30) (v := ?v31) rfl (by kernel_rfl) (by kernel_rfl) (by kernel_rfl) (fun _ _ _ h => h) (Or.inl ⟨by rfl, ?hy31⟩) hHeld ?rest31
  case hy31 =>
    intro w' hSw
    try dsimp only at hSw
    go_simp
    first | done | with_reducible rfl
  try simp only [Act.put, zq1, zq2, zq3, zq4, zq5, zq6]
  refine wpAnyH_take (i := 31) (v := ?v32) rfl (by kernel_rfl) (by kernel_rfl) (by kernel_rfl) (fun _ _ _ h => h) (Or.inl ⟨by rfl, ?hy32⟩) hHeld ?rest32
  case hy32 =>
    intro w' hSw
    try dsimp only at hSw
    go_simp
    first | done | with_reducible rfl
  try simp only [Act.put, zq1, zq2, zq3, zq4, zq5, zq6]
  refine wpAnyH_take (i := 32) (v := ?v33) rfl (by kernel_rfl) (by kernel_rfl) (by kernel_rfl) (fun _ _ _ h => h) (Or.inl ⟨by rfl, ?hy33⟩) hHeld ?rest33
  case hy33 =>
    intro w' hSw
    try dsimp only at hSw
    go_simp
    first | done | with_reducible rfl
  try simp only [Act.put, zq1, zq2, zq3, zq4, zq5, zq6]
  refine wpAnyH_take (i := 33) (v := ?v34) rfl (by kernel_rfl) (by kernel_rfl) (by kernel_rfl) (fun _ _ _ h => h) (Or.inl ⟨by rfl, ?hy34⟩) hHeld ?rest34
  case hy34 =>
    intro w' hSw
    try dsimp only at hSw
    go_simp
    first | done | with_reducible rfl
  try simp only [Act.put, zq1, zq2, zq3, zq4, zq5, zq6]
  refine wpAnyH_take (i := 34) (v := ?v35) rfl (by kernel_rfl) (by kernel_rfl) (by kernel_rfl) (fun _ _ _ h => h) (Or.inl ⟨by rfl, ?hy35⟩) hHeld ?rest35
  case hy35 =>
    intro w' hSw
    try dsimp only at hSw
    go_simp
    first | done | with_reducible rfl
  try simp only [Act.put, zq1, zq2, zq3, zq4, zq5, zq6]
  refine wpAnyH_take (i := 35) (v := ?v36) rfl (by kernel_rfl) (by kernel_rfl) (by kernel_rfl) (fun _ _ _ h => h) (Or.inl ⟨by rfl, ?hy36⟩) hHeld ?rest36
  case hy36 =>
    intro w' hSw
    try dsimp only at hSw
    go_simp
    first | done | with_reducible rfl
  try simp only [Act.put, zq1, zq2, zq3, zq4, zq5, zq6]
  refine wpAnyH_take (i := 36) (v := ?v37) rfl (by kernel_rfl) (by kernel_rfl) (by kernel_rfl) (fun _ _ _ h => h) (Or.inl ⟨by rfl, ?hy37⟩) hHeld ?rest37
  case hy37 =>
    intro w' hSw
    try dsimp only at hSw
    go_simp
    first | done | with_reducible rfl
  try simp only [Act.put, zq1, zq2, zq3, zq4, zq5, zq6]
  refine wpAnyH_take (i := 37) (v := ?v38) rfl (by kernel_rfl) (by kernel_rfl) (by kernel_rfl) (fun _ _ _ h => h) (Or.inl ⟨by rfl, ?hy38⟩) hHeld ?rest38
  case hy38 =>
    intro w' hSw
    try dsimp only at hSw
    go_simp
    first | done | with_reducible rfl
  try simp only [Act.put, zq1, zq2, zq3, zq4, zq5, zq6]
  refine wpAnyH_take (i := 38) (v := ?v39) rfl (by kernel_rfl) (by kernel_rfl) (by kernel_rfl) (fun _ _ _ h => h) (Or.inl ⟨by rfl, ?hy39⟩) hHeld ?rest39
  case hy39 =>
    intro w' hSw
    try dsimp only at hSw
    go_simp
    first | done | with_reducible rfl
  try simp only [Act.put, zq1, zq2, zq3, zq4, zq5, zq6]
  refine wpAnyH_take (i := 39) (v := ?v40) rfl (by kernel_rfl) (by kernel_rfl) (by kernel_rfl) (fun _ _ _ h => h) (Or.inl ⟨by rfl, ?hy40⟩) hHeld ?rest40
  case hy40 =>
    intro w' hSw
    try dsimp only at hSw
    go_simp
    first | done | with_reducible rfl
  try simp only [Act.put, zq1, zq2, zq3, zq4, zq5, zq6]
  refine wpAnyH_done (by kernel_rfl) ?_ _
  refine OnlyN.normal ?_
  clear hHeld d2 d3 d4 d4' d5 d6 d7
  generalize W.drew = V at G1 K1 T1 L1 Z3 ⊢
  have U0 := Lib.hid (un_new (s := w.heap.size) w V [(w.heap.size, 59, (c9 X Y z)), (w.heap.size + 1, 62, #[.slice A c.keep.length cap, .int .i64 c.torn, .int .i64 c.bytes]), (w.heap.size + 2, 65, #[.int .i64 f, .int .u32 (b : Int)])] zz (by have := Z1.out; omega) Z1.out.2 Z3.out (by simp only [List.forall_mem_cons]; exact ⟨G1.out, K1.out, T1.out, fun _ h => nomatch h⟩) (by simp) L1.out)
  have hz := z53
  go_wp2_with (go_at_call 22; refine U0.out.mono ?_; rintro e w1 ⟨rfl, hu, hs⟩; have U1 := Lib.hid (show Un w.heap.size w (w1.alloc (.cells #[.bool false, .bool false] 50)) [(w.heap.size + 5, 50, #[.bool false, .bool false]), (w.heap.size, 59, (c9 X Y z)), (w.heap.size + 1, 62, #[.slice A c.keep.length cap, .int .i64 c.torn, .int .i64 c.bytes]), (w.heap.size + 2, 65, #[.int .i64 f, .int .u32 (b : Int)])] zz (fun _ => zs) [] 0 from (show w1.heap.size = w.heap.size + 5 from hs) ▸ hu.push _ _); have S1 := Lib.hid hs; clear hu hs)
  rw [S1.out]
  clear U0 G1 K1 T1 L1 Z3 m1 m2 S1
  generalize w1.alloc (.cells #[.bool false, .bool false] 50) = w2 at U1 ⊢
  go_loopw [13] (fun i wr => (i = .int .i64 0 ∧ Un w.heap.size w wr [(w.heap.size + 5, 50, #[.bool false, .bool false]), (w.heap.size, 59, (c9 X Y z)), (w.heap.size + 1, 62, #[.slice A c.keep.length cap, .int .i64 c.torn, .int .i64 c.bytes]), (w.heap.size + 2, 65, #[.int .i64 f, .int .u32 (b : Int)])] zz (fun _ => zs) [] 0) ∨ (i = .int .i64 1 ∧ Un w.heap.size w wr [(w.heap.size + 5, 50, #[.bool bx, .bool false]), (w.heap.size, 59, (c9 X Y z)), (w.heap.size + 1, 62, #[.slice A c.keep.length cap, .int .i64 c.torn, .int .i64 c.bytes]), (w.heap.size + 2, 65, #[.int .i64 f, .int .u32 (b : Int)])] zz (putL (fun _ => zs) 0 X) [] 2) ∨ (i = .int .i64 2 ∧ Un w.heap.size w wr [(w.heap.size + 5, 50, #[.bool bx, .bool bY]), (w.heap.size, 59, (c9 X Y z)), (w.heap.size + 1, 62, #[.slice A c.keep.length cap, .int .i64 c.torn, .int .i64 c.bytes]), (w.heap.size + 2, 65, #[.int .i64 f, .int .u32 (b : Int)])] zz (twoL X Y) [] 4)) (fun i _ => 2 - (intOf i).toNat)
  case atStart => exact .inl ⟨rfl, U1.out⟩
  case round =>
    clear U1
    rcases hrel with ⟨rfl, hu⟩ | ⟨rfl, hu⟩ | ⟨rfl, hu⟩
    · as_aux_lemma =>
      have UU := Lib.hid hu
      clear hu
      have RX := Lib.hid (show wr.rangeAt w.heap.size 0 X.cs from (rng9 (UU.out.at_ 1 rfl)).1)
      go_wp2_with (first
        | (refine wpList_load_mid rfl 28 (.tmp 90) rfl w.heap.size 0 rfl X.cs _ RX.out Try.underlying28 rfl (size23 _) ?_)
        | (go_at_call 11; refine (un_writeq UU.out 0 0 rfl (by decide) X XE.out XZ.out (by decide) bx BX.out).mono ?_; rintro e w3 ⟨q, rfl, g1, g2, hu⟩; have U3 := Lib.hid hu; clear hu; have c0 := ((U3.out.at_ 0 rfl).cell 0).trans (show _ = some (.bool false) from rfl); have z0 := (U3.out.at_ 0 rfl).frozen 0)
        | (go_at_call 12; refine (num8_any _ _).mono ?_; rintro e w' ⟨rfl, rfl⟩))
      have U4 := Lib.hid (show Un w.heap.size w _ [(w.heap.size + 5, 50, #[.bool bx, .bool false]), (w.heap.size, 59, (c9 X Y z)), (w.heap.size + 1, 62, #[.slice A c.keep.length cap, .int .i64 c.torn, .int .i64 c.bytes]), (w.heap.size + 2, 65, #[.int .i64 f, .int .u32 (b : Int)])] zz (fun _ => zs) (if X.ok then [(0, hdB X)] else []) 1 from (U3.out.cell 0 rfl (by omega) 0 (.bool bx)))
      clear c0 z0 UU U3 g1 g2
      generalize w3.setCell ⟨w.heap.size + 5, 0, none⟩ (.bool bx) = w4 at U4 ⊢
      replace U4 := Lib.hid U4.out.drew
      refine wp_region_only (S := fun w' => w'.cell? ⟨w.heap.size + 5, 0, none⟩ = some (.bool bx) ∧ w'.rangeAt w.heap.size 0 X.cs) (by kernel_rfl) ⟨((U4.out.at_ 0 rfl).cell 0).trans rfl, (rng9 (U4.out.at_ 1 rfl)).1⟩ (fun hHeld => ?_)
      refine wpAnyH_take (i := 0) (v := ?v41) rfl (by kernel_rfl) (by kernel_rfl) (by kernel_rfl) (fun _ _ _ h => h) (Or.inl ⟨by rfl, ?hy41⟩) hHeld ?rest41
      case hy41 =>
        intro w' hSw
        try dsimp only at hSw
        go_simp
        first | done | with_reducible rfl
      try simp only [Act.put, zq1, zq3, zq4, zq5, zq6]
      refine wpAnyH_take (i := 1) (v := ?v42) rfl (by kernel_rfl) (by kernel_rfl) (by kernel_rfl) (fun _ _ _ h => h) (Or.inl ⟨by rfl, ?hy42⟩) hHeld ?rest42
      case hy42 =>
        intro w' hSw
        try dsimp only at hSw
        go_simp
        first | done | with_reducible rfl
      try simp only [Act.put, zq1, zq2, zq3, zq4, zq5, zq6]
      refine wpAnyH_take (i := 2) (v := ?v43) rfl (by kernel_rfl) (by kernel_rfl) (by kernel_rfl) (fun _ _ _ h => h) (Or.inl ⟨by rfl, ?hy43⟩) hHeld ?rest43
      case hy43 =>
        intro w' hSw
        try dsimp only at hSw
        go_simp
        first | done | with_reducible rfl
      try simp only [Act.put, zq1, zq2, zq3, zq4, zq5, zq6]
      refine wpAnyH_take (i := 3) (v := ?v44) rfl (by kernel_rfl) (by kernel_rfl) (by kernel_rfl) (fun _ _ _ h => h) (Or.inl ⟨by rfl, ?hy44⟩) hHeld ?rest44
      case hy44 =>
        intro w' hSw
        try dsimp only at hSw
        go_simp
        first | done | with_reducible rfl
      try simp only [Act.put, zq1, zq2, zq3, zq4, zq5, zq6]
      refine wpAnyH_take (i := 4) (v := ?v45) rfl (by kernel_rfl) (by kernel_rfl) (by kernel_rfl) (fun _ _ _ h => h) (Or.inl ⟨by rfl, ?hy45⟩) hHeld ?rest45
      case hy45 =>
        intro w' hSw
        try dsimp only at hSw
        go_simp
        first | done | with_reducible rfl
      try simp only [Act.put, zq1, zq2, zq3, zq4, zq5, zq6]
      refine wpAnyH_take (i := 5) rfl (by kernel_rfl) (by kernel_rfl) (by kernel_rfl) (fun _ _ _ h => h) (yieldsIf_load_mid (by rfl) 28 (.tmp 102) (by rfl) w.heap.size 0 (by rfl) X.cs _ (fun w' hSw => hSw.2) Try.underlying28 rfl (size23 _)) hHeld ?_
      try simp only [Act.put, zq1, zq2, zq3, zq4, zq5, zq6]
      refine wpAnyH_ready (rs := [6]) (by kernel_rfl) (by simp) ?_
      refine AllReadyH.cons (by rfl) (fun K hK => ?_) AllReadyH.nil
      go_simp
      refine (un_checkq U4.out X bx BX.out).mono ?_
      rintro e w5 ⟨q, rfl, e1, e2, hu⟩
      replace U4 := Lib.hid hu
      clear hu hHeld
      go_wp2_with fail
      refine hK.out _ _ ⟨((U4.out.at_ 0 rfl).cell 0).trans rfl, (rng9 (U4.out.at_ 1 rfl)).1⟩ (fun hHeld => ?_)
      clear hK K
      try simp only [Act.put, zq1, zq2, zq3, zq4, zq5, zq6]
      refine wpAnyH_ready (rs := [7]) (by kernel_rfl) (by simp) ?_
      refine AllReadyH.cons (by rfl) (fun K hK => ?_) AllReadyH.nil
      go_simp
      refine (num8_any _ _).mono ?_
      rintro e y1 ⟨rfl, rfl⟩
      clear hHeld
      refine hK.out _ _ ⟨((U4.out.at_ 0 rfl).cell 0).trans rfl, (rng9 (U4.out.at_ 1 rfl)).1⟩ (fun hHeld => ?_)
      clear hK K
      try simp only [Act.put, zq1, zq2, zq3, zq4, zq5, zq6]
      refine wpAnyH_take (i := 8) (v := ?v46) rfl (by kernel_rfl) (by kernel_rfl) (by kernel_rfl) (fun _ _ _ h => h) (Or.inl ⟨by rfl, ?hy46⟩) hHeld ?rest46
      case hy46 =>
        intro w' hSw
        try dsimp only at hSw
        go_simp
        first | done | with_reducible rfl
      try simp only [Act.put, zq1, zq2, zq3, zq4, zq5, zq6]
      refine wpAnyH_take (i := 9) (v := ?v47) rfl (by kernel_rfl) (by kernel_rfl) (by kernel_rfl) (fun _ _ _ h => h) (Or.inl ⟨by rfl, ?hy47⟩) hHeld ?rest47
      case hy47 =>
        intro w' hSw
        try dsimp only at hSw
        go_simp
        first | done | with_reducible rfl
      try simp only [Act.put, zq1, zq2, zq3, zq4, zq5, zq6]
      refine wpAnyH_take (i := 10) (v := ?v48) rfl (by kernel_rfl) (by kernel_rfl) (by kernel_rfl) (fun _ _ _ h => h) (Or.inl ⟨by rfl, ?hy48⟩) hHeld ?rest48
      case hy48 =>
        intro w' hSw
        try dsimp only at hSw
        go_simp
        first | done | with_reducible rfl
      try simp only [Act.put, zq1, zq2, zq3, zq4, zq5, zq6]
      refine wpAnyH_take (i := 11) (v := ?v49) rfl (by kernel_rfl) (by kernel_rfl) (by kernel_rfl) (fun _ _ _ h => h) (Or.inl ⟨by rfl, ?hy49⟩) hHeld ?rest49
      case hy49 =>
        intro w' hSw
        try dsimp only at hSw
        go_simp
        first | done | with_reducible rfl
      try simp only [Act.put, zq1, zq2, zq3, zq4, zq5, zq6]
      refine wpAnyH_ready (rs := [12]) (by kernel_rfl) (by simp) ?_
      refine AllReadyH.cons (by rfl) (fun K hK => ?_) AllReadyH.nil
      go_simp
      refine (un_flush U4.out (by decide)).mono ?_
      rintro e w6 ⟨rfl, hu⟩
      replace U4 := Lib.hid hu
      clear hu hHeld
      go_wp2_with fail
      refine hK.out _ _ ⟨((U4.out.at_ 0 rfl).cell 0).trans rfl, (rng9 (U4.out.at_ 1 rfl)).1⟩ (fun hHeld => ?_)
      clear hK K
      try simp only [Act.put, zq1, zq2, zq3, zq4, zq5, zq6]
      refine wpAnyH_ready (rs := [13]) (by kernel_rfl) (by simp) ?_
      refine AllReadyH.cons (by rfl) (fun K hK => ?_) AllReadyH.nil
      go_simp
      refine (num8_any _ _).mono ?_
      rintro e y1 ⟨rfl, rfl⟩
      clear hHeld
      refine hK.out _ _ ⟨((U4.out.at_ 0 rfl).cell 0).trans rfl, (rng9 (U4.out.at_ 1 rfl)).1⟩ (fun hHeld => ?_)
      clear hK K
      try simp only [Act.put, zq1, zq2, zq3, zq4, zq5, zq6]
      refine wpAnyH_take (i := 14) (v := ?v50) rfl (by kernel_rfl) (by kernel_rfl) (by kernel_rfl) (fun _ _ _ h => h) (Or.inl ⟨by rfl, ?hy50⟩) hHeld ?rest50
      case hy50 =>
        intro w' hSw
        try dsimp only at hSw
        go_simp
        first | done | with_reducible rfl
      try simp only [Act.put, zq1, zq2, zq3, zq4, zq5, zq6]
      refine wpAnyH_take (i := 15) (v := ?v51) rfl (by kernel_rfl) (by kernel_rfl) (by kernel_rfl) (fun _ _ _ h => h) (Or.inl ⟨by rfl, ?hy51⟩) hHeld ?rest51
      case hy51 =>
        intro w' hSw
        try dsimp only at hSw
        go_simp
        first | done | with_reducible rfl
      try simp only [Act.put, zq1, zq2, zq3, zq4, zq5, zq6]
      refine wpAnyH_done (by kernel_rfl) ?_ _
      refine OnlyN.normal ?_
      clear hHeld
      go_wp2_with fail
      go_roundw
      case rel => exact .inr (.inl ⟨by go_num, U4.out⟩)
      case measure => simp [intOf]
    · as_aux_lemma =>
      have UU := Lib.hid hu
      clear hu
      have RX := Lib.hid (show wr.rangeAt w.heap.size 3 Y.cs from (rng9 (UU.out.at_ 1 rfl)).2.1)
      go_wp2_with (first
        | (refine wpList_load_mid rfl 28 (.tmp 90) rfl w.heap.size 3 rfl Y.cs _ RX.out Try.underlying28 rfl (size23 _) ?_)
        | (go_at_call 11; refine (un_writeq UU.out 1 1 rfl (by decide) Y YE.out YZ.out (by decide) bY BY.out).mono ?_; rintro e w3 ⟨q, rfl, g1, g2, hu⟩; have U3 := Lib.hid hu; clear hu; have c0 := ((U3.out.at_ 0 rfl).cell 1).trans (show _ = some (.bool false) from rfl); have z0 := (U3.out.at_ 0 rfl).frozen 1)
        | (go_at_call 12; refine (num8_any _ _).mono ?_; rintro e w' ⟨rfl, rfl⟩))
      have U4 := Lib.hid (show Un w.heap.size w _ [(w.heap.size + 5, 50, #[.bool bx, .bool bY]), (w.heap.size, 59, (c9 X Y z)), (w.heap.size + 1, 62, #[.slice A c.keep.length cap, .int .i64 c.torn, .int .i64 c.bytes]), (w.heap.size + 2, 65, #[.int .i64 f, .int .u32 (b : Int)])] zz (putL (fun _ => zs) 0 X) (if Y.ok then [(1, hdB Y)] else []) 3 from (U3.out.cell 0 rfl (by omega) 1 (.bool bY)))
      clear c0 z0 UU U3 g1 g2
      generalize w3.setCell ⟨w.heap.size + 5, 1, none⟩ (.bool bY) = w4 at U4 ⊢
      replace U4 := Lib.hid U4.out.drew
      refine wp_region_only (S := fun w' => w'.cell? ⟨w.heap.size + 5, 1, none⟩ = some (.bool bY) ∧ w'.rangeAt w.heap.size 3 Y.cs) (by kernel_rfl) ⟨((U4.out.at_ 0 rfl).cell 1).trans rfl, (rng9 (U4.out.at_ 1 rfl)).2.1⟩ (fun hHeld => ?_)
      refine wpAnyH_take (i := 0) (v := ?v52) rfl (by kernel_rfl) (by kernel_rfl) (by kernel_rfl) (fun _ _ _ h => h) (Or.inl ⟨by rfl, ?hy52⟩) hHeld ?rest52
      case hy52 =>
        intro w' hSw
        try dsimp only at hSw
        go_simp
        first | done | with_reducible rfl
      try simp only [Act.put, zq1, zq3, zq4, zq5, zq6]
      refine wpAnyH_take (i := 1) (v := ?v53) rfl (by kernel_rfl) (by kernel_rfl) (by kernel_rfl) (fun _ _ _ h => h) (Or.inl ⟨by rfl, ?hy53⟩) hHeld ?rest53
      case hy53 =>
        intro w' hSw
        try dsimp only at hSw
        go_simp
        first | done | with_reducible rfl
      try simp only [Act.put, zq1, zq2, zq3, zq4, zq5, zq6]
      refine wpAnyH_take (i := 2) (v := ?v54) rfl (by kernel_rfl) (by kernel_rfl) (by kernel_rfl) (fun _ _ _ h => h) (Or.inl ⟨by rfl, ?hy54⟩) hHeld ?rest54
      case hy54 =>
        intro w' hSw
        try dsimp only at hSw
        go_simp
        first | done | with_reducible rfl
      try simp only [Act.put, zq1, zq2, zq3, zq4, zq5, zq6]
      refine wpAnyH_take (i := 3) (v := ?v55) rfl (by kernel_rfl) (by kernel_rfl) (by kernel_rfl) (fun _ _ _ h => h) (Or.inl ⟨by rfl, ?hy55⟩) hHeld ?rest55
      case hy55 =>
        intro w' hSw
        try dsimp only at hSw
        go_simp
        first | done | with_reducible rfl
      try simp only [Act.put, zq1, zq2, zq3, zq4, zq5, zq6]
      refine wpAnyH_take (i := 4) (v := ?v56) rfl (by kernel_rfl) (by kernel_rfl) (by kernel_rfl) (fun _ _ _ h => h) (Or.inl ⟨by rfl, ?hy56⟩) hHeld ?rest56
      case hy56 =>
        intro w' hSw
        try dsimp only at hSw
        go_simp
        first | done | with_reducible rfl
      try simp only [Act.put, zq1, zq2, zq3, zq4, zq5, zq6]
      refine wpAnyH_take (i := 5) rfl (by kernel_rfl) (by kernel_rfl) (by kernel_rfl) (fun _ _ _ h => h) (yieldsIf_load_mid (by rfl) 28 (.tmp 102) (by rfl) w.heap.size 3 (by rfl) Y.cs _ (fun w' hSw => hSw.2) Try.underlying28 rfl (size23 _)) hHeld ?_
      try simp only [Act.put, zq1, zq2, zq3, zq4, zq5, zq6]
      refine wpAnyH_ready (rs := [6]) (by kernel_rfl) (by simp) ?_
      refine AllReadyH.cons (by rfl) (fun K hK => ?_) AllReadyH.nil
      go_simp
      refine (un_checkq U4.out Y bY BY.out).mono ?_
      rintro e w5 ⟨q, rfl, e1, e2, hu⟩
      replace U4 := Lib.hid hu
      clear hu hHeld
      go_wp2_with fail
      refine hK.out _ _ ⟨((U4.out.at_ 0 rfl).cell 1).trans rfl, (rng9 (U4.out.at_ 1 rfl)).2.1⟩ (fun hHeld => ?_)
      clear hK K
      try simp only [Act.put, zq1, zq2, zq3, zq4, zq5, zq6]
      refine wpAnyH_ready (rs := [7]) (by kernel_rfl) (by simp) ?_
      refine AllReadyH.cons (by rfl) (fun K hK => ?_) AllReadyH.nil
      go_simp
      refine (num8_any _ _).mono ?_
      rintro e y1 ⟨rfl, rfl⟩
      clear hHeld
      refine hK.out _ _ ⟨((U4.out.at_ 0 rfl).cell 1).trans rfl, (rng9 (U4.out.at_ 1 rfl)).2.1⟩ (fun hHeld => ?_)
      clear hK K
      try simp only [Act.put, zq1, zq2, zq3, zq4, zq5, zq6]
      refine wpAnyH_take (i := 8) (v := ?v57) rfl (by kernel_rfl) (by kernel_rfl) (by kernel_rfl) (fun _ _ _ h => h) (Or.inl ⟨by rfl, ?hy57⟩) hHeld ?rest57
      case hy57 =>
        intro w' hSw
        try dsimp only at hSw
        go_simp
        first | done | with_reducible rfl
      try simp only [Act.put, zq1, zq2, zq3, zq4, zq5, zq6]
      refine wpAnyH_take (i := 9) (v := ?v58) rfl (by kernel_rfl) (by kernel_rfl) (by kernel_rfl) (fun _ _ _ h => h) (Or.inl ⟨by rfl, ?hy58⟩) hHeld ?rest58
      case hy58 =>
        intro w' hSw
        try dsimp only at hSw
        go_simp
        first | done | with_reducible rfl
      try simp only [Act.put, zq1, zq2, zq3, zq4, zq5, zq6]
      refine wpAnyH_take (i := 10) (v := ?v59) rfl (by kernel_rfl) (by kernel_rfl) (by kernel_rfl) (fun _ _ _ h => h) (Or.inl ⟨by rfl, ?hy59⟩) hHeld ?rest59
      case hy59 =>
        intro w' hSw
        try dsimp only at hSw
        go_simp
        first | done | with_reducible rfl
      try simp only [Act.put, zq1, zq2, zq3, zq4, zq5, zq6]
      refine wpAnyH_take (i := 11) (v := ?v60) rfl (by kernel_rfl) (by kernel_rfl) (by kernel_rfl) (fun _ _ _ h => h) (Or.inl ⟨by rfl, ?hy60⟩) hHeld ?rest60
      case hy60 =>
        intro w' hSw
        try dsimp only at hSw
        go_simp
        first | done | with_reducible rfl
      try simp only [Act.put, zq1, zq2, zq3, zq4, zq5, zq6]
      refine wpAnyH_ready (rs := [12]) (by kernel_rfl) (by simp) ?_
      refine AllReadyH.cons (by rfl) (fun K hK => ?_) AllReadyH.nil
      go_simp
      refine (un_flush U4.out (by decide)).mono ?_
      rintro e w6 ⟨rfl, hu⟩
      replace U4 := Lib.hid hu
      clear hu hHeld
      go_wp2_with fail
      refine hK.out _ _ ⟨((U4.out.at_ 0 rfl).cell 1).trans rfl, (rng9 (U4.out.at_ 1 rfl)).2.1⟩ (fun hHeld => ?_)
      clear hK K
      try simp only [Act.put, zq1, zq2, zq3, zq4, zq5, zq6]
      refine wpAnyH_ready (rs := [13]) (by kernel_rfl) (by simp) ?_
      refine AllReadyH.cons (by rfl) (fun K hK => ?_) AllReadyH.nil
      go_simp
      refine (num8_any _ _).mono ?_
      rintro e y1 ⟨rfl, rfl⟩
      clear hHeld
      refine hK.out _ _ ⟨((U4.out.at_ 0 rfl).cell 1).trans rfl, (rng9 (U4.out.at_ 1 rfl)).2.1⟩ (fun hHeld => ?_)
      clear hK K
      try simp only [Act.put, zq1, zq2, zq3, zq4, zq5, zq6]
      refine wpAnyH_take (i := 14) (v := ?v61) rfl (by kernel_rfl) (by kernel_rfl) (by kernel_rfl) (fun _ _ _ h => h) (Or.inl ⟨by rfl, ?hy61⟩) hHeld ?rest61
      case hy61 =>
        intro w' hSw
        try dsimp only at hSw
        go_simp
        first | done | with_reducible rfl
      try simp only [Act.put, zq1, zq2, zq3, zq4, zq5, zq6]
      refine wpAnyH_take (i := 15) (v := ?v62) rfl (by kernel_rfl) (by kernel_rfl) (by kernel_rfl) (fun _ _ _ h => h) (Or.inl ⟨by rfl, ?hy62⟩) hHeld ?rest62
      case hy62 =>
        intro w' hSw
        try dsimp only at hSw
        go_simp
        first | done | with_reducible rfl
      try simp only [Act.put, zq1, zq2, zq3, zq4, zq5, zq6]
      refine wpAnyH_done (by kernel_rfl) ?_ _
      refine OnlyN.normal ?_
      clear hHeld
      go_wp2_with fail
      go_roundw
      case rel => exact .inr (.inr ⟨by go_num, U4.out⟩)
      case measure => simp [intOf]
    · have UU := Lib.hid hu
      clear hu
      have RZ := Lib.hid (show wr.rangeAt w.heap.size 6 z.cs from (rng9 (UU.out.at_ 1 rfl)).2.2)
      by_cases hzk : z.ok
      · have ZK := Lib.hid hzk
        clear hzk
        have SC := Lib.hid (seen_crash (sl := 0) (o := 1) (k := c.kn 0) (U := twoL X Y) (by decide) (twoL_0 X Y) (twoL_1 X Y) BY.out ZK.out ZE.out ZZ.out XE.out YE.out XO.out YZ.out HNE.out (kn_le c HB0.out HB5.out 0))
        obtain ⟨N0, N1, bs, hV0, hV1, hBs⟩ : ∃ N0 N1 bs, gotH zz ((upL (twoL X Y) 0 (tornL (hdB z) (twoL X Y 0) (c.kn 0))) 0) = N0 ∧ gotH zz ((upL (twoL X Y) 0 (tornL (hdB z) (twoL X Y 0) (c.kn 0))) 1) = N1 ∧ gotB zz ((upL (twoL X Y) 0 (tornL (hdB z) (twoL X Y 0) (c.kn 0))) 0) = bs := ⟨_, _, _, rfl, rfl, rfl⟩
        have HBO := Lib.hid (show gotB zz ((upL (twoL X Y) 0 (tornL (hdB z) (twoL X Y 0) (c.kn 0))) 1) = bY from SC.out.1)
        have HN := Lib.hid (show bY = true → N1 = Y from fun h => hV1 ▸ SC.out.2.1 h)
        have HS := Lib.hid (show bs = true → N0 = z ∨ X.ok ∧ N0 = X from fun h => hV0 ▸ SC.out.2.2 (hBs ▸ h))
        have HV := Lib.hid (show gotH zz ((upL (twoL X Y) 0 (tornL (hdB z) (twoL X Y 0) (c.kn 0))) 0) = N0 ∧ gotH zz ((upL (twoL X Y) 0 (tornL (hdB z) (twoL X Y 0) (c.kn 0))) 1) = N1 ∧ gotB zz ((upL (twoL X Y) 0 (tornL (hdB z) (twoL X Y 0) (c.kn 0))) 0) = bs from ⟨hV0, hV1, hBs⟩)
        clear SC hV0 hV1 hBs
        have hz1 := z52
        go_wp2_with (first
          | (refine wpList_load_mid rfl 28 (.tmp 116) rfl w.heap.size 6 rfl z.cs _ RZ.out Try.underlying28 rfl (size23 _) ?_)
          | (go_at_call 11; refine (un_writeq UU.out 0 0 rfl (by decide) z ZE.out ZZ.out (by decide) true (by rw [decide_eq_true ZK.out])).mono ?_; rintro e w3 ⟨q, rfl, g1, g2, hu⟩; have U3 := Lib.hid hu; clear hu; have k0 := ((U3.out.at_ 2 rfl).cell 0).trans (show _ = some (.slice A c.keep.length cap) from rfl); have k1 := ((U3.out.at_ 2 rfl).cell 1).trans (show _ = some (.int .i64 c.torn) from rfl); have k2 := ((U3.out.at_ 2 rfl).cell 2).trans (show _ = some (.int .i64 c.bytes) from rfl); simp only [Bool.not_true] at g2)
          | (go_at_call 12; refine (num8_any _ _).mono ?_; rintro e w' ⟨rfl, rfl⟩)
          | (go_at_call 25; refine (show Calls Try.prog _ #[.pointer (some ⟨w.heap.size + 4, 0, none⟩), .agg #[.slice A c.keep.length cap, .int .i64 c.torn, .int .i64 c.bytes]] w3 _ from un_crash (show Un w.heap.size w w3 [(w.heap.size + 5, 50, #[.bool bx, .bool bY]), (w.heap.size, 59, (c9 X Y z)), (w.heap.size + 1, 62, #[.slice A c.keep.length cap, .int .i64 c.torn, .int .i64 c.bytes]), (w.heap.size + 2, 65, #[.int .i64 f, .int .u32 (b : Int)])] zz (twoL X Y) [(0, hdB z)] 5 from by have h := U3.out; rw [if_pos ZK.out] at h; exact h) c A cap HR.out rfl HB0.out HB5.out).mono ?_; rintro e w4 ⟨p', pl', B', rfl, hc, hu⟩; have C4 := Lib.hid hc; have U4 := Lib.hid hu; clear hc hu k0 k1 k2)
          | (go_at_call 20; have hB := un_bothB U4.out C4.out Z1.out.1; rw [HV.out.1, HV.out.2.1, HV.out.2.2, HBO.out] at hB; refine hB.mono ?_; clear hB; rintro e w5 ⟨rfl, hu⟩; have S5 := Lib.hid hu.size; have U5 := Lib.hid (hu.push2 49 50 (cs2 hd0 hd0).toArray #[.bool false, .bool false]); clear hu)
          | (refine wpList_store_g8 rfl 49 (.tmp 18) (.tmp 149) rfl (g := w5.heap.size) (by rfl) (cs2 N0 N1).toArray (cs2 hd0 hd0).toArray 49 (by rfl) (U5.out.at_ 1 rfl) (by kernel_rfl) rfl (cs2_one _ _) ?_; intro w6 j f6; have U6 := Lib.hid (U5.out.set 1 rfl (by have := S5.out; omega) f6 j); clear j f6)
          | (refine wpList_store_g8 rfl 50 (.tmp 19) (.tmp 150) rfl (g := w5.heap.size + 1) (by rfl) #[.bool bs, .bool bY] #[.bool false, .bool false] 50 (by rfl) (U6.out.at_ 0 rfl) (by kernel_rfl) rfl (by simp [Value.oneCell']) ?_; intro w7 j f6; have U7 := Lib.hid (show Un w.heap.size w w7 [(w5.heap.size + 1, 50, #[.bool bs, .bool bY]), (w5.heap.size, 49, (cs2 N0 N1).toArray), (w.heap.size + 5, 50, #[.bool bx, .bool bY]), (w.heap.size, 59, (c9 X Y z)), (w.heap.size + 1, 62, #[.slice A c.keep.length cap, .int .i64 c.torn, .int .i64 c.bytes]), (w.heap.size + 2, 65, #[.int .i64 f, .int .u32 (b : Int)])] zz (twoL X Y) [(0, hdB z)] 5 from U6.out.set 0 rfl (by have := S5.out; omega) f6 j); clear j f6))
        clear g1 g2 HV HBO U3 U4 U5 U6 C4 UU RZ hz hz1
        replace U7 := Lib.hid U7.out.drew
        have hw1 : IntKind.i64.wrap 1 = 1 := IntWalk.i64_in _ (by omega)
        have hw0 : IntKind.i64.wrap 0 = 0 := IntWalk.i64_in _ (by omega)
        refine region_mid8 (fun ac v => ((((((((((((((((((((((((((((((((((((((((((((((((((((((((((((((ac.put (some 152) (v 152)).put (some 153) (v 153)).put (some 154) (v 154)).put (some 155) (v 155)).put (some 156) (v 156)).put (some 157) (v 157)).put (some 158) (v 158)).put (some 159) (v 159)).put (some 160) (v 160)).put (some 161) (v 161)).put (some 162) (v 162)).put (some 163) (v 163)).put (some 164) (v 164)).put (some 165) (v 165)).put (some 166) (v 166)).put (some 167) (v 167)).put (some 168) (v 168)).put (some 169) (v 169)).put (some 170) (v 170)).put (some 171) (v 171)).put (some 172) (v 172)).put (some 173) (v 173)).put (some 174) (v 174)).put (some 175) (v 175)).put (some 176) (v 176)).put (some 177) (v 177)).put (some 178) (v 178)).put (some 179) (v 179)).put (some 180) (v 180)).put (some 181) (v 181)).put (some 182) (v 182)).put (some 183) (v 183)).put (some 184) (v 184)).put (some 185) (v 185)).put (some 186) (v 186)).put (some 187) (v 187)).put (some 188) (v 188)).put (some 189) (v 189)).put (some 190) (v 190)).put (some 191) (v 191)).put (some 192) (v 192)).put (some 193) (v 193)).put (some 194) (v 194)).put (some 195) (v 195)).put (some 196) (v 196)).put (some 197) (v 197)).put (some 198) (v 198)).put (some 199) (v 199)).put (some 200) (v 200)).put (some 201) (v 201)).put (some 202) (v 202)).put (some 203) (v 203)).put (some 204) (v 204)).put (some 205) (v 205)).put (some 206) (v 206)).put (some 207) (v 207)).put (some 208) (v 208)).put (some 209) (v 209)).put (some 210) (v 210)).put (some 211) (v 211)).put (some 212) (v 212)).put (some 213) (.bool false))) w7.drew ?mid ?rest
        case mid => as_aux_lemma =>
          refine wp_region_only (S := fun w' => w'.cell? ⟨w.heap.size + 5, 0, none⟩ = some (.bool bx) ∧ w'.cell? ⟨w.heap.size + 5, 1, none⟩ = some (.bool bY) ∧ w'.cell? ⟨w5.heap.size + 1, 0, none⟩ = some (.bool bs) ∧ w'.cell? ⟨w5.heap.size + 1, 1, none⟩ = some (.bool bY) ∧ w'.rangeAt w5.heap.size 0 N0.cs ∧ w'.rangeAt w5.heap.size 3 N1.cs ∧ w'.rangeAt w.heap.size 0 X.cs ∧ w'.rangeAt w.heap.size 3 Y.cs ∧ w'.rangeAt w.heap.size 6 z.cs) (by kernel_rfl) ⟨((U7.out.at_ 2 rfl).cell 0).trans rfl, ((U7.out.at_ 2 rfl).cell 1).trans rfl, ((U7.out.at_ 0 rfl).cell 0).trans rfl, ((U7.out.at_ 0 rfl).cell 1).trans rfl, (rng6 (U7.out.at_ 1 rfl)).1, (rng6 (U7.out.at_ 1 rfl)).2, (rng9 (U7.out.at_ 3 rfl)).1, (rng9 (U7.out.at_ 3 rfl)).2.1, (rng9 (U7.out.at_ 3 rfl)).2.2⟩ (fun hHeld => ?_)
          refine wpAnyH_take (i := 0) (v := ?v63) rfl (by kernel_rfl) (by kernel_rfl) (by kernel_rfl) (fun _ _ _ h => h) (Or.inl ⟨by rfl, ?hy63⟩) hHeld ?rest63
          case hy63 =>
            intro w' hSw
            try dsimp only at hSw
            go_simp
            first | done | with_reducible rfl
          try simp only [Act.put, zq1, zq3, zq4, zq5, zq6]
          refine wpAnyH_take (i := 2) (v := ?v64) rfl (by kernel_rfl) (by kernel_rfl) (by kernel_rfl) (fun _ _ _ h => h) (Or.inl ⟨by rfl, ?hy64⟩) hHeld ?rest64
          case hy64 =>
            intro w' hSw
            try dsimp only at hSw
            go_simp
            first | done | with_reducible rfl
          try simp only [Act.put, zq1, zq2, zq3, zq4, zq5, zq6]
          refine wpAnyH_ready (rs := [1]) (by kernel_rfl) (by simp) ?_
          refine AllReadyH.cons (by rfl) (fun K hK => ?_) AllReadyH.nil
          go_simp
          refine (num8_any _ _).mono ?_
          rintro e y1 ⟨rfl, rfl⟩
          clear hHeld
          refine hK.out _ _ ⟨((U7.out.at_ 2 rfl).cell 0).trans rfl, ((U7.out.at_ 2 rfl).cell 1).trans rfl, ((U7.out.at_ 0 rfl).cell 0).trans rfl, ((U7.out.at_ 0 rfl).cell 1).trans rfl, (rng6 (U7.out.at_ 1 rfl)).1, (rng6 (U7.out.at_ 1 rfl)).2, (rng9 (U7.out.at_ 3 rfl)).1, (rng9 (U7.out.at_ 3 rfl)).2.1, (rng9 (U7.out.at_ 3 rfl)).2.2⟩ (fun hHeld => ?_)
          clear hK K
          try simp only [Act.put, zq1, zq2, zq3, zq4, zq5, zq6]
          refine wpAnyH_ready (rs := [3]) (by kernel_rfl) (by simp) ?_
          refine AllReadyH.cons (by rfl) (fun K hK => ?_) AllReadyH.nil
          go_simp
          refine (num8_any _ _).mono ?_
          rintro e y1 ⟨rfl, rfl⟩
          clear hHeld
          refine hK.out _ _ ⟨((U7.out.at_ 2 rfl).cell 0).trans rfl, ((U7.out.at_ 2 rfl).cell 1).trans rfl, ((U7.out.at_ 0 rfl).cell 0).trans rfl, ((U7.out.at_ 0 rfl).cell 1).trans rfl, (rng6 (U7.out.at_ 1 rfl)).1, (rng6 (U7.out.at_ 1 rfl)).2, (rng9 (U7.out.at_ 3 rfl)).1, (rng9 (U7.out.at_ 3 rfl)).2.1, (rng9 (U7.out.at_ 3 rfl)).2.2⟩ (fun hHeld => ?_)
          clear hK K
          try simp only [Act.put, zq1, zq2, zq3, zq4, zq5, zq6]
          refine wpAnyH_take (i := 4) (v := ?v65) rfl (by kernel_rfl) (by kernel_rfl) (by kernel_rfl) (fun _ _ _ h => h) (Or.inl ⟨by rfl, ?hy65⟩) hHeld ?rest65
          case hy65 =>
            intro w' hSw
            try dsimp only at hSw
            go_simp
            first | done | with_reducible rfl
          try simp only [Act.put, zq1, zq2, zq3, zq4, zq5, zq6]
          refine wpAnyH_take (i := 5) (v := ?v66) rfl (by kernel_rfl) (by kernel_rfl) (by kernel_rfl) (fun _ _ _ h => h) (Or.inl ⟨by rfl, ?hy66⟩) hHeld ?rest66
          case hy66 =>
            intro w' hSw
            try dsimp only at hSw
            go_simp
            first | done | with_reducible rfl
          try simp only [Act.put, zq1, zq2, zq3, zq4, zq5, zq6]
          refine wpAnyH_take (i := 6) (v := ?v67) rfl (by kernel_rfl) (by kernel_rfl) (by kernel_rfl) (fun _ _ _ h => h) (Or.inl ⟨by rfl, ?hy67⟩) hHeld ?rest67
          case hy67 =>
            intro w' hSw
            try dsimp only at hSw
            go_simp
            first | done | with_reducible rfl
          try simp only [Act.put, zq1, zq2, zq3, zq4, zq5, zq6]
          refine wpAnyH_take (i := 7) (v := ?v68) rfl (by kernel_rfl) (by kernel_rfl) (by kernel_rfl) (fun _ _ _ h => h) (Or.inl ⟨by rfl, ?hy68⟩) hHeld ?rest68
          case hy68 =>
            intro w' hSw
            try dsimp only at hSw
            go_simp
            first | done | with_reducible rfl
          try simp only [Act.put, zq1, zq2, zq3, zq4, zq5, zq6]
          refine wpAnyH_take (i := 8) (v := ?v69) rfl (by kernel_rfl) (by kernel_rfl) (by kernel_rfl) (fun _ _ _ h => h) (Or.inl ⟨by rfl, ?hy69⟩) hHeld ?rest69
          case hy69 =>
            intro w' hSw
            try dsimp only at hSw
            go_simp
            first | done | with_reducible rfl
          try simp only [Act.put, zq1, zq2, zq3, zq4, zq5, zq6]
          refine wpAnyH_take (i := 9) (v := ?v70) rfl (by kernel_rfl) (by kernel_rfl) (by kernel_rfl) (fun _ _ _ h => h) (Or.inl ⟨by rfl, ?hy70⟩) hHeld ?rest70
          case hy70 =>
            intro w' hSw
            try dsimp only at hSw
            go_simp
            first | done | with_reducible rfl
          try simp only [Act.put, zq1, zq2, zq3, zq4, zq5, zq6]
          refine wpAnyH_take (i := 10) (v := ?v71) rfl (by kernel_rfl) (by kernel_rfl) (by kernel_rfl) (fun _ _ _ h => h) (Or.inl ⟨by rfl, ?hy71⟩) hHeld ?rest71
          case hy71 =>
            intro w' hSw
            try dsimp only at hSw
            go_simp
            first | done | with_reducible rfl
          try simp only [Act.put, zq1, zq2, zq3, zq4, zq5, zq6]
          refine wpAnyH_take (i := 11) (v := ?v72) rfl (by kernel_rfl) (by kernel_rfl) (by kernel_rfl) (fun _ _ _ h => h) (Or.inl ⟨by rfl, ?hy72⟩) hHeld ?rest72
          case hy72 =>
            intro w' hSw
            try dsimp only at hSw
            go_simp
            first | done | with_reducible rfl
          try simp only [Act.put, zq1, zq2, zq3, zq4, zq5, zq6]
          refine wpAnyH_take (i := 12) (v := ?v73) rfl (by kernel_rfl) (by kernel_rfl) (by kernel_rfl) (fun _ _ _ h => h) (Or.inl ⟨by rfl, ?hy73⟩) hHeld ?rest73
          case hy73 =>
            intro w' hSw
            try dsimp only at hSw
            go_simp
            first | done | with_reducible rfl
          try simp only [Act.put, zq1, zq2, zq3, zq4, zq5, zq6]
          refine wpAnyH_take (i := 13) (v := ?v74) rfl (by kernel_rfl) (by kernel_rfl) (by kernel_rfl) (fun _ _ _ h => h) (Or.inl ⟨by rfl, ?hy74⟩) hHeld ?rest74
          case hy74 =>
            intro w' hSw
            try dsimp only at hSw
            go_simp
            first | done | with_reducible rfl
          try simp only [Act.put, zq1, zq2, zq3, zq4, zq5, zq6]
          refine wpAnyH_take (i := 14) (v := ?v75) rfl (by kernel_rfl) (by kernel_rfl) (by kernel_rfl) (fun _ _ _ h => h) (Or.inl ⟨by rfl, ?hy75⟩) hHeld ?rest75
          case hy75 =>
            intro w' hSw
            try dsimp only at hSw
            go_simp
            first | done | with_reducible rfl
          try simp only [Act.put, zq1, zq2, zq3, zq4, zq5, zq6]
          refine wpAnyH_take (i := 15) (v := ?v76) rfl (by kernel_rfl) (by kernel_rfl) (by kernel_rfl) (fun _ _ _ h => h) (Or.inl ⟨by rfl, ?hy76⟩) hHeld ?rest76
          case hy76 =>
            intro w' hSw
            try dsimp only at hSw
            go_simp
            first | done | with_reducible rfl
          try simp only [Act.put, zq1, zq2, zq3, zq4, zq5, zq6]
          refine wpAnyH_take (i := 16) (v := ?v77) rfl (by kernel_rfl) (by kernel_rfl) (by kernel_rfl) (fun _ _ _ h => h) (Or.inl ⟨by rfl, ?hy77⟩) hHeld ?rest77
          case hy77 =>
            intro w' hSw
            try dsimp only at hSw
            go_simp
            first | done | with_reducible rfl
          try simp only [Act.put, zq1, zq2, zq3, zq4, zq5, zq6]
          refine wpAnyH_take (i := 17) (v := ?v78) rfl (by kernel_rfl) (by kernel_rfl) (by kernel_rfl) (fun _ _ _ h => h) (Or.inl ⟨by rfl, ?hy78⟩) hHeld ?rest78
          case hy78 =>
            intro w' hSw
            try dsimp only at hSw
            go_simp
            first | done | with_reducible rfl
          try simp only [Act.put, zq1, zq2, zq3, zq4, zq5, zq6]
          refine wpAnyH_take (i := 18) (v := ?v79) rfl (by kernel_rfl) (by kernel_rfl) (by kernel_rfl) (fun _ _ _ h => h) (Or.inl ⟨by rfl, ?hy79⟩) hHeld ?rest79
          case hy79 =>
            intro w' hSw
            try dsimp only at hSw
            go_simp
            first | done | with_reducible rfl
          try simp only [Act.put, zq1, zq2, zq3, zq4, zq5, zq6]
          refine wpAnyH_take (i := 19) (v := ?v80) rfl (by kernel_rfl) (by kernel_rfl) (by kernel_rfl) (fun _ _ _ h => h) (Or.inl ⟨by rfl, ?hy80⟩) hHeld ?rest80
          case hy80 =>
            intro w' hSw
            try dsimp only at hSw
            go_simp
            first | done | with_reducible rfl
          try simp only [Act.put, zq1, zq2, zq3, zq4, zq5, zq6]
          refine wpAnyH_take (i := 20) (v := ?v81) rfl (by kernel_rfl) (by kernel_rfl) (by kernel_rfl) (fun _ _ _ h => h) (Or.inl ⟨by rfl, ?hy81⟩) hHeld ?rest81
          case hy81 =>
            intro w' hSw
            try dsimp only at hSw
            go_simp
            first | done | with_reducible rfl
          try simp only [Act.put, zq1, zq2, zq3, zq4, zq5, zq6]
          refine wpAnyH_take (i := 21) (v := ?v82) rfl (by kernel_rfl) (by kernel_rfl) (by kernel_rfl) (fun _ _ _ h => h) (Or.inl ⟨by rfl, ?hy82⟩) hHeld ?rest82
          case hy82 =>
            intro w' hSw
            try dsimp only at hSw
            go_simp
            first | done | with_reducible rfl
          try simp only [Act.put, zq1, zq2, zq3, zq4, zq5, zq6]
          refine wpAnyH_take (i := 22) (v := ?v83) rfl (by kernel_rfl) (by kernel_rfl) (by kernel_rfl) (fun _ _ _ h => h) (Or.inl ⟨by rfl, ?hy83⟩) hHeld ?rest83
          case hy83 =>
            intro w' hSw
            try dsimp only at hSw
            go_simp
            first | done | with_reducible rfl
          try simp only [Act.put, zq1, zq2, zq3, zq4, zq5, zq6]
          by_cases hbo : bY = true
          · as_aux_lemma =>
            have hN := HN.out hbo
            subst hbo
            refine wpAnyH_take (i := 23) (v := ?v84) rfl (by kernel_rfl) (by kernel_rfl) (by kernel_rfl) (fun _ _ _ h => h) (Or.inl ⟨by rfl, ?hy84⟩) hHeld ?rest84
            case hy84 =>
              intro w' hSw
              try dsimp only at hSw
              go_simp
              first | done | with_reducible rfl
            try simp only [Act.put, zq1, zq2, zq3, zq4, zq5, zq6]
            refine wpAnyH_take (i := 24) (v := ?v85) rfl (by kernel_rfl) (by kernel_rfl) (by kernel_rfl) (fun _ _ _ h => h) (Or.inl ⟨by rfl, ?hy85⟩) hHeld ?rest85
            case hy85 =>
              intro w' hSw
              try dsimp only at hSw
              go_simp
              first | done | with_reducible rfl
            try simp only [Act.put, zq1, zq2, zq3, zq4, zq5, zq6]
            refine wpAnyH_take (i := 25) (v := ?v86) rfl (by kernel_rfl) (by kernel_rfl) (by kernel_rfl) (fun _ _ _ h => h) (Or.inl ⟨by rfl, ?hy86⟩) hHeld ?rest86
            case hy86 =>
              intro w' hSw
              try dsimp only at hSw
              go_simp
              first | done | with_reducible rfl
            try simp only [Act.put, zq1, zq2, zq3, zq4, zq5, zq6]
            refine wpAnyH_take (i := 26) rfl (by kernel_rfl) (by kernel_rfl) (by kernel_rfl) (fun _ _ _ h => h) (yieldsIf_load_mid (by rfl) 28 (.tmp 177) (by rfl) w5.heap.size 3 (by rfl) Y.cs _ (fun w' hSw => hN ▸ hSw.2.2.2.2.2.1) Try.underlying28 rfl (size23 _)) hHeld ?_
            try simp only [Act.put, zq1, zq2, zq3, zq4, zq5, zq6]
            refine wpAnyH_take (i := 27) (v := ?v87) rfl (by kernel_rfl) (by kernel_rfl) (by kernel_rfl) (fun _ _ _ h => h) (Or.inl ⟨by rfl, ?hy87⟩) hHeld ?rest87
            case hy87 =>
              intro w' hSw
              try dsimp only at hSw
              go_simp
              first | done | with_reducible rfl
            try simp only [Act.put, zq1, zq2, zq3, zq4, zq5, zq6]
            refine wpAnyH_take (i := 28) (v := ?v88) rfl (by kernel_rfl) (by kernel_rfl) (by kernel_rfl) (fun _ _ _ h => h) (Or.inl ⟨by rfl, ?hy88⟩) hHeld ?rest88
            case hy88 =>
              intro w' hSw
              try dsimp only at hSw
              go_simp
              first | done | with_reducible rfl
            try simp only [Act.put, zq1, zq2, zq3, zq4, zq5, zq6]
            refine wpAnyH_take (i := 29) (v := ?v89) rfl (by kernel_rfl) (by kernel_rfl) (by kernel_rfl) (fun _ _ _ h => h) (Or.inl ⟨by rfl, ?hy89⟩) hHeld ?rest89
            case hy89 =>
              intro w' hSw
              try dsimp only at hSw
              go_simp
              first | done | with_reducible rfl
            try simp only [Act.put, zq1, zq2, zq3, zq4, zq5, zq6]
            refine wpAnyH_take (i := 30) rfl (by kernel_rfl) (by kernel_rfl) (by kernel_rfl) (fun _ _ _ h => h) (yieldsIf_load_mid (by rfl) 28 (.tmp 181) (by rfl) w.heap.size 3 (by rfl) Y.cs _ (fun w' hSw => hSw.2.2.2.2.2.2.2.1) Try.underlying28 rfl (size23 _)) hHeld ?_
            try simp only [Act.put, zq1, zq2, zq3, zq4, zq5, zq6]
            refine wpAnyH_take (i := 31) rfl (by kernel_rfl) (by kernel_rfl) (by kernel_rfl) (fun _ _ _ h => h) (y_ne23 (by rfl) (.tmp 178) (.tmp 182) (by rfl) Y (by rfl) (by rfl)) hHeld ?_
            try simp only [Act.put, zq1, zq2, zq3, zq4, zq5, zq6]
            refine wpAnyH_take (i := 32) (v := ?v90) rfl (by kernel_rfl) (by kernel_rfl) (by kernel_rfl) (fun _ _ _ h => h) (Or.inl ⟨by rfl, ?hy90⟩) hHeld ?rest90
            case hy90 =>
              intro w' hSw
              try dsimp only at hSw
              go_simp
              first | done | with_reducible rfl
            try simp only [Act.put, zq1, zq2, zq3, zq4, zq5, zq6]
            refine wpAnyH_take (i := 33) (v := ?v91) rfl (by kernel_rfl) (by kernel_rfl) (by kernel_rfl) (fun _ _ _ h => h) (Or.inl ⟨by rfl, ?hy91⟩) hHeld ?rest91
            case hy91 =>
              intro w' hSw
              try dsimp only at hSw
              go_simp
              first | done | with_reducible rfl
            try simp only [Act.put, zq1, zq2, zq3, zq4, zq5, zq6]
            refine wpAnyH_take (i := 34) (v := ?v92) rfl (by kernel_rfl) (by kernel_rfl) (by kernel_rfl) (fun _ _ _ h => h) (Or.inl ⟨by rfl, ?hy92⟩) hHeld ?rest92
            case hy92 =>
              intro w' hSw
              try dsimp only at hSw
              go_simp
              first | done | with_reducible rfl
            try simp only [Act.put, zq1, zq2, zq3, zq4, zq5, zq6]
            refine wpAnyH_take (i := 35) (v := ?v93) rfl (by kernel_rfl) (by kernel_rfl) (by kernel_rfl) (fun _ _ _ h => h) (Or.inl ⟨by rfl, ?hy93⟩) hHeld ?rest93
            case hy93 =>
              intro w' hSw
              try dsimp only at hSw
              go_simp
              first | done | with_reducible rfl
            try simp only [Act.put, zq1, zq2, zq3, zq4, zq5, zq6]
            refine wpAnyH_take (i := 36) (v := ?v94) rfl (by kernel_rfl) (by kernel_rfl) (by kernel_rfl) (fun _ _ _ h => h) (Or.inl ⟨by rfl, ?hy94⟩) hHeld ?rest94
            case hy94 =>
              intro w' hSw
              try dsimp only at hSw
              go_simp
              first | done | with_reducible rfl
            try simp only [Act.put, zq1, zq2, zq3, zq4, zq5, zq6]
            refine wpAnyH_take (i := 37) (v := ?v95) rfl (by kernel_rfl) (by kernel_rfl) (by kernel_rfl) (fun _ _ _ h => h) (Or.inl ⟨by rfl, ?hy95⟩) hHeld ?rest95
            case hy95 =>
              intro w' hSw
              try dsimp only at hSw
              go_simp
              first | done | with_reducible rfl
            try simp only [Act.put, zq1, zq2, zq3, zq4, zq5, zq6]
            refine wpAnyH_take (i := 38) (v := ?v96) rfl (by kernel_rfl) (by kernel_rfl) (by kernel_rfl) (fun _ _ _ h => h) (Or.inl ⟨by rfl, ?hy96⟩) hHeld ?rest96
            case hy96 =>
              intro w' hSw
              try dsimp only at hSw
              go_simp
              first | done | with_reducible rfl
            try simp only [Act.put, zq1, zq2, zq3, zq4, zq5, zq6]
            by_cases hbs : bs = true
            · rcases HS.out hbs with hs | ⟨hxk, hs⟩
              · subst hbs
                refine wpAnyH_take (i := 39) (v := ?v97) rfl (by kernel_rfl) (by kernel_rfl) (by kernel_rfl) (fun _ _ _ h => h) (Or.inl ⟨by rfl, ?hy97⟩) hHeld ?rest97
                case hy97 =>
                  intro w' hSw
                  try dsimp only at hSw
                  go_simp
                  first | done | with_reducible rfl
                try simp only [Act.put, zq1, zq2, zq3, zq4, zq5, zq6]
                refine wpAnyH_take (i := 40) (v := ?v98) rfl (by kernel_rfl) (by kernel_rfl) (by kernel_rfl) (fun _ _ _ h => h) (Or.inl ⟨by rfl, ?hy98⟩) hHeld ?rest98
                case hy98 =>
                  intro w' hSw
                  try dsimp only at hSw
                  go_simp
                  first | done | with_reducible rfl
                try simp only [Act.put, zq1, zq2, zq3, zq4, zq5, zq6]
                refine wpAnyH_take (i := 41) rfl (by kernel_rfl) (by kernel_rfl) (by kernel_rfl) (fun _ _ _ h => h) (yieldsIf_load_mid (by rfl) 28 (.tmp 192) (by rfl) w5.heap.size 0 (by rfl) z.cs _ (fun w' hSw => hs ▸ hSw.2.2.2.2.1) Try.underlying28 rfl (size23 _)) hHeld ?_
                try simp only [Act.put, zq1, zq2, zq3, zq4, zq5, zq6]
                refine wpAnyH_take (i := 42) (v := ?v99) rfl (by kernel_rfl) (by kernel_rfl) (by kernel_rfl) (fun _ _ _ h => h) (Or.inl ⟨by rfl, ?hy99⟩) hHeld ?rest99
                case hy99 =>
                  intro w' hSw
                  try dsimp only at hSw
                  go_simp
                  first | done | with_reducible rfl
                try simp only [Act.put, zq1, zq2, zq3, zq4, zq5, zq6]
                refine wpAnyH_take (i := 43) rfl (by kernel_rfl) (by kernel_rfl) (by kernel_rfl) (fun _ _ _ h => h) (yieldsIf_load_mid (by rfl) 28 (.tmp 194) (by rfl) w.heap.size 6 (by rfl) z.cs _ (fun w' hSw => hSw.2.2.2.2.2.2.2.2) Try.underlying28 rfl (size23 _)) hHeld ?_
                try simp only [Act.put, zq1, zq2, zq3, zq4, zq5, zq6]
                refine wpAnyH_take (i := 44) rfl (by kernel_rfl) (by kernel_rfl) (by kernel_rfl) (fun _ _ _ h => h) (y_ne23 (by rfl) (.tmp 193) (.tmp 195) (by rfl) z (by rfl) (by rfl)) hHeld ?_
                try simp only [Act.put, zq1, zq2, zq3, zq4, zq5, zq6]
                refine wpAnyH_take (i := 45) (v := ?v100) rfl (by kernel_rfl) (by kernel_rfl) (by kernel_rfl) (fun _ _ _ h => h) (Or.inl ⟨by rfl, ?hy100⟩) hHeld ?rest100
                case hy100 =>
                  intro w' hSw
                  try dsimp only at hSw
                  go_simp
                  first | done | with_reducible rfl
                try simp only [Act.put, zq1, zq2, zq3, zq4, zq5, zq6]
                refine wpAnyH_take (i := 46) (v := ?v101) rfl (by kernel_rfl) (by kernel_rfl) (by kernel_rfl) (fun _ _ _ h => h) (Or.inl ⟨by rfl, ?hy101⟩) hHeld ?rest101
                case hy101 =>
                  intro w' hSw
                  try dsimp only at hSw
                  go_simp
                  first | done | with_reducible rfl
                try simp only [Act.put, zq1, zq2, zq3, zq4, zq5, zq6]
                refine wpAnyH_take (i := 47) (v := undef) rfl (by kernel_rfl) (by kernel_rfl) (by kernel_rfl) (fun _ _ _ h => h) (Or.inr ⟨by rfl, rfl⟩) hHeld ?_
                try simp only [Act.put, zq1, zq2, zq3, zq4, zq5, zq6]
                refine wpAnyH_take (i := 48) (v := undef) rfl (by kernel_rfl) (by kernel_rfl) (by kernel_rfl) (fun _ _ _ h => h) (Or.inr ⟨by rfl, rfl⟩) hHeld ?_
                try simp only [Act.put, zq1, zq2, zq3, zq4, zq5, zq6]
                refine wpAnyH_take (i := 49) (v := undef) rfl (by kernel_rfl) (by kernel_rfl) (by kernel_rfl) (fun _ _ _ h => h) (Or.inr ⟨by rfl, rfl⟩) hHeld ?_
                try simp only [Act.put, zq1, zq2, zq3, zq4, zq5, zq6]
                refine wpAnyH_take (i := 50) (v := undef) rfl (by kernel_rfl) (by kernel_rfl) (by kernel_rfl) (fun _ _ _ h => h) (Or.inr ⟨by rfl, rfl⟩) hHeld ?_
                try simp only [Act.put, zq1, zq2, zq3, zq4, zq5, zq6]
                refine wpAnyH_take (i := 51) (v := undef) rfl (by kernel_rfl) (by kernel_rfl) (by kernel_rfl) (fun _ _ _ h => h) (Or.inr ⟨by rfl, rfl⟩) hHeld ?_
                try simp only [Act.put, zq1, zq2, zq3, zq4, zq5, zq6]
                refine wpAnyH_take (i := 52) (v := undef) rfl (by kernel_rfl) (by kernel_rfl) (by kernel_rfl) (fun _ _ _ h => h) (Or.inr ⟨by rfl, rfl⟩) hHeld ?_
                try simp only [Act.put, zq1, zq2, zq3, zq4, zq5, zq6]
                refine wpAnyH_take (i := 53) (v := undef) rfl (by kernel_rfl) (by kernel_rfl) (by kernel_rfl) (fun _ _ _ h => h) (Or.inr ⟨by rfl, rfl⟩) hHeld ?_
                try simp only [Act.put, zq1, zq2, zq3, zq4, zq5, zq6]
                refine wpAnyH_take (i := 54) (v := undef) rfl (by kernel_rfl) (by kernel_rfl) (by kernel_rfl) (fun _ _ _ h => h) (Or.inr ⟨by rfl, rfl⟩) hHeld ?_
                try simp only [Act.put, zq1, zq2, zq3, zq4, zq5, zq6]
                refine wpAnyH_take (i := 55) (v := undef) rfl (by kernel_rfl) (by kernel_rfl) (by kernel_rfl) (fun _ _ _ h => h) (Or.inr ⟨by rfl, rfl⟩) hHeld ?_
                try simp only [Act.put, zq1, zq2, zq3, zq4, zq5, zq6]
                refine wpAnyH_take (i := 56) (v := undef) rfl (by kernel_rfl) (by kernel_rfl) (by kernel_rfl) (fun _ _ _ h => h) (Or.inr ⟨by rfl, rfl⟩) hHeld ?_
                try simp only [Act.put, zq1, zq2, zq3, zq4, zq5, zq6]
                refine wpAnyH_take (i := 57) (v := undef) rfl (by kernel_rfl) (by kernel_rfl) (by kernel_rfl) (fun _ _ _ h => h) (Or.inr ⟨by rfl, rfl⟩) hHeld ?_
                try simp only [Act.put, zq1, zq2, zq3, zq4, zq5, zq6]
                refine wpAnyH_take (i := 58) (v := undef) rfl (by kernel_rfl) (by kernel_rfl) (by kernel_rfl) (fun _ _ _ h => h) (Or.inr ⟨by rfl, rfl⟩) hHeld ?_
                try simp only [Act.put, zq1, zq2, zq3, zq4, zq5, zq6]
                refine wpAnyH_take (i := 59) (v := undef) rfl (by kernel_rfl) (by kernel_rfl) (by kernel_rfl) (fun _ _ _ h => h) (Or.inr ⟨by rfl, rfl⟩) hHeld ?_
                try simp only [Act.put, zq1, zq2, zq3, zq4, zq5, zq6]
                refine wpAnyH_take (i := 60) (v := ?v102) rfl (by kernel_rfl) (by kernel_rfl) (by kernel_rfl) (fun _ _ _ h => h) (Or.inl ⟨by rfl, ?hy102⟩) hHeld ?rest102
                case hy102 =>
                  intro w' hSw
                  try dsimp only at hSw
                  go_simp
                  first | done | with_reducible rfl
                try simp only [Act.put, zq1, zq2, zq3, zq4, zq5, zq6]
                refine wpAnyH_take (i := 61) (v := ?v103) rfl (by kernel_rfl) (by kernel_rfl) (by kernel_rfl) (fun _ _ _ h => h) (Or.inl ⟨by rfl, ?hy103⟩) hHeld ?rest103
                case hy103 =>
                  intro w' hSw
                  try dsimp only at hSw
                  go_simp
                  first | done | with_reducible rfl
                try simp only [Act.put, zq1, zq2, zq3, zq4, zq5, zq6]
                refine wpAnyH_done (by kernel_rfl) ?_ _
                refine OnlyN.normal ?_
                exact ⟨rfl, rfl, by as_aux_lemma => kernel_rfl⟩
              · subst hbs
                obtain rfl : bx = true := BX.out.trans (decide_eq_true hxk)
                refine wpAnyH_take (i := 39) (v := ?v104) rfl (by kernel_rfl) (by kernel_rfl) (by kernel_rfl) (fun _ _ _ h => h) (Or.inl ⟨by rfl, ?hy104⟩) hHeld ?rest104
                case hy104 =>
                  intro w' hSw
                  try dsimp only at hSw
                  go_simp
                  first | done | with_reducible rfl
                try simp only [Act.put, zq1, zq2, zq3, zq4, zq5, zq6]
                refine wpAnyH_take (i := 40) (v := ?v105) rfl (by kernel_rfl) (by kernel_rfl) (by kernel_rfl) (fun _ _ _ h => h) (Or.inl ⟨by rfl, ?hy105⟩) hHeld ?rest105
                case hy105 =>
                  intro w' hSw
                  try dsimp only at hSw
                  go_simp
                  first | done | with_reducible rfl
                try simp only [Act.put, zq1, zq2, zq3, zq4, zq5, zq6]
                refine wpAnyH_take (i := 41) rfl (by kernel_rfl) (by kernel_rfl) (by kernel_rfl) (fun _ _ _ h => h) (yieldsIf_load_mid (by rfl) 28 (.tmp 192) (by rfl) w5.heap.size 0 (by rfl) X.cs _ (fun w' hSw => hs ▸ hSw.2.2.2.2.1) Try.underlying28 rfl (size23 _)) hHeld ?_
                try simp only [Act.put, zq1, zq2, zq3, zq4, zq5, zq6]
                refine wpAnyH_take (i := 42) (v := ?v106) rfl (by kernel_rfl) (by kernel_rfl) (by kernel_rfl) (fun _ _ _ h => h) (Or.inl ⟨by rfl, ?hy106⟩) hHeld ?rest106
                case hy106 =>
                  intro w' hSw
                  try dsimp only at hSw
                  go_simp
                  first | done | with_reducible rfl
                try simp only [Act.put, zq1, zq2, zq3, zq4, zq5, zq6]
                refine wpAnyH_take (i := 43) rfl (by kernel_rfl) (by kernel_rfl) (by kernel_rfl) (fun _ _ _ h => h) (yieldsIf_load_mid (by rfl) 28 (.tmp 194) (by rfl) w.heap.size 6 (by rfl) z.cs _ (fun w' hSw => hSw.2.2.2.2.2.2.2.2) Try.underlying28 rfl (size23 _)) hHeld ?_
                try simp only [Act.put, zq1, zq2, zq3, zq4, zq5, zq6]
                refine wpAnyH_take (i := 44) rfl (by kernel_rfl) (by kernel_rfl) (by kernel_rfl) (fun _ _ _ h => h) (y_ne23n (by rfl) (.tmp 193) (.tmp 195) (by rfl) X z HNE.out (by rfl) (by rfl)) hHeld ?_
                try simp only [Act.put, zq1, zq2, zq3, zq4, zq5, zq6]
                refine wpAnyH_take (i := 45) (v := ?v107) rfl (by kernel_rfl) (by kernel_rfl) (by kernel_rfl) (fun _ _ _ h => h) (Or.inl ⟨by rfl, ?hy107⟩) hHeld ?rest107
                case hy107 =>
                  intro w' hSw
                  try dsimp only at hSw
                  go_simp
                  first | done | with_reducible rfl
                try simp only [Act.put, zq1, zq2, zq3, zq4, zq5, zq6]
                refine wpAnyH_take (i := 46) (v := ?v108) rfl (by kernel_rfl) (by kernel_rfl) (by kernel_rfl) (fun _ _ _ h => h) (Or.inl ⟨by rfl, ?hy108⟩) hHeld ?rest108
                case hy108 =>
                  intro w' hSw
                  try dsimp only at hSw
                  go_simp
                  first | done | with_reducible rfl
                try simp only [Act.put, zq1, zq2, zq3, zq4, zq5, zq6]
                refine wpAnyH_take (i := 47) (v := ?v109) rfl (by kernel_rfl) (by kernel_rfl) (by kernel_rfl) (fun _ _ _ h => h) (Or.inl ⟨by rfl, ?hy109⟩) hHeld ?rest109
                case hy109 =>
                  intro w' hSw
                  try dsimp only at hSw
                  go_simp
                  first | done | with_reducible rfl
                try simp only [Act.put, zq1, zq2, zq3, zq4, zq5, zq6]
                refine wpAnyH_take (i := 48) (v := ?v110) rfl (by kernel_rfl) (by kernel_rfl) (by kernel_rfl) (fun _ _ _ h => h) (Or.inl ⟨by rfl, ?hy110⟩) hHeld ?rest110
                case hy110 =>
                  intro w' hSw
                  try dsimp only at hSw
                  go_simp
                  first | done | with_reducible rfl
                try simp only [Act.put, zq1, zq2, zq3, zq4, zq5, zq6]
                refine wpAnyH_take (i := 49) (v := ?v111) rfl (by kernel_rfl) (by kernel_rfl) (by kernel_rfl) (fun _ _ _ h => h) (Or.inl ⟨by rfl, ?hy111⟩) hHeld ?rest111
                case hy111 =>
                  intro w' hSw
                  try dsimp only at hSw
                  go_simp
                  first | done | with_reducible rfl
                try simp only [Act.put, zq1, zq2, zq3, zq4, zq5, zq6]
                refine wpAnyH_take (i := 50) (v := ?v112) rfl (by kernel_rfl) (by kernel_rfl) (by kernel_rfl) (fun _ _ _ h => h) (Or.inl ⟨by rfl, ?hy112⟩) hHeld ?rest112
                case hy112 =>
                  intro w' hSw
                  try dsimp only at hSw
                  go_simp
                  first | done | with_reducible rfl
                try simp only [Act.put, zq1, zq2, zq3, zq4, zq5, zq6]
                refine wpAnyH_take (i := 51) (v := ?v113) rfl (by kernel_rfl) (by kernel_rfl) (by kernel_rfl) (fun _ _ _ h => h) (Or.inl ⟨by rfl, ?hy113⟩) hHeld ?rest113
                case hy113 =>
                  intro w' hSw
                  try dsimp only at hSw
                  go_simp
                  first | done | with_reducible rfl
                try simp only [Act.put, zq1, zq2, zq3, zq4, zq5, zq6]
                refine wpAnyH_take (i := 52) (v := ?v114) rfl (by kernel_rfl) (by kernel_rfl) (by kernel_rfl) (fun _ _ _ h => h) (Or.inl ⟨by rfl, ?hy114⟩) hHeld ?rest114
                case hy114 =>
                  intro w' hSw
                  try dsimp only at hSw
                  go_simp
                  first | done | with_reducible rfl
                try simp only [Act.put, zq1, zq2, zq3, zq4, zq5, zq6]
                refine wpAnyH_take (i := 53) (v := ?v115) rfl (by kernel_rfl) (by kernel_rfl) (by kernel_rfl) (fun _ _ _ h => h) (Or.inl ⟨by rfl, ?hy115⟩) hHeld ?rest115
                case hy115 =>
                  intro w' hSw
                  try dsimp only at hSw
                  go_simp
                  first | done | with_reducible rfl
                try simp only [Act.put, zq1, zq2, zq3, zq4, zq5, zq6]
                refine wpAnyH_take (i := 54) rfl (by kernel_rfl) (by kernel_rfl) (by kernel_rfl) (fun _ _ _ h => h) (yieldsIf_load_mid (by rfl) 28 (.tmp 205) (by rfl) w5.heap.size 0 (by rfl) X.cs _ (fun w' hSw => hs ▸ hSw.2.2.2.2.1) Try.underlying28 rfl (size23 _)) hHeld ?_
                try simp only [Act.put, zq1, zq2, zq3, zq4, zq5, zq6]
                refine wpAnyH_take (i := 55) (v := ?v116) rfl (by kernel_rfl) (by kernel_rfl) (by kernel_rfl) (fun _ _ _ h => h) (Or.inl ⟨by rfl, ?hy116⟩) hHeld ?rest116
                case hy116 =>
                  intro w' hSw
                  try dsimp only at hSw
                  go_simp
                  first | done | with_reducible rfl
                try simp only [Act.put, zq1, zq2, zq3, zq4, zq5, zq6]
                refine wpAnyH_take (i := 56) (v := ?v117) rfl (by kernel_rfl) (by kernel_rfl) (by kernel_rfl) (fun _ _ _ h => h) (Or.inl ⟨by rfl, ?hy117⟩) hHeld ?rest117
                case hy117 =>
                  intro w' hSw
                  try dsimp only at hSw
                  go_simp
                  first | done | with_reducible rfl
                try simp only [Act.put, zq1, zq2, zq3, zq4, zq5, zq6]
                refine wpAnyH_take (i := 57) rfl (by kernel_rfl) (by kernel_rfl) (by kernel_rfl) (fun _ _ _ h => h) (yieldsIf_load_mid (by rfl) 28 (.tmp 208) (by rfl) w.heap.size 0 (by rfl) X.cs _ (fun w' hSw => hSw.2.2.2.2.2.2.1) Try.underlying28 rfl (size23 _)) hHeld ?_
                try simp only [Act.put, zq1, zq2, zq3, zq4, zq5, zq6]
                refine wpAnyH_take (i := 58) rfl (by kernel_rfl) (by kernel_rfl) (by kernel_rfl) (fun _ _ _ h => h) (y_ne23 (by rfl) (.tmp 206) (.tmp 209) (by rfl) X (by rfl) (by rfl)) hHeld ?_
                try simp only [Act.put, zq1, zq2, zq3, zq4, zq5, zq6]
                refine wpAnyH_take (i := 59) (v := ?v118) rfl (by kernel_rfl) (by kernel_rfl) (by kernel_rfl) (fun _ _ _ h => h) (Or.inl ⟨by rfl, ?hy118⟩) hHeld ?rest118
                case hy118 =>
                  intro w' hSw
                  try dsimp only at hSw
                  go_simp
                  first | done | with_reducible rfl
                try simp only [Act.put, zq1, zq2, zq3, zq4, zq5, zq6]
                refine wpAnyH_take (i := 60) (v := ?v119) rfl (by kernel_rfl) (by kernel_rfl) (by kernel_rfl) (fun _ _ _ h => h) (Or.inl ⟨by rfl, ?hy119⟩) hHeld ?rest119
                case hy119 =>
                  intro w' hSw
                  try dsimp only at hSw
                  go_simp
                  first | done | with_reducible rfl
                try simp only [Act.put, zq1, zq2, zq3, zq4, zq5, zq6]
                refine wpAnyH_take (i := 61) (v := ?v120) rfl (by kernel_rfl) (by kernel_rfl) (by kernel_rfl) (fun _ _ _ h => h) (Or.inl ⟨by rfl, ?hy120⟩) hHeld ?rest120
                case hy120 =>
                  intro w' hSw
                  try dsimp only at hSw
                  go_simp
                  first | done | with_reducible rfl
                try simp only [Act.put, zq1, zq2, zq3, zq4, zq5, zq6]
                refine wpAnyH_done (by kernel_rfl) ?_ _
                refine OnlyN.normal ?_
                exact ⟨rfl, rfl, by as_aux_lemma => kernel_rfl⟩
            · rw [Bool.not_eq_true] at hbs
              subst hbs
              refine wpAnyH_take (i := 39) (v := undef) rfl (by kernel_rfl) (by kernel_rfl) (by kernel_rfl) (fun _ _ _ h => h) (Or.inr ⟨by rfl, rfl⟩) hHeld ?_
              try simp only [Act.put, zq1, zq2, zq3, zq4, zq5, zq6]
              refine wpAnyH_take (i := 40) (v := undef) rfl (by kernel_rfl) (by kernel_rfl) (by kernel_rfl) (fun _ _ _ h => h) (Or.inr ⟨by rfl, rfl⟩) hHeld ?_
              try simp only [Act.put, zq1, zq2, zq3, zq4, zq5, zq6]
              refine wpAnyH_take (i := 41) (v := undef) rfl (by kernel_rfl) (by kernel_rfl) (by kernel_rfl) (fun _ _ _ h => h) (Or.inr ⟨by rfl, rfl⟩) hHeld ?_
              try simp only [Act.put, zq1, zq2, zq3, zq4, zq5, zq6]
              refine wpAnyH_take (i := 42) (v := undef) rfl (by kernel_rfl) (by kernel_rfl) (by kernel_rfl) (fun _ _ _ h => h) (Or.inr ⟨by rfl, rfl⟩) hHeld ?_
              try simp only [Act.put, zq1, zq2, zq3, zq4, zq5, zq6]
              refine wpAnyH_take (i := 43) (v := undef) rfl (by kernel_rfl) (by kernel_rfl) (by kernel_rfl) (fun _ _ _ h => h) (Or.inr ⟨by rfl, rfl⟩) hHeld ?_
              try simp only [Act.put, zq1, zq2, zq3, zq4, zq5, zq6]
              refine wpAnyH_take (i := 44) (v := undef) rfl (by kernel_rfl) (by kernel_rfl) (by kernel_rfl) (fun _ _ _ h => h) (Or.inr ⟨by rfl, rfl⟩) hHeld ?_
              try simp only [Act.put, zq1, zq2, zq3, zq4, zq5, zq6]
              refine wpAnyH_take (i := 45) (v := ?v121) rfl (by kernel_rfl) (by kernel_rfl) (by kernel_rfl) (fun _ _ _ h => h) (Or.inl ⟨by rfl, ?hy121⟩) hHeld ?rest121
              case hy121 =>
                intro w' hSw
                try dsimp only at hSw
                go_simp
                first | done | with_reducible rfl
              try simp only [Act.put, zq1, zq2, zq3, zq4, zq5, zq6]
              refine wpAnyH_take (i := 46) (v := ?v122) rfl (by kernel_rfl) (by kernel_rfl) (by kernel_rfl) (fun _ _ _ h => h) (Or.inl ⟨by rfl, ?hy122⟩) hHeld ?rest122
              case hy122 =>
                intro w' hSw
                try dsimp only at hSw
                go_simp
                first | done | with_reducible rfl
              try simp only [Act.put, zq1, zq2, zq3, zq4, zq5, zq6]
              refine wpAnyH_take (i := 47) (v := undef) rfl (by kernel_rfl) (by kernel_rfl) (by kernel_rfl) (fun _ _ _ h => h) (Or.inr ⟨by rfl, rfl⟩) hHeld ?_
              try simp only [Act.put, zq1, zq2, zq3, zq4, zq5, zq6]
              refine wpAnyH_take (i := 48) (v := undef) rfl (by kernel_rfl) (by kernel_rfl) (by kernel_rfl) (fun _ _ _ h => h) (Or.inr ⟨by rfl, rfl⟩) hHeld ?_
              try simp only [Act.put, zq1, zq2, zq3, zq4, zq5, zq6]
              refine wpAnyH_take (i := 49) (v := undef) rfl (by kernel_rfl) (by kernel_rfl) (by kernel_rfl) (fun _ _ _ h => h) (Or.inr ⟨by rfl, rfl⟩) hHeld ?_
              try simp only [Act.put, zq1, zq2, zq3, zq4, zq5, zq6]
              refine wpAnyH_take (i := 50) (v := undef) rfl (by kernel_rfl) (by kernel_rfl) (by kernel_rfl) (fun _ _ _ h => h) (Or.inr ⟨by rfl, rfl⟩) hHeld ?_
              try simp only [Act.put, zq1, zq2, zq3, zq4, zq5, zq6]
              refine wpAnyH_take (i := 51) (v := undef) rfl (by kernel_rfl) (by kernel_rfl) (by kernel_rfl) (fun _ _ _ h => h) (Or.inr ⟨by rfl, rfl⟩) hHeld ?_
              try simp only [Act.put, zq1, zq2, zq3, zq4, zq5, zq6]
              refine wpAnyH_take (i := 52) (v := undef) rfl (by kernel_rfl) (by kernel_rfl) (by kernel_rfl) (fun _ _ _ h => h) (Or.inr ⟨by rfl, rfl⟩) hHeld ?_
              try simp only [Act.put, zq1, zq2, zq3, zq4, zq5, zq6]
              refine wpAnyH_take (i := 53) (v := undef) rfl (by kernel_rfl) (by kernel_rfl) (by kernel_rfl) (fun _ _ _ h => h) (Or.inr ⟨by rfl, rfl⟩) hHeld ?_
              try simp only [Act.put, zq1, zq2, zq3, zq4, zq5, zq6]
              refine wpAnyH_take (i := 54) (v := undef) rfl (by kernel_rfl) (by kernel_rfl) (by kernel_rfl) (fun _ _ _ h => h) (Or.inr ⟨by rfl, rfl⟩) hHeld ?_
              try simp only [Act.put, zq1, zq2, zq3, zq4, zq5, zq6]
              refine wpAnyH_take (i := 55) (v := undef) rfl (by kernel_rfl) (by kernel_rfl) (by kernel_rfl) (fun _ _ _ h => h) (Or.inr ⟨by rfl, rfl⟩) hHeld ?_
              try simp only [Act.put, zq1, zq2, zq3, zq4, zq5, zq6]
              refine wpAnyH_take (i := 56) (v := undef) rfl (by kernel_rfl) (by kernel_rfl) (by kernel_rfl) (fun _ _ _ h => h) (Or.inr ⟨by rfl, rfl⟩) hHeld ?_
              try simp only [Act.put, zq1, zq2, zq3, zq4, zq5, zq6]
              refine wpAnyH_take (i := 57) (v := undef) rfl (by kernel_rfl) (by kernel_rfl) (by kernel_rfl) (fun _ _ _ h => h) (Or.inr ⟨by rfl, rfl⟩) hHeld ?_
              try simp only [Act.put, zq1, zq2, zq3, zq4, zq5, zq6]
              refine wpAnyH_take (i := 58) (v := undef) rfl (by kernel_rfl) (by kernel_rfl) (by kernel_rfl) (fun _ _ _ h => h) (Or.inr ⟨by rfl, rfl⟩) hHeld ?_
              try simp only [Act.put, zq1, zq2, zq3, zq4, zq5, zq6]
              refine wpAnyH_take (i := 59) (v := undef) rfl (by kernel_rfl) (by kernel_rfl) (by kernel_rfl) (fun _ _ _ h => h) (Or.inr ⟨by rfl, rfl⟩) hHeld ?_
              try simp only [Act.put, zq1, zq2, zq3, zq4, zq5, zq6]
              refine wpAnyH_take (i := 60) (v := ?v123) rfl (by kernel_rfl) (by kernel_rfl) (by kernel_rfl) (fun _ _ _ h => h) (Or.inl ⟨by rfl, ?hy123⟩) hHeld ?rest123
              case hy123 =>
                intro w' hSw
                try dsimp only at hSw
                go_simp
                first | done | with_reducible rfl
              try simp only [Act.put, zq1, zq2, zq3, zq4, zq5, zq6]
              refine wpAnyH_take (i := 61) (v := ?v124) rfl (by kernel_rfl) (by kernel_rfl) (by kernel_rfl) (fun _ _ _ h => h) (Or.inl ⟨by rfl, ?hy124⟩) hHeld ?rest124
              case hy124 =>
                intro w' hSw
                try dsimp only at hSw
                go_simp
                first | done | with_reducible rfl
              try simp only [Act.put, zq1, zq2, zq3, zq4, zq5, zq6]
              refine wpAnyH_done (by kernel_rfl) ?_ _
              refine OnlyN.normal ?_
              exact ⟨rfl, rfl, by as_aux_lemma => kernel_rfl⟩
          · as_aux_lemma =>
            rw [Bool.not_eq_true] at hbo
            subst hbo
            refine wpAnyH_take (i := 23) (v := undef) rfl (by kernel_rfl) (by kernel_rfl) (by kernel_rfl) (fun _ _ _ h => h) (Or.inr ⟨by rfl, rfl⟩) hHeld ?_
            try simp only [Act.put, zq1, zq2, zq3, zq4, zq5, zq6]
            refine wpAnyH_take (i := 24) (v := undef) rfl (by kernel_rfl) (by kernel_rfl) (by kernel_rfl) (fun _ _ _ h => h) (Or.inr ⟨by rfl, rfl⟩) hHeld ?_
            try simp only [Act.put, zq1, zq2, zq3, zq4, zq5, zq6]
            refine wpAnyH_take (i := 25) (v := undef) rfl (by kernel_rfl) (by kernel_rfl) (by kernel_rfl) (fun _ _ _ h => h) (Or.inr ⟨by rfl, rfl⟩) hHeld ?_
            try simp only [Act.put, zq1, zq2, zq3, zq4, zq5, zq6]
            refine wpAnyH_take (i := 26) (v := undef) rfl (by kernel_rfl) (by kernel_rfl) (by kernel_rfl) (fun _ _ _ h => h) (Or.inr ⟨by rfl, rfl⟩) hHeld ?_
            try simp only [Act.put, zq1, zq2, zq3, zq4, zq5, zq6]
            refine wpAnyH_take (i := 27) (v := undef) rfl (by kernel_rfl) (by kernel_rfl) (by kernel_rfl) (fun _ _ _ h => h) (Or.inr ⟨by rfl, rfl⟩) hHeld ?_
            try simp only [Act.put, zq1, zq2, zq3, zq4, zq5, zq6]
            refine wpAnyH_take (i := 28) (v := undef) rfl (by kernel_rfl) (by kernel_rfl) (by kernel_rfl) (fun _ _ _ h => h) (Or.inr ⟨by rfl, rfl⟩) hHeld ?_
            try simp only [Act.put, zq1, zq2, zq3, zq4, zq5, zq6]
            refine wpAnyH_take (i := 29) (v := undef) rfl (by kernel_rfl) (by kernel_rfl) (by kernel_rfl) (fun _ _ _ h => h) (Or.inr ⟨by rfl, rfl⟩) hHeld ?_
            try simp only [Act.put, zq1, zq2, zq3, zq4, zq5, zq6]
            refine wpAnyH_take (i := 30) (v := undef) rfl (by kernel_rfl) (by kernel_rfl) (by kernel_rfl) (fun _ _ _ h => h) (Or.inr ⟨by rfl, rfl⟩) hHeld ?_
            try simp only [Act.put, zq1, zq2, zq3, zq4, zq5, zq6]
            refine wpAnyH_take (i := 31) (v := undef) rfl (by kernel_rfl) (by kernel_rfl) (by kernel_rfl) (fun _ _ _ h => h) (Or.inr ⟨by rfl, rfl⟩) hHeld ?_
            try simp only [Act.put, zq1, zq2, zq3, zq4, zq5, zq6]
            refine wpAnyH_take (i := 32) (v := ?v125) rfl (by kernel_rfl) (by kernel_rfl) (by kernel_rfl) (fun _ _ _ h => h) (Or.inl ⟨by rfl, ?hy125⟩) hHeld ?rest125
            case hy125 =>
              intro w' hSw
              try dsimp only at hSw
              go_simp
              first | done | with_reducible rfl
            try simp only [Act.put, zq1, zq2, zq3, zq4, zq5, zq6]
            refine wpAnyH_take (i := 33) (v := ?v126) rfl (by kernel_rfl) (by kernel_rfl) (by kernel_rfl) (fun _ _ _ h => h) (Or.inl ⟨by rfl, ?hy126⟩) hHeld ?rest126
            case hy126 =>
              intro w' hSw
              try dsimp only at hSw
              go_simp
              first | done | with_reducible rfl
            try simp only [Act.put, zq1, zq2, zq3, zq4, zq5, zq6]
            refine wpAnyH_take (i := 34) (v := ?v127) rfl (by kernel_rfl) (by kernel_rfl) (by kernel_rfl) (fun _ _ _ h => h) (Or.inl ⟨by rfl, ?hy127⟩) hHeld ?rest127
            case hy127 =>
              intro w' hSw
              try dsimp only at hSw
              go_simp
              first | done | with_reducible rfl
            try simp only [Act.put, zq1, zq2, zq3, zq4, zq5, zq6]
            refine wpAnyH_take (i := 35) (v := ?v128) rfl (by kernel_rfl) (by kernel_rfl) (by kernel_rfl) (fun _ _ _ h => h) (Or.inl ⟨by rfl, ?hy128⟩) hHeld ?rest128
            case hy128 =>
              intro w' hSw
              try dsimp only at hSw
              go_simp
              first | done | with_reducible rfl
            try simp only [Act.put, zq1, zq2, zq3, zq4, zq5, zq6]
            refine wpAnyH_take (i := 36) (v := ?v129) rfl (by kernel_rfl) (by kernel_rfl) (by kernel_rfl) (fun _ _ _ h => h) (Or.inl ⟨by rfl, ?hy129⟩) hHeld ?rest129
            case hy129 =>
              intro w' hSw
              try dsimp only at hSw
              go_simp
              first | done | with_reducible rfl
            try simp only [Act.put, zq1, zq2, zq3, zq4, zq5, zq6]
            refine wpAnyH_take (i := 37) (v := ?v130) rfl (by kernel_rfl) (by kernel_rfl) (by kernel_rfl) (fun _ _ _ h => h) (Or.inl ⟨by rfl, ?hy130⟩) hHeld ?rest130
            case hy130 =>
              intro w' hSw
              try dsimp only at hSw
              go_simp
              first | done | with_reducible rfl
            try simp only [Act.put, zq1, zq2, zq3, zq4, zq5, zq6]
            refine wpAnyH_take (i := 38) (v := ?v131) rfl (by kernel_rfl) (by kernel_rfl) (by kernel_rfl) (fun _ _ _ h => h) (Or.inl ⟨by rfl, ?hy131⟩) hHeld ?rest131
            case hy131 =>
              intro w' hSw
              try dsimp only at hSw
              go_simp
              first | done | with_reducible rfl
            try simp only [Act.put, zq1, zq2, zq3, zq4, zq5, zq6]
            by_cases hbs : bs = true
            · rcases HS.out hbs with hs | ⟨hxk, hs⟩
              · subst hbs
                refine wpAnyH_take (i := 39) (v := ?v132) rfl (by kernel_rfl) (by kernel_rfl) (by kernel_rfl) (fun _ _ _ h => h) (Or.inl ⟨by rfl, ?hy132⟩) hHeld ?rest132
                case hy132 =>
                  intro w' hSw
                  try dsimp only at hSw
                  go_simp
                  first | done | with_reducible rfl
                try simp only [Act.put, zq1, zq2, zq3, zq4, zq5, zq6]
                refine wpAnyH_take (i := 40) (v := ?v133) rfl (by kernel_rfl) (by kernel_rfl) (by kernel_rfl) (fun _ _ _ h => h) (Or.inl ⟨by rfl, ?hy133⟩) hHeld ?rest133
                case hy133 =>
                  intro w' hSw
                  try dsimp only at hSw
                  go_simp
                  first | done | with_reducible rfl
                try simp only [Act.put, zq1, zq2, zq3, zq4, zq5, zq6]
                refine wpAnyH_take (i := 41) rfl (by kernel_rfl) (by kernel_rfl) (by kernel_rfl) (fun _ _ _ h => h) (yieldsIf_load_mid (by rfl) 28 (.tmp 192) (by rfl) w5.heap.size 0 (by rfl) z.cs _ (fun w' hSw => hs ▸ hSw.2.2.2.2.1) Try.underlying28 rfl (size23 _)) hHeld ?_
                try simp only [Act.put, zq1, zq2, zq3, zq4, zq5, zq6]
                refine wpAnyH_take (i := 42) (v := ?v134) rfl (by kernel_rfl) (by kernel_rfl) (by kernel_rfl) (fun _ _ _ h => h) (Or.inl ⟨by rfl, ?hy134⟩) hHeld ?rest134
                case hy134 =>
                  intro w' hSw
                  try dsimp only at hSw
                  go_simp
                  first | done | with_reducible rfl
                try simp only [Act.put, zq1, zq2, zq3, zq4, zq5, zq6]
                refine wpAnyH_take (i := 43) rfl (by kernel_rfl) (by kernel_rfl) (by kernel_rfl) (fun _ _ _ h => h) (yieldsIf_load_mid (by rfl) 28 (.tmp 194) (by rfl) w.heap.size 6 (by rfl) z.cs _ (fun w' hSw => hSw.2.2.2.2.2.2.2.2) Try.underlying28 rfl (size23 _)) hHeld ?_
                try simp only [Act.put, zq1, zq2, zq3, zq4, zq5, zq6]
                refine wpAnyH_take (i := 44) rfl (by kernel_rfl) (by kernel_rfl) (by kernel_rfl) (fun _ _ _ h => h) (y_ne23 (by rfl) (.tmp 193) (.tmp 195) (by rfl) z (by rfl) (by rfl)) hHeld ?_
                try simp only [Act.put, zq1, zq2, zq3, zq4, zq5, zq6]
                refine wpAnyH_take (i := 45) (v := ?v135) rfl (by kernel_rfl) (by kernel_rfl) (by kernel_rfl) (fun _ _ _ h => h) (Or.inl ⟨by rfl, ?hy135⟩) hHeld ?rest135
                case hy135 =>
                  intro w' hSw
                  try dsimp only at hSw
                  go_simp
                  first | done | with_reducible rfl
                try simp only [Act.put, zq1, zq2, zq3, zq4, zq5, zq6]
                refine wpAnyH_take (i := 46) (v := ?v136) rfl (by kernel_rfl) (by kernel_rfl) (by kernel_rfl) (fun _ _ _ h => h) (Or.inl ⟨by rfl, ?hy136⟩) hHeld ?rest136
                case hy136 =>
                  intro w' hSw
                  try dsimp only at hSw
                  go_simp
                  first | done | with_reducible rfl
                try simp only [Act.put, zq1, zq2, zq3, zq4, zq5, zq6]
                refine wpAnyH_take (i := 47) (v := undef) rfl (by kernel_rfl) (by kernel_rfl) (by kernel_rfl) (fun _ _ _ h => h) (Or.inr ⟨by rfl, rfl⟩) hHeld ?_
                try simp only [Act.put, zq1, zq2, zq3, zq4, zq5, zq6]
                refine wpAnyH_take (i := 48) (v := undef) rfl (by kernel_rfl) (by kernel_rfl) (by kernel_rfl) (fun _ _ _ h => h) (Or.inr ⟨by rfl, rfl⟩) hHeld ?_
                try simp only [Act.put, zq1, zq2, zq3, zq4, zq5, zq6]
                refine wpAnyH_take (i := 49) (v := undef) rfl (by kernel_rfl) (by kernel_rfl) (by kernel_rfl) (fun _ _ _ h => h) (Or.inr ⟨by rfl, rfl⟩) hHeld ?_
                try simp only [Act.put, zq1, zq2, zq3, zq4, zq5, zq6]
                refine wpAnyH_take (i := 50) (v := undef) rfl (by kernel_rfl) (by kernel_rfl) (by kernel_rfl) (fun _ _ _ h => h) (Or.inr ⟨by rfl, rfl⟩) hHeld ?_
                try simp only [Act.put, zq1, zq2, zq3, zq4, zq5, zq6]
                refine wpAnyH_take (i := 51) (v := undef) rfl (by kernel_rfl) (by kernel_rfl) (by kernel_rfl) (fun _ _ _ h => h) (Or.inr ⟨by rfl, rfl⟩) hHeld ?_
                try simp only [Act.put, zq1, zq2, zq3, zq4, zq5, zq6]
                refine wpAnyH_take (i := 52) (v := undef) rfl (by kernel_rfl) (by kernel_rfl) (by kernel_rfl) (fun _ _ _ h => h) (Or.inr ⟨by rfl, rfl⟩) hHeld ?_
                try simp only [Act.put, zq1, zq2, zq3, zq4, zq5, zq6]
                refine wpAnyH_take (i := 53) (v := undef) rfl (by kernel_rfl) (by kernel_rfl) (by kernel_rfl) (fun _ _ _ h => h) (Or.inr ⟨by rfl, rfl⟩) hHeld ?_
                try simp only [Act.put, zq1, zq2, zq3, zq4, zq5, zq6]
                refine wpAnyH_take (i := 54) (v := undef) rfl (by kernel_rfl) (by kernel_rfl) (by kernel_rfl) (fun _ _ _ h => h) (Or.inr ⟨by rfl, rfl⟩) hHeld ?_
                try simp only [Act.put, zq1, zq2, zq3, zq4, zq5, zq6]
                refine wpAnyH_take (i := 55) (v := undef) rfl (by kernel_rfl) (by kernel_rfl) (by kernel_rfl) (fun _ _ _ h => h) (Or.inr ⟨by rfl, rfl⟩) hHeld ?_
                try simp only [Act.put, zq1, zq2, zq3, zq4, zq5, zq6]
                refine wpAnyH_take (i := 56) (v := undef) rfl (by kernel_rfl) (by kernel_rfl) (by kernel_rfl) (fun _ _ _ h => h) (Or.inr ⟨by rfl, rfl⟩) hHeld ?_
                try simp only [Act.put, zq1, zq2, zq3, zq4, zq5, zq6]
                refine wpAnyH_take (i := 57) (v := undef) rfl (by kernel_rfl) (by kernel_rfl) (by kernel_rfl) (fun _ _ _ h => h) (Or.inr ⟨by rfl, rfl⟩) hHeld ?_
                try simp only [Act.put, zq1, zq2, zq3, zq4, zq5, zq6]
                refine wpAnyH_take (i := 58) (v := undef) rfl (by kernel_rfl) (by kernel_rfl) (by kernel_rfl) (fun _ _ _ h => h) (Or.inr ⟨by rfl, rfl⟩) hHeld ?_
                try simp only [Act.put, zq1, zq2, zq3, zq4, zq5, zq6]
                refine wpAnyH_take (i := 59) (v := undef) rfl (by kernel_rfl) (by kernel_rfl) (by kernel_rfl) (fun _ _ _ h => h) (Or.inr ⟨by rfl, rfl⟩) hHeld ?_
                try simp only [Act.put, zq1, zq2, zq3, zq4, zq5, zq6]
                refine wpAnyH_take (i := 60) (v := ?v137) rfl (by kernel_rfl) (by kernel_rfl) (by kernel_rfl) (fun _ _ _ h => h) (Or.inl ⟨by rfl, ?hy137⟩) hHeld ?rest137
                case hy137 =>
                  intro w' hSw
                  try dsimp only at hSw
                  go_simp
                  first | done | with_reducible rfl
                try simp only [Act.put, zq1, zq2, zq3, zq4, zq5, zq6]
                refine wpAnyH_take (i := 61) (v := ?v138) rfl (by kernel_rfl) (by kernel_rfl) (by kernel_rfl) (fun _ _ _ h => h) (Or.inl ⟨by rfl, ?hy138⟩) hHeld ?rest138
                case hy138 =>
                  intro w' hSw
                  try dsimp only at hSw
                  go_simp
                  first | done | with_reducible rfl
                try simp only [Act.put, zq1, zq2, zq3, zq4, zq5, zq6]
                refine wpAnyH_done (by kernel_rfl) ?_ _
                refine OnlyN.normal ?_
                exact ⟨rfl, rfl, by as_aux_lemma => kernel_rfl⟩
              · subst hbs
                obtain rfl : bx = true := BX.out.trans (decide_eq_true hxk)
                refine wpAnyH_take (i := 39) (v := ?v139) rfl (by kernel_rfl) (by kernel_rfl) (by kernel_rfl) (fun _ _ _ h => h) (Or.inl ⟨by rfl, ?hy139⟩) hHeld ?rest139
                case hy139 =>
                  intro w' hSw
                  try dsimp only at hSw
                  go_simp
                  first | done | with_reducible rfl
                try simp only [Act.put, zq1, zq2, zq3, zq4, zq5, zq6]
                refine wpAnyH_take (i := 40) (v := ?v140) rfl (by kernel_rfl) (by kernel_rfl) (by kernel_rfl) (fun _ _ _ h => h) (Or.inl ⟨by rfl, ?hy140⟩) hHeld ?rest140
                case hy140 =>
                  intro w' hSw
                  try dsimp only at hSw
                  go_simp
                  first | done | with_reducible rfl
                try simp only [Act.put, zq1, zq2, zq3, zq4, zq5, zq6]
                refine wpAnyH_take (i := 41) rfl (by kernel_rfl) (by kernel_rfl) (by kernel_rfl) (fun _ _ _ h => h) (yieldsIf_load_mid (by rfl) 28 (.tmp 192) (by rfl) w5.heap.size 0 (by rfl) X.cs _ (fun w' hSw => hs ▸ hSw.2.2.2.2.1) Try.underlying28 rfl (size23 _)) hHeld ?_
                try simp only [Act.put, zq1, zq2, zq3, zq4, zq5, zq6]
                refine wpAnyH_take (i := 42) (v := ?v141) rfl (by kernel_rfl) (by kernel_rfl) (by kernel_rfl) (fun _ _ _ h => h) (Or.inl ⟨by rfl, ?hy141⟩) hHeld ?rest141
                case hy141 =>
                  intro w' hSw
                  try dsimp only at hSw
                  go_simp
                  first | done | with_reducible rfl
                try simp only [Act.put, zq1, zq2, zq3, zq4, zq5, zq6]
                refine wpAnyH_take (i := 43) rfl (by kernel_rfl) (by kernel_rfl) (by kernel_rfl) (fun _ _ _ h => h) (yieldsIf_load_mid (by rfl) 28 (.tmp 194) (by rfl) w.heap.size 6 (by rfl) z.cs _ (fun w' hSw => hSw.2.2.2.2.2.2.2.2) Try.underlying28 rfl (size23 _)) hHeld ?_
                try simp only [Act.put, zq1, zq2, zq3, zq4, zq5, zq6]
                refine wpAnyH_take (i := 44) rfl (by kernel_rfl) (by kernel_rfl) (by kernel_rfl) (fun _ _ _ h => h) (y_ne23n (by rfl) (.tmp 193) (.tmp 195) (by rfl) X z HNE.out (by rfl) (by rfl)) hHeld ?_
                try simp only [Act.put, zq1, zq2, zq3, zq4, zq5, zq6]
                refine wpAnyH_take (i := 45) (v := ?v142) rfl (by kernel_rfl) (by kernel_rfl) (by kernel_rfl) (fun _ _ _ h => h) (Or.inl ⟨by rfl, ?hy142⟩) hHeld ?rest142
                case hy142 =>
                  intro w' hSw
                  try dsimp only at hSw
                  go_simp
                  first | done | with_reducible rfl
                try simp only [Act.put, zq1, zq2, zq3, zq4, zq5, zq6]
                refine wpAnyH_take (i := 46) (v := ?v143) rfl (by kernel_rfl) (by kernel_rfl) (by kernel_rfl) (fun _ _ _ h => h) (Or.inl ⟨by rfl, ?hy143⟩) hHeld ?rest143
                case hy143 =>
                  intro w' hSw
                  try dsimp only at hSw
                  go_simp
                  first | done | with_reducible rfl
                try simp only [Act.put, zq1, zq2, zq3, zq4, zq5, zq6]
                refine wpAnyH_take (i := 47) (v := ?v144) rfl (by kernel_rfl) (by kernel_rfl) (by kernel_rfl) (fun _ _ _ h => h) (Or.inl ⟨by rfl, ?hy144⟩) hHeld ?rest144
                case hy144 =>
                  intro w' hSw
                  try dsimp only at hSw
                  go_simp
                  first | done | with_reducible rfl
                try simp only [Act.put, zq1, zq2, zq3, zq4, zq5, zq6]
                refine wpAnyH_take (i := 48) (v := ?v145) rfl (by kernel_rfl) (by kernel_rfl) (by kernel_rfl) (fun _ _ _ h => h) (Or.inl ⟨by rfl, ?hy145⟩) hHeld ?rest145
                case hy145 =>
                  intro w' hSw
                  try dsimp only at hSw
                  go_simp
                  first | done | with_reducible rfl
                try simp only [Act.put, zq1, zq2, zq3, zq4, zq5, zq6]
                refine wpAnyH_take (i := 49) (v := ?v146) rfl (by kernel_rfl) (by kernel_rfl) (by kernel_rfl) (fun _ _ _ h => h) (Or.inl ⟨by rfl, ?hy146⟩) hHeld ?rest146
                case hy146 =>
                  intro w' hSw
                  try dsimp only at hSw
                  go_simp
                  first | done | with_reducible rfl
                try simp only [Act.put, zq1, zq2, zq3, zq4, zq5, zq6]
                refine wpAnyH_take (i := 50) (v := ?v147) rfl (by kernel_rfl) (by kernel_rfl) (by kernel_rfl) (fun _ _ _ h => h) (Or.inl ⟨by rfl, ?hy147⟩) hHeld ?rest147
                case hy147 =>
                  intro w' hSw
                  try dsimp only at hSw
                  go_simp
                  first | done | with_reducible rfl
                try simp only [Act.put, zq1, zq2, zq3, zq4, zq5, zq6]
                refine wpAnyH_take (i := 51) (v := ?v148) rfl (by kernel_rfl) (by kernel_rfl) (by kernel_rfl) (fun _ _ _ h => h) (Or.inl ⟨by rfl, ?hy148⟩) hHeld ?rest148
                case hy148 =>
                  intro w' hSw
                  try dsimp only at hSw
                  go_simp
                  first | done | with_reducible rfl
                try simp only [Act.put, zq1, zq2, zq3, zq4, zq5, zq6]
                refine wpAnyH_take (i := 52) (v := ?v149) rfl (by kernel_rfl) (by kernel_rfl) (by kernel_rfl) (fun _ _ _ h => h) (Or.inl ⟨by rfl, ?hy149⟩) hHeld ?rest149
                case hy149 =>
                  intro w' hSw
                  try dsimp only at hSw
                  go_simp
                  first | done | with_reducible rfl
                try simp only [Act.put, zq1, zq2, zq3, zq4, zq5, zq6]
                refine wpAnyH_take (i := 53) (v := ?v150) rfl (by kernel_rfl) (by kernel_rfl) (by kernel_rfl) (fun _ _ _ h => h) (Or.inl ⟨by rfl, ?hy150⟩) hHeld ?rest150
                case hy150 =>
                  intro w' hSw
                  try dsimp only at hSw
                  go_simp
                  first | done | with_reducible rfl
                try simp only [Act.put, zq1, zq2, zq3, zq4, zq5, zq6]
                refine wpAnyH_take (i := 54) rfl (by kernel_rfl) (by kernel_rfl) (by kernel_rfl) (fun _ _ _ h => h) (yieldsIf_load_mid (by rfl) 28 (.tmp 205) (by rfl) w5.heap.size 0 (by rfl) X.cs _ (fun w' hSw => hs ▸ hSw.2.2.2.2.1) Try.underlying28 rfl (size23 _)) hHeld ?_
                try simp only [Act.put, zq1, zq2, zq3, zq4, zq5, zq6]
                refine wpAnyH_take (i := 55) (v := ?v151) rfl (by kernel_rfl) (by kernel_rfl) (by kernel_rfl) (fun _ _ _ h => h) (Or.inl ⟨by rfl, ?hy151⟩) hHeld ?rest151
                case hy151 =>
                  intro w' hSw
                  try dsimp only at hSw
                  go_simp
                  first | done | with_reducible rfl
                try simp only [Act.put, zq1, zq2, zq3, zq4, zq5, zq6]
                refine wpAnyH_take (i := 56) (v := ?v152) rfl (by kernel_rfl) (by kernel_rfl) (by kernel_rfl) (fun _ _ _ h => h) (Or.inl ⟨by rfl, ?hy152⟩) hHeld ?rest152
                case hy152 =>
                  intro w' hSw
                  try dsimp only at hSw
                  go_simp
                  first | done | with_reducible rfl
                try simp only [Act.put, zq1, zq2, zq3, zq4, zq5, zq6]
                refine wpAnyH_take (i := 57) rfl (by kernel_rfl) (by kernel_rfl) (by kernel_rfl) (fun _ _ _ h => h) (yieldsIf_load_mid (by rfl) 28 (.tmp 208) (by rfl) w.heap.size 0 (by rfl) X.cs _ (fun w' hSw => hSw.2.2.2.2.2.2.1) Try.underlying28 rfl (size23 _)) hHeld ?_
                try simp only [Act.put, zq1, zq2, zq3, zq4, zq5, zq6]
                refine wpAnyH_take (i := 58) rfl (by kernel_rfl) (by kernel_rfl) (by kernel_rfl) (fun _ _ _ h => h) (y_ne23 (by rfl) (.tmp 206) (.tmp 209) (by rfl) X (by rfl) (by rfl)) hHeld ?_
                try simp only [Act.put, zq1, zq2, zq3, zq4, zq5, zq6]
                refine wpAnyH_take (i := 59) (v := ?v153) rfl (by kernel_rfl) (by kernel_rfl) (by kernel_rfl) (fun _ _ _ h => h) (Or.inl ⟨by rfl, ?hy153⟩) hHeld ?rest153
                case hy153 =>
                  intro w' hSw
                  try dsimp only at hSw
                  go_simp
                  first | done | with_reducible rfl
                try simp only [Act.put, zq1, zq2, zq3, zq4, zq5, zq6]
                refine wpAnyH_take (i := 60) (v := ?v154) rfl (by kernel_rfl) (by kernel_rfl) (by kernel_rfl) (fun _ _ _ h => h) (Or.inl ⟨by rfl, ?hy154⟩) hHeld ?rest154
                case hy154 =>
                  intro w' hSw
                  try dsimp only at hSw
                  go_simp
                  first | done | with_reducible rfl
                try simp only [Act.put, zq1, zq2, zq3, zq4, zq5, zq6]
                refine wpAnyH_take (i := 61) (v := ?v155) rfl (by kernel_rfl) (by kernel_rfl) (by kernel_rfl) (fun _ _ _ h => h) (Or.inl ⟨by rfl, ?hy155⟩) hHeld ?rest155
                case hy155 =>
                  intro w' hSw
                  try dsimp only at hSw
                  go_simp
                  first | done | with_reducible rfl
                try simp only [Act.put, zq1, zq2, zq3, zq4, zq5, zq6]
                refine wpAnyH_done (by kernel_rfl) ?_ _
                refine OnlyN.normal ?_
                exact ⟨rfl, rfl, by as_aux_lemma => kernel_rfl⟩
            · rw [Bool.not_eq_true] at hbs
              subst hbs
              refine wpAnyH_take (i := 39) (v := undef) rfl (by kernel_rfl) (by kernel_rfl) (by kernel_rfl) (fun _ _ _ h => h) (Or.inr ⟨by rfl, rfl⟩) hHeld ?_
              try simp only [Act.put, zq1, zq2, zq3, zq4, zq5, zq6]
              refine wpAnyH_take (i := 40) (v := undef) rfl (by kernel_rfl) (by kernel_rfl) (by kernel_rfl) (fun _ _ _ h => h) (Or.inr ⟨by rfl, rfl⟩) hHeld ?_
              try simp only [Act.put, zq1, zq2, zq3, zq4, zq5, zq6]
              refine wpAnyH_take (i := 41) (v := undef) rfl (by kernel_rfl) (by kernel_rfl) (by kernel_rfl) (fun _ _ _ h => h) (Or.inr ⟨by rfl, rfl⟩) hHeld ?_
              try simp only [Act.put, zq1, zq2, zq3, zq4, zq5, zq6]
              refine wpAnyH_take (i := 42) (v := undef) rfl (by kernel_rfl) (by kernel_rfl) (by kernel_rfl) (fun _ _ _ h => h) (Or.inr ⟨by rfl, rfl⟩) hHeld ?_
              try simp only [Act.put, zq1, zq2, zq3, zq4, zq5, zq6]
              refine wpAnyH_take (i := 43) (v := undef) rfl (by kernel_rfl) (by kernel_rfl) (by kernel_rfl) (fun _ _ _ h => h) (Or.inr ⟨by rfl, rfl⟩) hHeld ?_
              try simp only [Act.put, zq1, zq2, zq3, zq4, zq5, zq6]
              refine wpAnyH_take (i := 44) (v := undef) rfl (by kernel_rfl) (by kernel_rfl) (by kernel_rfl) (fun _ _ _ h => h) (Or.inr ⟨by rfl, rfl⟩) hHeld ?_
              try simp only [Act.put, zq1, zq2, zq3, zq4, zq5, zq6]
              refine wpAnyH_take (i := 45) (v := ?v156) rfl (by kernel_rfl) (by kernel_rfl) (by kernel_rfl) (fun _ _ _ h => h) (Or.inl ⟨by rfl, ?hy156⟩) hHeld ?rest156
              case hy156 =>
                intro w' hSw
                try dsimp only at hSw
                go_simp
                first | done | with_reducible rfl
              try simp only [Act.put, zq1, zq2, zq3, zq4, zq5, zq6]
              refine wpAnyH_take (i := 46) (v := ?v157) rfl (by kernel_rfl) (by kernel_rfl) (by kernel_rfl) (fun _ _ _ h => h) (Or.inl ⟨by rfl, ?hy157⟩) hHeld ?rest157
              case hy157 =>
                intro w' hSw
                try dsimp only at hSw
                go_simp
                first | done | with_reducible rfl
              try simp only [Act.put, zq1, zq2, zq3, zq4, zq5, zq6]
              refine wpAnyH_take (i := 47) (v := undef) rfl (by kernel_rfl) (by kernel_rfl) (by kernel_rfl) (fun _ _ _ h => h) (Or.inr ⟨by rfl, rfl⟩) hHeld ?_
              try simp only [Act.put, zq1, zq2, zq3, zq4, zq5, zq6]
              refine wpAnyH_take (i := 48) (v := undef) rfl (by kernel_rfl) (by kernel_rfl) (by kernel_rfl) (fun _ _ _ h => h) (Or.inr ⟨by rfl, rfl⟩) hHeld ?_
              try simp only [Act.put, zq1, zq2, zq3, zq4, zq5, zq6]
              refine wpAnyH_take (i := 49) (v := undef) rfl (by kernel_rfl) (by kernel_rfl) (by kernel_rfl) (fun _ _ _ h => h) (Or.inr ⟨by rfl, rfl⟩) hHeld ?_
              try simp only [Act.put, zq1, zq2, zq3, zq4, zq5, zq6]
              refine wpAnyH_take (i := 50) (v := undef) rfl (by kernel_rfl) (by kernel_rfl) (by kernel_rfl) (fun _ _ _ h => h) (Or.inr ⟨by rfl, rfl⟩) hHeld ?_
              try simp only [Act.put, zq1, zq2, zq3, zq4, zq5, zq6]
              refine wpAnyH_take (i := 51) (v := undef) rfl (by kernel_rfl) (by kernel_rfl) (by kernel_rfl) (fun _ _ _ h => h) (Or.inr ⟨by rfl, rfl⟩) hHeld ?_
              try simp only [Act.put, zq1, zq2, zq3, zq4, zq5, zq6]
              refine wpAnyH_take (i := 52) (v := undef) rfl (by kernel_rfl) (by kernel_rfl) (by kernel_rfl) (fun _ _ _ h => h) (Or.inr ⟨by rfl, rfl⟩) hHeld ?_
              try simp only [Act.put, zq1, zq2, zq3, zq4, zq5, zq6]
              refine wpAnyH_take (i := 53) (v := undef) rfl (by kernel_rfl) (by kernel_rfl) (by kernel_rfl) (fun _ _ _ h => h) (Or.inr ⟨by rfl, rfl⟩) hHeld ?_
              try simp only [Act.put, zq1, zq2, zq3, zq4, zq5, zq6]
              refine wpAnyH_take (i := 54) (v := undef) rfl (by kernel_rfl) (by kernel_rfl) (by kernel_rfl) (fun _ _ _ h => h) (Or.inr ⟨by rfl, rfl⟩) hHeld ?_
              try simp only [Act.put, zq1, zq2, zq3, zq4, zq5, zq6]
              refine wpAnyH_take (i := 55) (v := undef) rfl (by kernel_rfl) (by kernel_rfl) (by kernel_rfl) (fun _ _ _ h => h) (Or.inr ⟨by rfl, rfl⟩) hHeld ?_
              try simp only [Act.put, zq1, zq2, zq3, zq4, zq5, zq6]
              refine wpAnyH_take (i := 56) (v := undef) rfl (by kernel_rfl) (by kernel_rfl) (by kernel_rfl) (fun _ _ _ h => h) (Or.inr ⟨by rfl, rfl⟩) hHeld ?_
              try simp only [Act.put, zq1, zq2, zq3, zq4, zq5, zq6]
              refine wpAnyH_take (i := 57) (v := undef) rfl (by kernel_rfl) (by kernel_rfl) (by kernel_rfl) (fun _ _ _ h => h) (Or.inr ⟨by rfl, rfl⟩) hHeld ?_
              try simp only [Act.put, zq1, zq2, zq3, zq4, zq5, zq6]
              refine wpAnyH_take (i := 58) (v := undef) rfl (by kernel_rfl) (by kernel_rfl) (by kernel_rfl) (fun _ _ _ h => h) (Or.inr ⟨by rfl, rfl⟩) hHeld ?_
              try simp only [Act.put, zq1, zq2, zq3, zq4, zq5, zq6]
              refine wpAnyH_take (i := 59) (v := undef) rfl (by kernel_rfl) (by kernel_rfl) (by kernel_rfl) (fun _ _ _ h => h) (Or.inr ⟨by rfl, rfl⟩) hHeld ?_
              try simp only [Act.put, zq1, zq2, zq3, zq4, zq5, zq6]
              refine wpAnyH_take (i := 60) (v := ?v158) rfl (by kernel_rfl) (by kernel_rfl) (by kernel_rfl) (fun _ _ _ h => h) (Or.inl ⟨by rfl, ?hy158⟩) hHeld ?rest158
              case hy158 =>
                intro w' hSw
                try dsimp only at hSw
                go_simp
                first | done | with_reducible rfl
              try simp only [Act.put, zq1, zq2, zq3, zq4, zq5, zq6]
              refine wpAnyH_take (i := 61) (v := ?v159) rfl (by kernel_rfl) (by kernel_rfl) (by kernel_rfl) (fun _ _ _ h => h) (Or.inl ⟨by rfl, ?hy159⟩) hHeld ?rest159
              case hy159 =>
                intro w' hSw
                try dsimp only at hSw
                go_simp
                first | done | with_reducible rfl
              try simp only [Act.put, zq1, zq2, zq3, zq4, zq5, zq6]
              refine wpAnyH_done (by kernel_rfl) ?_ _
              refine OnlyN.normal ?_
              exact ⟨rfl, rfl, by as_aux_lemma => kernel_rfl⟩
        case rest => as_aux_lemma =>
          intro v
          simp only [Act.put, zq4, zq5, zq6]
          go_wp2_with (go_at_call 24; refine (un_flush (n := 0) (u := z) (show Un w.heap.size w _ [(w5.heap.size + 1, 50, #[.bool bs, .bool bY]), (w5.heap.size, 49, (cs2 N0 N1).toArray), (w.heap.size + 5, 50, #[.bool bx, .bool bY]), (w.heap.size, 59, (c9 X Y z)), (w.heap.size + 1, 62, #[.slice A c.keep.length cap, .int .i64 c.torn, .int .i64 c.bytes]), (w.heap.size + 2, 65, #[.int .i64 f, .int .u32 (b : Int)])] zz (twoL X Y) (if z.ok then [(0, hdB z)] else []) 5 from by rw [if_pos ZK.out]; exact U7.out) (by decide)).mono ?_; rintro e w8 ⟨rfl, hu⟩; have U8 := Lib.hid hu; clear hu)
          obtain ⟨D, hv, d1, d2, d3, d4, d5⟩ := U8.out.vn 0 f b
          have V0 := Lib.hid hv
          have D1 := Lib.hid d1
          have D2 := Lib.hid d2
          have D3 := Lib.hid d3
          have D4 := Lib.hid d4
          have D5 := Lib.hid d5
          clear hv d1 d2 d3 d4 d5 U7 U8 HN HS
          go_loopw [22, 23] (fun tv nv wr => ∃ n : Nat, n ≤ 32 ∧ nv = .int .i64 (n : Int) ∧ tv = .bool (decide (numT f b n ≠ 0)) ∧ Vn w.heap.size w wr [(w5.heap.size + 1, 50, #[.bool bs, .bool bY]), (w5.heap.size, 49, (cs2 N0 N1).toArray), (w.heap.size + 5, 50, #[.bool bx, .bool bY]), (w.heap.size, 59, (c9 X Y z)), (w.heap.size + 1, 62, #[.slice A c.keep.length cap, .int .i64 c.torn, .int .i64 c.bytes]), (w.heap.size + 2, 65, #[.int .i64 f, .int .u32 (b : Int)])] D 0 f b n) (fun _ nv _ => 32 - (intOf nv).toNat)
          case atStart => exact ⟨0, by omega, rfl, rfl, V0.out⟩
          case round =>
            obtain ⟨n, hn, rfl, rfl, hv⟩ := hrel
            clear V0
            have VV := Lib.hid hv
            clear hv
            by_cases hlt : n < 32
            · as_aux_lemma =>
              have i1 : (n : Int) < 32 := by omega
              have c0 := ((VV.out.at_ 5 rfl).cell 0).trans (show _ = some (.int .i64 f) from rfl)
              have c1 := ((VV.out.at_ 5 rfl).cell 1).trans (show _ = some (.int .u32 (b : Int)) from rfl)
              by_cases f0 : 0 ≤ f
              · have e0 : decide (0 ≤ f) = true := decide_eq_true f0
                by_cases f1 : f < 4096
                · have mw : IntKind.i64.wrap (f + (n : Int)) = f + (n : Int) := IntWalk.i64_in _ (by omega)
                  have e1 : decide (f < 4096) = true := decide_eq_true f1
                  by_cases f2 : f + (n : Int) < 4096
                  · have e2 : decide (f + (n : Int) < 4096) = true := decide_eq_true f2
                    by_cases f3 : b / 2 ^ n % 2 = 1
                    · have eb : (((b : Int) / 2 ^ n).tmod 2 == 1) = true := (bit_eq b n).trans (decide_eq_true f3)
                      have HH := Lib.hid (show hitT f b n = true by simp [hitT, f0, f1, f2, f3])
                      go_wp2_with (go_at_call 26; refine (vn_spoilq VV.out D3.out 0 rfl (by rw [D1.out]; have := Z1.out; omega) HH.out).mono ?_; rintro e w9 ⟨rfl, hv⟩; have V9 := Lib.hid hv; clear hv c0 c1)
                      go_roundw
                      case rel => exact ⟨n + 1, by omega, by go_num, by rw [decide_eq_true (numT_hit HH.out)], V9.out⟩
                      case measure => simp [intOf]; omega
                    · have eb : (((b : Int) / 2 ^ n).tmod 2 == 1) = false := (bit_eq b n).trans (decide_eq_false f3)
                      have HH := Lib.hid (show hitT f b n = false by simp [hitT, f3])
                      go_wp2_with fail
                      go_roundw
                      case rel => exact ⟨n + 1, by omega, by go_num, by rw [numT_miss HH.out], VV.out.skip HH.out⟩
                      case measure => simp [intOf]; omega
                  · have e2 : decide (f + (n : Int) < 4096) = false := decide_eq_false f2
                    have HH := Lib.hid (show hitT f b n = false by simp [hitT, f2])
                    go_wp2_with fail
                    go_roundw
                    case rel => exact ⟨n + 1, by omega, by go_num, by rw [numT_miss HH.out], VV.out.skip HH.out⟩
                    case measure => simp [intOf]; omega
                · have e1 : decide (f < 4096) = false := decide_eq_false f1
                  have HH := Lib.hid (show hitT f b n = false by simp [hitT, f1])
                  go_wp2_with fail
                  go_roundw
                  case rel => exact ⟨n + 1, by omega, by go_num, by rw [numT_miss HH.out], VV.out.skip HH.out⟩
                  case measure => simp [intOf]; omega
              · have e0 : decide (0 ≤ f) = false := decide_eq_false f0
                have HH := Lib.hid (show hitT f b n = false by simp [hitT, f0])
                go_wp2_with fail
                go_roundw
                case rel => exact ⟨n + 1, by omega, by go_num, by rw [numT_miss HH.out], VV.out.skip HH.out⟩
                case measure => simp [intOf]; omega
            · as_aux_lemma =>
              obtain rfl : n = 32 := by omega
              have U9 := Lib.hid (VV.out.un (zz := zz) (m := 6) D1.out D3.out D4.out D5.out)
              have ST := Lib.hid (seen_turned (sl := 0) (o := 1) (f := f) (b := b) (by decide) (twoL_1 X Y) BY.out ZK.out ZE.out ZZ.out YE.out YZ.out D2.out)
              have UB := Lib.hid (un_both U9.out Z1.out.1 (by decide))
              obtain ⟨tn, htn⟩ : ∃ tn, decide (numT f b 32 ≠ 0) = tn := ⟨_, rfl⟩
              have HT1 := Lib.hid (show gotB zz ((dkT D 0 f b 32).lasts 0) = !tn by rw [ST.out.2.1, ← htn]; simp)
              obtain ⟨M0, M1, hM0, hM1⟩ : ∃ M0 M1, gotH zz ((dkT D 0 f b 32).lasts 0) = M0 ∧ gotH zz ((dkT D 0 f b 32).lasts 1) = M1 := ⟨_, _, rfl, rfl⟩
              have HM := Lib.hid (show tn = false → M0 = z from fun h => hM0 ▸ ST.out.2.2 (by rw [h] at htn; simpa using htn))
              replace UB := Lib.hid (by have h := UB.out; rw [hM0, hM1, HT1.out, ST.out.1] at h; exact h)
              rw [htn]
              clear htn hM0 hM1 HT1 ST VV D1 D2 D3 D4 D5
              go_wp2_with (first
                | (go_at_call 20; refine UB.out.mono ?_; clear UB; rintro e w9 ⟨rfl, hu⟩; have U10 := Lib.hid hu; clear hu U9)
                | (refine wpList_store_g8 rfl 49 (.tmp 18) (.tmp 255) rfl (g := w5.heap.size) (by rfl) (cs2 M0 M1).toArray (cs2 N0 N1).toArray 49 (by rfl) (U10.out.at_ 1 rfl) (by kernel_rfl) rfl (cs2_one _ _) ?_; intro w10 j f6; have U11 := Lib.hid (U10.out.set 1 rfl (by have := S5.out; omega) f6 j); clear j f6 U10)
                | (refine wpList_store_g8 rfl 50 (.tmp 19) (.tmp 256) rfl (g := w5.heap.size + 1) (by rfl) #[.bool (!tn), .bool bY] #[.bool bs, .bool bY] 50 (by rfl) (U11.out.at_ 0 rfl) (by kernel_rfl) rfl (by simp [Value.oneCell']) ?_; intro w11 j f6; have UU := Lib.hid (show Un w.heap.size w w11 [(w5.heap.size + 1, 50, #[.bool (!tn), .bool bY]), (w5.heap.size, 49, (cs2 M0 M1).toArray), (w.heap.size + 5, 50, #[.bool bx, .bool bY]), (w.heap.size, 59, (c9 X Y z)), (w.heap.size + 1, 62, #[.slice A c.keep.length cap, .int .i64 c.torn, .int .i64 c.bytes]), (w.heap.size + 2, 65, #[.int .i64 f, .int .u32 (b : Int)])] zz (dkT D 0 f b 32).lasts [] 8 from U11.out.set 0 rfl (by have := S5.out; omega) f6 j); clear j f6 U11))
              replace UU := Lib.hid UU.out.drew
              cases tn with
              | true =>
                refine wp_region_only (S := fun w' => w'.cell? ⟨w.heap.size + 5, 0, none⟩ = some (.bool bx) ∧ w'.cell? ⟨w.heap.size + 5, 1, none⟩ = some (.bool bY) ∧ w'.cell? ⟨w5.heap.size + 1, 0, none⟩ = some (.bool false) ∧ w'.cell? ⟨w5.heap.size + 1, 1, none⟩ = some (.bool bY) ∧ w'.rangeAt w5.heap.size 0 M0.cs ∧ w'.rangeAt w.heap.size 6 z.cs) (by kernel_rfl) ⟨((UU.out.at_ 2 rfl).cell 0).trans rfl, ((UU.out.at_ 2 rfl).cell 1).trans rfl, ((UU.out.at_ 0 rfl).cell 0).trans rfl, ((UU.out.at_ 0 rfl).cell 1).trans rfl, (rng6 (UU.out.at_ 1 rfl)).1, (rng9 (UU.out.at_ 3 rfl)).2.2⟩ (fun hHeld => ?_)
                refine wpAnyH_take (i := 0) (v := ?v160) rfl (by kernel_rfl) (by kernel_rfl) (by kernel_rfl) (fun _ _ _ h => h) (Or.inl ⟨by rfl, ?hy160⟩) hHeld ?rest160
                case hy160 =>
                  intro w' hSw
                  try dsimp only at hSw
                  go_simp
                  first | done | with_reducible rfl
                try simp only [Act.put, zq1, zq3, zq4, zq5, zq6]
                refine wpAnyH_take (i := 2) (v := ?v161) rfl (by kernel_rfl) (by kernel_rfl) (by kernel_rfl) (fun _ _ _ h => h) (Or.inl ⟨by rfl, ?hy161⟩) hHeld ?rest161
                case hy161 =>
                  intro w' hSw
                  try dsimp only at hSw
                  go_simp
                  first | done | with_reducible rfl
                try simp only [Act.put, zq1, zq2, zq3, zq4, zq5, zq6]
                refine wpAnyH_ready (rs := [1]) (by kernel_rfl) (by simp) ?_
                refine AllReadyH.cons (by rfl) (fun K hK => ?_) AllReadyH.nil
                go_simp
                refine (num8_any _ _).mono ?_
                rintro e y1 ⟨rfl, rfl⟩
                clear hHeld
                refine hK.out _ _ ⟨((UU.out.at_ 2 rfl).cell 0).trans rfl, ((UU.out.at_ 2 rfl).cell 1).trans rfl, ((UU.out.at_ 0 rfl).cell 0).trans rfl, ((UU.out.at_ 0 rfl).cell 1).trans rfl, (rng6 (UU.out.at_ 1 rfl)).1, (rng9 (UU.out.at_ 3 rfl)).2.2⟩ (fun hHeld => ?_)
                clear hK K
                try simp only [Act.put, zq1, zq2, zq3, zq4, zq5, zq6]
                refine wpAnyH_ready (rs := [3]) (by kernel_rfl) (by simp) ?_
                refine AllReadyH.cons (by rfl) (fun K hK => ?_) AllReadyH.nil
                go_simp
                refine (num8_any _ _).mono ?_
                rintro e y1 ⟨rfl, rfl⟩
                clear hHeld
                refine hK.out _ _ ⟨((UU.out.at_ 2 rfl).cell 0).trans rfl, ((UU.out.at_ 2 rfl).cell 1).trans rfl, ((UU.out.at_ 0 rfl).cell 0).trans rfl, ((UU.out.at_ 0 rfl).cell 1).trans rfl, (rng6 (UU.out.at_ 1 rfl)).1, (rng9 (UU.out.at_ 3 rfl)).2.2⟩ (fun hHeld => ?_)
                clear hK K
                try simp only [Act.put, zq1, zq2, zq3, zq4, zq5, zq6]
                refine wpAnyH_take (i := 4) (v := ?v162) rfl (by kernel_rfl) (by kernel_rfl) (by kernel_rfl) (fun _ _ _ h => h) (Or.inl ⟨by rfl, ?hy162⟩) hHeld ?rest162
                case hy162 =>
                  intro w' hSw
                  try dsimp only at hSw
                  go_simp
                  first | done | with_reducible rfl
                try simp only [Act.put, zq1, zq2, zq3, zq4, zq5, zq6]
                refine wpAnyH_take (i := 5) (v := ?v163) rfl (by kernel_rfl) (by kernel_rfl) (by kernel_rfl) (fun _ _ _ h => h) (Or.inl ⟨by rfl, ?hy163⟩) hHeld ?rest163
                case hy163 =>
                  intro w' hSw
                  try dsimp only at hSw
                  go_simp
                  first | done | with_reducible rfl
                try simp only [Act.put, zq1, zq2, zq3, zq4, zq5, zq6]
                refine wpAnyH_take (i := 6) (v := ?v164) rfl (by kernel_rfl) (by kernel_rfl) (by kernel_rfl) (fun _ _ _ h => h) (Or.inl ⟨by rfl, ?hy164⟩) hHeld ?rest164
                case hy164 =>
                  intro w' hSw
                  try dsimp only at hSw
                  go_simp
                  first | done | with_reducible rfl
                try simp only [Act.put, zq1, zq2, zq3, zq4, zq5, zq6]
                refine wpAnyH_take (i := 7) (v := ?v165) rfl (by kernel_rfl) (by kernel_rfl) (by kernel_rfl) (fun _ _ _ h => h) (Or.inl ⟨by rfl, ?hy165⟩) hHeld ?rest165
                case hy165 =>
                  intro w' hSw
                  try dsimp only at hSw
                  go_simp
                  first | done | with_reducible rfl
                try simp only [Act.put, zq1, zq2, zq3, zq4, zq5, zq6]
                refine wpAnyH_take (i := 8) (v := ?v166) rfl (by kernel_rfl) (by kernel_rfl) (by kernel_rfl) (fun _ _ _ h => h) (Or.inl ⟨by rfl, ?hy166⟩) hHeld ?rest166
                case hy166 =>
                  intro w' hSw
                  try dsimp only at hSw
                  go_simp
                  first | done | with_reducible rfl
                try simp only [Act.put, zq1, zq2, zq3, zq4, zq5, zq6]
                refine wpAnyH_take (i := 9) (v := ?v167) rfl (by kernel_rfl) (by kernel_rfl) (by kernel_rfl) (fun _ _ _ h => h) (Or.inl ⟨by rfl, ?hy167⟩) hHeld ?rest167
                case hy167 =>
                  intro w' hSw
                  try dsimp only at hSw
                  go_simp
                  first | done | with_reducible rfl
                try simp only [Act.put, zq1, zq2, zq3, zq4, zq5, zq6]
                refine wpAnyH_take (i := 10) (v := ?v168) rfl (by kernel_rfl) (by kernel_rfl) (by kernel_rfl) (fun _ _ _ h => h) (Or.inl ⟨by rfl, ?hy168⟩) hHeld ?rest168
                case hy168 =>
                  intro w' hSw
                  try dsimp only at hSw
                  go_simp
                  first | done | with_reducible rfl
                try simp only [Act.put, zq1, zq2, zq3, zq4, zq5, zq6]
                refine wpAnyH_take (i := 11) (v := ?v169) rfl (by kernel_rfl) (by kernel_rfl) (by kernel_rfl) (fun _ _ _ h => h) (Or.inl ⟨by rfl, ?hy169⟩) hHeld ?rest169
                case hy169 =>
                  intro w' hSw
                  try dsimp only at hSw
                  go_simp
                  first | done | with_reducible rfl
                try simp only [Act.put, zq1, zq2, zq3, zq4, zq5, zq6]
                refine wpAnyH_take (i := 12) (v := ?v170) rfl (by kernel_rfl) (by kernel_rfl) (by kernel_rfl) (fun _ _ _ h => h) (Or.inl ⟨by rfl, ?hy170⟩) hHeld ?rest170
                case hy170 =>
                  intro w' hSw
                  try dsimp only at hSw
                  go_simp
                  first | done | with_reducible rfl
                try simp only [Act.put, zq1, zq2, zq3, zq4, zq5, zq6]
                refine wpAnyH_take (i := 13) (v := ?v171) rfl (by kernel_rfl) (by kernel_rfl) (by kernel_rfl) (fun _ _ _ h => h) (Or.inl ⟨by rfl, ?hy171⟩) hHeld ?rest171
                case hy171 =>
                  intro w' hSw
                  try dsimp only at hSw
                  go_simp
                  first | done | with_reducible rfl
                try simp only [Act.put, zq1, zq2, zq3, zq4, zq5, zq6]
                refine wpAnyH_take (i := 14) (v := ?v172) rfl (by kernel_rfl) (by kernel_rfl) (by kernel_rfl) (fun _ _ _ h => h) (Or.inl ⟨by rfl, ?hy172⟩) hHeld ?rest172
                case hy172 =>
                  intro w' hSw
                  try dsimp only at hSw
                  go_simp
                  first | done | with_reducible rfl
                try simp only [Act.put, zq1, zq2, zq3, zq4, zq5, zq6]
                refine wpAnyH_take (i := 15) (v := ?v173) rfl (by kernel_rfl) (by kernel_rfl) (by kernel_rfl) (fun _ _ _ h => h) (Or.inl ⟨by rfl, ?hy173⟩) hHeld ?rest173
                case hy173 =>
                  intro w' hSw
                  try dsimp only at hSw
                  go_simp
                  first | done | with_reducible rfl
                try simp only [Act.put, zq1, zq2, zq3, zq4, zq5, zq6]
                refine wpAnyH_take (i := 16) (v := undef) rfl (by kernel_rfl) (by kernel_rfl) (by kernel_rfl) (fun _ _ _ h => h) (Or.inr ⟨by rfl, rfl⟩) hHeld ?_
                try simp only [Act.put, zq1, zq2, zq3, zq4, zq5, zq6]
                refine wpAnyH_take (i := 17) (v := undef) rfl (by kernel_rfl) (by kernel_rfl) (by kernel_rfl) (fun _ _ _ h => h) (Or.inr ⟨by rfl, rfl⟩) hHeld ?_
                try simp only [Act.put, zq1, zq2, zq3, zq4, zq5, zq6]
                refine wpAnyH_take (i := 18) (v := undef) rfl (by kernel_rfl) (by kernel_rfl) (by kernel_rfl) (fun _ _ _ h => h) (Or.inr ⟨by rfl, rfl⟩) hHeld ?_
                try simp only [Act.put, zq1, zq2, zq3, zq4, zq5, zq6]
                refine wpAnyH_take (i := 19) (v := undef) rfl (by kernel_rfl) (by kernel_rfl) (by kernel_rfl) (fun _ _ _ h => h) (Or.inr ⟨by rfl, rfl⟩) hHeld ?_
                try simp only [Act.put, zq1, zq2, zq3, zq4, zq5, zq6]
                refine wpAnyH_take (i := 20) (v := undef) rfl (by kernel_rfl) (by kernel_rfl) (by kernel_rfl) (fun _ _ _ h => h) (Or.inr ⟨by rfl, rfl⟩) hHeld ?_
                try simp only [Act.put, zq1, zq2, zq3, zq4, zq5, zq6]
                refine wpAnyH_take (i := 21) (v := undef) rfl (by kernel_rfl) (by kernel_rfl) (by kernel_rfl) (fun _ _ _ h => h) (Or.inr ⟨by rfl, rfl⟩) hHeld ?_
                try simp only [Act.put, zq1, zq2, zq3, zq4, zq5, zq6]
                refine wpAnyH_take (i := 22) (v := ?v174) rfl (by kernel_rfl) (by kernel_rfl) (by kernel_rfl) (fun _ _ _ h => h) (Or.inl ⟨by rfl, ?hy174⟩) hHeld ?rest174
                case hy174 =>
                  intro w' hSw
                  try dsimp only at hSw
                  go_simp
                  first | done | with_reducible rfl
                try simp only [Act.put, zq1, zq2, zq3, zq4, zq5, zq6]
                refine wpAnyH_take (i := 23) (v := ?v175) rfl (by kernel_rfl) (by kernel_rfl) (by kernel_rfl) (fun _ _ _ h => h) (Or.inl ⟨by rfl, ?hy175⟩) hHeld ?rest175
                case hy175 =>
                  intro w' hSw
                  try dsimp only at hSw
                  go_simp
                  first | done | with_reducible rfl
                try simp only [Act.put, zq1, zq2, zq3, zq4, zq5, zq6]
                refine wpAnyH_take (i := 24) (v := ?v176) rfl (by kernel_rfl) (by kernel_rfl) (by kernel_rfl) (fun _ _ _ h => h) (Or.inl ⟨by rfl, ?hy176⟩) hHeld ?rest176
                case hy176 =>
                  intro w' hSw
                  try dsimp only at hSw
                  go_simp
                  first | done | with_reducible rfl
                try simp only [Act.put, zq1, zq2, zq3, zq4, zq5, zq6]
                refine wpAnyH_take (i := 25) (v := ?v177) rfl (by kernel_rfl) (by kernel_rfl) (by kernel_rfl) (fun _ _ _ h => h) (Or.inl ⟨by rfl, ?hy177⟩) hHeld ?rest177
                case hy177 =>
                  intro w' hSw
                  try dsimp only at hSw
                  go_simp
                  first | done | with_reducible rfl
                try simp only [Act.put, zq1, zq2, zq3, zq4, zq5, zq6]
                refine wpAnyH_take (i := 26) (v := ?v178) rfl (by kernel_rfl) (by kernel_rfl) (by kernel_rfl) (fun _ _ _ h => h) (Or.inl ⟨by rfl, ?hy178⟩) hHeld ?rest178
                case hy178 =>
                  intro w' hSw
                  try dsimp only at hSw
                  go_simp
                  first | done | with_reducible rfl
                try simp only [Act.put, zq1, zq2, zq3, zq4, zq5, zq6]
                refine wpAnyH_take (i := 27) (v := ?v179) rfl (by kernel_rfl) (by kernel_rfl) (by kernel_rfl) (fun _ _ _ h => h) (Or.inl ⟨by rfl, ?hy179⟩) hHeld ?rest179
                case hy179 =>
                  intro w' hSw
                  try dsimp only at hSw
                  go_simp
                  first | done | with_reducible rfl
                try simp only [Act.put, zq1, zq2, zq3, zq4, zq5, zq6]
                refine wpAnyH_take (i := 28) (v := ?v180) rfl (by kernel_rfl) (by kernel_rfl) (by kernel_rfl) (fun _ _ _ h => h) (Or.inl ⟨by rfl, ?hy180⟩) hHeld ?rest180
                case hy180 =>
                  intro w' hSw
                  try dsimp only at hSw
                  go_simp
                  first | done | with_reducible rfl
                try simp only [Act.put, zq1, zq2, zq3, zq4, zq5, zq6]
                refine wpAnyH_take (i := 29) (v := ?v181) rfl (by kernel_rfl) (by kernel_rfl) (by kernel_rfl) (fun _ _ _ h => h) (Or.inl ⟨by rfl, ?hy181⟩) hHeld ?rest181
                case hy181 =>
                  intro w' hSw
                  try dsimp only at hSw
                  go_simp
                  first | done | with_reducible rfl
                try simp only [Act.put, zq1, zq2, zq3, zq4, zq5, zq6]
                refine wpAnyH_take (i := 30) (v := ?v182) rfl (by kernel_rfl) (by kernel_rfl) (by kernel_rfl) (fun _ _ _ h => h) (Or.inl ⟨by rfl, ?hy182⟩) hHeld ?rest182
                case hy182 =>
                  intro w' hSw
                  try dsimp only at hSw
                  go_simp
                  first | done | with_reducible rfl
                try simp only [Act.put, zq1, zq2, zq3, zq4, zq5, zq6]
                refine wpAnyH_take (i := 31) (v := ?v183) rfl (by kernel_rfl) (by kernel_rfl) (by kernel_rfl) (fun _ _ _ h => h) (Or.inl ⟨by rfl, ?hy183⟩) hHeld ?rest183
                case hy183 =>
                  intro w' hSw
                  try dsimp only at hSw
                  go_simp
                  first | done | with_reducible rfl
                try simp only [Act.put, zq1, zq2, zq3, zq4, zq5, zq6]
                refine wpAnyH_take (i := 32) (v := ?v184) rfl (by kernel_rfl) (by kernel_rfl) (by kernel_rfl) (fun _ _ _ h => h) (Or.inl ⟨by rfl, ?hy184⟩) hHeld ?rest184
                case hy184 =>
                  intro w' hSw
                  try dsimp only at hSw
                  go_simp
                  first | done | with_reducible rfl
                try simp only [Act.put, zq1, zq2, zq3, zq4, zq5, zq6]
                refine wpAnyH_take (i := 33) (v := ?v185) rfl (by kernel_rfl) (by kernel_rfl) (by kernel_rfl) (fun _ _ _ h => h) (Or.inl ⟨by rfl, ?hy185⟩) hHeld ?rest185
                case hy185 =>
                  intro w' hSw
                  try dsimp only at hSw
                  go_simp
                  first | done | with_reducible rfl
                try simp only [Act.put, zq1, zq2, zq3, zq4, zq5, zq6]
                refine wpAnyH_take (i := 34) (v := ?v186) rfl (by kernel_rfl) (by kernel_rfl) (by kernel_rfl) (fun _ _ _ h => h) (Or.inl ⟨by rfl, ?hy186⟩) hHeld ?rest186
                case hy186 =>
                  intro w' hSw
                  try dsimp only at hSw
                  go_simp
                  first | done | with_reducible rfl
                try simp only [Act.put, zq1, zq2, zq3, zq4, zq5, zq6]
                refine wpAnyH_take (i := 35) (v := ?v187) rfl (by kernel_rfl) (by kernel_rfl) (by kernel_rfl) (fun _ _ _ h => h) (Or.inl ⟨by rfl, ?hy187⟩) hHeld ?rest187
                case hy187 =>
                  intro w' hSw
                  try dsimp only at hSw
                  go_simp
                  first | done | with_reducible rfl
                try simp only [Act.put, zq1, zq2, zq3, zq4, zq5, zq6]
                refine wpAnyH_ready (rs := [36]) (by kernel_rfl) (by simp) ?_
                refine AllReadyH.cons (by rfl) (fun K hK => ?_) AllReadyH.nil
                go_simp
                refine (un_works UU.out).mono ?_
                rintro e w12 ⟨rfl, hu⟩
                replace UU := Lib.hid hu
                clear hu hHeld
                go_wp2_with fail
                refine hK.out _ _ ⟨((UU.out.at_ 2 rfl).cell 0).trans rfl, ((UU.out.at_ 2 rfl).cell 1).trans rfl, ((UU.out.at_ 0 rfl).cell 0).trans rfl, ((UU.out.at_ 0 rfl).cell 1).trans rfl, (rng6 (UU.out.at_ 1 rfl)).1, (rng9 (UU.out.at_ 3 rfl)).2.2⟩ (fun hHeld => ?_)
                clear hK K
                try simp only [Act.put, zq1, zq2, zq3, zq4, zq5, zq6]
                refine wpAnyH_take (i := 37) (v := ?v188) rfl (by kernel_rfl) (by kernel_rfl) (by kernel_rfl) (fun _ _ _ h => h) (Or.inl ⟨by rfl, ?hy188⟩) hHeld ?rest188
                case hy188 =>
                  intro w' hSw
                  try dsimp only at hSw
                  go_simp
                  first | done | with_reducible rfl
                try simp only [Act.put, zq1, zq2, zq3, zq4, zq5, zq6]
                refine wpAnyH_take (i := 38) (v := ?v189) rfl (by kernel_rfl) (by kernel_rfl) (by kernel_rfl) (fun _ _ _ h => h) (Or.inl ⟨by rfl, ?hy189⟩) hHeld ?rest189
                case hy189 =>
                  intro w' hSw
                  try dsimp only at hSw
                  go_simp
                  first | done | with_reducible rfl
                try simp only [Act.put, zq1, zq2, zq3, zq4, zq5, zq6]
                refine wpAnyH_done (by kernel_rfl) ?_ _
                refine OnlyN.normal ?_
                try clear hHeld
                go_wp2
                go_ret
                exact ⟨rfl, UU.out.be⟩
              | false =>
                have hs := HM.out rfl
                refine wp_region_only (S := fun w' => w'.cell? ⟨w.heap.size + 5, 0, none⟩ = some (.bool bx) ∧ w'.cell? ⟨w.heap.size + 5, 1, none⟩ = some (.bool bY) ∧ w'.cell? ⟨w5.heap.size + 1, 0, none⟩ = some (.bool true) ∧ w'.cell? ⟨w5.heap.size + 1, 1, none⟩ = some (.bool bY) ∧ w'.rangeAt w5.heap.size 0 M0.cs ∧ w'.rangeAt w.heap.size 6 z.cs) (by kernel_rfl) ⟨((UU.out.at_ 2 rfl).cell 0).trans rfl, ((UU.out.at_ 2 rfl).cell 1).trans rfl, ((UU.out.at_ 0 rfl).cell 0).trans rfl, ((UU.out.at_ 0 rfl).cell 1).trans rfl, (rng6 (UU.out.at_ 1 rfl)).1, (rng9 (UU.out.at_ 3 rfl)).2.2⟩ (fun hHeld => ?_)
                refine wpAnyH_take (i := 0) (v := ?v190) rfl (by kernel_rfl) (by kernel_rfl) (by kernel_rfl) (fun _ _ _ h => h) (Or.inl ⟨by rfl, ?hy190⟩) hHeld ?rest190
                case hy190 =>
                  intro w' hSw
                  try dsimp only at hSw
                  go_simp
                  first | done | with_reducible rfl
                try simp only [Act.put, zq1, zq3, zq4, zq5, zq6]
                refine wpAnyH_take (i := 2) (v := ?v191) rfl (by kernel_rfl) (by kernel_rfl) (by kernel_rfl) (fun _ _ _ h => h) (Or.inl ⟨by rfl, ?hy191⟩) hHeld ?rest191
                case hy191 =>
                  intro w' hSw
                  try dsimp only at hSw
                  go_simp
                  first | done | with_reducible rfl
                try simp only [Act.put, zq1, zq2, zq3, zq4, zq5, zq6]
                refine wpAnyH_ready (rs := [1]) (by kernel_rfl) (by simp) ?_
                refine AllReadyH.cons (by rfl) (fun K hK => ?_) AllReadyH.nil
                go_simp
                refine (num8_any _ _).mono ?_
                rintro e y1 ⟨rfl, rfl⟩
                clear hHeld
                refine hK.out _ _ ⟨((UU.out.at_ 2 rfl).cell 0).trans rfl, ((UU.out.at_ 2 rfl).cell 1).trans rfl, ((UU.out.at_ 0 rfl).cell 0).trans rfl, ((UU.out.at_ 0 rfl).cell 1).trans rfl, (rng6 (UU.out.at_ 1 rfl)).1, (rng9 (UU.out.at_ 3 rfl)).2.2⟩ (fun hHeld => ?_)
                clear hK K
                try simp only [Act.put, zq1, zq2, zq3, zq4, zq5, zq6]
                refine wpAnyH_ready (rs := [3]) (by kernel_rfl) (by simp) ?_
                refine AllReadyH.cons (by rfl) (fun K hK => ?_) AllReadyH.nil
                go_simp
                refine (num8_any _ _).mono ?_
                rintro e y1 ⟨rfl, rfl⟩
                clear hHeld
                refine hK.out _ _ ⟨((UU.out.at_ 2 rfl).cell 0).trans rfl, ((UU.out.at_ 2 rfl).cell 1).trans rfl, ((UU.out.at_ 0 rfl).cell 0).trans rfl, ((UU.out.at_ 0 rfl).cell 1).trans rfl, (rng6 (UU.out.at_ 1 rfl)).1, (rng9 (UU.out.at_ 3 rfl)).2.2⟩ (fun hHeld => ?_)
                clear hK K
                try simp only [Act.put, zq1, zq2, zq3, zq4, zq5, zq6]
                refine wpAnyH_take (i := 4) (v := ?v192) rfl (by kernel_rfl) (by kernel_rfl) (by kernel_rfl) (fun _ _ _ h => h) (Or.inl ⟨by rfl, ?hy192⟩) hHeld ?rest192
                case hy192 =>
                  intro w' hSw
                  try dsimp only at hSw
                  go_simp
                  first | done | with_reducible rfl
                try simp only [Act.put, zq1, zq2, zq3, zq4, zq5, zq6]
                refine wpAnyH_take (i := 5) (v := ?v193) rfl (by kernel_rfl) (by kernel_rfl) (by kernel_rfl) (fun _ _ _ h => h) (Or.inl ⟨by rfl, ?hy193⟩) hHeld ?rest193
                case hy193 =>
                  intro w' hSw
                  try dsimp only at hSw
                  go_simp
                  first | done | with_reducible rfl
                try simp only [Act.put, zq1, zq2, zq3, zq4, zq5, zq6]
                refine wpAnyH_take (i := 6) (v := ?v194) rfl (by kernel_rfl) (by kernel_rfl) (by kernel_rfl) (fun _ _ _ h => h) (Or.inl ⟨by rfl, ?hy194⟩) hHeld ?rest194
                case hy194 =>
                  intro w' hSw
                  try dsimp only at hSw
                  go_simp
                  first | done | with_reducible rfl
                try simp only [Act.put, zq1, zq2, zq3, zq4, zq5, zq6]
                refine wpAnyH_take (i := 7) (v := ?v195) rfl (by kernel_rfl) (by kernel_rfl) (by kernel_rfl) (fun _ _ _ h => h) (Or.inl ⟨by rfl, ?hy195⟩) hHeld ?rest195
                case hy195 =>
                  intro w' hSw
                  try dsimp only at hSw
                  go_simp
                  first | done | with_reducible rfl
                try simp only [Act.put, zq1, zq2, zq3, zq4, zq5, zq6]
                refine wpAnyH_take (i := 8) (v := ?v196) rfl (by kernel_rfl) (by kernel_rfl) (by kernel_rfl) (fun _ _ _ h => h) (Or.inl ⟨by rfl, ?hy196⟩) hHeld ?rest196
                case hy196 =>
                  intro w' hSw
                  try dsimp only at hSw
                  go_simp
                  first | done | with_reducible rfl
                try simp only [Act.put, zq1, zq2, zq3, zq4, zq5, zq6]
                refine wpAnyH_take (i := 9) (v := ?v197) rfl (by kernel_rfl) (by kernel_rfl) (by kernel_rfl) (fun _ _ _ h => h) (Or.inl ⟨by rfl, ?hy197⟩) hHeld ?rest197
                case hy197 =>
                  intro w' hSw
                  try dsimp only at hSw
                  go_simp
                  first | done | with_reducible rfl
                try simp only [Act.put, zq1, zq2, zq3, zq4, zq5, zq6]
                refine wpAnyH_take (i := 10) (v := ?v198) rfl (by kernel_rfl) (by kernel_rfl) (by kernel_rfl) (fun _ _ _ h => h) (Or.inl ⟨by rfl, ?hy198⟩) hHeld ?rest198
                case hy198 =>
                  intro w' hSw
                  try dsimp only at hSw
                  go_simp
                  first | done | with_reducible rfl
                try simp only [Act.put, zq1, zq2, zq3, zq4, zq5, zq6]
                refine wpAnyH_take (i := 11) (v := ?v199) rfl (by kernel_rfl) (by kernel_rfl) (by kernel_rfl) (fun _ _ _ h => h) (Or.inl ⟨by rfl, ?hy199⟩) hHeld ?rest199
                case hy199 =>
                  intro w' hSw
                  try dsimp only at hSw
                  go_simp
                  first | done | with_reducible rfl
                try simp only [Act.put, zq1, zq2, zq3, zq4, zq5, zq6]
                refine wpAnyH_take (i := 12) (v := ?v200) rfl (by kernel_rfl) (by kernel_rfl) (by kernel_rfl) (fun _ _ _ h => h) (Or.inl ⟨by rfl, ?hy200⟩) hHeld ?rest200
                case hy200 =>
                  intro w' hSw
                  try dsimp only at hSw
                  go_simp
                  first | done | with_reducible rfl
                try simp only [Act.put, zq1, zq2, zq3, zq4, zq5, zq6]
                refine wpAnyH_take (i := 13) (v := ?v201) rfl (by kernel_rfl) (by kernel_rfl) (by kernel_rfl) (fun _ _ _ h => h) (Or.inl ⟨by rfl, ?hy201⟩) hHeld ?rest201
                case hy201 =>
                  intro w' hSw
                  try dsimp only at hSw
                  go_simp
                  first | done | with_reducible rfl
                try simp only [Act.put, zq1, zq2, zq3, zq4, zq5, zq6]
                refine wpAnyH_take (i := 14) (v := ?v202) rfl (by kernel_rfl) (by kernel_rfl) (by kernel_rfl) (fun _ _ _ h => h) (Or.inl ⟨by rfl, ?hy202⟩) hHeld ?rest202
                case hy202 =>
                  intro w' hSw
                  try dsimp only at hSw
                  go_simp
                  first | done | with_reducible rfl
                try simp only [Act.put, zq1, zq2, zq3, zq4, zq5, zq6]
                refine wpAnyH_take (i := 15) (v := ?v203) rfl (by kernel_rfl) (by kernel_rfl) (by kernel_rfl) (fun _ _ _ h => h) (Or.inl ⟨by rfl, ?hy203⟩) hHeld ?rest203
                case hy203 =>
                  intro w' hSw
                  try dsimp only at hSw
                  go_simp
                  first | done | with_reducible rfl
                try simp only [Act.put, zq1, zq2, zq3, zq4, zq5, zq6]
                refine wpAnyH_take (i := 16) (v := ?v204) rfl (by kernel_rfl) (by kernel_rfl) (by kernel_rfl) (fun _ _ _ h => h) (Or.inl ⟨by rfl, ?hy204⟩) hHeld ?rest204
                case hy204 =>
                  intro w' hSw
                  try dsimp only at hSw
                  go_simp
                  first | done | with_reducible rfl
                try simp only [Act.put, zq1, zq2, zq3, zq4, zq5, zq6]
                refine wpAnyH_take (i := 17) (v := ?v205) rfl (by kernel_rfl) (by kernel_rfl) (by kernel_rfl) (fun _ _ _ h => h) (Or.inl ⟨by rfl, ?hy205⟩) hHeld ?rest205
                case hy205 =>
                  intro w' hSw
                  try dsimp only at hSw
                  go_simp
                  first | done | with_reducible rfl
                try simp only [Act.put, zq1, zq2, zq3, zq4, zq5, zq6]
                refine wpAnyH_take (i := 18) rfl (by kernel_rfl) (by kernel_rfl) (by kernel_rfl) (fun _ _ _ h => h) (yieldsIf_load_mid (by rfl) 28 (.tmp 275) (by rfl) w5.heap.size 0 (by rfl) z.cs _ (fun w' hSw => hs ▸ hSw.2.2.2.2.1) Try.underlying28 rfl (size23 _)) hHeld ?_
                try simp only [Act.put, zq1, zq2, zq3, zq4, zq5, zq6]
                refine wpAnyH_take (i := 19) (v := ?v206) rfl (by kernel_rfl) (by kernel_rfl) (by kernel_rfl) (fun _ _ _ h => h) (Or.inl ⟨by rfl, ?hy206⟩) hHeld ?rest206
                case hy206 =>
                  intro w' hSw
                  try dsimp only at hSw
                  go_simp
                  first | done | with_reducible rfl
                try simp only [Act.put, zq1, zq2, zq3, zq4, zq5, zq6]
                refine wpAnyH_take (i := 20) rfl (by kernel_rfl) (by kernel_rfl) (by kernel_rfl) (fun _ _ _ h => h) (yieldsIf_load_mid (by rfl) 28 (.tmp 277) (by rfl) w.heap.size 6 (by rfl) z.cs _ (fun w' hSw => hSw.2.2.2.2.2) Try.underlying28 rfl (size23 _)) hHeld ?_
                try simp only [Act.put, zq1, zq2, zq3, zq4, zq5, zq6]
                refine wpAnyH_take (i := 21) rfl (by kernel_rfl) (by kernel_rfl) (by kernel_rfl) (fun _ _ _ h => h) (y_eq23 (by rfl) (.tmp 276) (.tmp 278) (by rfl) z (by rfl) (by rfl)) hHeld ?_
                try simp only [Act.put, zq1, zq2, zq3, zq4, zq5, zq6]
                refine wpAnyH_take (i := 22) (v := ?v207) rfl (by kernel_rfl) (by kernel_rfl) (by kernel_rfl) (fun _ _ _ h => h) (Or.inl ⟨by rfl, ?hy207⟩) hHeld ?rest207
                case hy207 =>
                  intro w' hSw
                  try dsimp only at hSw
                  go_simp
                  first | done | with_reducible rfl
                try simp only [Act.put, zq1, zq2, zq3, zq4, zq5, zq6]
                refine wpAnyH_take (i := 23) (v := ?v208) rfl (by kernel_rfl) (by kernel_rfl) (by kernel_rfl) (fun _ _ _ h => h) (Or.inl ⟨by rfl, ?hy208⟩) hHeld ?rest208
                case hy208 =>
                  intro w' hSw
                  try dsimp only at hSw
                  go_simp
                  first | done | with_reducible rfl
                try simp only [Act.put, zq1, zq2, zq3, zq4, zq5, zq6]
                refine wpAnyH_take (i := 24) (v := ?v209) rfl (by kernel_rfl) (by kernel_rfl) (by kernel_rfl) (fun _ _ _ h => h) (Or.inl ⟨by rfl, ?hy209⟩) hHeld ?rest209
                case hy209 =>
                  intro w' hSw
                  try dsimp only at hSw
                  go_simp
                  first | done | with_reducible rfl
                try simp only [Act.put, zq1, zq2, zq3, zq4, zq5, zq6]
                refine wpAnyH_take (i := 25) (v := ?v210) rfl (by kernel_rfl) (by kernel_rfl) (by kernel_rfl) (fun _ _ _ h => h) (Or.inl ⟨by rfl, ?hy210⟩) hHeld ?rest210
                case hy210 =>
                  intro w' hSw
                  try dsimp only at hSw
                  go_simp
                  first | done | with_reducible rfl
                try simp only [Act.put, zq1, zq2, zq3, zq4, zq5, zq6]
                refine wpAnyH_take (i := 26) (v := ?v211) rfl (by kernel_rfl) (by kernel_rfl) (by kernel_rfl) (fun _ _ _ h => h) (Or.inl ⟨by rfl, ?hy211⟩) hHeld ?rest211
                case hy211 =>
                  intro w' hSw
                  try dsimp only at hSw
                  go_simp
                  first | done | with_reducible rfl
                try simp only [Act.put, zq1, zq2, zq3, zq4, zq5, zq6]
                refine wpAnyH_take (i := 27) (v := ?v212) rfl (by kernel_rfl) (by kernel_rfl) (by kernel_rfl) (fun _ _ _ h => h) (Or.inl ⟨by rfl, ?hy212⟩) hHeld ?rest212
                case hy212 =>
                  intro w' hSw
                  try dsimp only at hSw
                  go_simp
                  first | done | with_reducible rfl
                try simp only [Act.put, zq1, zq2, zq3, zq4, zq5, zq6]
                refine wpAnyH_take (i := 28) (v := ?v213) rfl (by kernel_rfl) (by kernel_rfl) (by kernel_rfl) (fun _ _ _ h => h) (Or.inl ⟨by rfl, ?hy213⟩) hHeld ?rest213
                case hy213 =>
                  intro w' hSw
                  try dsimp only at hSw
                  go_simp
                  first | done | with_reducible rfl
                try simp only [Act.put, zq1, zq2, zq3, zq4, zq5, zq6]
                refine wpAnyH_take (i := 29) (v := ?v214) rfl (by kernel_rfl) (by kernel_rfl) (by kernel_rfl) (fun _ _ _ h => h) (Or.inl ⟨by rfl, ?hy214⟩) hHeld ?rest214
                case hy214 =>
                  intro w' hSw
                  try dsimp only at hSw
                  go_simp
                  first | done | with_reducible rfl
                try simp only [Act.put, zq1, zq2, zq3, zq4, zq5, zq6]
                refine wpAnyH_take (i := 30) (v := ?v215) rfl (by kernel_rfl) (by kernel_rfl) (by kernel_rfl) (fun _ _ _ h => h) (Or.inl ⟨by rfl, ?hy215⟩) hHeld ?rest215
                case hy215 =>
                  intro w' hSw
                  try dsimp only at hSw
                  go_simp
                  first | done | with_reducible rfl
                try simp only [Act.put, zq1, zq2, zq3, zq4, zq5, zq6]
                refine wpAnyH_take (i := 31) (v := ?v216) rfl (by kernel_rfl) (by kernel_rfl) (by kernel_rfl) (fun _ _ _ h => h) (Or.inl ⟨by rfl, ?hy216⟩) hHeld ?rest216
                case hy216 =>
                  intro w' hSw
                  try dsimp only at hSw
                  go_simp
                  first | done | with_reducible rfl
                try simp only [Act.put, zq1, zq2, zq3, zq4, zq5, zq6]
                refine wpAnyH_take (i := 32) (v := ?v217) rfl (by kernel_rfl) (by kernel_rfl) (by kernel_rfl) (fun _ _ _ h => h) (Or.inl ⟨by rfl, ?hy217⟩) hHeld ?rest217
                case hy217 =>
                  intro w' hSw
                  try dsimp only at hSw
                  go_simp
                  first | done | with_reducible rfl
                try simp only [Act.put, zq1, zq2, zq3, zq4, zq5, zq6]
                refine wpAnyH_take (i := 33) (v := ?v218) rfl (by kernel_rfl) (by kernel_rfl) (by kernel_rfl) (fun _ _ _ h => h) (Or.inl ⟨by rfl, ?hy218⟩) hHeld ?rest218
                case hy218 =>
                  intro w' hSw
                  try dsimp only at hSw
                  go_simp
                  first | done | with_reducible rfl
                try simp only [Act.put, zq1, zq2, zq3, zq4, zq5, zq6]
                refine wpAnyH_take (i := 34) (v := ?v219) rfl (by kernel_rfl) (by kernel_rfl) (by kernel_rfl) (fun _ _ _ h => h) (Or.inl ⟨by rfl, ?hy219⟩) hHeld ?rest219
                case hy219 =>
                  intro w' hSw
                  try dsimp only at hSw
                  go_simp
                  first | done | with_reducible rfl
                try simp only [Act.put, zq1, zq2, zq3, zq4, zq5, zq6]
                refine wpAnyH_take (i := 35) (v := ?v220) rfl (by kernel_rfl) (by kernel_rfl) (by kernel_rfl) (fun _ _ _ h => h) (Or.inl ⟨by rfl, ?hy220⟩) hHeld ?rest220
                case hy220 =>
                  intro w' hSw
                  try dsimp only at hSw
                  go_simp
                  first | done | with_reducible rfl
                try simp only [Act.put, zq1, zq2, zq3, zq4, zq5, zq6]
                refine wpAnyH_ready (rs := [36]) (by kernel_rfl) (by simp) ?_
                refine AllReadyH.cons (by rfl) (fun K hK => ?_) AllReadyH.nil
                go_simp
                refine (un_works UU.out).mono ?_
                rintro e w12 ⟨rfl, hu⟩
                replace UU := Lib.hid hu
                clear hu hHeld
                go_wp2_with fail
                refine hK.out _ _ ⟨((UU.out.at_ 2 rfl).cell 0).trans rfl, ((UU.out.at_ 2 rfl).cell 1).trans rfl, ((UU.out.at_ 0 rfl).cell 0).trans rfl, ((UU.out.at_ 0 rfl).cell 1).trans rfl, (rng6 (UU.out.at_ 1 rfl)).1, (rng9 (UU.out.at_ 3 rfl)).2.2⟩ (fun hHeld => ?_)
                clear hK K
                try simp only [Act.put, zq1, zq2, zq3, zq4, zq5, zq6]
                refine wpAnyH_take (i := 37) (v := ?v221) rfl (by kernel_rfl) (by kernel_rfl) (by kernel_rfl) (fun _ _ _ h => h) (Or.inl ⟨by rfl, ?hy221⟩) hHeld ?rest221
                case hy221 =>
                  intro w' hSw
                  try dsimp only at hSw
                  go_simp
                  first | done | with_reducible rfl
                try simp only [Act.put, zq1, zq2, zq3, zq4, zq5, zq6]
                refine wpAnyH_take (i := 38) (v := ?v222) rfl (by kernel_rfl) (by kernel_rfl) (by kernel_rfl) (fun _ _ _ h => h) (Or.inl ⟨by rfl, ?hy222⟩) hHeld ?rest222
                case hy222 =>
                  intro w' hSw
                  try dsimp only at hSw
                  go_simp
                  first | done | with_reducible rfl
                try simp only [Act.put, zq1, zq2, zq3, zq4, zq5, zq6]
                refine wpAnyH_done (by kernel_rfl) ?_ _
                refine OnlyN.normal ?_
                try clear hHeld
                go_wp2
                go_ret
                exact ⟨rfl, UU.out.be⟩
      · as_aux_lemma =>
        have ZN := Lib.hid hzk
        clear hzk
        go_wp2_with (first
          | (refine wpList_load_mid rfl 28 (.tmp 116) rfl w.heap.size 6 rfl z.cs _ RZ.out Try.underlying28 rfl (size23 _) ?_)
          | (go_at_call 11; refine (un_writeq UU.out 0 0 rfl (by decide) z ZE.out ZZ.out (by decide) false (by rw [decide_eq_false ZN.out])).mono ?_; rintro e w3 ⟨q, rfl, g1, g2, hu⟩; have U3 := Lib.hid hu; clear hu; have z6 := ((U3.out.at_ 1 rfl).cell 6).trans (show _ = some (.int .i64 z.e) from rfl); have z7 := ((U3.out.at_ 1 rfl).cell 7).trans (show _ = some (.int .i64 z.a) from rfl); have z8 := ((U3.out.at_ 1 rfl).cell 8).trans (show _ = some (.int .i64 z.o) from rfl); simp only [Bool.not_false] at g2)
          | (go_at_call 12; refine (num8_any _ _).mono ?_; rintro e w' ⟨rfl, rfl⟩)
          | (go_at_call 23; refine (un_checkq U3.out z false (by rw [decide_eq_false ZN.out])).mono ?_; rintro e w4 ⟨q4, rfl, g3, g4, hu⟩; simp only [Bool.not_false] at g4; have U4 := Lib.hid hu; clear hu z6 z7 z8)
          | (go_at_call 8; refine (un_works U4.out).mono ?_; rintro e w5 ⟨rfl, hu⟩; have U5 := Lib.hid hu; clear hu))
        go_ret
        exact ⟨rfl, U5.out.be⟩
end Go.Proofs.Ytjfcmoappbfnjaa

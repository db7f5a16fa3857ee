/- law 8: HeadersTurns, its walk where the slot is 1. -/
import Derived.Test.YtjfcmoappbfnjaaHK
namespace Go.Proofs.Ytjfcmoappbfnjaa
open List renaming getElem_toArray → zq1, getElem_cons_succ → zq2, getElem_cons_zero → zq3, setIfInBounds_toArray → zq4, set_cons_zero → zq5, set_cons_succ → zq6
open Go.RowKit
attribute [local go_sem] Oper.semAt_some
set_option maxRecDepth 100000 in
set_option maxHeartbeats 8000000 in
theorem turns_go1 (w : World) (x y z : Hd) (A : Option Addr) (cap : Nat) (c : Cr) (f : Int) (b : Nat) (h1 : ¬ z.o < 1) (h2 : ¬ 64 < z.o) (h3 : ¬ 300 < (c.keep.length : Int)) (h4 : ¬ c.bytes < 0) (h5 : ¬ 512 < c.bytes) (h : ¬ y.e = z.e)
    (mx : x.e ≤ 9223372036854775807) (my : y.e ≤ 9223372036854775807) (mz : z.e ≤ 9223372036854775807) (hr : RdB w A c.keep) (hb : b < 4294967296) :
    Calls Try.prog 6 #[.agg (x.cs ++ y.cs ++ z.cs).toArray, .int .i64 1, .agg #[.slice A c.keep.length cap, .int .i64 c.torn, .int .i64 c.bytes], .agg #[.int .i64 f, .int .u32 (b : Int)]] w fun e w' => e = .returned (.bool true) ∧ Below w.heap.size w w' := by
  have d2 : decide (z.o < 1) = false := decide_eq_false (by omega)
  have d3 : decide (64 < z.o) = false := decide_eq_false (by omega)
  have d4 : decide ((300 : Int) < (c.keep.length : Int)) = false := decide_eq_false (by omega)
  have d4' : decide (300 < c.keep.length) = false := decide_eq_false (by omega)
  have d5 : decide (c.bytes < 0) = false := decide_eq_false (by omega)
  have d6 : decide (512 < c.bytes) = false := decide_eq_false (by omega)
  obtain ⟨X, hX⟩ : ∃ X : Hd, X = ⟨x.e, x.a, z.o⟩ := ⟨_, rfl⟩
  obtain ⟨Y, hY⟩ : ∃ Y : Hd, Y = ⟨y.e, y.a, z.o⟩ := ⟨_, rfl⟩
  obtain ⟨zz, hzz⟩ : ∃ zz : Nat, 20 + 3 * z.o = (zz : Int) := ⟨(20 + 3 * z.o).toNat, by omega⟩
  obtain ⟨bx, hbx⟩ : ∃ bx : Bool, bx = decide X.ok := ⟨_, rfl⟩
  obtain ⟨bY, hby⟩ : ∃ bY : Bool, bY = decide Y.ok := ⟨_, rfl⟩
  have XE := Lib.hid (show X.e ≤ 9223372036854775807 by rw [hX]; exact mx)
  have YE := Lib.hid (show Y.e ≤ 9223372036854775807 by rw [hY]; exact my)
  have ZE := Lib.hid mz
  have XO := Lib.hid (show X.o = z.o by rw [hX])
  have YO := Lib.hid (show Y.o = z.o by rw [hY])
  have XZ := Lib.hid (show 20 + 3 * X.o = (zz : Int) by rw [hX]; exact hzz)
  have YZ := Lib.hid (show 20 + 3 * Y.o = (zz : Int) by rw [hY]; exact hzz)
  have ZZ := Lib.hid hzz
  have BX := Lib.hid hbx
  have BY := Lib.hid hby
  have Z1 := Lib.hid (show 2 ≤ zz ∧ zz ≤ 4096 by omega)
  have HNE := Lib.hid (show Y.e ≠ z.e by rw [hY]; exact h)
  have d7 : (Y.e == z.e) = false := beq_eq_false_iff_ne.2 HNE.out
  have HR := Lib.hid hr
  have HB0 := Lib.hid (show 0 ≤ c.bytes by omega)
  have HB5 := Lib.hid (show c.bytes ≤ 512 by omega)
  have HU := Lib.hid hb
  have m1 : IntKind.i64.wrap (3 * z.o) = 3 * z.o := IntWalk.i64_in _ (by omega)
  have m2 : IntKind.i64.wrap (20 + 3 * z.o) = (zz : Int) := by rw [hzz]; exact IntWalk.i64_in _ (by omega)
  clear h1 h2 h3 h4 h5 h hr mx my mz hb
  obtain ⟨W0, hW⟩ : ∃ W, W = ((w.alloc (.cells (x.cs ++ y.cs ++ z.cs).toArray 59)).alloc (.cells #[.slice A c.keep.length cap, .int .i64 c.torn, .int .i64 c.bytes] 62)).alloc (.cells #[.int .i64 f, .int .u32 (b : Int)] 65) := ⟨_, rfl⟩
  have G0 := Lib.hid (show Blk W0 w.heap.size 59 (x.cs ++ y.cs ++ z.cs).toArray from by rw [hW]; exact ((Blk.new w _ _).alloc _).alloc _)
  obtain ⟨W, hW1⟩ : ∃ W, W = ((w.alloc (.cells ((.int .i64 x.e :: .int .i64 x.a :: .int .i64 z.o :: .int .i64 y.e :: .int .i64 y.a :: .int .i64 z.o :: z.cs : List Value).toArray) 59)).alloc (.cells #[.slice A c.keep.length cap, .int .i64 c.torn, .int .i64 c.bytes] 62)).alloc (.cells #[.int .i64 f, .int .u32 (b : Int)] 65) := ⟨_, rfl⟩
  have G1 := Lib.hid (show Blk W w.heap.size 59 (c9 X Y z) from by rw [hW1, hX, hY]; exact ((Blk.new w _ _).alloc _).alloc _)
  have K1 := Lib.hid (show Blk W (w.heap.size + 1) 62 #[.slice A c.keep.length cap, .int .i64 c.torn, .int .i64 c.bytes] from by rw [hW1]; exact (blk_new1 w _ _ _).alloc _)
  have T1 := Lib.hid (show Blk W (w.heap.size + 2) 65 #[.int .i64 f, .int .u32 (b : Int)] from by rw [hW1]; exact blk_new2 w _ _ _ _)
  have L1 := Lib.hid (show Below w.heap.size w W from by rw [hW1]; exact (((Below.refl w.heap.size w).alloc (Nat.le_refl _) _).alloc (by simp) _).alloc (by simp; omega) _)
  have Z3 := Lib.hid (show W.heap.size = w.heap.size + 3 by rw [hW1]; simp)
  have q2 := (G0.out.cell 2).trans (show _ = some (.int .i64 x.o) from rfl)
  have q5 := ((G0.out.set_ 2 (.int .i64 z.o)).cell 5).trans (show _ = some (.int .i64 y.o) from rfl)
  have q8 := (G0.out.cell 8).trans (show _ = some (.int .i64 z.o) from rfl)
  have f2 := G0.out.frozen 2
  have f5 := (G0.out.set_ 2 (.int .i64 z.o)).frozen 5
  rw [hW] at q2 q5 q8 f2 f5
  subst hW
  go_enter Try.func6, Try.ntmps6
  go_wp2_with fail
  rw [← hW1]
  clear hW1 q2 q5 q8 f2 f5 G0 hX hY hzz hbx hby
  replace G1 := Lib.hid (blk_drew G1.out)
  replace K1 := Lib.hid (blk_drew K1.out)
  replace T1 := Lib.hid (blk_drew T1.out)
  replace L1 := Lib.hid L1.out.drew
  replace Z3 := Lib.hid (show W.drew.heap.size = w.heap.size + 3 from Z3.out)
  refine wp_region_only (S := fun w' => w'.cell? ⟨w.heap.size + 1, 0, none⟩ = some (.slice A c.keep.length cap) ∧ w'.cell? ⟨w.heap.size + 1, 2, none⟩ = some (.int .i64 c.bytes) ∧ w'.cell? ⟨w.heap.size, 0, none⟩ = some (.int .i64 X.e) ∧ w'.cell? ⟨w.heap.size, 3, none⟩ = some (.int .i64 Y.e) ∧ w'.cell? ⟨w.heap.size, 6, none⟩ = some (.int .i64 z.e)) (by kernel_rfl) (⟨(K1.out.cell 0).trans rfl, (K1.out.cell 2).trans rfl, (G1.out.cell 0).trans rfl, (G1.out.cell 3).trans rfl, (G1.out.cell 6).trans rfl⟩) (fun hHeld => ?_)
  refine wpAnyH_take (i := 0) (v := ?v223) rfl (by kernel_rfl) (by kernel_rfl) (by kernel_rfl) (fun _ _ _ h => h) (Or.inl ⟨by rfl, ?hy223⟩) hHeld ?rest223
  case hy223 =>
    intro w' hSw
    try dsimp only at hSw
    go_simp
    first | done | with_reducible rfl
  try simp only [Act.put, zq1, zq3, zq4, zq5, zq6]
  refine wpAnyH_take (i := 1) (v := ?v224) rfl (by kernel_rfl) (by kernel_rfl) (by kernel_rfl) (fun _ _ _ h => h) (Or.inl ⟨by rfl, ?hy224⟩) hHeld ?rest224
  case hy224 =>
    intro w' hSw
    try dsimp only at hSw
    go_simp
    first | done | with_reducible rfl
  try simp only [Act.put, zq1, zq2, zq3, zq4, zq5, zq6]
  refine wpAnyH_take (i := 2) (v := ?v225) rfl (by kernel_rfl) (by kernel_rfl) (by kernel_rfl) (fun _ _ _ h => h) (Or.inl ⟨by rfl, ?hy225⟩) hHeld ?rest225
  case hy225 =>
    intro w' hSw
    try dsimp only at hSw
    go_simp
    first | done | with_reducible rfl
  try simp only [Act.put, zq1, zq2, zq3, zq4, zq5, zq6]
  refine wpAnyH_take (i := 3) (v := ?v226) rfl (by kernel_rfl) (by kernel_rfl) (by kernel_rfl) (fun _ _ _ h => h) (Or.inl ⟨by rfl, ?hy226⟩) hHeld ?rest226
  case hy226 =>
    intro w' hSw
    try dsimp only at hSw
    go_simp
    first | done | with_reducible rfl
  try simp only [Act.put, zq1, zq2, zq3, zq4, zq5, zq6]
  refine wpAnyH_take (i := 4) (v := ?v227) rfl (by kernel_rfl) (by kernel_rfl) (by kernel_rfl) (fun _ _ _ h => h) (Or.inl ⟨by rfl, ?hy227⟩) hHeld ?rest227
  case hy227 =>
    intro w' hSw
    try dsimp only at hSw
    go_simp
    first | done | with_reducible rfl
  try simp only [Act.put, zq1, zq2, zq3, zq4, zq5, zq6]
  refine wpAnyH_take (i := 5) (v := ?v228) rfl (by kernel_rfl) (by kernel_rfl) (by kernel_rfl) (fun _ _ _ h => h) (Or.inl ⟨by rfl, ?hy228⟩) hHeld ?rest228
  case hy228 =>
    intro w' hSw
    try dsimp only at hSw
    go_simp
    first | done | with_reducible rfl
  try simp only [Act.put, zq1, zq2, zq3, zq4, zq5, zq6]
  refine wpAnyH_take (i := 6) (v := ?v229) rfl (by kernel_rfl) (by kernel_rfl) (by kernel_rfl) (fun _ _ _ h => h) (Or.inl ⟨by rfl, ?hy229⟩) hHeld ?rest229
  case hy229 =>
    intro w' hSw
    try dsimp only at hSw
    go_simp
    first | done | with_reducible rfl
  try simp only [Act.put, zq1, zq2, zq3, zq4, zq5, zq6]
  refine wpAnyH_take (i := 7) (v := ?v230) rfl (by kernel_rfl) (by kernel_rfl) (by kernel_rfl) (fun _ _ _ h => h) (Or.inl ⟨by rfl, ?hy230⟩) hHeld ?rest230
  case hy230 =>
    intro w' hSw
    try dsimp only at hSw
    go_simp
    first | done | with_reducible rfl
  try simp only [Act.put, zq1, zq2, zq3, zq4, zq5, zq6]
  refine wpAnyH_take (i := 8) (v := ?v231) rfl (by kernel_rfl) (by kernel_rfl) (by kernel_rfl) (fun _ _ _ h => h) (Or.inl ⟨by rfl, ?hy231⟩) hHeld ?rest231
  case hy231 =>
    intro w' hSw
    try dsimp only at hSw
    go_simp
    first | done | with_reducible rfl
  try simp only [Act.put, zq1, zq2, zq3, zq4, zq5, zq6]
  refine wpAnyH_take (i := 9) (v := ?v232) rfl (by kernel_rfl) (by kernel_rfl) (by kernel_rfl) (fun _ _ _ h => h) (Or.inl ⟨by rfl, ?hy232⟩) hHeld ?rest232
  case hy232 =>
    intro w' hSw
    try dsimp only at hSw
    go_simp
    first | done | with_reducible rfl
  try simp only [Act.put, zq1, zq2, zq3, zq4, zq5, zq6]
  refine wpAnyH_take (i := 10) (v := ?v233) rfl (by kernel_rfl) (by kernel_rfl) (by kernel_rfl) (fun _ _ _ h => h) (Or.inl ⟨by rfl, ?hy233⟩) hHeld ?rest233
  case hy233 =>
    intro w' hSw
    try dsimp only at hSw
    go_simp
    first | done | with_reducible rfl
  try simp only [Act.put, zq1, zq2, zq3, zq4, zq5, zq6]
  refine wpAnyH_take (i := 11) (v := ?v234) rfl (by kernel_rfl) (by kernel_rfl) (by kernel_rfl) (fun _ _ _ h => h) (Or.inl ⟨by rfl, ?hy234⟩) hHeld ?rest234
  case hy234 =>
    intro w' hSw
    try dsimp only at hSw
    go_simp
    first | done | with_reducible rfl
  try simp only [Act.put, zq1, zq2, zq3, zq4, zq5, zq6]
  refine wpAnyH_take (i := 12) (v := ?v235) rfl (by kernel_rfl) (by kernel_rfl) (by kernel_rfl) (fun _ _ _ h => h) (Or.inl ⟨by rfl, ?hy235⟩) hHeld ?rest235
  case hy235 =>
    intro w' hSw
    try dsimp only at hSw
    go_simp
    first | done | with_reducible rfl
  try simp only [Act.put, zq1, zq2, zq3, zq4, zq5, zq6]
  refine wpAnyH_take (i := 13) (v := ?v236) rfl (by kernel_rfl) (by kernel_rfl) (by kernel_rfl) (fun _ _ _ h => h) (Or.inl ⟨by rfl, ?hy236⟩) hHeld ?rest236
  case hy236 =>
    intro w' hSw
    try dsimp only at hSw
    go_simp
    first | done | with_reducible rfl
  try simp only [Act.put, zq1, zq2, zq3, zq4, zq5, zq6]
  refine wpAnyH_take (i := 14) (v := ?v237) rfl (by kernel_rfl) (by kernel_rfl) (by kernel_rfl) (fun _ _ _ h => h) (Or.inl ⟨by rfl, ?hy237⟩) hHeld ?rest237
  case hy237 =>
    intro w' hSw
    try dsimp only at hSw
    go_simp
    first | done | with_reducible rfl
  try simp only [Act.put, zq1, zq2, zq3, zq4, zq5, zq6]
  refine wpAnyH_take (i := 15) (v := ?v238) rfl (by kernel_rfl) (by kernel_rfl) (by kernel_rfl) (fun _ _ _ h => h) (Or.inl ⟨by rfl, ?hy238⟩) hHeld ?rest238
  case hy238 =>
    intro w' hSw
    try dsimp only at hSw
    go_simp
    first | done | with_reducible rfl
  try simp only [Act.put, zq1, zq2, zq3, zq4, zq5, zq6]
  refine wpAnyH_take (i := 16) (v := ?v239) rfl (by kernel_rfl) (by kernel_rfl) (by kernel_rfl) (fun _ _ _ h => h) (Or.inl ⟨by rfl, ?hy239⟩) hHeld ?rest239
  case hy239 =>
    intro w' hSw
    try dsimp only at hSw
    go_simp
    first | done | with_reducible rfl
  try simp only [Act.put, zq1, zq2, zq3, zq4, zq5, zq6]
  refine wpAnyH_take (i := 17) (v := ?v240) rfl (by kernel_rfl) (by kernel_rfl) (by kernel_rfl) (fun _ _ _ h => h) (Or.inl ⟨by rfl, ?hy240⟩) hHeld ?rest240
  case hy240 =>
    intro w' hSw
    try dsimp only at hSw
    go_simp
    first | done | with_reducible rfl
  try simp only [Act.put, zq1, zq2, zq3, zq4, zq5, zq6]
  refine wpAnyH_take (i := 18) (v := ?v241) rfl (by kernel_rfl) (by kernel_rfl) (by kernel_rfl) (fun _ _ _ h => h) (Or.inl ⟨by rfl, ?hy241⟩) hHeld ?rest241
  case hy241 =>
    intro w' hSw
    try dsimp only at hSw
    go_simp
    first | done | with_reducible rfl
  try simp only [Act.put, zq1, zq2, zq3, zq4, zq5, zq6]
  refine wpAnyH_take (i := 19) (v := ?v242) rfl (by kernel_rfl) (by kernel_rfl) (by kernel_rfl) (fun _ _ _ h => h) (Or.inl ⟨by rfl, ?hy242⟩) hHeld ?rest242
  case hy242 =>
    intro w' hSw
    try dsimp only at hSw
    go_simp
    first | done | with_reducible rfl
  try simp only [Act.put, zq1, zq2, zq3, zq4, zq5, zq6]
  refine wpAnyH_take (i := 20) (v := ?v243) rfl (by kernel_rfl) (by kernel_rfl) (by kernel_rfl) (fun _ _ _ h => h) (Or.inl ⟨by rfl, ?hy243⟩) hHeld ?rest243
  case hy243 =>
    intro w' hSw
    try dsimp only at hSw
    go_simp
    first | done | with_reducible rfl
  try simp only [Act.put, zq1, zq2, zq3, zq4, zq5, zq6]
  refine wpAnyH_take (i := 21) (v := ?v244) rfl (by kernel_rfl) (by kernel_rfl) (by kernel_rfl) (fun _ _ _ h => h) (Or.inl ⟨by rfl, ?hy244⟩) hHeld ?rest244
  case hy244 =>
    intro w' hSw
    try dsimp only at hSw
    go_simp
    first | done | with_reducible rfl
  try simp only [Act.put, zq1, zq2, zq3, zq4, zq5, zq6]
  refine wpAnyH_take (i := 22) (v := ?v245) rfl (by kernel_rfl) (by kernel_rfl) (by kernel_rfl) (fun _ _ _ h => h) (Or.inl ⟨by rfl, ?hy245⟩) hHeld ?rest245
  case hy245 =>
    intro w' hSw
    try dsimp only at hSw
    go_simp
    first | done | with_reducible rfl
  try simp only [Act.put, zq1, zq2, zq3, zq4, zq5, zq6]
  refine wpAnyH_take (i := 23) (v := ?v246) rfl (by kernel_rfl) (by kernel_rfl) (by kernel_rfl) (fun _ _ _ h => h) (Or.inl ⟨by rfl, ?hy246⟩) hHeld ?rest246
  case hy246 =>
    intro w' hSw
    try dsimp only at hSw
    go_simp
    first | done | with_reducible rfl
  try simp only [Act.put, zq1, zq2, zq3, zq4, zq5, zq6]
  refine wpAnyH_take (i := 24) (v := ?v247) rfl (by kernel_rfl) (by kernel_rfl) (by kernel_rfl) (fun _ _ _ h => h) (Or.inl ⟨by rfl, ?hy247⟩) hHeld ?rest247
  case hy247 =>
    intro w' hSw
    try dsimp only at hSw
    go_simp
    first | done | with_reducible rfl
  try simp only [Act.put, zq1, zq2, zq3, zq4, zq5, zq6]
  refine wpAnyH_take (i := 25) (v := ?v248) rfl (by kernel_rfl) (by kernel_rfl) (by kernel_rfl) (fun _ _ _ h => h) (Or.inl ⟨by rfl, ?hy248⟩) hHeld ?rest248
  case hy248 =>
    intro w' hSw
    try dsimp only at hSw
    go_simp
    first | done | with_reducible rfl
  try simp only [Act.put, zq1, zq2, zq3, zq4, zq5, zq6]
  refine wpAnyH_take (i := 26) (v := ?v249) rfl (by kernel_rfl) (by kernel_rfl) (by kernel_rfl) (fun _ _ _ h => h) (Or.inl ⟨by rfl, ?hy249⟩) hHeld ?rest249
  case hy249 =>
    intro w' hSw
    try dsimp only at hSw
    go_simp
    first | done | with_reducible rfl
  try simp only [Act.put, zq1, zq2, zq3, zq4, zq5, zq6]
  refine wpAnyH_take (i := 27) (v := ?v250) rfl (by kernel_rfl) (by kernel_rfl) (by kernel_rfl) (fun _ _ _ h => h) (Or.inl ⟨by rfl, ?hy250⟩) hHeld ?rest250
  case hy250 =>
    intro w' hSw
    try dsimp only at hSw
    go_simp
    first | done | with_reducible rfl
  try simp only [Act.put, zq1, zq2, zq3, zq4, zq5, zq6]
  refine wpAnyH_take (i := 28) (v := ?v251) rfl (by kernel_rfl) (by kernel_rfl) (by kernel_rfl) (fun _ _ _ h => h) (Or.inl ⟨by rfl, ?hy251⟩) hHeld ?rest251
  case hy251 =>
    intro w' hSw
    try dsimp only at hSw
    go_simp
    first | done | with_reducible rfl
  try simp only [Act.put, zq1, zq2, zq3, zq4, zq5, zq6]
  refine wpAnyH_take (i := 29) (v := ?v252) rfl (by kernel_rfl) (by kernel_rfl) (by kernel_rfl) (fun _ _ _ h => h) (Or.inl ⟨by rfl, ?hy252⟩) hHeld ?rest252
  case hy252 =>
    intro w' hSw
    try dsimp only at hSw
    go_simp
    first | done | with_reducible rfl
  try simp only [Act.put, zq1, zq2, zq3, zq4, zq5, zq6]
  refine wpAnyH_take (i := 30) (v := ?v253) rfl (by kernel_rfl) (by kernel_rfl) (by kernel_rfl) (fun _ _ _ h => h) (Or.inl ⟨by rfl, ?hy253⟩) hHeld ?rest253
  case hy253 =>
    intro w' hSw
    try dsimp only at hSw
    go_simp
    first | done | with_reducible rfl
  try simp only [Act.put, zq1, zq2, zq3, zq4, zq5, zq6]
  refine wpAnyH_take (i := 31) (v := ?v254) rfl (by kernel_rfl) (by kernel_rfl) (by kernel_rfl) (fun _ _ _ h => h) (Or.inl ⟨by rfl, ?hy254⟩) hHeld ?rest254
  case hy254 =>
    intro w' hSw
    try dsimp only at hSw
    go_simp
    first | done | with_reducible rfl
  try simp only [Act.put, zq1, zq2, zq3, zq4, zq5, zq6]
  refine wpAnyH_take (i := 32) (v := ?v255) rfl (by kernel_rfl) (by kernel_rfl) (by kernel_rfl) (fun _ _ _ h => h) (Or.inl ⟨by rfl, ?hy255⟩) hHeld ?rest255
  case hy255 =>
    intro w' hSw
    try dsimp only at hSw
    go_simp
    first | done | with_reducible rfl
  try simp only [Act.put, zq1, zq2, zq3, zq4, zq5, zq6]
  refine wpAnyH_take (i := 33) (v := ?v256) rfl (by kernel_rfl) (by kernel_rfl) (by kernel_rfl) (fun _ _ _ h => h) (Or.inl ⟨by rfl, ?hy256⟩) hHeld ?rest256
  case hy256 =>
    intro w' hSw
    try dsimp only at hSw
    go_simp
    first | done | with_reducible rfl
  try simp only [Act.put, zq1, zq2, zq3, zq4, zq5, zq6]
  refine wpAnyH_take (i := 34) (v := ?v257) rfl (by kernel_rfl) (by kernel_rfl) (by kernel_rfl) (fun _ _ _ h => h) (Or.inl ⟨by rfl, ?hy257⟩) hHeld ?rest257
  case hy257 =>
    intro w' hSw
    try dsimp only at hSw
    go_simp
    first | done | with_reducible rfl
  try simp only [Act.put, zq1, zq2, zq3, zq4, zq5, zq6]
  refine wpAnyH_take (i := 35) (v := ?v258) rfl (by kernel_rfl) (by kernel_rfl) (by kernel_rfl) (fun _ _ _ h => h) (Or.inl ⟨by rfl, ?hy258⟩) hHeld ?rest258
  case hy258 =>
    intro w' hSw
    try dsimp only at hSw
    go_simp
    first | done | with_reducible rfl
  try simp only [Act.put, zq1, zq2, zq3, zq4, zq5, zq6]
  refine wpAnyH_take (i := 36) (v := ?v259) rfl (by kernel_rfl) (by kernel_rfl) (by kernel_rfl) (fun _ _ _ h => h) (Or.inl ⟨by rfl, ?hy259⟩) hHeld ?rest259
  case hy259 =>
    intro w' hSw
    try dsimp only at hSw
    go_simp
    first | done | with_reducible rfl
  try simp only [Act.put, zq1, zq2, zq3, zq4, zq5, zq6]
  refine wpAnyH_take (i := 37) (v := ?v260) rfl (by kernel_rfl) (by kernel_rfl) (by kernel_rfl) (fun _ _ _ h => h) (Or.inl ⟨by rfl, ?hy260⟩) hHeld ?rest260
  case hy260 =>
    intro w' hSw
    try dsimp only at hSw
    go_simp
    first | done | with_reducible rfl
  try simp only [Act.put, zq1, zq2, zq3, zq4, zq5, zq6]
  refine wpAnyH_take (i := 38) (v := ?v261) rfl (by kernel_rfl) (by kernel_rfl) (by kernel_rfl) (fun _ _ _ h => h) (Or.inl ⟨by rfl, ?hy261⟩) hHeld ?rest261
  case hy261 =>
    intro w' hSw
    try dsimp only at hSw
    go_simp
    first | done | with_reducible rfl
  try simp only [Act.put, zq1, zq2, zq3, zq4, zq5, zq6]
  refine wpAnyH_take (i := 39) (v := ?v262) rfl (by kernel_rfl) (by kernel_rfl) (by kernel_rfl) (fun _ _ _ h => h) (Or.inl ⟨by rfl, ?hy262⟩) hHeld ?rest262
  case hy262 =>
    intro w' hSw
    try dsimp only at hSw
    go_simp
    first | done | with_reducible rfl
  try simp only [Act.put, zq1, zq2, zq3, zq4, zq5, zq6]
  refine wpAnyH_done (by kernel_rfl) ?_ _
  refine OnlyN.normal ?_
  clear hHeld d2 d3 d4 d4' d5 d6 d7
  generalize W.drew = V at G1 K1 T1 L1 Z3 ⊢
  have U0 := Lib.hid (un_new (s := w.heap.size) w V [(w.heap.size, 59, (c9 X Y z)), (w.heap.size + 1, 62, #[.slice A c.keep.length cap, .int .i64 c.torn, .int .i64 c.bytes]), (w.heap.size + 2, 65, #[.int .i64 f, .int .u32 (b : Int)])] zz (by have := Z1.out; omega) Z1.out.2 Z3.out (by simp only [List.forall_mem_cons]; exact ⟨G1.out, K1.out, T1.out, fun _ h => nomatch h⟩) (by simp) L1.out)
  have hz := z53
  go_wp2_with (go_at_call 22; refine U0.out.mono ?_; rintro e w1 ⟨rfl, hu, hs⟩; have U1 := Lib.hid (show Un w.heap.size w (w1.alloc (.cells #[.bool false, .bool false] 50)) [(w.heap.size + 5, 50, #[.bool false, .bool false]), (w.heap.size, 59, (c9 X Y z)), (w.heap.size + 1, 62, #[.slice A c.keep.length cap, .int .i64 c.torn, .int .i64 c.bytes]), (w.heap.size + 2, 65, #[.int .i64 f, .int .u32 (b : Int)])] zz (fun _ => zs) [] 0 from (show w1.heap.size = w.heap.size + 5 from hs) ▸ hu.push _ _); have S1 := Lib.hid hs; clear hu hs)
  rw [S1.out]
  clear U0 G1 K1 T1 L1 Z3 m1 m2 S1
  generalize w1.alloc (.cells #[.bool false, .bool false] 50) = w2 at U1 ⊢
  go_loopw [13] (fun i wr => (i = .int .i64 0 ∧ Un w.heap.size w wr [(w.heap.size + 5, 50, #[.bool false, .bool false]), (w.heap.size, 59, (c9 X Y z)), (w.heap.size + 1, 62, #[.slice A c.keep.length cap, .int .i64 c.torn, .int .i64 c.bytes]), (w.heap.size + 2, 65, #[.int .i64 f, .int .u32 (b : Int)])] zz (fun _ => zs) [] 0) ∨ (i = .int .i64 1 ∧ Un w.heap.size w wr [(w.heap.size + 5, 50, #[.bool bx, .bool false]), (w.heap.size, 59, (c9 X Y z)), (w.heap.size + 1, 62, #[.slice A c.keep.length cap, .int .i64 c.torn, .int .i64 c.bytes]), (w.heap.size + 2, 65, #[.int .i64 f, .int .u32 (b : Int)])] zz (putL (fun _ => zs) 0 X) [] 2) ∨ (i = .int .i64 2 ∧ Un w.heap.size w wr [(w.heap.size + 5, 50, #[.bool bx, .bool bY]), (w.heap.size, 59, (c9 X Y z)), (w.heap.size + 1, 62, #[.slice A c.keep.length cap, .int .i64 c.torn, .int .i64 c.bytes]), (w.heap.size + 2, 65, #[.int .i64 f, .int .u32 (b : Int)])] zz (twoL X Y) [] 4)) (fun i _ => 2 - (intOf i).toNat)
  case atStart => exact .inl ⟨rfl, U1.out⟩
  case round =>
    clear U1
    rcases hrel with ⟨rfl, hu⟩ | ⟨rfl, hu⟩ | ⟨rfl, hu⟩
    · as_aux_lemma =>
      have UU := Lib.hid hu
      clear hu
      have RX := Lib.hid (show wr.rangeAt w.heap.size 0 X.cs from (rng9 (UU.out.at_ 1 rfl)).1)
      go_wp2_with (first
        | (refine wpList_load_mid rfl 28 (.tmp 90) rfl w.heap.size 0 rfl X.cs _ RX.out Try.underlying28 rfl (size23 _) ?_)
        | (go_at_call 11; refine (un_writeq UU.out 0 0 rfl (by decide) X XE.out XZ.out (by decide) bx BX.out).mono ?_; rintro e w3 ⟨q, rfl, g1, g2, hu⟩; have U3 := Lib.hid hu; clear hu; have c0 := ((U3.out.at_ 0 rfl).cell 0).trans (show _ = some (.bool false) from rfl); have z0 := (U3.out.at_ 0 rfl).frozen 0)
        | (go_at_call 12; refine (num8_any _ _).mono ?_; rintro e w' ⟨rfl, rfl⟩))
      have U4 := Lib.hid (show Un w.heap.size w _ [(w.heap.size + 5, 50, #[.bool bx, .bool false]), (w.heap.size, 59, (c9 X Y z)), (w.heap.size + 1, 62, #[.slice A c.keep.length cap, .int .i64 c.torn, .int .i64 c.bytes]), (w.heap.size + 2, 65, #[.int .i64 f, .int .u32 (b : Int)])] zz (fun _ => zs) (if X.ok then [(0, hdB X)] else []) 1 from (U3.out.cell 0 rfl (by omega) 0 (.bool bx)))
      clear c0 z0 UU U3 g1 g2
      generalize w3.setCell ⟨w.heap.size + 5, 0, none⟩ (.bool bx) = w4 at U4 ⊢
      replace U4 := Lib.hid U4.out.drew
      refine wp_region_only (S := fun w' => w'.cell? ⟨w.heap.size + 5, 0, none⟩ = some (.bool bx) ∧ w'.rangeAt w.heap.size 0 X.cs) (by kernel_rfl) ⟨((U4.out.at_ 0 rfl).cell 0).trans rfl, (rng9 (U4.out.at_ 1 rfl)).1⟩ (fun hHeld => ?_)
      refine wpAnyH_take (i := 0) (v := ?v263) rfl (by kernel_rfl) (by kernel_rfl) (by kernel_rfl) (fun _ _ _ h => h) (Or.inl ⟨by rfl, ?hy263⟩) hHeld ?rest263
      case hy263 =>
        intro w' hSw
        try dsimp only at hSw
        go_simp
        first | done | with_reducible rfl
      try simp only [Act.put, zq1, zq3, zq4, zq5, zq6]
      refine wpAnyH_take (i := 1) (v := ?v264) rfl (by kernel_rfl) (by kernel_rfl) (by kernel_rfl) (fun _ _ _ h => h) (Or.inl ⟨by rfl, ?hy264⟩) hHeld ?rest264
      case hy264 =>
        intro w' hSw
        try dsimp only at hSw
        go_simp
        first | done | with_reducible rfl
      try simp only [Act.put, zq1, zq2, zq3, zq4, zq5, zq6]
      refine wpAnyH_take (i := 2) (v := ?v265) rfl (by kernel_rfl) (by kernel_rfl) (by kernel_rfl) (fun _ _ _ h => h) (Or.inl ⟨by rfl, ?hy265⟩) hHeld ?rest265
      case hy265 =>
        intro w' hSw
        try dsimp only at hSw
        go_simp
        first | done | with_reducible rfl
      try simp only [Act.put, zq1, zq2, zq3, zq4, zq5, zq6]
      refine wpAnyH_take (i := 3) (v := ?v266) rfl (by kernel_rfl) (by kernel_rfl) (by kernel_rfl) (fun _ _ _ h => h) (Or.inl ⟨by rfl, ?hy266⟩) hHeld ?rest266
      case hy266 =>
        intro w' hSw
        try dsimp only at hSw
        go_simp
        first | done | with_reducible rfl
      try simp only [Act.put, zq1, zq2, zq3, zq4, zq5, zq6]
      refine wpAnyH_take (i := 4) (v := ?v267) rfl (by kernel_rfl) (by kernel_rfl) (by kernel_rfl) (fun _ _ _ h => h) (Or.inl ⟨by rfl, ?hy267⟩) hHeld ?rest267
      case hy267 =>
        intro w' hSw
        try dsimp only at hSw
        go_simp
        first | done | with_reducible rfl
      try simp only [Act.put, zq1, zq2, zq3, zq4, zq5, zq6]
      refine wpAnyH_take (i := 5) rfl (by kernel_rfl) (by kernel_rfl) (by kernel_rfl) (fun _ _ _ h => h) (yieldsIf_load_mid (by rfl) 28 (.tmp 102) (by rfl) w.heap.size 0 (by rfl) X.cs _ (fun w' hSw => hSw.2) Try.underlying28 rfl (size23 _)) hHeld ?_
      try simp only [Act.put, zq1, zq2, zq3, zq4, zq5, zq6]
      refine wpAnyH_ready (rs := [6]) (by kernel_rfl) (by simp) ?_
      refine AllReadyH.cons (by rfl) (fun K hK => ?_) AllReadyH.nil
      go_simp
      refine (un_checkq U4.out X bx BX.out).mono ?_
      rintro e w5 ⟨q, rfl, e1, e2, hu⟩
      replace U4 := Lib.hid hu
      clear hu hHeld
      go_wp2_with fail
      refine hK.out _ _ ⟨((U4.out.at_ 0 rfl).cell 0).trans rfl, (rng9 (U4.out.at_ 1 rfl)).1⟩ (fun hHeld => ?_)
      clear hK K
      try simp only [Act.put, zq1, zq2, zq3, zq4, zq5, zq6]
      refine wpAnyH_ready (rs := [7]) (by kernel_rfl) (by simp) ?_
      refine AllReadyH.cons (by rfl) (fun K hK => ?_) AllReadyH.nil
      go_simp
      refine (num8_any _ _).mono ?_
      rintro e y1 ⟨rfl, rfl⟩
      clear hHeld
      refine hK.out _ _ ⟨((U4.out.at_ 0 rfl).cell 0).trans rfl, (rng9 (U4.out.at_ 1 rfl)).1⟩ (fun hHeld => ?_)
      clear hK K
      try simp only [Act.put, zq1, zq2, zq3, zq4, zq5, zq6]
      refine wpAnyH_take (i := 8) (v := ?v268) rfl (by kernel_rfl) (by kernel_rfl) (by kernel_rfl) (fun _ _ _ h => h) (Or.inl ⟨by rfl, ?hy268⟩) hHeld ?rest268
      case hy268 =>
        intro w' hSw
        try dsimp only at hSw
        go_simp
        first | done | with_reducible rfl
      try simp only [Act.put, zq1, zq2, zq3, zq4, zq5, zq6]
      refine wpAnyH_take (i := 9) (v := ?v269) rfl (by kernel_rfl) (by kernel_rfl) (by kernel_rfl) (fun _ _ _ h => h) (Or.inl ⟨by rfl, ?hy269⟩) hHeld ?rest269
      case hy269 =>
        intro w' hSw
        try dsimp only at hSw
        go_simp
        first | done | with_reducible rfl
      try simp only [Act.put, zq1, zq2, zq3, zq4, zq5, zq6]
      refine wpAnyH_take (i := 10) (v := ?v270) rfl (by kernel_rfl) (by kernel_rfl) (by kernel_rfl) (fun _ _ _ h => h) (Or.inl ⟨by rfl, ?hy270⟩) hHeld ?rest270
      case hy270 =>
        intro w' hSw
        try dsimp only at hSw
        go_simp
        first | done | with_reducible rfl
      try simp only [Act.put, zq1, zq2, zq3, zq4, zq5, zq6]
      refine wpAnyH_take (i := 11) (v := ?v271) rfl (by kernel_rfl) (by kernel_rfl) (by kernel_rfl) (fun _ _ _ h => h) (Or.inl ⟨by rfl, ?hy271⟩) hHeld ?rest271
      case hy271 =>
        intro w' hSw
        try dsimp only at hSw
        go_simp
        first | done | with_reducible rfl
      try simp only [Act.put, zq1, zq2, zq3, zq4, zq5, zq6]
      refine wpAnyH_ready (rs := [12]) (by kernel_rfl) (by simp) ?_
      refine AllReadyH.cons (by rfl) (fun K hK => ?_) AllReadyH.nil
      go_simp
      refine (un_flush U4.out (by decide)).mono ?_
      rintro e w6 ⟨rfl, hu⟩
      replace U4 := Lib.hid hu
      clear hu hHeld
      go_wp2_with fail
      refine hK.out _ _ ⟨((U4.out.at_ 0 rfl).cell 0).trans rfl, (rng9 (U4.out.at_ 1 rfl)).1⟩ (fun hHeld => ?_)
      clear hK K
      try simp only [Act.put, zq1, zq2, zq3, zq4, zq5, zq6]
      refine wpAnyH_ready (rs := [13]) (by kernel_rfl) (by simp) ?_
      refine AllReadyH.cons (by rfl) (fun K hK => ?_) AllReadyH.nil
      go_simp
      refine (num8_any _ _).mono ?_
      rintro e y1 ⟨rfl, rfl⟩
      clear hHeld
      refine hK.out _ _ ⟨((U4.out.at_ 0 rfl).cell 0).trans rfl, (rng9 (U4.out.at_ 1 rfl)).1⟩ (fun hHeld => ?_)
      clear hK K
      try simp only [Act.put, zq1, zq2, zq3, zq4, zq5, zq6]
      refine wpAnyH_take (i := 14) (v := ?v272) rfl (by kernel_rfl) (by kernel_rfl) (by kernel_rfl) (fun _ _ _ h => h) (Or.inl ⟨by rfl, ?hy272⟩) hHeld ?rest272
      case hy272 =>
        intro w' hSw
        try dsimp only at hSw
        go_simp
        first | done | with_reducible rfl
      try simp only [Act.put, zq1, zq2, zq3, zq4, zq5, zq6]
      refine wpAnyH_take (i := 15) (v := ?v273) rfl (by kernel_rfl) (by kernel_rfl) (by kernel_rfl) (fun _ _ _ h => h) (Or.inl ⟨by rfl, ?hy273⟩) hHeld ?rest273
      case hy273 =>
        intro w' hSw
        try dsimp only at hSw
        go_simp
        first | done | with_reducible rfl
      try simp only [Act.put, zq1, zq2, zq3, zq4, zq5, zq6]
      refine wpAnyH_done (by kernel_rfl) ?_ _
      refine OnlyN.normal ?_
      clear hHeld
      go_wp2_with fail
      go_roundw
      case rel => exact .inr (.inl ⟨by go_num, U4.out⟩)
      case measure => simp [intOf]
    · as_aux_lemma =>
      have UU := Lib.hid hu
      clear hu
      have RX := Lib.hid (show wr.rangeAt w.heap.size 3 Y.cs from (rng9 (UU.out.at_ 1 rfl)).2.1)
      go_wp2_with (first
        | (refine wpList_load_mid rfl 28 (.tmp 90) rfl w.heap.size 3 rfl Y.cs _ RX.out Try.underlying28 rfl (size23 _) ?_)
        | (go_at_call 11; refine (un_writeq UU.out 1 1 rfl (by decide) Y YE.out YZ.out (by decide) bY BY.out).mono ?_; rintro e w3 ⟨q, rfl, g1, g2, hu⟩; have U3 := Lib.hid hu; clear hu; have c0 := ((U3.out.at_ 0 rfl).cell 1).trans (show _ = some (.bool false) from rfl); have z0 := (U3.out.at_ 0 rfl).frozen 1)
        | (go_at_call 12; refine (num8_any _ _).mono ?_; rintro e w' ⟨rfl, rfl⟩))
      have U4 := Lib.hid (show Un w.heap.size w _ [(w.heap.size + 5, 50, #[.bool bx, .bool bY]), (w.heap.size, 59, (c9 X Y z)), (w.heap.size + 1, 62, #[.slice A c.keep.length cap, .int .i64 c.torn, .int .i64 c.bytes]), (w.heap.size + 2, 65, #[.int .i64 f, .int .u32 (b : Int)])] zz (putL (fun _ => zs) 0 X) (if Y.ok then [(1, hdB Y)] else []) 3 from (U3.out.cell 0 rfl (by omega) 1 (.bool bY)))
      clear c0 z0 UU U3 g1 g2
      generalize w3.setCell ⟨w.heap.size + 5, 1, none⟩ (.bool bY) = w4 at U4 ⊢
      replace U4 := Lib.hid U4.out.drew
      refine wp_region_only (S := fun w' => w'.cell? ⟨w.heap.size + 5, 1, none⟩ = some (.bool bY) ∧ w'.rangeAt w.heap.size 3 Y.cs) (by kernel_rfl) ⟨((U4.out.at_ 0 rfl).cell 1).trans rfl, (rng9 (U4.out.at_ 1 rfl)).2.1⟩ (fun hHeld => ?_)
      refine wpAnyH_take (i := 0) (v := ?v274) rfl (by kernel_rfl) (by kernel_rfl) (by kernel_rfl) (fun _ _ _ h => h) (Or.inl ⟨by rfl, ?hy274⟩) hHeld ?rest274
      case hy274 =>
        intro w' hSw
        try dsimp only at hSw
        go_simp
        first | done | with_reducible rfl
      try simp only [Act.put, zq1, zq3, zq4, zq5, zq6]
      refine wpAnyH_take (i := 1) (v := ?v275) rfl (by kernel_rfl) (by kernel_rfl) (by kernel_rfl) (fun _ _ _ h => h) (Or.inl ⟨by rfl, ?hy275⟩) hHeld ?rest275
      case hy275 =>
        intro w' hSw
        try dsimp only at hSw
        go_simp
        first | done | with_reducible rfl
      try simp only [Act.put, zq1, zq2, zq3, zq4, zq5, zq6]
      refine wpAnyH_take (i := 2) (v := ?v276) rfl (by kernel_rfl) (by kernel_rfl) (by kernel_rfl) (fun _ _ _ h => h) (Or.inl ⟨by rfl, ?hy276⟩) hHeld ?rest276
      case hy276 =>
        intro w' hSw
        try dsimp only at hSw
        go_simp
        first | done | with_reducible rfl
      try simp only [Act.put, zq1, zq2, zq3, zq4, zq5, zq6]
      refine wpAnyH_take (i := 3) (v := ?v277) rfl (by kernel_rfl) (by kernel_rfl) (by kernel_rfl) (fun _ _ _ h => h) (Or.inl ⟨by rfl, ?hy277⟩) hHeld ?rest277
      case hy277 =>
        intro w' hSw
        try dsimp only at hSw
        go_simp
        first | done | with_reducible rfl
      try simp only [Act.put, zq1, zq2, zq3, zq4, zq5, zq6]
      refine wpAnyH_take (i := 4) (v := ?v278) rfl (by kernel_rfl) (by kernel_rfl) (by kernel_rfl) (fun _ _ _ h => h) (Or.inl ⟨by rfl, ?hy278⟩) hHeld ?rest278
      case hy278 =>
        intro w' hSw
        try dsimp only at hSw
        go_simp
        first | done | with_reducible rfl
      try simp only [Act.put, zq1, zq2, zq3, zq4, zq5, zq6]
      refine wpAnyH_take (i := 5) rfl (by kernel_rfl) (by kernel_rfl) (by kernel_rfl) (fun _ _ _ h => h) (yieldsIf_load_mid (by rfl) 28 (.tmp 102) (by rfl) w.heap.size 3 (by rfl) Y.cs _ (fun w' hSw => hSw.2) Try.underlying28 rfl (size23 _)) hHeld ?_
      try simp only [Act.put, zq1, zq2, zq3, zq4, zq5, zq6]
      refine wpAnyH_ready (rs := [6]) (by kernel_rfl) (by simp) ?_
      refine AllReadyH.cons (by rfl) (fun K hK => ?_) AllReadyH.nil
      go_simp
      refine (un_checkq U4.out Y bY BY.out).mono ?_
      rintro e w5 ⟨q, rfl, e1, e2, hu⟩
      replace U4 := Lib.hid hu
      clear hu hHeld
      go_wp2_with fail
      refine hK.out _ _ ⟨((U4.out.at_ 0 rfl).cell 1).trans rfl, (rng9 (U4.out.at_ 1 rfl)).2.1⟩ (fun hHeld => ?_)
      clear hK K
      try simp only [Act.put, zq1, zq2, zq3, zq4, zq5, zq6]
      refine wpAnyH_ready (rs := [7]) (by kernel_rfl) (by simp) ?_
      refine AllReadyH.cons (by rfl) (fun K hK => ?_) AllReadyH.nil
      go_simp
      refine (num8_any _ _).mono ?_
      rintro e y1 ⟨rfl, rfl⟩
      clear hHeld
      refine hK.out _ _ ⟨((U4.out.at_ 0 rfl).cell 1).trans rfl, (rng9 (U4.out.at_ 1 rfl)).2.1⟩ (fun hHeld => ?_)
      clear hK K
      try simp only [Act.put, zq1, zq2, zq3, zq4, zq5, zq6]
      refine wpAnyH_take (i := 8) (v := ?v279) rfl (by kernel_rfl) (by kernel_rfl) (by kernel_rfl) (fun _ _ _ h => h) (Or.inl ⟨by rfl, ?hy279⟩) hHeld ?rest279
      case hy279 =>
        intro w' hSw
        try dsimp only at hSw
        go_simp
        first | done | with_reducible rfl
      try simp only [Act.put, zq1, zq2, zq3, zq4, zq5, zq6]
      refine wpAnyH_take (i := 9) (v := ?v280) rfl (by kernel_rfl) (by kernel_rfl) (by kernel_rfl) (fun _ _ _ h => h) (Or.inl ⟨by rfl, ?hy280⟩) hHeld ?rest280
      case hy280 =>
        intro w' hSw
        try dsimp only at hSw
        go_simp
        first | done | with_reducible rfl
      try simp only [Act.put, zq1, zq2, zq3, zq4, zq5, zq6]
      refine wpAnyH_take (i := 10) (v := ?v281) rfl (by kernel_rfl) (by kernel_rfl) (by kernel_rfl) (fun _ _ _ h => h) (Or.inl ⟨by rfl, ?hy281⟩) hHeld ?rest281
      case hy281 =>
        intro w' hSw
        try dsimp only at hSw
        go_simp
        first | done | with_reducible rfl
      try simp only [Act.put, zq1, zq2, zq3, zq4, zq5, zq6]
      refine wpAnyH_take (i := 11) (v := ?v282) rfl (by kernel_rfl) (by kernel_rfl) (by kernel_rfl) (fun _ _ _ h => h) (Or.inl ⟨by rfl, ?hy282⟩) hHeld ?rest282
      case hy282 =>
        intro w' hSw
        try dsimp only at hSw
        go_simp
        first | done | with_reducible rfl
      try simp only [Act.put, zq1, zq2, zq3, zq4, zq5, zq6]
      refine wpAnyH_ready (rs := [12]) (by kernel_rfl) (by simp) ?_
      refine AllReadyH.cons (by rfl) (fun K hK => ?_) AllReadyH.nil
      go_simp
      refine (un_flush U4.out (by decide)).mono ?_
      rintro e w6 ⟨rfl, hu⟩
      replace U4 := Lib.hid hu
      clear hu hHeld
      go_wp2_with fail
      refine hK.out _ _ ⟨((U4.out.at_ 0 rfl).cell 1).trans rfl, (rng9 (U4.out.at_ 1 rfl)).2.1⟩ (fun hHeld => ?_)
      clear hK K
      try simp only [Act.put, zq1, zq2, zq3, zq4, zq5, zq6]
      refine wpAnyH_ready (rs := [13]) (by kernel_rfl) (by simp) ?_
      refine AllReadyH.cons (by rfl) (fun K hK => ?_) AllReadyH.nil
      go_simp
      refine (num8_any _ _).mono ?_
      rintro e y1 ⟨rfl, rfl⟩
      clear hHeld
      refine hK.out _ _ ⟨((U4.out.at_ 0 rfl).cell 1).trans rfl, (rng9 (U4.out.at_ 1 rfl)).2.1⟩ (fun hHeld => ?_)
      clear hK K
      try simp only [Act.put, zq1, zq2, zq3, zq4, zq5, zq6]
      refine wpAnyH_take (i := 14) (v := ?v283) rfl (by kernel_rfl) (by kernel_rfl) (by kernel_rfl) (fun _ _ _ h => h) (Or.inl ⟨by rfl, ?hy283⟩) hHeld ?rest283
      case hy283 =>
        intro w' hSw
        try dsimp only at hSw
        go_simp
        first | done | with_reducible rfl
      try simp only [Act.put, zq1, zq2, zq3, zq4, zq5, zq6]
      refine wpAnyH_take (i := 15) (v := ?v284) rfl (by kernel_rfl) (by kernel_rfl) (by kernel_rfl) (fun _ _ _ h => h) (Or.inl ⟨by rfl, ?hy284⟩) hHeld ?rest284
      case hy284 =>
        intro w' hSw
        try dsimp only at hSw
        go_simp
        first | done | with_reducible rfl
      try simp only [Act.put, zq1, zq2, zq3, zq4, zq5, zq6]
      refine wpAnyH_done (by kernel_rfl) ?_ _
      refine OnlyN.normal ?_
      clear hHeld
      go_wp2_with fail
      go_roundw
      case rel => exact .inr (.inr ⟨by go_num, U4.out⟩)
      case measure => simp [intOf]
    · have UU := Lib.hid hu
      clear hu
      have RZ := Lib.hid (show wr.rangeAt w.heap.size 6 z.cs from (rng9 (UU.out.at_ 1 rfl)).2.2)
      by_cases hzk : z.ok
      · have ZK := Lib.hid hzk
        clear hzk
        have SC := Lib.hid (seen_crash (sl := 1) (o := 0) (k := c.kn 0) (U := twoL X Y) (by decide) (twoL_1 X Y) (twoL_0 X Y) BX.out ZK.out ZE.out ZZ.out YE.out XE.out YO.out XZ.out HNE.out (kn_le c HB0.out HB5.out 0))
        obtain ⟨N0, N1, bs, hV0, hV1, hBs⟩ : ∃ N0 N1 bs, gotH zz ((upL (twoL X Y) 1 (tornL (hdB z) (twoL X Y 1) (c.kn 0))) 0) = N0 ∧ gotH zz ((upL (twoL X Y) 1 (tornL (hdB z) (twoL X Y 1) (c.kn 0))) 1) = N1 ∧ gotB zz ((upL (twoL X Y) 1 (tornL (hdB z) (twoL X Y 1) (c.kn 0))) 1) = bs := ⟨_, _, _, rfl, rfl, rfl⟩
        have HBO := Lib.hid (show gotB zz ((upL (twoL X Y) 1 (tornL (hdB z) (twoL X Y 1) (c.kn 0))) 0) = bx from SC.out.1)
        have HN := Lib.hid (show bx = true → N0 = X from fun h => hV0 ▸ SC.out.2.1 h)
        have HS := Lib.hid (show bs = true → N1 = z ∨ Y.ok ∧ N1 = Y from fun h => hV1 ▸ SC.out.2.2 (hBs ▸ h))
        have HV := Lib.hid (show gotH zz ((upL (twoL X Y) 1 (tornL (hdB z) (twoL X Y 1) (c.kn 0))) 0) = N0 ∧ gotH zz ((upL (twoL X Y) 1 (tornL (hdB z) (twoL X Y 1) (c.kn 0))) 1) = N1 ∧ gotB zz ((upL (twoL X Y) 1 (tornL (hdB z) (twoL X Y 1) (c.kn 0))) 1) = bs from ⟨hV0, hV1, hBs⟩)
        clear SC hV0 hV1 hBs
        have hz1 := z52
        go_wp2_with (first
          | (refine wpList_load_mid rfl 28 (.tmp 116) rfl w.heap.size 6 rfl z.cs _ RZ.out Try.underlying28 rfl (size23 _) ?_)
          | (go_at_call 11; refine (un_writeq UU.out 1 1 rfl (by decide) z ZE.out ZZ.out (by decide) true (by rw [decide_eq_true ZK.out])).mono ?_; rintro e w3 ⟨q, rfl, g1, g2, hu⟩; have U3 := Lib.hid hu; clear hu; have k0 := ((U3.out.at_ 2 rfl).cell 0).trans (show _ = some (.slice A c.keep.length cap) from rfl); have k1 := ((U3.out.at_ 2 rfl).cell 1).trans (show _ = some (.int .i64 c.torn) from rfl); have k2 := ((U3.out.at_ 2 rfl).cell 2).trans (show _ = some (.int .i64 c.bytes) from rfl); simp only [Bool.not_true] at g2)
          | (go_at_call 12; refine (num8_any _ _).mono ?_; rintro e w' ⟨rfl, rfl⟩)
          | (go_at_call 25; refine (show Calls Try.prog _ #[.pointer (some ⟨w.heap.size + 4, 0, none⟩), .agg #[.slice A c.keep.length cap, .int .i64 c.torn, .int .i64 c.bytes]] w3 _ from un_crash (show Un w.heap.size w w3 [(w.heap.size + 5, 50, #[.bool bx, .bool bY]), (w.heap.size, 59, (c9 X Y z)), (w.heap.size + 1, 62, #[.slice A c.keep.length cap, .int .i64 c.torn, .int .i64 c.bytes]), (w.heap.size + 2, 65, #[.int .i64 f, .int .u32 (b : Int)])] zz (twoL X Y) [(1, hdB z)] 5 from by have h := U3.out; rw [if_pos ZK.out] at h; exact h) c A cap HR.out rfl HB0.out HB5.out).mono ?_; rintro e w4 ⟨p', pl', B', rfl, hc, hu⟩; have C4 := Lib.hid hc; have U4 := Lib.hid hu; clear hc hu k0 k1 k2)
          | (go_at_call 20; have hB := un_bothB U4.out C4.out Z1.out.1; rw [HV.out.1, HV.out.2.1, HV.out.2.2, HBO.out] at hB; refine hB.mono ?_; clear hB; rintro e w5 ⟨rfl, hu⟩; have S5 := Lib.hid hu.size; have U5 := Lib.hid (hu.push2 49 50 (cs2 hd0 hd0).toArray #[.bool false, .bool false]); clear hu)
          | (refine wpList_store_g8 rfl 49 (.tmp 18) (.tmp 149) rfl (g := w5.heap.size) (by rfl) (cs2 N0 N1).toArray (cs2 hd0 hd0).toArray 49 (by rfl) (U5.out.at_ 1 rfl) (by kernel_rfl) rfl (cs2_one _ _) ?_; intro w6 j f6; have U6 := Lib.hid (U5.out.set 1 rfl (by have := S5.out; omega) f6 j); clear j f6)
          | (refine wpList_store_g8 rfl 50 (.tmp 19) (.tmp 150) rfl (g := w5.heap.size + 1) (by rfl) #[.bool bx, .bool bs] #[.bool false, .bool false] 50 (by rfl) (U6.out.at_ 0 rfl) (by kernel_rfl) rfl (by simp [Value.oneCell']) ?_; intro w7 j f6; have U7 := Lib.hid (show Un w.heap.size w w7 [(w5.heap.size + 1, 50, #[.bool bx, .bool bs]), (w5.heap.size, 49, (cs2 N0 N1).toArray), (w.heap.size + 5, 50, #[.bool bx, .bool bY]), (w.heap.size, 59, (c9 X Y z)), (w.heap.size + 1, 62, #[.slice A c.keep.length cap, .int .i64 c.torn, .int .i64 c.bytes]), (w.heap.size + 2, 65, #[.int .i64 f, .int .u32 (b : Int)])] zz (twoL X Y) [(1, hdB z)] 5 from U6.out.set 0 rfl (by have := S5.out; omega) f6 j); clear j f6))
        clear g1 g2 HV HBO U3 U4 U5 U6 C4 UU RZ hz hz1
        replace U7 := Lib.hid U7.out.drew
        have hw1 : IntKind.i64.wrap 1 = 1 := IntWalk.i64_in _ (by omega)
        have hw0 : IntKind.i64.wrap 0 = 0 := IntWalk.i64_in _ (by omega)
        refine region_mid8 (fun ac v => ((((((((((((((((((((((((((((((((((((((((((((((((((((((((((((((ac.put (some 152) (v 152)).put (some 153) (v 153)).put (some 154) (v 154)).put (some 155) (v 155)).put (some 156) (v 156)).put (some 157) (v 157)).put (some 158) (v 158)).put (some 159) (v 159)).put (some 160) (v 160)).put (some 161) (v 161)).put (some 162) (v 162)).put (some 163) (v 163)).put (some 164) (v 164)).put (some 165) (v 165)).put (some 166) (v 166)).put (some 167) (v 167)).put (some 168) (v 168)).put (some 169) (v 169)).put (some 170) (v 170)).put (some 171) (v 171)).put (some 172) (v 172)).put (some 173) (v 173)).put (some 174) (v 174)).put (some 175) (v 175)).put (some 176) (v 176)).put (some 177) (v 177)).put (some 178) (v 178)).put (some 179) (v 179)).put (some 180) (v 180)).put (some 181) (v 181)).put (some 182) (v 182)).put (some 183) (v 183)).put (some 184) (v 184)).put (some 185) (v 185)).put (some 186) (v 186)).put (some 187) (v 187)).put (some 188) (v 188)).put (some 189) (v 189)).put (some 190) (v 190)).put (some 191) (v 191)).put (some 192) (v 192)).put (some 193) (v 193)).put (some 194) (v 194)).put (some 195) (v 195)).put (some 196) (v 196)).put (some 197) (v 197)).put (some 198) (v 198)).put (some 199) (v 199)).put (some 200) (v 200)).put (some 201) (v 201)).put (some 202) (v 202)).put (some 203) (v 203)).put (some 204) (v 204)).put (some 205) (v 205)).put (some 206) (v 206)).put (some 207) (v 207)).put (some 208) (v 208)).put (some 209) (v 209)).put (some 210) (v 210)).put (some 211) (v 211)).put (some 212) (v 212)).put (some 213) (.bool false))) w7.drew ?mid ?rest
        case mid => as_aux_lemma =>
          refine wp_region_only (S := fun w' => w'.cell? ⟨w.heap.size + 5, 0, none⟩ = some (.bool bx) ∧ w'.cell? ⟨w.heap.size + 5, 1, none⟩ = some (.bool bY) ∧ w'.cell? ⟨w5.heap.size + 1, 0, none⟩ = some (.bool bx) ∧ w'.cell? ⟨w5.heap.size + 1, 1, none⟩ = some (.bool bs) ∧ w'.rangeAt w5.heap.size 0 N0.cs ∧ w'.rangeAt w5.heap.size 3 N1.cs ∧ w'.rangeAt w.heap.size 0 X.cs ∧ w'.rangeAt w.heap.size 3 Y.cs ∧ w'.rangeAt w.heap.size 6 z.cs) (by kernel_rfl) ⟨((U7.out.at_ 2 rfl).cell 0).trans rfl, ((U7.out.at_ 2 rfl).cell 1).trans rfl, ((U7.out.at_ 0 rfl).cell 0).trans rfl, ((U7.out.at_ 0 rfl).cell 1).trans rfl, (rng6 (U7.out.at_ 1 rfl)).1, (rng6 (U7.out.at_ 1 rfl)).2, (rng9 (U7.out.at_ 3 rfl)).1, (rng9 (U7.out.at_ 3 rfl)).2.1, (rng9 (U7.out.at_ 3 rfl)).2.2⟩ (fun hHeld => ?_)
          refine wpAnyH_take (i := 0) (v := ?v285) rfl (by kernel_rfl) (by kernel_rfl) (by kernel_rfl) (fun _ _ _ h => h) (Or.inl ⟨by rfl, ?hy285⟩) hHeld ?rest285
          case hy285 =>
            intro w' hSw
            try dsimp only at hSw
            go_simp
            first | done | with_reducible rfl
          try simp only [Act.put, zq1, zq3, zq4, zq5, zq6]
          refine wpAnyH_take (i := 2) (v := ?v286) rfl (by kernel_rfl) (by kernel_rfl) (by kernel_rfl) (fun _ _ _ h => h) (Or.inl ⟨by rfl, ?hy286⟩) hHeld ?rest286
          case hy286 =>
            intro w' hSw
            try dsimp only at hSw
            go_simp
            first | done | with_reducible rfl
          try simp only [Act.put, zq1, zq2, zq3, zq4, zq5, zq6]
          refine wpAnyH_ready (rs := [1]) (by kernel_rfl) (by simp) ?_
          refine AllReadyH.cons (by rfl) (fun K hK => ?_) AllReadyH.nil
          go_simp
          refine (num8_any _ _).mono ?_
          rintro e y1 ⟨rfl, rfl⟩
          clear hHeld
          refine hK.out _ _ ⟨((U7.out.at_ 2 rfl).cell 0).trans rfl, ((U7.out.at_ 2 rfl).cell 1).trans rfl, ((U7.out.at_ 0 rfl).cell 0).trans rfl, ((U7.out.at_ 0 rfl).cell 1).trans rfl, (rng6 (U7.out.at_ 1 rfl)).1, (rng6 (U7.out.at_ 1 rfl)).2, (rng9 (U7.out.at_ 3 rfl)).1, (rng9 (U7.out.at_ 3 rfl)).2.1, (rng9 (U7.out.at_ 3 rfl)).2.2⟩ (fun hHeld => ?_)
          clear hK K
          try simp only [Act.put, zq1, zq2, zq3, zq4, zq5, zq6]
          refine wpAnyH_ready (rs := [3]) (by kernel_rfl) (by simp) ?_
          refine AllReadyH.cons (by rfl) (fun K hK => ?_) AllReadyH.nil
          go_simp
          refine (num8_any _ _).mono ?_
          rintro e y1 ⟨rfl, rfl⟩
          clear hHeld
          refine hK.out _ _ ⟨((U7.out.at_ 2 rfl).cell 0).trans rfl, ((U7.out.at_ 2 rfl).cell 1).trans rfl, ((U7.out.at_ 0 rfl).cell 0).trans rfl, ((U7.out.at_ 0 rfl).cell 1).trans rfl, (rng6 (U7.out.at_ 1 rfl)).1, (rng6 (U7.out.at_ 1 rfl)).2, (rng9 (U7.out.at_ 3 rfl)).1, (rng9 (U7.out.at_ 3 rfl)).2.1, (rng9 (U7.out.at_ 3 rfl)).2.2⟩ (fun hHeld => ?_)
          clear hK K
          try simp only [Act.put, zq1, zq2, zq3, zq4, zq5, zq6]
          refine wpAnyH_take (i := 4) (v := ?v287) rfl (by kernel_rfl) (by kernel_rfl) (by kernel_rfl) (fun _ _ _ h => h) (Or.inl ⟨by rfl, ?hy287⟩) hHeld ?rest287
          case hy287 =>
            intro w' hSw
            try dsimp only at hSw
            go_simp
            first | done | with_reducible rfl
          try simp only [Act.put, zq1, zq2, zq3, zq4, zq5, zq6]
          refine wpAnyH_take (i := 5) (v := ?v288) rfl (by kernel_rfl) (by kernel_rfl) (by kernel_rfl) (fun _ _ _ h => h) (Or.inl ⟨by rfl, ?hy288⟩) hHeld ?rest288
          case hy288 =>
            intro w' hSw
            try dsimp only at hSw
            go_simp
            first | done | with_reducible rfl
          try simp only [Act.put, zq1, zq2, zq3, zq4, zq5, zq6]
          refine wpAnyH_take (i := 6) (v := ?v289) rfl (by kernel_rfl) (by kernel_rfl) (by kernel_rfl) (fun _ _ _ h => h) (Or.inl ⟨by rfl, ?hy289⟩) hHeld ?rest289
          case hy289 =>
            intro w' hSw
            try dsimp only at hSw
            go_simp
            first | done | with_reducible rfl
          try simp only [Act.put, zq1, zq2, zq3, zq4, zq5, zq6]
          refine wpAnyH_take (i := 7) (v := ?v290) rfl (by kernel_rfl) (by kernel_rfl) (by kernel_rfl) (fun _ _ _ h => h) (Or.inl ⟨by rfl, ?hy290⟩) hHeld ?rest290
          case hy290 =>
            intro w' hSw
            try dsimp only at hSw
            go_simp
            first | done | with_reducible rfl
          try simp only [Act.put, zq1, zq2, zq3, zq4, zq5, zq6]
          refine wpAnyH_take (i := 8) (v := ?v291) rfl (by kernel_rfl) (by kernel_rfl) (by kernel_rfl) (fun _ _ _ h => h) (Or.inl ⟨by rfl, ?hy291⟩) hHeld ?rest291
          case hy291 =>
            intro w' hSw
            try dsimp only at hSw
            go_simp
            first | done | with_reducible rfl
          try simp only [Act.put, zq1, zq2, zq3, zq4, zq5, zq6]
          refine wpAnyH_take (i := 9) (v := ?v292) rfl (by kernel_rfl) (by kernel_rfl) (by kernel_rfl) (fun _ _ _ h => h) (Or.inl ⟨by rfl, ?hy292⟩) hHeld ?rest292
          case hy292 =>
            intro w' hSw
            try dsimp only at hSw
            go_simp
            first | done | with_reducible rfl
          try simp only [Act.put, zq1, zq2, zq3, zq4, zq5, zq6]
          refine wpAnyH_take (i := 10) (v := ?v293) rfl (by kernel_rfl) (by kernel_rfl) (by kernel_rfl) (fun _ _ _ h => h) (Or.inl ⟨by rfl, ?hy293⟩) hHeld ?rest293
          case hy293 =>
            intro w' hSw
            try dsimp only at hSw
            go_simp
            first | done | with_reducible rfl
          try simp only [Act.put, zq1, zq2, zq3, zq4, zq5, zq6]
          refine wpAnyH_take (i := 11) (v := ?v294) rfl (by kernel_rfl) (by kernel_rfl) (by kernel_rfl) (fun _ _ _ h => h) (Or.inl ⟨by rfl, ?hy294⟩) hHeld ?rest294
          case hy294 =>
            intro w' hSw
            try dsimp only at hSw
            go_simp
            first | done | with_reducible rfl
          try simp only [Act.put, zq1, zq2, zq3, zq4, zq5, zq6]
          refine wpAnyH_take (i := 12) (v := ?v295) rfl (by kernel_rfl) (by kernel_rfl) (by kernel_rfl) (fun _ _ _ h => h) (Or.inl ⟨by rfl, ?hy295⟩) hHeld ?rest295
          case hy295 =>
            intro w' hSw
            try dsimp only at hSw
            go_simp
            first | done | with_reducible rfl
          try simp only [Act.put, zq1, zq2, zq3, zq4, zq5, zq6]
          refine wpAnyH_take (i := 13) (v := ?v296) rfl (by kernel_rfl) (by kernel_rfl) (by kernel_rfl) (fun _ _ _ h => h) (Or.inl ⟨by rfl, ?hy296⟩) hHeld ?rest296
          case hy296 =>
            intro w' hSw
            try dsimp only at hSw
            go_simp
            first | done | with_reducible rfl
          try simp only [Act.put, zq1, zq2, zq3, zq4, zq5, zq6]
          refine wpAnyH_take (i := 14) (v := ?v297) rfl (by kernel_rfl) (by kernel_rfl) (by kernel_rfl) (fun _ _ _ h => h) (Or.inl ⟨by rfl, ?hy297⟩) hHeld ?rest297
          case hy297 =>
            intro w' hSw
            try dsimp only at hSw
            go_simp
            first | done | with_reducible rfl
          try simp only [Act.put, zq1, zq2, zq3, zq4, zq5, zq6]
          refine wpAnyH_take (i := 15) (v := ?v298) rfl (by kernel_rfl) (by kernel_rfl) (by kernel_rfl) (fun _ _ _ h => h) (Or.inl ⟨by rfl, ?hy298⟩) hHeld ?rest298
          case hy298 =>
            intro w' hSw
            try dsimp only at hSw
            go_simp
            first | done | with_reducible rfl
          try simp only [Act.put, zq1, zq2, zq3, zq4, zq5, zq6]
          refine wpAnyH_take (i := 16) (v := ?v299) rfl (by kernel_rfl) (by kernel_rfl) (by kernel_rfl) (fun _ _ _ h => h) (Or.inl ⟨by rfl, ?hy299⟩) hHeld ?rest299
          case hy299 =>
            intro w' hSw
            try dsimp only at hSw
            go_simp
            first | done | with_reducible rfl
          try simp only [Act.put, zq1, zq2, zq3, zq4, zq5, zq6]
          refine wpAnyH_take (i := 17) (v := ?v300) rfl (by kernel_rfl) (by kernel_rfl) (by kernel_rfl) (fun _ _ _ h => h) (Or.inl ⟨by rfl, ?hy300⟩) hHeld ?rest300
          case hy300 =>
            intro w' hSw
            try dsimp only at hSw
            go_simp
            first | done | with_reducible rfl
          try simp only [Act.put, zq1, zq2, zq3, zq4, zq5, zq6]
          refine wpAnyH_take (i := 18) (v := ?v301) rfl (by kernel_rfl) (by kernel_rfl) (by kernel_rfl) (fun _ _ _ h => h) (Or.inl ⟨by rfl, ?hy301⟩) hHeld ?rest301
          case hy301 =>
            intro w' hSw
            try dsimp only at hSw
            go_simp
            first | done | with_reducible rfl
          try simp only [Act.put, zq1, zq2, zq3, zq4, zq5, zq6]
          refine wpAnyH_take (i := 19) (v := ?v302) rfl (by kernel_rfl) (by kernel_rfl) (by kernel_rfl) (fun _ _ _ h => h) (Or.inl ⟨by rfl, ?hy302⟩) hHeld ?rest302
          case hy302 =>
            intro w' hSw
            try dsimp only at hSw
            go_simp
            first | done | with_reducible rfl
          try simp only [Act.put, zq1, zq2, zq3, zq4, zq5, zq6]
          refine wpAnyH_take (i := 20) (v := ?v303) rfl (by kernel_rfl) (by kernel_rfl) (by kernel_rfl) (fun _ _ _ h => h) (Or.inl ⟨by rfl, ?hy303⟩) hHeld ?rest303
          case hy303 =>
            intro w' hSw
            try dsimp only at hSw
            go_simp
            first | done | with_reducible rfl
          try simp only [Act.put, zq1, zq2, zq3, zq4, zq5, zq6]
          refine wpAnyH_take (i := 21) (v := ?v304) rfl (by kernel_rfl) (by kernel_rfl) (by kernel_rfl) (fun _ _ _ h => h) (Or.inl ⟨by rfl, ?hy304⟩) hHeld ?rest304
          case hy304 =>
            intro w' hSw
            try dsimp only at hSw
            go_simp
            first | done | with_reducible rfl
          try simp only [Act.put, zq1, zq2, zq3, zq4, zq5, zq6]
          refine wpAnyH_take (i := 22) (v := ?v305) rfl (by kernel_rfl) (by kernel_rfl) (by kernel_rfl) (fun _ _ _ h => h) (Or.inl ⟨by rfl, ?hy305⟩) hHeld ?rest305
          case hy305 =>
            intro w' hSw
            try dsimp only at hSw
            go_simp
            first | done | with_reducible rfl
          try simp only [Act.put, zq1, zq2, zq3, zq4, zq5, zq6]
          by_cases hbo : bx = true
          · as_aux_lemma =>
            have hN := HN.out hbo
            subst hbo
            refine wpAnyH_take (i := 23) (v := ?v306) rfl (by kernel_rfl) (by kernel_rfl) (by kernel_rfl) (fun _ _ _ h => h) (Or.inl ⟨by rfl, ?hy306⟩) hHeld ?rest306
            case hy306 =>
              intro w' hSw
              try dsimp only at hSw
              go_simp
              first | done | with_reducible rfl
            try simp only [Act.put, zq1, zq2, zq3, zq4, zq5, zq6]
            refine wpAnyH_take (i := 24) (v := ?v307) rfl (by kernel_rfl) (by kernel_rfl) (by kernel_rfl) (fun _ _ _ h => h) (Or.inl ⟨by rfl, ?hy307⟩) hHeld ?rest307
            case hy307 =>
              intro w' hSw
              try dsimp only at hSw
              go_simp
              first | done | with_reducible rfl
            try simp only [Act.put, zq1, zq2, zq3, zq4, zq5, zq6]
            refine wpAnyH_take (i := 25) (v := ?v308) rfl (by kernel_rfl) (by kernel_rfl) (by kernel_rfl) (fun _ _ _ h => h) (Or.inl ⟨by rfl, ?hy308⟩) hHeld ?rest308
            case hy308 =>
              intro w' hSw
              try dsimp only at hSw
              go_simp
              first | done | with_reducible rfl
            try simp only [Act.put, zq1, zq2, zq3, zq4, zq5, zq6]
            refine wpAnyH_take (i := 26) rfl (by kernel_rfl) (by kernel_rfl) (by kernel_rfl) (fun _ _ _ h => h) (yieldsIf_load_mid (by rfl) 28 (.tmp 177) (by rfl) w5.heap.size 0 (by rfl) X.cs _ (fun w' hSw => hN ▸ hSw.2.2.2.2.1) Try.underlying28 rfl (size23 _)) hHeld ?_
            try simp only [Act.put, zq1, zq2, zq3, zq4, zq5, zq6]
            refine wpAnyH_take (i := 27) (v := ?v309) rfl (by kernel_rfl) (by kernel_rfl) (by kernel_rfl) (fun _ _ _ h => h) (Or.inl ⟨by rfl, ?hy309⟩) hHeld ?rest309
            case hy309 =>
              intro w' hSw
              try dsimp only at hSw
              go_simp
              first | done | with_reducible rfl
            try simp only [Act.put, zq1, zq2, zq3, zq4, zq5, zq6]
            refine wpAnyH_take (i := 28) (v := ?v310) rfl (by kernel_rfl) (by kernel_rfl) (by kernel_rfl) (fun _ _ _ h => h) (Or.inl ⟨by rfl, ?hy310⟩) hHeld ?rest310
            case hy310 =>
              intro w' hSw
              try dsimp only at hSw
              go_simp
              first | done | with_reducible rfl
            try simp only [Act.put, zq1, zq2, zq3, zq4, zq5, zq6]
            refine wpAnyH_take (i := 29) (v := ?v311) rfl (by kernel_rfl) (by kernel_rfl) (by kernel_rfl) (fun _ _ _ h => h) (Or.inl ⟨by rfl, ?hy311⟩) hHeld ?rest311
            case hy311 =>
              intro w' hSw
              try dsimp only at hSw
              go_simp
              first | done | with_reducible rfl
            try simp only [Act.put, zq1, zq2, zq3, zq4, zq5, zq6]
            refine wpAnyH_take (i := 30) rfl (by kernel_rfl) (by kernel_rfl) (by kernel_rfl) (fun _ _ _ h => h) (yieldsIf_load_mid (by rfl) 28 (.tmp 181) (by rfl) w.heap.size 0 (by rfl) X.cs _ (fun w' hSw => hSw.2.2.2.2.2.2.1) Try.underlying28 rfl (size23 _)) hHeld ?_
            try simp only [Act.put, zq1, zq2, zq3, zq4, zq5, zq6]
            refine wpAnyH_take (i := 31) rfl (by kernel_rfl) (by kernel_rfl) (by kernel_rfl) (fun _ _ _ h => h) (y_ne23 (by rfl) (.tmp 178) (.tmp 182) (by rfl) X (by rfl) (by rfl)) hHeld ?_
            try simp only [Act.put, zq1, zq2, zq3, zq4, zq5, zq6]
            refine wpAnyH_take (i := 32) (v := ?v312) rfl (by kernel_rfl) (by kernel_rfl) (by kernel_rfl) (fun _ _ _ h => h) (Or.inl ⟨by rfl, ?hy312⟩) hHeld ?rest312
            case hy312 =>
              intro w' hSw
              try dsimp only at hSw
              go_simp
              first | done | with_reducible rfl
            try simp only [Act.put, zq1, zq2, zq3, zq4, zq5, zq6]
            refine wpAnyH_take (i := 33) (v := ?v313) rfl (by kernel_rfl) (by kernel_rfl) (by kernel_rfl) (fun _ _ _ h => h) (Or.inl ⟨by rfl, ?hy313⟩) hHeld ?rest313
            case hy313 =>
              intro w' hSw
              try dsimp only at hSw
              go_simp
              first | done | with_reducible rfl
            try simp only [Act.put, zq1, zq2, zq3, zq4, zq5, zq6]
            refine wpAnyH_take (i := 34) (v := ?v314) rfl (by kernel_rfl) (by kernel_rfl) (by kernel_rfl) (fun _ _ _ h => h) (Or.inl ⟨by rfl, ?hy314⟩) hHeld ?rest314
            case hy314 =>
              intro w' hSw
              try dsimp only at hSw
              go_simp
              first | done | with_reducible rfl
            try simp only [Act.put, zq1, zq2, zq3, zq4, zq5, zq6]
            refine wpAnyH_take (i := 35) (v := ?v315) rfl (by kernel_rfl) (by kernel_rfl) (by kernel_rfl) (fun _ _ _ h => h) (Or.inl ⟨by rfl, ?hy315⟩) hHeld ?rest315
            case hy315 =>
              intro w' hSw
              try dsimp only at hSw
              go_simp
              first | done | with_reducible rfl
            try simp only [Act.put, zq1, zq2, zq3, zq4, zq5, zq6]
            refine wpAnyH_take (i := 36) (v := ?v316) rfl (by kernel_rfl) (by kernel_rfl) (by kernel_rfl) (fun _ _ _ h => h) (Or.inl ⟨by rfl, ?hy316⟩) hHeld ?rest316
            case hy316 =>
              intro w' hSw
              try dsimp only at hSw
              go_simp
              first | done | with_reducible rfl
            try simp only [Act.put, zq1, zq2, zq3, zq4, zq5, zq6]
            refine wpAnyH_take (i := 37) (v := ?v317) rfl (by kernel_rfl) (by kernel_rfl) (by kernel_rfl) (fun _ _ _ h => h) (Or.inl ⟨by rfl, ?hy317⟩) hHeld ?rest317
            case hy317 =>
              intro w' hSw
              try dsimp only at hSw
              go_simp
              first | done | with_reducible rfl
            try simp only [Act.put, zq1, zq2, zq3, zq4, zq5, zq6]
            refine wpAnyH_take (i := 38) (v := ?v318) rfl (by kernel_rfl) (by kernel_rfl) (by kernel_rfl) (fun _ _ _ h => h) (Or.inl ⟨by rfl, ?hy318⟩) hHeld ?rest318
            case hy318 =>
              intro w' hSw
              try dsimp only at hSw
              go_simp
              first | done | with_reducible rfl
            try simp only [Act.put, zq1, zq2, zq3, zq4, zq5, zq6]
            by_cases hbs : bs = true
            · rcases HS.out hbs with hs | ⟨hxk, hs⟩
              · subst hbs
                refine wpAnyH_take (i := 39) (v := ?v319) rfl (by kernel_rfl) (by kernel_rfl) (by kernel_rfl) (fun _ _ _ h => h) (Or.inl ⟨by rfl, ?hy319⟩) hHeld ?rest319
                case hy319 =>
                  intro w' hSw
                  try dsimp only at hSw
                  go_simp
                  first | done | with_reducible rfl
                try simp only [Act.put, zq1, zq2, zq3, zq4, zq5, zq6]
                refine wpAnyH_take (i := 40) (v := ?v320) rfl (by kernel_rfl) (by kernel_rfl) (by kernel_rfl) (fun _ _ _ h => h) (Or.inl ⟨by rfl, ?hy320⟩) hHeld ?rest320
                case hy320 =>
                  intro w' hSw
                  try dsimp only at hSw
                  go_simp
                  first | done | with_reducible rfl
                try simp only [Act.put, zq1, zq2, zq3, zq4, zq5, zq6]
                refine wpAnyH_take (i := 41) rfl (by kernel_rfl) (by kernel_rfl) (by kernel_rfl) (fun _ _ _ h => h) (yieldsIf_load_mid (by rfl) 28 (.tmp 192) (by rfl) w5.heap.size 3 (by rfl) z.cs _ (fun w' hSw => hs ▸ hSw.2.2.2.2.2.1) Try.underlying28 rfl (size23 _)) hHeld ?_
                try simp only [Act.put, zq1, zq2, zq3, zq4, zq5, zq6]
                refine wpAnyH_take (i := 42) (v := ?v321) rfl (by kernel_rfl) (by kernel_rfl) (by kernel_rfl) (fun _ _ _ h => h) (Or.inl ⟨by rfl, ?hy321⟩) hHeld ?rest321
                case hy321 =>
                  intro w' hSw
                  try dsimp only at hSw
                  go_simp
                  first | done | with_reducible rfl
                try simp only [Act.put, zq1, zq2, zq3, zq4, zq5, zq6]
                refine wpAnyH_take (i := 43) rfl (by kernel_rfl) (by kernel_rfl) (by kernel_rfl) (fun _ _ _ h => h) (yieldsIf_load_mid (by rfl) 28 (.tmp 194) (by rfl) w.heap.size 6 (by rfl) z.cs _ (fun w' hSw => hSw.2.2.2.2.2.2.2.2) Try.underlying28 rfl (size23 _)) hHeld ?_
                try simp only [Act.put, zq1, zq2, zq3, zq4, zq5, zq6]
                refine wpAnyH_take (i := 44) rfl (by kernel_rfl) (by kernel_rfl) (by kernel_rfl) (fun _ _ _ h => h) (y_ne23 (by rfl) (.tmp 193) (.tmp 195) (by rfl) z (by rfl) (by rfl)) hHeld ?_
                try simp only [Act.put, zq1, zq2, zq3, zq4, zq5, zq6]
                refine wpAnyH_take (i := 45) (v := ?v322) rfl (by kernel_rfl) (by kernel_rfl) (by kernel_rfl) (fun _ _ _ h => h) (Or.inl ⟨by rfl, ?hy322⟩) hHeld ?rest322
                case hy322 =>
                  intro w' hSw
                  try dsimp only at hSw
                  go_simp
                  first | done | with_reducible rfl
                try simp only [Act.put, zq1, zq2, zq3, zq4, zq5, zq6]
                refine wpAnyH_take (i := 46) (v := ?v323) rfl (by kernel_rfl) (by kernel_rfl) (by kernel_rfl) (fun _ _ _ h => h) (Or.inl ⟨by rfl, ?hy323⟩) hHeld ?rest323
                case hy323 =>
                  intro w' hSw
                  try dsimp only at hSw
                  go_simp
                  first | done | with_reducible rfl
                try simp only [Act.put, zq1, zq2, zq3, zq4, zq5, zq6]
                refine wpAnyH_take (i := 47) (v := undef) rfl (by kernel_rfl) (by kernel_rfl) (by kernel_rfl) (fun _ _ _ h => h) (Or.inr ⟨by rfl, rfl⟩) hHeld ?_
                try simp only [Act.put, zq1, zq2, zq3, zq4, zq5, zq6]
                refine wpAnyH_take (i := 48) (v := undef) rfl (by kernel_rfl) (by kernel_rfl) (by kernel_rfl) (fun _ _ _ h => h) (Or.inr ⟨by rfl, rfl⟩) hHeld ?_
                try simp only [Act.put, zq1, zq2, zq3, zq4, zq5, zq6]
                refine wpAnyH_take (i := 49) (v := undef) rfl (by kernel_rfl) (by kernel_rfl) (by kernel_rfl) (fun _ _ _ h => h) (Or.inr ⟨by rfl, rfl⟩) hHeld ?_
                try simp only [Act.put, zq1, zq2, zq3, zq4, zq5, zq6]
                refine wpAnyH_take (i := 50) (v := undef) rfl (by kernel_rfl) (by kernel_rfl) (by kernel_rfl) (fun _ _ _ h => h) (Or.inr ⟨by rfl, rfl⟩) hHeld ?_
                try simp only [Act.put, zq1, zq2, zq3, zq4, zq5, zq6]
                refine wpAnyH_take (i := 51) (v := undef) rfl (by kernel_rfl) (by kernel_rfl) (by kernel_rfl) (fun _ _ _ h => h) (Or.inr ⟨by rfl, rfl⟩) hHeld ?_
                try simp only [Act.put, zq1, zq2, zq3, zq4, zq5, zq6]
                refine wpAnyH_take (i := 52) (v := undef) rfl (by kernel_rfl) (by kernel_rfl) (by kernel_rfl) (fun _ _ _ h => h) (Or.inr ⟨by rfl, rfl⟩) hHeld ?_
                try simp only [Act.put, zq1, zq2, zq3, zq4, zq5, zq6]
                refine wpAnyH_take (i := 53) (v := undef) rfl (by kernel_rfl) (by kernel_rfl) (by kernel_rfl) (fun _ _ _ h => h) (Or.inr ⟨by rfl, rfl⟩) hHeld ?_
                try simp only [Act.put, zq1, zq2, zq3, zq4, zq5, zq6]
                refine wpAnyH_take (i := 54) (v := undef) rfl (by kernel_rfl) (by kernel_rfl) (by kernel_rfl) (fun _ _ _ h => h) (Or.inr ⟨by rfl, rfl⟩) hHeld ?_
                try simp only [Act.put, zq1, zq2, zq3, zq4, zq5, zq6]
                refine wpAnyH_take (i := 55) (v := undef) rfl (by kernel_rfl) (by kernel_rfl) (by kernel_rfl) (fun _ _ _ h => h) (Or.inr ⟨by rfl, rfl⟩) hHeld ?_
                try simp only [Act.put, zq1, zq2, zq3, zq4, zq5, zq6]
                refine wpAnyH_take (i := 56) (v := undef) rfl (by kernel_rfl) (by kernel_rfl) (by kernel_rfl) (fun _ _ _ h => h) (Or.inr ⟨by rfl, rfl⟩) hHeld ?_
                try simp only [Act.put, zq1, zq2, zq3, zq4, zq5, zq6]
                refine wpAnyH_take (i := 57) (v := undef) rfl (by kernel_rfl) (by kernel_rfl) (by kernel_rfl) (fun _ _ _ h => h) (Or.inr ⟨by rfl, rfl⟩) hHeld ?_
                try simp only [Act.put, zq1, zq2, zq3, zq4, zq5, zq6]
                refine wpAnyH_take (i := 58) (v := undef) rfl (by kernel_rfl) (by kernel_rfl) (by kernel_rfl) (fun _ _ _ h => h) (Or.inr ⟨by rfl, rfl⟩) hHeld ?_
                try simp only [Act.put, zq1, zq2, zq3, zq4, zq5, zq6]
                refine wpAnyH_take (i := 59) (v := undef) rfl (by kernel_rfl) (by kernel_rfl) (by kernel_rfl) (fun _ _ _ h => h) (Or.inr ⟨by rfl, rfl⟩) hHeld ?_
                try simp only [Act.put, zq1, zq2, zq3, zq4, zq5, zq6]
                refine wpAnyH_take (i := 60) (v := ?v324) rfl (by kernel_rfl) (by kernel_rfl) (by kernel_rfl) (fun _ _ _ h => h) (Or.inl ⟨by rfl, ?hy324⟩) hHeld ?rest324
                case hy324 =>
                  intro w' hSw
                  try dsimp only at hSw
                  go_simp
                  first | done | with_reducible rfl
                try simp only [Act.put, zq1, zq2, zq3, zq4, zq5, zq6]
                refine wpAnyH_take (i := 61) (v := ?v325) rfl (by kernel_rfl) (by kernel_rfl) (by kernel_rfl) (fun _ _ _ h => h) (Or.inl ⟨by rfl, ?hy325⟩) hHeld ?rest325
                case hy325 =>
                  intro w' hSw
                  try dsimp only at hSw
                  go_simp
                  first | done | with_reducible rfl
                try simp only [Act.put, zq1, zq2, zq3, zq4, zq5, zq6]
                refine wpAnyH_done (by kernel_rfl) ?_ _
                refine OnlyN.normal ?_
                exact ⟨rfl, rfl, by as_aux_lemma => kernel_rfl⟩
              · subst hbs
                obtain rfl : bY = true := BY.out.trans (decide_eq_true hxk)
                refine wpAnyH_take (i := 39) (v := ?v326) rfl (by kernel_rfl) (by kernel_rfl) (by kernel_rfl) (fun _ _ _ h => h) (Or.inl ⟨by rfl, ?hy326⟩) hHeld ?rest326
                case hy326 =>
                  intro w' hSw
                  try dsimp only at hSw
                  go_simp
                  first | done | with_reducible rfl
                try simp only [Act.put, zq1, zq2, zq3, zq4, zq5, zq6]
                refine wpAnyH_take (i := 40) (v := ?v327) rfl (by kernel_rfl) (by kernel_rfl) (by kernel_rfl) (fun _ _ _ h => h) (Or.inl ⟨by rfl, ?hy327⟩) hHeld ?rest327
                case hy327 =>
                  intro w' hSw
                  try dsimp only at hSw
                  go_simp
                  first | done | with_reducible rfl
                try simp only [Act.put, zq1, zq2, zq3, zq4, zq5, zq6]
                refine wpAnyH_take (i := 41) rfl (by kernel_rfl) (by kernel_rfl) (by kernel_rfl) (fun _ _ _ h => h) (yieldsIf_load_mid (by rfl) 28 (.tmp 192) (by rfl) w5.heap.size 3 (by rfl) Y.cs _ (fun w' hSw => hs ▸ hSw.2.2.2.2.2.1) Try.underlying28 rfl (size23 _)) hHeld ?_
                try simp only [Act.put, zq1, zq2, zq3, zq4, zq5, zq6]
                refine wpAnyH_take (i := 42) (v := ?v328) rfl (by kernel_rfl) (by kernel_rfl) (by kernel_rfl) (fun _ _ _ h => h) (Or.inl ⟨by rfl, ?hy328⟩) hHeld ?rest328
                case hy328 =>
                  intro w' hSw
                  try dsimp only at hSw
                  go_simp
                  first | done | with_reducible rfl
                try simp only [Act.put, zq1, zq2, zq3, zq4, zq5, zq6]
                refine wpAnyH_take (i := 43) rfl (by kernel_rfl) (by kernel_rfl) (by kernel_rfl) (fun _ _ _ h => h) (yieldsIf_load_mid (by rfl) 28 (.tmp 194) (by rfl) w.heap.size 6 (by rfl) z.cs _ (fun w' hSw => hSw.2.2.2.2.2.2.2.2) Try.underlying28 rfl (size23 _)) hHeld ?_
                try simp only [Act.put, zq1, zq2, zq3, zq4, zq5, zq6]
                refine wpAnyH_take (i := 44) rfl (by kernel_rfl) (by kernel_rfl) (by kernel_rfl) (fun _ _ _ h => h) (y_ne23n (by rfl) (.tmp 193) (.tmp 195) (by rfl) Y z HNE.out (by rfl) (by rfl)) hHeld ?_
                try simp only [Act.put, zq1, zq2, zq3, zq4, zq5, zq6]
                refine wpAnyH_take (i := 45) (v := ?v329) rfl (by kernel_rfl) (by kernel_rfl) (by kernel_rfl) (fun _ _ _ h => h) (Or.inl ⟨by rfl, ?hy329⟩) hHeld ?rest329
                case hy329 =>
                  intro w' hSw
                  try dsimp only at hSw
                  go_simp
                  first | done | with_reducible rfl
                try simp only [Act.put, zq1, zq2, zq3, zq4, zq5, zq6]
                refine wpAnyH_take (i := 46) (v := ?v330) rfl (by kernel_rfl) (by kernel_rfl) (by kernel_rfl) (fun _ _ _ h => h) (Or.inl ⟨by rfl, ?hy330⟩) hHeld ?rest330
                case hy330 =>
                  intro w' hSw
                  try dsimp only at hSw
                  go_simp
                  first | done | with_reducible rfl
                try simp only [Act.put, zq1, zq2, zq3, zq4, zq5, zq6]
                refine wpAnyH_take (i := 47) (v := ?v331) rfl (by kernel_rfl) (by kernel_rfl) (by kernel_rfl) (fun _ _ _ h => h) (Or.inl ⟨by rfl, ?hy331⟩) hHeld ?rest331
                case hy331 =>
                  intro w' hSw
                  try dsimp only at hSw
                  go_simp
                  first | done | with_reducible rfl
                try simp only [Act.put, zq1, zq2, zq3, zq4, zq5, zq6]
                refine wpAnyH_take (i := 48) (v := ?v332) rfl (by kernel_rfl) (by kernel_rfl) (by kernel_rfl) (fun _ _ _ h => h) (Or.inl ⟨by rfl, ?hy332⟩) hHeld ?rest332
                case hy332 =>
                  intro w' hSw
                  try dsimp only at hSw
                  go_simp
                  first | done | with_reducible rfl
                try simp only [Act.put, zq1, zq2, zq3, zq4, zq5, zq6]
                refine wpAnyH_take (i := 49) (v := ?v333) rfl (by kernel_rfl) (by kernel_rfl) (by kernel_rfl) (fun _ _ _ h => h) (Or.inl ⟨by rfl, ?hy333⟩) hHeld ?rest333
                case hy333 =>
                  intro w' hSw
                  try dsimp only at hSw
                  go_simp
                  first | done | with_reducible rfl
                try simp only [Act.put, zq1, zq2, zq3, zq4, zq5, zq6]
                refine wpAnyH_take (i := 50) (v := ?v334) rfl (by kernel_rfl) (by kernel_rfl) (by kernel_rfl) (fun _ _ _ h => h) (Or.inl ⟨by rfl, ?hy334⟩) hHeld ?rest334
                case hy334 =>
                  intro w' hSw
                  try dsimp only at hSw
                  go_simp
                  first | done | with_reducible rfl
                try simp only [Act.put, zq1, zq2, zq3, zq4, zq5, zq6]
                refine wpAnyH_take (i := 51) (v := ?v335) rfl (by kernel_rfl) (by kernel_rfl) (by kernel_rfl) (fun _ _ _ h => h) (Or.inl ⟨by rfl, ?hy335⟩) hHeld ?rest335
                case hy335 =>
                  intro w' hSw
                  try dsimp only at hSw
                  go_simp
                  first | done | with_reducible rfl
                try simp only [Act.put, zq1, zq2, zq3, zq4, zq5, zq6]
                refine wpAnyH_take (i := 52) (v := ?v336) rfl (by kernel_rfl) (by kernel_rfl) (by kernel_rfl) (fun _ _ _ h => h) (Or.inl ⟨by rfl, ?hy336⟩) hHeld ?rest336
                case hy336 =>
                  intro w' hSw
                  try dsimp only at hSw
                  go_simp
                  first | done | with_reducible rfl
                try simp only [Act.put, zq1, zq2, zq3, zq4, zq5, zq6]
                refine wpAnyH_take (i := 53) (v := ?v337) rfl (by kernel_rfl) (by kernel_rfl) (by kernel_rfl) (fun _ _ _ h => h) (Or.inl ⟨by rfl, ?hy337⟩) hHeld ?rest337
                case hy337 =>
                  intro w' hSw
                  try dsimp only at hSw
                  go_simp
                  first | done | with_reducible rfl
                try simp only [Act.put, zq1, zq2, zq3, zq4, zq5, zq6]
                refine wpAnyH_take (i := 54) rfl (by kernel_rfl) (by kernel_rfl) (by kernel_rfl) (fun _ _ _ h => h) (yieldsIf_load_mid (by rfl) 28 (.tmp 205) (by rfl) w5.heap.size 3 (by rfl) Y.cs _ (fun w' hSw => hs ▸ hSw.2.2.2.2.2.1) Try.underlying28 rfl (size23 _)) hHeld ?_
                try simp only [Act.put, zq1, zq2, zq3, zq4, zq5, zq6]
                refine wpAnyH_take (i := 55) (v := ?v338) rfl (by kernel_rfl) (by kernel_rfl) (by kernel_rfl) (fun _ _ _ h => h) (Or.inl ⟨by rfl, ?hy338⟩) hHeld ?rest338
                case hy338 =>
                  intro w' hSw
                  try dsimp only at hSw
                  go_simp
                  first | done | with_reducible rfl
                try simp only [Act.put, zq1, zq2, zq3, zq4, zq5, zq6]
                refine wpAnyH_take (i := 56) (v := ?v339) rfl (by kernel_rfl) (by kernel_rfl) (by kernel_rfl) (fun _ _ _ h => h) (Or.inl ⟨by rfl, ?hy339⟩) hHeld ?rest339
                case hy339 =>
                  intro w' hSw
                  try dsimp only at hSw
                  go_simp
                  first | done | with_reducible rfl
                try simp only [Act.put, zq1, zq2, zq3, zq4, zq5, zq6]
                refine wpAnyH_take (i := 57) rfl (by kernel_rfl) (by kernel_rfl) (by kernel_rfl) (fun _ _ _ h => h) (yieldsIf_load_mid (by rfl) 28 (.tmp 208) (by rfl) w.heap.size 3 (by rfl) Y.cs _ (fun w' hSw => hSw.2.2.2.2.2.2.2.1) Try.underlying28 rfl (size23 _)) hHeld ?_
                try simp only [Act.put, zq1, zq2, zq3, zq4, zq5, zq6]
                refine wpAnyH_take (i := 58) rfl (by kernel_rfl) (by kernel_rfl) (by kernel_rfl) (fun _ _ _ h => h) (y_ne23 (by rfl) (.tmp 206) (.tmp 209) (by rfl) Y (by rfl) (by rfl)) hHeld ?_
                try simp only [Act.put, zq1, zq2, zq3, zq4, zq5, zq6]
                refine wpAnyH_take (i := 59) (v := ?v340) rfl (by kernel_rfl) (by kernel_rfl) (by kernel_rfl) (fun _ _ _ h => h) (Or.inl ⟨by rfl, ?hy340⟩) hHeld ?rest340
                case hy340 =>
                  intro w' hSw
                  try dsimp only at hSw
                  go_simp
                  first | done | with_reducible rfl
                try simp only [Act.put, zq1, zq2, zq3, zq4, zq5, zq6]
                refine wpAnyH_take (i := 60) (v := ?v341) rfl (by kernel_rfl) (by kernel_rfl) (by kernel_rfl) (fun _ _ _ h => h) (Or.inl ⟨by rfl, ?hy341⟩) hHeld ?rest341
                case hy341 =>
                  intro w' hSw
                  try dsimp only at hSw
                  go_simp
                  first | done | with_reducible rfl
                try simp only [Act.put, zq1, zq2, zq3, zq4, zq5, zq6]
                refine wpAnyH_take (i := 61) (v := ?v342) rfl (by kernel_rfl) (by kernel_rfl) (by kernel_rfl) (fun _ _ _ h => h) (Or.inl ⟨by rfl, ?hy342⟩) hHeld ?rest342
                case hy342 =>
                  intro w' hSw
                  try dsimp only at hSw
                  go_simp
                  first | done | with_reducible rfl
                try simp only [Act.put, zq1, zq2, zq3, zq4, zq5, zq6]
                refine wpAnyH_done (by kernel_rfl) ?_ _
                refine OnlyN.normal ?_
                exact ⟨rfl, rfl, by as_aux_lemma => kernel_rfl⟩
            · rw [Bool.not_eq_true] at hbs
              subst hbs
              refine wpAnyH_take (i := 39) (v := undef) rfl (by kernel_rfl) (by kernel_rfl) (by kernel_rfl) (fun _ _ _ h => h) (Or.inr ⟨by rfl, rfl⟩) hHeld ?_
              try simp only [Act.put, zq1, zq2, zq3, zq4, zq5, zq6]
              refine wpAnyH_take (i := 40) (v := undef) rfl (by kernel_rfl) (by kernel_rfl) (by kernel_rfl) (fun _ _ _ h => h) (Or.inr ⟨by rfl, rfl⟩) hHeld ?_
              try simp only [Act.put, zq1, zq2, zq3, zq4, zq5, zq6]
              refine wpAnyH_take (i := 41) (v := undef) rfl (by kernel_rfl) (by kernel_rfl) (by kernel_rfl) (fun _ _ _ h => h) (Or.inr ⟨by rfl, rfl⟩) hHeld ?_
              try simp only [Act.put, zq1, zq2, zq3, zq4, zq5, zq6]
              refine wpAnyH_take (i := 42) (v := undef) rfl (by kernel_rfl) (by kernel_rfl) (by kernel_rfl) (fun _ _ _ h => h) (Or.inr ⟨by rfl, rfl⟩) hHeld ?_
              try simp only [Act.put, zq1, zq2, zq3, zq4, zq5, zq6]
              refine wpAnyH_take (i := 43) (v := undef) rfl (by kernel_rfl) (by kernel_rfl) (by kernel_rfl) (fun _ _ _ h => h) (Or.inr ⟨by rfl, rfl⟩) hHeld ?_
              try simp only [Act.put, zq1, zq2, zq3, zq4, zq5, zq6]
              refine wpAnyH_take (i := 44) (v := undef) rfl (by kernel_rfl) (by kernel_rfl) (by kernel_rfl) (fun _ _ _ h => h) (Or.inr ⟨by rfl, rfl⟩) hHeld ?_
              try simp only [Act.put, zq1, zq2, zq3, zq4, zq5, zq6]
              refine wpAnyH_take (i := 45) (v := ?v343) rfl (by kernel_rfl) (by kernel_rfl) (by kernel_rfl) (fun _ _ _ h => h) (Or.inl ⟨by rfl, ?hy343⟩) hHeld ?rest343
              case hy343 =>
                intro w' hSw
                try dsimp only at hSw
                go_simp
                first | done | with_reducible rfl
              try simp only [Act.put, zq1, zq2, zq3, zq4, zq5, zq6]
              refine wpAnyH_take (i := 46) (v := ?v344) rfl (by kernel_rfl) (by kernel_rfl) (by kernel_rfl) (fun _ _ _ h => h) (Or.inl ⟨by rfl, ?hy344⟩) hHeld ?rest344
              case hy344 =>
                intro w' hSw
                try dsimp only at hSw
                go_simp
                first | done | with_reducible rfl
              try simp only [Act.put, zq1, zq2, zq3, zq4, zq5, zq6]
              refine wpAnyH_take (i := 47) (v := undef) rfl (by kernel_rfl) (by kernel_rfl) (by kernel_rfl) (fun _ _ _ h => h) (Or.inr ⟨by rfl, rfl⟩) hHeld ?_
              try simp only [Act.put, zq1, zq2, zq3, zq4, zq5, zq6]
              refine wpAnyH_take (i := 48) (v := undef) rfl (by kernel_rfl) (by kernel_rfl) (by kernel_rfl) (fun _ _ _ h => h) (Or.inr ⟨by rfl, rfl⟩) hHeld ?_
              try simp only [Act.put, zq1, zq2, zq3, zq4, zq5, zq6]
              refine wpAnyH_take (i := 49) (v := undef) rfl (by kernel_rfl) (by kernel_rfl) (by kernel_rfl) (fun _ _ _ h => h) (Or.inr ⟨by rfl, rfl⟩) hHeld ?_
              try simp only [Act.put, zq1, zq2, zq3, zq4, zq5, zq6]
              refine wpAnyH_take (i := 50) (v := undef) rfl (by kernel_rfl) (by kernel_rfl) (by kernel_rfl) (fun _ _ _ h => h) (Or.inr ⟨by rfl, rfl⟩) hHeld ?_
              try simp only [Act.put, zq1, zq2, zq3, zq4, zq5, zq6]
              refine wpAnyH_take (i := 51) (v := undef) rfl (by kernel_rfl) (by kernel_rfl) (by kernel_rfl) (fun _ _ _ h => h) (Or.inr ⟨by rfl, rfl⟩) hHeld ?_
              try simp only [Act.put, zq1, zq2, zq3, zq4, zq5, zq6]
              refine wpAnyH_take (i := 52) (v := undef) rfl (by kernel_rfl) (by kernel_rfl) (by kernel_rfl) (fun _ _ _ h => h) (Or.inr ⟨by rfl, rfl⟩) hHeld ?_
              try simp only [Act.put, zq1, zq2, zq3, zq4, zq5, zq6]
              refine wpAnyH_take (i := 53) (v := undef) rfl (by kernel_rfl) (by kernel_rfl) (by kernel_rfl) (fun _ _ _ h => h) (Or.inr ⟨by rfl, rfl⟩) hHeld ?_
              try simp only [Act.put, zq1, zq2, zq3, zq4, zq5, zq6]
              refine wpAnyH_take (i := 54) (v := undef) rfl (by kernel_rfl) (by kernel_rfl) (by kernel_rfl) (fun _ _ _ h => h) (Or.inr ⟨by rfl, rfl⟩) hHeld ?_
              try simp only [Act.put, zq1, zq2, zq3, zq4, zq5, zq6]
              refine wpAnyH_take (i := 55) (v := undef) rfl (by kernel_rfl) (by kernel_rfl) (by kernel_rfl) (fun _ _ _ h => h) (Or.inr ⟨by rfl, rfl⟩) hHeld ?_
              try simp only [Act.put, zq1, zq2, zq3, zq4, zq5, zq6]
              refine wpAnyH_take (i := 56) (v := undef) rfl (by kernel_rfl) (by kernel_rfl) (by kernel_rfl) (fun _ _ _ h => h) (Or.inr ⟨by rfl, rfl⟩) hHeld ?_
              try simp only [Act.put, zq1, zq2, zq3, zq4, zq5, zq6]
              refine wpAnyH_take (i := 57) (v := undef) rfl (by kernel_rfl) (by kernel_rfl) (by kernel_rfl) (fun _ _ _ h => h) (Or.inr ⟨by rfl, rfl⟩) hHeld ?_
              try simp only [Act.put, zq1, zq2, zq3, zq4, zq5, zq6]
              refine wpAnyH_take (i := 58) (v := undef) rfl (by kernel_rfl) (by kernel_rfl) (by kernel_rfl) (fun _ _ _ h => h) (Or.inr ⟨by rfl, rfl⟩) hHeld ?_
              try simp only [Act.put, zq1, zq2, zq3, zq4, zq5, zq6]
              refine wpAnyH_take (i := 59) (v := undef) rfl (by kernel_rfl) (by kernel_rfl) (by kernel_rfl) (fun _ _ _ h => h) (Or.inr ⟨by rfl, rfl⟩) hHeld ?_
              try simp only [Act.put, zq1, zq2, zq3, zq4, zq5, zq6]
              refine wpAnyH_take (i := 60) (v := ?v345) rfl (by kernel_rfl) (by kernel_rfl) (by kernel_rfl) (fun _ _ _ h => h) (Or.inl ⟨by rfl, ?hy345⟩) hHeld ?rest345
              case hy345 =>
                intro w' hSw
                try dsimp only at hSw
                go_simp
                first | done | with_reducible rfl
              try simp only [Act.put, zq1, zq2, zq3, zq4, zq5, zq6]
              refine wpAnyH_take (i := 61) (v := ?v346) rfl (by kernel_rfl) (by kernel_rfl) (by kernel_rfl) (fun _ _ _ h => h) (Or.inl ⟨by rfl, ?hy346⟩) hHeld ?rest346
              case hy346 =>
                intro w' hSw
                try dsimp only at hSw
                go_simp
                first | done | with_reducible rfl
              try simp only [Act.put, zq1, zq2, zq3, zq4, zq5, zq6]
              refine wpAnyH_done (by kernel_rfl) ?_ _
              refine OnlyN.normal ?_
              exact ⟨rfl, rfl, by as_aux_lemma => kernel_rfl⟩
          · as_aux_lemma =>
            rw [Bool.not_eq_true] at hbo
            subst hbo
            refine wpAnyH_take (i := 23) (v := undef) rfl (by kernel_rfl) (by kernel_rfl) (by kernel_rfl) (fun _ _ _ h => h) (Or.inr ⟨by rfl, rfl⟩) hHeld ?_
            try simp only [Act.put, zq1, zq2, zq3, zq4, zq5, zq6]
            refine wpAnyH_take (i := 24) (v := undef) rfl (by kernel_rfl) (by kernel_rfl) (by kernel_rfl) (fun _ _ _ h => h) (Or.inr ⟨by rfl, rfl⟩) hHeld ?_
            try simp only [Act.put, zq1, zq2, zq3, zq4, zq5, zq6]
            refine wpAnyH_take (i := 25) (v := undef) rfl (by kernel_rfl) (by kernel_rfl) (by kernel_rfl) (fun _ _ _ h => h) (Or.inr ⟨by rfl, rfl⟩) hHeld ?_
            try simp only [Act.put, zq1, zq2, zq3, zq4, zq5, zq6]
            refine wpAnyH_take (i := 26) (v := undef) rfl (by kernel_rfl) (by kernel_rfl) (by kernel_rfl) (fun _ _ _ h => h) (Or.inr ⟨by rfl, rfl⟩) hHeld ?_
            try simp only [Act.put, zq1, zq2, zq3, zq4, zq5, zq6]
            refine wpAnyH_take (i := 27) (v := undef) rfl (by kernel_rfl) (by kernel_rfl) (by kernel_rfl) (fun _ _ _ h => h) (Or.inr ⟨by rfl, rfl⟩) hHeld ?_
            try simp only [Act.put, zq1, zq2, zq3, zq4, zq5, zq6]
            refine wpAnyH_take (i := 28) (v := undef) rfl (by kernel_rfl) (by kernel_rfl) (by kernel_rfl) (fun _ _ _ h => h) (Or.inr ⟨by rfl, rfl⟩) hHeld ?_
            try simp only [Act.put, zq1, zq2, zq3, zq4, zq5, zq6]
            refine wpAnyH_take (i := 29) (v := undef) rfl (by kernel_rfl) (by kernel_rfl) (by kernel_rfl) (fun _ _ _ h => h) (Or.inr ⟨by rfl, rfl⟩) hHeld ?_
            try simp only [Act.put, zq1, zq2, zq3, zq4, zq5, zq6]
            refine wpAnyH_take (i := 30) (v := undef) rfl (by kernel_rfl) (by kernel_rfl) (by kernel_rfl) (fun _ _ _ h => h) (Or.inr ⟨by rfl, rfl⟩) hHeld ?_
            try simp only [Act.put, zq1, zq2, zq3, zq4, zq5, zq6]
            refine wpAnyH_take (i := 31) (v := undef) rfl (by kernel_rfl) (by kernel_rfl) (by kernel_rfl) (fun _ _ _ h => h) (Or.inr ⟨by rfl, rfl⟩) hHeld ?_
            try simp only [Act.put, zq1, zq2, zq3, zq4, zq5, zq6]
            refine wpAnyH_take (i := 32) (v := ?v347) rfl (by kernel_rfl) (by kernel_rfl) (by kernel_rfl) (fun _ _ _ h => h) (Or.inl ⟨by rfl, ?hy347⟩) hHeld ?rest347
            case hy347 =>
              intro w' hSw
              try dsimp only at hSw
              go_simp
              first | done | with_reducible rfl
            try simp only [Act.put, zq1, zq2, zq3, zq4, zq5, zq6]
            refine wpAnyH_take (i := 33) (v := ?v348) rfl (by kernel_rfl) (by kernel_rfl) (by kernel_rfl) (fun _ _ _ h => h) (Or.inl ⟨by rfl, ?hy348⟩) hHeld ?rest348
            case hy348 =>
              intro w' hSw
              try dsimp only at hSw
              go_simp
              first | done | with_reducible rfl
            try simp only [Act.put, zq1, zq2, zq3, zq4, zq5, zq6]
            refine wpAnyH_take (i := 34) (v := ?v349) rfl (by kernel_rfl) (by kernel_rfl) (by kernel_rfl) (fun _ _ _ h => h) (Or.inl ⟨by rfl, ?hy349⟩) hHeld ?rest349
            case hy349 =>
              intro w' hSw
              try dsimp only at hSw
              go_simp
              first | done | with_reducible rfl
            try simp only [Act.put, zq1, zq2, zq3, zq4, zq5, zq6]
            refine wpAnyH_take (i := 35) (v := ?v350) rfl (by kernel_rfl) (by kernel_rfl) (by kernel_rfl) (fun _ _ _ h => h) (Or.inl ⟨by rfl, ?hy350⟩) hHeld ?rest350
            case hy350 =>
              intro w' hSw
              try dsimp only at hSw
              go_simp
              first | done | with_reducible rfl
            try simp only [Act.put, zq1, zq2, zq3, zq4, zq5, zq6]
            refine wpAnyH_take (i := 36) (v := ?v351) rfl (by kernel_rfl) (by kernel_rfl) (by kernel_rfl) (fun _ _ _ h => h) (Or.inl ⟨by rfl, ?hy351⟩) hHeld ?rest351
            case hy351 =>
              intro w' hSw
              try dsimp only at hSw
              go_simp
              first | done | with_reducible rfl
            try simp only [Act.put, zq1, zq2, zq3, zq4, zq5, zq6]
            refine wpAnyH_take (i := 37) (v := ?v352) rfl (by kernel_rfl) (by kernel_rfl) (by kernel_rfl) (fun _ _ _ h => h) (Or.inl ⟨by rfl, ?hy352⟩) hHeld ?rest352
            case hy352 =>
              intro w' hSw
              try dsimp only at hSw
              go_simp
              first | done | with_reducible rfl
            try simp only [Act.put, zq1, zq2, zq3, zq4, zq5, zq6]
            refine wpAnyH_take (i := 38) (v := ?v353) rfl (by kernel_rfl) (by kernel_rfl) (by kernel_rfl) (fun _ _ _ h => h) (Or.inl ⟨by rfl, ?hy353⟩) hHeld ?rest353
            case hy353 =>
              intro w' hSw
              try dsimp only at hSw
              go_simp
              first | done | with_reducible rfl
            try simp only [Act.put, zq1, zq2, zq3, zq4, zq5, zq6]
            by_cases hbs : bs = true
            · rcases HS.out hbs with hs | ⟨hxk, hs⟩
              · subst hbs
                refine wpAnyH_take (i := 39) (v := ?v354) rfl (by kernel_rfl) (by kernel_rfl) (by kernel_rfl) (fun _ _ _ h => h) (Or.inl ⟨by rfl, ?hy354⟩) hHeld ?rest354
                case hy354 =>
                  intro w' hSw
                  try dsimp only at hSw
                  go_simp
                  first | done | with_reducible rfl
                try simp only [Act.put, zq1, zq2, zq3, zq4, zq5, zq6]
                refine wpAnyH_take (i := 40) (v := ?v355) rfl (by kernel_rfl) (by kernel_rfl) (by kernel_rfl) (fun _ _ _ h => h) (Or.inl ⟨by rfl, ?hy355⟩) hHeld ?rest355
                case hy355 =>
                  intro w' hSw
                  try dsimp only at hSw
                  go_simp
                  first | done | with_reducible rfl
                try simp only [Act.put, zq1, zq2, zq3, zq4, zq5, zq6]
                refine wpAnyH_take (i := 41) rfl (by kernel_rfl) (by kernel_rfl) (by kernel_rfl) (fun _ _ _ h => h) (yieldsIf_load_mid (by rfl) 28 (.tmp 192) (by rfl) w5.heap.size 3 (by rfl) z.cs _ (fun w' hSw => hs ▸ hSw.2.2.2.2.2.1) Try.underlying28 rfl (size23 _)) hHeld ?_
                try simp only [Act.put, zq1, zq2, zq3, zq4, zq5, zq6]
                refine wpAnyH_take (i := 42) (v := ?v356) rfl (by kernel_rfl) (by kernel_rfl) (by kernel_rfl) (fun _ _ _ h => h) (Or.inl ⟨by rfl, ?hy356⟩) hHeld ?rest356
                case hy356 =>
                  intro w' hSw
                  try dsimp only at hSw
                  go_simp
                  first | done | with_reducible rfl
                try simp only [Act.put, zq1, zq2, zq3, zq4, zq5, zq6]
                refine wpAnyH_take (i := 43) rfl (by kernel_rfl) (by kernel_rfl) (by kernel_rfl) (fun _ _ _ h => h) (yieldsIf_load_mid (by rfl) 28 (.tmp 194) (by rfl) w.heap.size 6 (by rfl) z.cs _ (fun w' hSw => hSw.2.2.2.2.2.2.2.2) Try.underlying28 rfl (size23 _)) hHeld ?_
                try simp only [Act.put, zq1, zq2, zq3, zq4, zq5, zq6]
                refine wpAnyH_take (i := 44) rfl (by kernel_rfl) (by kernel_rfl) (by kernel_rfl) (fun _ _ _ h => h) (y_ne23 (by rfl) (.tmp 193) (.tmp 195) (by rfl) z (by rfl) (by rfl)) hHeld ?_
                try simp only [Act.put, zq1, zq2, zq3, zq4, zq5, zq6]
                refine wpAnyH_take (i := 45) (v := ?v357) rfl (by kernel_rfl) (by kernel_rfl) (by kernel_rfl) (fun _ _ _ h => h) (Or.inl ⟨by rfl, ?hy357⟩) hHeld ?rest357
                case hy357 =>
                  intro w' hSw
                  try dsimp only at hSw
                  go_simp
                  first | done | with_reducible rfl
                try simp only [Act.put, zq1, zq2, zq3, zq4, zq5, zq6]
                refine wpAnyH_take (i := 46) (v := ?v358) rfl (by kernel_rfl) (by kernel_rfl) (by kernel_rfl) (fun _ _ _ h => h) (Or.inl ⟨by rfl, ?hy358⟩) hHeld ?rest358
                case hy358 =>
                  intro w' hSw
                  try dsimp only at hSw
                  go_simp
                  first | done | with_reducible rfl
                try simp only [Act.put, zq1, zq2, zq3, zq4, zq5, zq6]
                refine wpAnyH_take (i := 47) (v := undef) rfl (by kernel_rfl) (by kernel_rfl) (by kernel_rfl) (fun _ _ _ h => h) (Or.inr ⟨by rfl, rfl⟩) hHeld ?_
                try simp only [Act.put, zq1, zq2, zq3, zq4, zq5, zq6]
                refine wpAnyH_take (i := 48) (v := undef) rfl (by kernel_rfl) (by kernel_rfl) (by kernel_rfl) (fun _ _ _ h => h) (Or.inr ⟨by rfl, rfl⟩) hHeld ?_
                try simp only [Act.put, zq1, zq2, zq3, zq4, zq5, zq6]
                refine wpAnyH_take (i := 49) (v := undef) rfl (by kernel_rfl) (by kernel_rfl) (by kernel_rfl) (fun _ _ _ h => h) (Or.inr ⟨by rfl, rfl⟩) hHeld ?_
                try simp only [Act.put, zq1, zq2, zq3, zq4, zq5, zq6]
                refine wpAnyH_take (i := 50) (v := undef) rfl (by kernel_rfl) (by kernel_rfl) (by kernel_rfl) (fun _ _ _ h => h) (Or.inr ⟨by rfl, rfl⟩) hHeld ?_
                try simp only [Act.put, zq1, zq2, zq3, zq4, zq5, zq6]
                refine wpAnyH_take (i := 51) (v := undef) rfl (by kernel_rfl) (by kernel_rfl) (by kernel_rfl) (fun _ _ _ h => h) (Or.inr ⟨by rfl, rfl⟩) hHeld ?_
                try simp only [Act.put, zq1, zq2, zq3, zq4, zq5, zq6]
                refine wpAnyH_take (i := 52) (v := undef) rfl (by kernel_rfl) (by kernel_rfl) (by kernel_rfl) (fun _ _ _ h => h) (Or.inr ⟨by rfl, rfl⟩) hHeld ?_
                try simp only [Act.put, zq1, zq2, zq3, zq4, zq5, zq6]
                refine wpAnyH_take (i := 53) (v := undef) rfl (by kernel_rfl) (by kernel_rfl) (by kernel_rfl) (fun _ _ _ h => h) (Or.inr ⟨by rfl, rfl⟩) hHeld ?_
                try simp only [Act.put, zq1, zq2, zq3, zq4, zq5, zq6]
                refine wpAnyH_take (i := 54) (v := undef) rfl (by kernel_rfl) (by kernel_rfl) (by kernel_rfl) (fun _ _ _ h => h) (Or.inr ⟨by rfl, rfl⟩) hHeld ?_
                try simp only [Act.put, zq1, zq2, zq3, zq4, zq5, zq6]
                refine wpAnyH_take (i := 55) (v := undef) rfl (by kernel_rfl) (by kernel_rfl) (by kernel_rfl) (fun _ _ _ h => h) (Or.inr ⟨by rfl, rfl⟩) hHeld ?_
                try simp only [Act.put, zq1, zq2, zq3, zq4, zq5, zq6]
                refine wpAnyH_take (i := 56) (v := undef) rfl (by kernel_rfl) (by kernel_rfl) (by kernel_rfl) (fun _ _ _ h => h) (Or.inr ⟨by rfl, rfl⟩) hHeld ?_
                try simp only [Act.put, zq1, zq2, zq3, zq4, zq5, zq6]
                refine wpAnyH_take (i := 57) (v := undef) rfl (by kernel_rfl) (by kernel_rfl) (by kernel_rfl) (fun _ _ _ h => h) (Or.inr ⟨by rfl, rfl⟩) hHeld ?_
                try simp only [Act.put, zq1, zq2, zq3, zq4, zq5, zq6]
                refine wpAnyH_take (i := 58) (v := undef) rfl (by kernel_rfl) (by kernel_rfl) (by kernel_rfl) (fun _ _ _ h => h) (Or.inr ⟨by rfl, rfl⟩) hHeld ?_
                try simp only [Act.put, zq1, zq2, zq3, zq4, zq5, zq6]
                refine wpAnyH_take (i := 59) (v := undef) rfl (by kernel_rfl) (by kernel_rfl) (by kernel_rfl) (fun _ _ _ h => h) (Or.inr ⟨by rfl, rfl⟩) hHeld ?_
                try simp only [Act.put, zq1, zq2, zq3, zq4, zq5, zq6]
                refine wpAnyH_take (i := 60) (v := ?v359) rfl (by kernel_rfl) (by kernel_rfl) (by kernel_rfl) (fun _ _ _ h => h) (Or.inl ⟨by rfl, ?hy359⟩) hHeld ?rest359
                case hy359 =>
                  intro w' hSw
                  try dsimp only at hSw
                  go_simp
                  first | done | with_reducible rfl
                try simp only [Act.put, zq1, zq2, zq3, zq4, zq5, zq6]
                refine wpAnyH_take (i := 61) (v := ?v360) rfl (by kernel_rfl) (by kernel_rfl) (by kernel_rfl) (fun _ _ _ h => h) (Or.inl ⟨by rfl, ?hy360⟩) hHeld ?rest360
                case hy360 =>
                  intro w' hSw
                  try dsimp only at hSw
                  go_simp
                  first | done | with_reducible rfl
                try simp only [Act.put, zq1, zq2, zq3, zq4, zq5, zq6]
                refine wpAnyH_done (by kernel_rfl) ?_ _
                refine OnlyN.normal ?_
                exact ⟨rfl, rfl, by as_aux_lemma => kernel_rfl⟩
              · subst hbs
                obtain rfl : bY = true := BY.out.trans (decide_eq_true hxk)
                refine wpAnyH_take (i := 39) (v := ?v361) rfl (by kernel_rfl) (by kernel_rfl) (by kernel_rfl) (fun _ _ _ h => h) (Or.inl ⟨by rfl, ?hy361⟩) hHeld ?rest361
                case hy361 =>
                  intro w' hSw
                  try dsimp only at hSw
                  go_simp
                  first | done | with_reducible rfl
                try simp only [Act.put, zq1, zq2, zq3, zq4, zq5, zq6]
                refine wpAnyH_take (i := 40) (v := ?v362) rfl (by kernel_rfl) (by kernel_rfl) (by kernel_rfl) (fun _ _ _ h => h) (Or.inl ⟨by rfl, ?hy362⟩) hHeld ?rest362
                case hy362 =>
                  intro w' hSw
                  try dsimp only at hSw
                  go_simp
                  first | done | with_reducible rfl
                try simp only [Act.put, zq1, zq2, zq3, zq4, zq5, zq6]
                refine wpAnyH_take (i := 41) rfl (by kernel_rfl) (by kernel_rfl) (by kernel_rfl) (fun _ _ _ h => h) (yieldsIf_load_mid (by rfl) 28 (.tmp 192) (by rfl) w5.heap.size 3 (by rfl) Y.cs _ (fun w' hSw => hs ▸ hSw.2.2.2.2.2.1) Try.underlying28 rfl (size23 _)) hHeld ?_
                try simp only [Act.put, zq1, zq2, zq3, zq4, zq5, zq6]
                refine wpAnyH_take (i := 42) (v := ?v363) rfl (by kernel_rfl) (by kernel_rfl) (by kernel_rfl) (fun _ _ _ h => h) (Or.inl ⟨by rfl, ?hy363⟩) hHeld ?rest363
                case hy363 =>
                  intro w' hSw
                  try dsimp only at hSw
                  go_simp
                  first | done | with_reducible rfl
                try simp only [Act.put, zq1, zq2, zq3, zq4, zq5, zq6]
                refine wpAnyH_take (i := 43) rfl (by kernel_rfl) (by kernel_rfl) (by kernel_rfl) (fun _ _ _ h => h) (yieldsIf_load_mid (by rfl) 28 (.tmp 194) (by rfl) w.heap.size 6 (by rfl) z.cs _ (fun w' hSw => hSw.2.2.2.2.2.2.2.2) Try.underlying28 rfl (size23 _)) hHeld ?_
                try simp only [Act.put, zq1, zq2, zq3, zq4, zq5, zq6]
                refine wpAnyH_take (i := 44) rfl (by kernel_rfl) (by kernel_rfl) (by kernel_rfl) (fun _ _ _ h => h) (y_ne23n (by rfl) (.tmp 193) (.tmp 195) (by rfl) Y z HNE.out (by rfl) (by rfl)) hHeld ?_
                try simp only [Act.put, zq1, zq2, zq3, zq4, zq5, zq6]
                refine wpAnyH_take (i := 45) (v := ?v364) rfl (by kernel_rfl) (by kernel_rfl) (by kernel_rfl) (fun _ _ _ h => h) (Or.inl ⟨by rfl, ?hy364⟩) hHeld ?rest364
                case hy364 =>
                  intro w' hSw
                  try dsimp only at hSw
                  go_simp
                  first | done | with_reducible rfl
                try simp only [Act.put, zq1, zq2, zq3, zq4, zq5, zq6]
                refine wpAnyH_take (i := 46) (v := ?v365) rfl (by kernel_rfl) (by kernel_rfl) (by kernel_rfl) (fun _ _ _ h => h) (Or.inl ⟨by rfl, ?hy365⟩) hHeld ?rest365
                case hy365 =>
                  intro w' hSw
                  try dsimp only at hSw
                  go_simp
                  first | done | with_reducible rfl
                try simp only [Act.put, zq1, zq2, zq3, zq4, zq5, zq6]
                refine wpAnyH_take (i := 47) (v := ?v366) rfl (by kernel_rfl) (by kernel_rfl) (by kernel_rfl) (fun _ _ _ h => h) (Or.inl ⟨by rfl, ?hy366⟩) hHeld ?rest366
                case hy366 =>
                  intro w' hSw
                  try dsimp only at hSw
                  go_simp
                  first | done | with_reducible rfl
                try simp only [Act.put, zq1, zq2, zq3, zq4, zq5, zq6]
                refine wpAnyH_take (i := 48) (v := ?v367) rfl (by kernel_rfl) (by kernel_rfl) (by kernel_rfl) (fun _ _ _ h => h) (Or.inl ⟨by rfl, ?hy367⟩) hHeld ?rest367
                case hy367 =>
                  intro w' hSw
                  try dsimp only at hSw
                  go_simp
                  first | done | with_reducible rfl
                try simp only [Act.put, zq1, zq2, zq3, zq4, zq5, zq6]
                refine wpAnyH_take (i := 49) (v := ?v368) rfl (by kernel_rfl) (by kernel_rfl) (by kernel_rfl) (fun _ _ _ h => h) (Or.inl ⟨by rfl, ?hy368⟩) hHeld ?rest368
                case hy368 =>
                  intro w' hSw
                  try dsimp only at hSw
                  go_simp
                  first | done | with_reducible rfl
                try simp only [Act.put, zq1, zq2, zq3, zq4, zq5, zq6]
                refine wpAnyH_take (i := 50) (v := ?v369) rfl (by kernel_rfl) (by kernel_rfl) (by kernel_rfl) (fun _ _ _ h => h) (Or.inl ⟨by rfl, ?hy369⟩) hHeld ?rest369
                case hy369 =>
                  intro w' hSw
                  try dsimp only at hSw
                  go_simp
                  first | done | with_reducible rfl
                try simp only [Act.put, zq1, zq2, zq3, zq4, zq5, zq6]
                refine wpAnyH_take (i := 51) (v := ?v370) rfl (by kernel_rfl) (by kernel_rfl) (by kernel_rfl) (fun _ _ _ h => h) (Or.inl ⟨by rfl, ?hy370⟩) hHeld ?rest370
                case hy370 =>
                  intro w' hSw
                  try dsimp only at hSw
                  go_simp
                  first | done | with_reducible rfl
                try simp only [Act.put, zq1, zq2, zq3, zq4, zq5, zq6]
                refine wpAnyH_take (i := 52) (v := ?v371) rfl (by kernel_rfl) (by kernel_rfl) (by kernel_rfl) (fun _ _ _ h => h) (Or.inl ⟨by rfl, ?hy371⟩) hHeld ?rest371
                case hy371 =>
                  intro w' hSw
                  try dsimp only at hSw
                  go_simp
                  first | done | with_reducible rfl
                try simp only [Act.put, zq1, zq2, zq3, zq4, zq5, zq6]
                refine wpAnyH_take (i := 53) (v := ?v372) rfl (by kernel_rfl) (by kernel_rfl) (by kernel_rfl) (fun _ _ _ h => h) (Or.inl ⟨by rfl, ?hy372⟩) hHeld ?rest372
                case hy372 =>
                  intro w' hSw
                  try dsimp only at hSw
                  go_simp
                  first | done | with_reducible rfl
                try simp only [Act.put, zq1, zq2, zq3, zq4, zq5, zq6]
                refine wpAnyH_take (i := 54) rfl (by kernel_rfl) (by kernel_rfl) (by kernel_rfl) (fun _ _ _ h => h) (yieldsIf_load_mid (by rfl) 28 (.tmp 205) (by rfl) w5.heap.size 3 (by rfl) Y.cs _ (fun w' hSw => hs ▸ hSw.2.2.2.2.2.1) Try.underlying28 rfl (size23 _)) hHeld ?_
                try simp only [Act.put, zq1, zq2, zq3, zq4, zq5, zq6]
                refine wpAnyH_take (i := 55) (v := ?v373) rfl (by kernel_rfl) (by kernel_rfl) (by kernel_rfl) (fun _ _ _ h => h) (Or.inl ⟨by rfl, ?hy373⟩) hHeld ?rest373
                case hy373 =>
                  intro w' hSw
                  try dsimp only at hSw
                  go_simp
                  first | done | with_reducible rfl
                try simp only [Act.put, zq1, zq2, zq3, zq4, zq5, zq6]
                refine wpAnyH_take (i := 56) (v := ?v374) rfl (by kernel_rfl) (by kernel_rfl) (by kernel_rfl) (fun _ _ _ h => h) (Or.inl ⟨by rfl, ?hy374⟩) hHeld ?rest374
                case hy374 =>
                  intro w' hSw
                  try dsimp only at hSw
                  go_simp
                  first | done | with_reducible rfl
                try simp only [Act.put, zq1, zq2, zq3, zq4, zq5, zq6]
                refine wpAnyH_take (i := 57) rfl (by kernel_rfl) (by kernel_rfl) (by kernel_rfl) (fun _ _ _ h => h) (yieldsIf_load_mid (by rfl) 28 (.tmp 208) (by rfl) w.heap.size 3 (by rfl) Y.cs _ (fun w' hSw => hSw.2.2.2.2.2.2.2.1) Try.underlying28 rfl (size23 _)) hHeld ?_
                try simp only [Act.put, zq1, zq2, zq3, zq4, zq5, zq6]
                refine wpAnyH_take (i := 58) rfl (by kernel_rfl) (by kernel_rfl) (by kernel_rfl) (fun _ _ _ h => h) (y_ne23 (by rfl) (.tmp 206) (.tmp 209) (by rfl) Y (by rfl) (by rfl)) hHeld ?_
                try simp only [Act.put, zq1, zq2, zq3, zq4, zq5, zq6]
                refine wpAnyH_take (i := 59) (v := ?v375) rfl (by kernel_rfl) (by kernel_rfl) (by kernel_rfl) (fun _ _ _ h => h) (Or.inl ⟨by rfl, ?hy375⟩) hHeld ?rest375
                case hy375 =>
                  intro w' hSw
                  try dsimp only at hSw
                  go_simp
                  first | done | with_reducible rfl
                try simp only [Act.put, zq1, zq2, zq3, zq4, zq5, zq6]
                refine wpAnyH_take (i := 60) (v := ?v376) rfl (by kernel_rfl) (by kernel_rfl) (by kernel_rfl) (fun _ _ _ h => h) (Or.inl ⟨by rfl, ?hy376⟩) hHeld ?rest376
                case hy376 =>
                  intro w' hSw
                  try dsimp only at hSw
                  go_simp
                  first | done | with_reducible rfl
                try simp only [Act.put, zq1, zq2, zq3, zq4, zq5, zq6]
                refine wpAnyH_take (i := 61) (v := ?v377) rfl (by kernel_rfl) (by kernel_rfl) (by kernel_rfl) (fun _ _ _ h => h) (Or.inl ⟨by rfl, ?hy377⟩) hHeld ?rest377
                case hy377 =>
                  intro w' hSw
                  try dsimp only at hSw
                  go_simp
                  first | done | with_reducible rfl
                try simp only [Act.put, zq1, zq2, zq3, zq4, zq5, zq6]
                refine wpAnyH_done (by kernel_rfl) ?_ _
                refine OnlyN.normal ?_
                exact ⟨rfl, rfl, by as_aux_lemma => kernel_rfl⟩
            · rw [Bool.not_eq_true] at hbs
              subst hbs
              refine wpAnyH_take (i := 39) (v := undef) rfl (by kernel_rfl) (by kernel_rfl) (by kernel_rfl) (fun _ _ _ h => h) (Or.inr ⟨by rfl, rfl⟩) hHeld ?_
              try simp only [Act.put, zq1, zq2, zq3, zq4, zq5, zq6]
              refine wpAnyH_take (i := 40) (v := undef) rfl (by kernel_rfl) (by kernel_rfl) (by kernel_rfl) (fun _ _ _ h => h) (Or.inr ⟨by rfl, rfl⟩) hHeld ?_
              try simp only [Act.put, zq1, zq2, zq3, zq4, zq5, zq6]
              refine wpAnyH_take (i := 41) (v := undef) rfl (by kernel_rfl) (by kernel_rfl) (by kernel_rfl) (fun _ _ _ h => h) (Or.inr ⟨by rfl, rfl⟩) hHeld ?_
              try simp only [Act.put, zq1, zq2, zq3, zq4, zq5, zq6]
              refine wpAnyH_take (i := 42) (v := undef) rfl (by kernel_rfl) (by kernel_rfl) (by kernel_rfl) (fun _ _ _ h => h) (Or.inr ⟨by rfl, rfl⟩) hHeld ?_
              try simp only [Act.put, zq1, zq2, zq3, zq4, zq5, zq6]
              refine wpAnyH_take (i := 43) (v := undef) rfl (by kernel_rfl) (by kernel_rfl) (by kernel_rfl) (fun _ _ _ h => h) (Or.inr ⟨by rfl, rfl⟩) hHeld ?_
              try simp only [Act.put, zq1, zq2, zq3, zq4, zq5, zq6]
              refine wpAnyH_take (i := 44) (v := undef) rfl (by kernel_rfl) (by kernel_rfl) (by kernel_rfl) (fun _ _ _ h => h) (Or.inr ⟨by rfl, rfl⟩) hHeld ?_
              try simp only [Act.put, zq1, zq2, zq3, zq4, zq5, zq6]
              refine wpAnyH_take (i := 45) (v := ?v378) rfl (by kernel_rfl) (by kernel_rfl) (by kernel_rfl) (fun _ _ _ h => h) (Or.inl ⟨by rfl, ?hy378⟩) hHeld ?rest378
              case hy378 =>
                intro w' hSw
                try dsimp only at hSw
                go_simp
                first | done | with_reducible rfl
              try simp only [Act.put, zq1, zq2, zq3, zq4, zq5, zq6]
              refine wpAnyH_take (i := 46) (v := ?v379) rfl (by kernel_rfl) (by kernel_rfl) (by kernel_rfl) (fun _ _ _ h => h) (Or.inl ⟨by rfl, ?hy379⟩) hHeld ?rest379
              case hy379 =>
                intro w' hSw
                try dsimp only at hSw
                go_simp
                first | done | with_reducible rfl
              try simp only [Act.put, zq1, zq2, zq3, zq4, zq5, zq6]
              refine wpAnyH_take (i := 47) (v := undef) rfl (by kernel_rfl) (by kernel_rfl) (by kernel_rfl) (fun _ _ _ h => h) (Or.inr ⟨by rfl, rfl⟩) hHeld ?_
              try simp only [Act.put, zq1, zq2, zq3, zq4, zq5, zq6]
              refine wpAnyH_take (i := 48) (v := undef) rfl (by kernel_rfl) (by kernel_rfl) (by kernel_rfl) (fun _ _ _ h => h) (Or.inr ⟨by rfl, rfl⟩) hHeld ?_
              try simp only [Act.put, zq1, zq2, zq3, zq4, zq5, zq6]
              refine wpAnyH_take (i := 49) (v := undef) rfl (by kernel_rfl) (by kernel_rfl) (by kernel_rfl) (fun _ _ _ h => h) (Or.inr ⟨by rfl, rfl⟩) hHeld ?_
              try simp only [Act.put, zq1, zq2, zq3, zq4, zq5, zq6]
              refine wpAnyH_take (i := 50) (v := undef) rfl (by kernel_rfl) (by kernel_rfl) (by kernel_rfl) (fun _ _ _ h => h) (Or.inr ⟨by rfl, rfl⟩) hHeld ?_
              try simp only [Act.put, zq1, zq2, zq3, zq4, zq5, zq6]
              refine wpAnyH_take (i := 51) (v := undef) rfl (by kernel_rfl) (by kernel_rfl) (by kernel_rfl) (fun _ _ _ h => h) (Or.inr ⟨by rfl, rfl⟩) hHeld ?_
              try simp only [Act.put, zq1, zq2, zq3, zq4, zq5, zq6]
              refine wpAnyH_take (i := 52) (v := undef) rfl (by kernel_rfl) (by kernel_rfl) (by kernel_rfl) (fun _ _ _ h => h) (Or.inr ⟨by rfl, rfl⟩) hHeld ?_
              try simp only [Act.put, zq1, zq2, zq3, zq4, zq5, zq6]
              refine wpAnyH_take (i := 53) (v := undef) rfl (by kernel_rfl) (by kernel_rfl) (by kernel_rfl) (fun _ _ _ h => h) (Or.inr ⟨by rfl, rfl⟩) hHeld ?_
              try simp only [Act.put, zq1, zq2, zq3, zq4, zq5, zq6]
              refine wpAnyH_take (i := 54) (v := undef) rfl (by kernel_rfl) (by kernel_rfl) (by kernel_rfl) (fun _ _ _ h => h) (Or.inr ⟨by rfl, rfl⟩) hHeld ?_
              try simp only [Act.put, zq1, zq2, zq3, zq4, zq5, zq6]
              refine wpAnyH_take (i := 55) (v := undef) rfl (by kernel_rfl) (by kernel_rfl) (by kernel_rfl) (fun _ _ _ h => h) (Or.inr ⟨by rfl, rfl⟩) hHeld ?_
              try simp only [Act.put, zq1, zq2, zq3, zq4, zq5, zq6]
              refine wpAnyH_take (i := 56) (v := undef) rfl (by kernel_rfl) (by kernel_rfl) (by kernel_rfl) (fun _ _ _ h => h) (Or.inr ⟨by rfl, rfl⟩) hHeld ?_
              try simp only [Act.put, zq1, zq2, zq3, zq4, zq5, zq6]
              refine wpAnyH_take (i := 57) (v := undef) rfl (by kernel_rfl) (by kernel_rfl) (by kernel_rfl) (fun _ _ _ h => h) (Or.inr ⟨by rfl, rfl⟩) hHeld ?_
              try simp only [Act.put, zq1, zq2, zq3, zq4, zq5, zq6]
              refine wpAnyH_take (i := 58) (v := undef) rfl (by kernel_rfl) (by kernel_rfl) (by kernel_rfl) (fun _ _ _ h => h) (Or.inr ⟨by rfl, rfl⟩) hHeld ?_
              try simp only [Act.put, zq1, zq2, zq3, zq4, zq5, zq6]
              refine wpAnyH_take (i := 59) (v := undef) rfl (by kernel_rfl) (by kernel_rfl) (by kernel_rfl) (fun _ _ _ h => h) (Or.inr ⟨by rfl, rfl⟩) hHeld ?_
              try simp only [Act.put, zq1, zq2, zq3, zq4, zq5, zq6]
              refine wpAnyH_take (i := 60) (v := ?v380) rfl (by kernel_rfl) (by kernel_rfl) (by kernel_rfl) (fun _ _ _ h => h) (Or.inl ⟨by rfl, ?hy380⟩) hHeld ?rest380
              case hy380 =>
                intro w' hSw
                try dsimp only at hSw
                go_simp
                first | done | with_reducible rfl
              try simp only [Act.put, zq1, zq2, zq3, zq4, zq5, zq6]
              refine wpAnyH_take (i := 61) (v := ?v381) rfl (by kernel_rfl) (by kernel_rfl) (by kernel_rfl) (fun _ _ _ h => h) (Or.inl ⟨by rfl, ?hy381⟩) hHeld ?rest381
              case hy381 =>
                intro w' hSw
                try dsimp only at hSw
                go_simp
                first | done | with_reducible rfl
              try simp only [Act.put, zq1, zq2, zq3, zq4, zq5, zq6]
              refine wpAnyH_done (by kernel_rfl) ?_ _
              refine OnlyN.normal ?_
              exact ⟨rfl, rfl, by as_aux_lemma => kernel_rfl⟩
        case rest => as_aux_lemma =>
          intro v
          simp only [Act.put, zq4, zq5, zq6]
          go_wp2_with (go_at_call 24; refine (un_flush (n := 1) (u := z) (show Un w.heap.size w _ [(w5.heap.size + 1, 50, #[.bool bx, .bool bs]), (w5.heap.size, 49, (cs2 N0 N1).toArray), (w.heap.size + 5, 50, #[.bool bx, .bool bY]), (w.heap.size, 59, (c9 X Y z)), (w.heap.size + 1, 62, #[.slice A c.keep.length cap, .int .i64 c.torn, .int .i64 c.bytes]), (w.heap.size + 2, 65, #[.int .i64 f, .int .u32 (b : Int)])] zz (twoL X Y) (if z.ok then [(1, hdB z)] else []) 5 from by rw [if_pos ZK.out]; exact U7.out) (by decide)).mono ?_; rintro e w8 ⟨rfl, hu⟩; have U8 := Lib.hid hu; clear hu)
          obtain ⟨D, hv, d1, d2, d3, d4, d5⟩ := U8.out.vn 1 f b
          have V0 := Lib.hid hv
          have D1 := Lib.hid d1
          have D2 := Lib.hid d2
          have D3 := Lib.hid d3
          have D4 := Lib.hid d4
          have D5 := Lib.hid d5
          clear hv d1 d2 d3 d4 d5 U7 U8 HN HS
          go_loopw [22, 23] (fun tv nv wr => ∃ n : Nat, n ≤ 32 ∧ nv = .int .i64 (n : Int) ∧ tv = .bool (decide (numT f b n ≠ 0)) ∧ Vn w.heap.size w wr [(w5.heap.size + 1, 50, #[.bool bx, .bool bs]), (w5.heap.size, 49, (cs2 N0 N1).toArray), (w.heap.size + 5, 50, #[.bool bx, .bool bY]), (w.heap.size, 59, (c9 X Y z)), (w.heap.size + 1, 62, #[.slice A c.keep.length cap, .int .i64 c.torn, .int .i64 c.bytes]), (w.heap.size + 2, 65, #[.int .i64 f, .int .u32 (b : Int)])] D 1 f b n) (fun _ nv _ => 32 - (intOf nv).toNat)
          case atStart => exact ⟨0, by omega, rfl, rfl, V0.out⟩
          case round =>
            obtain ⟨n, hn, rfl, rfl, hv⟩ := hrel
            clear V0
            have VV := Lib.hid hv
            clear hv
            by_cases hlt : n < 32
            · as_aux_lemma =>
              have i1 : (n : Int) < 32 := by omega
              have c0 := ((VV.out.at_ 5 rfl).cell 0).trans (show _ = some (.int .i64 f) from rfl)
              have c1 := ((VV.out.at_ 5 rfl).cell 1).trans (show _ = some (.int .u32 (b : Int)) from rfl)
              by_cases f0 : 0 ≤ f
              · have e0 : decide (0 ≤ f) = true := decide_eq_true f0
                by_cases f1 : f < 4096
                · have mw : IntKind.i64.wrap (f + (n : Int)) = f + (n : Int) := IntWalk.i64_in _ (by omega)
                  have e1 : decide (f < 4096) = true := decide_eq_true f1
                  by_cases f2 : f + (n : Int) < 4096
                  · have e2 : decide (f + (n : Int) < 4096) = true := decide_eq_true f2
                    by_cases f3 : b / 2 ^ n % 2 = 1
                    · have eb : (((b : Int) / 2 ^ n).tmod 2 == 1) = true := (bit_eq b n).trans (decide_eq_true f3)
                      have HH := Lib.hid (show hitT f b n = true by simp [hitT, f0, f1, f2, f3])
                      go_wp2_with (go_at_call 26; refine (vn_spoilq VV.out D3.out 1 rfl (by rw [D1.out]; have := Z1.out; omega) HH.out).mono ?_; rintro e w9 ⟨rfl, hv⟩; have V9 := Lib.hid hv; clear hv c0 c1)
                      go_roundw
                      case rel => exact ⟨n + 1, by omega, by go_num, by rw [decide_eq_true (numT_hit HH.out)], V9.out⟩
                      case measure => simp [intOf]; omega
                    · have eb : (((b : Int) / 2 ^ n).tmod 2 == 1) = false := (bit_eq b n).trans (decide_eq_false f3)
                      have HH := Lib.hid (show hitT f b n = false by simp [hitT, f3])
                      go_wp2_with fail
                      go_roundw
                      case rel => exact ⟨n + 1, by omega, by go_num, by rw [numT_miss HH.out], VV.out.skip HH.out⟩
                      case measure => simp [intOf]; omega
                  · have e2 : decide (f + (n : Int) < 4096) = false := decide_eq_false f2
                    have HH := Lib.hid (show hitT f b n = false by simp [hitT, f2])
                    go_wp2_with fail
                    go_roundw
                    case rel => exact ⟨n + 1, by omega, by go_num, by rw [numT_miss HH.out], VV.out.skip HH.out⟩
                    case measure => simp [intOf]; omega
                · have e1 : decide (f < 4096) = false := decide_eq_false f1
                  have HH := Lib.hid (show hitT f b n = false by simp [hitT, f1])
                  go_wp2_with fail
                  go_roundw
                  case rel => exact ⟨n + 1, by omega, by go_num, by rw [numT_miss HH.out], VV.out.skip HH.out⟩
                  case measure => simp [intOf]; omega
              · have e0 : decide (0 ≤ f) = false := decide_eq_false f0
                have HH := Lib.hid (show hitT f b n = false by simp [hitT, f0])
                go_wp2_with fail
                go_roundw
                case rel => exact ⟨n + 1, by omega, by go_num, by rw [numT_miss HH.out], VV.out.skip HH.out⟩
                case measure => simp [intOf]; omega
            · as_aux_lemma =>
              obtain rfl : n = 32 := by omega
              have U9 := Lib.hid (VV.out.un (zz := zz) (m := 6) D1.out D3.out D4.out D5.out)
              have ST := Lib.hid (seen_turned (sl := 1) (o := 0) (f := f) (b := b) (by decide) (twoL_0 X Y) BX.out ZK.out ZE.out ZZ.out XE.out XZ.out D2.out)
              have UB := Lib.hid (un_both U9.out Z1.out.1 (by decide))
              obtain ⟨tn, htn⟩ : ∃ tn, decide (numT f b 32 ≠ 0) = tn := ⟨_, rfl⟩
              have HT1 := Lib.hid (show gotB zz ((dkT D 1 f b 32).lasts 1) = !tn by rw [ST.out.2.1, ← htn]; simp)
              obtain ⟨M0, M1, hM0, hM1⟩ : ∃ M0 M1, gotH zz ((dkT D 1 f b 32).lasts 0) = M0 ∧ gotH zz ((dkT D 1 f b 32).lasts 1) = M1 := ⟨_, _, rfl, rfl⟩
              have HM := Lib.hid (show tn = false → M1 = z from fun h => hM1 ▸ ST.out.2.2 (by rw [h] at htn; simpa using htn))
              replace UB := Lib.hid (by have h := UB.out; rw [hM0, hM1, HT1.out, ST.out.1] at h; exact h)
              rw [htn]
              clear htn hM0 hM1 HT1 ST VV D1 D2 D3 D4 D5
              go_wp2_with (first
                | (go_at_call 20; refine UB.out.mono ?_; clear UB; rintro e w9 ⟨rfl, hu⟩; have U10 := Lib.hid hu; clear hu U9)
                | (refine wpList_store_g8 rfl 49 (.tmp 18) (.tmp 255) rfl (g := w5.heap.size) (by rfl) (cs2 M0 M1).toArray (cs2 N0 N1).toArray 49 (by rfl) (U10.out.at_ 1 rfl) (by kernel_rfl) rfl (cs2_one _ _) ?_; intro w10 j f6; have U11 := Lib.hid (U10.out.set 1 rfl (by have := S5.out; omega) f6 j); clear j f6 U10)
                | (refine wpList_store_g8 rfl 50 (.tmp 19) (.tmp 256) rfl (g := w5.heap.size + 1) (by rfl) #[.bool bx, .bool (!tn)] #[.bool bx, .bool bs] 50 (by rfl) (U11.out.at_ 0 rfl) (by kernel_rfl) rfl (by simp [Value.oneCell']) ?_; intro w11 j f6; have UU := Lib.hid (show Un w.heap.size w w11 [(w5.heap.size + 1, 50, #[.bool bx, .bool (!tn)]), (w5.heap.size, 49, (cs2 M0 M1).toArray), (w.heap.size + 5, 50, #[.bool bx, .bool bY]), (w.heap.size, 59, (c9 X Y z)), (w.heap.size + 1, 62, #[.slice A c.keep.length cap, .int .i64 c.torn, .int .i64 c.bytes]), (w.heap.size + 2, 65, #[.int .i64 f, .int .u32 (b : Int)])] zz (dkT D 1 f b 32).lasts [] 8 from U11.out.set 0 rfl (by have := S5.out; omega) f6 j); clear j f6 U11))
              replace UU := Lib.hid UU.out.drew
              cases tn with
              | true =>
                refine wp_region_only (S := fun w' => w'.cell? ⟨w.heap.size + 5, 0, none⟩ = some (.bool bx) ∧ w'.cell? ⟨w.heap.size + 5, 1, none⟩ = some (.bool bY) ∧ w'.cell? ⟨w5.heap.size + 1, 0, none⟩ = some (.bool bx) ∧ w'.cell? ⟨w5.heap.size + 1, 1, none⟩ = some (.bool false) ∧ w'.rangeAt w5.heap.size 3 M1.cs ∧ w'.rangeAt w.heap.size 6 z.cs) (by kernel_rfl) ⟨((UU.out.at_ 2 rfl).cell 0).trans rfl, ((UU.out.at_ 2 rfl).cell 1).trans rfl, ((UU.out.at_ 0 rfl).cell 0).trans rfl, ((UU.out.at_ 0 rfl).cell 1).trans rfl, (rng6 (UU.out.at_ 1 rfl)).2, (rng9 (UU.out.at_ 3 rfl)).2.2⟩ (fun hHeld => ?_)
                refine wpAnyH_take (i := 0) (v := ?v382) rfl (by kernel_rfl) (by kernel_rfl) (by kernel_rfl) (fun _ _ _ h => h) (Or.inl ⟨by rfl, ?hy382⟩) hHeld ?rest382
                case hy382 =>
                  intro w' hSw
                  try dsimp only at hSw
                  go_simp
                  first | done | with_reducible rfl
                try simp only [Act.put, zq1, zq3, zq4, zq5, zq6]
                refine wpAnyH_take (i := 2) (v := ?v383) rfl (by kernel_rfl) (by kernel_rfl) (by kernel_rfl) (fun _ _ _ h => h) (Or.inl ⟨by rfl, ?hy383⟩) hHeld ?rest383
                case hy383 =>
                  intro w' hSw
                  try dsimp only at hSw
                  go_simp
                  first | done | with_reducible rfl
                try simp only [Act.put, zq1, zq2, zq3, zq4, zq5, zq6]
                refine wpAnyH_ready (rs := [1]) (by kernel_rfl) (by simp) ?_
                refine AllReadyH.cons (by rfl) (fun K hK => ?_) AllReadyH.nil
                go_simp
                refine (num8_any _ _).mono ?_
                rintro e y1 ⟨rfl, rfl⟩
                clear hHeld
                refine hK.out _ _ ⟨((UU.out.at_ 2 rfl).cell 0).trans rfl, ((UU.out.at_ 2 rfl).cell 1).trans rfl, ((UU.out.at_ 0 rfl).cell 0).trans rfl, ((UU.out.at_ 0 rfl).cell 1).trans rfl, (rng6 (UU.out.at_ 1 rfl)).2, (rng9 (UU.out.at_ 3 rfl)).2.2⟩ (fun hHeld => ?_)
                clear hK K
                try simp only [Act.put, zq1, zq2, zq3, zq4, zq5, zq6]
                refine wpAnyH_ready (rs := [3]) (by kernel_rfl) (by simp) ?_
                refine AllReadyH.cons (by rfl) (fun K hK => ?_) AllReadyH.nil
                go_simp
                refine (num8_any _ _).mono ?_
                rintro e y1 ⟨rfl, rfl⟩
                clear hHeld
                refine hK.out _ _ ⟨((UU.out.at_ 2 rfl).cell 0).trans rfl, ((UU.out.at_ 2 rfl).cell 1).trans rfl, ((UU.out.at_ 0 rfl).cell 0).trans rfl, ((UU.out.at_ 0 rfl).cell 1).trans rfl, (rng6 (UU.out.at_ 1 rfl)).2, (rng9 (UU.out.at_ 3 rfl)).2.2⟩ (fun hHeld => ?_)
                clear hK K
                try simp only [Act.put, zq1, zq2, zq3, zq4, zq5, zq6]
                refine wpAnyH_take (i := 4) (v := ?v384) rfl (by kernel_rfl) (by kernel_rfl) (by kernel_rfl) (fun _ _ _ h => h) (Or.inl ⟨by rfl, ?hy384⟩) hHeld ?rest384
                case hy384 =>
                  intro w' hSw
                  try dsimp only at hSw
                  go_simp
                  first | done | with_reducible rfl
                try simp only [Act.put, zq1, zq2, zq3, zq4, zq5, zq6]
                refine wpAnyH_take (i := 5) (v := ?v385) rfl (by kernel_rfl) (by kernel_rfl) (by kernel_rfl) (fun _ _ _ h => h) (Or.inl ⟨by rfl, ?hy385⟩) hHeld ?rest385
                case hy385 =>
                  intro w' hSw
                  try dsimp only at hSw
                  go_simp
                  first | done | with_reducible rfl
                try simp only [Act.put, zq1, zq2, zq3, zq4, zq5, zq6]
                refine wpAnyH_take (i := 6) (v := ?v386) rfl (by kernel_rfl) (by kernel_rfl) (by kernel_rfl) (fun _ _ _ h => h) (Or.inl ⟨by rfl, ?hy386⟩) hHeld ?rest386
                case hy386 =>
                  intro w' hSw
                  try dsimp only at hSw
                  go_simp
                  first | done | with_reducible rfl
                try simp only [Act.put, zq1, zq2, zq3, zq4, zq5, zq6]
                refine wpAnyH_take (i := 7) (v := ?v387) rfl (by kernel_rfl) (by kernel_rfl) (by kernel_rfl) (fun _ _ _ h => h) (Or.inl ⟨by rfl, ?hy387⟩) hHeld ?rest387
                case hy387 =>
                  intro w' hSw
                  try dsimp only at hSw
                  go_simp
                  first | done | with_reducible rfl
                try simp only [Act.put, zq1, zq2, zq3, zq4, zq5, zq6]
                refine wpAnyH_take (i := 8) (v := ?v388) rfl (by kernel_rfl) (by kernel_rfl) (by kernel_rfl) (fun _ _ _ h => h) (Or.inl ⟨by rfl, ?hy388⟩) hHeld ?rest388
                case hy388 =>
                  intro w' hSw
                  try dsimp only at hSw
                  go_simp
                  first | done | with_reducible rfl
                try simp only [Act.put, zq1, zq2, zq3, zq4, zq5, zq6]
                refine wpAnyH_take (i := 9) (v := ?v389) rfl (by kernel_rfl) (by kernel_rfl) (by kernel_rfl) (fun _ _ _ h => h) (Or.inl ⟨by rfl, ?hy389⟩) hHeld ?rest389
                case hy389 =>
                  intro w' hSw
                  try dsimp only at hSw
                  go_simp
                  first | done | with_reducible rfl
                try simp only [Act.put, zq1, zq2, zq3, zq4, zq5, zq6]
                refine wpAnyH_take (i := 10) (v := ?v390) rfl (by kernel_rfl) (by kernel_rfl) (by kernel_rfl) (fun _ _ _ h => h) (Or.inl ⟨by rfl, ?hy390⟩) hHeld ?rest390
                case hy390 =>
                  intro w' hSw
                  try dsimp only at hSw
                  go_simp
                  first | done | with_reducible rfl
                try simp only [Act.put, zq1, zq2, zq3, zq4, zq5, zq6]
                refine wpAnyH_take (i := 11) (v := ?v391) rfl (by kernel_rfl) (by kernel_rfl) (by kernel_rfl) (fun _ _ _ h => h) (Or.inl ⟨by rfl, ?hy391⟩) hHeld ?rest391
                case hy391 =>
                  intro w' hSw
                  try dsimp only at hSw
                  go_simp
                  first | done | with_reducible rfl
                try simp only [Act.put, zq1, zq2, zq3, zq4, zq5, zq6]
                refine wpAnyH_take (i := 12) (v := ?v392) rfl (by kernel_rfl) (by kernel_rfl) (by kernel_rfl) (fun _ _ _ h => h) (Or.inl ⟨by rfl, ?hy392⟩) hHeld ?rest392
                case hy392 =>
                  intro w' hSw
                  try dsimp only at hSw
                  go_simp
                  first | done | with_reducible rfl
                try simp only [Act.put, zq1, zq2, zq3, zq4, zq5, zq6]
                refine wpAnyH_take (i := 13) (v := ?v393) rfl (by kernel_rfl) (by kernel_rfl) (by kernel_rfl) (fun _ _ _ h => h) (Or.inl ⟨by rfl, ?hy393⟩) hHeld ?rest393
                case hy393 =>
                  intro w' hSw
                  try dsimp only at hSw
                  go_simp
                  first | done | with_reducible rfl
                try simp only [Act.put, zq1, zq2, zq3, zq4, zq5, zq6]
                refine wpAnyH_take (i := 14) (v := ?v394) rfl (by kernel_rfl) (by kernel_rfl) (by kernel_rfl) (fun _ _ _ h => h) (Or.inl ⟨by rfl, ?hy394⟩) hHeld ?rest394
                case hy394 =>
                  intro w' hSw
                  try dsimp only at hSw
                  go_simp
                  first | done | with_reducible rfl
                try simp only [Act.put, zq1, zq2, zq3, zq4, zq5, zq6]
                refine wpAnyH_take (i := 15) (v := ?v395) rfl (by kernel_rfl) (by kernel_rfl) (by kernel_rfl) (fun _ _ _ h => h) (Or.inl ⟨by rfl, ?hy395⟩) hHeld ?rest395
                case hy395 =>
                  intro w' hSw
                  try dsimp only at hSw
                  go_simp
                  first | done | with_reducible rfl
                try simp only [Act.put, zq1, zq2, zq3, zq4, zq5, zq6]
                refine wpAnyH_take (i := 16) (v := undef) rfl (by kernel_rfl) (by kernel_rfl) (by kernel_rfl) (fun _ _ _ h => h) (Or.inr ⟨by rfl, rfl⟩) hHeld ?_
                try simp only [Act.put, zq1, zq2, zq3, zq4, zq5, zq6]
                refine wpAnyH_take (i := 17) (v := undef) rfl (by kernel_rfl) (by kernel_rfl) (by kernel_rfl) (fun _ _ _ h => h) (Or.inr ⟨by rfl, rfl⟩) hHeld ?_
                try simp only [Act.put, zq1, zq2, zq3, zq4, zq5, zq6]
                refine wpAnyH_take (i := 18) (v := undef) rfl (by kernel_rfl) (by kernel_rfl) (by kernel_rfl) (fun _ _ _ h => h) (Or.inr ⟨by rfl, rfl⟩) hHeld ?_
                try simp only [Act.put, zq1, zq2, zq3, zq4, zq5, zq6]
                refine wpAnyH_take (i := 19) (v := undef) rfl (by kernel_rfl) (by kernel_rfl) (by kernel_rfl) (fun _ _ _ h => h) (Or.inr ⟨by rfl, rfl⟩) hHeld ?_
                try simp only [Act.put, zq1, zq2, zq3, zq4, zq5, zq6]
                refine wpAnyH_take (i := 20) (v := undef) rfl (by kernel_rfl) (by kernel_rfl) (by kernel_rfl) (fun _ _ _ h => h) (Or.inr ⟨by rfl, rfl⟩) hHeld ?_
                try simp only [Act.put, zq1, zq2, zq3, zq4, zq5, zq6]
                refine wpAnyH_take (i := 21) (v := undef) rfl (by kernel_rfl) (by kernel_rfl) (by kernel_rfl) (fun _ _ _ h => h) (Or.inr ⟨by rfl, rfl⟩) hHeld ?_
                try simp only [Act.put, zq1, zq2, zq3, zq4, zq5, zq6]
                refine wpAnyH_take (i := 22) (v := ?v396) rfl (by kernel_rfl) (by kernel_rfl) (by kernel_rfl) (fun _ _ _ h => h) (Or.inl ⟨by rfl, ?hy396⟩) hHeld ?rest396
                case hy396 =>
                  intro w' hSw
                  try dsimp only at hSw
                  go_simp
                  first | done | with_reducible rfl
                try simp only [Act.put, zq1, zq2, zq3, zq4, zq5, zq6]
                refine wpAnyH_take (i := 23) (v := ?v397) rfl (by kernel_rfl) (by kernel_rfl) (by kernel_rfl) (fun _ _ _ h => h) (Or.inl ⟨by rfl, ?hy397⟩) hHeld ?rest397
                case hy397 =>
                  intro w' hSw
                  try dsimp only at hSw
                  go_simp
                  first | done | with_reducible rfl
                try simp only [Act.put, zq1, zq2, zq3, zq4, zq5, zq6]
                refine wpAnyH_take (i := 24) (v := ?v398) rfl (by kernel_rfl) (by kernel_rfl) (by kernel_rfl) (fun _ _ _ h => h) (Or.inl ⟨by rfl, ?hy398⟩) hHeld ?rest398
                case hy398 =>
                  intro w' hSw
                  try dsimp only at hSw
                  go_simp
                  first | done | with_reducible rfl
                try simp only [Act.put, zq1, zq2, zq3, zq4, zq5, zq6]
                refine wpAnyH_take (i := 25) (v := ?v399) rfl (by kernel_rfl) (by kernel_rfl) (by kernel_rfl) (fun _ _ _ h => h) (Or.inl ⟨by rfl, ?hy399⟩) hHeld ?rest399
                case hy399 =>
                  intro w' hSw
                  try dsimp only at hSw
                  go_simp
                  first | done | with_reducible rfl
                try simp only [Act.put, zq1, zq2, zq3, zq4, zq5, zq6]
                refine wpAnyH_take (i := 26) (v := ?v400) rfl (by kernel_rfl) (by kernel_rfl) (by kernel_rfl) (fun _ _ _ h => h) (Or.inl ⟨by rfl, ?hy400⟩) hHeld ?rest400
                case hy400 =>
                  intro w' hSw
                  try dsimp only at hSw
                  go_simp
                  first | done | with_reducible rfl
                try simp only [Act.put, zq1, zq2, zq3, zq4, zq5, zq6]
                refine wpAnyH_take (i := 27) (v := ?v401) rfl (by kernel_rfl) (by kernel_rfl) (by kernel_rfl) (fun _ _ _ h => h) (Or.inl ⟨by rfl, ?hy401⟩) hHeld ?rest401
                case hy401 =>
                  intro w' hSw
                  try dsimp only at hSw
                  go_simp
                  first | done | with_reducible rfl
                try simp only [Act.put, zq1, zq2, zq3, zq4, zq5, zq6]
                refine wpAnyH_take (i := 28) (v := ?v402) rfl (by kernel_rfl) (by kernel_rfl) (by kernel_rfl) (fun _ _ _ h => h) (Or.inl ⟨by rfl, ?hy402⟩) hHeld ?rest402
                case hy402 =>
                  intro w' hSw
                  try dsimp only at hSw
                  go_simp
                  first | done | with_reducible rfl
                try simp only [Act.put, zq1, zq2, zq3, zq4, zq5, zq6]
                refine wpAnyH_take (i := 29) (v := ?v403) rfl (by kernel_rfl) (by kernel_rfl) (by kernel_rfl) (fun _ _ _ h => h) (Or.inl ⟨by rfl, ?hy403⟩) hHeld ?rest403
                case hy403 =>
                  intro w' hSw
                  try dsimp only at hSw
                  go_simp
                  first | done | with_reducible rfl
                try simp only [Act.put, zq1, zq2, zq3, zq4, zq5, zq6]
                refine wpAnyH_take (i := 30) (v := ?v404) rfl (by kernel_rfl) (by kernel_rfl) (by kernel_rfl) (fun _ _ _ h => h) (Or.inl ⟨by rfl, ?hy404⟩) hHeld ?rest404
                case hy404 =>
                  intro w' hSw
                  try dsimp only at hSw
                  go_simp
                  first | done | with_reducible rfl
                try simp only [Act.put, zq1, zq2, zq3, zq4, zq5, zq6]
                refine wpAnyH_take (i := 31) (v := ?v405) rfl (by kernel_rfl) (by kernel_rfl) (by kernel_rfl) (fun _ _ _ h => h) (Or.inl ⟨by rfl, ?hy405⟩) hHeld ?rest405
                case hy405 =>
                  intro w' hSw
                  try dsimp only at hSw
                  go_simp
                  first | done | with_reducible rfl
                try simp only [Act.put, zq1, zq2, zq3, zq4, zq5, zq6]
                refine wpAnyH_take (i := 32) (v := ?v406) rfl (by kernel_rfl) (by kernel_rfl) (by kernel_rfl) (fun _ _ _ h => h) (Or.inl ⟨by rfl, ?hy406⟩) hHeld ?rest406
                case hy406 =>
                  intro w' hSw
                  try dsimp only at hSw
                  go_simp
                  first | done | with_reducible rfl
                try simp only [Act.put, zq1, zq2, zq3, zq4, zq5, zq6]
                refine wpAnyH_take (i := 33) (v := ?v407) rfl (by kernel_rfl) (by kernel_rfl) (by kernel_rfl) (fun _ _ _ h => h) (Or.inl ⟨by rfl, ?hy407⟩) hHeld ?rest407
                case hy407 =>
                  intro w' hSw
                  try dsimp only at hSw
                  go_simp
                  first | done | with_reducible rfl
                try simp only [Act.put, zq1, zq2, zq3, zq4, zq5, zq6]
                refine wpAnyH_take (i := 34) (v := ?v408) rfl (by kernel_rfl) (by kernel_rfl) (by kernel_rfl) (fun _ _ _ h => h) (Or.inl ⟨by rfl, ?hy408⟩) hHeld ?rest408
                case hy408 =>
                  intro w' hSw
                  try dsimp only at hSw
                  go_simp
                  first | done | with_reducible rfl
                try simp only [Act.put, zq1, zq2, zq3, zq4, zq5, zq6]
                refine wpAnyH_take (i := 35) (v := ?v409) rfl (by kernel_rfl) (by kernel_rfl) (by kernel_rfl) (fun _ _ _ h => h) (Or.inl ⟨by rfl, ?hy409⟩) hHeld ?rest409
                case hy409 =>
                  intro w' hSw
                  try dsimp only at hSw
                  go_simp
                  first | done | with_reducible rfl
                try simp only [Act.put, zq1, zq2, zq3, zq4, zq5, zq6]
                refine wpAnyH_ready (rs := [36]) (by kernel_rfl) (by simp) ?_
                refine AllReadyH.cons (by rfl) (fun K hK => ?_) AllReadyH.nil
                go_simp
                refine (un_works UU.out).mono ?_
                rintro e w12 ⟨rfl, hu⟩
                replace UU := Lib.hid hu
                clear hu hHeld
                go_wp2_with fail
                refine hK.out _ _ ⟨((UU.out.at_ 2 rfl).cell 0).trans rfl, ((UU.out.at_ 2 rfl).cell 1).trans rfl, ((UU.out.at_ 0 rfl).cell 0).trans rfl, ((UU.out.at_ 0 rfl).cell 1).trans rfl, (rng6 (UU.out.at_ 1 rfl)).2, (rng9 (UU.out.at_ 3 rfl)).2.2⟩ (fun hHeld => ?_)
                clear hK K
                try simp only [Act.put, zq1, zq2, zq3, zq4, zq5, zq6]
                refine wpAnyH_take (i := 37) (v := ?v410) rfl (by kernel_rfl) (by kernel_rfl) (by kernel_rfl) (fun _ _ _ h => h) (Or.inl ⟨by rfl, ?hy410⟩) hHeld ?rest410
                case hy410 =>
                  intro w' hSw
                  try dsimp only at hSw
                  go_simp
                  first | done | with_reducible rfl
                try simp only [Act.put, zq1, zq2, zq3, zq4, zq5, zq6]
                refine wpAnyH_take (i := 38) (v := ?v411) rfl (by kernel_rfl) (by kernel_rfl) (by kernel_rfl) (fun _ _ _ h => h) (Or.inl ⟨by rfl, ?hy411⟩) hHeld ?rest411
                case hy411 =>
                  intro w' hSw
                  try dsimp only at hSw
                  go_simp
                  first | done | with_reducible rfl
                try simp only [Act.put, zq1, zq2, zq3, zq4, zq5, zq6]
                refine wpAnyH_done (by kernel_rfl) ?_ _
                refine OnlyN.normal ?_
                try clear hHeld
                go_wp2
                go_ret
                exact ⟨rfl, UU.out.be⟩
              | false =>
                have hs := HM.out rfl
                refine wp_region_only (S := fun w' => w'.cell? ⟨w.heap.size + 5, 0, none⟩ = some (.bool bx) ∧ w'.cell? ⟨w.heap.size + 5, 1, none⟩ = some (.bool bY) ∧ w'.cell? ⟨w5.heap.size + 1, 0, none⟩ = some (.bool bx) ∧ w'.cell? ⟨w5.heap.size + 1, 1, none⟩ = some (.bool true) ∧ w'.rangeAt w5.heap.size 3 M1.cs ∧ w'.rangeAt w.heap.size 6 z.cs) (by kernel_rfl) ⟨((UU.out.at_ 2 rfl).cell 0).trans rfl, ((UU.out.at_ 2 rfl).cell 1).trans rfl, ((UU.out.at_ 0 rfl).cell 0).trans rfl, ((UU.out.at_ 0 rfl).cell 1).trans rfl, (rng6 (UU.out.at_ 1 rfl)).2, (rng9 (UU.out.at_ 3 rfl)).2.2⟩ (fun hHeld => ?_)
                refine wpAnyH_take (i := 0) (v := ?v412) rfl (by kernel_rfl) (by kernel_rfl) (by kernel_rfl) (fun _ _ _ h => h) (Or.inl ⟨by rfl, ?hy412⟩) hHeld ?rest412
                case hy412 =>
                  intro w' hSw
                  try dsimp only at hSw
                  go_simp
                  first | done | with_reducible rfl
                try simp only [Act.put, zq1, zq3, zq4, zq5, zq6]
                refine wpAnyH_take (i := 2) (v := ?v413) rfl (by kernel_rfl) (by kernel_rfl) (by kernel_rfl) (fun _ _ _ h => h) (Or.inl ⟨by rfl, ?hy413⟩) hHeld ?rest413
                case hy413 =>
                  intro w' hSw
                  try dsimp only at hSw
                  go_simp
                  first | done | with_reducible rfl
                try simp only [Act.put, zq1, zq2, zq3, zq4, zq5, zq6]
                refine wpAnyH_ready (rs := [1]) (by kernel_rfl) (by simp) ?_
                refine AllReadyH.cons (by rfl) (fun K hK => ?_) AllReadyH.nil
                go_simp
                refine (num8_any _ _).mono ?_
                rintro e y1 ⟨rfl, rfl⟩
                clear hHeld
                refine hK.out _ _ ⟨((UU.out.at_ 2 rfl).cell 0).trans rfl, ((UU.out.at_ 2 rfl).cell 1).trans rfl, ((UU.out.at_ 0 rfl).cell 0).trans rfl, ((UU.out.at_ 0 rfl).cell 1).trans rfl, (rng6 (UU.out.at_ 1 rfl)).2, (rng9 (UU.out.at_ 3 rfl)).2.2⟩ (fun hHeld => ?_)
                clear hK K
                try simp only [Act.put, zq1, zq2, zq3, zq4, zq5, zq6]
                refine wpAnyH_ready (rs := [3]) (by kernel_rfl) (by simp) ?_
                refine AllReadyH.cons (by rfl) (fun K hK => ?_) AllReadyH.nil
                go_simp
                refine (num8_any _ _).mono ?_
                rintro e y1 ⟨rfl, rfl⟩
                clear hHeld
                refine hK.out _ _ ⟨((UU.out.at_ 2 rfl).cell 0).trans rfl, ((UU.out.at_ 2 rfl).cell 1).trans rfl, ((UU.out.at_ 0 rfl).cell 0).trans rfl, ((UU.out.at_ 0 rfl).cell 1).trans rfl, (rng6 (UU.out.at_ 1 rfl)).2, (rng9 (UU.out.at_ 3 rfl)).2.2⟩ (fun hHeld => ?_)
                clear hK K
                try simp only [Act.put, zq1, zq2, zq3, zq4, zq5, zq6]
                refine wpAnyH_take (i := 4) (v := ?v414) rfl (by kernel_rfl) (by kernel_rfl) (by kernel_rfl) (fun _ _ _ h => h) (Or.inl ⟨by rfl, ?hy414⟩) hHeld ?rest414
                case hy414 =>
                  intro w' hSw
                  try dsimp only at hSw
                  go_simp
                  first | done | with_reducible rfl
                try simp only [Act.put, zq1, zq2, zq3, zq4, zq5, zq6]
                refine wpAnyH_take (i := 5) (v := ?v415) rfl (by kernel_rfl) (by kernel_rfl) (by kernel_rfl) (fun _ _ _ h => h) (Or.inl ⟨by rfl, ?hy415⟩) hHeld ?rest415
                case hy415 =>
                  intro w' hSw
                  try dsimp only at hSw
                  go_simp
                  first | done | with_reducible rfl
                try simp only [Act.put, zq1, zq2, zq3, zq4, zq5, zq6]
                refine wpAnyH_take (i := 6) (v := ?v416) rfl (by kernel_rfl) (by kernel_rfl) (by kernel_rfl) (fun _ _ _ h => h) (Or.inl ⟨by rfl, ?hy416⟩) hHeld ?rest416
                case hy416 =>
                  intro w' hSw
                  try dsimp only at hSw
                  go_simp
                  first | done | with_reducible rfl
                try simp only [Act.put, zq1, zq2, zq3, zq4, zq5, zq6]
                refine wpAnyH_take (i := 7) (v := ?v417) rfl (by kernel_rfl) (by kernel_rfl) (by kernel_rfl) (fun _ _ _ h => h) (Or.inl ⟨by rfl, ?hy417⟩) hHeld ?rest417
                case hy417 =>
                  intro w' hSw
                  try dsimp only at hSw
                  go_simp
                  first | done | with_reducible rfl
                try simp only [Act.put, zq1, zq2, zq3, zq4, zq5, zq6]
                refine wpAnyH_take (i := 8) (v := ?v418) rfl (by kernel_rfl) (by kernel_rfl) (by kernel_rfl) (fun _ _ _ h => h) (Or.inl ⟨by rfl, ?hy418⟩) hHeld ?rest418
                case hy418 =>
                  intro w' hSw
                  try dsimp only at hSw
                  go_simp
                  first | done | with_reducible rfl
                try simp only [Act.put, zq1, zq2, zq3, zq4, zq5, zq6]
                refine wpAnyH_take (i := 9) (v := ?v419) rfl (by kernel_rfl) (by kernel_rfl) (by kernel_rfl) (fun _ _ _ h => h) (Or.inl ⟨by rfl, ?hy419⟩) hHeld ?rest419
                case hy419 =>
                  intro w' hSw
                  try dsimp only at hSw
                  go_simp
                  first | done | with_reducible rfl
                try simp only [Act.put, zq1, zq2, zq3, zq4, zq5, zq6]
                refine wpAnyH_take (i := 10) (v := ?v420) rfl (by kernel_rfl) (by kernel_rfl) (by kernel_rfl) (fun _ _ _ h => h) (Or.inl ⟨by rfl, ?hy420⟩) hHeld ?rest420
                case hy420 =>
                  intro w' hSw
                  try dsimp only at hSw
                  go_simp
                  first | done | with_reducible rfl
                try simp only [Act.put, zq1, zq2, zq3, zq4, zq5, zq6]
                refine wpAnyH_take (i := 11) (v := ?v421) rfl (by kernel_rfl) (by kernel_rfl) (by kernel_rfl) (fun _ _ _ h => h) (Or.inl ⟨by rfl, ?hy421⟩) hHeld ?rest421
                case hy421 =>
                  intro w' hSw
                  try dsimp only at hSw
                  go_simp
                  first | done | with_reducible rfl
                try simp only [Act.put, zq1, zq2, zq3, zq4, zq5, zq6]
                refine wpAnyH_take (i := 12) (v := ?v422) rfl (by kernel_rfl) (by kernel_rfl) (by kernel_rfl) (fun _ _ _ h => h) (Or.inl ⟨by rfl, ?hy422⟩) hHeld ?rest422
                case hy422 =>
                  intro w' hSw
                  try dsimp only at hSw
                  go_simp
                  first | done | with_reducible rfl
                try simp only [Act.put, zq1, zq2, zq3, zq4, zq5, zq6]
                refine wpAnyH_take (i := 13) (v := ?v423) rfl (by kernel_rfl) (by kernel_rfl) (by kernel_rfl) (fun _ _ _ h => h) (Or.inl ⟨by rfl, ?hy423⟩) hHeld ?rest423
                case hy423 =>
                  intro w' hSw
                  try dsimp only at hSw
                  go_simp
                  first | done | with_reducible rfl
                try simp only [Act.put, zq1, zq2, zq3, zq4, zq5, zq6]
                refine wpAnyH_take (i := 14) (v := ?v424) rfl (by kernel_rfl) (by kernel_rfl) (by kernel_rfl) (fun _ _ _ h => h) (Or.inl ⟨by rfl, ?hy424⟩) hHeld ?rest424
                case hy424 =>
                  intro w' hSw
                  try dsimp only at hSw
                  go_simp
                  first | done | with_reducible rfl
                try simp only [Act.put, zq1, zq2, zq3, zq4, zq5, zq6]
                refine wpAnyH_take (i := 15) (v := ?v425) rfl (by kernel_rfl) (by kernel_rfl) (by kernel_rfl) (fun _ _ _ h => h) (Or.inl ⟨by rfl, ?hy425⟩) hHeld ?rest425
                case hy425 =>
                  intro w' hSw
                  try dsimp only at hSw
                  go_simp
                  first | done | with_reducible rfl
                try simp only [Act.put, zq1, zq2, zq3, zq4, zq5, zq6]
                refine wpAnyH_take (i := 16) (v := ?v426) rfl (by kernel_rfl) (by kernel_rfl) (by kernel_rfl) (fun _ _ _ h => h) (Or.inl ⟨by rfl, ?hy426⟩) hHeld ?rest426
                case hy426 =>
                  intro w' hSw
                  try dsimp only at hSw
                  go_simp
                  first | done | with_reducible rfl
                try simp only [Act.put, zq1, zq2, zq3, zq4, zq5, zq6]
                refine wpAnyH_take (i := 17) (v := ?v427) rfl (by kernel_rfl) (by kernel_rfl) (by kernel_rfl) (fun _ _ _ h => h) (Or.inl ⟨by rfl, ?hy427⟩) hHeld ?rest427
                case hy427 =>
                  intro w' hSw
                  try dsimp only at hSw
                  go_simp
                  first | done | with_reducible rfl
                try simp only [Act.put, zq1, zq2, zq3, zq4, zq5, zq6]
                refine wpAnyH_take (i := 18) rfl (by kernel_rfl) (by kernel_rfl) (by kernel_rfl) (fun _ _ _ h => h) (yieldsIf_load_mid (by rfl) 28 (.tmp 275) (by rfl) w5.heap.size 3 (by rfl) z.cs _ (fun w' hSw => hs ▸ hSw.2.2.2.2.1) Try.underlying28 rfl (size23 _)) hHeld ?_
                try simp only [Act.put, zq1, zq2, zq3, zq4, zq5, zq6]
                refine wpAnyH_take (i := 19) (v := ?v428) rfl (by kernel_rfl) (by kernel_rfl) (by kernel_rfl) (fun _ _ _ h => h) (Or.inl ⟨by rfl, ?hy428⟩) hHeld ?rest428
                case hy428 =>
                  intro w' hSw
                  try dsimp only at hSw
                  go_simp
                  first | done | with_reducible rfl
                try simp only [Act.put, zq1, zq2, zq3, zq4, zq5, zq6]
                refine wpAnyH_take (i := 20) rfl (by kernel_rfl) (by kernel_rfl) (by kernel_rfl) (fun _ _ _ h => h) (yieldsIf_load_mid (by rfl) 28 (.tmp 277) (by rfl) w.heap.size 6 (by rfl) z.cs _ (fun w' hSw => hSw.2.2.2.2.2) Try.underlying28 rfl (size23 _)) hHeld ?_
                try simp only [Act.put, zq1, zq2, zq3, zq4, zq5, zq6]
                refine wpAnyH_take (i := 21) rfl (by kernel_rfl) (by kernel_rfl) (by kernel_rfl) (fun _ _ _ h => h) (y_eq23 (by rfl) (.tmp 276) (.tmp 278) (by rfl) z (by rfl) (by rfl)) hHeld ?_
                try simp only [Act.put, zq1, zq2, zq3, zq4, zq5, zq6]
                refine wpAnyH_take (i := 22) (v := ?v429) rfl (by kernel_rfl) (by kernel_rfl) (by kernel_rfl) (fun _ _ _ h => h) (Or.inl ⟨by rfl, ?hy429⟩) hHeld ?rest429
                case hy429 =>
                  intro w' hSw
                  try dsimp only at hSw
                  go_simp
                  first | done | with_reducible rfl
                try simp only [Act.put, zq1, zq2, zq3, zq4, zq5, zq6]
                refine wpAnyH_take (i := 23) (v := ?v430) rfl (by kernel_rfl) (by kernel_rfl) (by kernel_rfl) (fun _ _ _ h => h) (Or.inl ⟨by rfl, ?hy430⟩) hHeld ?rest430
                case hy430 =>
                  intro w' hSw
                  try dsimp only at hSw
                  go_simp
                  first | done | with_reducible rfl
                try simp only [Act.put, zq1, zq2, zq3, zq4, zq5, zq6]
                refine wpAnyH_take (i := 24) (v := ?v431) rfl (by kernel_rfl) (by kernel_rfl) (by kernel_rfl) (fun _ _ _ h => h) (Or.inl ⟨by rfl, ?hy431⟩) hHeld ?rest431
                case hy431 =>
                  intro w' hSw
                  try dsimp only at hSw
                  go_simp
                  first | done | with_reducible rfl
                try simp only [Act.put, zq1, zq2, zq3, zq4, zq5, zq6]
                refine wpAnyH_take (i := 25) (v := ?v432) rfl (by kernel_rfl) (by kernel_rfl) (by kernel_rfl) (fun _ _ _ h => h) (Or.inl ⟨by rfl, ?hy432⟩) hHeld ?rest432
                case hy432 =>
                  intro w' hSw
                  try dsimp only at hSw
                  go_simp
                  first | done | with_reducible rfl
                try simp only [Act.put, zq1, zq2, zq3, zq4, zq5, zq6]
                refine wpAnyH_take (i := 26) (v := ?v433) rfl (by kernel_rfl) (by kernel_rfl) (by kernel_rfl) (fun _ _ _ h => h) (Or.inl ⟨by rfl, ?hy433⟩) hHeld ?rest433
                case hy433 =>
                  intro w' hSw
                  try dsimp only at hSw
                  go_simp
                  first | done | with_reducible rfl
                try simp only [Act.put, zq1, zq2, zq3, zq4, zq5, zq6]
                refine wpAnyH_take (i := 27) (v := ?v434) rfl (by kernel_rfl) (by kernel_rfl) (by kernel_rfl) (fun _ _ _ h => h) (Or.inl ⟨by rfl, ?hy434⟩) hHeld ?rest434
                case hy434 =>
                  intro w' hSw
                  try dsimp only at hSw
                  go_simp
                  first | done | with_reducible rfl
                try simp only [Act.put, zq1, zq2, zq3, zq4, zq5, zq6]
                refine wpAnyH_take (i := 28) (v := ?v435) rfl (by kernel_rfl) (by kernel_rfl) (by kernel_rfl) (fun _ _ _ h => h) (Or.inl ⟨by rfl, ?hy435⟩) hHeld ?rest435
                case hy435 =>
                  intro w' hSw
                  try dsimp only at hSw
                  go_simp
                  first | done | with_reducible rfl
                try simp only [Act.put, zq1, zq2, zq3, zq4, zq5, zq6]
                refine wpAnyH_take (i := 29) (v := ?v436) rfl (by kernel_rfl) (by kernel_rfl) (by kernel_rfl) (fun _ _ _ h => h) (Or.inl ⟨by rfl, ?hy436⟩) hHeld ?rest436
                case hy436 =>
                  intro w' hSw
                  try dsimp only at hSw
                  go_simp
                  first | done | with_reducible rfl
                try simp only [Act.put, zq1, zq2, zq3, zq4, zq5, zq6]
                refine wpAnyH_take (i := 30) (v := ?v437) rfl (by kernel_rfl) (by kernel_rfl) (by kernel_rfl) (fun _ _ _ h => h) (Or.inl ⟨by rfl, ?hy437⟩) hHeld ?rest437
                case hy437 =>
                  intro w' hSw
                  try dsimp only at hSw
                  go_simp
                  first | done | with_reducible rfl
                try simp only [Act.put, zq1, zq2, zq3, zq4, zq5, zq6]
                refine wpAnyH_take (i := 31) (v := ?v438) rfl (by kernel_rfl) (by kernel_rfl) (by kernel_rfl) (fun _ _ _ h => h) (Or.inl ⟨by rfl, ?hy438⟩) hHeld ?rest438
                case hy438 =>
                  intro w' hSw
                  try dsimp only at hSw
                  go_simp
                  first | done | with_reducible rfl
                try simp only [Act.put, zq1, zq2, zq3, zq4, zq5, zq6]
                refine wpAnyH_take (i := 32) (v := ?v439) rfl (by kernel_rfl) (by kernel_rfl) (by kernel_rfl) (fun _ _ _ h => h) (Or.inl ⟨by rfl, ?hy439⟩) hHeld ?rest439
                case hy439 =>
                  intro w' hSw
                  try dsimp only at hSw
                  go_simp
                  first | done | with_reducible rfl
                try simp only [Act.put, zq1, zq2, zq3, zq4, zq5, zq6]
                refine wpAnyH_take (i := 33) (v := ?v440) rfl (by kernel_rfl) (by kernel_rfl) (by kernel_rfl) (fun _ _ _ h => h) (Or.inl ⟨by rfl, ?hy440⟩) hHeld ?rest440
                case hy440 =>
                  intro w' hSw
                  try dsimp only at hSw
                  go_simp
                  first | done | with_reducible rfl
                try simp only [Act.put, zq1, zq2, zq3, zq4, zq5, zq6]
                refine wpAnyH_take (i := 34) (v := ?v441) rfl (by kernel_rfl) (by kernel_rfl) (by kernel_rfl) (fun _ _ _ h => h) (Or.inl ⟨by rfl, ?hy441⟩) hHeld ?rest441
                case hy441 =>
                  intro w' hSw
                  try dsimp only at hSw
                  go_simp
                  first | done | with_reducible rfl
                try simp only [Act.put, zq1, zq2, zq3, zq4, zq5, zq6]
                refine wpAnyH_take (i := 35) (v := ?v442) rfl (by kernel_rfl) (by kernel_rfl) (by kernel_rfl) (fun _ _ _ h => h) (Or.inl ⟨by rfl, ?hy442⟩) hHeld ?rest442
                case hy442 =>
                  intro w' hSw
                  try dsimp only at hSw
                  go_simp
                  first | done | with_reducible rfl
                try simp only [Act.put, zq1, zq2, zq3, zq4, zq5, zq6]
                refine wpAnyH_ready (rs := [36]) (by kernel_rfl) (by simp) ?_
                refine AllReadyH.cons (by rfl) (fun K hK => ?_) AllReadyH.nil
                go_simp
                refine (un_works UU.out).mono ?_
                rintro e w12 ⟨rfl, hu⟩
                replace UU := Lib.hid hu
                clear hu hHeld
                go_wp2_with fail
                refine hK.out _ _ ⟨((UU.out.at_ 2 rfl).cell 0).trans rfl, ((UU.out.at_ 2 rfl).cell 1).trans rfl, ((UU.out.at_ 0 rfl).cell 0).trans rfl, ((UU.out.at_ 0 rfl).cell 1).trans rfl, (rng6 (UU.out.at_ 1 rfl)).2, (rng9 (UU.out.at_ 3 rfl)).2.2⟩ (fun hHeld => ?_)
                clear hK K
                try simp only [Act.put, zq1, zq2, zq3, zq4, zq5, zq6]
                refine wpAnyH_take (i := 37) (v := ?v443) rfl (by kernel_rfl) (by kernel_rfl) (by kernel_rfl) (fun _ _ _ h => h) (Or.inl ⟨by rfl, ?hy443⟩) hHeld ?rest443
                case hy443 =>
                  intro w' hSw
                  try dsimp only at hSw
                  go_simp
                  first | done | with_reducible rfl
                try simp only [Act.put, zq1, zq2, zq3, zq4, zq5, zq6]
                refine wpAnyH_take (i := 38) (v := ?v444) rfl (by kernel_rfl) (by kernel_rfl) (by kernel_rfl) (fun _ _ _ h => h) (Or.inl ⟨by rfl, ?hy444⟩) hHeld ?rest444
                case hy444 =>
                  intro w' hSw
                  try dsimp only at hSw
                  go_simp
                  first | done | with_reducible rfl
                try simp only [Act.put, zq1, zq2, zq3, zq4, zq5, zq6]
                refine wpAnyH_done (by kernel_rfl) ?_ _
                refine OnlyN.normal ?_
                try clear hHeld
                go_wp2
                go_ret
                exact ⟨rfl, UU.out.be⟩
      · as_aux_lemma =>
        have ZN := Lib.hid hzk
        clear hzk
        go_wp2_with (first
          | (refine wpList_load_mid rfl 28 (.tmp 116) rfl w.heap.size 6 rfl z.cs _ RZ.out Try.underlying28 rfl (size23 _) ?_)
          | (go_at_call 11; refine (un_writeq UU.out 1 1 rfl (by decide) z ZE.out ZZ.out (by decide) false (by rw [decide_eq_false ZN.out])).mono ?_; rintro e w3 ⟨q, rfl, g1, g2, hu⟩; have U3 := Lib.hid hu; clear hu; have z6 := ((U3.out.at_ 1 rfl).cell 6).trans (show _ = some (.int .i64 z.e) from rfl); have z7 := ((U3.out.at_ 1 rfl).cell 7).trans (show _ = some (.int .i64 z.a) from rfl); have z8 := ((U3.out.at_ 1 rfl).cell 8).trans (show _ = some (.int .i64 z.o) from rfl); simp only [Bool.not_false] at g2)
          | (go_at_call 12; refine (num8_any _ _).mono ?_; rintro e w' ⟨rfl, rfl⟩)
          | (go_at_call 23; refine (un_checkq U3.out z false (by rw [decide_eq_false ZN.out])).mono ?_; rintro e w4 ⟨q4, rfl, g3, g4, hu⟩; simp only [Bool.not_false] at g4; have U4 := Lib.hid hu; clear hu z6 z7 z8)
          | (go_at_call 8; refine (un_works U4.out).mono ?_; rintro e w5 ⟨rfl, hu⟩; have U5 := Lib.hid hu; clear hu))
        go_ret
        exact ⟨rfl, U5.out.be⟩
end Go.Proofs.Ytjfcmoappbfnjaa

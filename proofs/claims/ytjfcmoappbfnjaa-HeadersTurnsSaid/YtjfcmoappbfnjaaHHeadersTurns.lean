/- The law HeadersTurns returns true for every input: behind a write of an edition above that which counts, and any crash, the new header counts, or the one that did; up to 32 bits in a row that are turned in a sector make its header none. No condition. -/
import Derived.Test.YtjfcmoappbfnjaaHTw0
import Derived.Test.YtjfcmoappbfnjaaHTw1
import Derived.Test.YtjfcmoappbfnjaaHTno
namespace Go.Proofs.Ytjfcmoappbfnjaa.headersTurns
open Go.ChangeShapes Go.WideShapes Go.ChangeAt Go.RowKit
set_option maxRecDepth 8000 in
theorem walk (w : World) (x y z : Hd) (mx : x.e ≤ 9223372036854775807) (my : y.e ≤ 9223372036854775807) (mz : z.e ≤ 9223372036854775807) (n : Int) (A : Option Addr) (cap : Nat) (c : Cr) (hr : RdB w A c.keep) (f : Int) (b : Nat) (hb : b < 4294967296) :
    Calls Try.prog 6 #[.agg (x.cs ++ y.cs ++ z.cs).toArray, .int .i64 n, .agg #[.slice A c.keep.length cap, .int .i64 c.torn, .int .i64 c.bytes], .agg #[.int .i64 f, .int .u32 (b : Int)]] w fun e w' => e = .returned (.bool true) ∧ Below w.heap.size w w' := by
  by_cases g0 : n < 0
  · exact turns_no0 w x y z n A cap c f b g0
  by_cases g1 : 1 < n
  · exact turns_no1 w x y z n A cap c f b g1
  by_cases g2 : z.o < 1
  · exact turns_no2 w x y z n A cap c f b g0 g1 g2
  by_cases g3 : 64 < z.o
  · exact turns_no3 w x y z n A cap c f b g0 g1 g2 g3
  by_cases g4 : 300 < (c.keep.length : Int)
  · exact turns_no4 w x y z n A cap c f b g0 g1 g2 g3 g4
  by_cases g5 : c.bytes < 0
  · exact turns_no5 w x y z n A cap c f b g0 g1 g2 g3 g4 g5
  by_cases g6 : 512 < c.bytes
  · exact turns_no6 w x y z n A cap c f b g0 g1 g2 g3 g4 g5 g6
  obtain rfl | rfl : n = 0 ∨ n = 1 := by omega
  · by_cases g7 : x.e = z.e
    · exact turns_no7 w x y z A cap c f b g2 g3 g4 g5 g6 g7
    · exact turns_go0 w x y z A cap c f b g2 g3 g4 g5 g6 g7 mx my mz hr hb
  · by_cases g7 : y.e = z.e
    · exact turns_no8 w x y z A cap c f b g2 g3 g4 g5 g6 g7
    · exact turns_go1 w x y z A cap c f b g2 g3 g4 g5 g6 g7 mx my mz hr hb
set_option maxRecDepth 100000 in
theorem lifted (os : Os) (started : os.Started) (H : Type) (enc : TypeId × Value → H) :
    ReturnsInHanded {} Try.checked os 6 .any (Rows.headersTurnsSpec.pre6 enc Try.prog Try.f6 Rows.headersTurnsRow.domain false) (Rows.headersTurnsSpec.post enc Try.prog Try.f6 false true false false) := by
  refine returnsInHanded_of_change_sized (C := Try.checked) own started (by kernel_rfl) Try.func6
    (ChangeSpec.witness6 (enc := enc) (C := Try.checked) false ⟨#[], #[.agg #[.int .i64 0, .int .i64 0, .int .i64 0, .int .i64 0, .int .i64 0, .int .i64 0, .int .i64 0, .int .i64 0, .int .i64 0], .int .i64 0, .agg #[.slice none 0 0, .int .i64 0, .int .i64 0], .agg #[.int .i64 0, .int .u32 0]], []⟩ 8 (by kernel_rfl) (by kernel_rfl) (by kernel_rfl) (by kernel_rfl)) ?_
  intro W base args ds gs before hval0 hW hcnd hsz _
  have hval : ∀ (j : Nat) t v, Try.f6.params[j]? = some t → args[j]? = some v → Value.okWide Try.prog W .any base t v := hval0
  have hW' := hW
  obtain ⟨p, q, hA0, hV, rfl, hfz, hnd⟩ := hW
  have hA : DataW.TrodAll enc Try.prog W 0 (fun _ => true) true Try.f6.params.toList args.toList ds p := hA0
  rw [Try.params6] at hA hval hsz
  obtain ⟨v0, vs0, d0, ds0, p0, q0, hargs, rfl, rfl, h0, t0⟩ := trodAll_cons hA
  obtain ⟨v1, vs1, d1, ds1, p1, q1, rfl, rfl, rfl, h1, t1⟩ := trodAll_cons t0
  obtain ⟨v2, vs2, d2, ds2, p2, q2, rfl, rfl, rfl, h2, t2⟩ := trodAll_cons t1
  obtain ⟨v3, vs3, d3, ds3, p3, q3, rfl, rfl, rfl, h3, t3⟩ := trodAll_cons t2
  obtain ⟨rfl, rfl, rfl⟩ := trodAll_nil t3
  obtain rfl : args = #[v0, v1, v2, v3] := by cases args; simp_all
  obtain ⟨rfl, rfl⟩ := trodVars_none hV
  have k0 := h0
  have lt0 : ∀ x ∈ p0, x.block < W.heap.size := by obtain ⟨m, hm⟩ := k0; exact DataW.trod_lt m _ _ _ hm
  obtain ⟨x0, y0, z0, rfl, mx0, my0, mz0⟩ := open_h3 (hval 0 59 v0 rfl rfl) h0
  have k1 := h1
  have lt1 : ∀ x ∈ p1, x.block < W.heap.size := by obtain ⟨m, hm⟩ := k1; exact DataW.trod_lt m _ _ _ hm
  obtain ⟨a1, rfl, rfl, rfl, f1⟩ := open_int Try.underlying3 (hval 1 3 v1 rfl rfl) h1
  have k2 := h2
  have lt2 : ∀ x ∈ p2, x.block < W.heap.size := by obtain ⟨m, hm⟩ := k2; exact DataW.trod_lt m _ _ _ hm
  obtain ⟨A2, c2, cr2, rfl, hr2⟩ := open_crash8 (hval 2 62 v2 rfl rfl) h2
  have k3 := h3
  have lt3 : ∀ x ∈ p3, x.block < W.heap.size := by obtain ⟨m, hm⟩ := k3; exact DataW.trod_lt m _ _ _ hm
  obtain ⟨f3, b3, rfl, hb3⟩ := open_turn (hval 3 65 v3 rfl rfl) h3
  clear hA0 hval0
  refine (walk W x0 y0 z0 mx0 my0 mz0 a1 A2 c2 cr2 hr2 f3 b3 hb3).mono fun e W' ⟨he, bel⟩ => ?_
  subst he
  exact ⟨_, rfl, _, _, _, [], _, [], hW', trodAll_mk1 (shut_bool Try.underlying4 _), (trodAll_cons_mk (Below.trod laidOut (by kernel_rfl) (of_decide_eq_true (by kernel_rfl)) k0 bel lt0) (trodAll_cons_mk (shut_int Try.underlying3 f1) (trodAll_cons_mk (Below.trod laidOut (by kernel_rfl) (of_decide_eq_true (by kernel_rfl)) k2 bel lt2) (trodAll_cons_mk (Below.trod laidOut (by kernel_rfl) (of_decide_eq_true (by kernel_rfl)) k3 bel lt3) trodAll_mk0)))), rfl, bel.frame _, fun h => by cases h⟩
theorem over : Rows.headersTurnsRow.holds Try.pinned (OpenSpec.ofChange Rows.headersTurnsSpec) :=
  OpenClaim.holds_of_wide 6 Try.f6 rfl rfl rfl rfl rfl rfl rfl ⟨rfl, rfl, rfl, rfl, rfl⟩ rfl rfl rfl rfl rfl (by kernel_rfl) Try.func6 (by kernel_rfl)
    (of_decide_eq_true (by kernel_rfl)) (by unfold Func.isWrapper; first | (rw [if_pos (by decide +kernel)]; kernel_rfl) | (rw [if_neg (by decide +kernel)]; exact ⟨rfl, rfl⟩))
    (fun os started H enc _ => lifted os started H enc)
theorem proved : Rows.HeadersTurnsSaid := over
end Go.Proofs.Ytjfcmoappbfnjaa.headersTurns

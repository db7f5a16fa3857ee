/- law 8: works; headers that come in. -/
import Derived.Test.YtcfkoglehjkkdaaHTwo
import Derived.Test.YtcfkoglehjkkdaaP13
import Derived.Deep.Slices
import Derived.SizedLaws
namespace Go.Proofs.Ytcfkoglehjkkdaa
open Go.RowKit Go.ChangeShapes Go.WideShapes Go.ChangeAt
attribute [local go_sem] Oper.semAt_some
set_option maxRecDepth 8000 in
theorem num8_any (n : Int) (w : World) : Calls Try.prog 12 #[.int .i64 n] w fun e w' => e = .returned (.int .i64 n) ∧ w = w' := by
  go_enter Try.func12, Try.ntmps12
  go_wp2
  go_ret
  exact ⟨rfl, rfl⟩
section
variable {H : Type} {enc : TypeId × Value → H} {W : World} {base : Nat} {held : Bool} {d : DataW H} {p : List MemPlace}
set_option maxRecDepth 8000 in
theorem open_hdr {r : Reach} {b0 : Nat} {v : Value} (hv : Value.okWide Try.prog W r b0 28 v) (h : DataW.Trod enc Try.prog W base (fun _ => true) held 28 v d p) :
    ∃ x : Hd, v = x.val ∧ x.e ≤ 9223372036854775807 := by
  obtain ⟨cs, rfl, _⟩ := okWide_struct Try.underlying28 hv
  obtain ⟨fu, hf⟩ := h
  obtain ⟨zs, m, _, _, hl, hzn, hzl⟩ := DataW.trod_struct Try.underlying28 hf
  rw [show Try.prog.cellsOf 28 = 3 by kernel_rfl] at hl
  obtain ⟨cs⟩ := cs
  simp only [Value.cells] at hl hzl
  match zs, hzn with
  | [z0, z1, z2], _ =>
    have k0 : DataW.trod enc Try.prog W base (fun _ => true) held m 2 ((cs.drop 0).take (Try.prog.cellsOf 2)) = some z0 := hzl 0 _ rfl
    have k1 : DataW.trod enc Try.prog W base (fun _ => true) held m 3 ((cs.drop 1).take (Try.prog.cellsOf 3)) = some z1 := hzl 1 _ rfl
    have k2 : DataW.trod enc Try.prog W base (fun _ => true) held m 3 ((cs.drop 2).take (Try.prog.cellsOf 3)) = some z2 := hzl 2 _ rfl
    rw [show Try.prog.cellsOf 3 = 1 by kernel_rfl] at k1 k2
    rw [show Try.prog.cellsOf 2 = 1 by kernel_rfl] at k0
    match cs, hl with
    | [c5, c6, c7], _ =>
      simp only [List.drop_zero, List.take_succ_cons, List.take_zero, List.drop_succ_cons] at k0 k1 k2
      obtain ⟨n5, e5, _, w5⟩ := DataW.trod_int Try.underlying2 k0
      obtain ⟨n6, e6, _, _⟩ := DataW.trod_int Try.underlying3 k1
      obtain ⟨n7, e7, _, _⟩ := DataW.trod_int Try.underlying3 k2
      simp only [List.cons.injEq, and_true] at e5 e6 e7
      subst e5 e6 e7
      exact ⟨⟨n5, n6, n7⟩, rfl, (wf_i64 w5).2⟩
end
def w8a : Dk := (newDk 23).stepped.queued (0, hdS 4 1 1)
def w8b : Dk := w8a.stepped.queued (1, hdS 5 0 1)
def w8c : Dk := w8b.stepped.stepped
def w8d : Dk := w8c.spoilt 1 5 1
theorem w8_r0 : w8b.reads 0 = hdS 4 1 1 := rfl
theorem w8_r1 : w8b.reads 1 = hdS 5 0 1 := rfl
theorem w8_s0 : w8d.reads 0 = hdS 4 1 1 := rfl
theorem w8_s1 : w8d.reads 1 = turnL (hdS 5 0 1) 5 1 := rfl
set_option maxRecDepth 100000 in
set_option maxHeartbeats 8000000 in
theorem works8_any (w : World) : Calls Try.prog 8 #[] w fun e w' => e = .returned (.bool true) ∧ Below w.heap.size w w' := by
  have hz := z23
  have N0 := Lib.hid (new_at w 23 (by decide) (by decide))
  have L0 := Lib.hid (((Below.refl w.heap.size w).alloc (Nat.le_refl _) (.map #[] 0)).alloc (by simp) (.cells (dcells (newPl w.heap.size) (newDk 23)) 90))
  go_enter Try.func8, Try.ntmps8
  go_wp2_with (go_at_call 22; refine (new_yes _ 23 (by decide) (by decide)).mono ?_; rintro e w' ⟨rfl, rfl⟩)
  generalize (w.alloc (.map #[] 0)).alloc (.cells (dcells (newPl w.heap.size) (newDk 23)) 90) = W0 at N0 L0 ⊢
  generalize newPl w.heap.size = pl0 at N0
  refine (show Calls Try.prog _ #[.pointer (some ⟨w.heap.size + 1, 0, none⟩), .int .i64 0, .agg #[.int .i64 4, .int .i64 1, .int .i64 1]] W0 _ from hwrite_goes N0.out L0.out.size (by decide) 0 4 1 1 (by decide) (by decide) (by decide) (by decide) rfl (by decide) rfl).mono ?_
  rintro e W1 ⟨rfl, v1, n1, f1, _⟩
  have N1 := Lib.hid (show DiskAt W1 w.heap.size (w.heap.size + 1) { pl0 with wv := v1 } w8a from n1)
  have L1 := Lib.hid (L0.out.trans (f1.to_below (fun k hk => (N0.out.lt k hk).2) L0.out.size))
  generalize ({ pl0 with wv := v1 } : Pl) = pl1 at N1
  clear n1 f1 N0 L0
  go_wp2_with fail
  refine (show Calls Try.prog _ #[.pointer (some ⟨w.heap.size + 1, 0, none⟩), .int .i64 1, .agg #[.int .i64 5, .int .i64 0, .int .i64 1]] W1 _ from hwrite_goes N1.out L1.out.size (by decide) 1 5 0 1 (by decide) (by decide) (by decide) (by decide) rfl (by decide) rfl).mono ?_
  rintro e W2 ⟨rfl, v2, n2, f2, _⟩
  have N2 := Lib.hid (show DiskAt W2 w.heap.size (w.heap.size + 1) { pl1 with wv := v2 } w8b from n2)
  have L2 := Lib.hid (L1.out.trans (f2.to_below (fun k hk => (N1.out.lt k hk).2) L1.out.size))
  generalize ({ pl1 with wv := v2 } : Pl) = pl2 at N2
  clear n2 f2 N1 L1
  go_wp2_with fail
  refine (hread_two N2.out (by decide) (by decide) rfl rfl 4 1 5 0 1 (by decide) (by decide) (by decide) (by decide) (by decide) rfl w8_r0 w8_r1).mono ?_
  rw [if_pos (by decide)]
  rintro e W3 ⟨rfl, n3, f3⟩
  have N3 := Lib.hid (show DiskAt W3 w.heap.size (w.heap.size + 1) pl2 w8c from n3)
  have L3 := Lib.hid (L2.out.trans (f3.to_below (fun k hk => (N2.out.lt k hk).2) L2.out.size))
  have NN := Lib.hid (show ∀ k, pl2.has (w.heap.size + 1) k → k < W3.heap.size from fun k hk => (N3.out.lt k hk).1)
  have G3 := Lib.hid (Blk.new W3 28 #[.int .i64 5, .int .i64 0, .int .i64 1])
  have N3' := Lib.hid (N3.out.alloc (.cells #[.int .i64 5, .int .i64 0, .int .i64 1] 28))
  have L3' := Lib.hid (L3.out.alloc L3.out.size (.cells #[.int .i64 5, .int .i64 0, .int .i64 1] 28))
  clear n3 f3 N2 L2
  go_wp2_with fail
  have GL := Lib.hid G3.out.lt
  generalize W3.alloc (.cells #[.int .i64 5, .int .i64 0, .int .i64 1] 28) = W4 at G3 N3' L3' GL ⊢
  refine (show Calls Try.prog _ #[.pointer (some ⟨w.heap.size + 1, 0, none⟩), .int .i64 1, .int .i64 5, .int .u8 1] W4 _ from spoil_goes N3'.out (by decide) 1 5 1 (by decide) (by decide)).mono ?_
  rintro e W5 ⟨rfl, n5, f5⟩
  have N5 := Lib.hid (show DiskAt W5 w.heap.size (w.heap.size + 1) pl2 w8d from n5)
  have L5 := Lib.hid (L3'.out.trans (f5.to_below (fun k hk => (N3'.out.lt k hk).2) L3'.out.size))
  have G5 := Lib.hid (f5.keepBlk G3.out (fun hk => by have := NN.out _ hk; omega))
  clear n5 f5 N3' L3' G3
  go_wp2_with fail
  refine (hread_one N5.out (by decide) (by decide) rfl rfl 4 1 1 (by decide) (by decide) (by decide) rfl w8_s0 (by rw [w8_s1]; exact spoilt_b)).mono ?_
  rintro e W6 ⟨rfl, n6, f6⟩
  have L6 := Lib.hid (L5.out.trans (f6.to_below (fun k hk => (N5.out.lt k hk).2) L5.out.size))
  have G6 := Lib.hid ((f6.keepBlk G5.out (fun hk => by have := NN.out _ hk; omega)).alloc (.cells #[.int .i64 4, .int .i64 1, .int .i64 1] 28))
  have H6 := Lib.hid (Blk.new W6 28 #[.int .i64 4, .int .i64 1, .int .i64 1])
  have L7 := Lib.hid (L6.out.alloc L6.out.size (.cells #[.int .i64 4, .int .i64 1, .int .i64 1] 28))
  clear n6 f6 N5 L5 G5 L6 NN
  have a0 := (G6.out.cell 0).trans (show _ = some (.int .i64 5) from rfl)
  have a1 := (G6.out.cell 1).trans (show _ = some (.int .i64 0) from rfl)
  have a2 := (G6.out.cell 2).trans (show _ = some (.int .i64 1) from rfl)
  go_wp2_with (go_at_call 12; refine (num8_any _ _).mono ?_; rintro e w' ⟨rfl, rfl⟩)
  go_ret
  exact ⟨rfl, L7.out⟩
end Go.Proofs.Ytcfkoglehjkkdaa

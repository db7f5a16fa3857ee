/- law 4: known. -/
import Derived.Test.YtlhlgfehbfankaaDoorOPrep
namespace Go.Proofs.YtlhlgfehbfankaaDoor
open Go.RowKit
/-- a node that was given three times -/
def kn1 : Oj := ⟨1, 3, 0, zks, zbs, rfl, rfl⟩
def knk : Ky := ⟨2, 1, 3, 0, 0, 0⟩
theorem builtKn : Tryd.prog.built 34 [(0, .int .i64 1), (1, .int .i64 3)] = some kn1.cells.toArray := by kernel_rfl
theorem kn1_ok : kn1.ok 2 := ⟨by decide, by decide, by decide, .inl ⟨rfl, fun x hx => by
  obtain rfl := (List.mem_replicate.1 hx).2
  exact zk_may 2⟩⟩
theorem knk_ok : knk.ok := ⟨2, rfl, by decide, by decide, by decide, by decide, by decide, by decide, by decide, by decide, by decide, .inl rfl⟩
theorem knk_of : knk.of := ⟨knk_ok, by decide, by decide⟩
theorem knk_cn : knk.cn kn1 = true := by
  unfold Ky.cn
  refine cnt_yes ⟨knk_ok, fun h => ⟨?_, rfl, .inl (by decide)⟩⟩
  unfold Ky.want
  rw [if_pos h]
  rfl
theorem prepd_kn : prepd [oz, kn1] knk = knk := by
  unfold prepd
  rw [named_is knk_of]
  have e : ([oz, kn1] : List Oj)[knk.o.toNat]? = some kn1 := rfl
  rw [e, Option.filter_some, knk_cn]
  rfl
theorem new_2 (w : World) (hT : Tab w) : Calls Tryd.prog 17 #[.int .i64 2] w fun e w' => e = .returned (.tuple #[pv (w.heap.size + 1), .int .i64 0]) ∧ (∃ A' cap' ps, StAt w' (w.heap.size + 1) (w.heap.size + 1) A' cap' ps [oz, oz]) ∧ Below w.heap.size w w' := new_ok 2 w hT (by decide) (by decide)
section
variable {w : World} {base p : Nat} {A : Option Addr} {cap : Nat} {ps : List Nat}
theorem put_kn (h : StAt w base p A cap ps [oz, oz]) (hT : Tab w) :
    Calls Tryd.prog 18 #[pv p, .int .i64 1, kn1.val] w fun e' w' => e' = .returned (.int .i64 0) ∧ StAt w' base p A cap ps [oz, kn1] ∧ Below base w w' := by
  refine (put_ok h hT 1 (by decide) kn1 kn1_ok).mono ?_
  rintro e w' ⟨he, hs, hf⟩
  refine ⟨he, hs, hf.to_below (fun k hk => (h.pps k hk).1) ?_⟩
  have := h.lt p (.inl rfl)
  omega
theorem get_kn (h : StAt w base p A cap ps [oz, kn1]) :
    Calls Tryd.prog 19 #[pv p, .int .i64 1] w fun e' w' => e' = .returned (.tuple #[kn1.val, .int .i64 0]) ∧ Below w.heap.size w w' := get_at h 1 (by decide)
theorem size_kn (h : StAt w base p A cap ps [oz, kn1]) :
    Calls Tryd.prog 30 #[pv p] w fun e' w' => e' = .returned (.int .i64 2) ∧ w = w' := size_at h (by decide)
theorem prep_kn (h : StAt w base p A cap ps [oz, kn1]) (hT : Tab w) :
    Calls Tryd.prog 21 #[pv p, .agg (kc 2 1 3 0 0 0)] w fun e' w' => e' = .returned (.agg #[.int .i64 2, .int .i64 1, .int .i64 3, .int .i64 0, .int .i64 0, .int .i64 0]) ∧ Below w.heap.size w w' := by
  have := prep_at h (by decide) hT knk
  rw [prepd_kn] at this
  exact this
theorem kn1_cells (h : ObAt w p 0 kn1) : w.cell? ⟨p, 1, none⟩ = some (.int .i64 3) := h.cells.2.1
end
theorem y_fieldO {ops : Array Oper} {o : Oper} {a : Act} {S : World → Prop} (hw : Region.wanted o (yielded ops a.tmps) = true) (p : Operand) (ho : o.op = .field 30 p 1) (x : Ky) (hx : a.eval p = x.val) : YieldsIf Tryd.prog ops S o (.int .i64 x.o) a := .inl ⟨hw, fun w _ => by
  have hp : (part 3 (kc x.k x.o x.c x.l x.r x.v) 1).run Tryd.prog w = .ok (.int .i64 x.o) w := run_part_plain w (by kernel_rfl) rfl
  unfold execOp
  simp [ho, hx, Instr.field, run_underlying Tryd.underlying30, asAgg, hp, Result.andThen]⟩
theorem y_buildKn {ops : Array Oper} {o : Oper} {a : Act} {S : World → Prop} (hw : Region.wanted o (yielded ops a.tmps) = true) (ho : o.op = .build 34 #[(0, .const (.int .i64 1)), (1, .const (.int .i64 3))]) : YieldsIf Tryd.prog ops S o kn1.val a := .inl ⟨hw, fun w _ => by
  unfold execOp
  simp only [ho, Sem.run_bind]
  have := run_build w 34 #[(0, .int .i64 1), (1, .int .i64 3)] _ builtKn
  simp only [List.map_toArray, List.map_cons, List.map_nil, Act.eval, this, Result.andThen_ok, Sem.run_pure]⟩
set_option maxRecDepth 100000 in
set_option maxHeartbeats 2000000 in
theorem known_any (w : World) (hT : Tab w) : Calls Tryd.prog 11 #[] w fun e w' => e = .returned (.bool true) ∧ Below w.heap.size w w' := by
  have hz := z34
  have hbl := oz_len
  have HT := Lib.hid hT
  clear hT
  go_enter Tryd.func11, Tryd.ntmps11
  go_wp2_with (first
    | (go_at_call 17; refine (new_2 _ HT.out).mono ?_; rintro e w1 ⟨rfl, ⟨A1, cap1, ps1, hs⟩, b1⟩; have HB1 := Lib.hid b1; have HT1 := Lib.hid (HT.out.below b1); have HS1 := Lib.hid hs; clear b1 hs)
    | (refine wpList_yields (S := fun _ => True) (y_buildKn (by rfl) (by rfl)) trivial ?_)
    | (go_at_call 18; refine (put_kn HS1.out HT1.out).mono ?_; rintro e w2 ⟨rfl, hs, b2⟩; have HB2 := Lib.hid (HB1.out.trans (b2.mono (by omega))); have HT2 := Lib.hid (HT.out.below HB2.out); have HS2 := Lib.hid hs; clear b2 hs)
    | (go_at_call 19; refine (get_kn HS2.out).mono ?_; rintro e w3 ⟨rfl, b3⟩; have HB3 := Lib.hid ((HB2.out.trans (b3.mono HB2.out.size)).alloc (by have := HB2.out.size; have := b3.size; omega) (.cells kn1.cells.toArray 34)); have HT3 := Lib.hid ((HT2.out.below b3).alloc (.cells kn1.cells.toArray 34)); have HS3 := Lib.hid ((HS2.out.below b3).alloc (.cells kn1.cells.toArray 34)); have c3 := kn1_cells (Blk.new w3 34 kn1.cells.toArray).ob; clear b3)
    | (refine wpList_store_last rfl (.tmp 4) (.tmp 16) rfl _ rfl rfl kn1 oz rfl ?_)
    | (refine wpList_yields (S := fun _ => True) (y_fieldO (by rfl) (.tmp 41) (by rfl) ⟨2, 1, 3, 0, 0, 0⟩ (by rfl)) trivial ?_)
    | (go_at_call 30; refine (size_kn HS3.out).mono ?_; rintro e w4 ⟨rfl, rfl⟩)
    | (go_at_call 21; refine (prep_kn HS3.out HT3.out).mono ?_; rintro e w5 ⟨rfl, b5⟩; have HB5 := Lib.hid (HB3.out.trans (b5.mono HB3.out.size)); clear b5))
  go_ret
  exact ⟨rfl, HB5.out⟩
end Go.Proofs.YtlhlgfehbfankaaDoor

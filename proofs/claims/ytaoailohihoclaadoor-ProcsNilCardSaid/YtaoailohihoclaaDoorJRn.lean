/- procs: Running of a store that is not there. -/
import Derived.Test.YtaoailohihoclaaDoorJCl
import Derived.Test.YtaoailohihoclaaDoorR18
import Derived.Test.YtaoailohihoclaaDoorR17
namespace Go.Proofs.YtaoailohihoclaaDoor
open Go.RowKit Go.Shelf
attribute [local go_sem] Oper.semAt_some
set_option maxRecDepth 100000 in
set_option maxHeartbeats 4000000 in
theorem running_nil (w : World) : Calls Tryd.prog 18 #[.pointer none] w fun e w' => e = .returned (.slice none 0 0) ∧ Below w.heap.size w w' := by
  have hz := z34
  have hbl := oz_len
  have hFw : ∀ f, Fence.wide.fn f := fun _ => trivial
  have HB := Lib.hid ((((Below.refl w.heap.size w).alloc (Nat.le_refl _) (.cells #[.pointer none] 24)).alloc (by simp) (.cells #[.slice none 0 0] 49)).alloc (by simp; omega) (.cells #[.pointer none] 24))
  have HV := Lib.hid (show Blk (((w.alloc (.cells #[.pointer none] 24)).alloc (.cells #[.slice none 0 0] 49)).alloc (.cells #[.pointer none] 24)) (w.heap.size + 1) 49 #[.slice none 0 0] from by have := (Blk.new (w.alloc (.cells #[.pointer none] 24)) 49 #[.slice none 0 0]).alloc (.cells #[.pointer none] 24); simpa using this)
  have HP := Lib.hid (show Blk (((w.alloc (.cells #[.pointer none] 24)).alloc (.cells #[.slice none 0 0] 49)).alloc (.cells #[.pointer none] 24)) (w.heap.size + 1 + 1) 24 #[.pointer none] from by have := Blk.new ((w.alloc (.cells #[.pointer none] 24)).alloc (.cells #[.slice none 0 0] 49)) 24 #[.pointer none]; simpa using this)
  have SZ := Lib.hid (show (((w.alloc (.cells #[.pointer none] 24)).alloc (.cells #[.slice none 0 0] 49)).alloc (.cells #[.pointer none] 24)).heap.size = w.heap.size + 3 by simp)
  refine (callsIn_wide (n := 4)).1 (callsIn_of_wp_marks Tryd.func18 rfl trivial ?_ rfl)
  simp only [Tryd.ntmps18, List.size_toArray, List.length_cons, List.length_nil, Nat.reduceAdd, Nat.reduceSub, Array.replicate_succ, Array.replicate_zero, List.push_toArray, List.append_toArray, List.nil_append, List.cons_append]
  gi_wp2_with (first
    | (gi_at_call 32; refine ((callsIn_wide (n := 3)).2 (all_any _ (.inl rfl) _)).mono ?_; rintro e w1 ⟨rfl, rfl⟩))
  generalize (((w.alloc (.cells #[.pointer none] 24)).alloc (.cells #[.slice none 0 0] 49)).alloc (.cells #[.pointer none] 24)) = W3 at HB HV HP SZ ⊢
  refine wpIn_rangeFunc_ownH (α := Unit) (F := Fence.wide) (Kp := fun _ _ => True) (w0 := W3) rfl (by omega) (gf := 73) (a := { tmps := #[.pointer none, .pointer (some ⟨w.heap.size, 0, none⟩), .slice none 0 0, .pointer (some ⟨w.heap.size + 1, 0, none⟩), undef, undef, undef, .pointer none, .func (.func 73) #[] #[.pointer (some ⟨w.heap.size + 1 + 1, 0, none⟩)], undef, undef, undef, undef, undef, undef, undef, undef, undef, undef, undef, undef], defers := [] }) rfl trivial (enters_of Tryd.func73 (by kernel_rfl) rfl)
    (all1_nil 3 (by omega) (w.heap.size + 1 + 1) W3 ((HP.out.cell 0).trans rfl)) (fun _ _ => trivial) (fun _ _ _ _ _ _ _ _ => trivial) (Below.refl _ _) (fun _ => rfl)
    (fun _ W => Blk W (w.heap.size + 1) 49 #[.slice none 0 0] ∧ Below w.heap.size w W ∧ W3.heap.size ≤ W.heap.size)
    (fun _ _ _ => False)
    ((own_blk _ _ _ (fun _ => _)).and ((ownFrom_below (Nat.le_refl _) HB.out.size).and (own_size _ _)))
    (fun _ _ _ _ _ hs _ _ => hs.elim) ⟨HV.out, HB.out, Nat.le_refl _⟩
    (fun _ _ _ => True) (fun _ _ _ _ _ _ _ _ _ => trivial) ?assign ?body ?done ?stop
  case assign =>
    rintro l' pre x' W K ⟨i1, i2, i3⟩ hK
    have HKK := Lib.hid (fun a' => hK a' (W.alloc (.cells oz.cells.toArray 56)) ((KeepsOthers.alloc W _).from _) trivial ⟨i1.alloc _, i2.alloc i2.size _, by rw [World.size_alloc]; omega⟩ trivial)
    clear hK i1 i2 i3
    gi_wp2_with (refine wpListIn_store_last rfl (.tmp 5) (.tmp 10) rfl _ rfl rfl oz oz rfl ?_)
    exact HKK.out _
  case body =>
    intro l' pre x' a' W _ _ _ _ hlen
    exact absurd hlen (Nat.not_lt_zero _)
  case stop =>
    rintro D c pre W _ _ hf _
    exact hf.elim
  case done =>
    rintro D xs W hD hS ⟨i1, i2, i3⟩ hK
    have c1 : W.cell? ⟨w.heap.size + 1, 0, none⟩ = some (.slice none 0 0) := (i1.cell 0).trans rfl
    have I2 := Lib.hid i2
    have HK := Lib.hid hK
    have HD := Lib.hid (show w.heap.size + 3 ≤ D by have := SZ.out; omega)
    clear i1 i2 i3 hK hS hD
    gi_wp2
    refine ⟨by simp, .inl ⟨_, _, rfl, run_takeDeferred HK.out, ?_⟩⟩
    exact ⟨_, results_tmp rfl _ _ _, rfl, I2.out.trans (belowK_b (w := w) (Nat.le_refl _) W D _ _ (by have := HD.out; omega) HK.out rfl rfl)⟩
end Go.Proofs.YtaoailohihoclaaDoor

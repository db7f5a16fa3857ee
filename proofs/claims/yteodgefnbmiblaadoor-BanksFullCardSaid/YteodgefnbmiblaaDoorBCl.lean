/- banks: Raze, Range as they are called. -/
import Derived.Test.YteodgefnbmiblaaDoorBRz
namespace Go.Proofs.YteodgefnbmiblaaDoor
open Go.RowKit
set_option maxRecDepth 8000 in
theorem builtT (a b : Int) : Tryd.prog.built 95 [(0, .int .i64 a), (1, .int .i64 b)] = some #[.int .i64 a, .int .i64 b] := by kernel_rfl
set_option maxRecDepth 100000 in
set_option maxHeartbeats 4000000 in
theorem cl_range {w : World} (p : Nat) (x : Int) (u : Oj) (a b : Nat) (ha : (sl0 u).v = (a : Int)) (hb : (sl1 u).v = (b : Int)) :
    Calls Tryd.prog 46 #[bkv p x u] w fun e w' => e = .returned (.agg #[.int .i64 (a : Int), .int .i64 (b : Int)]) ∧ Below w.heap.size w w' := by
  have hzt := zT
  have hbl := bkc_len p x u
  have HA := Lib.hid ha
  have HBV := Lib.hid hb
  have HB0 := Lib.hid (((Below.refl w.heap.size w).alloc (Nat.le_refl _) (.cells (bkc p x u).toArray 78)).alloc (by simp) (.cells #[.int .i64 0, .int .i64 0] 95))
  have HK0 := Lib.hid ((Blk.new w 78 (bkc p x u).toArray).alloc (.cells #[.int .i64 0, .int .i64 0] 95))
  have HZ0 := Lib.hid (Blk.new_of (w.alloc (.cells (bkc p x u).toArray 78)) 95 #[.int .i64 0, .int .i64 0] (g := w.heap.size + 1) (by simp))
  clear ha hb
  go_enter Tryd.func46, Tryd.ntmps46
  go_wp2_with fail
  refine wp_region_only (S := fun w' => BkAt w' w.heap.size 0 p x u) (by kernel_rfl) HK0.out.drew.bk (fun hHeld => ?_)
  refine wpAnyH_take (i := 0) rfl (by kernel_rfl) (by kernel_rfl) (by kernel_rfl) (fun _ _ _ h => h) (y_bk (by rfl) (.tmp 1) (by rfl) w.heap.size 0 (by rfl) p x u (fun _ h => h)) hHeld ?_
  try simp only [Act.put, List.getElem_toArray, List.getElem_cons_zero, List.setIfInBounds_toArray, List.set_cons_zero, List.set_cons_succ]
  refine wpAnyH_take (i := 2) rfl (by kernel_rfl) (by kernel_rfl) (by kernel_rfl) (fun _ _ _ h => h) (y_bk (by rfl) (.tmp 1) (by rfl) w.heap.size 0 (by rfl) p x u (fun _ h => h)) hHeld ?_
  try simp only [Act.put, List.getElem_toArray, List.getElem_cons_succ, List.getElem_cons_zero, List.setIfInBounds_toArray, List.set_cons_zero, List.set_cons_succ]
  refine wpAnyH_ready (rs := [1]) (by kernel_rfl) (by simp) ?_
  refine AllReadyH.cons (by rfl) (fun K hK => ?_) AllReadyH.nil
  go_simp
  refine (first_eq p x u _ HA.out).mono ?_
  rintro e w1 ⟨rfl, b_⟩
  have HB1 := Lib.hid ((below_drew HB0.out).trans (b_.mono (below_drew HB0.out).size))
  have HK1 := Lib.hid (HK0.out.drew.keep b_)
  have HZ1 := Lib.hid (HZ0.out.drew.keep b_)
  clear b_ hHeld
  go_wp2_with fail
  refine hK.out _ _ HK1.out.bk (fun hHeld => ?_)
  clear hK K
  try simp only [Act.put, List.getElem_toArray, List.getElem_cons_succ, List.getElem_cons_zero, List.setIfInBounds_toArray, List.set_cons_zero, List.set_cons_succ]
  refine wpAnyH_ready (rs := [3]) (by kernel_rfl) (by simp) ?_
  refine AllReadyH.cons (by rfl) (fun K hK => ?_) AllReadyH.nil
  go_simp
  refine (last_eq p x u _ HBV.out).mono ?_
  rintro e w2 ⟨rfl, b_⟩
  have HB2 := Lib.hid (HB1.out.trans (b_.mono HB1.out.size))
  have HK2 := Lib.hid (HK1.out.keep b_)
  have HZ2 := Lib.hid (HZ1.out.keep b_)
  clear b_ hHeld
  go_wp2_with fail
  refine hK.out _ _ HK2.out.bk (fun hHeld => ?_)
  clear hK K
  try simp only [Act.put, List.getElem_toArray, List.getElem_cons_succ, List.getElem_cons_zero, List.setIfInBounds_toArray, List.set_cons_zero, List.set_cons_succ]
  refine wpAnyH_take (i := 4) rfl (by kernel_rfl) (by kernel_rfl) (by kernel_rfl) (fun _ _ _ h => h) (y_bl2 (by rfl) (.tmp 4) (.tmp 6) (by rfl) (by rfl) (by rfl) (builtT (a : Int) (b : Int))) hHeld ?_
  try simp only [Act.put, List.getElem_toArray, List.getElem_cons_succ, List.getElem_cons_zero, List.setIfInBounds_toArray, List.set_cons_zero, List.set_cons_succ]
  refine wpAnyH_ready (rs := [5]) (by kernel_rfl) (by simp) ?_
  refine AllReadyH.cons (by rfl) (fun K hK => ?_) AllReadyH.nil
  refine step_store_big (l0 := [.int .i64 0, .int .i64 0]) (l := [.int .i64 (a : Int), .int .i64 (b : Int)]) HZ2.out rfl (.tmp 2) (.tmp 7) (ty := 95) rfl (by rfl) (by rfl) sizeT rfl (by intro v hv; simp at hv; rcases hv with rfl | rfl <;> rfl) ?_
  refine hK.out _ _ (Blk.row_far HK2.out (by omega) _).bk (fun hHeld => ?_)
  clear hK K
  try simp only [Act.put, List.getElem_toArray, List.getElem_cons_succ, List.getElem_cons_zero]
  refine wpAnyH_done (by kernel_rfl) ?_ _
  refine OnlyN.normal ?_
  go_wp2_with fail
  exact bodyPost_ret (res_1 rfl _ _ (w.heap.size + 1) _ rfl (load_two (a : Int) (b : Int) (HZ2.out.setRow _))) rfl ⟨rfl, below_setRow HB2.out (by omega) _⟩
open Classical in
/-- what Raze, and Range, tell -/
noncomputable def rzA (os : List Oj) (x : Ky) : List Oj × Int × Int := if bnkE os x = 0 then (razN os (bnkA os x) x.o (bnkB os x + 1 - bnkA os x), (razC os (bnkA os x) x.o (bnkB os x + 1 - bnkA os x) : Int), 0) else (os, 0, bnkE os x)
open Classical in
noncomputable def rgA (os : List Oj) (x : Ky) : Int × Int × Int := if bnkE os x = 0 then ((bnkA os x : Int), (bnkB os x : Int), 0) else (0, 0, bnkE os x)
theorem rzA_e {os : List Oj} {x : Ky} (h : bnkE os x ≠ 0) : rzA os x = (os, 0, bnkE os x) := if_neg h
theorem rgA_e {os : List Oj} {x : Ky} (h : bnkE os x ≠ 0) : rgA os x = (0, 0, bnkE os x) := if_neg h
set_option maxRecDepth 8000 in
theorem rzA_d {os : List Oj} {x : Ky} {j : Nat} {u : Oj} {a b : Nat} (d : BkD os x j u a b) : rzA os x = (razN os a x.o (b + 1 - a), (razC os a x.o (b + 1 - a) : Int), 0) := by
  unfold rzA
  rw [if_pos d.e, d.fa, d.fb]
set_option maxRecDepth 8000 in
theorem rgA_d {os : List Oj} {x : Ky} {j : Nat} {u : Oj} {a b : Nat} (d : BkD os x j u a b) : rgA os x = ((a : Int), (b : Int), 0) := by
  unfold rgA
  rw [if_pos d.e, d.fa, d.fb]
section
variable {w : World} {base p : Nat} {A : Option Addr} {cap : Nat} {ps : List Nat} {os : List Oj}
set_option maxRecDepth 8000 in
theorem braze_all (h : StAt w base p A cap ps os) (ho : okAll os.length os) (hn : 0 < os.length) (hN : os.length ≤ 64) (hT : TabB base w) (x : Ky) :
    Calls Tryd.prog 13 #[pv p, x.val] w fun e w' => e = .returned (.tuple #[.int .i64 (rzA os x).2.1, .int .i64 (rzA os x).2.2]) ∧ StAt w' base p A cap ps (rzA os x).1 ∧ Fr (fun k => k ∈ ps) w w' := by
  have hTB : ∀ {W}, Below w.heap.size w W → TabB base W := fun hW => hT.up h hW
  by_cases hE : bnkE os x = 0
  · obtain ⟨j, u, a, b, d⟩ := bnkE_d hE
    rw [rzA_d d]
    exact exp_raze_s h _ x _ _ fun W hW => bface_raze_yes (h.below hW) _ x _ (fun V hV => bask_d ((h.below hW).below hV) hn (hTB hW |>.up (h.below hW) hV).tab d) _ fun V hV => cl_raze ((h.below hW).below hV) ho ((hTB hW).up (h.below hW) hV) x.o u a b d.v0 d.v1 d.ab d.bl hN
  · rw [rzA_e hE]
    refine (exp_raze_b (pv p) x 0 _ fun W hW => bface_raze_ask (pv p) x _ fun V hV => bask_e ((h.below hW).below hV) hn (hTB hW |>.up (h.below hW) hV).tab x hE).mono ?_
    rintro e w' ⟨h1, h2⟩
    exact ⟨h1, h.below h2, Fr.of_below h2⟩
set_option maxRecDepth 8000 in
theorem brange_all (h : StAt w base p A cap ps os) (hn : 0 < os.length) (hT : TabB base w) (x : Ky) :
    Calls Tryd.prog 18 #[pv p, x.val] w fun e w' => e = .returned (.tuple #[.int .i64 (rgA os x).1, .int .i64 (rgA os x).2.1, .int .i64 (rgA os x).2.2]) ∧ StAt w' base p A cap ps os ∧ Fr (fun k => k ∈ ps) w w' := by
  have hTB : ∀ {W}, Below w.heap.size w W → TabB base W := fun hW => hT.up h hW
  by_cases hE : bnkE os x = 0
  · obtain ⟨j, u, a, b, d⟩ := bnkE_d hE
    rw [rgA_d d]
    exact exp_range_s h _ x _ _ _ fun W hW => bface_range_yes (h.below hW) _ x _ (fun V hV => bask_d ((h.below hW).below hV) hn (hTB hW |>.up (h.below hW) hV).tab d) _ _ fun V hV => (cl_range p x.o u a b d.v0 d.v1).mono fun e w' q => ⟨q.1, ((h.below hW).below hV).below q.2, Fr.of_below q.2⟩
  · rw [rgA_e hE]
    refine (exp_range_b (pv p) x 0 0 _ fun W hW => bface_range_ask (pv p) x _ fun V hV => bask_e ((h.below hW).below hV) hn (hTB hW |>.up (h.below hW) hV).tab x hE).mono ?_
    rintro e w' ⟨h1, h2⟩
    exact ⟨h1, h.below h2, Fr.of_below h2⟩
end
end Go.Proofs.YteodgefnbmiblaaDoor

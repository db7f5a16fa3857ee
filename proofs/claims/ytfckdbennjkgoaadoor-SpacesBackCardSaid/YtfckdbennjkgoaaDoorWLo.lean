/- spaces: Load, Store, of any outcome. -/
import Derived.Test.YtfckdbennjkgoaaDoorWLs
namespace Go.Proofs.YtfckdbennjkgoaaDoor
open Go.RowKit
section
variable {w : World} {base q : Nat} {A : Option Addr} {cap : Nat} {ps : List Nat} {os : List Oj}
set_option maxRecDepth 8000 in
theorem ld_st (b off : Nat) (s : ByteArray) (w : World) (h : w.cell? ⟨b, off, none⟩ = some (.string s)) : (loadVar 9 ⟨b, off, none⟩).run Tryd.prog w = .ok (.string s) w := by simp [go_sem, h]
theorem load_st {w : World} {g : Nat} {t : TypeId} (s : ByteArray) (h : Blk w g t #[.string s]) : (loadVar 9 ⟨g, 0, none⟩).run Tryd.prog w = .ok (.string s) w := ld_st g 0 s w (h.cell 0)
set_option maxRecDepth 100000 in
set_option maxHeartbeats 4000000 in
theorem sload_e0 (x : Ky) (a n m : Int) (hm : m ≠ 0) (hrf : ∀ W, Below w.heap.size w W → Calls Tryd.prog 49 #[.pointer none, x.val, .int .i64 a, .int .i64 n] W fun e w' => e = .returned (.int .i64 m) ∧ Below W.heap.size W w') :
    Calls Tryd.prog 16 #[.pointer none, x.val, .int .i64 a, .int .i64 n] w fun e w' => e = .returned (.tuple #[.string { data := #[] }, (zfa : Fa).val, .int .i64 m]) ∧ Below w.heap.size w w' := by
  have hmf : ∀ (fn : Fn) (first cap : Array Value) (w : World), (Instr.makeFunc fn first cap).run Tryd.prog w = .ok (.func fn first cap) w := fun _ _ _ _ => rfl
  have hz7 := z35
  have HB0 := Lib.hid ((((((Below.refl w.heap.size w).alloc (Nat.le_refl _) (.cells #[.pointer none] 25)).alloc (by simp) (.cells (kc x.k x.o x.c x.l x.r x.v) 31)).alloc (by simp; omega) (.cells #[.int .i64 n] 3)).alloc (by simp; omega) (.cells #[.string { data := #[] }] 9)).alloc (by simp; omega) (.cells zfa.cells.toArray 36))
  have HP0 := Lib.hid (((((Blk.new w 25 #[.pointer none]).alloc (.cells (kc x.k x.o x.c x.l x.r x.v) 31)).alloc (.cells #[.int .i64 n] 3)).alloc (.cells #[.string { data := #[] }] 9)).alloc (.cells zfa.cells.toArray 36))
  have HK0 := Lib.hid ((((Blk.new_of (w.alloc (.cells #[.pointer none] 25)) 31 (kc x.k x.o x.c x.l x.r x.v) (g := w.heap.size + 1) (by simp)).alloc (.cells #[.int .i64 n] 3)).alloc (.cells #[.string { data := #[] }] 9)).alloc (.cells zfa.cells.toArray 36))
  have HN0 := Lib.hid (((Blk.new_of ((w.alloc (.cells #[.pointer none] 25)).alloc (.cells (kc x.k x.o x.c x.l x.r x.v) 31)) 3 #[.int .i64 n] (g := w.heap.size + 2) (by simp)).alloc (.cells #[.string { data := #[] }] 9)).alloc (.cells zfa.cells.toArray 36))
  have HT0 := Lib.hid ((Blk.new_of (((w.alloc (.cells #[.pointer none] 25)).alloc (.cells (kc x.k x.o x.c x.l x.r x.v) 31)).alloc (.cells #[.int .i64 n] 3)) 9 #[.string { data := #[] }] (g := w.heap.size + 3) (by simp)).alloc (.cells zfa.cells.toArray 36))
  have HA0 := Lib.hid (Blk.new_of ((((w.alloc (.cells #[.pointer none] 25)).alloc (.cells (kc x.k x.o x.c x.l x.r x.v) 31)).alloc (.cells #[.int .i64 n] 3)).alloc (.cells #[.string { data := #[] }] 9)) 36 zfa.cells.toArray (g := w.heap.size + 4) (by simp))
  have HSZ0 := Lib.hid (show (((((w.alloc (.cells #[.pointer none] 25)).alloc (.cells (kc x.k x.o x.c x.l x.r x.v) 31)).alloc (.cells #[.int .i64 n] 3)).alloc (.cells #[.string { data := #[] }] 9)).alloc (.cells zfa.cells.toArray 36)).heap.size = w.heap.size + 5 by simp)
  obtain ⟨c0, c1, c2, c3, c4, c5⟩ := HK0.out.six
  have HM := Lib.hid hm
  have HR := Lib.hid hrf
  clear hm hrf
  go_enter Tryd.func16, Tryd.ntmps16
  go_wp2_with (first
    | (go_at_call 24; refine (facedLoad_err (.pointer none) (w.heap.size + 2) w.heap.size (w.heap.size + 3) x a n m HM.out (fun W hW => HR.out W (HB0.out.trans (hW.mono HB0.out.size)))).mono ?_; rintro e w1 ⟨rfl, b1⟩; have HB1 := Lib.hid (HB0.out.trans (b1.mono HB0.out.size)); have HT1 := Lib.hid (HT0.out.keep b1); have HA1 := Lib.hid (HA0.out.keep b1); clear b1)
    | (show wpList _ _ _ ({ dst := none, op := .store _ (.tmp 9) (.tmp 18), type := _, pos := _, after := _, guard := _ } :: _) _ _; refine wpList_store_big (l0 := zfa.cells) HA1.out rfl (.tmp 9) (.tmp 18) (ty := 36) (l := Fa.cells zfa) rfl (by rfl) (by rfl) sizeFa rfl (Fa.one _) ?_))
  have HT9 := Lib.hid (HT1.out.row_far (b := w.heap.size + 4) (by omega) (Fa.cells zfa).toArray)
  have HA9 := Lib.hid (HA1.out.setRow (Fa.cells zfa).toArray)
  have HB9 := Lib.hid (below_setRow HB1.out (b := w.heap.size + 4) (by omega) (Fa.cells zfa).toArray)
  generalize w1.setRow (w.heap.size + 4) (Fa.cells zfa).toArray = W9 at HT9 HA9 HB9 ⊢
  clear c0 c1 c2 c3 c4 c5
  have HTX := Lib.hid (show Blk (W9.drew.setCell ⟨w.heap.size + 3, 0, none⟩ (.string { data := #[] })) (w.heap.size + 3) 9 #[.string { data := #[] }] from Blk.set_ (w := W9.drew) HT9.out 0 (.string { data := #[] }))
  have HAX := Lib.hid (show Blk (W9.drew.setCell ⟨w.heap.size + 3, 0, none⟩ (.string { data := #[] })) (w.heap.size + 4) 36 (Fa.cells zfa).toArray from Blk.far (w := W9.drew) HA9.out (p := ⟨w.heap.size + 3, 0, none⟩) (by show w.heap.size + 4 ≠ w.heap.size + 3; omega) _)
  have HBX := Lib.hid ((below_drew HB9.out).setCell (p := ⟨w.heap.size + 3, 0, none⟩) (by show w.heap.size ≤ w.heap.size + 3; omega) (.string { data := #[] }))
  refine wp_region_only (S := fun W => W.cell? ⟨w.heap.size + 3, 0, none⟩ = some (.string { data := #[] }) ∧ W.rangeAt (w.heap.size + 4) 0 (Fa.cells zfa)) (by kernel_rfl) ⟨(show Blk W9.drew _ _ _ from HT9.out).cell 0, (show Blk W9.drew _ _ _ from HA9.out).range⟩ (fun hHeld => ?_)
  refine wpAnyH_take (i := 0) rfl (by kernel_rfl) (by kernel_rfl) (by kernel_rfl) (fun _ _ _ h => h) (y_cell (by rfl) 9 (.tmp 8) (by rfl) (w.heap.size + 3) 0 (by rfl) (.string { data := #[] }) (ld_st _ _ _) (fun _ h => h.1)) hHeld ?_
  try simp only [Act.put, List.getElem_toArray, List.getElem_cons_zero, List.setIfInBounds_toArray, List.set_cons_zero, List.set_cons_succ]
  refine wpAnyH_take (i := 1) rfl (by kernel_rfl) (by kernel_rfl) (by kernel_rfl) (fun _ _ _ h => h) (y_fa (by rfl) (.tmp 9) (by rfl) (w.heap.size + 4) 0 (by rfl) zfa (fun _ h => h.2)) hHeld ?_
  try simp only [Act.put, List.getElem_toArray, List.getElem_cons_succ, List.getElem_cons_zero, List.setIfInBounds_toArray, List.set_cons_zero, List.set_cons_succ]
  refine wpAnyH_take (i := 2) (v := ?v1) rfl (by kernel_rfl) (by kernel_rfl) (by kernel_rfl) (fun _ _ _ h => h) (Or.inl ⟨by rfl, ?hy1⟩) hHeld ?rest1
  case hy1 =>
    intro w' hSw
    try dsimp only at hSw
    go_simp
    first | done | with_reducible rfl
  try simp only [Act.put, List.getElem_toArray, List.getElem_cons_succ, List.getElem_cons_zero, List.setIfInBounds_toArray, List.set_cons_zero, List.set_cons_succ]
  refine wpAnyH_ready (rs := [3]) (by kernel_rfl) (by simp) ?_
  refine AllReadyH.cons (by rfl) (fun K hK => ?_) AllReadyH.nil
  have ht0 : W9.drew.cell? ⟨w.heap.size + 3, 0, none⟩ = some (.string { data := #[] }) := HT9.out.cell 0
  have hf0 : W9.drew.frozen? ⟨w.heap.size + 3, 0, none⟩ = false := HT9.out.frozen 0
  go_simp
  refine hK.out _ _ ⟨(by exact HTX.out.cell 0), (by exact HAX.out.range)⟩ (fun hHeld => ?_)
  clear hK K
  try simp only [Act.put, List.getElem_toArray, List.getElem_cons_succ, List.getElem_cons_zero]
  refine wpAnyH_ready (rs := [4]) (by kernel_rfl) (by simp) ?_
  refine AllReadyH.cons (by rfl) (fun K hK => ?_) AllReadyH.nil
  refine step_store_big (by exact HAX.out) rfl (.tmp 9) (.tmp 21) (ty := 36) (l0 := Fa.cells zfa) (l := Fa.cells zfa) (by rfl) (by rfl) (by rfl) sizeFa rfl (Fa.one _) ?_
  have HTY := Lib.hid (HTX.out.row_far (b := w.heap.size + 4) (by omega) (Fa.cells zfa).toArray)
  have HAY := Lib.hid (HAX.out.setRow (Fa.cells zfa).toArray)
  have HBY := Lib.hid (below_setRow HBX.out (b := w.heap.size + 4) (by omega) (Fa.cells zfa).toArray)
  refine hK.out _ _ ⟨(by exact HTY.out.cell 0), (by exact HAY.out.range)⟩ (fun hHeld => ?_)
  clear hK K
  try simp only [Act.put, List.getElem_toArray, List.getElem_cons_succ, List.getElem_cons_zero]
  refine wpAnyH_take (i := 5) (v := ?v2) rfl (by kernel_rfl) (by kernel_rfl) (by kernel_rfl) (fun _ _ _ h => h) (Or.inl ⟨by rfl, ?hy2⟩) hHeld ?rest2
  case hy2 =>
    intro w' hSw
    try dsimp only at hSw
    go_simp
    first | done | with_reducible rfl
  try simp only [Act.put, List.getElem_toArray, List.getElem_cons_succ, List.getElem_cons_zero, List.setIfInBounds_toArray, List.set_cons_zero, List.set_cons_succ]
  refine wpAnyH_done (by kernel_rfl) ?_ _
  refine OnlyN.normal ?_
  go_wp2_with fail
  exact bodyPost_ret (res_2t rfl _ _ (w.heap.size + 3) (w.heap.size + 4) _ _ _ rfl rfl rfl (load_st _ HTY.out) (load_fa _ HAY.out)) rfl ⟨rfl, HBY.out⟩
set_option maxRecDepth 100000 in
set_option maxHeartbeats 4000000 in
theorem sload_e (x : Ky) (a n m : Int) (hm : m ≠ 0) (hrf : ∀ W, Below w.heap.size w W → Calls Tryd.prog 49 #[pv q, x.val, .int .i64 a, .int .i64 n] W fun e w' => e = .returned (.int .i64 m) ∧ Below W.heap.size W w') :
    Calls Tryd.prog 16 #[pv q, x.val, .int .i64 a, .int .i64 n] w fun e w' => e = .returned (.tuple #[.string { data := #[] }, (zfa : Fa).val, .int .i64 m]) ∧ Below w.heap.size w w' := by
  have hmf : ∀ (fn : Fn) (first cap : Array Value) (w : World), (Instr.makeFunc fn first cap).run Tryd.prog w = .ok (.func fn first cap) w := fun _ _ _ _ => rfl
  have hz7 := z35
  have HB0 := Lib.hid ((((((Below.refl w.heap.size w).alloc (Nat.le_refl _) (.cells #[pv q] 25)).alloc (by simp) (.cells (kc x.k x.o x.c x.l x.r x.v) 31)).alloc (by simp; omega) (.cells #[.int .i64 n] 3)).alloc (by simp; omega) (.cells #[.string { data := #[] }] 9)).alloc (by simp; omega) (.cells zfa.cells.toArray 36))
  have HP0 := Lib.hid (((((Blk.new w 25 #[pv q]).alloc (.cells (kc x.k x.o x.c x.l x.r x.v) 31)).alloc (.cells #[.int .i64 n] 3)).alloc (.cells #[.string { data := #[] }] 9)).alloc (.cells zfa.cells.toArray 36))
  have HK0 := Lib.hid ((((Blk.new_of (w.alloc (.cells #[pv q] 25)) 31 (kc x.k x.o x.c x.l x.r x.v) (g := w.heap.size + 1) (by simp)).alloc (.cells #[.int .i64 n] 3)).alloc (.cells #[.string { data := #[] }] 9)).alloc (.cells zfa.cells.toArray 36))
  have HN0 := Lib.hid (((Blk.new_of ((w.alloc (.cells #[pv q] 25)).alloc (.cells (kc x.k x.o x.c x.l x.r x.v) 31)) 3 #[.int .i64 n] (g := w.heap.size + 2) (by simp)).alloc (.cells #[.string { data := #[] }] 9)).alloc (.cells zfa.cells.toArray 36))
  have HT0 := Lib.hid ((Blk.new_of (((w.alloc (.cells #[pv q] 25)).alloc (.cells (kc x.k x.o x.c x.l x.r x.v) 31)).alloc (.cells #[.int .i64 n] 3)) 9 #[.string { data := #[] }] (g := w.heap.size + 3) (by simp)).alloc (.cells zfa.cells.toArray 36))
  have HA0 := Lib.hid (Blk.new_of ((((w.alloc (.cells #[pv q] 25)).alloc (.cells (kc x.k x.o x.c x.l x.r x.v) 31)).alloc (.cells #[.int .i64 n] 3)).alloc (.cells #[.string { data := #[] }] 9)) 36 zfa.cells.toArray (g := w.heap.size + 4) (by simp))
  have HSZ0 := Lib.hid (show (((((w.alloc (.cells #[pv q] 25)).alloc (.cells (kc x.k x.o x.c x.l x.r x.v) 31)).alloc (.cells #[.int .i64 n] 3)).alloc (.cells #[.string { data := #[] }] 9)).alloc (.cells zfa.cells.toArray 36)).heap.size = w.heap.size + 5 by simp)
  obtain ⟨c0, c1, c2, c3, c4, c5⟩ := HK0.out.six
  have HM := Lib.hid hm
  have HR := Lib.hid hrf
  clear hm hrf
  go_enter Tryd.func16, Tryd.ntmps16
  go_wp2_with (first
    | (go_at_call 24; refine (facedLoad_err (pv q) (w.heap.size + 2) w.heap.size (w.heap.size + 3) x a n m HM.out (fun W hW => HR.out W (HB0.out.trans (hW.mono HB0.out.size)))).mono ?_; rintro e w1 ⟨rfl, b1⟩; have HB1 := Lib.hid (HB0.out.trans (b1.mono HB0.out.size)); have HT1 := Lib.hid (HT0.out.keep b1); have HA1 := Lib.hid (HA0.out.keep b1); clear b1)
    | (show wpList _ _ _ ({ dst := none, op := .store _ (.tmp 9) (.tmp 18), type := _, pos := _, after := _, guard := _ } :: _) _ _; refine wpList_store_big (l0 := zfa.cells) HA1.out rfl (.tmp 9) (.tmp 18) (ty := 36) (l := Fa.cells zfa) rfl (by rfl) (by rfl) sizeFa rfl (Fa.one _) ?_))
  have HT9 := Lib.hid (HT1.out.row_far (b := w.heap.size + 4) (by omega) (Fa.cells zfa).toArray)
  have HA9 := Lib.hid (HA1.out.setRow (Fa.cells zfa).toArray)
  have HB9 := Lib.hid (below_setRow HB1.out (b := w.heap.size + 4) (by omega) (Fa.cells zfa).toArray)
  generalize w1.setRow (w.heap.size + 4) (Fa.cells zfa).toArray = W9 at HT9 HA9 HB9 ⊢
  clear c0 c1 c2 c3 c4 c5
  have HTX := Lib.hid (show Blk (W9.drew.setCell ⟨w.heap.size + 3, 0, none⟩ (.string { data := #[] })) (w.heap.size + 3) 9 #[.string { data := #[] }] from Blk.set_ (w := W9.drew) HT9.out 0 (.string { data := #[] }))
  have HAX := Lib.hid (show Blk (W9.drew.setCell ⟨w.heap.size + 3, 0, none⟩ (.string { data := #[] })) (w.heap.size + 4) 36 (Fa.cells zfa).toArray from Blk.far (w := W9.drew) HA9.out (p := ⟨w.heap.size + 3, 0, none⟩) (by show w.heap.size + 4 ≠ w.heap.size + 3; omega) _)
  have HBX := Lib.hid ((below_drew HB9.out).setCell (p := ⟨w.heap.size + 3, 0, none⟩) (by show w.heap.size ≤ w.heap.size + 3; omega) (.string { data := #[] }))
  refine wp_region_only (S := fun W => W.cell? ⟨w.heap.size + 3, 0, none⟩ = some (.string { data := #[] }) ∧ W.rangeAt (w.heap.size + 4) 0 (Fa.cells zfa)) (by kernel_rfl) ⟨(show Blk W9.drew _ _ _ from HT9.out).cell 0, (show Blk W9.drew _ _ _ from HA9.out).range⟩ (fun hHeld => ?_)
  refine wpAnyH_take (i := 0) rfl (by kernel_rfl) (by kernel_rfl) (by kernel_rfl) (fun _ _ _ h => h) (y_cell (by rfl) 9 (.tmp 8) (by rfl) (w.heap.size + 3) 0 (by rfl) (.string { data := #[] }) (ld_st _ _ _) (fun _ h => h.1)) hHeld ?_
  try simp only [Act.put, List.getElem_toArray, List.getElem_cons_zero, List.setIfInBounds_toArray, List.set_cons_zero, List.set_cons_succ]
  refine wpAnyH_take (i := 1) rfl (by kernel_rfl) (by kernel_rfl) (by kernel_rfl) (fun _ _ _ h => h) (y_fa (by rfl) (.tmp 9) (by rfl) (w.heap.size + 4) 0 (by rfl) zfa (fun _ h => h.2)) hHeld ?_
  try simp only [Act.put, List.getElem_toArray, List.getElem_cons_succ, List.getElem_cons_zero, List.setIfInBounds_toArray, List.set_cons_zero, List.set_cons_succ]
  refine wpAnyH_take (i := 2) (v := ?v3) rfl (by kernel_rfl) (by kernel_rfl) (by kernel_rfl) (fun _ _ _ h => h) (Or.inl ⟨by rfl, ?hy3⟩) hHeld ?rest3
  case hy3 =>
    intro w' hSw
    try dsimp only at hSw
    go_simp
    first | done | with_reducible rfl
  try simp only [Act.put, List.getElem_toArray, List.getElem_cons_succ, List.getElem_cons_zero, List.setIfInBounds_toArray, List.set_cons_zero, List.set_cons_succ]
  refine wpAnyH_ready (rs := [3]) (by kernel_rfl) (by simp) ?_
  refine AllReadyH.cons (by rfl) (fun K hK => ?_) AllReadyH.nil
  have ht0 : W9.drew.cell? ⟨w.heap.size + 3, 0, none⟩ = some (.string { data := #[] }) := HT9.out.cell 0
  have hf0 : W9.drew.frozen? ⟨w.heap.size + 3, 0, none⟩ = false := HT9.out.frozen 0
  go_simp
  refine hK.out _ _ ⟨(by exact HTX.out.cell 0), (by exact HAX.out.range)⟩ (fun hHeld => ?_)
  clear hK K
  try simp only [Act.put, List.getElem_toArray, List.getElem_cons_succ, List.getElem_cons_zero]
  refine wpAnyH_ready (rs := [4]) (by kernel_rfl) (by simp) ?_
  refine AllReadyH.cons (by rfl) (fun K hK => ?_) AllReadyH.nil
  refine step_store_big (by exact HAX.out) rfl (.tmp 9) (.tmp 21) (ty := 36) (l0 := Fa.cells zfa) (l := Fa.cells zfa) (by rfl) (by rfl) (by rfl) sizeFa rfl (Fa.one _) ?_
  have HTY := Lib.hid (HTX.out.row_far (b := w.heap.size + 4) (by omega) (Fa.cells zfa).toArray)
  have HAY := Lib.hid (HAX.out.setRow (Fa.cells zfa).toArray)
  have HBY := Lib.hid (below_setRow HBX.out (b := w.heap.size + 4) (by omega) (Fa.cells zfa).toArray)
  refine hK.out _ _ ⟨(by exact HTY.out.cell 0), (by exact HAY.out.range)⟩ (fun hHeld => ?_)
  clear hK K
  try simp only [Act.put, List.getElem_toArray, List.getElem_cons_succ, List.getElem_cons_zero]
  refine wpAnyH_take (i := 5) (v := ?v4) rfl (by kernel_rfl) (by kernel_rfl) (by kernel_rfl) (fun _ _ _ h => h) (Or.inl ⟨by rfl, ?hy4⟩) hHeld ?rest4
  case hy4 =>
    intro w' hSw
    try dsimp only at hSw
    go_simp
    first | done | with_reducible rfl
  try simp only [Act.put, List.getElem_toArray, List.getElem_cons_succ, List.getElem_cons_zero, List.setIfInBounds_toArray, List.set_cons_zero, List.set_cons_succ]
  refine wpAnyH_done (by kernel_rfl) ?_ _
  refine OnlyN.normal ?_
  go_wp2_with fail
  exact bodyPost_ret (res_2t rfl _ _ (w.heap.size + 3) (w.heap.size + 4) _ _ _ rfl rfl rfl (load_st _ HTY.out) (load_fa _ HAY.out)) rfl ⟨rfl, HBY.out⟩
set_option maxRecDepth 100000 in
set_option maxHeartbeats 4000000 in
theorem sload_fault (h : StAt w base q A cap ps os) (hn : 0 < os.length) (ho : okAll os.length os) (hT : Tab w) (x : Ky) (an : Nat) (ha : an ≤ 9223372036854775807) (n : Int) (hra : refA os x (an : Int) n = 0) {k : Int} {kp : Ky} (hO : goneW os x (an : Int) = .fault k kp) :
    Calls Tryd.prog 16 #[pv q, x.val, .int .i64 (an : Int), .int .i64 n] w fun e w' => e = .returned (.tuple #[.string { data := #[] }, (⟨k, kp, (an : Int)⟩ : Fa).val, .int .i64 0]) ∧ Below w.heap.size w w' := by
  have hmf : ∀ (fn : Fn) (first cap : Array Value) (w : World), (Instr.makeFunc fn first cap).run Tryd.prog w = .ok (.func fn first cap) w := fun _ _ _ _ => rfl
  have hz7 := z35
  have HB0 := Lib.hid ((((((Below.refl w.heap.size w).alloc (Nat.le_refl _) (.cells #[pv q] 25)).alloc (by simp) (.cells (kc x.k x.o x.c x.l x.r x.v) 31)).alloc (by simp; omega) (.cells #[.int .i64 n] 3)).alloc (by simp; omega) (.cells #[.string { data := #[] }] 9)).alloc (by simp; omega) (.cells zfa.cells.toArray 36))
  have HP0 := Lib.hid (((((Blk.new w 25 #[pv q]).alloc (.cells (kc x.k x.o x.c x.l x.r x.v) 31)).alloc (.cells #[.int .i64 n] 3)).alloc (.cells #[.string { data := #[] }] 9)).alloc (.cells zfa.cells.toArray 36))
  have HK0 := Lib.hid ((((Blk.new_of (w.alloc (.cells #[pv q] 25)) 31 (kc x.k x.o x.c x.l x.r x.v) (g := w.heap.size + 1) (by simp)).alloc (.cells #[.int .i64 n] 3)).alloc (.cells #[.string { data := #[] }] 9)).alloc (.cells zfa.cells.toArray 36))
  have HN0 := Lib.hid (((Blk.new_of ((w.alloc (.cells #[pv q] 25)).alloc (.cells (kc x.k x.o x.c x.l x.r x.v) 31)) 3 #[.int .i64 n] (g := w.heap.size + 2) (by simp)).alloc (.cells #[.string { data := #[] }] 9)).alloc (.cells zfa.cells.toArray 36))
  have HT0 := Lib.hid ((Blk.new_of (((w.alloc (.cells #[pv q] 25)).alloc (.cells (kc x.k x.o x.c x.l x.r x.v) 31)).alloc (.cells #[.int .i64 n] 3)) 9 #[.string { data := #[] }] (g := w.heap.size + 3) (by simp)).alloc (.cells zfa.cells.toArray 36))
  have HA0 := Lib.hid (Blk.new_of ((((w.alloc (.cells #[pv q] 25)).alloc (.cells (kc x.k x.o x.c x.l x.r x.v) 31)).alloc (.cells #[.int .i64 n] 3)).alloc (.cells #[.string { data := #[] }] 9)) 36 zfa.cells.toArray (g := w.heap.size + 4) (by simp))
  have HSZ0 := Lib.hid (show (((((w.alloc (.cells #[pv q] 25)).alloc (.cells (kc x.k x.o x.c x.l x.r x.v) 31)).alloc (.cells #[.int .i64 n] 3)).alloc (.cells #[.string { data := #[] }] 9)).alloc (.cells zfa.cells.toArray 36)).heap.size = w.heap.size + 5 by simp)
  obtain ⟨c0, c1, c2, c3, c4, c5⟩ := HK0.out.six
  have HST := Lib.hid h
  have HN := Lib.hid hn
  have HOK := Lib.hid ho
  have HTT := Lib.hid hT
  have HAN := Lib.hid ha
  have HRA := Lib.hid hra
  have HO := Lib.hid hO
  clear h hn ho hT ha hra hO
  go_enter Tryd.func16, Tryd.ntmps16
  go_wp2_with (first
    | (go_at_call 24; refine (facedLoad_fault (w.heap.size + 2) w.heap.size (w.heap.size + 3) (HST.out.below HB0.out) HN.out HOK.out (HTT.out.below HB0.out) x an HAN.out n HRA.out HO.out).mono ?_; rintro e w1 ⟨rfl, b1⟩; have HB1 := Lib.hid (HB0.out.trans (b1.mono HB0.out.size)); have HT1 := Lib.hid (HT0.out.keep b1); have HA1 := Lib.hid (HA0.out.keep b1); clear b1)
    | (show wpList _ _ _ ({ dst := none, op := .store _ (.tmp 9) (.tmp 18), type := _, pos := _, after := _, guard := _ } :: _) _ _; refine wpList_store_big (l0 := zfa.cells) HA1.out rfl (.tmp 9) (.tmp 18) (ty := 36) (l := Fa.cells ⟨k, kp, (an : Int)⟩) rfl (by rfl) (by rfl) sizeFa rfl (Fa.one _) ?_))
  have HT9 := Lib.hid (HT1.out.row_far (b := w.heap.size + 4) (by omega) (Fa.cells ⟨k, kp, (an : Int)⟩).toArray)
  have HA9 := Lib.hid (HA1.out.setRow (Fa.cells ⟨k, kp, (an : Int)⟩).toArray)
  have HB9 := Lib.hid (below_setRow HB1.out (b := w.heap.size + 4) (by omega) (Fa.cells ⟨k, kp, (an : Int)⟩).toArray)
  generalize w1.setRow (w.heap.size + 4) (Fa.cells ⟨k, kp, (an : Int)⟩).toArray = W9 at HT9 HA9 HB9 ⊢
  clear c0 c1 c2 c3 c4 c5
  have HTX := Lib.hid (show Blk (W9.drew.setCell ⟨w.heap.size + 3, 0, none⟩ (.string { data := #[] })) (w.heap.size + 3) 9 #[.string { data := #[] }] from Blk.set_ (w := W9.drew) HT9.out 0 (.string { data := #[] }))
  have HAX := Lib.hid (show Blk (W9.drew.setCell ⟨w.heap.size + 3, 0, none⟩ (.string { data := #[] })) (w.heap.size + 4) 36 (Fa.cells ⟨k, kp, (an : Int)⟩).toArray from Blk.far (w := W9.drew) HA9.out (p := ⟨w.heap.size + 3, 0, none⟩) (by show w.heap.size + 4 ≠ w.heap.size + 3; omega) _)
  have HBX := Lib.hid ((below_drew HB9.out).setCell (p := ⟨w.heap.size + 3, 0, none⟩) (by show w.heap.size ≤ w.heap.size + 3; omega) (.string { data := #[] }))
  refine wp_region_only (S := fun W => W.cell? ⟨w.heap.size + 3, 0, none⟩ = some (.string { data := #[] }) ∧ W.rangeAt (w.heap.size + 4) 0 (Fa.cells ⟨k, kp, (an : Int)⟩)) (by kernel_rfl) ⟨(show Blk W9.drew _ _ _ from HT9.out).cell 0, (show Blk W9.drew _ _ _ from HA9.out).range⟩ (fun hHeld => ?_)
  refine wpAnyH_take (i := 0) rfl (by kernel_rfl) (by kernel_rfl) (by kernel_rfl) (fun _ _ _ h => h) (y_cell (by rfl) 9 (.tmp 8) (by rfl) (w.heap.size + 3) 0 (by rfl) (.string { data := #[] }) (ld_st _ _ _) (fun _ h => h.1)) hHeld ?_
  try simp only [Act.put, List.getElem_toArray, List.getElem_cons_zero, List.setIfInBounds_toArray, List.set_cons_zero, List.set_cons_succ]
  refine wpAnyH_take (i := 1) rfl (by kernel_rfl) (by kernel_rfl) (by kernel_rfl) (fun _ _ _ h => h) (y_fa (by rfl) (.tmp 9) (by rfl) (w.heap.size + 4) 0 (by rfl) ⟨k, kp, (an : Int)⟩ (fun _ h => h.2)) hHeld ?_
  try simp only [Act.put, List.getElem_toArray, List.getElem_cons_succ, List.getElem_cons_zero, List.setIfInBounds_toArray, List.set_cons_zero, List.set_cons_succ]
  refine wpAnyH_take (i := 2) (v := ?v5) rfl (by kernel_rfl) (by kernel_rfl) (by kernel_rfl) (fun _ _ _ h => h) (Or.inl ⟨by rfl, ?hy5⟩) hHeld ?rest5
  case hy5 =>
    intro w' hSw
    try dsimp only at hSw
    go_simp
    first | done | with_reducible rfl
  try simp only [Act.put, List.getElem_toArray, List.getElem_cons_succ, List.getElem_cons_zero, List.setIfInBounds_toArray, List.set_cons_zero, List.set_cons_succ]
  refine wpAnyH_ready (rs := [3]) (by kernel_rfl) (by simp) ?_
  refine AllReadyH.cons (by rfl) (fun K hK => ?_) AllReadyH.nil
  have ht0 : W9.drew.cell? ⟨w.heap.size + 3, 0, none⟩ = some (.string { data := #[] }) := HT9.out.cell 0
  have hf0 : W9.drew.frozen? ⟨w.heap.size + 3, 0, none⟩ = false := HT9.out.frozen 0
  go_simp
  refine hK.out _ _ ⟨(by exact HTX.out.cell 0), (by exact HAX.out.range)⟩ (fun hHeld => ?_)
  clear hK K
  try simp only [Act.put, List.getElem_toArray, List.getElem_cons_succ, List.getElem_cons_zero]
  refine wpAnyH_ready (rs := [4]) (by kernel_rfl) (by simp) ?_
  refine AllReadyH.cons (by rfl) (fun K hK => ?_) AllReadyH.nil
  refine step_store_big (by exact HAX.out) rfl (.tmp 9) (.tmp 21) (ty := 36) (l0 := Fa.cells ⟨k, kp, (an : Int)⟩) (l := Fa.cells ⟨k, kp, (an : Int)⟩) (by rfl) (by rfl) (by rfl) sizeFa rfl (Fa.one _) ?_
  have HTY := Lib.hid (HTX.out.row_far (b := w.heap.size + 4) (by omega) (Fa.cells ⟨k, kp, (an : Int)⟩).toArray)
  have HAY := Lib.hid (HAX.out.setRow (Fa.cells ⟨k, kp, (an : Int)⟩).toArray)
  have HBY := Lib.hid (below_setRow HBX.out (b := w.heap.size + 4) (by omega) (Fa.cells ⟨k, kp, (an : Int)⟩).toArray)
  refine hK.out _ _ ⟨(by exact HTY.out.cell 0), (by exact HAY.out.range)⟩ (fun hHeld => ?_)
  clear hK K
  try simp only [Act.put, List.getElem_toArray, List.getElem_cons_succ, List.getElem_cons_zero]
  refine wpAnyH_take (i := 5) (v := ?v6) rfl (by kernel_rfl) (by kernel_rfl) (by kernel_rfl) (fun _ _ _ h => h) (Or.inl ⟨by rfl, ?hy6⟩) hHeld ?rest6
  case hy6 =>
    intro w' hSw
    try dsimp only at hSw
    go_simp
    first | done | with_reducible rfl
  try simp only [Act.put, List.getElem_toArray, List.getElem_cons_succ, List.getElem_cons_zero, List.setIfInBounds_toArray, List.set_cons_zero, List.set_cons_succ]
  refine wpAnyH_done (by kernel_rfl) ?_ _
  refine OnlyN.normal ?_
  go_wp2_with fail
  exact bodyPost_ret (res_2t rfl _ _ (w.heap.size + 3) (w.heap.size + 4) _ _ _ rfl rfl rfl (load_st _ HTY.out) (load_fa _ HAY.out)) rfl ⟨rfl, HBY.out⟩
set_option maxRecDepth 100000 in
set_option maxHeartbeats 4000000 in
theorem sload_cross (h : StAt w base q A cap ps os) (hn : 0 < os.length) (ho : okAll os.length os) (hT : Tab w) (x : Ky) (an : Nat) (ha : an ≤ 9223372036854775807) (n : Int) (hra : refA os x (an : Int) n = 0) {y : Ky} {a : Nat} (ha6 : a ≤ 64) {kp : Ky} {d : Nat} (hO : goneW os x (an : Int) = .found y a kp d) (hc : 64 < (a : Int) + n) :
    Calls Tryd.prog 16 #[pv q, x.val, .int .i64 (an : Int), .int .i64 n] w fun e w' => e = .returned (.tuple #[.string { data := #[] }, (⟨5, kp, (an : Int)⟩ : Fa).val, .int .i64 0]) ∧ Below w.heap.size w w' := by
  have hmf : ∀ (fn : Fn) (first cap : Array Value) (w : World), (Instr.makeFunc fn first cap).run Tryd.prog w = .ok (.func fn first cap) w := fun _ _ _ _ => rfl
  have hz7 := z35
  have HB0 := Lib.hid ((((((Below.refl w.heap.size w).alloc (Nat.le_refl _) (.cells #[pv q] 25)).alloc (by simp) (.cells (kc x.k x.o x.c x.l x.r x.v) 31)).alloc (by simp; omega) (.cells #[.int .i64 n] 3)).alloc (by simp; omega) (.cells #[.string { data := #[] }] 9)).alloc (by simp; omega) (.cells zfa.cells.toArray 36))
  have HP0 := Lib.hid (((((Blk.new w 25 #[pv q]).alloc (.cells (kc x.k x.o x.c x.l x.r x.v) 31)).alloc (.cells #[.int .i64 n] 3)).alloc (.cells #[.string { data := #[] }] 9)).alloc (.cells zfa.cells.toArray 36))
  have HK0 := Lib.hid ((((Blk.new_of (w.alloc (.cells #[pv q] 25)) 31 (kc x.k x.o x.c x.l x.r x.v) (g := w.heap.size + 1) (by simp)).alloc (.cells #[.int .i64 n] 3)).alloc (.cells #[.string { data := #[] }] 9)).alloc (.cells zfa.cells.toArray 36))
  have HN0 := Lib.hid (((Blk.new_of ((w.alloc (.cells #[pv q] 25)).alloc (.cells (kc x.k x.o x.c x.l x.r x.v) 31)) 3 #[.int .i64 n] (g := w.heap.size + 2) (by simp)).alloc (.cells #[.string { data := #[] }] 9)).alloc (.cells zfa.cells.toArray 36))
  have HT0 := Lib.hid ((Blk.new_of (((w.alloc (.cells #[pv q] 25)).alloc (.cells (kc x.k x.o x.c x.l x.r x.v) 31)).alloc (.cells #[.int .i64 n] 3)) 9 #[.string { data := #[] }] (g := w.heap.size + 3) (by simp)).alloc (.cells zfa.cells.toArray 36))
  have HA0 := Lib.hid (Blk.new_of ((((w.alloc (.cells #[pv q] 25)).alloc (.cells (kc x.k x.o x.c x.l x.r x.v) 31)).alloc (.cells #[.int .i64 n] 3)).alloc (.cells #[.string { data := #[] }] 9)) 36 zfa.cells.toArray (g := w.heap.size + 4) (by simp))
  have HSZ0 := Lib.hid (show (((((w.alloc (.cells #[pv q] 25)).alloc (.cells (kc x.k x.o x.c x.l x.r x.v) 31)).alloc (.cells #[.int .i64 n] 3)).alloc (.cells #[.string { data := #[] }] 9)).alloc (.cells zfa.cells.toArray 36)).heap.size = w.heap.size + 5 by simp)
  obtain ⟨c0, c1, c2, c3, c4, c5⟩ := HK0.out.six
  have HST := Lib.hid h
  have HN := Lib.hid hn
  have HOK := Lib.hid ho
  have HTT := Lib.hid hT
  have HAN := Lib.hid ha
  have HRA := Lib.hid hra
  have HO := Lib.hid hO
  clear h hn ho hT ha hra hO
  have HA6 := Lib.hid ha6
  have HCR := Lib.hid hc
  clear ha6 hc
  go_enter Tryd.func16, Tryd.ntmps16
  go_wp2_with (first
    | (go_at_call 24; refine (facedLoad_gave (w.heap.size + 2) w.heap.size (w.heap.size + 3) (HST.out.below HB0.out) HN.out HOK.out (HTT.out.below HB0.out) x an HAN.out n HRA.out HO.out (k := 5) (fun W g s hW hS hkp => by subst hkp; exact cloLoad_gave HA6.out hS n (HN0.out.keep hW) HCR.out)).mono ?_; rintro e w1 ⟨rfl, b1⟩; have HB1 := Lib.hid (HB0.out.trans (b1.mono HB0.out.size)); have HT1 := Lib.hid (HT0.out.keep b1); have HA1 := Lib.hid (HA0.out.keep b1); clear b1)
    | (show wpList _ _ _ ({ dst := none, op := .store _ (.tmp 9) (.tmp 18), type := _, pos := _, after := _, guard := _ } :: _) _ _; refine wpList_store_big (l0 := zfa.cells) HA1.out rfl (.tmp 9) (.tmp 18) (ty := 36) (l := Fa.cells ⟨5, kp, (an : Int)⟩) rfl (by rfl) (by rfl) sizeFa rfl (Fa.one _) ?_))
  have HT9 := Lib.hid (HT1.out.row_far (b := w.heap.size + 4) (by omega) (Fa.cells ⟨5, kp, (an : Int)⟩).toArray)
  have HA9 := Lib.hid (HA1.out.setRow (Fa.cells ⟨5, kp, (an : Int)⟩).toArray)
  have HB9 := Lib.hid (below_setRow HB1.out (b := w.heap.size + 4) (by omega) (Fa.cells ⟨5, kp, (an : Int)⟩).toArray)
  generalize w1.setRow (w.heap.size + 4) (Fa.cells ⟨5, kp, (an : Int)⟩).toArray = W9 at HT9 HA9 HB9 ⊢
  clear c0 c1 c2 c3 c4 c5
  have HTX := Lib.hid (show Blk (W9.drew.setCell ⟨w.heap.size + 3, 0, none⟩ (.string { data := #[] })) (w.heap.size + 3) 9 #[.string { data := #[] }] from Blk.set_ (w := W9.drew) HT9.out 0 (.string { data := #[] }))
  have HAX := Lib.hid (show Blk (W9.drew.setCell ⟨w.heap.size + 3, 0, none⟩ (.string { data := #[] })) (w.heap.size + 4) 36 (Fa.cells ⟨5, kp, (an : Int)⟩).toArray from Blk.far (w := W9.drew) HA9.out (p := ⟨w.heap.size + 3, 0, none⟩) (by show w.heap.size + 4 ≠ w.heap.size + 3; omega) _)
  have HBX := Lib.hid ((below_drew HB9.out).setCell (p := ⟨w.heap.size + 3, 0, none⟩) (by show w.heap.size ≤ w.heap.size + 3; omega) (.string { data := #[] }))
  refine wp_region_only (S := fun W => W.cell? ⟨w.heap.size + 3, 0, none⟩ = some (.string { data := #[] }) ∧ W.rangeAt (w.heap.size + 4) 0 (Fa.cells ⟨5, kp, (an : Int)⟩)) (by kernel_rfl) ⟨(show Blk W9.drew _ _ _ from HT9.out).cell 0, (show Blk W9.drew _ _ _ from HA9.out).range⟩ (fun hHeld => ?_)
  refine wpAnyH_take (i := 0) rfl (by kernel_rfl) (by kernel_rfl) (by kernel_rfl) (fun _ _ _ h => h) (y_cell (by rfl) 9 (.tmp 8) (by rfl) (w.heap.size + 3) 0 (by rfl) (.string { data := #[] }) (ld_st _ _ _) (fun _ h => h.1)) hHeld ?_
  try simp only [Act.put, List.getElem_toArray, List.getElem_cons_zero, List.setIfInBounds_toArray, List.set_cons_zero, List.set_cons_succ]
  refine wpAnyH_take (i := 1) rfl (by kernel_rfl) (by kernel_rfl) (by kernel_rfl) (fun _ _ _ h => h) (y_fa (by rfl) (.tmp 9) (by rfl) (w.heap.size + 4) 0 (by rfl) ⟨5, kp, (an : Int)⟩ (fun _ h => h.2)) hHeld ?_
  try simp only [Act.put, List.getElem_toArray, List.getElem_cons_succ, List.getElem_cons_zero, List.setIfInBounds_toArray, List.set_cons_zero, List.set_cons_succ]
  refine wpAnyH_take (i := 2) (v := ?v7) rfl (by kernel_rfl) (by kernel_rfl) (by kernel_rfl) (fun _ _ _ h => h) (Or.inl ⟨by rfl, ?hy7⟩) hHeld ?rest7
  case hy7 =>
    intro w' hSw
    try dsimp only at hSw
    go_simp
    first | done | with_reducible rfl
  try simp only [Act.put, List.getElem_toArray, List.getElem_cons_succ, List.getElem_cons_zero, List.setIfInBounds_toArray, List.set_cons_zero, List.set_cons_succ]
  refine wpAnyH_ready (rs := [3]) (by kernel_rfl) (by simp) ?_
  refine AllReadyH.cons (by rfl) (fun K hK => ?_) AllReadyH.nil
  have ht0 : W9.drew.cell? ⟨w.heap.size + 3, 0, none⟩ = some (.string { data := #[] }) := HT9.out.cell 0
  have hf0 : W9.drew.frozen? ⟨w.heap.size + 3, 0, none⟩ = false := HT9.out.frozen 0
  go_simp
  refine hK.out _ _ ⟨(by exact HTX.out.cell 0), (by exact HAX.out.range)⟩ (fun hHeld => ?_)
  clear hK K
  try simp only [Act.put, List.getElem_toArray, List.getElem_cons_succ, List.getElem_cons_zero]
  refine wpAnyH_ready (rs := [4]) (by kernel_rfl) (by simp) ?_
  refine AllReadyH.cons (by rfl) (fun K hK => ?_) AllReadyH.nil
  refine step_store_big (by exact HAX.out) rfl (.tmp 9) (.tmp 21) (ty := 36) (l0 := Fa.cells ⟨5, kp, (an : Int)⟩) (l := Fa.cells ⟨5, kp, (an : Int)⟩) (by rfl) (by rfl) (by rfl) sizeFa rfl (Fa.one _) ?_
  have HTY := Lib.hid (HTX.out.row_far (b := w.heap.size + 4) (by omega) (Fa.cells ⟨5, kp, (an : Int)⟩).toArray)
  have HAY := Lib.hid (HAX.out.setRow (Fa.cells ⟨5, kp, (an : Int)⟩).toArray)
  have HBY := Lib.hid (below_setRow HBX.out (b := w.heap.size + 4) (by omega) (Fa.cells ⟨5, kp, (an : Int)⟩).toArray)
  refine hK.out _ _ ⟨(by exact HTY.out.cell 0), (by exact HAY.out.range)⟩ (fun hHeld => ?_)
  clear hK K
  try simp only [Act.put, List.getElem_toArray, List.getElem_cons_succ, List.getElem_cons_zero]
  refine wpAnyH_take (i := 5) (v := ?v8) rfl (by kernel_rfl) (by kernel_rfl) (by kernel_rfl) (fun _ _ _ h => h) (Or.inl ⟨by rfl, ?hy8⟩) hHeld ?rest8
  case hy8 =>
    intro w' hSw
    try dsimp only at hSw
    go_simp
    first | done | with_reducible rfl
  try simp only [Act.put, List.getElem_toArray, List.getElem_cons_succ, List.getElem_cons_zero, List.setIfInBounds_toArray, List.set_cons_zero, List.set_cons_succ]
  refine wpAnyH_done (by kernel_rfl) ?_ _
  refine OnlyN.normal ?_
  go_wp2_with fail
  exact bodyPost_ret (res_2t rfl _ _ (w.heap.size + 3) (w.heap.size + 4) _ _ _ rfl rfl rfl (load_st _ HTY.out) (load_fa _ HAY.out)) rfl ⟨rfl, HBY.out⟩
set_option maxRecDepth 100000 in
set_option maxHeartbeats 4000000 in
theorem sload_yes (h : StAt w base q A cap ps os) (hn : 0 < os.length) (ho : okAll os.length os) (hT : Tab w) (x : Ky) (an : Nat) (ha : an ≤ 9223372036854775807) (n : Int) (hra : refA os x (an : Int) n = 0) {y : Ky} {a : Nat} (ha6 : a ≤ 64) {kp : Ky} {d : Nat} (hO : goneW os x (an : Int) = .found y a kp d) (hc : ¬ 64 < (a : Int) + n) :
    Calls Tryd.prog 16 #[pv q, x.val, .int .i64 (an : Int), .int .i64 n] w fun e w' => e = .returned (.tuple #[.string (st (rdA os y (a : Int) n).1), (zfa : Fa).val, .int .i64 0]) ∧ Below w.heap.size w w' := by
  have hmf : ∀ (fn : Fn) (first cap : Array Value) (w : World), (Instr.makeFunc fn first cap).run Tryd.prog w = .ok (.func fn first cap) w := fun _ _ _ _ => rfl
  have hz7 := z35
  have HB0 := Lib.hid ((((((Below.refl w.heap.size w).alloc (Nat.le_refl _) (.cells #[pv q] 25)).alloc (by simp) (.cells (kc x.k x.o x.c x.l x.r x.v) 31)).alloc (by simp; omega) (.cells #[.int .i64 n] 3)).alloc (by simp; omega) (.cells #[.string { data := #[] }] 9)).alloc (by simp; omega) (.cells zfa.cells.toArray 36))
  have HP0 := Lib.hid (((((Blk.new w 25 #[pv q]).alloc (.cells (kc x.k x.o x.c x.l x.r x.v) 31)).alloc (.cells #[.int .i64 n] 3)).alloc (.cells #[.string { data := #[] }] 9)).alloc (.cells zfa.cells.toArray 36))
  have HK0 := Lib.hid ((((Blk.new_of (w.alloc (.cells #[pv q] 25)) 31 (kc x.k x.o x.c x.l x.r x.v) (g := w.heap.size + 1) (by simp)).alloc (.cells #[.int .i64 n] 3)).alloc (.cells #[.string { data := #[] }] 9)).alloc (.cells zfa.cells.toArray 36))
  have HN0 := Lib.hid (((Blk.new_of ((w.alloc (.cells #[pv q] 25)).alloc (.cells (kc x.k x.o x.c x.l x.r x.v) 31)) 3 #[.int .i64 n] (g := w.heap.size + 2) (by simp)).alloc (.cells #[.string { data := #[] }] 9)).alloc (.cells zfa.cells.toArray 36))
  have HT0 := Lib.hid ((Blk.new_of (((w.alloc (.cells #[pv q] 25)).alloc (.cells (kc x.k x.o x.c x.l x.r x.v) 31)).alloc (.cells #[.int .i64 n] 3)) 9 #[.string { data := #[] }] (g := w.heap.size + 3) (by simp)).alloc (.cells zfa.cells.toArray 36))
  have HA0 := Lib.hid (Blk.new_of ((((w.alloc (.cells #[pv q] 25)).alloc (.cells (kc x.k x.o x.c x.l x.r x.v) 31)).alloc (.cells #[.int .i64 n] 3)).alloc (.cells #[.string { data := #[] }] 9)) 36 zfa.cells.toArray (g := w.heap.size + 4) (by simp))
  have HSZ0 := Lib.hid (show (((((w.alloc (.cells #[pv q] 25)).alloc (.cells (kc x.k x.o x.c x.l x.r x.v) 31)).alloc (.cells #[.int .i64 n] 3)).alloc (.cells #[.string { data := #[] }] 9)).alloc (.cells zfa.cells.toArray 36)).heap.size = w.heap.size + 5 by simp)
  obtain ⟨c0, c1, c2, c3, c4, c5⟩ := HK0.out.six
  have HST := Lib.hid h
  have HN := Lib.hid hn
  have HOK := Lib.hid ho
  have HTT := Lib.hid hT
  have HAN := Lib.hid ha
  have HRA := Lib.hid hra
  have HO := Lib.hid hO
  clear h hn ho hT ha hra hO
  have HA6 := Lib.hid ha6
  have HCR := Lib.hid hc
  clear ha6 hc
  go_enter Tryd.func16, Tryd.ntmps16
  go_wp2_with (first
    | (go_at_call 24; refine (facedLoad_yes (w.heap.size + 2) w.heap.size (w.heap.size + 3) (HST.out.below HB0.out) HN.out HOK.out (HTT.out.below HB0.out) x an HAN.out n HRA.out HO.out (fun k => k = w.heap.size + 3) (fun W => Blk W (w.heap.size + 3) 9 #[.string (st (rdA os y (a : Int) n).1)]) (fun k e => by rw [HSZ0.out]; omega) (fun W W' hb hs hk => (hk _ hb.lt (by rw [HSZ0.out]; omega)).trans hb)
      (fun W g s hW hg hS hkp hd => cloLoad_yes HA6.out hS n (HN0.out.keep hW) (HP0.out.keep hW) ⟨[], HT0.out.keep hW⟩ (by omega) (by omega) (by have := hg; rw [HSZ0.out] at this; omega) (fun b hb e => by have := (HST.out.lt b hb).2; omega) (by have := HTT.out.lt; omega) (by have := HCR.out; omega))).mono ?_; rintro e w1 ⟨rfl, ht1, f1⟩; have HT1 := Lib.hid ht1; have HB1 := Lib.hid (HB0.out.trans (f1.to_below (fun k e => by omega) HB0.out.size)); have HA1 := Lib.hid (show Blk w1 (w.heap.size + 4) 36 zfa.cells.toArray from (f1.block _ HA0.out.lt (by omega)).trans HA0.out); clear ht1 f1)
    | (show wpList _ _ _ ({ dst := none, op := .store _ (.tmp 9) (.tmp 18), type := _, pos := _, after := _, guard := _ } :: _) _ _; refine wpList_store_big (l0 := zfa.cells) HA1.out rfl (.tmp 9) (.tmp 18) (ty := 36) (l := Fa.cells zfa) rfl (by rfl) (by rfl) sizeFa rfl (Fa.one _) ?_))
  have HT9 := Lib.hid (HT1.out.row_far (b := w.heap.size + 4) (by omega) (Fa.cells zfa).toArray)
  have HA9 := Lib.hid (HA1.out.setRow (Fa.cells zfa).toArray)
  have HB9 := Lib.hid (below_setRow HB1.out (b := w.heap.size + 4) (by omega) (Fa.cells zfa).toArray)
  generalize w1.setRow (w.heap.size + 4) (Fa.cells zfa).toArray = W9 at HT9 HA9 HB9 ⊢
  clear c0 c1 c2 c3 c4 c5
  have HTX := Lib.hid (show Blk (W9.drew.setCell ⟨w.heap.size + 3, 0, none⟩ (.string (st (rdA os y (a : Int) n).1))) (w.heap.size + 3) 9 #[.string (st (rdA os y (a : Int) n).1)] from Blk.set_ (w := W9.drew) HT9.out 0 (.string (st (rdA os y (a : Int) n).1)))
  have HAX := Lib.hid (show Blk (W9.drew.setCell ⟨w.heap.size + 3, 0, none⟩ (.string (st (rdA os y (a : Int) n).1))) (w.heap.size + 4) 36 (Fa.cells zfa).toArray from Blk.far (w := W9.drew) HA9.out (p := ⟨w.heap.size + 3, 0, none⟩) (by show w.heap.size + 4 ≠ w.heap.size + 3; omega) _)
  have HBX := Lib.hid ((below_drew HB9.out).setCell (p := ⟨w.heap.size + 3, 0, none⟩) (by show w.heap.size ≤ w.heap.size + 3; omega) (.string (st (rdA os y (a : Int) n).1)))
  refine wp_region_only (S := fun W => W.cell? ⟨w.heap.size + 3, 0, none⟩ = some (.string (st (rdA os y (a : Int) n).1)) ∧ W.rangeAt (w.heap.size + 4) 0 (Fa.cells zfa)) (by kernel_rfl) ⟨(show Blk W9.drew _ _ _ from HT9.out).cell 0, (show Blk W9.drew _ _ _ from HA9.out).range⟩ (fun hHeld => ?_)
  refine wpAnyH_take (i := 0) rfl (by kernel_rfl) (by kernel_rfl) (by kernel_rfl) (fun _ _ _ h => h) (y_cell (by rfl) 9 (.tmp 8) (by rfl) (w.heap.size + 3) 0 (by rfl) (.string (st (rdA os y (a : Int) n).1)) (ld_st _ _ _) (fun _ h => h.1)) hHeld ?_
  try simp only [Act.put, List.getElem_toArray, List.getElem_cons_zero, List.setIfInBounds_toArray, List.set_cons_zero, List.set_cons_succ]
  refine wpAnyH_take (i := 1) rfl (by kernel_rfl) (by kernel_rfl) (by kernel_rfl) (fun _ _ _ h => h) (y_fa (by rfl) (.tmp 9) (by rfl) (w.heap.size + 4) 0 (by rfl) zfa (fun _ h => h.2)) hHeld ?_
  try simp only [Act.put, List.getElem_toArray, List.getElem_cons_succ, List.getElem_cons_zero, List.setIfInBounds_toArray, List.set_cons_zero, List.set_cons_succ]
  refine wpAnyH_take (i := 2) (v := ?v9) rfl (by kernel_rfl) (by kernel_rfl) (by kernel_rfl) (fun _ _ _ h => h) (Or.inl ⟨by rfl, ?hy9⟩) hHeld ?rest9
  case hy9 =>
    intro w' hSw
    try dsimp only at hSw
    go_simp
    first | done | with_reducible rfl
  try simp only [Act.put, List.getElem_toArray, List.getElem_cons_succ, List.getElem_cons_zero, List.setIfInBounds_toArray, List.set_cons_zero, List.set_cons_succ]
  refine wpAnyH_ready (rs := [3]) (by kernel_rfl) (by simp) ?_
  refine AllReadyH.cons (by rfl) (fun K hK => ?_) AllReadyH.nil
  have ht0 : W9.drew.cell? ⟨w.heap.size + 3, 0, none⟩ = some (.string (st (rdA os y (a : Int) n).1)) := HT9.out.cell 0
  have hf0 : W9.drew.frozen? ⟨w.heap.size + 3, 0, none⟩ = false := HT9.out.frozen 0
  go_simp
  refine hK.out _ _ ⟨(by exact HTX.out.cell 0), (by exact HAX.out.range)⟩ (fun hHeld => ?_)
  clear hK K
  try simp only [Act.put, List.getElem_toArray, List.getElem_cons_succ, List.getElem_cons_zero]
  refine wpAnyH_ready (rs := [4]) (by kernel_rfl) (by simp) ?_
  refine AllReadyH.cons (by rfl) (fun K hK => ?_) AllReadyH.nil
  refine step_store_big (by exact HAX.out) rfl (.tmp 9) (.tmp 21) (ty := 36) (l0 := Fa.cells zfa) (l := Fa.cells zfa) (by rfl) (by rfl) (by rfl) sizeFa rfl (Fa.one _) ?_
  have HTY := Lib.hid (HTX.out.row_far (b := w.heap.size + 4) (by omega) (Fa.cells zfa).toArray)
  have HAY := Lib.hid (HAX.out.setRow (Fa.cells zfa).toArray)
  have HBY := Lib.hid (below_setRow HBX.out (b := w.heap.size + 4) (by omega) (Fa.cells zfa).toArray)
  refine hK.out _ _ ⟨(by exact HTY.out.cell 0), (by exact HAY.out.range)⟩ (fun hHeld => ?_)
  clear hK K
  try simp only [Act.put, List.getElem_toArray, List.getElem_cons_succ, List.getElem_cons_zero]
  refine wpAnyH_take (i := 5) (v := ?v10) rfl (by kernel_rfl) (by kernel_rfl) (by kernel_rfl) (fun _ _ _ h => h) (Or.inl ⟨by rfl, ?hy10⟩) hHeld ?rest10
  case hy10 =>
    intro w' hSw
    try dsimp only at hSw
    go_simp
    first | done | with_reducible rfl
  try simp only [Act.put, List.getElem_toArray, List.getElem_cons_succ, List.getElem_cons_zero, List.setIfInBounds_toArray, List.set_cons_zero, List.set_cons_succ]
  refine wpAnyH_done (by kernel_rfl) ?_ _
  refine OnlyN.normal ?_
  go_wp2_with fail
  exact bodyPost_ret (res_2t rfl _ _ (w.heap.size + 3) (w.heap.size + 4) _ _ _ rfl rfl rfl (load_st _ HTY.out) (load_fa _ HAY.out)) rfl ⟨rfl, HBY.out⟩
theorem stepW_at {os : List Oj} : ∀ {n : Nat} {s : Ws} {y : Ky} {a : Nat} {kp : Ky} {d : Nat}, runW os n s = .found y a kp d → a < 64 ∧ (∃ x, pgN os x ∧ ∃ r, y = pgK x r)
  | 0, s, y, a, kp, d, h => by cases h
  | n + 1, s, y, a, kp, d, h => by
    rw [run_succ] at h
    cases hs : stepW os s with
    | inr t => rw [hs] at h; exact stepW_at h
    | inl o =>
      rw [hs] at h
      simp only at h
      subst h
      unfold stepW at hs
      split at hs
      · next hp =>
        split at hs
        · cases hs
        · next hl =>
          injection hs with hs
          injection hs with h1 h2 h3 h4
          exact ⟨by omega, s.x, hp, s.r, h1.symm⟩
      · split at hs
        · split at hs
          · cases hs
          · split at hs
            · split at hs
              · cases hs
              · cases hs
            · cases hs
        · cases hs
set_option maxRecDepth 8000 in
theorem sload_all (h : StAt w base q A cap ps os) (hn : 0 < os.length) (ho : okAll os.length os) (hT : Tab w) (x : Ky) (a n : Int) (ha : a ≤ 9223372036854775807) :
    Calls Tryd.prog 16 #[pv q, x.val, .int .i64 a, .int .i64 n] w fun e w' => e = .returned (.tuple #[.string (st (loadA os x a n).1), (loadA os x a n).2.1.val, .int .i64 (loadA os x a n).2.2]) ∧ Below w.heap.size w w' := by
  unfold loadA
  by_cases hr : refA os x a n = 0
  · rw [if_pos hr]
    obtain ⟨an, rfl⟩ : ∃ an : Nat, a = (an : Int) := ⟨a.toNat, by have := (refA_0 hr).2.1; omega⟩
    cases hO : goneW os x (an : Int) with
    | fault k kp => exact sload_fault h hn ho hT x an (by omega) n hr hO
    | found y b kp d =>
      have hb := (stepW_at hO).1
      by_cases hc : 64 < (b : Int) + n
      · rw [show (Wo.found y b kp d).hold n = .fault 5 kp from if_pos hc]
        exact sload_cross h hn ho hT x an (by omega) n hr (by omega) hO hc
      · rw [show (Wo.found y b kp d).hold n = .found y b kp d from if_neg hc]
        exact sload_yes h hn ho hT x an (by omega) n hr (by omega) hO hc
  · rw [if_neg hr]
    exact sload_e x a n _ hr fun W hW => refused_any (h.below hW) hn (hT.below hW) x a n rfl
end
end Go.Proofs.YtfckdbennjkgoaaDoor

/- nodes: the faces. -/
import Derived.Test.YtliakhknmckdgaaDoorNCloP
namespace Go.Proofs.YtliakhknmckdgaaDoor
open Go.RowKit
set_option maxRecDepth 8000 in
theorem load_err {w : World} {g : Nat} {t : TypeId} (n : Int) (h : Blk w g t #[.int .i64 n]) : (loadVar 42 ⟨g, 0, none⟩).run Tryd.prog w = .ok (.int .i64 n) w := by
  have hc : w.cell? ⟨g, 0, none⟩ = some (.int .i64 n) := by simpa using h.cell 0
  simp [go_sem, hc]
theorem set_same {w : World} {g : Nat} {t : TypeId} {v : Value} (h : Blk w g t #[v]) (u : Value) : Blk (w.setCell ⟨g, 0, none⟩ u) g t #[u] := h.set_ 0 u
theorem Fr.heap_lt {S : Nat → Prop} {a b : World} (h : Fr S a b) {k : Nat} (hk : k < a.heap.size) (hs : ¬ S k) : b.heap[k]? = a.heap[k]? := h.block k hk hs
set_option maxRecDepth 8000 in
theorem catch_k (p : Addr) (x n : Int) (older : List PanicEntry) (w : World) (hc : w.cell? p = some (.int .i64 x)) (hz : w.frozen? p = false) :
    CallsD Tryd.prog 66 #[.pointer (some p)] (.panicking ({ v := .iface 42 (.int .i64 n), recovered := false } :: older)) w fun e u' w' =>
      e = .returned (.tuple #[]) ∧ u' = .panicking ({ v := .iface 42 (.int .i64 n), recovered := true } :: older) ∧ w' = w.setCell p (.int .i64 n) := by
  refine callsD_of_wpS Tryd.func66 rfl fun c₀ cs hu => ?_
  apply wpS_seq
  apply wpS_region
  simp [wpOpsS, go_sem, recoverD, hu, Tryd.ntmps66, Exit.thenS]
  apply wpS_seq
  apply wpS_region
  have hne : ∀ w, (binOp .neq 20 (.iface 42 (.int .i64 n)) .nilIface).run Tryd.prog w = .ok (.bool true) w := fun _ => by kernel_rfl
  simp [wpOpsS, go_sem, hne, Exit.thenS]
  refine wpS_cond (t := true) (by simp [Act.eval, Array.replicate]) ?_
  simp only [if_true]
  apply wpS_region
  have hta : ∀ w, (Instr.typeAssert (.iface 42 (.int .i64 n)) 20 42 false).run Tryd.prog w = .ok (.int .i64 n) w := fun _ => by kernel_rfl
  simp [wpOpsS, go_sem, hta, hc, hz, bodyPostS, results, Tryd.results66]
set_option maxRecDepth 8000 in
theorem idle_k (p : Addr) (w : World) :
    CallsD Tryd.prog 66 #[.pointer (some p)] .returning w fun e u' w' => e = .returned (.tuple #[]) ∧ u' = .returning ∧ w' = w := by
  refine callsD_of_wpS Tryd.func66 rfl fun c₀ cs hu => ?_
  apply wpS_seq
  apply wpS_region
  simp [wpOpsS, go_sem, recoverD, hu, Tryd.ntmps66, Exit.thenS]
  apply wpS_seq
  apply wpS_region
  have hne : ∀ w, (binOp .neq 20 .nilIface .nilIface).run Tryd.prog w = .ok (.bool false) w := fun _ => by kernel_rfl
  simp [wpOpsS, go_sem, hne, Exit.thenS]
  refine wpS_cond (t := false) (by simp [Act.eval, Array.replicate]) ?_
  simp only [Bool.false_eq_true, if_false]
  refine wpS_of_wp (wp_skip ?_)
  cases c₀
  simp_all [bodyPostS, results, Tryd.results66]
set_option maxRecDepth 8000 in
theorem catch_s (p : Addr) (x n : Int) (older : List PanicEntry) (w : World) (hc : w.cell? p = some (.int .i64 x)) (hz : w.frozen? p = false) :
    CallsD Tryd.prog 72 #[.pointer (some p)] (.panicking ({ v := .iface 42 (.int .i64 n), recovered := false } :: older)) w fun e u' w' =>
      e = .returned (.tuple #[]) ∧ u' = .panicking ({ v := .iface 42 (.int .i64 n), recovered := true } :: older) ∧ w' = w.setCell p (.int .i64 n) := by
  refine callsD_of_wpS Tryd.func72 rfl fun c₀ cs hu => ?_
  apply wpS_seq
  apply wpS_region
  simp [wpOpsS, go_sem, recoverD, hu, Tryd.ntmps72, Exit.thenS]
  apply wpS_seq
  apply wpS_region
  have hne : ∀ w, (binOp .neq 20 (.iface 42 (.int .i64 n)) .nilIface).run Tryd.prog w = .ok (.bool true) w := fun _ => by kernel_rfl
  simp [wpOpsS, go_sem, hne, Exit.thenS]
  refine wpS_cond (t := true) (by simp [Act.eval, Array.replicate]) ?_
  simp only [if_true]
  apply wpS_region
  have hta : ∀ w, (Instr.typeAssert (.iface 42 (.int .i64 n)) 20 42 false).run Tryd.prog w = .ok (.int .i64 n) w := fun _ => by kernel_rfl
  simp [wpOpsS, go_sem, hta, hc, hz, bodyPostS, results, Tryd.results72]
set_option maxRecDepth 8000 in
theorem idle_s (p : Addr) (w : World) :
    CallsD Tryd.prog 72 #[.pointer (some p)] .returning w fun e u' w' => e = .returned (.tuple #[]) ∧ u' = .returning ∧ w' = w := by
  refine callsD_of_wpS Tryd.func72 rfl fun c₀ cs hu => ?_
  apply wpS_seq
  apply wpS_region
  simp [wpOpsS, go_sem, recoverD, hu, Tryd.ntmps72, Exit.thenS]
  apply wpS_seq
  apply wpS_region
  have hne : ∀ w, (binOp .neq 20 .nilIface .nilIface).run Tryd.prog w = .ok (.bool false) w := fun _ => by kernel_rfl
  simp [wpOpsS, go_sem, hne, Exit.thenS]
  refine wpS_cond (t := false) (by simp [Act.eval, Array.replicate]) ?_
  simp only [Bool.false_eq_true, if_false]
  refine wpS_of_wp (wp_skip ?_)
  cases c₀
  simp_all [bodyPostS, results, Tryd.results72]
set_option maxRecDepth 8000 in
theorem catch_l (p : Addr) (x n : Int) (older : List PanicEntry) (w : World) (hc : w.cell? p = some (.int .i64 x)) (hz : w.frozen? p = false) :
    CallsD Tryd.prog 73 #[.pointer (some p)] (.panicking ({ v := .iface 42 (.int .i64 n), recovered := false } :: older)) w fun e u' w' =>
      e = .returned (.tuple #[]) ∧ u' = .panicking ({ v := .iface 42 (.int .i64 n), recovered := true } :: older) ∧ w' = w.setCell p (.int .i64 n) := by
  refine callsD_of_wpS Tryd.func73 rfl fun c₀ cs hu => ?_
  apply wpS_seq
  apply wpS_region
  simp [wpOpsS, go_sem, recoverD, hu, Tryd.ntmps73, Exit.thenS]
  apply wpS_seq
  apply wpS_region
  have hne : ∀ w, (binOp .neq 20 (.iface 42 (.int .i64 n)) .nilIface).run Tryd.prog w = .ok (.bool true) w := fun _ => by kernel_rfl
  simp [wpOpsS, go_sem, hne, Exit.thenS]
  refine wpS_cond (t := true) (by simp [Act.eval, Array.replicate]) ?_
  simp only [if_true]
  apply wpS_region
  have hta : ∀ w, (Instr.typeAssert (.iface 42 (.int .i64 n)) 20 42 false).run Tryd.prog w = .ok (.int .i64 n) w := fun _ => by kernel_rfl
  simp [wpOpsS, go_sem, hta, hc, hz, bodyPostS, results, Tryd.results73]
set_option maxRecDepth 8000 in
theorem idle_l (p : Addr) (w : World) :
    CallsD Tryd.prog 73 #[.pointer (some p)] .returning w fun e u' w' => e = .returned (.tuple #[]) ∧ u' = .returning ∧ w' = w := by
  refine callsD_of_wpS Tryd.func73 rfl fun c₀ cs hu => ?_
  apply wpS_seq
  apply wpS_region
  simp [wpOpsS, go_sem, recoverD, hu, Tryd.ntmps73, Exit.thenS]
  apply wpS_seq
  apply wpS_region
  have hne : ∀ w, (binOp .neq 20 .nilIface .nilIface).run Tryd.prog w = .ok (.bool false) w := fun _ => by kernel_rfl
  simp [wpOpsS, go_sem, hne, Exit.thenS]
  refine wpS_cond (t := false) (by simp [Act.eval, Array.replicate]) ?_
  simp only [Bool.false_eq_true, if_false]
  refine wpS_of_wp (wp_skip ?_)
  cases c₀
  simp_all [bodyPostS, results, Tryd.results73]
section
variable {w : World}
set_option maxRecDepth 8000 in
set_option maxHeartbeats 800000 in
theorem face_get_no (S K I : Nat) (n : Int) (hcl : ∀ W, Below w.heap.size w W → Calls Tryd.prog 34 #[.pointer (some ⟨S, 0, none⟩), .pointer (some ⟨K, 0, none⟩), .pointer (some ⟨I, 0, none⟩)] W fun e w' => e = .panicked (erc n) ∧ Below W.heap.size W w') :
    Calls Tryd.prog 33 #[(.func (.func 34) #[] #[.pointer (some ⟨S, 0, none⟩), .pointer (some ⟨K, 0, none⟩), .pointer (some ⟨I, 0, none⟩)])] w fun e w' => e = .returned (.tuple #[zk.val, .int .i64 n]) ∧ Below w.heap.size w w' := by
  have hmf : ∀ (fn : Fn) (first cap : Array Value) (w : World), (Instr.makeFunc fn first cap).run Tryd.prog w = .ok (.func fn first cap) w := fun _ _ _ _ => rfl
  have hz9 := z95
  have hbs9 := zks_len
  have HZ := Lib.hid (Blk.alloc (Blk.new w 32 (kl zk).toArray) (.cells #[.int .i64 0] 42))
  have HE := Lib.hid (Blk.new_of (w.alloc (.cells (kl zk).toArray 32)) 42 #[.int .i64 0] (g := w.heap.size + 1) (by simp))
  have HB := Lib.hid (((Below.refl w.heap.size w).alloc (Nat.le_refl _) (.cells (kl zk).toArray 32)).alloc (by simp) (.cells #[.int .i64 0] 42))
  have HC := Lib.hid hcl
  clear hcl
  go_enter_defers Tryd.func33, Tryd.ntmps33
  go_wp2_with (go_at_call 34; refine (HC.out _ HB.out).mono ?_; rintro e w1 ⟨rfl, hb⟩; have Z1 := Lib.hid (Blk.keep HZ.out hb); have E1 := Lib.hid (Blk.keep HE.out hb); have B1 := Lib.hid (HB.out.trans (hb.mono HB.out.size)); clear hb)
  have hc : w1.cell? ⟨w.heap.size + 1, 0, none⟩ = some (.int .i64 0) := by simpa using Blk.cell E1.out 0
  have hz := Blk.frozen E1.out 0
  refine leaves_cons (f := 66) (args := #[.pointer (some ⟨w.heap.size + 1, 0, none⟩)]) (by simp) (by simp [go_sem]) ?_
  refine (catch_k ⟨w.heap.size + 1, 0, none⟩ 0 n [] _ hc hz).mono ?_
  rintro e u' w'' ⟨rfl, rfl, rfl⟩
  have hl2 := load_err n (Blk.set_ E1.out 0 (.int .i64 n))
  change Leaves _ _ _ _ [] FrameMode.returning _
  exact ⟨_, res_2 rfl _ _ w.heap.size (w.heap.size + 1) _ _ rfl rfl (load_key zk (Blk.far Z1.out (p := ⟨w.heap.size + 1, 0, none⟩) (by show w.heap.size ≠ w.heap.size + 1; omega) (.int .i64 n))) hl2, rfl, B1.out.setCell (by show w.heap.size ≤ w.heap.size + 1; omega) _⟩
set_option maxRecDepth 8000 in
set_option maxHeartbeats 800000 in
theorem face_get_yes (S K I : Nat) (x : Ky) (Sb : Nat → Prop) (R : World → Prop) (hS : ∀ k, Sb k → k < w.heap.size) (hR : ∀ W W' : World, R W → W.heap.size ≤ W'.heap.size → (∀ k, k < W.heap.size → k ≠ w.heap.size ∧ k ≠ w.heap.size + 1 → W'.heap[k]? = W.heap[k]?) → R W') (hcl : ∀ W, Below w.heap.size w W → Calls Tryd.prog 34 #[.pointer (some ⟨S, 0, none⟩), .pointer (some ⟨K, 0, none⟩), .pointer (some ⟨I, 0, none⟩)] W fun e w' => e = .returned x.val ∧ R w' ∧ Fr Sb W w') :
    Calls Tryd.prog 33 #[(.func (.func 34) #[] #[.pointer (some ⟨S, 0, none⟩), .pointer (some ⟨K, 0, none⟩), .pointer (some ⟨I, 0, none⟩)])] w fun e w' => e = .returned (.tuple #[x.val, .int .i64 0]) ∧ R w' ∧ Fr Sb w w' := by
  have hmf : ∀ (fn : Fn) (first cap : Array Value) (w : World), (Instr.makeFunc fn first cap).run Tryd.prog w = .ok (.func fn first cap) w := fun _ _ _ _ => rfl
  have hz9 := z95
  have hbs9 := zks_len
  have HZ := Lib.hid (Blk.alloc (Blk.new w 32 (kl zk).toArray) (.cells #[.int .i64 0] 42))
  have HE := Lib.hid (Blk.new_of (w.alloc (.cells (kl zk).toArray 32)) 42 #[.int .i64 0] (g := w.heap.size + 1) (by simp))
  have HB := Lib.hid (((Below.refl w.heap.size w).alloc (Nat.le_refl _) (.cells (kl zk).toArray 32)).alloc (by simp) (.cells #[.int .i64 0] 42))
  have HC := Lib.hid hcl
  have HSB := Lib.hid hS
  have HRR := Lib.hid hR
  clear hcl hS hR
  go_enter_defers Tryd.func33, Tryd.ntmps33
  go_wp2_with (first
    | (go_at_call 34; refine (HC.out _ HB.out).mono ?_; rintro e w1 ⟨rfl, hr, hf⟩; have R1 := Lib.hid hr; have F1 := Lib.hid ((Fr.of_below HB.out : Fr Sb w _).trans hf); have Z1 := Lib.hid (show Blk w1 w.heap.size 32 (kl zk).toArray from (hf.block _ HZ.out.lt (fun hm => by have := HSB.out _ hm; omega)).trans HZ.out); have E1 := Lib.hid (show Blk w1 (w.heap.size + 1) 42 #[.int .i64 0] from (hf.block _ HE.out.lt (fun hm => by have := HSB.out _ hm; omega)).trans HE.out); have hc : (w1.setRow w.heap.size (kl x).toArray).cell? ⟨w.heap.size + 1, 0, none⟩ = some (.int .i64 0) := ((Blk.row_far E1.out (show w.heap.size + 1 ≠ w.heap.size by omega) (kl x).toArray)).one; have hz : (w1.setRow w.heap.size (kl x).toArray).frozen? ⟨w.heap.size + 1, 0, none⟩ = false := ((Blk.row_far E1.out (show w.heap.size + 1 ≠ w.heap.size by omega) (kl x).toArray)).frozen 0; clear hr hf)
    | (refine wpList_store_row rfl 32 (.tmp 2) (.tmp 6) rfl w.heap.size (kl x).toArray rfl rfl 32 (kl zk).toArray Z1.out size30 rfl (all_one (kl_one x)) ?_))
  have E2 := (Blk.row_far E1.out (show w.heap.size + 1 ≠ w.heap.size by omega) (kl x).toArray)
  have E3 := set_same E2 (.int .i64 0)
  have Z2 : Blk (w1.setRow w.heap.size (kl x).toArray) w.heap.size 32 (kl x).toArray := Z1.out.setRow _
  refine leaves_cons (f := 66) (args := #[.pointer (some ⟨w.heap.size + 1, 0, none⟩)]) (by simp) (by simp [go_sem]) ?_
  refine (idle_k ⟨w.heap.size + 1, 0, none⟩ _).mono ?_
  rintro e u' w'' ⟨rfl, rfl, rfl⟩
  have hl2 := load_err 0 E3
  change Leaves _ _ _ _ [] FrameMode.returning _
  exact ⟨_, res_2 rfl _ _ w.heap.size (w.heap.size + 1) _ _ rfl rfl (load_key x (Blk.far Z2 (p := ⟨w.heap.size + 1, 0, none⟩) (by show w.heap.size ≠ w.heap.size + 1; omega) (.int .i64 0))) hl2, rfl, HRR.out _ _ R1.out (by simp [World.setCell, World.setRow]) (fun k hk hn => (Below.heap_setCell _ _ _ _ (by show k ≠ w.heap.size + 1; omega)).trans (setRow_other _ _ _ _ (by omega))), (F1.out.then_ (setRow_fr _ _ _) (fun i hi he => by omega)).setCell (fun hh => absurd hh (by show ¬ w.heap.size + 1 < w.heap.size; omega)) _⟩
set_option maxRecDepth 8000 in
set_option maxHeartbeats 800000 in
theorem face_put_no (S K I V : Nat) (n : Int) (hcl : ∀ W, Below w.heap.size w W → Calls Tryd.prog 38 #[.pointer (some ⟨S, 0, none⟩), .pointer (some ⟨K, 0, none⟩), .pointer (some ⟨I, 0, none⟩), .pointer (some ⟨V, 0, none⟩)] W fun e w' => e = .panicked (erc n) ∧ Below W.heap.size W w') :
    Calls Tryd.prog 33 #[(.func (.func 38) #[] #[.pointer (some ⟨S, 0, none⟩), .pointer (some ⟨K, 0, none⟩), .pointer (some ⟨I, 0, none⟩), .pointer (some ⟨V, 0, none⟩)])] w fun e w' => e = .returned (.tuple #[zk.val, .int .i64 n]) ∧ Below w.heap.size w w' := by
  have hmf : ∀ (fn : Fn) (first cap : Array Value) (w : World), (Instr.makeFunc fn first cap).run Tryd.prog w = .ok (.func fn first cap) w := fun _ _ _ _ => rfl
  have hz9 := z95
  have hbs9 := zks_len
  have HZ := Lib.hid (Blk.alloc (Blk.new w 32 (kl zk).toArray) (.cells #[.int .i64 0] 42))
  have HE := Lib.hid (Blk.new_of (w.alloc (.cells (kl zk).toArray 32)) 42 #[.int .i64 0] (g := w.heap.size + 1) (by simp))
  have HB := Lib.hid (((Below.refl w.heap.size w).alloc (Nat.le_refl _) (.cells (kl zk).toArray 32)).alloc (by simp) (.cells #[.int .i64 0] 42))
  have HC := Lib.hid hcl
  clear hcl
  go_enter_defers Tryd.func33, Tryd.ntmps33
  go_wp2_with (go_at_call 38; refine (HC.out _ HB.out).mono ?_; rintro e w1 ⟨rfl, hb⟩; have Z1 := Lib.hid (Blk.keep HZ.out hb); have E1 := Lib.hid (Blk.keep HE.out hb); have B1 := Lib.hid (HB.out.trans (hb.mono HB.out.size)); clear hb)
  have hc : w1.cell? ⟨w.heap.size + 1, 0, none⟩ = some (.int .i64 0) := by simpa using Blk.cell E1.out 0
  have hz := Blk.frozen E1.out 0
  refine leaves_cons (f := 66) (args := #[.pointer (some ⟨w.heap.size + 1, 0, none⟩)]) (by simp) (by simp [go_sem]) ?_
  refine (catch_k ⟨w.heap.size + 1, 0, none⟩ 0 n [] _ hc hz).mono ?_
  rintro e u' w'' ⟨rfl, rfl, rfl⟩
  have hl2 := load_err n (Blk.set_ E1.out 0 (.int .i64 n))
  change Leaves _ _ _ _ [] FrameMode.returning _
  exact ⟨_, res_2 rfl _ _ w.heap.size (w.heap.size + 1) _ _ rfl rfl (load_key zk (Blk.far Z1.out (p := ⟨w.heap.size + 1, 0, none⟩) (by show w.heap.size ≠ w.heap.size + 1; omega) (.int .i64 n))) hl2, rfl, B1.out.setCell (by show w.heap.size ≤ w.heap.size + 1; omega) _⟩
set_option maxRecDepth 8000 in
set_option maxHeartbeats 800000 in
theorem face_put_yes (S K I V : Nat) (x : Ky) (Sb : Nat → Prop) (R : World → Prop) (hS : ∀ k, Sb k → k < w.heap.size) (hR : ∀ W W' : World, R W → W.heap.size ≤ W'.heap.size → (∀ k, k < W.heap.size → k ≠ w.heap.size ∧ k ≠ w.heap.size + 1 → W'.heap[k]? = W.heap[k]?) → R W') (hcl : ∀ W, Below w.heap.size w W → Calls Tryd.prog 38 #[.pointer (some ⟨S, 0, none⟩), .pointer (some ⟨K, 0, none⟩), .pointer (some ⟨I, 0, none⟩), .pointer (some ⟨V, 0, none⟩)] W fun e w' => e = .returned x.val ∧ R w' ∧ Fr Sb W w') :
    Calls Tryd.prog 33 #[(.func (.func 38) #[] #[.pointer (some ⟨S, 0, none⟩), .pointer (some ⟨K, 0, none⟩), .pointer (some ⟨I, 0, none⟩), .pointer (some ⟨V, 0, none⟩)])] w fun e w' => e = .returned (.tuple #[x.val, .int .i64 0]) ∧ R w' ∧ Fr Sb w w' := by
  have hmf : ∀ (fn : Fn) (first cap : Array Value) (w : World), (Instr.makeFunc fn first cap).run Tryd.prog w = .ok (.func fn first cap) w := fun _ _ _ _ => rfl
  have hz9 := z95
  have hbs9 := zks_len
  have HZ := Lib.hid (Blk.alloc (Blk.new w 32 (kl zk).toArray) (.cells #[.int .i64 0] 42))
  have HE := Lib.hid (Blk.new_of (w.alloc (.cells (kl zk).toArray 32)) 42 #[.int .i64 0] (g := w.heap.size + 1) (by simp))
  have HB := Lib.hid (((Below.refl w.heap.size w).alloc (Nat.le_refl _) (.cells (kl zk).toArray 32)).alloc (by simp) (.cells #[.int .i64 0] 42))
  have HC := Lib.hid hcl
  have HSB := Lib.hid hS
  have HRR := Lib.hid hR
  clear hcl hS hR
  go_enter_defers Tryd.func33, Tryd.ntmps33
  go_wp2_with (first
    | (go_at_call 38; refine (HC.out _ HB.out).mono ?_; rintro e w1 ⟨rfl, hr, hf⟩; have R1 := Lib.hid hr; have F1 := Lib.hid ((Fr.of_below HB.out : Fr Sb w _).trans hf); have Z1 := Lib.hid (show Blk w1 w.heap.size 32 (kl zk).toArray from (hf.block _ HZ.out.lt (fun hm => by have := HSB.out _ hm; omega)).trans HZ.out); have E1 := Lib.hid (show Blk w1 (w.heap.size + 1) 42 #[.int .i64 0] from (hf.block _ HE.out.lt (fun hm => by have := HSB.out _ hm; omega)).trans HE.out); have hc : (w1.setRow w.heap.size (kl x).toArray).cell? ⟨w.heap.size + 1, 0, none⟩ = some (.int .i64 0) := ((Blk.row_far E1.out (show w.heap.size + 1 ≠ w.heap.size by omega) (kl x).toArray)).one; have hz : (w1.setRow w.heap.size (kl x).toArray).frozen? ⟨w.heap.size + 1, 0, none⟩ = false := ((Blk.row_far E1.out (show w.heap.size + 1 ≠ w.heap.size by omega) (kl x).toArray)).frozen 0; clear hr hf)
    | (refine wpList_store_row rfl 32 (.tmp 2) (.tmp 6) rfl w.heap.size (kl x).toArray rfl rfl 32 (kl zk).toArray Z1.out size30 rfl (all_one (kl_one x)) ?_))
  have E2 := (Blk.row_far E1.out (show w.heap.size + 1 ≠ w.heap.size by omega) (kl x).toArray)
  have E3 := set_same E2 (.int .i64 0)
  have Z2 : Blk (w1.setRow w.heap.size (kl x).toArray) w.heap.size 32 (kl x).toArray := Z1.out.setRow _
  refine leaves_cons (f := 66) (args := #[.pointer (some ⟨w.heap.size + 1, 0, none⟩)]) (by simp) (by simp [go_sem]) ?_
  refine (idle_k ⟨w.heap.size + 1, 0, none⟩ _).mono ?_
  rintro e u' w'' ⟨rfl, rfl, rfl⟩
  have hl2 := load_err 0 E3
  change Leaves _ _ _ _ [] FrameMode.returning _
  exact ⟨_, res_2 rfl _ _ w.heap.size (w.heap.size + 1) _ _ rfl rfl (load_key x (Blk.far Z2 (p := ⟨w.heap.size + 1, 0, none⟩) (by show w.heap.size ≠ w.heap.size + 1; omega) (.int .i64 0))) hl2, rfl, HRR.out _ _ R1.out (by simp [World.setCell, World.setRow]) (fun k hk hn => (Below.heap_setCell _ _ _ _ (by show k ≠ w.heap.size + 1; omega)).trans (setRow_other _ _ _ _ (by omega))), (F1.out.then_ (setRow_fr _ _ _) (fun i hi he => by omega)).setCell (fun hh => absurd hh (by show ¬ w.heap.size + 1 < w.heap.size; omega)) _⟩
set_option maxRecDepth 8000 in
set_option maxHeartbeats 800000 in
theorem face_clear_no (S K : Nat) (n : Int) (hcl : ∀ W, Below w.heap.size w W → Calls Tryd.prog 44 #[.pointer (some ⟨S, 0, none⟩), .pointer (some ⟨K, 0, none⟩)] W fun e w' => e = .panicked (erc n) ∧ Below W.heap.size W w') :
    Calls Tryd.prog 43 #[(.func (.func 44) #[] #[.pointer (some ⟨S, 0, none⟩), .pointer (some ⟨K, 0, none⟩)])] w fun e w' => e = .returned (.tuple #[(.agg (kcs zks).toArray), .int .i64 n]) ∧ Below w.heap.size w w' := by
  have hmf : ∀ (fn : Fn) (first cap : Array Value) (w : World), (Instr.makeFunc fn first cap).run Tryd.prog w = .ok (.func fn first cap) w := fun _ _ _ _ => rfl
  have hz9 := z95
  have hbs9 := zks_len
  have HZ := Lib.hid (Blk.alloc (Blk.new w 95 (kcs zks).toArray) (.cells #[.int .i64 0] 42))
  have HE := Lib.hid (Blk.new_of (w.alloc (.cells (kcs zks).toArray 95)) 42 #[.int .i64 0] (g := w.heap.size + 1) (by simp))
  have HB := Lib.hid (((Below.refl w.heap.size w).alloc (Nat.le_refl _) (.cells (kcs zks).toArray 95)).alloc (by simp) (.cells #[.int .i64 0] 42))
  have HC := Lib.hid hcl
  clear hcl
  go_enter_defers Tryd.func43, Tryd.ntmps43
  go_wp2_with (go_at_call 44; refine (HC.out _ HB.out).mono ?_; rintro e w1 ⟨rfl, hb⟩; have Z1 := Lib.hid (Blk.keep HZ.out hb); have E1 := Lib.hid (Blk.keep HE.out hb); have B1 := Lib.hid (HB.out.trans (hb.mono HB.out.size)); clear hb)
  have hc : w1.cell? ⟨w.heap.size + 1, 0, none⟩ = some (.int .i64 0) := by simpa using Blk.cell E1.out 0
  have hz := Blk.frozen E1.out 0
  refine leaves_cons (f := 72) (args := #[.pointer (some ⟨w.heap.size + 1, 0, none⟩)]) (by simp) (by simp [go_sem]) ?_
  refine (catch_s ⟨w.heap.size + 1, 0, none⟩ 0 n [] _ hc hz).mono ?_
  rintro e u' w'' ⟨rfl, rfl, rfl⟩
  have hl2 := load_err n (Blk.set_ E1.out 0 (.int .i64 n))
  change Leaves _ _ _ _ [] FrameMode.returning _
  exact ⟨_, res_2 rfl _ _ w.heap.size (w.heap.size + 1) _ _ rfl rfl (load_sl zks rfl (Blk.far Z1.out (p := ⟨w.heap.size + 1, 0, none⟩) (by show w.heap.size ≠ w.heap.size + 1; omega) (.int .i64 n))) hl2, rfl, B1.out.setCell (by show w.heap.size ≤ w.heap.size + 1; omega) _⟩
set_option maxRecDepth 8000 in
set_option maxHeartbeats 800000 in
theorem face_clear_yes (S K : Nat) (l : List Ky) (hl : l.length = 16) (Sb : Nat → Prop) (R : World → Prop) (hS : ∀ k, Sb k → k < w.heap.size) (hR : ∀ W W' : World, R W → W.heap.size ≤ W'.heap.size → (∀ k, k < W.heap.size → k ≠ w.heap.size ∧ k ≠ w.heap.size + 1 → W'.heap[k]? = W.heap[k]?) → R W') (hcl : ∀ W, Below w.heap.size w W → Calls Tryd.prog 44 #[.pointer (some ⟨S, 0, none⟩), .pointer (some ⟨K, 0, none⟩)] W fun e w' => e = .returned (.agg (kcs l).toArray) ∧ R w' ∧ Fr Sb W w') :
    Calls Tryd.prog 43 #[(.func (.func 44) #[] #[.pointer (some ⟨S, 0, none⟩), .pointer (some ⟨K, 0, none⟩)])] w fun e w' => e = .returned (.tuple #[(.agg (kcs l).toArray), .int .i64 0]) ∧ R w' ∧ Fr Sb w w' := by
  have hmf : ∀ (fn : Fn) (first cap : Array Value) (w : World), (Instr.makeFunc fn first cap).run Tryd.prog w = .ok (.func fn first cap) w := fun _ _ _ _ => rfl
  have hz9 := z95
  have hbs9 := zks_len
  have HZ := Lib.hid (Blk.alloc (Blk.new w 95 (kcs zks).toArray) (.cells #[.int .i64 0] 42))
  have HE := Lib.hid (Blk.new_of (w.alloc (.cells (kcs zks).toArray 95)) 42 #[.int .i64 0] (g := w.heap.size + 1) (by simp))
  have HB := Lib.hid (((Below.refl w.heap.size w).alloc (Nat.le_refl _) (.cells (kcs zks).toArray 95)).alloc (by simp) (.cells #[.int .i64 0] 42))
  have HC := Lib.hid hcl
  have HSB := Lib.hid hS
  have HRR := Lib.hid hR
  have HLL := Lib.hid hl
  clear hcl hS hR
  go_enter_defers Tryd.func43, Tryd.ntmps43
  go_wp2_with (first
    | (go_at_call 44; refine (HC.out _ HB.out).mono ?_; rintro e w1 ⟨rfl, hr, hf⟩; have R1 := Lib.hid hr; have F1 := Lib.hid ((Fr.of_below HB.out : Fr Sb w _).trans hf); have Z1 := Lib.hid (show Blk w1 w.heap.size 95 (kcs zks).toArray from (hf.block _ HZ.out.lt (fun hm => by have := HSB.out _ hm; omega)).trans HZ.out); have E1 := Lib.hid (show Blk w1 (w.heap.size + 1) 42 #[.int .i64 0] from (hf.block _ HE.out.lt (fun hm => by have := HSB.out _ hm; omega)).trans HE.out); have hc : (w1.setRow w.heap.size (kcs l).toArray).cell? ⟨w.heap.size + 1, 0, none⟩ = some (.int .i64 0) := ((Blk.row_far E1.out (show w.heap.size + 1 ≠ w.heap.size by omega) (kcs l).toArray)).one; have hz : (w1.setRow w.heap.size (kcs l).toArray).frozen? ⟨w.heap.size + 1, 0, none⟩ = false := ((Blk.row_far E1.out (show w.heap.size + 1 ≠ w.heap.size by omega) (kcs l).toArray)).frozen 0; clear hr hf)
    | (refine wpList_store_big Z1.out rfl (.tmp 2) (.tmp 6) (ty := 95) (l := kcs l) rfl (by rfl) (by rfl) (sl_size HLL.out) (zks_eq HLL.out) (kcs_one _) ?_))
  have E2 := (Blk.row_far E1.out (show w.heap.size + 1 ≠ w.heap.size by omega) (kcs l).toArray)
  have E3 := set_same E2 (.int .i64 0)
  have Z2 : Blk (w1.setRow w.heap.size (kcs l).toArray) w.heap.size 95 (kcs l).toArray := Z1.out.setRow _
  refine leaves_cons (f := 72) (args := #[.pointer (some ⟨w.heap.size + 1, 0, none⟩)]) (by simp) (by simp [go_sem]) ?_
  refine (idle_s ⟨w.heap.size + 1, 0, none⟩ _).mono ?_
  rintro e u' w'' ⟨rfl, rfl, rfl⟩
  have hl2 := load_err 0 E3
  change Leaves _ _ _ _ [] FrameMode.returning _
  exact ⟨_, res_2 rfl _ _ w.heap.size (w.heap.size + 1) _ _ rfl rfl (load_sl l hl (Blk.far Z2 (p := ⟨w.heap.size + 1, 0, none⟩) (by show w.heap.size ≠ w.heap.size + 1; omega) (.int .i64 0))) hl2, rfl, HRR.out _ _ R1.out (by simp [World.setCell, World.setRow]) (fun k hk hn => (Below.heap_setCell _ _ _ _ (by show k ≠ w.heap.size + 1; omega)).trans (setRow_other _ _ _ _ (by omega))), (F1.out.then_ (setRow_fr _ _ _) (fun i hi he => by omega)).setCell (fun hh => absurd hh (by show ¬ w.heap.size + 1 < w.heap.size; omega)) _⟩
set_option maxRecDepth 8000 in
set_option maxHeartbeats 800000 in
theorem face_clone_no (S K V : Nat) (n : Int) (hcl : ∀ W, Below w.heap.size w W → Calls Tryd.prog 46 #[.pointer (some ⟨S, 0, none⟩), .pointer (some ⟨K, 0, none⟩), .pointer (some ⟨V, 0, none⟩)] W fun e w' => e = .panicked (erc n) ∧ Below W.heap.size W w') :
    Calls Tryd.prog 43 #[(.func (.func 46) #[] #[.pointer (some ⟨S, 0, none⟩), .pointer (some ⟨K, 0, none⟩), .pointer (some ⟨V, 0, none⟩)])] w fun e w' => e = .returned (.tuple #[(.agg (kcs zks).toArray), .int .i64 n]) ∧ Below w.heap.size w w' := by
  have hmf : ∀ (fn : Fn) (first cap : Array Value) (w : World), (Instr.makeFunc fn first cap).run Tryd.prog w = .ok (.func fn first cap) w := fun _ _ _ _ => rfl
  have hz9 := z95
  have hbs9 := zks_len
  have HZ := Lib.hid (Blk.alloc (Blk.new w 95 (kcs zks).toArray) (.cells #[.int .i64 0] 42))
  have HE := Lib.hid (Blk.new_of (w.alloc (.cells (kcs zks).toArray 95)) 42 #[.int .i64 0] (g := w.heap.size + 1) (by simp))
  have HB := Lib.hid (((Below.refl w.heap.size w).alloc (Nat.le_refl _) (.cells (kcs zks).toArray 95)).alloc (by simp) (.cells #[.int .i64 0] 42))
  have HC := Lib.hid hcl
  clear hcl
  go_enter_defers Tryd.func43, Tryd.ntmps43
  go_wp2_with (go_at_call 46; refine (HC.out _ HB.out).mono ?_; rintro e w1 ⟨rfl, hb⟩; have Z1 := Lib.hid (Blk.keep HZ.out hb); have E1 := Lib.hid (Blk.keep HE.out hb); have B1 := Lib.hid (HB.out.trans (hb.mono HB.out.size)); clear hb)
  have hc : w1.cell? ⟨w.heap.size + 1, 0, none⟩ = some (.int .i64 0) := by simpa using Blk.cell E1.out 0
  have hz := Blk.frozen E1.out 0
  refine leaves_cons (f := 72) (args := #[.pointer (some ⟨w.heap.size + 1, 0, none⟩)]) (by simp) (by simp [go_sem]) ?_
  refine (catch_s ⟨w.heap.size + 1, 0, none⟩ 0 n [] _ hc hz).mono ?_
  rintro e u' w'' ⟨rfl, rfl, rfl⟩
  have hl2 := load_err n (Blk.set_ E1.out 0 (.int .i64 n))
  change Leaves _ _ _ _ [] FrameMode.returning _
  exact ⟨_, res_2 rfl _ _ w.heap.size (w.heap.size + 1) _ _ rfl rfl (load_sl zks rfl (Blk.far Z1.out (p := ⟨w.heap.size + 1, 0, none⟩) (by show w.heap.size ≠ w.heap.size + 1; omega) (.int .i64 n))) hl2, rfl, B1.out.setCell (by show w.heap.size ≤ w.heap.size + 1; omega) _⟩
set_option maxRecDepth 8000 in
set_option maxHeartbeats 800000 in
theorem face_clone_yes (S K V : Nat) (l : List Ky) (hl : l.length = 16) (Sb : Nat → Prop) (R : World → Prop) (hS : ∀ k, Sb k → k < w.heap.size) (hR : ∀ W W' : World, R W → W.heap.size ≤ W'.heap.size → (∀ k, k < W.heap.size → k ≠ w.heap.size ∧ k ≠ w.heap.size + 1 → W'.heap[k]? = W.heap[k]?) → R W') (hcl : ∀ W, Below w.heap.size w W → Calls Tryd.prog 46 #[.pointer (some ⟨S, 0, none⟩), .pointer (some ⟨K, 0, none⟩), .pointer (some ⟨V, 0, none⟩)] W fun e w' => e = .returned (.agg (kcs l).toArray) ∧ R w' ∧ Fr Sb W w') :
    Calls Tryd.prog 43 #[(.func (.func 46) #[] #[.pointer (some ⟨S, 0, none⟩), .pointer (some ⟨K, 0, none⟩), .pointer (some ⟨V, 0, none⟩)])] w fun e w' => e = .returned (.tuple #[(.agg (kcs l).toArray), .int .i64 0]) ∧ R w' ∧ Fr Sb w w' := by
  have hmf : ∀ (fn : Fn) (first cap : Array Value) (w : World), (Instr.makeFunc fn first cap).run Tryd.prog w = .ok (.func fn first cap) w := fun _ _ _ _ => rfl
  have hz9 := z95
  have hbs9 := zks_len
  have HZ := Lib.hid (Blk.alloc (Blk.new w 95 (kcs zks).toArray) (.cells #[.int .i64 0] 42))
  have HE := Lib.hid (Blk.new_of (w.alloc (.cells (kcs zks).toArray 95)) 42 #[.int .i64 0] (g := w.heap.size + 1) (by simp))
  have HB := Lib.hid (((Below.refl w.heap.size w).alloc (Nat.le_refl _) (.cells (kcs zks).toArray 95)).alloc (by simp) (.cells #[.int .i64 0] 42))
  have HC := Lib.hid hcl
  have HSB := Lib.hid hS
  have HRR := Lib.hid hR
  have HLL := Lib.hid hl
  clear hcl hS hR
  go_enter_defers Tryd.func43, Tryd.ntmps43
  go_wp2_with (first
    | (go_at_call 46; refine (HC.out _ HB.out).mono ?_; rintro e w1 ⟨rfl, hr, hf⟩; have R1 := Lib.hid hr; have F1 := Lib.hid ((Fr.of_below HB.out : Fr Sb w _).trans hf); have Z1 := Lib.hid (show Blk w1 w.heap.size 95 (kcs zks).toArray from (hf.block _ HZ.out.lt (fun hm => by have := HSB.out _ hm; omega)).trans HZ.out); have E1 := Lib.hid (show Blk w1 (w.heap.size + 1) 42 #[.int .i64 0] from (hf.block _ HE.out.lt (fun hm => by have := HSB.out _ hm; omega)).trans HE.out); have hc : (w1.setRow w.heap.size (kcs l).toArray).cell? ⟨w.heap.size + 1, 0, none⟩ = some (.int .i64 0) := ((Blk.row_far E1.out (show w.heap.size + 1 ≠ w.heap.size by omega) (kcs l).toArray)).one; have hz : (w1.setRow w.heap.size (kcs l).toArray).frozen? ⟨w.heap.size + 1, 0, none⟩ = false := ((Blk.row_far E1.out (show w.heap.size + 1 ≠ w.heap.size by omega) (kcs l).toArray)).frozen 0; clear hr hf)
    | (refine wpList_store_big Z1.out rfl (.tmp 2) (.tmp 6) (ty := 95) (l := kcs l) rfl (by rfl) (by rfl) (sl_size HLL.out) (zks_eq HLL.out) (kcs_one _) ?_))
  have E2 := (Blk.row_far E1.out (show w.heap.size + 1 ≠ w.heap.size by omega) (kcs l).toArray)
  have E3 := set_same E2 (.int .i64 0)
  have Z2 : Blk (w1.setRow w.heap.size (kcs l).toArray) w.heap.size 95 (kcs l).toArray := Z1.out.setRow _
  refine leaves_cons (f := 72) (args := #[.pointer (some ⟨w.heap.size + 1, 0, none⟩)]) (by simp) (by simp [go_sem]) ?_
  refine (idle_s ⟨w.heap.size + 1, 0, none⟩ _).mono ?_
  rintro e u' w'' ⟨rfl, rfl, rfl⟩
  have hl2 := load_err 0 E3
  change Leaves _ _ _ _ [] FrameMode.returning _
  exact ⟨_, res_2 rfl _ _ w.heap.size (w.heap.size + 1) _ _ rfl rfl (load_sl l hl (Blk.far Z2 (p := ⟨w.heap.size + 1, 0, none⟩) (by show w.heap.size ≠ w.heap.size + 1; omega) (.int .i64 0))) hl2, rfl, HRR.out _ _ R1.out (by simp [World.setCell, World.setRow]) (fun k hk hn => (Below.heap_setCell _ _ _ _ (by show k ≠ w.heap.size + 1; omega)).trans (setRow_other _ _ _ _ (by omega))), (F1.out.then_ (setRow_fr _ _ _) (fun i hi he => by omega)).setCell (fun hh => absurd hh (by show ¬ w.heap.size + 1 < w.heap.size; omega)) _⟩
set_option maxRecDepth 8000 in
set_option maxHeartbeats 800000 in
theorem face_all_no (S K : Nat) (n : Int) (hcl : ∀ W, Below w.heap.size w W → Calls Tryd.prog 54 #[.pointer (some ⟨S, 0, none⟩), .pointer (some ⟨K, 0, none⟩)] W fun e w' => e = .panicked (erc n) ∧ Below W.heap.size W w') :
    Calls Tryd.prog 53 #[(.func (.func 54) #[] #[.pointer (some ⟨S, 0, none⟩), .pointer (some ⟨K, 0, none⟩)])] w fun e w' => e = .returned (.tuple #[(.slice none 0 0), .int .i64 n]) ∧ Below w.heap.size w w' := by
  have hmf : ∀ (fn : Fn) (first cap : Array Value) (w : World), (Instr.makeFunc fn first cap).run Tryd.prog w = .ok (.func fn first cap) w := fun _ _ _ _ => rfl
  have HE := Lib.hid (Blk.new w 42 #[.int .i64 0])
  have HB := Lib.hid ((Below.refl w.heap.size w).alloc (Nat.le_refl _) (.cells #[.int .i64 0] 42))
  have HC := Lib.hid hcl
  clear hcl
  go_enter_defers Tryd.func53, Tryd.ntmps53
  go_wp2_with (go_at_call 54; refine (HC.out _ HB.out).mono ?_; rintro e w1 ⟨rfl, hb⟩; have E1 := Lib.hid (Blk.keep HE.out hb); have B1 := Lib.hid (HB.out.trans (hb.mono HB.out.size)); clear hb)
  have hc : w1.cell? ⟨w.heap.size, 0, none⟩ = some (.int .i64 0) := by simpa using Blk.cell E1.out 0
  have hz := Blk.frozen E1.out 0
  refine leaves_cons (f := 73) (args := #[.pointer (some ⟨w.heap.size, 0, none⟩)]) (by simp) (by simp [go_sem]) ?_
  refine (catch_l ⟨w.heap.size, 0, none⟩ 0 n [] _ hc hz).mono ?_
  rintro e u' w'' ⟨rfl, rfl, rfl⟩
  have hl2 := load_err n (Blk.set_ E1.out 0 (.int .i64 n))
  change Leaves _ _ _ _ [] FrameMode.returning _
  exact ⟨_, res_t1 rfl _ _ w.heap.size _ _ rfl rfl hl2, rfl, B1.out.setCell (by show w.heap.size ≤ w.heap.size; omega) _⟩
set_option maxRecDepth 8000 in
set_option maxHeartbeats 800000 in
theorem face_all_yes (S K : Nat)  (Sb : Nat → Prop) (R : Value → World → Prop) (hS : ∀ k, Sb k → k < w.heap.size) (hR : ∀ (v : Value) (W W' : World), R v W → W.heap.size ≤ W'.heap.size → (∀ k, k < W.heap.size → k ≠ w.heap.size → W'.heap[k]? = W.heap[k]?) → R v W') (hcl : ∀ W, Below w.heap.size w W → w.heap.size < W.heap.size → Calls Tryd.prog 54 #[.pointer (some ⟨S, 0, none⟩), .pointer (some ⟨K, 0, none⟩)] W fun e w' => ∃ v, e = .returned v ∧ R v w' ∧ Fr Sb W w') :
    Calls Tryd.prog 53 #[(.func (.func 54) #[] #[.pointer (some ⟨S, 0, none⟩), .pointer (some ⟨K, 0, none⟩)])] w fun e w' => ∃ v, e = .returned (.tuple #[v, .int .i64 0]) ∧ R v w' ∧ Fr Sb w w' := by
  have hmf : ∀ (fn : Fn) (first cap : Array Value) (w : World), (Instr.makeFunc fn first cap).run Tryd.prog w = .ok (.func fn first cap) w := fun _ _ _ _ => rfl
  have HE := Lib.hid (Blk.new w 42 #[.int .i64 0])
  have HB := Lib.hid ((Below.refl w.heap.size w).alloc (Nat.le_refl _) (.cells #[.int .i64 0] 42))
  have HC := Lib.hid hcl
  have HSB := Lib.hid hS
  have HRR := Lib.hid hR
  clear hcl hS hR
  go_enter_defers Tryd.func53, Tryd.ntmps53
  go_wp2_with (first
    | (go_at_call 54; refine (HC.out _ HB.out HE.out.lt).mono ?_; rintro e w1 ⟨v, rfl, hr, hf⟩; have R1 := Lib.hid hr; have F1 := Lib.hid ((Fr.of_below HB.out : Fr Sb w _).trans hf); have E1 := Lib.hid (show Blk w1 (w.heap.size) 42 #[.int .i64 0] from (hf.block _ HE.out.lt (fun hm => by have := HSB.out _ hm; omega)).trans HE.out); have hc : w1.cell? ⟨w.heap.size, 0, none⟩ = some (.int .i64 0) := (E1.out).one; have hz : w1.frozen? ⟨w.heap.size, 0, none⟩ = false := (E1.out).frozen 0; clear hr hf))
  have E2 := E1.out
  have E3 := set_same E2 (.int .i64 0)
  refine leaves_cons (f := 73) (args := #[.pointer (some ⟨w.heap.size, 0, none⟩)]) (by simp) (by simp [go_sem]) ?_
  refine (idle_l ⟨w.heap.size, 0, none⟩ _).mono ?_
  rintro e u' w'' ⟨rfl, rfl, rfl⟩
  have hl2 := load_err 0 E3
  change Leaves _ _ _ _ [] FrameMode.returning _
  exact ⟨_, res_t1 rfl _ _ w.heap.size _ _ rfl rfl hl2, v, rfl, HRR.out _ _ _ R1.out (by simp [World.setCell]) (fun k hk hn => Below.heap_setCell _ _ _ _ (by show k ≠ w.heap.size; omega)), F1.out.setCell (fun hh => absurd hh (by show ¬ w.heap.size < w.heap.size; omega)) _⟩
end
end Go.Proofs.YtliakhknmckdgaaDoor

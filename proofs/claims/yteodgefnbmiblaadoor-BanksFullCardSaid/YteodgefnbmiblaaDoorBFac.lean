/- banks: the faces. -/
import Derived.Test.YteodgefnbmiblaaDoorBAsk
import Derived.Test.YteodgefnbmiblaaDoorBIu
import Derived.Test.YteodgefnbmiblaaDoorR16
namespace Go.Proofs.YteodgefnbmiblaaDoor
open Go.RowKit
set_option maxRecDepth 8000 in
theorem sizeT : (Tryd.prog.info? 95).map (·.size) = some 2 := by kernel_rfl
set_option maxRecDepth 8000 in
theorem zeroT : (Tryd.prog.info? 95).map (fun i => (i.zero, i.size)) = some (some (.agg #[.int .i64 0, .int .i64 0]), 2) := by kernel_rfl
theorem zT (w : World) : (zeroValue 95).run Tryd.prog w = .ok (.agg #[.int .i64 0, .int .i64 0]) w := (zero_of_info zeroT).1 w
theorem load_two {w : World} {g : Nat} {t : TypeId} (i j : Int) (h : Blk w g t #[.int .i64 i, .int .i64 j]) : (loadVar 95 ⟨g, 0, none⟩).run Tryd.prog w = .ok (.agg #[.int .i64 i, .int .i64 j]) w :=
  run_loadVar_row w g t 95 #[.int .i64 i, .int .i64 j] (0, 0) _ h Tryd.underlying95 rfl sizeT
set_option maxRecDepth 8000 in
theorem load_b {w : World} {g : Nat} {t : TypeId} (b : Bool) (h : Blk w g t #[.bool b]) : (loadVar 4 ⟨g, 0, none⟩).run Tryd.prog w = .ok (.bool b) w := by
  have hc : w.cell? ⟨g, 0, none⟩ = some (.bool b) := by simpa using h.cell 0
  simp [go_sem, hc]
set_option maxRecDepth 8000 in
theorem load_i {w : World} {g : Nat} {t : TypeId} (n : Int) (h : Blk w g t #[.int .i64 n]) : (loadVar 3 ⟨g, 0, none⟩).run Tryd.prog w = .ok (.int .i64 n) w := by
  have hc : w.cell? ⟨g, 0, none⟩ = some (.int .i64 n) := by simpa using h.cell 0
  simp [go_sem, hc]
set_option maxRecDepth 8000 in
theorem bcatch_k (p : Addr) (x n : Int) (older : List PanicEntry) (w : World) (hc : w.cell? p = some (.int .i64 x)) (hz : w.frozen? p = false) :
    CallsD Tryd.prog 51 #[.pointer (some p)] (.panicking ({ v := .iface 34 (.int .i64 n), recovered := false } :: older)) w fun e u' w' =>
      e = .returned (.tuple #[]) ∧ u' = .panicking ({ v := .iface 34 (.int .i64 n), recovered := true } :: older) ∧ w' = w.setCell p (.int .i64 n) := by
  refine callsD_of_wpS Tryd.func51 rfl fun c₀ cs hu => ?_
  apply wpS_seq
  apply wpS_region
  simp [wpOpsS, go_sem, recoverD, hu, Tryd.ntmps51, Exit.thenS]
  apply wpS_seq
  apply wpS_region
  have hne : ∀ w, (binOp .neq 20 (.iface 34 (.int .i64 n)) .nilIface).run Tryd.prog w = .ok (.bool true) w := fun _ => by kernel_rfl
  simp [wpOpsS, go_sem, hne, Exit.thenS]
  refine wpS_cond (t := true) (by simp [Act.eval, Array.replicate]) ?_
  simp only [if_true]
  apply wpS_region
  have hta : ∀ w, (Instr.typeAssert (.iface 34 (.int .i64 n)) 20 34 false).run Tryd.prog w = .ok (.int .i64 n) w := fun _ => by kernel_rfl
  simp [wpOpsS, go_sem, hta, hc, hz, bodyPostS, results, Tryd.results51]
set_option maxRecDepth 8000 in
theorem bidle_k (p : Addr) (w : World) :
    CallsD Tryd.prog 51 #[.pointer (some p)] .returning w fun e u' w' => e = .returned (.tuple #[]) ∧ u' = .returning ∧ w' = w := by
  refine callsD_of_wpS Tryd.func51 rfl fun c₀ cs hu => ?_
  apply wpS_seq
  apply wpS_region
  simp [wpOpsS, go_sem, recoverD, hu, Tryd.ntmps51, Exit.thenS]
  apply wpS_seq
  apply wpS_region
  have hne : ∀ w, (binOp .neq 20 .nilIface .nilIface).run Tryd.prog w = .ok (.bool false) w := fun _ => by kernel_rfl
  simp [wpOpsS, go_sem, hne, Exit.thenS]
  refine wpS_cond (t := false) (by simp [Act.eval, Array.replicate]) ?_
  simp only [Bool.false_eq_true, if_false]
  refine wpS_of_wp (wp_skip ?_)
  cases c₀
  simp_all [bodyPostS, results, Tryd.results51]
set_option maxRecDepth 8000 in
theorem bcatch_b (p : Addr) (x n : Int) (older : List PanicEntry) (w : World) (hc : w.cell? p = some (.int .i64 x)) (hz : w.frozen? p = false) :
    CallsD Tryd.prog 55 #[.pointer (some p)] (.panicking ({ v := .iface 34 (.int .i64 n), recovered := false } :: older)) w fun e u' w' =>
      e = .returned (.tuple #[]) ∧ u' = .panicking ({ v := .iface 34 (.int .i64 n), recovered := true } :: older) ∧ w' = w.setCell p (.int .i64 n) := by
  refine callsD_of_wpS Tryd.func55 rfl fun c₀ cs hu => ?_
  apply wpS_seq
  apply wpS_region
  simp [wpOpsS, go_sem, recoverD, hu, Tryd.ntmps55, Exit.thenS]
  apply wpS_seq
  apply wpS_region
  have hne : ∀ w, (binOp .neq 20 (.iface 34 (.int .i64 n)) .nilIface).run Tryd.prog w = .ok (.bool true) w := fun _ => by kernel_rfl
  simp [wpOpsS, go_sem, hne, Exit.thenS]
  refine wpS_cond (t := true) (by simp [Act.eval, Array.replicate]) ?_
  simp only [if_true]
  apply wpS_region
  have hta : ∀ w, (Instr.typeAssert (.iface 34 (.int .i64 n)) 20 34 false).run Tryd.prog w = .ok (.int .i64 n) w := fun _ => by kernel_rfl
  simp [wpOpsS, go_sem, hta, hc, hz, bodyPostS, results, Tryd.results55]
set_option maxRecDepth 8000 in
theorem bidle_b (p : Addr) (w : World) :
    CallsD Tryd.prog 55 #[.pointer (some p)] .returning w fun e u' w' => e = .returned (.tuple #[]) ∧ u' = .returning ∧ w' = w := by
  refine callsD_of_wpS Tryd.func55 rfl fun c₀ cs hu => ?_
  apply wpS_seq
  apply wpS_region
  simp [wpOpsS, go_sem, recoverD, hu, Tryd.ntmps55, Exit.thenS]
  apply wpS_seq
  apply wpS_region
  have hne : ∀ w, (binOp .neq 20 .nilIface .nilIface).run Tryd.prog w = .ok (.bool false) w := fun _ => by kernel_rfl
  simp [wpOpsS, go_sem, hne, Exit.thenS]
  refine wpS_cond (t := false) (by simp [Act.eval, Array.replicate]) ?_
  simp only [Bool.false_eq_true, if_false]
  refine wpS_of_wp (wp_skip ?_)
  cases c₀
  simp_all [bodyPostS, results, Tryd.results55]
set_option maxRecDepth 8000 in
theorem bcatch_n (p : Addr) (x n : Int) (older : List PanicEntry) (w : World) (hc : w.cell? p = some (.int .i64 x)) (hz : w.frozen? p = false) :
    CallsD Tryd.prog 59 #[.pointer (some p)] (.panicking ({ v := .iface 34 (.int .i64 n), recovered := false } :: older)) w fun e u' w' =>
      e = .returned (.tuple #[]) ∧ u' = .panicking ({ v := .iface 34 (.int .i64 n), recovered := true } :: older) ∧ w' = w.setCell p (.int .i64 n) := by
  refine callsD_of_wpS Tryd.func59 rfl fun c₀ cs hu => ?_
  apply wpS_seq
  apply wpS_region
  simp [wpOpsS, go_sem, recoverD, hu, Tryd.ntmps59, Exit.thenS]
  apply wpS_seq
  apply wpS_region
  have hne : ∀ w, (binOp .neq 20 (.iface 34 (.int .i64 n)) .nilIface).run Tryd.prog w = .ok (.bool true) w := fun _ => by kernel_rfl
  simp [wpOpsS, go_sem, hne, Exit.thenS]
  refine wpS_cond (t := true) (by simp [Act.eval, Array.replicate]) ?_
  simp only [if_true]
  apply wpS_region
  have hta : ∀ w, (Instr.typeAssert (.iface 34 (.int .i64 n)) 20 34 false).run Tryd.prog w = .ok (.int .i64 n) w := fun _ => by kernel_rfl
  simp [wpOpsS, go_sem, hta, hc, hz, bodyPostS, results, Tryd.results59]
set_option maxRecDepth 8000 in
theorem bidle_n (p : Addr) (w : World) :
    CallsD Tryd.prog 59 #[.pointer (some p)] .returning w fun e u' w' => e = .returned (.tuple #[]) ∧ u' = .returning ∧ w' = w := by
  refine callsD_of_wpS Tryd.func59 rfl fun c₀ cs hu => ?_
  apply wpS_seq
  apply wpS_region
  simp [wpOpsS, go_sem, recoverD, hu, Tryd.ntmps59, Exit.thenS]
  apply wpS_seq
  apply wpS_region
  have hne : ∀ w, (binOp .neq 20 .nilIface .nilIface).run Tryd.prog w = .ok (.bool false) w := fun _ => by kernel_rfl
  simp [wpOpsS, go_sem, hne, Exit.thenS]
  refine wpS_cond (t := false) (by simp [Act.eval, Array.replicate]) ?_
  simp only [Bool.false_eq_true, if_false]
  refine wpS_of_wp (wp_skip ?_)
  cases c₀
  simp_all [bodyPostS, results, Tryd.results59]
set_option maxRecDepth 8000 in
theorem bcatch_t (p : Addr) (x n : Int) (older : List PanicEntry) (w : World) (hc : w.cell? p = some (.int .i64 x)) (hz : w.frozen? p = false) :
    CallsD Tryd.prog 63 #[.pointer (some p)] (.panicking ({ v := .iface 34 (.int .i64 n), recovered := false } :: older)) w fun e u' w' =>
      e = .returned (.tuple #[]) ∧ u' = .panicking ({ v := .iface 34 (.int .i64 n), recovered := true } :: older) ∧ w' = w.setCell p (.int .i64 n) := by
  refine callsD_of_wpS Tryd.func63 rfl fun c₀ cs hu => ?_
  apply wpS_seq
  apply wpS_region
  simp [wpOpsS, go_sem, recoverD, hu, Tryd.ntmps63, Exit.thenS]
  apply wpS_seq
  apply wpS_region
  have hne : ∀ w, (binOp .neq 20 (.iface 34 (.int .i64 n)) .nilIface).run Tryd.prog w = .ok (.bool true) w := fun _ => by kernel_rfl
  simp [wpOpsS, go_sem, hne, Exit.thenS]
  refine wpS_cond (t := true) (by simp [Act.eval, Array.replicate]) ?_
  simp only [if_true]
  apply wpS_region
  have hta : ∀ w, (Instr.typeAssert (.iface 34 (.int .i64 n)) 20 34 false).run Tryd.prog w = .ok (.int .i64 n) w := fun _ => by kernel_rfl
  simp [wpOpsS, go_sem, hta, hc, hz, bodyPostS, results, Tryd.results63]
set_option maxRecDepth 8000 in
theorem bidle_t (p : Addr) (w : World) :
    CallsD Tryd.prog 63 #[.pointer (some p)] .returning w fun e u' w' => e = .returned (.tuple #[]) ∧ u' = .returning ∧ w' = w := by
  refine callsD_of_wpS Tryd.func63 rfl fun c₀ cs hu => ?_
  apply wpS_seq
  apply wpS_region
  simp [wpOpsS, go_sem, recoverD, hu, Tryd.ntmps63, Exit.thenS]
  apply wpS_seq
  apply wpS_region
  have hne : ∀ w, (binOp .neq 20 .nilIface .nilIface).run Tryd.prog w = .ok (.bool false) w := fun _ => by kernel_rfl
  simp [wpOpsS, go_sem, hne, Exit.thenS]
  refine wpS_cond (t := false) (by simp [Act.eval, Array.replicate]) ?_
  simp only [Bool.false_eq_true, if_false]
  refine wpS_of_wp (wp_skip ?_)
  cases c₀
  simp_all [bodyPostS, results, Tryd.results63]
set_option maxRecDepth 8000 in
set_option maxHeartbeats 2000000 in
theorem bface_make_ask {w : World} (Pv : Value) (x : Ky) (n : Int) (K : Nat) (hask : ∀ W, Below w.heap.size w W → Calls Tryd.prog 52 #[Pv, x.val] W fun e w' => e = .panicked (erc n) ∧ Below W.heap.size W w') :
    Calls Tryd.prog 25 #[Pv, x.val, .func (.func 26) #[] #[.pointer (some ⟨K, 0, none⟩)]] w fun e w' => e = .returned (.tuple #[zk.val, .int .i64 n]) ∧ Below w.heap.size w w' := by
  have hmf : ∀ (fn : Fn) (first cap : Array Value) (w : World), (Instr.makeFunc fn first cap).run Tryd.prog w = .ok (.func fn first cap) w := fun _ _ _ _ => rfl
  have hzt := zT
  have HZ := Lib.hid (Blk.alloc (Blk.new_of (w.alloc (.cells (kc x.k x.o x.c x.l x.r x.v) 33)) 33 (kl zk).toArray (g := w.heap.size + 1) (by simp)) (.cells #[.int .i64 0] 34))
  have HE := Lib.hid (Blk.new_of ((w.alloc (.cells (kc x.k x.o x.c x.l x.r x.v) 33)).alloc (.cells (kl zk).toArray 33)) 34 #[.int .i64 0] (g := w.heap.size + 2) (by simp))
  have HB := Lib.hid ((((Below.refl w.heap.size w).alloc (Nat.le_refl _) (.cells (kc x.k x.o x.c x.l x.r x.v) 33)).alloc (by simp) (.cells (kl zk).toArray 33)).alloc (by simp; omega) (.cells #[.int .i64 0] 34))
  have HC := Lib.hid hask
  clear hask
  go_enter_defers Tryd.func25, Tryd.ntmps25
  go_wp2_with (go_at_call 52; refine (HC.out _ HB.out).mono ?_; rintro e w1 ⟨rfl, hb⟩; have Z1 := Lib.hid (Blk.keep HZ.out hb); have E1 := Lib.hid (Blk.keep HE.out hb); have B1 := Lib.hid (HB.out.trans (hb.mono HB.out.size)); clear hb)
  have hc : w1.cell? ⟨w.heap.size + 2, 0, none⟩ = some (.int .i64 0) := by simpa using Blk.cell E1.out 0
  have hz := Blk.frozen E1.out 0
  refine leaves_cons (f := 51) (args := #[.pointer (some ⟨w.heap.size + 2, 0, none⟩)]) (by simp) (by simp [go_sem]) ?_
  refine (bcatch_k ⟨w.heap.size + 2, 0, none⟩ 0 n [] _ hc hz).mono ?_
  rintro e u' w'' ⟨rfl, rfl, rfl⟩
  have hl2 := load_err n (Blk.set_ E1.out 0 (.int .i64 n))
  change Leaves _ _ _ _ [] FrameMode.returning _
  refine ⟨_, res_2 rfl _ _ (w.heap.size + 1) (w.heap.size + 2) _ _ rfl rfl (load_key zk (Blk.far Z1.out (p := ⟨w.heap.size + 2, 0, none⟩) (by show w.heap.size + 1 ≠ w.heap.size + 2; omega) (.int .i64 n))) hl2, rfl, ?_⟩
  exact B1.out.setCell (by show w.heap.size ≤ w.heap.size + 2; omega) _
set_option maxRecDepth 8000 in
set_option maxHeartbeats 2000000 in
theorem bface_make_no {w : World} {base p : Nat} {A : Option Addr} {cap : Nat} {ps : List Nat} {os : List Oj} (h : StAt w base p A cap ps os) (L : List Oj) (x : Ky) (AV : Value) (K : Nat) (hask : ∀ W, Below w.heap.size w W → Calls Tryd.prog 52 #[pv p, x.val] W fun e w' => e = .returned AV ∧ Below W.heap.size W w') (n : Int) (hcl : ∀ W, Below w.heap.size w W → Calls Tryd.prog 26 #[AV, .pointer (some ⟨K, 0, none⟩)] W fun e w' => e = .panicked (erc n) ∧ StAt w' base p A cap ps L ∧ Fr (fun k => k ∈ ps) W w') :
    Calls Tryd.prog 25 #[pv p, x.val, .func (.func 26) #[] #[.pointer (some ⟨K, 0, none⟩)]] w fun e w' => e = .returned (.tuple #[zk.val, .int .i64 n]) ∧ StAt w' base p A cap ps L ∧ Fr (fun k => k ∈ ps) w w' := by
  have hmf : ∀ (fn : Fn) (first cap : Array Value) (w : World), (Instr.makeFunc fn first cap).run Tryd.prog w = .ok (.func fn first cap) w := fun _ _ _ _ => rfl
  have hzt := zT
  have HZ := Lib.hid (Blk.alloc (Blk.new_of (w.alloc (.cells (kc x.k x.o x.c x.l x.r x.v) 33)) 33 (kl zk).toArray (g := w.heap.size + 1) (by simp)) (.cells #[.int .i64 0] 34))
  have HE := Lib.hid (Blk.new_of ((w.alloc (.cells (kc x.k x.o x.c x.l x.r x.v) 33)).alloc (.cells (kl zk).toArray 33)) 34 #[.int .i64 0] (g := w.heap.size + 2) (by simp))
  have HB := Lib.hid ((((Below.refl w.heap.size w).alloc (Nat.le_refl _) (.cells (kc x.k x.o x.c x.l x.r x.v) 33)).alloc (by simp) (.cells (kl zk).toArray 33)).alloc (by simp; omega) (.cells #[.int .i64 0] 34))
  have HC := Lib.hid hask
  have HCL := Lib.hid hcl
  have HSL := Lib.hid (fun k (hk : k ∈ ps) => (h.lt k (.inr (.inr hk))).2)
  have HP := Lib.hid (h.lt p (.inl rfl)).2
  clear hask hcl h
  go_enter_defers Tryd.func25, Tryd.ntmps25
  go_wp2_with (first
    | (go_at_call 52; refine (HC.out _ HB.out).mono ?_; rintro e w1 ⟨rfl, hb⟩; have Z1 := Lib.hid (Blk.keep HZ.out hb); have E1 := Lib.hid (Blk.keep HE.out hb); have B1 := Lib.hid (HB.out.trans (hb.mono HB.out.size)); clear hb)
    | (go_at_call 26; refine (HCL.out _ B1.out).mono ?_; rintro e w2 ⟨rfl, hs, hf⟩; have S2 := Lib.hid hs; have F2 := Lib.hid ((Fr.of_below B1.out : Fr (fun k => k ∈ ps) w _).trans hf); have Z2 := Lib.hid (show Blk w2 (w.heap.size + 1) _ _ from (hf.block _ Z1.out.lt (fun hm => by have := (HSL.out _ hm); omega)).trans Z1.out); have E2 := Lib.hid (show Blk w2 (w.heap.size + 2) _ _ from (hf.block _ E1.out.lt (fun hm => by have := (HSL.out _ hm); omega)).trans E1.out); clear hs hf))
  have hc : w2.cell? ⟨w.heap.size + 2, 0, none⟩ = some (.int .i64 0) := by simpa using Blk.cell E2.out 0
  have hz := Blk.frozen E2.out 0
  refine leaves_cons (f := 51) (args := #[.pointer (some ⟨w.heap.size + 2, 0, none⟩)]) (by simp) (by simp [go_sem]) ?_
  refine (bcatch_k ⟨w.heap.size + 2, 0, none⟩ 0 n [] _ hc hz).mono ?_
  rintro e u' w'' ⟨rfl, rfl, rfl⟩
  have hl2 := load_err n (Blk.set_ E2.out 0 (.int .i64 n))
  change Leaves _ _ _ _ [] FrameMode.returning _
  refine ⟨_, res_2 rfl _ _ (w.heap.size + 1) (w.heap.size + 2) _ _ rfl rfl (load_key zk (Blk.far Z2.out (p := ⟨w.heap.size + 2, 0, none⟩) (by show w.heap.size + 1 ≠ w.heap.size + 2; omega) (.int .i64 n))) hl2, rfl, ?_⟩
  exact ⟨S2.out.keep fun k hk => Below.heap_setCell _ _ _ _ (fun e => by
      have hb := S2.out.isCells hk
      simp only at e
      exact S2.out.blk_ne E2.out (by decide) (by have := HP.out; omega) (by rw [← e]; exact hk)), F2.out.setCell (fun hh => absurd hh (by show ¬ w.heap.size + 2 < w.heap.size; omega)) _⟩
set_option maxRecDepth 8000 in
set_option maxHeartbeats 2000000 in
theorem bface_make_yes {w : World} {base p : Nat} {A : Option Addr} {cap : Nat} {ps : List Nat} {os : List Oj} (h : StAt w base p A cap ps os) (L : List Oj) (x : Ky) (AV : Value) (K : Nat) (hask : ∀ W, Below w.heap.size w W → Calls Tryd.prog 52 #[pv p, x.val] W fun e w' => e = .returned AV ∧ Below W.heap.size W w') (y : Ky) (hcl : ∀ W, Below w.heap.size w W → Calls Tryd.prog 26 #[AV, .pointer (some ⟨K, 0, none⟩)] W fun e w' => e = .returned (y.val) ∧ StAt w' base p A cap ps L ∧ Fr (fun k => k ∈ ps) W w') :
    Calls Tryd.prog 25 #[pv p, x.val, .func (.func 26) #[] #[.pointer (some ⟨K, 0, none⟩)]] w fun e w' => e = .returned (.tuple #[y.val, .int .i64 0]) ∧ StAt w' base p A cap ps L ∧ Fr (fun k => k ∈ ps) w w' := by
  have hmf : ∀ (fn : Fn) (first cap : Array Value) (w : World), (Instr.makeFunc fn first cap).run Tryd.prog w = .ok (.func fn first cap) w := fun _ _ _ _ => rfl
  have hzt := zT
  have HZ := Lib.hid (Blk.alloc (Blk.new_of (w.alloc (.cells (kc x.k x.o x.c x.l x.r x.v) 33)) 33 (kl zk).toArray (g := w.heap.size + 1) (by simp)) (.cells #[.int .i64 0] 34))
  have HE := Lib.hid (Blk.new_of ((w.alloc (.cells (kc x.k x.o x.c x.l x.r x.v) 33)).alloc (.cells (kl zk).toArray 33)) 34 #[.int .i64 0] (g := w.heap.size + 2) (by simp))
  have HB := Lib.hid ((((Below.refl w.heap.size w).alloc (Nat.le_refl _) (.cells (kc x.k x.o x.c x.l x.r x.v) 33)).alloc (by simp) (.cells (kl zk).toArray 33)).alloc (by simp; omega) (.cells #[.int .i64 0] 34))
  have HC := Lib.hid hask
  have HCL := Lib.hid hcl
  have HSL := Lib.hid (fun k (hk : k ∈ ps) => (h.lt k (.inr (.inr hk))).2)
  have HP := Lib.hid (h.lt p (.inl rfl)).2
  clear hask hcl h
  go_enter_defers Tryd.func25, Tryd.ntmps25
  go_wp2_with (first
    | (go_at_call 52; refine (HC.out _ HB.out).mono ?_; rintro e w1 ⟨rfl, hb⟩; have Z1 := Lib.hid (Blk.keep HZ.out hb); have E1 := Lib.hid (Blk.keep HE.out hb); have B1 := Lib.hid (HB.out.trans (hb.mono HB.out.size)); clear hb)
    | (go_at_call 26; refine (HCL.out _ B1.out).mono ?_; rintro e w2 ⟨rfl, hs, hf⟩; have S2 := Lib.hid hs; have F2 := Lib.hid ((Fr.of_below B1.out : Fr (fun k => k ∈ ps) w _).trans hf); have Z2 := Lib.hid (show Blk w2 (w.heap.size + 1) _ _ from (hf.block _ Z1.out.lt (fun hm => by have := (HSL.out _ hm); omega)).trans Z1.out); have E2 := Lib.hid (show Blk w2 (w.heap.size + 2) _ _ from (hf.block _ E1.out.lt (fun hm => by have := (HSL.out _ hm); omega)).trans E1.out); clear hs hf; have hc9 : (w2.setRow (w.heap.size + 1) (kl y).toArray).cell? ⟨w.heap.size + 2, 0, none⟩ = some (.int .i64 0) := (Blk.row_far E2.out (show w.heap.size + 2 ≠ w.heap.size + 1 by omega) _).one; have hz9 : (w2.setRow (w.heap.size + 1) (kl y).toArray).frozen? ⟨w.heap.size + 2, 0, none⟩ = false := (Blk.row_far E2.out (show w.heap.size + 2 ≠ w.heap.size + 1 by omega) _).frozen 0)
    | (refine wpList_store_row rfl 33 (.tmp 6) (.tmp 13) rfl (w.heap.size + 1) (kl y).toArray rfl rfl 33 (kl zk).toArray Z2.out size30 rfl (all_one (kl_one y)) ?_))
  have E3 := set_same (Blk.row_far E2.out (show w.heap.size + 2 ≠ w.heap.size + 1 by omega) (kl y).toArray) (.int .i64 0)
  have Z3 : Blk (w2.setRow (w.heap.size + 1) (kl y).toArray) (w.heap.size + 1) 33 (kl y).toArray := Z2.out.setRow _
  refine leaves_cons (f := 51) (args := #[.pointer (some ⟨w.heap.size + 2, 0, none⟩)]) (by simp) (by simp [go_sem]) ?_
  refine (bidle_k ⟨w.heap.size + 2, 0, none⟩ _).mono ?_
  rintro e u' w'' ⟨rfl, rfl, rfl⟩
  have hl2 := load_err 0 E3
  change Leaves _ _ _ _ [] FrameMode.returning _
  have hno : ∀ k, stHas p A ps k → k ≠ w.heap.size + 1 ∧ k ≠ w.heap.size + 2 := fun k hk => ⟨fun e => S2.out.blk_ne Z2.out (by decide) (by have := HP.out; omega) (by rw [← e]; exact hk), fun e => S2.out.blk_ne E2.out (by decide) (by have := HP.out; omega) (by rw [← e]; exact hk)⟩
  refine ⟨_, res_2 rfl _ _ (w.heap.size + 1) (w.heap.size + 2) _ _ rfl rfl (load_key y (Blk.far Z3 (p := ⟨w.heap.size + 2, 0, none⟩) (by show w.heap.size + 1 ≠ w.heap.size + 2; omega) (.int .i64 0))) hl2, rfl, ?_⟩
  exact ⟨S2.out.keep fun k hk => by
    obtain ⟨h1, h2⟩ := hno k hk
    exact (Below.heap_setCell _ _ _ _ h2).trans (setRow_other _ _ _ _ h1), (F2.out.then_ (setRow_fr _ _ _) (fun i hi he => by omega)).setCell (fun hh => absurd hh (by show ¬ w.heap.size + 2 < w.heap.size; omega)) _⟩
set_option maxRecDepth 8000 in
set_option maxHeartbeats 2000000 in
theorem bface_split_ask {w : World} (Pv : Value) (x : Ky) (n : Int) (N : Nat) (hask : ∀ W, Below w.heap.size w W → Calls Tryd.prog 52 #[Pv, x.val] W fun e w' => e = .panicked (erc n) ∧ Below W.heap.size W w') :
    Calls Tryd.prog 25 #[Pv, x.val, .func (.func 32) #[] #[.pointer (some ⟨N, 0, none⟩)]] w fun e w' => e = .returned (.tuple #[zk.val, .int .i64 n]) ∧ Below w.heap.size w w' := by
  have hmf : ∀ (fn : Fn) (first cap : Array Value) (w : World), (Instr.makeFunc fn first cap).run Tryd.prog w = .ok (.func fn first cap) w := fun _ _ _ _ => rfl
  have hzt := zT
  have HZ := Lib.hid (Blk.alloc (Blk.new_of (w.alloc (.cells (kc x.k x.o x.c x.l x.r x.v) 33)) 33 (kl zk).toArray (g := w.heap.size + 1) (by simp)) (.cells #[.int .i64 0] 34))
  have HE := Lib.hid (Blk.new_of ((w.alloc (.cells (kc x.k x.o x.c x.l x.r x.v) 33)).alloc (.cells (kl zk).toArray 33)) 34 #[.int .i64 0] (g := w.heap.size + 2) (by simp))
  have HB := Lib.hid ((((Below.refl w.heap.size w).alloc (Nat.le_refl _) (.cells (kc x.k x.o x.c x.l x.r x.v) 33)).alloc (by simp) (.cells (kl zk).toArray 33)).alloc (by simp; omega) (.cells #[.int .i64 0] 34))
  have HC := Lib.hid hask
  clear hask
  go_enter_defers Tryd.func25, Tryd.ntmps25
  go_wp2_with (go_at_call 52; refine (HC.out _ HB.out).mono ?_; rintro e w1 ⟨rfl, hb⟩; have Z1 := Lib.hid (Blk.keep HZ.out hb); have E1 := Lib.hid (Blk.keep HE.out hb); have B1 := Lib.hid (HB.out.trans (hb.mono HB.out.size)); clear hb)
  have hc : w1.cell? ⟨w.heap.size + 2, 0, none⟩ = some (.int .i64 0) := by simpa using Blk.cell E1.out 0
  have hz := Blk.frozen E1.out 0
  refine leaves_cons (f := 51) (args := #[.pointer (some ⟨w.heap.size + 2, 0, none⟩)]) (by simp) (by simp [go_sem]) ?_
  refine (bcatch_k ⟨w.heap.size + 2, 0, none⟩ 0 n [] _ hc hz).mono ?_
  rintro e u' w'' ⟨rfl, rfl, rfl⟩
  have hl2 := load_err n (Blk.set_ E1.out 0 (.int .i64 n))
  change Leaves _ _ _ _ [] FrameMode.returning _
  refine ⟨_, res_2 rfl _ _ (w.heap.size + 1) (w.heap.size + 2) _ _ rfl rfl (load_key zk (Blk.far Z1.out (p := ⟨w.heap.size + 2, 0, none⟩) (by show w.heap.size + 1 ≠ w.heap.size + 2; omega) (.int .i64 n))) hl2, rfl, ?_⟩
  exact B1.out.setCell (by show w.heap.size ≤ w.heap.size + 2; omega) _
set_option maxRecDepth 8000 in
set_option maxHeartbeats 2000000 in
theorem bface_split_no {w : World} {base p : Nat} {A : Option Addr} {cap : Nat} {ps : List Nat} {os : List Oj} (h : StAt w base p A cap ps os) (L : List Oj) (x : Ky) (AV : Value) (N : Nat) (hask : ∀ W, Below w.heap.size w W → Calls Tryd.prog 52 #[pv p, x.val] W fun e w' => e = .returned AV ∧ Below W.heap.size W w') (n : Int) (hcl : ∀ W, Below w.heap.size w W → Calls Tryd.prog 32 #[AV, .pointer (some ⟨N, 0, none⟩)] W fun e w' => e = .panicked (erc n) ∧ StAt w' base p A cap ps L ∧ Fr (fun k => k ∈ ps) W w') :
    Calls Tryd.prog 25 #[pv p, x.val, .func (.func 32) #[] #[.pointer (some ⟨N, 0, none⟩)]] w fun e w' => e = .returned (.tuple #[zk.val, .int .i64 n]) ∧ StAt w' base p A cap ps L ∧ Fr (fun k => k ∈ ps) w w' := by
  have hmf : ∀ (fn : Fn) (first cap : Array Value) (w : World), (Instr.makeFunc fn first cap).run Tryd.prog w = .ok (.func fn first cap) w := fun _ _ _ _ => rfl
  have hzt := zT
  have HZ := Lib.hid (Blk.alloc (Blk.new_of (w.alloc (.cells (kc x.k x.o x.c x.l x.r x.v) 33)) 33 (kl zk).toArray (g := w.heap.size + 1) (by simp)) (.cells #[.int .i64 0] 34))
  have HE := Lib.hid (Blk.new_of ((w.alloc (.cells (kc x.k x.o x.c x.l x.r x.v) 33)).alloc (.cells (kl zk).toArray 33)) 34 #[.int .i64 0] (g := w.heap.size + 2) (by simp))
  have HB := Lib.hid ((((Below.refl w.heap.size w).alloc (Nat.le_refl _) (.cells (kc x.k x.o x.c x.l x.r x.v) 33)).alloc (by simp) (.cells (kl zk).toArray 33)).alloc (by simp; omega) (.cells #[.int .i64 0] 34))
  have HC := Lib.hid hask
  have HCL := Lib.hid hcl
  have HSL := Lib.hid (fun k (hk : k ∈ ps) => (h.lt k (.inr (.inr hk))).2)
  have HP := Lib.hid (h.lt p (.inl rfl)).2
  clear hask hcl h
  go_enter_defers Tryd.func25, Tryd.ntmps25
  go_wp2_with (first
    | (go_at_call 52; refine (HC.out _ HB.out).mono ?_; rintro e w1 ⟨rfl, hb⟩; have Z1 := Lib.hid (Blk.keep HZ.out hb); have E1 := Lib.hid (Blk.keep HE.out hb); have B1 := Lib.hid (HB.out.trans (hb.mono HB.out.size)); clear hb)
    | (go_at_call 32; refine (HCL.out _ B1.out).mono ?_; rintro e w2 ⟨rfl, hs, hf⟩; have S2 := Lib.hid hs; have F2 := Lib.hid ((Fr.of_below B1.out : Fr (fun k => k ∈ ps) w _).trans hf); have Z2 := Lib.hid (show Blk w2 (w.heap.size + 1) _ _ from (hf.block _ Z1.out.lt (fun hm => by have := (HSL.out _ hm); omega)).trans Z1.out); have E2 := Lib.hid (show Blk w2 (w.heap.size + 2) _ _ from (hf.block _ E1.out.lt (fun hm => by have := (HSL.out _ hm); omega)).trans E1.out); clear hs hf))
  have hc : w2.cell? ⟨w.heap.size + 2, 0, none⟩ = some (.int .i64 0) := by simpa using Blk.cell E2.out 0
  have hz := Blk.frozen E2.out 0
  refine leaves_cons (f := 51) (args := #[.pointer (some ⟨w.heap.size + 2, 0, none⟩)]) (by simp) (by simp [go_sem]) ?_
  refine (bcatch_k ⟨w.heap.size + 2, 0, none⟩ 0 n [] _ hc hz).mono ?_
  rintro e u' w'' ⟨rfl, rfl, rfl⟩
  have hl2 := load_err n (Blk.set_ E2.out 0 (.int .i64 n))
  change Leaves _ _ _ _ [] FrameMode.returning _
  refine ⟨_, res_2 rfl _ _ (w.heap.size + 1) (w.heap.size + 2) _ _ rfl rfl (load_key zk (Blk.far Z2.out (p := ⟨w.heap.size + 2, 0, none⟩) (by show w.heap.size + 1 ≠ w.heap.size + 2; omega) (.int .i64 n))) hl2, rfl, ?_⟩
  exact ⟨S2.out.keep fun k hk => Below.heap_setCell _ _ _ _ (fun e => by
      have hb := S2.out.isCells hk
      simp only at e
      exact S2.out.blk_ne E2.out (by decide) (by have := HP.out; omega) (by rw [← e]; exact hk)), F2.out.setCell (fun hh => absurd hh (by show ¬ w.heap.size + 2 < w.heap.size; omega)) _⟩
set_option maxRecDepth 8000 in
set_option maxHeartbeats 2000000 in
theorem bface_split_yes {w : World} {base p : Nat} {A : Option Addr} {cap : Nat} {ps : List Nat} {os : List Oj} (h : StAt w base p A cap ps os) (L : List Oj) (x : Ky) (AV : Value) (N : Nat) (hask : ∀ W, Below w.heap.size w W → Calls Tryd.prog 52 #[pv p, x.val] W fun e w' => e = .returned AV ∧ Below W.heap.size W w') (y : Ky) (hcl : ∀ W, Below w.heap.size w W → Calls Tryd.prog 32 #[AV, .pointer (some ⟨N, 0, none⟩)] W fun e w' => e = .returned (y.val) ∧ StAt w' base p A cap ps L ∧ Fr (fun k => k ∈ ps) W w') :
    Calls Tryd.prog 25 #[pv p, x.val, .func (.func 32) #[] #[.pointer (some ⟨N, 0, none⟩)]] w fun e w' => e = .returned (.tuple #[y.val, .int .i64 0]) ∧ StAt w' base p A cap ps L ∧ Fr (fun k => k ∈ ps) w w' := by
  have hmf : ∀ (fn : Fn) (first cap : Array Value) (w : World), (Instr.makeFunc fn first cap).run Tryd.prog w = .ok (.func fn first cap) w := fun _ _ _ _ => rfl
  have hzt := zT
  have HZ := Lib.hid (Blk.alloc (Blk.new_of (w.alloc (.cells (kc x.k x.o x.c x.l x.r x.v) 33)) 33 (kl zk).toArray (g := w.heap.size + 1) (by simp)) (.cells #[.int .i64 0] 34))
  have HE := Lib.hid (Blk.new_of ((w.alloc (.cells (kc x.k x.o x.c x.l x.r x.v) 33)).alloc (.cells (kl zk).toArray 33)) 34 #[.int .i64 0] (g := w.heap.size + 2) (by simp))
  have HB := Lib.hid ((((Below.refl w.heap.size w).alloc (Nat.le_refl _) (.cells (kc x.k x.o x.c x.l x.r x.v) 33)).alloc (by simp) (.cells (kl zk).toArray 33)).alloc (by simp; omega) (.cells #[.int .i64 0] 34))
  have HC := Lib.hid hask
  have HCL := Lib.hid hcl
  have HSL := Lib.hid (fun k (hk : k ∈ ps) => (h.lt k (.inr (.inr hk))).2)
  have HP := Lib.hid (h.lt p (.inl rfl)).2
  clear hask hcl h
  go_enter_defers Tryd.func25, Tryd.ntmps25
  go_wp2_with (first
    | (go_at_call 52; refine (HC.out _ HB.out).mono ?_; rintro e w1 ⟨rfl, hb⟩; have Z1 := Lib.hid (Blk.keep HZ.out hb); have E1 := Lib.hid (Blk.keep HE.out hb); have B1 := Lib.hid (HB.out.trans (hb.mono HB.out.size)); clear hb)
    | (go_at_call 32; refine (HCL.out _ B1.out).mono ?_; rintro e w2 ⟨rfl, hs, hf⟩; have S2 := Lib.hid hs; have F2 := Lib.hid ((Fr.of_below B1.out : Fr (fun k => k ∈ ps) w _).trans hf); have Z2 := Lib.hid (show Blk w2 (w.heap.size + 1) _ _ from (hf.block _ Z1.out.lt (fun hm => by have := (HSL.out _ hm); omega)).trans Z1.out); have E2 := Lib.hid (show Blk w2 (w.heap.size + 2) _ _ from (hf.block _ E1.out.lt (fun hm => by have := (HSL.out _ hm); omega)).trans E1.out); clear hs hf; have hc9 : (w2.setRow (w.heap.size + 1) (kl y).toArray).cell? ⟨w.heap.size + 2, 0, none⟩ = some (.int .i64 0) := (Blk.row_far E2.out (show w.heap.size + 2 ≠ w.heap.size + 1 by omega) _).one; have hz9 : (w2.setRow (w.heap.size + 1) (kl y).toArray).frozen? ⟨w.heap.size + 2, 0, none⟩ = false := (Blk.row_far E2.out (show w.heap.size + 2 ≠ w.heap.size + 1 by omega) _).frozen 0)
    | (refine wpList_store_row rfl 33 (.tmp 6) (.tmp 13) rfl (w.heap.size + 1) (kl y).toArray rfl rfl 33 (kl zk).toArray Z2.out size30 rfl (all_one (kl_one y)) ?_))
  have E3 := set_same (Blk.row_far E2.out (show w.heap.size + 2 ≠ w.heap.size + 1 by omega) (kl y).toArray) (.int .i64 0)
  have Z3 : Blk (w2.setRow (w.heap.size + 1) (kl y).toArray) (w.heap.size + 1) 33 (kl y).toArray := Z2.out.setRow _
  refine leaves_cons (f := 51) (args := #[.pointer (some ⟨w.heap.size + 2, 0, none⟩)]) (by simp) (by simp [go_sem]) ?_
  refine (bidle_k ⟨w.heap.size + 2, 0, none⟩ _).mono ?_
  rintro e u' w'' ⟨rfl, rfl, rfl⟩
  have hl2 := load_err 0 E3
  change Leaves _ _ _ _ [] FrameMode.returning _
  have hno : ∀ k, stHas p A ps k → k ≠ w.heap.size + 1 ∧ k ≠ w.heap.size + 2 := fun k hk => ⟨fun e => S2.out.blk_ne Z2.out (by decide) (by have := HP.out; omega) (by rw [← e]; exact hk), fun e => S2.out.blk_ne E2.out (by decide) (by have := HP.out; omega) (by rw [← e]; exact hk)⟩
  refine ⟨_, res_2 rfl _ _ (w.heap.size + 1) (w.heap.size + 2) _ _ rfl rfl (load_key y (Blk.far Z3 (p := ⟨w.heap.size + 2, 0, none⟩) (by show w.heap.size + 1 ≠ w.heap.size + 2; omega) (.int .i64 0))) hl2, rfl, ?_⟩
  exact ⟨S2.out.keep fun k hk => by
    obtain ⟨h1, h2⟩ := hno k hk
    exact (Below.heap_setCell _ _ _ _ h2).trans (setRow_other _ _ _ _ h1), (F2.out.then_ (setRow_fr _ _ _) (fun i hi he => by omega)).setCell (fun hh => absurd hh (by show ¬ w.heap.size + 2 < w.heap.size; omega)) _⟩
set_option maxRecDepth 8000 in
set_option maxHeartbeats 2000000 in
theorem bface_destroy_ask {w : World} (Pv : Value) (x : Ky) (n : Int) (S K : Nat) (hask : ∀ W, Below w.heap.size w W → Calls Tryd.prog 52 #[Pv, x.val] W fun e w' => e = .panicked (erc n) ∧ Below W.heap.size W w') :
    Calls Tryd.prog 28 #[Pv, x.val, .func (.func 29) #[] #[.pointer (some ⟨S, 0, none⟩), .pointer (some ⟨K, 0, none⟩)]] w fun e w' => e = .returned (.tuple #[.bool false, .int .i64 n]) ∧ Below w.heap.size w w' := by
  have hmf : ∀ (fn : Fn) (first cap : Array Value) (w : World), (Instr.makeFunc fn first cap).run Tryd.prog w = .ok (.func fn first cap) w := fun _ _ _ _ => rfl
  have hzt := zT
  have HE := Lib.hid (Blk.new_of (w.alloc (.cells (kc x.k x.o x.c x.l x.r x.v) 33)) 34 #[.int .i64 0] (g := w.heap.size + 1) (by simp))
  have HB := Lib.hid (((Below.refl w.heap.size w).alloc (Nat.le_refl _) (.cells (kc x.k x.o x.c x.l x.r x.v) 33)).alloc (by simp) (.cells #[.int .i64 0] 34))
  have HC := Lib.hid hask
  clear hask
  go_enter_defers Tryd.func28, Tryd.ntmps28
  go_wp2_with (go_at_call 52; refine (HC.out _ HB.out).mono ?_; rintro e w1 ⟨rfl, hb⟩; have E1 := Lib.hid (Blk.keep HE.out hb); have B1 := Lib.hid (HB.out.trans (hb.mono HB.out.size)); clear hb)
  have hc : w1.cell? ⟨w.heap.size + 1, 0, none⟩ = some (.int .i64 0) := by simpa using Blk.cell E1.out 0
  have hz := Blk.frozen E1.out 0
  refine leaves_cons (f := 55) (args := #[.pointer (some ⟨w.heap.size + 1, 0, none⟩)]) (by simp) (by simp [go_sem]) ?_
  refine (bcatch_b ⟨w.heap.size + 1, 0, none⟩ 0 n [] _ hc hz).mono ?_
  rintro e u' w'' ⟨rfl, rfl, rfl⟩
  have hl2 := load_err n (Blk.set_ E1.out 0 (.int .i64 n))
  change Leaves _ _ _ _ [] FrameMode.returning _
  refine ⟨_, res_t1 rfl _ _ (w.heap.size + 1) _ _ rfl rfl hl2, rfl, ?_⟩
  exact B1.out.setCell (by show w.heap.size ≤ w.heap.size + 1; omega) _
set_option maxRecDepth 8000 in
set_option maxHeartbeats 2000000 in
theorem bface_destroy_no {w : World} {base p : Nat} {A : Option Addr} {cap : Nat} {ps : List Nat} {os : List Oj} (h : StAt w base p A cap ps os) (L : List Oj) (x : Ky) (AV : Value) (S K : Nat) (hask : ∀ W, Below w.heap.size w W → Calls Tryd.prog 52 #[pv p, x.val] W fun e w' => e = .returned AV ∧ Below W.heap.size W w') (n : Int) (hcl : ∀ W, Below w.heap.size w W → Calls Tryd.prog 29 #[AV, .pointer (some ⟨S, 0, none⟩), .pointer (some ⟨K, 0, none⟩)] W fun e w' => e = .panicked (erc n) ∧ StAt w' base p A cap ps L ∧ Fr (fun k => k ∈ ps) W w') :
    Calls Tryd.prog 28 #[pv p, x.val, .func (.func 29) #[] #[.pointer (some ⟨S, 0, none⟩), .pointer (some ⟨K, 0, none⟩)]] w fun e w' => e = .returned (.tuple #[.bool false, .int .i64 n]) ∧ StAt w' base p A cap ps L ∧ Fr (fun k => k ∈ ps) w w' := by
  have hmf : ∀ (fn : Fn) (first cap : Array Value) (w : World), (Instr.makeFunc fn first cap).run Tryd.prog w = .ok (.func fn first cap) w := fun _ _ _ _ => rfl
  have hzt := zT
  have HE := Lib.hid (Blk.new_of (w.alloc (.cells (kc x.k x.o x.c x.l x.r x.v) 33)) 34 #[.int .i64 0] (g := w.heap.size + 1) (by simp))
  have HB := Lib.hid (((Below.refl w.heap.size w).alloc (Nat.le_refl _) (.cells (kc x.k x.o x.c x.l x.r x.v) 33)).alloc (by simp) (.cells #[.int .i64 0] 34))
  have HC := Lib.hid hask
  have HCL := Lib.hid hcl
  have HSL := Lib.hid (fun k (hk : k ∈ ps) => (h.lt k (.inr (.inr hk))).2)
  have HP := Lib.hid (h.lt p (.inl rfl)).2
  clear hask hcl h
  go_enter_defers Tryd.func28, Tryd.ntmps28
  go_wp2_with (first
    | (go_at_call 52; refine (HC.out _ HB.out).mono ?_; rintro e w1 ⟨rfl, hb⟩; have E1 := Lib.hid (Blk.keep HE.out hb); have B1 := Lib.hid (HB.out.trans (hb.mono HB.out.size)); clear hb)
    | (go_at_call 29; refine (HCL.out _ B1.out).mono ?_; rintro e w2 ⟨rfl, hs, hf⟩; have S2 := Lib.hid hs; have F2 := Lib.hid ((Fr.of_below B1.out : Fr (fun k => k ∈ ps) w _).trans hf); have E2 := Lib.hid (show Blk w2 (w.heap.size + 1) _ _ from (hf.block _ E1.out.lt (fun hm => by have := (HSL.out _ hm); omega)).trans E1.out); clear hs hf))
  have hc : w2.cell? ⟨w.heap.size + 1, 0, none⟩ = some (.int .i64 0) := by simpa using Blk.cell E2.out 0
  have hz := Blk.frozen E2.out 0
  refine leaves_cons (f := 55) (args := #[.pointer (some ⟨w.heap.size + 1, 0, none⟩)]) (by simp) (by simp [go_sem]) ?_
  refine (bcatch_b ⟨w.heap.size + 1, 0, none⟩ 0 n [] _ hc hz).mono ?_
  rintro e u' w'' ⟨rfl, rfl, rfl⟩
  have hl2 := load_err n (Blk.set_ E2.out 0 (.int .i64 n))
  change Leaves _ _ _ _ [] FrameMode.returning _
  refine ⟨_, res_t1 rfl _ _ (w.heap.size + 1) _ _ rfl rfl hl2, rfl, ?_⟩
  exact ⟨S2.out.keep fun k hk => Below.heap_setCell _ _ _ _ (fun e => by
      have hb := S2.out.isCells hk
      simp only at e
      exact S2.out.blk_ne E2.out (by decide) (by have := HP.out; omega) (by rw [← e]; exact hk)), F2.out.setCell (fun hh => absurd hh (by show ¬ w.heap.size + 1 < w.heap.size; omega)) _⟩
set_option maxRecDepth 8000 in
set_option maxHeartbeats 2000000 in
theorem bface_destroy_yes {w : World} {base p : Nat} {A : Option Addr} {cap : Nat} {ps : List Nat} {os : List Oj} (h : StAt w base p A cap ps os) (L : List Oj) (x : Ky) (AV : Value) (S K : Nat) (hask : ∀ W, Below w.heap.size w W → Calls Tryd.prog 52 #[pv p, x.val] W fun e w' => e = .returned AV ∧ Below W.heap.size W w') (y : Bool) (hcl : ∀ W, Below w.heap.size w W → Calls Tryd.prog 29 #[AV, .pointer (some ⟨S, 0, none⟩), .pointer (some ⟨K, 0, none⟩)] W fun e w' => e = .returned (.bool y) ∧ StAt w' base p A cap ps L ∧ Fr (fun k => k ∈ ps) W w') :
    Calls Tryd.prog 28 #[pv p, x.val, .func (.func 29) #[] #[.pointer (some ⟨S, 0, none⟩), .pointer (some ⟨K, 0, none⟩)]] w fun e w' => e = .returned (.tuple #[.bool y, .int .i64 0]) ∧ StAt w' base p A cap ps L ∧ Fr (fun k => k ∈ ps) w w' := by
  have hmf : ∀ (fn : Fn) (first cap : Array Value) (w : World), (Instr.makeFunc fn first cap).run Tryd.prog w = .ok (.func fn first cap) w := fun _ _ _ _ => rfl
  have hzt := zT
  have HE := Lib.hid (Blk.new_of (w.alloc (.cells (kc x.k x.o x.c x.l x.r x.v) 33)) 34 #[.int .i64 0] (g := w.heap.size + 1) (by simp))
  have HB := Lib.hid (((Below.refl w.heap.size w).alloc (Nat.le_refl _) (.cells (kc x.k x.o x.c x.l x.r x.v) 33)).alloc (by simp) (.cells #[.int .i64 0] 34))
  have HC := Lib.hid hask
  have HCL := Lib.hid hcl
  have HSL := Lib.hid (fun k (hk : k ∈ ps) => (h.lt k (.inr (.inr hk))).2)
  have HP := Lib.hid (h.lt p (.inl rfl)).2
  clear hask hcl h
  go_enter_defers Tryd.func28, Tryd.ntmps28
  go_wp2_with (first
    | (go_at_call 52; refine (HC.out _ HB.out).mono ?_; rintro e w1 ⟨rfl, hb⟩; have E1 := Lib.hid (Blk.keep HE.out hb); have B1 := Lib.hid (HB.out.trans (hb.mono HB.out.size)); clear hb)
    | (go_at_call 29; refine (HCL.out _ B1.out).mono ?_; rintro e w2 ⟨rfl, hs, hf⟩; have S2 := Lib.hid hs; have F2 := Lib.hid ((Fr.of_below B1.out : Fr (fun k => k ∈ ps) w _).trans hf); have E2 := Lib.hid (show Blk w2 (w.heap.size + 1) _ _ from (hf.block _ E1.out.lt (fun hm => by have := (HSL.out _ hm); omega)).trans E1.out); clear hs hf; have hc9 : w2.cell? ⟨w.heap.size + 1, 0, none⟩ = some (.int .i64 0) := E2.out.one; have hz9 : w2.frozen? ⟨w.heap.size + 1, 0, none⟩ = false := E2.out.frozen 0))
  have E3 := set_same E2.out (.int .i64 0)
  refine leaves_cons (f := 55) (args := #[.pointer (some ⟨w.heap.size + 1, 0, none⟩)]) (by simp) (by simp [go_sem]) ?_
  refine (bidle_b ⟨w.heap.size + 1, 0, none⟩ _).mono ?_
  rintro e u' w'' ⟨rfl, rfl, rfl⟩
  have hl2 := load_err 0 E3
  change Leaves _ _ _ _ [] FrameMode.returning _
  exact ⟨_, res_t1 rfl _ _ (w.heap.size + 1) _ _ rfl rfl hl2, rfl, S2.out.keep fun k hk => Below.heap_setCell _ _ _ _ (fun e => by
    simp only at e
    exact S2.out.blk_ne E2.out (by decide) (by have := HP.out; omega) (by rw [← e]; exact hk)), F2.out.setCell (fun hh => absurd hh (by show ¬ w.heap.size + 1 < w.heap.size; omega)) _⟩
set_option maxRecDepth 8000 in
set_option maxHeartbeats 2000000 in
theorem bface_owns_ask {w : World} (Pv : Value) (x : Ky) (n : Int) (K : Nat) (hask : ∀ W, Below w.heap.size w W → Calls Tryd.prog 52 #[Pv, x.val] W fun e w' => e = .panicked (erc n) ∧ Below W.heap.size W w') :
    Calls Tryd.prog 28 #[Pv, x.val, .func (.func 47) #[] #[.pointer (some ⟨K, 0, none⟩)]] w fun e w' => e = .returned (.tuple #[.bool false, .int .i64 n]) ∧ Below w.heap.size w w' := by
  have hmf : ∀ (fn : Fn) (first cap : Array Value) (w : World), (Instr.makeFunc fn first cap).run Tryd.prog w = .ok (.func fn first cap) w := fun _ _ _ _ => rfl
  have hzt := zT
  have HE := Lib.hid (Blk.new_of (w.alloc (.cells (kc x.k x.o x.c x.l x.r x.v) 33)) 34 #[.int .i64 0] (g := w.heap.size + 1) (by simp))
  have HB := Lib.hid (((Below.refl w.heap.size w).alloc (Nat.le_refl _) (.cells (kc x.k x.o x.c x.l x.r x.v) 33)).alloc (by simp) (.cells #[.int .i64 0] 34))
  have HC := Lib.hid hask
  clear hask
  go_enter_defers Tryd.func28, Tryd.ntmps28
  go_wp2_with (go_at_call 52; refine (HC.out _ HB.out).mono ?_; rintro e w1 ⟨rfl, hb⟩; have E1 := Lib.hid (Blk.keep HE.out hb); have B1 := Lib.hid (HB.out.trans (hb.mono HB.out.size)); clear hb)
  have hc : w1.cell? ⟨w.heap.size + 1, 0, none⟩ = some (.int .i64 0) := by simpa using Blk.cell E1.out 0
  have hz := Blk.frozen E1.out 0
  refine leaves_cons (f := 55) (args := #[.pointer (some ⟨w.heap.size + 1, 0, none⟩)]) (by simp) (by simp [go_sem]) ?_
  refine (bcatch_b ⟨w.heap.size + 1, 0, none⟩ 0 n [] _ hc hz).mono ?_
  rintro e u' w'' ⟨rfl, rfl, rfl⟩
  have hl2 := load_err n (Blk.set_ E1.out 0 (.int .i64 n))
  change Leaves _ _ _ _ [] FrameMode.returning _
  refine ⟨_, res_t1 rfl _ _ (w.heap.size + 1) _ _ rfl rfl hl2, rfl, ?_⟩
  exact B1.out.setCell (by show w.heap.size ≤ w.heap.size + 1; omega) _
set_option maxRecDepth 8000 in
set_option maxHeartbeats 2000000 in
theorem bface_owns_no {w : World} {base p : Nat} {A : Option Addr} {cap : Nat} {ps : List Nat} {os : List Oj} (h : StAt w base p A cap ps os) (L : List Oj) (x : Ky) (AV : Value) (K : Nat) (hask : ∀ W, Below w.heap.size w W → Calls Tryd.prog 52 #[pv p, x.val] W fun e w' => e = .returned AV ∧ Below W.heap.size W w') (n : Int) (hcl : ∀ W, Below w.heap.size w W → Calls Tryd.prog 47 #[AV, .pointer (some ⟨K, 0, none⟩)] W fun e w' => e = .panicked (erc n) ∧ StAt w' base p A cap ps L ∧ Fr (fun k => k ∈ ps) W w') :
    Calls Tryd.prog 28 #[pv p, x.val, .func (.func 47) #[] #[.pointer (some ⟨K, 0, none⟩)]] w fun e w' => e = .returned (.tuple #[.bool false, .int .i64 n]) ∧ StAt w' base p A cap ps L ∧ Fr (fun k => k ∈ ps) w w' := by
  have hmf : ∀ (fn : Fn) (first cap : Array Value) (w : World), (Instr.makeFunc fn first cap).run Tryd.prog w = .ok (.func fn first cap) w := fun _ _ _ _ => rfl
  have hzt := zT
  have HE := Lib.hid (Blk.new_of (w.alloc (.cells (kc x.k x.o x.c x.l x.r x.v) 33)) 34 #[.int .i64 0] (g := w.heap.size + 1) (by simp))
  have HB := Lib.hid (((Below.refl w.heap.size w).alloc (Nat.le_refl _) (.cells (kc x.k x.o x.c x.l x.r x.v) 33)).alloc (by simp) (.cells #[.int .i64 0] 34))
  have HC := Lib.hid hask
  have HCL := Lib.hid hcl
  have HSL := Lib.hid (fun k (hk : k ∈ ps) => (h.lt k (.inr (.inr hk))).2)
  have HP := Lib.hid (h.lt p (.inl rfl)).2
  clear hask hcl h
  go_enter_defers Tryd.func28, Tryd.ntmps28
  go_wp2_with (first
    | (go_at_call 52; refine (HC.out _ HB.out).mono ?_; rintro e w1 ⟨rfl, hb⟩; have E1 := Lib.hid (Blk.keep HE.out hb); have B1 := Lib.hid (HB.out.trans (hb.mono HB.out.size)); clear hb)
    | (go_at_call 47; refine (HCL.out _ B1.out).mono ?_; rintro e w2 ⟨rfl, hs, hf⟩; have S2 := Lib.hid hs; have F2 := Lib.hid ((Fr.of_below B1.out : Fr (fun k => k ∈ ps) w _).trans hf); have E2 := Lib.hid (show Blk w2 (w.heap.size + 1) _ _ from (hf.block _ E1.out.lt (fun hm => by have := (HSL.out _ hm); omega)).trans E1.out); clear hs hf))
  have hc : w2.cell? ⟨w.heap.size + 1, 0, none⟩ = some (.int .i64 0) := by simpa using Blk.cell E2.out 0
  have hz := Blk.frozen E2.out 0
  refine leaves_cons (f := 55) (args := #[.pointer (some ⟨w.heap.size + 1, 0, none⟩)]) (by simp) (by simp [go_sem]) ?_
  refine (bcatch_b ⟨w.heap.size + 1, 0, none⟩ 0 n [] _ hc hz).mono ?_
  rintro e u' w'' ⟨rfl, rfl, rfl⟩
  have hl2 := load_err n (Blk.set_ E2.out 0 (.int .i64 n))
  change Leaves _ _ _ _ [] FrameMode.returning _
  refine ⟨_, res_t1 rfl _ _ (w.heap.size + 1) _ _ rfl rfl hl2, rfl, ?_⟩
  exact ⟨S2.out.keep fun k hk => Below.heap_setCell _ _ _ _ (fun e => by
      have hb := S2.out.isCells hk
      simp only at e
      exact S2.out.blk_ne E2.out (by decide) (by have := HP.out; omega) (by rw [← e]; exact hk)), F2.out.setCell (fun hh => absurd hh (by show ¬ w.heap.size + 1 < w.heap.size; omega)) _⟩
set_option maxRecDepth 8000 in
set_option maxHeartbeats 2000000 in
theorem bface_owns_yes {w : World} {base p : Nat} {A : Option Addr} {cap : Nat} {ps : List Nat} {os : List Oj} (h : StAt w base p A cap ps os) (L : List Oj) (x : Ky) (AV : Value) (K : Nat) (hask : ∀ W, Below w.heap.size w W → Calls Tryd.prog 52 #[pv p, x.val] W fun e w' => e = .returned AV ∧ Below W.heap.size W w') (y : Bool) (hcl : ∀ W, Below w.heap.size w W → Calls Tryd.prog 47 #[AV, .pointer (some ⟨K, 0, none⟩)] W fun e w' => e = .returned (.bool y) ∧ StAt w' base p A cap ps L ∧ Fr (fun k => k ∈ ps) W w') :
    Calls Tryd.prog 28 #[pv p, x.val, .func (.func 47) #[] #[.pointer (some ⟨K, 0, none⟩)]] w fun e w' => e = .returned (.tuple #[.bool y, .int .i64 0]) ∧ StAt w' base p A cap ps L ∧ Fr (fun k => k ∈ ps) w w' := by
  have hmf : ∀ (fn : Fn) (first cap : Array Value) (w : World), (Instr.makeFunc fn first cap).run Tryd.prog w = .ok (.func fn first cap) w := fun _ _ _ _ => rfl
  have hzt := zT
  have HE := Lib.hid (Blk.new_of (w.alloc (.cells (kc x.k x.o x.c x.l x.r x.v) 33)) 34 #[.int .i64 0] (g := w.heap.size + 1) (by simp))
  have HB := Lib.hid (((Below.refl w.heap.size w).alloc (Nat.le_refl _) (.cells (kc x.k x.o x.c x.l x.r x.v) 33)).alloc (by simp) (.cells #[.int .i64 0] 34))
  have HC := Lib.hid hask
  have HCL := Lib.hid hcl
  have HSL := Lib.hid (fun k (hk : k ∈ ps) => (h.lt k (.inr (.inr hk))).2)
  have HP := Lib.hid (h.lt p (.inl rfl)).2
  clear hask hcl h
  go_enter_defers Tryd.func28, Tryd.ntmps28
  go_wp2_with (first
    | (go_at_call 52; refine (HC.out _ HB.out).mono ?_; rintro e w1 ⟨rfl, hb⟩; have E1 := Lib.hid (Blk.keep HE.out hb); have B1 := Lib.hid (HB.out.trans (hb.mono HB.out.size)); clear hb)
    | (go_at_call 47; refine (HCL.out _ B1.out).mono ?_; rintro e w2 ⟨rfl, hs, hf⟩; have S2 := Lib.hid hs; have F2 := Lib.hid ((Fr.of_below B1.out : Fr (fun k => k ∈ ps) w _).trans hf); have E2 := Lib.hid (show Blk w2 (w.heap.size + 1) _ _ from (hf.block _ E1.out.lt (fun hm => by have := (HSL.out _ hm); omega)).trans E1.out); clear hs hf; have hc9 : w2.cell? ⟨w.heap.size + 1, 0, none⟩ = some (.int .i64 0) := E2.out.one; have hz9 : w2.frozen? ⟨w.heap.size + 1, 0, none⟩ = false := E2.out.frozen 0))
  have E3 := set_same E2.out (.int .i64 0)
  refine leaves_cons (f := 55) (args := #[.pointer (some ⟨w.heap.size + 1, 0, none⟩)]) (by simp) (by simp [go_sem]) ?_
  refine (bidle_b ⟨w.heap.size + 1, 0, none⟩ _).mono ?_
  rintro e u' w'' ⟨rfl, rfl, rfl⟩
  have hl2 := load_err 0 E3
  change Leaves _ _ _ _ [] FrameMode.returning _
  exact ⟨_, res_t1 rfl _ _ (w.heap.size + 1) _ _ rfl rfl hl2, rfl, S2.out.keep fun k hk => Below.heap_setCell _ _ _ _ (fun e => by
    simp only at e
    exact S2.out.blk_ne E2.out (by decide) (by have := HP.out; omega) (by rw [← e]; exact hk)), F2.out.setCell (fun hh => absurd hh (by show ¬ w.heap.size + 1 < w.heap.size; omega)) _⟩
set_option maxRecDepth 8000 in
set_option maxHeartbeats 2000000 in
theorem bface_raze_ask {w : World} (Pv : Value) (x : Ky) (n : Int) (hask : ∀ W, Below w.heap.size w W → Calls Tryd.prog 52 #[Pv, x.val] W fun e w' => e = .panicked (erc n) ∧ Below W.heap.size W w') :
    Calls Tryd.prog 38 #[Pv, x.val, .func (.func 39) #[] #[]] w fun e w' => e = .returned (.tuple #[.int .i64 0, .int .i64 n]) ∧ Below w.heap.size w w' := by
  have hmf : ∀ (fn : Fn) (first cap : Array Value) (w : World), (Instr.makeFunc fn first cap).run Tryd.prog w = .ok (.func fn first cap) w := fun _ _ _ _ => rfl
  have hzt := zT
  have HE := Lib.hid (Blk.new_of (w.alloc (.cells (kc x.k x.o x.c x.l x.r x.v) 33)) 34 #[.int .i64 0] (g := w.heap.size + 1) (by simp))
  have HB := Lib.hid (((Below.refl w.heap.size w).alloc (Nat.le_refl _) (.cells (kc x.k x.o x.c x.l x.r x.v) 33)).alloc (by simp) (.cells #[.int .i64 0] 34))
  have HC := Lib.hid hask
  clear hask
  go_enter_defers Tryd.func38, Tryd.ntmps38
  go_wp2_with (go_at_call 52; refine (HC.out _ HB.out).mono ?_; rintro e w1 ⟨rfl, hb⟩; have E1 := Lib.hid (Blk.keep HE.out hb); have B1 := Lib.hid (HB.out.trans (hb.mono HB.out.size)); clear hb)
  have hc : w1.cell? ⟨w.heap.size + 1, 0, none⟩ = some (.int .i64 0) := by simpa using Blk.cell E1.out 0
  have hz := Blk.frozen E1.out 0
  refine leaves_cons (f := 59) (args := #[.pointer (some ⟨w.heap.size + 1, 0, none⟩)]) (by simp) (by simp [go_sem]) ?_
  refine (bcatch_n ⟨w.heap.size + 1, 0, none⟩ 0 n [] _ hc hz).mono ?_
  rintro e u' w'' ⟨rfl, rfl, rfl⟩
  have hl2 := load_err n (Blk.set_ E1.out 0 (.int .i64 n))
  change Leaves _ _ _ _ [] FrameMode.returning _
  refine ⟨_, res_t1 rfl _ _ (w.heap.size + 1) _ _ rfl rfl hl2, rfl, ?_⟩
  exact B1.out.setCell (by show w.heap.size ≤ w.heap.size + 1; omega) _
set_option maxRecDepth 8000 in
set_option maxHeartbeats 2000000 in
theorem bface_raze_no {w : World} {base p : Nat} {A : Option Addr} {cap : Nat} {ps : List Nat} {os : List Oj} (h : StAt w base p A cap ps os) (L : List Oj) (x : Ky) (AV : Value) (hask : ∀ W, Below w.heap.size w W → Calls Tryd.prog 52 #[pv p, x.val] W fun e w' => e = .returned AV ∧ Below W.heap.size W w') (n : Int) (hcl : ∀ W, Below w.heap.size w W → Calls Tryd.prog 39 #[AV] W fun e w' => e = .panicked (erc n) ∧ StAt w' base p A cap ps L ∧ Fr (fun k => k ∈ ps) W w') :
    Calls Tryd.prog 38 #[pv p, x.val, .func (.func 39) #[] #[]] w fun e w' => e = .returned (.tuple #[.int .i64 0, .int .i64 n]) ∧ StAt w' base p A cap ps L ∧ Fr (fun k => k ∈ ps) w w' := by
  have hmf : ∀ (fn : Fn) (first cap : Array Value) (w : World), (Instr.makeFunc fn first cap).run Tryd.prog w = .ok (.func fn first cap) w := fun _ _ _ _ => rfl
  have hzt := zT
  have HE := Lib.hid (Blk.new_of (w.alloc (.cells (kc x.k x.o x.c x.l x.r x.v) 33)) 34 #[.int .i64 0] (g := w.heap.size + 1) (by simp))
  have HB := Lib.hid (((Below.refl w.heap.size w).alloc (Nat.le_refl _) (.cells (kc x.k x.o x.c x.l x.r x.v) 33)).alloc (by simp) (.cells #[.int .i64 0] 34))
  have HC := Lib.hid hask
  have HCL := Lib.hid hcl
  have HSL := Lib.hid (fun k (hk : k ∈ ps) => (h.lt k (.inr (.inr hk))).2)
  have HP := Lib.hid (h.lt p (.inl rfl)).2
  clear hask hcl h
  go_enter_defers Tryd.func38, Tryd.ntmps38
  go_wp2_with (first
    | (go_at_call 52; refine (HC.out _ HB.out).mono ?_; rintro e w1 ⟨rfl, hb⟩; have E1 := Lib.hid (Blk.keep HE.out hb); have B1 := Lib.hid (HB.out.trans (hb.mono HB.out.size)); clear hb)
    | (go_at_call 39; refine (HCL.out _ B1.out).mono ?_; rintro e w2 ⟨rfl, hs, hf⟩; have S2 := Lib.hid hs; have F2 := Lib.hid ((Fr.of_below B1.out : Fr (fun k => k ∈ ps) w _).trans hf); have E2 := Lib.hid (show Blk w2 (w.heap.size + 1) _ _ from (hf.block _ E1.out.lt (fun hm => by have := (HSL.out _ hm); omega)).trans E1.out); clear hs hf))
  have hc : w2.cell? ⟨w.heap.size + 1, 0, none⟩ = some (.int .i64 0) := by simpa using Blk.cell E2.out 0
  have hz := Blk.frozen E2.out 0
  refine leaves_cons (f := 59) (args := #[.pointer (some ⟨w.heap.size + 1, 0, none⟩)]) (by simp) (by simp [go_sem]) ?_
  refine (bcatch_n ⟨w.heap.size + 1, 0, none⟩ 0 n [] _ hc hz).mono ?_
  rintro e u' w'' ⟨rfl, rfl, rfl⟩
  have hl2 := load_err n (Blk.set_ E2.out 0 (.int .i64 n))
  change Leaves _ _ _ _ [] FrameMode.returning _
  refine ⟨_, res_t1 rfl _ _ (w.heap.size + 1) _ _ rfl rfl hl2, rfl, ?_⟩
  exact ⟨S2.out.keep fun k hk => Below.heap_setCell _ _ _ _ (fun e => by
      have hb := S2.out.isCells hk
      simp only at e
      exact S2.out.blk_ne E2.out (by decide) (by have := HP.out; omega) (by rw [← e]; exact hk)), F2.out.setCell (fun hh => absurd hh (by show ¬ w.heap.size + 1 < w.heap.size; omega)) _⟩
set_option maxRecDepth 8000 in
set_option maxHeartbeats 2000000 in
theorem bface_raze_yes {w : World} {base p : Nat} {A : Option Addr} {cap : Nat} {ps : List Nat} {os : List Oj} (h : StAt w base p A cap ps os) (L : List Oj) (x : Ky) (AV : Value) (hask : ∀ W, Below w.heap.size w W → Calls Tryd.prog 52 #[pv p, x.val] W fun e w' => e = .returned AV ∧ Below W.heap.size W w') (y : Int) (hcl : ∀ W, Below w.heap.size w W → Calls Tryd.prog 39 #[AV] W fun e w' => e = .returned (.int .i64 y) ∧ StAt w' base p A cap ps L ∧ Fr (fun k => k ∈ ps) W w') :
    Calls Tryd.prog 38 #[pv p, x.val, .func (.func 39) #[] #[]] w fun e w' => e = .returned (.tuple #[.int .i64 y, .int .i64 0]) ∧ StAt w' base p A cap ps L ∧ Fr (fun k => k ∈ ps) w w' := by
  have hmf : ∀ (fn : Fn) (first cap : Array Value) (w : World), (Instr.makeFunc fn first cap).run Tryd.prog w = .ok (.func fn first cap) w := fun _ _ _ _ => rfl
  have hzt := zT
  have HE := Lib.hid (Blk.new_of (w.alloc (.cells (kc x.k x.o x.c x.l x.r x.v) 33)) 34 #[.int .i64 0] (g := w.heap.size + 1) (by simp))
  have HB := Lib.hid (((Below.refl w.heap.size w).alloc (Nat.le_refl _) (.cells (kc x.k x.o x.c x.l x.r x.v) 33)).alloc (by simp) (.cells #[.int .i64 0] 34))
  have HC := Lib.hid hask
  have HCL := Lib.hid hcl
  have HSL := Lib.hid (fun k (hk : k ∈ ps) => (h.lt k (.inr (.inr hk))).2)
  have HP := Lib.hid (h.lt p (.inl rfl)).2
  clear hask hcl h
  go_enter_defers Tryd.func38, Tryd.ntmps38
  go_wp2_with (first
    | (go_at_call 52; refine (HC.out _ HB.out).mono ?_; rintro e w1 ⟨rfl, hb⟩; have E1 := Lib.hid (Blk.keep HE.out hb); have B1 := Lib.hid (HB.out.trans (hb.mono HB.out.size)); clear hb)
    | (go_at_call 39; refine (HCL.out _ B1.out).mono ?_; rintro e w2 ⟨rfl, hs, hf⟩; have S2 := Lib.hid hs; have F2 := Lib.hid ((Fr.of_below B1.out : Fr (fun k => k ∈ ps) w _).trans hf); have E2 := Lib.hid (show Blk w2 (w.heap.size + 1) _ _ from (hf.block _ E1.out.lt (fun hm => by have := (HSL.out _ hm); omega)).trans E1.out); clear hs hf; have hc9 : w2.cell? ⟨w.heap.size + 1, 0, none⟩ = some (.int .i64 0) := E2.out.one; have hz9 : w2.frozen? ⟨w.heap.size + 1, 0, none⟩ = false := E2.out.frozen 0))
  have E3 := set_same E2.out (.int .i64 0)
  refine leaves_cons (f := 59) (args := #[.pointer (some ⟨w.heap.size + 1, 0, none⟩)]) (by simp) (by simp [go_sem]) ?_
  refine (bidle_n ⟨w.heap.size + 1, 0, none⟩ _).mono ?_
  rintro e u' w'' ⟨rfl, rfl, rfl⟩
  have hl2 := load_err 0 E3
  change Leaves _ _ _ _ [] FrameMode.returning _
  exact ⟨_, res_t1 rfl _ _ (w.heap.size + 1) _ _ rfl rfl hl2, rfl, S2.out.keep fun k hk => Below.heap_setCell _ _ _ _ (fun e => by
    simp only at e
    exact S2.out.blk_ne E2.out (by decide) (by have := HP.out; omega) (by rw [← e]; exact hk)), F2.out.setCell (fun hh => absurd hh (by show ¬ w.heap.size + 1 < w.heap.size; omega)) _⟩
set_option maxRecDepth 8000 in
set_option maxHeartbeats 2000000 in
theorem bface_range_ask {w : World} (Pv : Value) (x : Ky) (n : Int) (hask : ∀ W, Below w.heap.size w W → Calls Tryd.prog 52 #[Pv, x.val] W fun e w' => e = .panicked (erc n) ∧ Below W.heap.size W w') :
    Calls Tryd.prog 45 #[Pv, x.val, .func (.func 46) #[] #[]] w fun e w' => e = .returned (.tuple #[.agg #[.int .i64 0, .int .i64 0], .int .i64 n]) ∧ Below w.heap.size w w' := by
  have hmf : ∀ (fn : Fn) (first cap : Array Value) (w : World), (Instr.makeFunc fn first cap).run Tryd.prog w = .ok (.func fn first cap) w := fun _ _ _ _ => rfl
  have hzt := zT
  have HZ := Lib.hid (Blk.alloc (Blk.new_of (w.alloc (.cells (kc x.k x.o x.c x.l x.r x.v) 33)) 95 #[.int .i64 0, .int .i64 0] (g := w.heap.size + 1) (by simp)) (.cells #[.int .i64 0] 34))
  have HE := Lib.hid (Blk.new_of ((w.alloc (.cells (kc x.k x.o x.c x.l x.r x.v) 33)).alloc (.cells #[.int .i64 0, .int .i64 0] 95)) 34 #[.int .i64 0] (g := w.heap.size + 2) (by simp))
  have HB := Lib.hid ((((Below.refl w.heap.size w).alloc (Nat.le_refl _) (.cells (kc x.k x.o x.c x.l x.r x.v) 33)).alloc (by simp) (.cells #[.int .i64 0, .int .i64 0] 95)).alloc (by simp; omega) (.cells #[.int .i64 0] 34))
  have HC := Lib.hid hask
  clear hask
  go_enter_defers Tryd.func45, Tryd.ntmps45
  go_wp2_with (go_at_call 52; refine (HC.out _ HB.out).mono ?_; rintro e w1 ⟨rfl, hb⟩; have Z1 := Lib.hid (Blk.keep HZ.out hb); have E1 := Lib.hid (Blk.keep HE.out hb); have B1 := Lib.hid (HB.out.trans (hb.mono HB.out.size)); clear hb)
  have hc : w1.cell? ⟨w.heap.size + 2, 0, none⟩ = some (.int .i64 0) := by simpa using Blk.cell E1.out 0
  have hz := Blk.frozen E1.out 0
  refine leaves_cons (f := 63) (args := #[.pointer (some ⟨w.heap.size + 2, 0, none⟩)]) (by simp) (by simp [go_sem]) ?_
  refine (bcatch_t ⟨w.heap.size + 2, 0, none⟩ 0 n [] _ hc hz).mono ?_
  rintro e u' w'' ⟨rfl, rfl, rfl⟩
  have hl2 := load_err n (Blk.set_ E1.out 0 (.int .i64 n))
  change Leaves _ _ _ _ [] FrameMode.returning _
  refine ⟨_, res_2 rfl _ _ (w.heap.size + 1) (w.heap.size + 2) _ _ rfl rfl (load_two 0 0 (Blk.far Z1.out (p := ⟨w.heap.size + 2, 0, none⟩) (by show w.heap.size + 1 ≠ w.heap.size + 2; omega) (.int .i64 n))) hl2, rfl, ?_⟩
  exact B1.out.setCell (by show w.heap.size ≤ w.heap.size + 2; omega) _
set_option maxRecDepth 8000 in
set_option maxHeartbeats 2000000 in
theorem bface_range_no {w : World} {base p : Nat} {A : Option Addr} {cap : Nat} {ps : List Nat} {os : List Oj} (h : StAt w base p A cap ps os) (L : List Oj) (x : Ky) (AV : Value) (hask : ∀ W, Below w.heap.size w W → Calls Tryd.prog 52 #[pv p, x.val] W fun e w' => e = .returned AV ∧ Below W.heap.size W w') (n : Int) (hcl : ∀ W, Below w.heap.size w W → Calls Tryd.prog 46 #[AV] W fun e w' => e = .panicked (erc n) ∧ StAt w' base p A cap ps L ∧ Fr (fun k => k ∈ ps) W w') :
    Calls Tryd.prog 45 #[pv p, x.val, .func (.func 46) #[] #[]] w fun e w' => e = .returned (.tuple #[.agg #[.int .i64 0, .int .i64 0], .int .i64 n]) ∧ StAt w' base p A cap ps L ∧ Fr (fun k => k ∈ ps) w w' := by
  have hmf : ∀ (fn : Fn) (first cap : Array Value) (w : World), (Instr.makeFunc fn first cap).run Tryd.prog w = .ok (.func fn first cap) w := fun _ _ _ _ => rfl
  have hzt := zT
  have HZ := Lib.hid (Blk.alloc (Blk.new_of (w.alloc (.cells (kc x.k x.o x.c x.l x.r x.v) 33)) 95 #[.int .i64 0, .int .i64 0] (g := w.heap.size + 1) (by simp)) (.cells #[.int .i64 0] 34))
  have HE := Lib.hid (Blk.new_of ((w.alloc (.cells (kc x.k x.o x.c x.l x.r x.v) 33)).alloc (.cells #[.int .i64 0, .int .i64 0] 95)) 34 #[.int .i64 0] (g := w.heap.size + 2) (by simp))
  have HB := Lib.hid ((((Below.refl w.heap.size w).alloc (Nat.le_refl _) (.cells (kc x.k x.o x.c x.l x.r x.v) 33)).alloc (by simp) (.cells #[.int .i64 0, .int .i64 0] 95)).alloc (by simp; omega) (.cells #[.int .i64 0] 34))
  have HC := Lib.hid hask
  have HCL := Lib.hid hcl
  have HSL := Lib.hid (fun k (hk : k ∈ ps) => (h.lt k (.inr (.inr hk))).2)
  have HP := Lib.hid (h.lt p (.inl rfl)).2
  clear hask hcl h
  go_enter_defers Tryd.func45, Tryd.ntmps45
  go_wp2_with (first
    | (go_at_call 52; refine (HC.out _ HB.out).mono ?_; rintro e w1 ⟨rfl, hb⟩; have Z1 := Lib.hid (Blk.keep HZ.out hb); have E1 := Lib.hid (Blk.keep HE.out hb); have B1 := Lib.hid (HB.out.trans (hb.mono HB.out.size)); clear hb)
    | (go_at_call 46; refine (HCL.out _ B1.out).mono ?_; rintro e w2 ⟨rfl, hs, hf⟩; have S2 := Lib.hid hs; have F2 := Lib.hid ((Fr.of_below B1.out : Fr (fun k => k ∈ ps) w _).trans hf); have Z2 := Lib.hid (show Blk w2 (w.heap.size + 1) _ _ from (hf.block _ Z1.out.lt (fun hm => by have := (HSL.out _ hm); omega)).trans Z1.out); have E2 := Lib.hid (show Blk w2 (w.heap.size + 2) _ _ from (hf.block _ E1.out.lt (fun hm => by have := (HSL.out _ hm); omega)).trans E1.out); clear hs hf))
  have hc : w2.cell? ⟨w.heap.size + 2, 0, none⟩ = some (.int .i64 0) := by simpa using Blk.cell E2.out 0
  have hz := Blk.frozen E2.out 0
  refine leaves_cons (f := 63) (args := #[.pointer (some ⟨w.heap.size + 2, 0, none⟩)]) (by simp) (by simp [go_sem]) ?_
  refine (bcatch_t ⟨w.heap.size + 2, 0, none⟩ 0 n [] _ hc hz).mono ?_
  rintro e u' w'' ⟨rfl, rfl, rfl⟩
  have hl2 := load_err n (Blk.set_ E2.out 0 (.int .i64 n))
  change Leaves _ _ _ _ [] FrameMode.returning _
  refine ⟨_, res_2 rfl _ _ (w.heap.size + 1) (w.heap.size + 2) _ _ rfl rfl (load_two 0 0 (Blk.far Z2.out (p := ⟨w.heap.size + 2, 0, none⟩) (by show w.heap.size + 1 ≠ w.heap.size + 2; omega) (.int .i64 n))) hl2, rfl, ?_⟩
  exact ⟨S2.out.keep fun k hk => Below.heap_setCell _ _ _ _ (fun e => by
      have hb := S2.out.isCells hk
      simp only at e
      exact S2.out.blk_ne E2.out (by decide) (by have := HP.out; omega) (by rw [← e]; exact hk)), F2.out.setCell (fun hh => absurd hh (by show ¬ w.heap.size + 2 < w.heap.size; omega)) _⟩
set_option maxRecDepth 8000 in
set_option maxHeartbeats 2000000 in
theorem bface_range_yes {w : World} {base p : Nat} {A : Option Addr} {cap : Nat} {ps : List Nat} {os : List Oj} (h : StAt w base p A cap ps os) (L : List Oj) (x : Ky) (AV : Value) (hask : ∀ W, Below w.heap.size w W → Calls Tryd.prog 52 #[pv p, x.val] W fun e w' => e = .returned AV ∧ Below W.heap.size W w') (i j : Int) (hcl : ∀ W, Below w.heap.size w W → Calls Tryd.prog 46 #[AV] W fun e w' => e = .returned (.agg #[.int .i64 i, .int .i64 j]) ∧ StAt w' base p A cap ps L ∧ Fr (fun k => k ∈ ps) W w') :
    Calls Tryd.prog 45 #[pv p, x.val, .func (.func 46) #[] #[]] w fun e w' => e = .returned (.tuple #[.agg #[.int .i64 i, .int .i64 j], .int .i64 0]) ∧ StAt w' base p A cap ps L ∧ Fr (fun k => k ∈ ps) w w' := by
  have hmf : ∀ (fn : Fn) (first cap : Array Value) (w : World), (Instr.makeFunc fn first cap).run Tryd.prog w = .ok (.func fn first cap) w := fun _ _ _ _ => rfl
  have hzt := zT
  have HZ := Lib.hid (Blk.alloc (Blk.new_of (w.alloc (.cells (kc x.k x.o x.c x.l x.r x.v) 33)) 95 #[.int .i64 0, .int .i64 0] (g := w.heap.size + 1) (by simp)) (.cells #[.int .i64 0] 34))
  have HE := Lib.hid (Blk.new_of ((w.alloc (.cells (kc x.k x.o x.c x.l x.r x.v) 33)).alloc (.cells #[.int .i64 0, .int .i64 0] 95)) 34 #[.int .i64 0] (g := w.heap.size + 2) (by simp))
  have HB := Lib.hid ((((Below.refl w.heap.size w).alloc (Nat.le_refl _) (.cells (kc x.k x.o x.c x.l x.r x.v) 33)).alloc (by simp) (.cells #[.int .i64 0, .int .i64 0] 95)).alloc (by simp; omega) (.cells #[.int .i64 0] 34))
  have HC := Lib.hid hask
  have HCL := Lib.hid hcl
  have HSL := Lib.hid (fun k (hk : k ∈ ps) => (h.lt k (.inr (.inr hk))).2)
  have HP := Lib.hid (h.lt p (.inl rfl)).2
  clear hask hcl h
  go_enter_defers Tryd.func45, Tryd.ntmps45
  go_wp2_with (first
    | (go_at_call 52; refine (HC.out _ HB.out).mono ?_; rintro e w1 ⟨rfl, hb⟩; have Z1 := Lib.hid (Blk.keep HZ.out hb); have E1 := Lib.hid (Blk.keep HE.out hb); have B1 := Lib.hid (HB.out.trans (hb.mono HB.out.size)); clear hb)
    | (go_at_call 46; refine (HCL.out _ B1.out).mono ?_; rintro e w2 ⟨rfl, hs, hf⟩; have S2 := Lib.hid hs; have F2 := Lib.hid ((Fr.of_below B1.out : Fr (fun k => k ∈ ps) w _).trans hf); have Z2 := Lib.hid (show Blk w2 (w.heap.size + 1) _ _ from (hf.block _ Z1.out.lt (fun hm => by have := (HSL.out _ hm); omega)).trans Z1.out); have E2 := Lib.hid (show Blk w2 (w.heap.size + 2) _ _ from (hf.block _ E1.out.lt (fun hm => by have := (HSL.out _ hm); omega)).trans E1.out); clear hs hf; have hc9 : (w2.setRow (w.heap.size + 1) #[.int .i64 i, .int .i64 j]).cell? ⟨w.heap.size + 2, 0, none⟩ = some (.int .i64 0) := (Blk.row_far E2.out (show w.heap.size + 2 ≠ w.heap.size + 1 by omega) _).one; have hz9 : (w2.setRow (w.heap.size + 1) #[.int .i64 i, .int .i64 j]).frozen? ⟨w.heap.size + 2, 0, none⟩ = false := (Blk.row_far E2.out (show w.heap.size + 2 ≠ w.heap.size + 1 by omega) _).frozen 0)
    | (refine wpList_store_big (l0 := [.int .i64 0, .int .i64 0]) (l := [.int .i64 i, .int .i64 j]) Z2.out rfl (.tmp 6) (.tmp 13) (ty := 95) rfl (by rfl) (by rfl) sizeT rfl (by intro v hv; simp at hv; rcases hv with rfl | rfl <;> rfl) ?_))
  have E3 := set_same (Blk.row_far E2.out (show w.heap.size + 2 ≠ w.heap.size + 1 by omega) #[.int .i64 i, .int .i64 j]) (.int .i64 0)
  have Z3 : Blk (w2.setRow (w.heap.size + 1) #[.int .i64 i, .int .i64 j]) (w.heap.size + 1) 95 #[.int .i64 i, .int .i64 j] := Z2.out.setRow _
  refine leaves_cons (f := 63) (args := #[.pointer (some ⟨w.heap.size + 2, 0, none⟩)]) (by simp) (by simp [go_sem]) ?_
  refine (bidle_t ⟨w.heap.size + 2, 0, none⟩ _).mono ?_
  rintro e u' w'' ⟨rfl, rfl, rfl⟩
  have hl2 := load_err 0 E3
  change Leaves _ _ _ _ [] FrameMode.returning _
  have hno : ∀ k, stHas p A ps k → k ≠ w.heap.size + 1 ∧ k ≠ w.heap.size + 2 := fun k hk => ⟨fun e => S2.out.blk_ne Z2.out (by decide) (by have := HP.out; omega) (by rw [← e]; exact hk), fun e => S2.out.blk_ne E2.out (by decide) (by have := HP.out; omega) (by rw [← e]; exact hk)⟩
  refine ⟨_, res_2 rfl _ _ (w.heap.size + 1) (w.heap.size + 2) _ _ rfl rfl (load_two i j (Blk.far Z3 (p := ⟨w.heap.size + 2, 0, none⟩) (by show w.heap.size + 1 ≠ w.heap.size + 2; omega) (.int .i64 0))) hl2, rfl, ?_⟩
  exact ⟨S2.out.keep fun k hk => by
    obtain ⟨h1, h2⟩ := hno k hk
    exact (Below.heap_setCell _ _ _ _ h2).trans (setRow_other _ _ _ _ h1), (F2.out.then_ (setRow_fr _ _ _) (fun i hi he => by omega)).setCell (fun hh => absurd hh (by show ¬ w.heap.size + 2 < w.heap.size; omega)) _⟩
end Go.Proofs.YteodgefnbmiblaaDoor

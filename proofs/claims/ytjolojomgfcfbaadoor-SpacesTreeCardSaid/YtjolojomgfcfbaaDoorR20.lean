/- nodes: the faces. -/
import Derived.Test.YtjolojomgfcfbaaDoorR19
namespace Go.Proofs.YtjolojomgfcfbaaDoor
open Go.RowKit
set_option maxRecDepth 8000 in
theorem load_err {w : World} {g : Nat} {t : TypeId} (n : Int) (h : Blk w g t #[.int .i64 n]) : (loadVar 42 ⟨g, 0, none⟩).run Tryd.prog w = .ok (.int .i64 n) w := by
  have hc : w.cell? ⟨g, 0, none⟩ = some (.int .i64 n) := by simpa using h.cell 0
  simp [go_sem, hc]
theorem set_same {w : World} {g : Nat} {t : TypeId} {v : Value} (h : Blk w g t #[v]) (u : Value) : Blk (w.setCell ⟨g, 0, none⟩ u) g t #[u] := h.set_ 0 u
set_option maxRecDepth 8000 in
theorem catch_k (p : Addr) (x n : Int) (older : List PanicEntry) (w : World) (hc : w.cell? p = some (.int .i64 x)) (hz : w.frozen? p = false) :
    CallsD Tryd.prog 65 #[.pointer (some p)] (.panicking ({ v := .iface 42 (.int .i64 n), recovered := false } :: older)) w fun e u' w' =>
      e = .returned (.tuple #[]) ∧ u' = .panicking ({ v := .iface 42 (.int .i64 n), recovered := true } :: older) ∧ w' = w.setCell p (.int .i64 n) := by
  refine callsD_of_wpS Tryd.func65 rfl fun c₀ cs hu => ?_
  apply wpS_seq
  apply wpS_region
  simp [wpOpsS, go_sem, recoverD, hu, Tryd.ntmps65, Exit.thenS]
  apply wpS_seq
  apply wpS_region
  have hne : ∀ w, (binOp .neq 20 (.iface 42 (.int .i64 n)) .nilIface).run Tryd.prog w = .ok (.bool true) w := fun _ => by kernel_rfl
  simp [wpOpsS, go_sem, hne, Exit.thenS]
  refine wpS_cond (t := true) (by simp [Act.eval, Array.replicate]) ?_
  simp only [if_true]
  apply wpS_region
  have hta : ∀ w, (Instr.typeAssert (.iface 42 (.int .i64 n)) 20 42 false).run Tryd.prog w = .ok (.int .i64 n) w := fun _ => by kernel_rfl
  simp [wpOpsS, go_sem, hta, hc, hz, bodyPostS, results, Tryd.results65]
set_option maxRecDepth 8000 in
theorem idle_k (p : Addr) (w : World) :
    CallsD Tryd.prog 65 #[.pointer (some p)] .returning w fun e u' w' => e = .returned (.tuple #[]) ∧ u' = .returning ∧ w' = w := by
  refine callsD_of_wpS Tryd.func65 rfl fun c₀ cs hu => ?_
  apply wpS_seq
  apply wpS_region
  simp [wpOpsS, go_sem, recoverD, hu, Tryd.ntmps65, Exit.thenS]
  apply wpS_seq
  apply wpS_region
  have hne : ∀ w, (binOp .neq 20 .nilIface .nilIface).run Tryd.prog w = .ok (.bool false) w := fun _ => by kernel_rfl
  simp [wpOpsS, go_sem, hne, Exit.thenS]
  refine wpS_cond (t := false) (by simp [Act.eval, Array.replicate]) ?_
  simp only [Bool.false_eq_true, if_false]
  refine wpS_of_wp (wp_skip ?_)
  cases c₀
  simp_all [bodyPostS, results, Tryd.results65]
section
variable {w : World}
set_option maxRecDepth 8000 in
set_option maxHeartbeats 800000 in
theorem face_get_no (S K I : Nat) (n : Int) (hcl : ∀ W, Below w.heap.size w W → Calls Tryd.prog 61 #[.pointer (some ⟨S, 0, none⟩), .pointer (some ⟨K, 0, none⟩), .pointer (some ⟨I, 0, none⟩)] W fun e w' => e = .panicked (erc n) ∧ Below W.heap.size W w') :
    Calls Tryd.prog 60 #[(.func (.func 61) #[] #[.pointer (some ⟨S, 0, none⟩), .pointer (some ⟨K, 0, none⟩), .pointer (some ⟨I, 0, none⟩)])] w fun e w' => e = .returned (.tuple #[zk.val, .int .i64 n]) ∧ Below w.heap.size w w' := by
  have hmf : ∀ (fn : Fn) (first cap : Array Value) (w : World), (Instr.makeFunc fn first cap).run Tryd.prog w = .ok (.func fn first cap) w := fun _ _ _ _ => rfl
  have hz9 := z95
  have hbs9 := zks_len
  have HZ := Lib.hid (Blk.alloc (Blk.new w 29 (kl zk).toArray) (.cells #[.int .i64 0] 42))
  have HE := Lib.hid (Blk.new_of (w.alloc (.cells (kl zk).toArray 29)) 42 #[.int .i64 0] (g := w.heap.size + 1) (by simp))
  have HB := Lib.hid (((Below.refl w.heap.size w).alloc (Nat.le_refl _) (.cells (kl zk).toArray 29)).alloc (by simp) (.cells #[.int .i64 0] 42))
  have HC := Lib.hid hcl
  clear hcl
  go_enter_defers Tryd.func60, Tryd.ntmps60
  go_wp2_with (go_at_call 61; refine (HC.out _ HB.out).mono ?_; rintro e w1 ⟨rfl, hb⟩; have Z1 := Lib.hid (Blk.keep HZ.out hb); have E1 := Lib.hid (Blk.keep HE.out hb); have B1 := Lib.hid (HB.out.trans (hb.mono HB.out.size)); clear hb)
  have hc : w1.cell? ⟨w.heap.size + 1, 0, none⟩ = some (.int .i64 0) := by simpa using Blk.cell E1.out 0
  have hz := Blk.frozen E1.out 0
  refine leaves_cons (f := 65) (args := #[.pointer (some ⟨w.heap.size + 1, 0, none⟩)]) (by simp) (by simp [go_sem]) ?_
  refine (catch_k ⟨w.heap.size + 1, 0, none⟩ 0 n [] _ hc hz).mono ?_
  rintro e u' w'' ⟨rfl, rfl, rfl⟩
  have hl2 := load_err n (Blk.set_ E1.out 0 (.int .i64 n))
  change Leaves _ _ _ _ [] FrameMode.returning _
  exact ⟨_, res_2 rfl _ _ w.heap.size (w.heap.size + 1) _ _ rfl rfl (load_key zk (Blk.far Z1.out (p := ⟨w.heap.size + 1, 0, none⟩) (by show w.heap.size ≠ w.heap.size + 1; omega) (.int .i64 n))) hl2, rfl, B1.out.setCell (by show w.heap.size ≤ w.heap.size + 1; omega) _⟩
set_option maxRecDepth 8000 in
set_option maxHeartbeats 800000 in
theorem face_get_yes (S K I : Nat) (x : Ky) (Sb : Nat → Prop) (R : World → Prop) (hS : ∀ k, Sb k → k < w.heap.size) (hR : ∀ W W' : World, R W → W.heap.size ≤ W'.heap.size → (∀ k, k < W.heap.size → k ≠ w.heap.size ∧ k ≠ w.heap.size + 1 → W'.heap[k]? = W.heap[k]?) → R W') (hcl : ∀ W, Below w.heap.size w W → Calls Tryd.prog 61 #[.pointer (some ⟨S, 0, none⟩), .pointer (some ⟨K, 0, none⟩), .pointer (some ⟨I, 0, none⟩)] W fun e w' => e = .returned x.val ∧ R w' ∧ Fr Sb W w') :
    Calls Tryd.prog 60 #[(.func (.func 61) #[] #[.pointer (some ⟨S, 0, none⟩), .pointer (some ⟨K, 0, none⟩), .pointer (some ⟨I, 0, none⟩)])] w fun e w' => e = .returned (.tuple #[x.val, .int .i64 0]) ∧ R w' ∧ Fr Sb w w' := by
  have hmf : ∀ (fn : Fn) (first cap : Array Value) (w : World), (Instr.makeFunc fn first cap).run Tryd.prog w = .ok (.func fn first cap) w := fun _ _ _ _ => rfl
  have hz9 := z95
  have hbs9 := zks_len
  have HZ := Lib.hid (Blk.alloc (Blk.new w 29 (kl zk).toArray) (.cells #[.int .i64 0] 42))
  have HE := Lib.hid (Blk.new_of (w.alloc (.cells (kl zk).toArray 29)) 42 #[.int .i64 0] (g := w.heap.size + 1) (by simp))
  have HB := Lib.hid (((Below.refl w.heap.size w).alloc (Nat.le_refl _) (.cells (kl zk).toArray 29)).alloc (by simp) (.cells #[.int .i64 0] 42))
  have HC := Lib.hid hcl
  have HSB := Lib.hid hS
  have HRR := Lib.hid hR
  clear hcl hS hR
  go_enter_defers Tryd.func60, Tryd.ntmps60
  go_wp2_with (first
    | (go_at_call 61; refine (HC.out _ HB.out).mono ?_; rintro e w1 ⟨rfl, hr, hf⟩; have R1 := Lib.hid hr; have F1 := Lib.hid ((Fr.of_below HB.out : Fr Sb w _).trans hf); have Z1 := Lib.hid (show Blk w1 w.heap.size 29 (kl zk).toArray from (hf.block _ HZ.out.lt (fun hm => by have := HSB.out _ hm; omega)).trans HZ.out); have E1 := Lib.hid (show Blk w1 (w.heap.size + 1) 42 #[.int .i64 0] from (hf.block _ HE.out.lt (fun hm => by have := HSB.out _ hm; omega)).trans HE.out); have hc : (w1.setRow w.heap.size (kl x).toArray).cell? ⟨w.heap.size + 1, 0, none⟩ = some (.int .i64 0) := ((Blk.row_far E1.out (show w.heap.size + 1 ≠ w.heap.size by omega) (kl x).toArray)).one; have hz : (w1.setRow w.heap.size (kl x).toArray).frozen? ⟨w.heap.size + 1, 0, none⟩ = false := ((Blk.row_far E1.out (show w.heap.size + 1 ≠ w.heap.size by omega) (kl x).toArray)).frozen 0; clear hr hf)
    | (refine wpList_store_row rfl 29 (.tmp 2) (.tmp 6) rfl w.heap.size (kl x).toArray rfl rfl 29 (kl zk).toArray Z1.out size30 rfl (all_one (kl_one x)) ?_))
  have E2 := (Blk.row_far E1.out (show w.heap.size + 1 ≠ w.heap.size by omega) (kl x).toArray)
  have E3 := set_same E2 (.int .i64 0)
  have Z2 : Blk (w1.setRow w.heap.size (kl x).toArray) w.heap.size 29 (kl x).toArray := Z1.out.setRow _
  refine leaves_cons (f := 65) (args := #[.pointer (some ⟨w.heap.size + 1, 0, none⟩)]) (by simp) (by simp [go_sem]) ?_
  refine (idle_k ⟨w.heap.size + 1, 0, none⟩ _).mono ?_
  rintro e u' w'' ⟨rfl, rfl, rfl⟩
  have hl2 := load_err 0 E3
  change Leaves _ _ _ _ [] FrameMode.returning _
  exact ⟨_, res_2 rfl _ _ w.heap.size (w.heap.size + 1) _ _ rfl rfl (load_key x (Blk.far Z2 (p := ⟨w.heap.size + 1, 0, none⟩) (by show w.heap.size ≠ w.heap.size + 1; omega) (.int .i64 0))) hl2, rfl, HRR.out _ _ R1.out (by simp [World.setCell, World.setRow]) (fun k hk hn => (Below.heap_setCell _ _ _ _ (by show k ≠ w.heap.size + 1; omega)).trans (setRow_other _ _ _ _ (by omega))), (F1.out.then_ (setRow_fr _ _ _) (fun i hi he => by omega)).setCell (fun hh => absurd hh (by show ¬ w.heap.size + 1 < w.heap.size; omega)) _⟩
end
end Go.Proofs.YtjolojomgfcfbaaDoor
namespace Go.Proofs.YtjolojomgfcfbaaDoor
open Go.RowKit
section
variable {w : World} {base p : Nat} {A : Option Addr} {cap : Nat} {ps : List Nat} {os : List Oj}
set_option maxRecDepth 100000 in
set_option maxHeartbeats 2000000 in
theorem nget_no (P : Value) (hP : IsP P) (x : Ky) (i : Int) (n : Int) (hcl : ∀ (W : World) (S K I : Nat), Below w.heap.size w W → Blk W S 35 #[P] → Blk W K 29 (kl x).toArray → Blk W I 3 #[.int .i64 i] → Calls Tryd.prog 61 #[.pointer (some ⟨S, 0, none⟩), .pointer (some ⟨K, 0, none⟩), .pointer (some ⟨I, 0, none⟩)] W fun e w' => e = .panicked (erc n) ∧ Below W.heap.size W w') :
    Calls Tryd.prog 58 #[P, x.val, .int .i64 i] w fun e w' => e = .returned (.tuple #[zk.val, .int .i64 n]) ∧ Below w.heap.size w w' := by
  have hmf : ∀ (fn : Fn) (first cap : Array Value) (w : World), (Instr.makeFunc fn first cap).run Tryd.prog w = .ok (.func fn first cap) w := fun _ _ _ _ => rfl
  have hz := z95
  have hbs := zks_len
  have HC := Lib.hid hcl
  clear hcl
  rcases hP with rfl | ⟨Q, rfl⟩
  ·
    have HB0 := Lib.hid (((((Below.refl w.heap.size w).alloc (Nat.le_refl _) (.cells #[.pointer none] 35)).alloc (by simp) (.cells (kc x.k x.o x.c x.l x.r x.v) 29)).alloc (by simp; omega) (.cells #[.int .i64 i] 3)).alloc (by simp; omega) (.cells (kc 0 0 0 0 0 0) 29))
    have HS0 := Lib.hid ((((Blk.new_of w 35 #[.pointer none] (g := w.heap.size) (by simp)).alloc (.cells (kc x.k x.o x.c x.l x.r x.v) 29)).alloc (.cells #[.int .i64 i] 3)).alloc (.cells (kc 0 0 0 0 0 0) 29))
    have HK0 := Lib.hid (((Blk.new_of (w.alloc (.cells #[.pointer none] 35)) 29 (kc x.k x.o x.c x.l x.r x.v) (g := w.heap.size + 1) (by simp)).alloc (.cells #[.int .i64 i] 3)).alloc (.cells (kc 0 0 0 0 0 0) 29))
    have HI0 := Lib.hid ((Blk.new_of ((w.alloc (.cells #[.pointer none] 35)).alloc (.cells (kc x.k x.o x.c x.l x.r x.v) 29)) 3 #[.int .i64 i] (g := w.heap.size + 1 + 1) (by simp)).alloc (.cells (kc 0 0 0 0 0 0) 29))
    have HR0 := Lib.hid (Blk.new_of (((w.alloc (.cells #[.pointer none] 35)).alloc (.cells (kc x.k x.o x.c x.l x.r x.v) 29)).alloc (.cells #[.int .i64 i] 3)) 29 (kc 0 0 0 0 0 0) (g := w.heap.size + 1 + 1 + 1) (by simp))
    go_enter Tryd.func58, Tryd.ntmps58
    go_wp2_with (first
      | (go_at_call 60; refine (face_get_no (w.heap.size) (w.heap.size + 1) (w.heap.size + 1 + 1) n (fun W hW => HC.out W _ _ _ (HB0.out.trans (hW.mono HB0.out.size)) (HS0.out.keep hW) (HK0.out.keep hW) (HI0.out.keep hW))).mono ?_; rintro e w1 ⟨rfl, b1⟩; have HB1 := Lib.hid (HB0.out.trans (b1.mono HB0.out.size)); have HR1 := Lib.hid (HR0.out.keep b1); clear b1)
      | (refine wpList_store_big (l0 := kl zk) HR1.out rfl (.tmp 6) (.tmp 10) (ty := 29) (l := kl zk) rfl (by rfl) (by rfl) size30 rfl (kl_one _) ?_))
    exact bodyPost_ret (res_1t rfl _ _ (w.heap.size + 1 + 1 + 1) _ _ rfl rfl (load_key _ (HR1.out.setRow _))) rfl ⟨rfl, below_setRow HB1.out (by omega) _⟩
  ·
    have HB0 := Lib.hid (((((Below.refl w.heap.size w).alloc (Nat.le_refl _) (.cells #[(pv Q)] 35)).alloc (by simp) (.cells (kc x.k x.o x.c x.l x.r x.v) 29)).alloc (by simp; omega) (.cells #[.int .i64 i] 3)).alloc (by simp; omega) (.cells (kc 0 0 0 0 0 0) 29))
    have HS0 := Lib.hid ((((Blk.new_of w 35 #[(pv Q)] (g := w.heap.size) (by simp)).alloc (.cells (kc x.k x.o x.c x.l x.r x.v) 29)).alloc (.cells #[.int .i64 i] 3)).alloc (.cells (kc 0 0 0 0 0 0) 29))
    have HK0 := Lib.hid (((Blk.new_of (w.alloc (.cells #[(pv Q)] 35)) 29 (kc x.k x.o x.c x.l x.r x.v) (g := w.heap.size + 1) (by simp)).alloc (.cells #[.int .i64 i] 3)).alloc (.cells (kc 0 0 0 0 0 0) 29))
    have HI0 := Lib.hid ((Blk.new_of ((w.alloc (.cells #[(pv Q)] 35)).alloc (.cells (kc x.k x.o x.c x.l x.r x.v) 29)) 3 #[.int .i64 i] (g := w.heap.size + 1 + 1) (by simp)).alloc (.cells (kc 0 0 0 0 0 0) 29))
    have HR0 := Lib.hid (Blk.new_of (((w.alloc (.cells #[(pv Q)] 35)).alloc (.cells (kc x.k x.o x.c x.l x.r x.v) 29)).alloc (.cells #[.int .i64 i] 3)) 29 (kc 0 0 0 0 0 0) (g := w.heap.size + 1 + 1 + 1) (by simp))
    go_enter Tryd.func58, Tryd.ntmps58
    go_wp2_with (first
      | (go_at_call 60; refine (face_get_no (w.heap.size) (w.heap.size + 1) (w.heap.size + 1 + 1) n (fun W hW => HC.out W _ _ _ (HB0.out.trans (hW.mono HB0.out.size)) (HS0.out.keep hW) (HK0.out.keep hW) (HI0.out.keep hW))).mono ?_; rintro e w1 ⟨rfl, b1⟩; have HB1 := Lib.hid (HB0.out.trans (b1.mono HB0.out.size)); have HR1 := Lib.hid (HR0.out.keep b1); clear b1)
      | (refine wpList_store_big (l0 := kl zk) HR1.out rfl (.tmp 6) (.tmp 10) (ty := 29) (l := kl zk) rfl (by rfl) (by rfl) size30 rfl (kl_one _) ?_))
    exact bodyPost_ret (res_1t rfl _ _ (w.heap.size + 1 + 1 + 1) _ _ rfl rfl (load_key _ (HR1.out.setRow _))) rfl ⟨rfl, below_setRow HB1.out (by omega) _⟩
set_option maxRecDepth 100000 in
set_option maxHeartbeats 2000000 in
theorem nget_yes  (x : Ky) (i : Int) (g : Ky) (hcl : ∀ (W : World) (S K I : Nat), Below w.heap.size w W → Blk W S 35 #[pv p] → Blk W K 29 (kl x).toArray → Blk W I 3 #[.int .i64 i] → Calls Tryd.prog 61 #[.pointer (some ⟨S, 0, none⟩), .pointer (some ⟨K, 0, none⟩), .pointer (some ⟨I, 0, none⟩)] W fun e w' => e = .returned g.val ∧ Below W.heap.size W w') :
    Calls Tryd.prog 58 #[pv p, x.val, .int .i64 i] w fun e w' => e = .returned (.tuple #[g.val, .int .i64 0]) ∧ Below w.heap.size w w' := by
  have hmf : ∀ (fn : Fn) (first cap : Array Value) (w : World), (Instr.makeFunc fn first cap).run Tryd.prog w = .ok (.func fn first cap) w := fun _ _ _ _ => rfl
  have hz := z95
  have hbs := zks_len
  have HC := Lib.hid hcl
  clear hcl
  ·
    have HB0 := Lib.hid (((((Below.refl w.heap.size w).alloc (Nat.le_refl _) (.cells #[(pv p)] 35)).alloc (by simp) (.cells (kc x.k x.o x.c x.l x.r x.v) 29)).alloc (by simp; omega) (.cells #[.int .i64 i] 3)).alloc (by simp; omega) (.cells (kc 0 0 0 0 0 0) 29))
    have HS0 := Lib.hid ((((Blk.new_of w 35 #[(pv p)] (g := w.heap.size) (by simp)).alloc (.cells (kc x.k x.o x.c x.l x.r x.v) 29)).alloc (.cells #[.int .i64 i] 3)).alloc (.cells (kc 0 0 0 0 0 0) 29))
    have HK0 := Lib.hid (((Blk.new_of (w.alloc (.cells #[(pv p)] 35)) 29 (kc x.k x.o x.c x.l x.r x.v) (g := w.heap.size + 1) (by simp)).alloc (.cells #[.int .i64 i] 3)).alloc (.cells (kc 0 0 0 0 0 0) 29))
    have HI0 := Lib.hid ((Blk.new_of ((w.alloc (.cells #[(pv p)] 35)).alloc (.cells (kc x.k x.o x.c x.l x.r x.v) 29)) 3 #[.int .i64 i] (g := w.heap.size + 1 + 1) (by simp)).alloc (.cells (kc 0 0 0 0 0 0) 29))
    have HR0 := Lib.hid (Blk.new_of (((w.alloc (.cells #[(pv p)] 35)).alloc (.cells (kc x.k x.o x.c x.l x.r x.v) 29)).alloc (.cells #[.int .i64 i] 3)) 29 (kc 0 0 0 0 0 0) (g := w.heap.size + 1 + 1 + 1) (by simp))
    go_enter Tryd.func58, Tryd.ntmps58
    go_wp2_with (first
      | (go_at_call 60; refine (face_get_yes (w.heap.size) (w.heap.size + 1) (w.heap.size + 1 + 1) g (fun _ => False) (fun _ => True) (fun _ h => h.elim) (fun _ _ _ _ _ => trivial) (fun W hW => (HC.out W _ _ _ (HB0.out.trans (hW.mono HB0.out.size)) (HS0.out.keep hW) (HK0.out.keep hW) (HI0.out.keep hW)).mono fun e w' h => ⟨h.1, trivial, Fr.of_below h.2⟩)).mono ?_; rintro e w1 ⟨rfl, _, f1⟩; have b1 := f1.to_below (B := (w.heap.size + 1 + 1 + 1 + 1)) (fun _ h => h.elim) (by have := HR0.out.lt; omega); have HB1 := Lib.hid (HB0.out.trans (b1.mono (by omega))); have HR1 := Lib.hid (HR0.out.below b1 (by omega)); clear b1 f1)
      | (refine wpList_store_big (l0 := kl zk) HR1.out rfl (.tmp 6) (.tmp 10) (ty := 29) (l := kl g) rfl (by rfl) (by rfl) size30 rfl (kl_one _) ?_))
    exact bodyPost_ret (res_1t rfl _ _ (w.heap.size + 1 + 1 + 1) _ _ rfl rfl (load_key _ (HR1.out.setRow _))) rfl ⟨rfl, below_setRow HB1.out (by omega) _⟩
end
end Go.Proofs.YtjolojomgfcfbaaDoor

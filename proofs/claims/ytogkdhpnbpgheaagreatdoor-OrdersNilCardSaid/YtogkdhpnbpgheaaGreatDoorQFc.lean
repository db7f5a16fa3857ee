/- orders: the face: what gives up behind an error that was told is an answer as any. -/
import Derived.Test.YtogkdhpnbpgheaaGreatDoorR12
import Derived.Test.YtogkdhpnbpgheaaGreatDoorR09
namespace Go.Proofs.YtogkdhpnbpgheaaGreatDoor
open Go.RowKit
/-- what gives up behind an error that was told -/
abbrev rfd : List PanicEntry := [{ v := .iface 76 (.agg #[]), recovered := false }]
set_option maxRecDepth 8000 in
theorem oload_err {w : World} {g : Nat} {t : TypeId} (n : Int) (h : Blk w g t #[.int .i64 n]) : (loadVar 42 ⟨g, 0, none⟩).run Tryz.prog w = .ok (.int .i64 n) w := by
  have c := h.cell 0
  simp at c
  simp [go_sem, c]
set_option maxRecDepth 8000 in
theorem ocatch (p : Addr) (x n : Int) (older : List PanicEntry) (w : World) (hc : w.cell? p = some (.int .i64 x)) (hz : w.frozen? p = false) :
    CallsD Tryz.prog 52 #[.pointer (some p)] (.panicking ({ v := .iface 42 (.int .i64 n), recovered := false } :: older)) w fun e u' w' =>
      e = .returned (.tuple #[]) ∧ u' = .panicking ({ v := .iface 42 (.int .i64 n), recovered := true } :: older) ∧ w' = w.setCell p (.int .i64 n) := by
  have hne : ∀ w, (binOp .eql 20 (.iface 42 (.int .i64 n)) .nilIface).run Tryz.prog w = .ok (.bool false) w := fun _ => by kernel_rfl
  have hr : ∀ w, (Instr.typeAssert (.iface 42 (.int .i64 n)) 20 76 true).run Tryz.prog w = .ok (.tuple #[.agg #[], .bool false]) w := fun _ => by kernel_rfl
  have hta : ∀ w, (Instr.typeAssert (.iface 42 (.int .i64 n)) 20 42 true).run Tryz.prog w = .ok (.tuple #[.int .i64 n, .bool true]) w := fun _ => by kernel_rfl
  refine callsD_of_wpS Tryz.func52 rfl fun c₀ cs hu => ?_
  simp only [Tryz.ntmps52, List.size_toArray, List.length_cons, List.length_nil, Nat.reduceAdd, Nat.reduceSub, Array.replicate_succ, Array.replicate_zero, List.push_toArray, List.append_toArray, List.nil_append, List.cons_append]
  apply wpS_seq
  apply wpS_region
  simp [wpOpsS, go_sem, recoverD, hu, Exit.thenS]
  refine wpS_of_wp ?_
  go_wp2
  simp [bodyPostS, results, Tryz.results52]
set_option maxRecDepth 8000 in
theorem oidle (p : Addr) (w : World) :
    CallsD Tryz.prog 52 #[.pointer (some p)] .returning w fun e u' w' => e = .returned (.tuple #[]) ∧ u' = .returning ∧ w' = w := by
  have hne : ∀ w, (binOp .eql 20 .nilIface .nilIface).run Tryz.prog w = .ok (.bool true) w := fun _ => by kernel_rfl
  have hr : ∀ w, (Instr.typeAssert .nilIface 20 76 true).run Tryz.prog w = .ok (.tuple #[.agg #[], .bool false]) w := fun _ => by kernel_rfl
  refine callsD_of_wpS Tryz.func52 rfl fun c₀ cs hu => ?_
  simp only [Tryz.ntmps52, List.size_toArray, List.length_cons, List.length_nil, Nat.reduceAdd, Nat.reduceSub, Array.replicate_succ, Array.replicate_zero, List.push_toArray, List.append_toArray, List.nil_append, List.cons_append]
  apply wpS_seq
  apply wpS_region
  simp [wpOpsS, go_sem, recoverD, hu, Exit.thenS]
  refine wpS_of_wp ?_
  go_wp2
  cases c₀
  simp_all [bodyPostS, results, Tryz.results52]
set_option maxRecDepth 8000 in
theorem orefd (p : Addr) (older : List PanicEntry) (w : World) :
    CallsD Tryz.prog 52 #[.pointer (some p)] (.panicking ({ v := .iface 76 (.agg #[]), recovered := false } :: older)) w fun e u' w' =>
      e = .returned (.tuple #[]) ∧ u' = .panicking ({ v := .iface 76 (.agg #[]), recovered := true } :: older) ∧ w' = w := by
  have hne : ∀ w, (binOp .eql 20 (.iface 76 (.agg #[])) .nilIface).run Tryz.prog w = .ok (.bool false) w := fun _ => by kernel_rfl
  have hr : ∀ w, (Instr.typeAssert (.iface 76 (.agg #[])) 20 76 true).run Tryz.prog w = .ok (.tuple #[.agg #[], .bool true]) w := fun _ => by kernel_rfl
  refine callsD_of_wpS Tryz.func52 rfl fun c₀ cs hu => ?_
  simp only [Tryz.ntmps52, List.size_toArray, List.length_cons, List.length_nil, Nat.reduceAdd, Nat.reduceSub, Array.replicate_succ, Array.replicate_zero, List.push_toArray, List.append_toArray, List.nil_append, List.cons_append]
  apply wpS_seq
  apply wpS_region
  simp [wpOpsS, go_sem, recoverD, hu, Exit.thenS]
  refine wpS_of_wp ?_
  go_wp2
  simp [bodyPostS, results, Tryz.results52]
set_option maxRecDepth 8000 in
set_option maxHeartbeats 2000000 in
theorem oface_no {w : World} (c0 c1 c2 c3 c4 c5 : Value) (X : World → Prop) (hX : ∀ W v, X W → X (W.setCell ⟨w.heap.size, 0, none⟩ v)) (Sb : Nat → Prop) (hSb : ∀ k, Sb k → k < w.heap.size) (n : Int) (hcl : ∀ W, Below w.heap.size w W → Calls Tryz.prog 26 #[c0, c1, c2, c3, c4, c5] W fun e w' => e = .panicked (erc n) ∧ X w' ∧ Fr Sb W w') :
    Calls Tryz.prog 25 #[.func (.func 26) #[] #[c0, c1, c2, c3, c4, c5]] w fun e w' => e = .returned (.int .i64 n) ∧ X w' ∧ Fr Sb w w' := by
  have HCL := Lib.hid hcl
  have HXX := Lib.hid hX
  have HSB := Lib.hid hSb
  clear hcl hX hSb
  have hmf : ∀ (fn : Fn) (first cap : Array Value) (w : World), (Instr.makeFunc fn first cap).run Tryz.prog w = .ok (.func fn first cap) w := fun _ _ _ _ => rfl
  have HB0 := Lib.hid ((Below.refl w.heap.size w).alloc (Nat.le_refl _) (.cells #[.int .i64 0] 42))
  have HE0 := Lib.hid (Blk.new w 42 #[.int .i64 0])
  go_enter_defers Tryz.func25, Tryz.ntmps25
  go_wp2_with (go_at_call 26; refine (HCL.out _ HB0.out).mono ?_; rintro e w2 ⟨rfl, hx, hf⟩; have X2 := Lib.hid hx; have F2 := Lib.hid ((Fr.of_below HB0.out : Fr Sb w _).trans hf); have E2 := Lib.hid (show Blk w2 w.heap.size _ _ from (hf.block _ HE0.out.lt (fun hm => by have := HSB.out _ hm; omega)).trans HE0.out); clear hx hf)
  have hc : w2.cell? ⟨w.heap.size, 0, none⟩ = some (.int .i64 0) := by first | simp; done | exact Blk.cell E2.out 0
  have hz := Blk.frozen E2.out 0
  refine leaves_cons (f := 52) (args := #[.pointer (some ⟨w.heap.size, 0, none⟩)]) (by simp) (by simp [go_sem]) ?_
  refine (ocatch ⟨w.heap.size, 0, none⟩ 0 n [] _ hc hz).mono ?_
  rintro e u' w'' ⟨rfl, rfl, rfl⟩
  have hl2 := oload_err n (Blk.set_ E2.out 0 (.int .i64 n))
  change Leaves _ _ _ _ [] FrameMode.returning _
  exact ⟨_, res_1 rfl _ _ w.heap.size _ rfl hl2, rfl, ⟨HXX.out _ _ X2.out, F2.out.setCell (fun hh => absurd hh (Nat.lt_irrefl _)) _⟩⟩
set_option maxRecDepth 8000 in
set_option maxHeartbeats 2000000 in
theorem oface_yes {w : World} (c0 c1 c2 c3 c4 c5 : Value) (X : World → Prop) (hX : ∀ W v, X W → X (W.setCell ⟨w.heap.size, 0, none⟩ v)) (Sb : Nat → Prop) (hSb : ∀ k, Sb k → k < w.heap.size) (hcl : ∀ W, Below w.heap.size w W → Calls Tryz.prog 26 #[c0, c1, c2, c3, c4, c5] W fun e w' => e = .returned (.tuple #[]) ∧ X w' ∧ Fr Sb W w') :
    Calls Tryz.prog 25 #[.func (.func 26) #[] #[c0, c1, c2, c3, c4, c5]] w fun e w' => e = .returned (.int .i64 0) ∧ X w' ∧ Fr Sb w w' := by
  have HCL := Lib.hid hcl
  have HXX := Lib.hid hX
  have HSB := Lib.hid hSb
  clear hcl hX hSb
  have hmf : ∀ (fn : Fn) (first cap : Array Value) (w : World), (Instr.makeFunc fn first cap).run Tryz.prog w = .ok (.func fn first cap) w := fun _ _ _ _ => rfl
  have HB0 := Lib.hid ((Below.refl w.heap.size w).alloc (Nat.le_refl _) (.cells #[.int .i64 0] 42))
  have HE0 := Lib.hid (Blk.new w 42 #[.int .i64 0])
  go_enter_defers Tryz.func25, Tryz.ntmps25
  go_wp2_with (go_at_call 26; refine (HCL.out _ HB0.out).mono ?_; rintro e w2 ⟨rfl, hx, hf⟩; have X2 := Lib.hid hx; have F2 := Lib.hid ((Fr.of_below HB0.out : Fr Sb w _).trans hf); have E2 := Lib.hid (show Blk w2 w.heap.size _ _ from (hf.block _ HE0.out.lt (fun hm => by have := HSB.out _ hm; omega)).trans HE0.out); clear hx hf; have hc9 : w2.cell? ⟨w.heap.size, 0, none⟩ = some (.int .i64 0) := E2.out.cell 0; have hz9 : w2.frozen? ⟨w.heap.size, 0, none⟩ = false := E2.out.frozen 0)
  have E3 : Blk (w2.setCell ⟨w.heap.size, 0, none⟩ (.int .i64 0)) w.heap.size 42 #[.int .i64 0] := E2.out.set_ 0 (.int .i64 0)
  refine leaves_cons (f := 52) (args := #[.pointer (some ⟨w.heap.size, 0, none⟩)]) (by simp) (by simp [go_sem]) ?_
  refine (oidle ⟨w.heap.size, 0, none⟩ _).mono ?_
  rintro e u' w'' ⟨rfl, rfl, rfl⟩
  have hl2 := oload_err 0 E3
  change Leaves _ _ _ _ [] FrameMode.returning _
  exact ⟨_, res_1 rfl _ _ w.heap.size _ rfl hl2, rfl, ⟨HXX.out _ _ X2.out, F2.out.setCell (fun hh => absurd hh (Nat.lt_irrefl _)) _⟩⟩
set_option maxRecDepth 8000 in
set_option maxHeartbeats 2000000 in
theorem oface_told {w : World} (c0 c1 c2 c3 c4 c5 : Value) (X : World → Prop) (hX : ∀ W v, X W → X (W.setCell ⟨w.heap.size, 0, none⟩ v)) (Sb : Nat → Prop) (hSb : ∀ k, Sb k → k < w.heap.size) (hcl : ∀ W, Below w.heap.size w W → Calls Tryz.prog 26 #[c0, c1, c2, c3, c4, c5] W fun e w' => e = .panicked rfd ∧ X w' ∧ Fr Sb W w') :
    Calls Tryz.prog 25 #[.func (.func 26) #[] #[c0, c1, c2, c3, c4, c5]] w fun e w' => e = .returned (.int .i64 0) ∧ X w' ∧ Fr Sb w w' := by
  have HCL := Lib.hid hcl
  have HXX := Lib.hid hX
  have HSB := Lib.hid hSb
  clear hcl hX hSb
  have hmf : ∀ (fn : Fn) (first cap : Array Value) (w : World), (Instr.makeFunc fn first cap).run Tryz.prog w = .ok (.func fn first cap) w := fun _ _ _ _ => rfl
  have HB0 := Lib.hid ((Below.refl w.heap.size w).alloc (Nat.le_refl _) (.cells #[.int .i64 0] 42))
  have HE0 := Lib.hid (Blk.new w 42 #[.int .i64 0])
  go_enter_defers Tryz.func25, Tryz.ntmps25
  go_wp2_with (go_at_call 26; refine (HCL.out _ HB0.out).mono ?_; rintro e w2 ⟨rfl, hx, hf⟩; have X2 := Lib.hid hx; have F2 := Lib.hid ((Fr.of_below HB0.out : Fr Sb w _).trans hf); have E2 := Lib.hid (show Blk w2 w.heap.size _ _ from (hf.block _ HE0.out.lt (fun hm => by have := HSB.out _ hm; omega)).trans HE0.out); clear hx hf)
  refine leaves_cons (f := 52) (args := #[.pointer (some ⟨w.heap.size, 0, none⟩)]) (by simp) (by simp [go_sem]) ?_
  refine (orefd ⟨w.heap.size, 0, none⟩ [] _).mono ?_
  rintro e u' w'' ⟨rfl, rfl, rfl⟩
  have hl2 := oload_err 0 E2.out
  change Leaves _ _ _ _ [] FrameMode.returning _
  exact ⟨_, res_1 rfl _ _ w.heap.size _ rfl hl2, rfl, X2.out, F2.out⟩
end Go.Proofs.YtogkdhpnbpgheaaGreatDoor

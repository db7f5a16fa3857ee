/- procs: the face. -/
import Derived.Test.YtljfddeolapeaaaDoorJAn
namespace Go.Proofs.YtljfddeolapeaaaDoor
open Go.RowKit
set_option maxRecDepth 8000 in
theorem jcatch (p : Addr) (x n : Int) (older : List PanicEntry) (w : World) (hc : w.cell? p = some (.int .i64 x)) (hz : w.frozen? p = false) :
    CallsD Tryd.prog 69 #[.pointer (some p)] (.panicking ({ v := .iface 46 (.int .i64 n), recovered := false } :: older)) w fun e u' w' =>
      e = .returned (.tuple #[]) ∧ u' = .panicking ({ v := .iface 46 (.int .i64 n), recovered := true } :: older) ∧ w' = w.setCell p (.int .i64 n) := by
  have hne : ∀ w, (binOp .eql 20 (.iface 46 (.int .i64 n)) .nilIface).run Tryd.prog w = .ok (.bool false) w := fun _ => by kernel_rfl
  have hta : ∀ w, (Instr.typeAssert (.iface 46 (.int .i64 n)) 20 46 true).run Tryd.prog w = .ok (.tuple #[.int .i64 n, .bool true]) w := fun _ => by kernel_rfl
  refine callsD_of_wpS Tryd.func69 rfl fun c₀ cs hu => ?_
  simp only [Tryd.ntmps69, List.size_toArray, List.length_cons, List.length_nil, Nat.reduceAdd, Nat.reduceSub, Array.replicate_succ, Array.replicate_zero, List.push_toArray, List.append_toArray, List.nil_append, List.cons_append]
  apply wpS_seq
  apply wpS_region
  simp [wpOpsS, go_sem, recoverD, hu, Exit.thenS]
  refine wpS_of_wp ?_
  go_wp2
  simp [bodyPostS, results, Tryd.results69]
set_option maxRecDepth 8000 in
theorem jidle (p : Addr) (w : World) :
    CallsD Tryd.prog 69 #[.pointer (some p)] .returning w fun e u' w' => e = .returned (.tuple #[]) ∧ u' = .returning ∧ w' = w := by
  have hne : ∀ w, (binOp .eql 20 .nilIface .nilIface).run Tryd.prog w = .ok (.bool true) w := fun _ => by kernel_rfl
  refine callsD_of_wpS Tryd.func69 rfl fun c₀ cs hu => ?_
  simp only [Tryd.ntmps69, List.size_toArray, List.length_cons, List.length_nil, Nat.reduceAdd, Nat.reduceSub, Array.replicate_succ, Array.replicate_zero, List.push_toArray, List.append_toArray, List.nil_append, List.cons_append]
  apply wpS_seq
  apply wpS_region
  simp [wpOpsS, go_sem, recoverD, hu, Exit.thenS]
  refine wpS_of_wp ?_
  go_wp2
  cases c₀
  simp_all [bodyPostS, results, Tryd.results69]
section
variable {w : World} {base p : Nat} {A : Option Addr} {cap : Nat} {ps : List Nat} {os : List Oj}
set_option maxRecDepth 8000 in
set_option maxHeartbeats 2000000 in
theorem jface_inv_no (h : StAt w base p A cap ps os) (hn : 0 < os.length) (L : List Oj) (c0 c1 c2 c3 c4 : Value) (X : World → Prop) (hX : ∀ W v, X W → X (W.setCell ⟨w.heap.size, 0, none⟩ v)) (Sb : Nat → Prop) (hSb : ∀ k, Sb k → k < w.heap.size) (n : Int) (hcl : ∀ W, Below w.heap.size w W → Calls Tryd.prog 35 #[c0, c1, c2, c3, c4] W fun e w' => e = .panicked (erc n) ∧ StAt w' base p A cap ps L ∧ X w' ∧ Fr Sb W w') :
    Calls Tryd.prog 34 #[pv p, .func (.func 35) #[] #[c0, c1, c2, c3, c4]] w fun e w' => e = .returned (.int .i64 n) ∧ StAt w' base p A cap ps L ∧ X w' ∧ Fr Sb w w' := by
  obtain ⟨m, hm⟩ : ∃ m : Int, m = (os.length : Int) := ⟨_, rfl⟩
  have dm : (m == 0) = false := by simp; omega
  have HM := Lib.hid hm
  have HN := Lib.hid hn
  have HCL := Lib.hid hcl
  have HXX := Lib.hid hX
  have HSB := Lib.hid hSb
  have HLT := Lib.hid (fun k (hk : stHas p A ps k) => (h.lt k hk).2)
  have HS0 := Lib.hid (h.alloc (.cells #[.int .i64 0] 46))
  clear h hn hcl hX hSb hm
  have hmf : ∀ (fn : Fn) (first cap : Array Value) (w : World), (Instr.makeFunc fn first cap).run Tryd.prog w = .ok (.func fn first cap) w := fun _ _ _ _ => rfl
  have HB0 := Lib.hid ((Below.refl w.heap.size w).alloc (Nat.le_refl _) (.cells #[.int .i64 0] 46))
  have HE0 := Lib.hid (Blk.new w 46 #[.int .i64 0])
  go_enter_defers Tryd.func34, Tryd.ntmps34
  go_wp2_with (first
    | (go_at_call 42; refine (size_m HS0.out HN.out HM.out).mono ?_; rintro e w1 ⟨rfl, rfl⟩)
    | (go_at_call 35; refine (HCL.out _ HB0.out).mono ?_; rintro e w2 ⟨rfl, hs, hx, hf⟩; have S2 := Lib.hid hs; have X2 := Lib.hid hx; have F2 := Lib.hid ((Fr.of_below HB0.out : Fr Sb w _).trans hf); have E2 := Lib.hid (show Blk w2 w.heap.size _ _ from (hf.block _ HE0.out.lt (fun hm => by have := HSB.out _ hm; omega)).trans HE0.out); clear hs hx hf))
  have hc : w2.cell? ⟨w.heap.size, 0, none⟩ = some (.int .i64 0) := by first | simp; done | exact Blk.cell E2.out 0
  have hz := Blk.frozen E2.out 0
  refine leaves_cons (f := 69) (args := #[.pointer (some ⟨w.heap.size, 0, none⟩)]) (by simp) (by simp [go_sem]) ?_
  refine (jcatch ⟨w.heap.size, 0, none⟩ 0 n [] _ hc hz).mono ?_
  rintro e u' w'' ⟨rfl, rfl, rfl⟩
  have hl2 := load_err n (Blk.set_ E2.out 0 (.int .i64 n))
  change Leaves _ _ _ _ [] FrameMode.returning _
  exact ⟨_, res_1 rfl _ _ w.heap.size _ rfl hl2, rfl, ⟨S2.out.keep fun k hk => Below.heap_setCell _ _ _ _ (fun e => by have h1 := HLT.out k hk; have h2 : k = w.heap.size := e; omega), HXX.out _ _ X2.out, F2.out.setCell (fun hh => absurd hh (Nat.lt_irrefl _)) _⟩⟩
set_option maxRecDepth 8000 in
set_option maxHeartbeats 2000000 in
theorem jface_inv_yes (h : StAt w base p A cap ps os) (hn : 0 < os.length) (L : List Oj) (c0 c1 c2 c3 c4 : Value) (X : World → Prop) (hX : ∀ W v, X W → X (W.setCell ⟨w.heap.size, 0, none⟩ v)) (Sb : Nat → Prop) (hSb : ∀ k, Sb k → k < w.heap.size) (hcl : ∀ W, Below w.heap.size w W → Calls Tryd.prog 35 #[c0, c1, c2, c3, c4] W fun e w' => e = .returned (.tuple #[]) ∧ StAt w' base p A cap ps L ∧ X w' ∧ Fr Sb W w') :
    Calls Tryd.prog 34 #[pv p, .func (.func 35) #[] #[c0, c1, c2, c3, c4]] w fun e w' => e = .returned (.int .i64 0) ∧ StAt w' base p A cap ps L ∧ X w' ∧ Fr Sb w w' := by
  obtain ⟨m, hm⟩ : ∃ m : Int, m = (os.length : Int) := ⟨_, rfl⟩
  have dm : (m == 0) = false := by simp; omega
  have HM := Lib.hid hm
  have HN := Lib.hid hn
  have HCL := Lib.hid hcl
  have HXX := Lib.hid hX
  have HSB := Lib.hid hSb
  have HLT := Lib.hid (fun k (hk : stHas p A ps k) => (h.lt k hk).2)
  have HS0 := Lib.hid (h.alloc (.cells #[.int .i64 0] 46))
  clear h hn hcl hX hSb hm
  have hmf : ∀ (fn : Fn) (first cap : Array Value) (w : World), (Instr.makeFunc fn first cap).run Tryd.prog w = .ok (.func fn first cap) w := fun _ _ _ _ => rfl
  have HB0 := Lib.hid ((Below.refl w.heap.size w).alloc (Nat.le_refl _) (.cells #[.int .i64 0] 46))
  have HE0 := Lib.hid (Blk.new w 46 #[.int .i64 0])
  go_enter_defers Tryd.func34, Tryd.ntmps34
  go_wp2_with (first
    | (go_at_call 42; refine (size_m HS0.out HN.out HM.out).mono ?_; rintro e w1 ⟨rfl, rfl⟩)
    | (go_at_call 35; refine (HCL.out _ HB0.out).mono ?_; rintro e w2 ⟨rfl, hs, hx, hf⟩; have S2 := Lib.hid hs; have X2 := Lib.hid hx; have F2 := Lib.hid ((Fr.of_below HB0.out : Fr Sb w _).trans hf); have E2 := Lib.hid (show Blk w2 w.heap.size _ _ from (hf.block _ HE0.out.lt (fun hm => by have := HSB.out _ hm; omega)).trans HE0.out); clear hs hx hf; have hc9 : w2.cell? ⟨w.heap.size, 0, none⟩ = some (.int .i64 0) := E2.out.one; have hz9 : w2.frozen? ⟨w.heap.size, 0, none⟩ = false := E2.out.frozen 0))
  have E3 := set_same E2.out (.int .i64 0)
  refine leaves_cons (f := 69) (args := #[.pointer (some ⟨w.heap.size, 0, none⟩)]) (by simp) (by simp [go_sem]) ?_
  refine (jidle ⟨w.heap.size, 0, none⟩ _).mono ?_
  rintro e u' w'' ⟨rfl, rfl, rfl⟩
  have hl2 := load_err 0 E3
  change Leaves _ _ _ _ [] FrameMode.returning _
  exact ⟨_, res_1 rfl _ _ w.heap.size _ rfl hl2, rfl, ⟨S2.out.keep fun k hk => Below.heap_setCell _ _ _ _ (fun e => by have h1 := HLT.out k hk; have h2 : k = w.heap.size := e; omega), HXX.out _ _ X2.out, F2.out.setCell (fun hh => absurd hh (Nat.lt_irrefl _)) _⟩⟩
set_option maxRecDepth 8000 in
set_option maxHeartbeats 2000000 in
theorem jface_ans_no (h : StAt w base p A cap ps os) (hn : 0 < os.length) (L : List Oj) (c0 c1 c2 : Value) (X : World → Prop) (hX : ∀ W v, X W → X (W.setCell ⟨w.heap.size, 0, none⟩ v)) (Sb : Nat → Prop) (hSb : ∀ k, Sb k → k < w.heap.size) (n : Int) (hcl : ∀ W, Below w.heap.size w W → Calls Tryd.prog 61 #[c0, c1, c2] W fun e w' => e = .panicked (erc n) ∧ StAt w' base p A cap ps L ∧ X w' ∧ Fr Sb W w') :
    Calls Tryd.prog 34 #[pv p, .func (.func 61) #[] #[c0, c1, c2]] w fun e w' => e = .returned (.int .i64 n) ∧ StAt w' base p A cap ps L ∧ X w' ∧ Fr Sb w w' := by
  obtain ⟨m, hm⟩ : ∃ m : Int, m = (os.length : Int) := ⟨_, rfl⟩
  have dm : (m == 0) = false := by simp; omega
  have HM := Lib.hid hm
  have HN := Lib.hid hn
  have HCL := Lib.hid hcl
  have HXX := Lib.hid hX
  have HSB := Lib.hid hSb
  have HLT := Lib.hid (fun k (hk : stHas p A ps k) => (h.lt k hk).2)
  have HS0 := Lib.hid (h.alloc (.cells #[.int .i64 0] 46))
  clear h hn hcl hX hSb hm
  have hmf : ∀ (fn : Fn) (first cap : Array Value) (w : World), (Instr.makeFunc fn first cap).run Tryd.prog w = .ok (.func fn first cap) w := fun _ _ _ _ => rfl
  have HB0 := Lib.hid ((Below.refl w.heap.size w).alloc (Nat.le_refl _) (.cells #[.int .i64 0] 46))
  have HE0 := Lib.hid (Blk.new w 46 #[.int .i64 0])
  go_enter_defers Tryd.func34, Tryd.ntmps34
  go_wp2_with (first
    | (go_at_call 42; refine (size_m HS0.out HN.out HM.out).mono ?_; rintro e w1 ⟨rfl, rfl⟩)
    | (go_at_call 61; refine (HCL.out _ HB0.out).mono ?_; rintro e w2 ⟨rfl, hs, hx, hf⟩; have S2 := Lib.hid hs; have X2 := Lib.hid hx; have F2 := Lib.hid ((Fr.of_below HB0.out : Fr Sb w _).trans hf); have E2 := Lib.hid (show Blk w2 w.heap.size _ _ from (hf.block _ HE0.out.lt (fun hm => by have := HSB.out _ hm; omega)).trans HE0.out); clear hs hx hf))
  have hc : w2.cell? ⟨w.heap.size, 0, none⟩ = some (.int .i64 0) := by first | simp; done | exact Blk.cell E2.out 0
  have hz := Blk.frozen E2.out 0
  refine leaves_cons (f := 69) (args := #[.pointer (some ⟨w.heap.size, 0, none⟩)]) (by simp) (by simp [go_sem]) ?_
  refine (jcatch ⟨w.heap.size, 0, none⟩ 0 n [] _ hc hz).mono ?_
  rintro e u' w'' ⟨rfl, rfl, rfl⟩
  have hl2 := load_err n (Blk.set_ E2.out 0 (.int .i64 n))
  change Leaves _ _ _ _ [] FrameMode.returning _
  exact ⟨_, res_1 rfl _ _ w.heap.size _ rfl hl2, rfl, ⟨S2.out.keep fun k hk => Below.heap_setCell _ _ _ _ (fun e => by have h1 := HLT.out k hk; have h2 : k = w.heap.size := e; omega), HXX.out _ _ X2.out, F2.out.setCell (fun hh => absurd hh (Nat.lt_irrefl _)) _⟩⟩
set_option maxRecDepth 8000 in
set_option maxHeartbeats 2000000 in
theorem jface_ans_yes (h : StAt w base p A cap ps os) (hn : 0 < os.length) (L : List Oj) (c0 c1 c2 : Value) (X : World → Prop) (hX : ∀ W v, X W → X (W.setCell ⟨w.heap.size, 0, none⟩ v)) (Sb : Nat → Prop) (hSb : ∀ k, Sb k → k < w.heap.size) (hcl : ∀ W, Below w.heap.size w W → Calls Tryd.prog 61 #[c0, c1, c2] W fun e w' => e = .returned (.tuple #[]) ∧ StAt w' base p A cap ps L ∧ X w' ∧ Fr Sb W w') :
    Calls Tryd.prog 34 #[pv p, .func (.func 61) #[] #[c0, c1, c2]] w fun e w' => e = .returned (.int .i64 0) ∧ StAt w' base p A cap ps L ∧ X w' ∧ Fr Sb w w' := by
  obtain ⟨m, hm⟩ : ∃ m : Int, m = (os.length : Int) := ⟨_, rfl⟩
  have dm : (m == 0) = false := by simp; omega
  have HM := Lib.hid hm
  have HN := Lib.hid hn
  have HCL := Lib.hid hcl
  have HXX := Lib.hid hX
  have HSB := Lib.hid hSb
  have HLT := Lib.hid (fun k (hk : stHas p A ps k) => (h.lt k hk).2)
  have HS0 := Lib.hid (h.alloc (.cells #[.int .i64 0] 46))
  clear h hn hcl hX hSb hm
  have hmf : ∀ (fn : Fn) (first cap : Array Value) (w : World), (Instr.makeFunc fn first cap).run Tryd.prog w = .ok (.func fn first cap) w := fun _ _ _ _ => rfl
  have HB0 := Lib.hid ((Below.refl w.heap.size w).alloc (Nat.le_refl _) (.cells #[.int .i64 0] 46))
  have HE0 := Lib.hid (Blk.new w 46 #[.int .i64 0])
  go_enter_defers Tryd.func34, Tryd.ntmps34
  go_wp2_with (first
    | (go_at_call 42; refine (size_m HS0.out HN.out HM.out).mono ?_; rintro e w1 ⟨rfl, rfl⟩)
    | (go_at_call 61; refine (HCL.out _ HB0.out).mono ?_; rintro e w2 ⟨rfl, hs, hx, hf⟩; have S2 := Lib.hid hs; have X2 := Lib.hid hx; have F2 := Lib.hid ((Fr.of_below HB0.out : Fr Sb w _).trans hf); have E2 := Lib.hid (show Blk w2 w.heap.size _ _ from (hf.block _ HE0.out.lt (fun hm => by have := HSB.out _ hm; omega)).trans HE0.out); clear hs hx hf; have hc9 : w2.cell? ⟨w.heap.size, 0, none⟩ = some (.int .i64 0) := E2.out.one; have hz9 : w2.frozen? ⟨w.heap.size, 0, none⟩ = false := E2.out.frozen 0))
  have E3 := set_same E2.out (.int .i64 0)
  refine leaves_cons (f := 69) (args := #[.pointer (some ⟨w.heap.size, 0, none⟩)]) (by simp) (by simp [go_sem]) ?_
  refine (jidle ⟨w.heap.size, 0, none⟩ _).mono ?_
  rintro e u' w'' ⟨rfl, rfl, rfl⟩
  have hl2 := load_err 0 E3
  change Leaves _ _ _ _ [] FrameMode.returning _
  exact ⟨_, res_1 rfl _ _ w.heap.size _ rfl hl2, rfl, ⟨S2.out.keep fun k hk => Below.heap_setCell _ _ _ _ (fun e => by have h1 := HLT.out k hk; have h2 : k = w.heap.size := e; omega), HXX.out _ _ X2.out, F2.out.setCell (fun hh => absurd hh (Nat.lt_irrefl _)) _⟩⟩
set_option maxRecDepth 8000 in
set_option maxHeartbeats 2000000 in
theorem jface_tol_no (h : StAt w base p A cap ps os) (hn : 0 < os.length) (L : List Oj) (c0 c1 c2 : Value) (X : World → Prop) (hX : ∀ W v, X W → X (W.setCell ⟨w.heap.size, 0, none⟩ v)) (Sb : Nat → Prop) (hSb : ∀ k, Sb k → k < w.heap.size) (n : Int) (hcl : ∀ W, Below w.heap.size w W → Calls Tryd.prog 51 #[c0, c1, c2] W fun e w' => e = .panicked (erc n) ∧ StAt w' base p A cap ps L ∧ X w' ∧ Fr Sb W w') :
    Calls Tryd.prog 34 #[pv p, .func (.func 51) #[] #[c0, c1, c2]] w fun e w' => e = .returned (.int .i64 n) ∧ StAt w' base p A cap ps L ∧ X w' ∧ Fr Sb w w' := by
  obtain ⟨m, hm⟩ : ∃ m : Int, m = (os.length : Int) := ⟨_, rfl⟩
  have dm : (m == 0) = false := by simp; omega
  have HM := Lib.hid hm
  have HN := Lib.hid hn
  have HCL := Lib.hid hcl
  have HXX := Lib.hid hX
  have HSB := Lib.hid hSb
  have HLT := Lib.hid (fun k (hk : stHas p A ps k) => (h.lt k hk).2)
  have HS0 := Lib.hid (h.alloc (.cells #[.int .i64 0] 46))
  clear h hn hcl hX hSb hm
  have hmf : ∀ (fn : Fn) (first cap : Array Value) (w : World), (Instr.makeFunc fn first cap).run Tryd.prog w = .ok (.func fn first cap) w := fun _ _ _ _ => rfl
  have HB0 := Lib.hid ((Below.refl w.heap.size w).alloc (Nat.le_refl _) (.cells #[.int .i64 0] 46))
  have HE0 := Lib.hid (Blk.new w 46 #[.int .i64 0])
  go_enter_defers Tryd.func34, Tryd.ntmps34
  go_wp2_with (first
    | (go_at_call 42; refine (size_m HS0.out HN.out HM.out).mono ?_; rintro e w1 ⟨rfl, rfl⟩)
    | (go_at_call 51; refine (HCL.out _ HB0.out).mono ?_; rintro e w2 ⟨rfl, hs, hx, hf⟩; have S2 := Lib.hid hs; have X2 := Lib.hid hx; have F2 := Lib.hid ((Fr.of_below HB0.out : Fr Sb w _).trans hf); have E2 := Lib.hid (show Blk w2 w.heap.size _ _ from (hf.block _ HE0.out.lt (fun hm => by have := HSB.out _ hm; omega)).trans HE0.out); clear hs hx hf))
  have hc : w2.cell? ⟨w.heap.size, 0, none⟩ = some (.int .i64 0) := by first | simp; done | exact Blk.cell E2.out 0
  have hz := Blk.frozen E2.out 0
  refine leaves_cons (f := 69) (args := #[.pointer (some ⟨w.heap.size, 0, none⟩)]) (by simp) (by simp [go_sem]) ?_
  refine (jcatch ⟨w.heap.size, 0, none⟩ 0 n [] _ hc hz).mono ?_
  rintro e u' w'' ⟨rfl, rfl, rfl⟩
  have hl2 := load_err n (Blk.set_ E2.out 0 (.int .i64 n))
  change Leaves _ _ _ _ [] FrameMode.returning _
  exact ⟨_, res_1 rfl _ _ w.heap.size _ rfl hl2, rfl, ⟨S2.out.keep fun k hk => Below.heap_setCell _ _ _ _ (fun e => by have h1 := HLT.out k hk; have h2 : k = w.heap.size := e; omega), HXX.out _ _ X2.out, F2.out.setCell (fun hh => absurd hh (Nat.lt_irrefl _)) _⟩⟩
set_option maxRecDepth 8000 in
set_option maxHeartbeats 2000000 in
theorem jface_tol_yes (h : StAt w base p A cap ps os) (hn : 0 < os.length) (L : List Oj) (c0 c1 c2 : Value) (X : World → Prop) (hX : ∀ W v, X W → X (W.setCell ⟨w.heap.size, 0, none⟩ v)) (Sb : Nat → Prop) (hSb : ∀ k, Sb k → k < w.heap.size) (hcl : ∀ W, Below w.heap.size w W → Calls Tryd.prog 51 #[c0, c1, c2] W fun e w' => e = .returned (.tuple #[]) ∧ StAt w' base p A cap ps L ∧ X w' ∧ Fr Sb W w') :
    Calls Tryd.prog 34 #[pv p, .func (.func 51) #[] #[c0, c1, c2]] w fun e w' => e = .returned (.int .i64 0) ∧ StAt w' base p A cap ps L ∧ X w' ∧ Fr Sb w w' := by
  obtain ⟨m, hm⟩ : ∃ m : Int, m = (os.length : Int) := ⟨_, rfl⟩
  have dm : (m == 0) = false := by simp; omega
  have HM := Lib.hid hm
  have HN := Lib.hid hn
  have HCL := Lib.hid hcl
  have HXX := Lib.hid hX
  have HSB := Lib.hid hSb
  have HLT := Lib.hid (fun k (hk : stHas p A ps k) => (h.lt k hk).2)
  have HS0 := Lib.hid (h.alloc (.cells #[.int .i64 0] 46))
  clear h hn hcl hX hSb hm
  have hmf : ∀ (fn : Fn) (first cap : Array Value) (w : World), (Instr.makeFunc fn first cap).run Tryd.prog w = .ok (.func fn first cap) w := fun _ _ _ _ => rfl
  have HB0 := Lib.hid ((Below.refl w.heap.size w).alloc (Nat.le_refl _) (.cells #[.int .i64 0] 46))
  have HE0 := Lib.hid (Blk.new w 46 #[.int .i64 0])
  go_enter_defers Tryd.func34, Tryd.ntmps34
  go_wp2_with (first
    | (go_at_call 42; refine (size_m HS0.out HN.out HM.out).mono ?_; rintro e w1 ⟨rfl, rfl⟩)
    | (go_at_call 51; refine (HCL.out _ HB0.out).mono ?_; rintro e w2 ⟨rfl, hs, hx, hf⟩; have S2 := Lib.hid hs; have X2 := Lib.hid hx; have F2 := Lib.hid ((Fr.of_below HB0.out : Fr Sb w _).trans hf); have E2 := Lib.hid (show Blk w2 w.heap.size _ _ from (hf.block _ HE0.out.lt (fun hm => by have := HSB.out _ hm; omega)).trans HE0.out); clear hs hx hf; have hc9 : w2.cell? ⟨w.heap.size, 0, none⟩ = some (.int .i64 0) := E2.out.one; have hz9 : w2.frozen? ⟨w.heap.size, 0, none⟩ = false := E2.out.frozen 0))
  have E3 := set_same E2.out (.int .i64 0)
  refine leaves_cons (f := 69) (args := #[.pointer (some ⟨w.heap.size, 0, none⟩)]) (by simp) (by simp [go_sem]) ?_
  refine (jidle ⟨w.heap.size, 0, none⟩ _).mono ?_
  rintro e u' w'' ⟨rfl, rfl, rfl⟩
  have hl2 := load_err 0 E3
  change Leaves _ _ _ _ [] FrameMode.returning _
  exact ⟨_, res_1 rfl _ _ w.heap.size _ rfl hl2, rfl, ⟨S2.out.keep fun k hk => Below.heap_setCell _ _ _ _ (fun e => by have h1 := HLT.out k hk; have h2 : k = w.heap.size := e; omega), HXX.out _ _ X2.out, F2.out.setCell (fun hh => absurd hh (Nat.lt_irrefl _)) _⟩⟩
set_option maxRecDepth 8000 in
set_option maxHeartbeats 2000000 in
theorem jface_bec_no (h : StAt w base p A cap ps os) (hn : 0 < os.length) (L : List Oj) (c0 c1 c2 : Value) (X : World → Prop) (hX : ∀ W v, X W → X (W.setCell ⟨w.heap.size, 0, none⟩ v)) (Sb : Nat → Prop) (hSb : ∀ k, Sb k → k < w.heap.size) (n : Int) (hcl : ∀ W, Below w.heap.size w W → Calls Tryd.prog 64 #[c0, c1, c2] W fun e w' => e = .panicked (erc n) ∧ StAt w' base p A cap ps L ∧ X w' ∧ Fr Sb W w') :
    Calls Tryd.prog 34 #[pv p, .func (.func 64) #[] #[c0, c1, c2]] w fun e w' => e = .returned (.int .i64 n) ∧ StAt w' base p A cap ps L ∧ X w' ∧ Fr Sb w w' := by
  obtain ⟨m, hm⟩ : ∃ m : Int, m = (os.length : Int) := ⟨_, rfl⟩
  have dm : (m == 0) = false := by simp; omega
  have HM := Lib.hid hm
  have HN := Lib.hid hn
  have HCL := Lib.hid hcl
  have HXX := Lib.hid hX
  have HSB := Lib.hid hSb
  have HLT := Lib.hid (fun k (hk : stHas p A ps k) => (h.lt k hk).2)
  have HS0 := Lib.hid (h.alloc (.cells #[.int .i64 0] 46))
  clear h hn hcl hX hSb hm
  have hmf : ∀ (fn : Fn) (first cap : Array Value) (w : World), (Instr.makeFunc fn first cap).run Tryd.prog w = .ok (.func fn first cap) w := fun _ _ _ _ => rfl
  have HB0 := Lib.hid ((Below.refl w.heap.size w).alloc (Nat.le_refl _) (.cells #[.int .i64 0] 46))
  have HE0 := Lib.hid (Blk.new w 46 #[.int .i64 0])
  go_enter_defers Tryd.func34, Tryd.ntmps34
  go_wp2_with (first
    | (go_at_call 42; refine (size_m HS0.out HN.out HM.out).mono ?_; rintro e w1 ⟨rfl, rfl⟩)
    | (go_at_call 64; refine (HCL.out _ HB0.out).mono ?_; rintro e w2 ⟨rfl, hs, hx, hf⟩; have S2 := Lib.hid hs; have X2 := Lib.hid hx; have F2 := Lib.hid ((Fr.of_below HB0.out : Fr Sb w _).trans hf); have E2 := Lib.hid (show Blk w2 w.heap.size _ _ from (hf.block _ HE0.out.lt (fun hm => by have := HSB.out _ hm; omega)).trans HE0.out); clear hs hx hf))
  have hc : w2.cell? ⟨w.heap.size, 0, none⟩ = some (.int .i64 0) := by first | simp; done | exact Blk.cell E2.out 0
  have hz := Blk.frozen E2.out 0
  refine leaves_cons (f := 69) (args := #[.pointer (some ⟨w.heap.size, 0, none⟩)]) (by simp) (by simp [go_sem]) ?_
  refine (jcatch ⟨w.heap.size, 0, none⟩ 0 n [] _ hc hz).mono ?_
  rintro e u' w'' ⟨rfl, rfl, rfl⟩
  have hl2 := load_err n (Blk.set_ E2.out 0 (.int .i64 n))
  change Leaves _ _ _ _ [] FrameMode.returning _
  exact ⟨_, res_1 rfl _ _ w.heap.size _ rfl hl2, rfl, ⟨S2.out.keep fun k hk => Below.heap_setCell _ _ _ _ (fun e => by have h1 := HLT.out k hk; have h2 : k = w.heap.size := e; omega), HXX.out _ _ X2.out, F2.out.setCell (fun hh => absurd hh (Nat.lt_irrefl _)) _⟩⟩
set_option maxRecDepth 8000 in
set_option maxHeartbeats 2000000 in
theorem jface_bec_yes (h : StAt w base p A cap ps os) (hn : 0 < os.length) (L : List Oj) (c0 c1 c2 : Value) (X : World → Prop) (hX : ∀ W v, X W → X (W.setCell ⟨w.heap.size, 0, none⟩ v)) (Sb : Nat → Prop) (hSb : ∀ k, Sb k → k < w.heap.size) (hcl : ∀ W, Below w.heap.size w W → Calls Tryd.prog 64 #[c0, c1, c2] W fun e w' => e = .returned (.tuple #[]) ∧ StAt w' base p A cap ps L ∧ X w' ∧ Fr Sb W w') :
    Calls Tryd.prog 34 #[pv p, .func (.func 64) #[] #[c0, c1, c2]] w fun e w' => e = .returned (.int .i64 0) ∧ StAt w' base p A cap ps L ∧ X w' ∧ Fr Sb w w' := by
  obtain ⟨m, hm⟩ : ∃ m : Int, m = (os.length : Int) := ⟨_, rfl⟩
  have dm : (m == 0) = false := by simp; omega
  have HM := Lib.hid hm
  have HN := Lib.hid hn
  have HCL := Lib.hid hcl
  have HXX := Lib.hid hX
  have HSB := Lib.hid hSb
  have HLT := Lib.hid (fun k (hk : stHas p A ps k) => (h.lt k hk).2)
  have HS0 := Lib.hid (h.alloc (.cells #[.int .i64 0] 46))
  clear h hn hcl hX hSb hm
  have hmf : ∀ (fn : Fn) (first cap : Array Value) (w : World), (Instr.makeFunc fn first cap).run Tryd.prog w = .ok (.func fn first cap) w := fun _ _ _ _ => rfl
  have HB0 := Lib.hid ((Below.refl w.heap.size w).alloc (Nat.le_refl _) (.cells #[.int .i64 0] 46))
  have HE0 := Lib.hid (Blk.new w 46 #[.int .i64 0])
  go_enter_defers Tryd.func34, Tryd.ntmps34
  go_wp2_with (first
    | (go_at_call 42; refine (size_m HS0.out HN.out HM.out).mono ?_; rintro e w1 ⟨rfl, rfl⟩)
    | (go_at_call 64; refine (HCL.out _ HB0.out).mono ?_; rintro e w2 ⟨rfl, hs, hx, hf⟩; have S2 := Lib.hid hs; have X2 := Lib.hid hx; have F2 := Lib.hid ((Fr.of_below HB0.out : Fr Sb w _).trans hf); have E2 := Lib.hid (show Blk w2 w.heap.size _ _ from (hf.block _ HE0.out.lt (fun hm => by have := HSB.out _ hm; omega)).trans HE0.out); clear hs hx hf; have hc9 : w2.cell? ⟨w.heap.size, 0, none⟩ = some (.int .i64 0) := E2.out.one; have hz9 : w2.frozen? ⟨w.heap.size, 0, none⟩ = false := E2.out.frozen 0))
  have E3 := set_same E2.out (.int .i64 0)
  refine leaves_cons (f := 69) (args := #[.pointer (some ⟨w.heap.size, 0, none⟩)]) (by simp) (by simp [go_sem]) ?_
  refine (jidle ⟨w.heap.size, 0, none⟩ _).mono ?_
  rintro e u' w'' ⟨rfl, rfl, rfl⟩
  have hl2 := load_err 0 E3
  change Leaves _ _ _ _ [] FrameMode.returning _
  exact ⟨_, res_1 rfl _ _ w.heap.size _ rfl hl2, rfl, ⟨S2.out.keep fun k hk => Below.heap_setCell _ _ _ _ (fun e => by have h1 := HLT.out k hk; have h2 : k = w.heap.size := e; omega), HXX.out _ _ X2.out, F2.out.setCell (fun hh => absurd hh (Nat.lt_irrefl _)) _⟩⟩
end
end Go.Proofs.YtljfddeolapeaaaDoor

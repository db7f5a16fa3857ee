/- codec: PutKey's own, GetKey's own closures. -/
import Derived.Test.YtfclkkbmgclfgaaDoorCL
import Derived.Test.YtfclkkbmgclfgaaDoorORchk
import Derived.Recover
import Derived.Defers
import Derived.Test.YtfclkkbmgclfgaaDoorZQ
namespace Go.Proofs.YtfclkkbmgclfgaaDoor
open Go.RowKit
theorem fr_below {S : Nat → Prop} {B : Nat} {a b : World} (h : Fr S a b) (hB : B ≤ a.heap.size) (hk : ∀ j, j < B → S j → b.heap[j]? = a.heap[j]?) : Below B a b :=
  ⟨h.os, h.tape, h.output, h.size, fun j hj => by
    by_cases hs : S j
    · exact hk j hj hs
    · exact h.block j (Nat.lt_of_lt_of_le hj hB) hs⟩
set_option maxRecDepth 8000 in
theorem WrAt.new (w : World) (t : TypeId) (n : Nat) : WrAt ((w.alloc (.cells (bv (List.replicate n 0)).toArray t)).alloc (.cells #[.slice (some ⟨w.heap.size, 0, none⟩) n n] 58)) (w.heap.size + 1) w.heap.size t n [] := by
  refine ⟨⟨some ⟨w.heap.size, 0, none⟩, ?_, fun _ => rfl⟩, Nat.zero_le _, ?_, by omega⟩
  · have := Blk.new (w.alloc (.cells (bv (List.replicate n 0)).toArray t)) 58 #[.slice (some ⟨w.heap.size, 0, none⟩) n n]
    simpa using this
  · exact (Blk.new w t _).alloc _
set_option maxRecDepth 8000 in
theorem WrAt.own {w : World} {g B n base : Nat} {t : TypeId} {d : List UInt8} (h : WrAt w g B t n d) (hl : d.length = n) (hn : n ≤ maxLen) (hb : base ≤ B) : w.ownsRow base t 1 (.slice (some ⟨B, 0, none⟩) n n) n (bv d) := by
  have hk := h.blk
  rw [show n - d.length = 0 by omega, List.replicate_zero, List.append_nil] at hk
  exact ⟨by rw [bv_length]; omega, .inr ⟨B, n, _, rfl, hb, hk, Nat.le_refl _, hn, by simp [bv_length, hl], by simp [bv_length, hl, List.take_of_length_le]⟩⟩
set_option maxRecDepth 8000 in
theorem must_ok (e : Int) (w : World) : Calls Tryd.prog 12 #[.int .i64 0, .int .i64 e] w fun e' w' => e' = .returned (.tuple #[]) ∧ w = w' := by
  go_enter Tryd.func12, Tryd.ntmps12
  go_wp2
  go_end0
  exact ⟨rfl, rfl⟩
set_option maxRecDepth 8000 in
theorem must_no (a e : Int) (ha : a ≠ 0) (w : World) : Calls Tryd.prog 12 #[.int .i64 a, .int .i64 e] w fun e' w' => e' = .panicked (erc e) ∧ w = w' := by
  have d : (a != 0) = true := by simpa using ha
  go_enter Tryd.func12, Tryd.ntmps12
  go_wp2
  exact ⟨rfl, rfl, rfl⟩
set_option maxRecDepth 8000 in
theorem fit_of {x : Ky} (h : x.ok) (h0 : -9223372036854775808 ≤ x.v) (h1 : x.v ≤ 9223372036854775807) : x.fit := by
  obtain ⟨n, hk, hn, o0, o1, c0, c1, l0, l1, r0, r1, hv⟩ := h
  have a1 : kOid n ≤ 63 := by unfold kOid; split <;> omega
  have a2 : kCnt n ≤ 4294967295 := by unfold kCnt; split <;> omega
  have a3 : kCall n ≤ 4294967295 := by unfold kCall; split <;> omega
  have a4 : kRts n ≤ 7 := by unfold kRts; split <;> (try split) <;> omega
  exact ⟨by omega, by omega, by omega, by omega, by omega, ⟨h0, h1⟩⟩
set_option maxRecDepth 8000 in
theorem putkey1_no (K : Nat) (x : Ky) (w : World) (hT : Tab w) (hK : Blk w K 26 (kl x).toArray) (h : ¬ x.ok) :
    Calls Tryd.prog 11 #[.pointer (some ⟨K, 0, none⟩)] w fun e w' => e = .panicked (erc 2) ∧ Below w.heap.size w w' := by
  have HT := Lib.hid hT
  have HK := Lib.hid hK
  have HC := Lib.hid (x.chk_no h)
  obtain ⟨c0, c1, c2, c3, c4, c5⟩ := Blk.six (w := w) (g := K) (t := 26) hK
  clear hT hK h
  go_enter Tryd.func11, Tryd.ntmps11
  go_wp2_with (first
    | (go_at_call 13; refine (kchk_any x _ HT.out).mono ?_; rw [HC.out]; rintro e w1 ⟨rfl, hb⟩; have B1 := Lib.hid hb; clear hb)
    | (go_at_call 12; refine (must_no 2 2 (by decide) _).mono ?_; rintro e w2 ⟨rfl, rfl⟩))
  exact ⟨rfl, rfl, B1.out⟩
set_option maxRecDepth 8000 in
set_option maxHeartbeats 400000 in
theorem putkey1_yes (K : Nat) (x : Ky) (w : World) (hT : Tab w) (hK : Blk w K 26 (kl x).toArray) (h : x.ok) (hf : x.fit) :
    Calls Tryd.prog 11 #[.pointer (some ⟨K, 0, none⟩)] w fun e w' => ∃ u, e = .returned u ∧ w'.ownsRow w.heap.size 5 1 u 20 (bv (kbs x)) ∧ Below w.heap.size w w' := by
  have HT := Lib.hid hT
  have HK := Lib.hid hK
  have HC := Lib.hid (x.chk_yes h)
  have HF := Lib.hid hf
  obtain ⟨Z, hZ⟩ : ∃ Z : List UInt8, Z = List.replicate 20 0 := ⟨_, rfl⟩
  have hmk : ∀ W, (Instr.makeSlice 31 (.int .i64 20) (.int .i64 20)).run Tryd.prog W = .ok (.slice (some ⟨W.heap.size, 0, none⟩) 20 20) (W.alloc (.cells (bv Z).toArray 5)) := by rw [hZ]; exact run_mk0 20 (by omega)
  have HW := Lib.hid (show ∀ W : World, WrAt ((W.alloc (.cells (bv Z).toArray 5)).alloc (.cells #[.slice (some ⟨W.heap.size, 0, none⟩) 20 20] 58)) (W.heap.size + 1) W.heap.size 5 20 [] from hZ ▸ fun W => WrAt.new W 5 20)
  clear hZ
  obtain ⟨c0, c1, c2, c3, c4, c5⟩ := Blk.six (w := w) (g := K) (t := 26) hK
  clear hT hK h hf
  go_enter Tryd.func11, Tryd.ntmps11
  go_wp2_with (first
    | (go_at_call 13; refine (kchk_any x _ HT.out).mono ?_; rw [HC.out]; rintro e w1 ⟨rfl, hb⟩; have B1 := Lib.hid hb; have K1 := Lib.hid (Blk.keep HK.out hb); clear hb c0 c1 c2 c3 c4 c5)
    | (go_at_call 12; refine (must_ok 2 _).mono ?_; rintro e w2 ⟨rfl, rfl⟩)
    | (go_at_call 14; have hkl := Blk.lt K1.out; refine (passKey_w (w1.heap.size + 1) w1.heap.size K 0 5 26 20 [] x HF.out [] [] _ (HW.out w1) rfl ((K1.out.alloc _).alloc _) (by decide) (by omega) (by omega)).mono ?_; rintro e w3 ⟨rfl, h1, h2, h3⟩; have W3 := Lib.hid h1; have K3 := Lib.hid h2; have F3 := Lib.hid h3; clear h1 h2 h3))
  go_ret
  have hb := B1.out
  have hkl := K1.out.lt
  refine ⟨_, rfl, WrAt.own W3.out (kbs_length x) (by simp only [maxLen]; omega) hb.size, hb.trans ?_⟩
  have hf := ((Fr.refl (fun j => j = w1.heap.size + 1 ∨ j = w1.heap.size ∨ j = K) w1).alloc (.cells (bv Z).toArray 5)).alloc (.cells #[.slice (some ⟨w1.heap.size, 0, none⟩) 20 20] 58)
  refine (fr_below (hf.trans F3.out) hb.size fun j hj hs => ?_)
  obtain rfl : j = K := by have := hb.size; omega
  exact K3.out.trans K1.out.symm
end Go.Proofs.YtfclkkbmgclfgaaDoor
namespace Go.Proofs.YtfclkkbmgclfgaaDoor
open Go.RowKit
set_option maxRecDepth 8000 in
theorem catch_b (p : Addr) (x n : Int) (older : List PanicEntry) (w : World) (hc : w.cell? p = some (.int .i64 x)) (hz : w.frozen? p = false) :
    CallsD Tryd.prog 25 #[.pointer (some p)] (.panicking ({ v := .iface 38 (.int .i64 n), recovered := false } :: older)) w fun e u' w' =>
      e = .returned (.tuple #[]) ∧ u' = .panicking ({ v := .iface 38 (.int .i64 n), recovered := true } :: older) ∧ w' = w.setCell p (.int .i64 n) := by
  refine callsD_of_wpS Tryd.func25 rfl fun c₀ cs hu => ?_
  apply wpS_seq
  apply wpS_region
  simp [wpOpsS, go_sem, recoverD, hu, Tryd.ntmps25, Exit.thenS]
  apply wpS_seq
  apply wpS_region
  have hne : ∀ w, (binOp .neq 20 (.iface 38 (.int .i64 n)) .nilIface).run Tryd.prog w = .ok (.bool true) w := fun _ => by kernel_rfl
  simp [wpOpsS, go_sem, hne, Exit.thenS]
  refine wpS_cond (t := true) (by simp [Act.eval, Array.replicate]) ?_
  simp only [if_true]
  apply wpS_region
  have hta : ∀ w, (Instr.typeAssert (.iface 38 (.int .i64 n)) 20 38 false).run Tryd.prog w = .ok (.int .i64 n) w := fun _ => by kernel_rfl
  simp [wpOpsS, go_sem, hta, hc, hz, bodyPostS, results, Tryd.results25]
set_option maxRecDepth 8000 in
theorem idle_b (p : Addr) (w : World) :
    CallsD Tryd.prog 25 #[.pointer (some p)] .returning w fun e u' w' => e = .returned (.tuple #[]) ∧ u' = .returning ∧ w' = w := by
  refine callsD_of_wpS Tryd.func25 rfl fun c₀ cs hu => ?_
  apply wpS_seq
  apply wpS_region
  simp [wpOpsS, go_sem, recoverD, hu, Tryd.ntmps25, Exit.thenS]
  apply wpS_seq
  apply wpS_region
  have hne : ∀ w, (binOp .neq 20 .nilIface .nilIface).run Tryd.prog w = .ok (.bool false) w := fun _ => by kernel_rfl
  simp [wpOpsS, go_sem, hne, Exit.thenS]
  refine wpS_cond (t := false) (by simp [Act.eval, Array.replicate]) ?_
  simp only [Bool.false_eq_true, if_false]
  refine wpS_of_wp (wp_skip ?_)
  cases c₀
  simp_all [bodyPostS, results, Tryd.results25]
set_option maxRecDepth 8000 in
theorem catch_k (p : Addr) (x n : Int) (older : List PanicEntry) (w : World) (hc : w.cell? p = some (.int .i64 x)) (hz : w.frozen? p = false) :
    CallsD Tryd.prog 30 #[.pointer (some p)] (.panicking ({ v := .iface 38 (.int .i64 n), recovered := false } :: older)) w fun e u' w' =>
      e = .returned (.tuple #[]) ∧ u' = .panicking ({ v := .iface 38 (.int .i64 n), recovered := true } :: older) ∧ w' = w.setCell p (.int .i64 n) := by
  refine callsD_of_wpS Tryd.func30 rfl fun c₀ cs hu => ?_
  apply wpS_seq
  apply wpS_region
  simp [wpOpsS, go_sem, recoverD, hu, Tryd.ntmps30, Exit.thenS]
  apply wpS_seq
  apply wpS_region
  have hne : ∀ w, (binOp .neq 20 (.iface 38 (.int .i64 n)) .nilIface).run Tryd.prog w = .ok (.bool true) w := fun _ => by kernel_rfl
  simp [wpOpsS, go_sem, hne, Exit.thenS]
  refine wpS_cond (t := true) (by simp [Act.eval, Array.replicate]) ?_
  simp only [if_true]
  apply wpS_region
  have hta : ∀ w, (Instr.typeAssert (.iface 38 (.int .i64 n)) 20 38 false).run Tryd.prog w = .ok (.int .i64 n) w := fun _ => by kernel_rfl
  simp [wpOpsS, go_sem, hta, hc, hz, bodyPostS, results, Tryd.results30]
set_option maxRecDepth 8000 in
theorem idle_k (p : Addr) (w : World) :
    CallsD Tryd.prog 30 #[.pointer (some p)] .returning w fun e u' w' => e = .returned (.tuple #[]) ∧ u' = .returning ∧ w' = w := by
  refine callsD_of_wpS Tryd.func30 rfl fun c₀ cs hu => ?_
  apply wpS_seq
  apply wpS_region
  simp [wpOpsS, go_sem, recoverD, hu, Tryd.ntmps30, Exit.thenS]
  apply wpS_seq
  apply wpS_region
  have hne : ∀ w, (binOp .neq 20 .nilIface .nilIface).run Tryd.prog w = .ok (.bool false) w := fun _ => by kernel_rfl
  simp [wpOpsS, go_sem, hne, Exit.thenS]
  refine wpS_cond (t := false) (by simp [Act.eval, Array.replicate]) ?_
  simp only [Bool.false_eq_true, if_false]
  refine wpS_of_wp (wp_skip ?_)
  cases c₀
  simp_all [bodyPostS, results, Tryd.results30]
set_option maxRecDepth 8000 in
theorem catch_s (p : Addr) (x n : Int) (older : List PanicEntry) (w : World) (hc : w.cell? p = some (.int .i64 x)) (hz : w.frozen? p = false) :
    CallsD Tryd.prog 31 #[.pointer (some p)] (.panicking ({ v := .iface 38 (.int .i64 n), recovered := false } :: older)) w fun e u' w' =>
      e = .returned (.tuple #[]) ∧ u' = .panicking ({ v := .iface 38 (.int .i64 n), recovered := true } :: older) ∧ w' = w.setCell p (.int .i64 n) := by
  refine callsD_of_wpS Tryd.func31 rfl fun c₀ cs hu => ?_
  apply wpS_seq
  apply wpS_region
  simp [wpOpsS, go_sem, recoverD, hu, Tryd.ntmps31, Exit.thenS]
  apply wpS_seq
  apply wpS_region
  have hne : ∀ w, (binOp .neq 20 (.iface 38 (.int .i64 n)) .nilIface).run Tryd.prog w = .ok (.bool true) w := fun _ => by kernel_rfl
  simp [wpOpsS, go_sem, hne, Exit.thenS]
  refine wpS_cond (t := true) (by simp [Act.eval, Array.replicate]) ?_
  simp only [if_true]
  apply wpS_region
  have hta : ∀ w, (Instr.typeAssert (.iface 38 (.int .i64 n)) 20 38 false).run Tryd.prog w = .ok (.int .i64 n) w := fun _ => by kernel_rfl
  simp [wpOpsS, go_sem, hta, hc, hz, bodyPostS, results, Tryd.results31]
set_option maxRecDepth 8000 in
theorem idle_s (p : Addr) (w : World) :
    CallsD Tryd.prog 31 #[.pointer (some p)] .returning w fun e u' w' => e = .returned (.tuple #[]) ∧ u' = .returning ∧ w' = w := by
  refine callsD_of_wpS Tryd.func31 rfl fun c₀ cs hu => ?_
  apply wpS_seq
  apply wpS_region
  simp [wpOpsS, go_sem, recoverD, hu, Tryd.ntmps31, Exit.thenS]
  apply wpS_seq
  apply wpS_region
  have hne : ∀ w, (binOp .neq 20 .nilIface .nilIface).run Tryd.prog w = .ok (.bool false) w := fun _ => by kernel_rfl
  simp [wpOpsS, go_sem, hne, Exit.thenS]
  refine wpS_cond (t := false) (by simp [Act.eval, Array.replicate]) ?_
  simp only [Bool.false_eq_true, if_false]
  refine wpS_of_wp (wp_skip ?_)
  cases c₀
  simp_all [bodyPostS, results, Tryd.results31]
set_option maxRecDepth 8000 in
theorem catch_o (p : Addr) (x n : Int) (older : List PanicEntry) (w : World) (hc : w.cell? p = some (.int .i64 x)) (hz : w.frozen? p = false) :
    CallsD Tryd.prog 39 #[.pointer (some p)] (.panicking ({ v := .iface 38 (.int .i64 n), recovered := false } :: older)) w fun e u' w' =>
      e = .returned (.tuple #[]) ∧ u' = .panicking ({ v := .iface 38 (.int .i64 n), recovered := true } :: older) ∧ w' = w.setCell p (.int .i64 n) := by
  refine callsD_of_wpS Tryd.func39 rfl fun c₀ cs hu => ?_
  apply wpS_seq
  apply wpS_region
  simp [wpOpsS, go_sem, recoverD, hu, Tryd.ntmps39, Exit.thenS]
  apply wpS_seq
  apply wpS_region
  have hne : ∀ w, (binOp .neq 20 (.iface 38 (.int .i64 n)) .nilIface).run Tryd.prog w = .ok (.bool true) w := fun _ => by kernel_rfl
  simp [wpOpsS, go_sem, hne, Exit.thenS]
  refine wpS_cond (t := true) (by simp [Act.eval, Array.replicate]) ?_
  simp only [if_true]
  apply wpS_region
  have hta : ∀ w, (Instr.typeAssert (.iface 38 (.int .i64 n)) 20 38 false).run Tryd.prog w = .ok (.int .i64 n) w := fun _ => by kernel_rfl
  simp [wpOpsS, go_sem, hta, hc, hz, bodyPostS, results, Tryd.results39]
set_option maxRecDepth 8000 in
theorem idle_o (p : Addr) (w : World) :
    CallsD Tryd.prog 39 #[.pointer (some p)] .returning w fun e u' w' => e = .returned (.tuple #[]) ∧ u' = .returning ∧ w' = w := by
  refine callsD_of_wpS Tryd.func39 rfl fun c₀ cs hu => ?_
  apply wpS_seq
  apply wpS_region
  simp [wpOpsS, go_sem, recoverD, hu, Tryd.ntmps39, Exit.thenS]
  apply wpS_seq
  apply wpS_region
  have hne : ∀ w, (binOp .neq 20 .nilIface .nilIface).run Tryd.prog w = .ok (.bool false) w := fun _ => by kernel_rfl
  simp [wpOpsS, go_sem, hne, Exit.thenS]
  refine wpS_cond (t := false) (by simp [Act.eval, Array.replicate]) ?_
  simp only [Bool.false_eq_true, if_false]
  refine wpS_of_wp (wp_skip ?_)
  cases c₀
  simp_all [bodyPostS, results, Tryd.results39]
end Go.Proofs.YtfclkkbmgclfgaaDoor
namespace Go.Proofs.YtfclkkbmgclfgaaDoor
open Go.RowKit
theorem below_same {w : World} {g i : Nat} {t : TypeId} {cs : Array Value} {v : Value} (h : Blk w g t cs) (h2 : Blk (w.setCell ⟨g, i, none⟩ v) g t cs) : Below w.heap.size w (w.setCell ⟨g, i, none⟩ v) :=
  fr_below ((Fr.refl (fun j => j = g) w).setCell (p := ⟨g, i, none⟩) (fun _ => rfl) v) (Nat.le_refl _) (fun j _ hs => by subst hs; exact h2.trans h.symm)
abbrev pkf (K : Nat) : Value := .func (.func 11) #[] #[.pointer (some ⟨K, 0, none⟩)]
set_option maxRecDepth 8000 in
set_option maxHeartbeats 400000 in
theorem facedb_no (K : Nat) (x : Ky) (w : World) (hT : Tab w) (hK : Blk w K 26 (kl x).toArray) (h : ¬ x.ok) :
    Calls Tryd.prog 10 #[pkf K] w fun e w' => e = .returned (.tuple #[.slice none 0 0, .int .i64 2]) ∧ Below w.heap.size w w' := by
  have hmf : ∀ (fn : Fn) (first cap : Array Value) (w : World), (Instr.makeFunc fn first cap).run Tryd.prog w = .ok (.func fn first cap) w := fun _ _ _ _ => rfl
  have HT := Lib.hid (hT.alloc (.cells #[.int .i64 0] 38))
  have HK := Lib.hid (Blk.alloc hK (.cells #[.int .i64 0] 38))
  have HE := Lib.hid (Blk.new w 38 #[.int .i64 0])
  have HB := Lib.hid ((Below.refl w.heap.size w).alloc (Nat.le_refl _) (.cells #[.int .i64 0] 38))
  have HX := Lib.hid h
  clear hT hK h
  go_enter_defers Tryd.func10, Tryd.ntmps10
  go_wp2_with (go_at_call 11; refine (putkey1_no K x _ HT.out HK.out HX.out).mono ?_; rintro e w1 ⟨rfl, hb⟩; have E1 := Lib.hid (Blk.keep HE.out hb); have B1 := Lib.hid (HB.out.trans (hb.mono (by simp))); clear hb)
  have hc : w1.cell? ⟨w.heap.size, 0, none⟩ = some (.int .i64 0) := by simpa using Blk.cell E1.out 0
  have hz := Blk.frozen E1.out 0
  refine leaves_cons (f := 25) (args := #[.pointer (some ⟨w.heap.size, 0, none⟩)]) (by simp) (by simp [go_sem]) ?_
  refine (catch_b ⟨w.heap.size, 0, none⟩ 0 2 [] _ hc hz).mono ?_
  rintro e u' w'' ⟨rfl, rfl, rfl⟩
  have hc2 : (w1.setCell ⟨w.heap.size, 0, none⟩ (.int .i64 2)).cell? ⟨w.heap.size, 0, none⟩ = some (.int .i64 2) := by simpa using Blk.cell (Blk.set_ E1.out 0 (.int .i64 2)) 0
  simp [Leaves, settle, results, Tryd.results10, go_sem, hc2]
  exact B1.out.setCell (Nat.le_refl _) _
set_option maxRecDepth 8000 in
set_option maxHeartbeats 400000 in
theorem facedb_yes (K : Nat) (x : Ky) (w : World) (hT : Tab w) (hK : Blk w K 26 (kl x).toArray) (h : x.ok) (hf : x.fit) :
    Calls Tryd.prog 10 #[pkf K] w fun e w' => ∃ u, e = .returned (.tuple #[u, .int .i64 0]) ∧ w'.ownsRow w.heap.size 5 1 u 20 (bv (kbs x)) ∧ Below w.heap.size w w' := by
  have hmf : ∀ (fn : Fn) (first cap : Array Value) (w : World), (Instr.makeFunc fn first cap).run Tryd.prog w = .ok (.func fn first cap) w := fun _ _ _ _ => rfl
  have HT := Lib.hid (hT.alloc (.cells #[.int .i64 0] 38))
  have HK := Lib.hid (Blk.alloc hK (.cells #[.int .i64 0] 38))
  have HE := Lib.hid (Blk.new w 38 #[.int .i64 0])
  have HB := Lib.hid ((Below.refl w.heap.size w).alloc (Nat.le_refl _) (.cells #[.int .i64 0] 38))
  have HX := Lib.hid (And.intro h hf)
  clear hT hK h hf
  go_enter_defers Tryd.func10, Tryd.ntmps10
  go_wp2_with (go_at_call 11; refine (putkey1_yes K x _ HT.out HK.out HX.out.1 HX.out.2).mono ?_; rintro e w1 ⟨u, rfl, ho, hb⟩; have O1 := Lib.hid ho; have E1 := Lib.hid (Blk.keep HE.out hb); have B1 := Lib.hid (HB.out.trans (hb.mono (by simp))); have hc : w1.cell? ⟨w.heap.size, 0, none⟩ = some (.int .i64 0) := (by simpa using Blk.cell E1.out 0); have hz := Blk.frozen E1.out 0; clear hb ho)
  have E2 := Blk.set_ E1.out 0 (.int .i64 0)
  rw [set_same (by rfl)] at E2
  have hc2 : (w1.setCell ⟨w.heap.size, 0, none⟩ (.int .i64 0)).cell? ⟨w.heap.size, 0, none⟩ = some (.int .i64 0) := by simpa using Blk.cell E2 0
  refine leaves_cons (f := 25) (args := #[.pointer (some ⟨w.heap.size, 0, none⟩)]) (by simp) (by simp [go_sem]) ?_
  refine (idle_b ⟨w.heap.size, 0, none⟩ _).mono ?_
  rintro e u' w'' ⟨rfl, rfl, rfl⟩
  simp [Leaves, settle, results, Tryd.results10, go_sem, hc2]
  exact ⟨own_base (own_below O1.out (below_same E1.out E2)) (by simp), B1.out.setCell (Nat.le_refl _) _⟩
set_option maxRecDepth 8000 in
set_option maxHeartbeats 400000 in
theorem putkey_no (x : Ky) (w : World) (hT : Tab w) (h : ¬ x.ok) :
    Calls Tryd.prog 5 #[x.val] w fun e w' => e = .returned (.tuple #[.slice none 0 0, .int .i64 2]) ∧ Below w.heap.size w w' := by
  have hmf : ∀ (fn : Fn) (first cap : Array Value) (w : World), (Instr.makeFunc fn first cap).run Tryd.prog w = .ok (.func fn first cap) w := fun _ _ _ _ => rfl
  have HT := Lib.hid (hT.alloc (.cells (kl x).toArray 26))
  have HK := Lib.hid (Blk.new w 26 (kl x).toArray)
  have HB := Lib.hid ((Below.refl w.heap.size w).alloc (Nat.le_refl _) (.cells (kl x).toArray 26))
  have HX := Lib.hid h
  clear hT h
  go_enter Tryd.func5, Tryd.ntmps5
  go_wp2_with (go_at_call 10; refine (facedb_no w.heap.size x _ HT.out HK.out HX.out).mono ?_; rintro e w1 ⟨rfl, hb⟩; have B1 := Lib.hid (HB.out.trans (hb.mono HB.out.size)); clear hb)
  go_ret2
  exact ⟨rfl, B1.out⟩
set_option maxRecDepth 8000 in
set_option maxHeartbeats 400000 in
theorem putkey_yes (x : Ky) (w : World) (hT : Tab w) (h : x.ok) (hf : x.fit) :
    Calls Tryd.prog 5 #[x.val] w fun e w' => ∃ u, e = .returned (.tuple #[u, .int .i64 0]) ∧ w'.ownsRow w.heap.size 5 1 u 20 (bv (kbs x)) ∧ Below w.heap.size w w' := by
  have hmf : ∀ (fn : Fn) (first cap : Array Value) (w : World), (Instr.makeFunc fn first cap).run Tryd.prog w = .ok (.func fn first cap) w := fun _ _ _ _ => rfl
  have HT := Lib.hid (hT.alloc (.cells (kl x).toArray 26))
  have HK := Lib.hid (Blk.new w 26 (kl x).toArray)
  have HB := Lib.hid ((Below.refl w.heap.size w).alloc (Nat.le_refl _) (.cells (kl x).toArray 26))
  have HX := Lib.hid (And.intro h hf)
  clear hT h hf
  go_enter Tryd.func5, Tryd.ntmps5
  go_wp2_with (go_at_call 10; refine (facedb_yes w.heap.size x _ HT.out HK.out HX.out.1 HX.out.2).mono ?_; rintro e w1 ⟨u, rfl, ho, hb⟩; have O1 := Lib.hid ho; have B1 := Lib.hid (HB.out.trans (hb.mono HB.out.size)); clear hb ho)
  go_ret2
  exact ⟨_, rfl, own_base O1.out (by simp), B1.out⟩
end Go.Proofs.YtfclkkbmgclfgaaDoor

/- spaces: Store, of any outcome. -/
import Derived.Test.YtjolojomgfcfbaaDoorWLo
import Derived.Test.YtjolojomgfcfbaaDoorR25
import Derived.StillTailTactics
namespace Go.Proofs.YtjolojomgfcfbaaDoor
open Go.RowKit
section
variable {w : World} {g base q : Nat} {A : Option Addr} {cap : Nat} {ps : List Nat} {os : List Oj}
set_option maxRecDepth 100000 in
set_option maxHeartbeats 4000000 in
theorem cloStore_cross {ad : Int} {s : Ws} {y : Ky} {n1 n2 : Nat} {a : Nat} (ha : a ≤ 64) (H : WkS w g base q A cap ps os ad s y (a : Int)) (t : List UInt8) (h1 : Blk w n1 9 #[.string (st t)]) (hn : 64 < (a : Int) + (t.length : Int)) :
    Calls Tryd.prog 13 #[.pointer (some ⟨g, 0, none⟩), .pointer (some ⟨n1, 0, none⟩), .pointer (some ⟨n2, 0, none⟩)] w fun e w' => e = .panicked (faP ⟨5, s.kp, ad⟩) ∧ Below w.heap.size w w' := by
  have HS := Lib.hid H
  have HA := Lib.hid ha
  have HN := Lib.hid hn
  have HI := Lib.hid h1
  have i0 : w.cell? ⟨n1, 0, none⟩ = some (.string (st t)) := h1.cell 0
  have hsz := st_size t
  clear H ha hn h1
  go_enter Tryd.func13, Tryd.ntmps13
  go_wp2_with (first
    | (go_at_call 14; refine (hold_no HA.out HS.out (t.length : Int) (by have := HN.out; omega)).mono ?_; rintro e w1 ⟨rfl, b_⟩; have HB := Lib.hid b_; clear b_))
  exact ⟨rfl, rfl, HB.out⟩
set_option maxRecDepth 100000 in
set_option maxHeartbeats 4000000 in
theorem cloStore_right {ad : Int} {s : Ws} {y : Ky} {n1 n2 : Nat} {a : Nat} (ha : a ≤ 64) (H : WkS w g base q A cap ps os ad s y (a : Int)) (t : List UInt8) (h1 : Blk w n1 9 #[.string (st t)]) (hr : y.r = 1) (hn : ¬ 64 < (a : Int) + (t.length : Int)) :
    Calls Tryd.prog 13 #[.pointer (some ⟨g, 0, none⟩), .pointer (some ⟨n1, 0, none⟩), .pointer (some ⟨n2, 0, none⟩)] w fun e w' => e = .panicked (faP ⟨6, s.kp, ad⟩) ∧ Below w.heap.size w w' := by
  have HS := Lib.hid H
  have HA := Lib.hid ha
  have HN := Lib.hid hn
  have HI := Lib.hid h1
  have i0 : w.cell? ⟨n1, 0, none⟩ = some (.string (st t)) := h1.cell 0
  have hsz := st_size t
  have HR := Lib.hid hr
  clear H ha hn h1 hr
  go_enter Tryd.func13, Tryd.ntmps13
  go_wp2_with (first
    | (go_at_call 14; refine (hold_yes HA.out HS.out (t.length : Int) (by have := HN.out; omega)).mono ?_; rintro e w1 ⟨rfl, b_⟩; have HW1 := Lib.hid b_; have HS1 := Lib.hid (HS.out.below b_); have HI1 := Lib.hid (HI.out.keep b_); clear b_ i0)
    | (go_at_call 15; refine (open_fault HS1.out HR.out).mono ?_; rintro e w2 ⟨rfl, b_⟩; have HB := Lib.hid (HW1.out.trans (b_.mono HW1.out.size)); clear b_))
  exact ⟨rfl, rfl, HB.out⟩
set_option maxRecDepth 100000 in
set_option maxHeartbeats 4000000 in
theorem cloStore_yes {ad : Int} {s : Ws} {y : Ky} {n1 n2 : Nat} {a : Nat} (ha : a ≤ 64) (H : WkS w g base q A cap ps os ad s y (a : Int)) (t : List UInt8) (h1 : Blk w n1 9 #[.string (st t)]) (h2 : Blk w n2 35 #[pv q]) (hp : ∀ k, k ∈ ps → k ≠ n1 ∧ k ≠ n2 ∧ k ≠ g) (hr : y.r = 0) (hn : ¬ 64 < (a : Int) + (t.length : Int)) :
    Calls Tryd.prog 13 #[.pointer (some ⟨g, 0, none⟩), .pointer (some ⟨n1, 0, none⟩), .pointer (some ⟨n2, 0, none⟩)] w fun e w' => e = .returned (.tuple #[]) ∧ StAt w' base q A cap ps (wrA os y (a : Int) t).1 ∧ Fr (fun k => k ∈ ps) w w' := by
  have HS := Lib.hid H
  have HA := Lib.hid ha
  have HN := Lib.hid hn
  have HI := Lib.hid h1
  have i0 : w.cell? ⟨n1, 0, none⟩ = some (.string (st t)) := h1.cell 0
  have hsz := st_size t
  have HR := Lib.hid hr
  have HB := Lib.hid h2
  have HPQ := Lib.hid hp
  clear H ha hn h1 h2 hr hp
  go_enter Tryd.func13, Tryd.ntmps13
  go_wp2_with (first
    | (go_at_call 14; refine (hold_yes HA.out HS.out (t.length : Int) (by have := HN.out; omega)).mono ?_; rintro e w1 ⟨rfl, b_⟩; have HW1 := Lib.hid b_; have HS1 := Lib.hid (HS.out.below b_); have HI1 := Lib.hid (HI.out.keep b_); have HB1 := Lib.hid (HB.out.keep b_); clear b_ i0)
    | (go_at_call 15; refine (open_goes HS1.out HR.out).mono ?_; rintro e w2 ⟨rfl, b_⟩; have HW2 := Lib.hid (HW1.out.trans (b_.mono HW1.out.size)); have HS2 := Lib.hid (HS1.out.below b_); have HI2 := Lib.hid (HI1.out.keep b_); have HB2 := Lib.hid (HB1.out.keep b_); clear b_))
  refine wp_region_only (S := fun W => W.cell? ⟨n2, 0, none⟩ = some (pv q) ∧ KeyAt W g 11 y ∧ W.cell? ⟨g, 17, none⟩ = some (.int .i64 (a : Int)) ∧ W.cell? ⟨n1, 0, none⟩ = some (.string (st t))) (by kernel_rfl) ⟨(show Blk w2.drew n2 35 #[pv q] from HB2.out).cell 0, (HS2.out.drew).page, (HS2.out.drew).blk.cell 17, (show Blk w2.drew n1 9 #[.string (st t)] from HI2.out).cell 0⟩ (fun hHeld => ?_)
  refine wpAnyH_take (i := 0) rfl (by kernel_rfl) (by kernel_rfl) (by kernel_rfl) (fun _ _ _ h => h) (y_cell (by rfl) 35 (.tmp 2) (by rfl) n2 0 (by rfl) (pv q) (ld_ptr _ _ _) (fun _ h => h.1)) hHeld ?_
  try simp only [Act.put, List.getElem_toArray, List.getElem_cons_zero, List.setIfInBounds_toArray, List.set_cons_zero, List.set_cons_succ]
  refine wpAnyH_take (i := 1) (v := ?v1) rfl (by kernel_rfl) (by kernel_rfl) (by kernel_rfl) (fun _ _ _ h => h) (Or.inl ⟨by rfl, ?hy1⟩) hHeld ?rest1
  case hy1 =>
    intro w' hSw
    try dsimp only at hSw
    go_simp
    first | done | with_reducible rfl
  try simp only [Act.put, List.getElem_toArray, List.getElem_cons_succ, List.getElem_cons_zero, List.setIfInBounds_toArray, List.set_cons_zero, List.set_cons_succ]
  refine wpAnyH_take (i := 2) (v := ?v2) rfl (by kernel_rfl) (by kernel_rfl) (by kernel_rfl) (fun _ _ _ h => h) (Or.inl ⟨by rfl, ?hy2⟩) hHeld ?rest2
  case hy2 =>
    intro w' hSw
    try dsimp only at hSw
    go_simp
    first | done | with_reducible rfl
  try simp only [Act.put, List.getElem_toArray, List.getElem_cons_succ, List.getElem_cons_zero, List.setIfInBounds_toArray, List.set_cons_zero, List.set_cons_succ]
  refine wpAnyH_take (i := 3) (v := ?v3) rfl (by kernel_rfl) (by kernel_rfl) (by kernel_rfl) (fun _ _ _ h => h) (Or.inl ⟨by rfl, ?hy3⟩) hHeld ?rest3
  case hy3 =>
    intro w' hSw
    try dsimp only at hSw
    go_simp
    first | done | with_reducible rfl
  try simp only [Act.put, List.getElem_toArray, List.getElem_cons_succ, List.getElem_cons_zero, List.setIfInBounds_toArray, List.set_cons_zero, List.set_cons_succ]
  refine wpAnyH_take (i := 4) (v := ?v4) rfl (by kernel_rfl) (by kernel_rfl) (by kernel_rfl) (fun _ _ _ h => h) (Or.inl ⟨by rfl, ?hy4⟩) hHeld ?rest4
  case hy4 =>
    intro w' hSw
    try dsimp only at hSw
    go_simp
    first | done | with_reducible rfl
  try simp only [Act.put, List.getElem_toArray, List.getElem_cons_succ, List.getElem_cons_zero, List.setIfInBounds_toArray, List.set_cons_zero, List.set_cons_succ]
  refine wpAnyH_take (i := 5) rfl (by kernel_rfl) (by kernel_rfl) (by kernel_rfl) (fun _ _ _ h => h) (y_kyG (by rfl) (.tmp 14) (by rfl) g 11 (by rfl) y (fun _ h => h.2.1)) hHeld ?_
  try simp only [Act.put, List.getElem_toArray, List.getElem_cons_succ, List.getElem_cons_zero, List.setIfInBounds_toArray, List.set_cons_zero, List.set_cons_succ]
  refine wpAnyH_take (i := 6) (v := ?v5) rfl (by kernel_rfl) (by kernel_rfl) (by kernel_rfl) (fun _ _ _ h => h) (Or.inl ⟨by rfl, ?hy5⟩) hHeld ?rest5
  case hy5 =>
    intro w' hSw
    try dsimp only at hSw
    go_simp
    first | done | with_reducible rfl
  try simp only [Act.put, List.getElem_toArray, List.getElem_cons_succ, List.getElem_cons_zero, List.setIfInBounds_toArray, List.set_cons_zero, List.set_cons_succ]
  refine wpAnyH_take (i := 7) (v := ?v6) rfl (by kernel_rfl) (by kernel_rfl) (by kernel_rfl) (fun _ _ _ h => h) (Or.inl ⟨by rfl, ?hy6⟩) hHeld ?rest6
  case hy6 =>
    intro w' hSw
    try dsimp only at hSw
    go_simp
    first | done | with_reducible rfl
  try simp only [Act.put, List.getElem_toArray, List.getElem_cons_succ, List.getElem_cons_zero, List.setIfInBounds_toArray, List.set_cons_zero, List.set_cons_succ]
  refine wpAnyH_take (i := 8) (v := ?v7) rfl (by kernel_rfl) (by kernel_rfl) (by kernel_rfl) (fun _ _ _ h => h) (Or.inl ⟨by rfl, ?hy7⟩) hHeld ?rest7
  case hy7 =>
    intro w' hSw
    try dsimp only at hSw
    go_simp
    first | done | with_reducible rfl
  try simp only [Act.put, List.getElem_toArray, List.getElem_cons_succ, List.getElem_cons_zero, List.setIfInBounds_toArray, List.set_cons_zero, List.set_cons_succ]
  refine wpAnyH_take (i := 9) (v := ?v8) rfl (by kernel_rfl) (by kernel_rfl) (by kernel_rfl) (fun _ _ _ h => h) (Or.inl ⟨by rfl, ?hy8⟩) hHeld ?rest8
  case hy8 =>
    intro w' hSw
    try dsimp only at hSw
    go_simp
    first | done | with_reducible rfl
  try simp only [Act.put, List.getElem_toArray, List.getElem_cons_succ, List.getElem_cons_zero, List.setIfInBounds_toArray, List.set_cons_zero, List.set_cons_succ]
  refine wpAnyH_take (i := 10) rfl (by kernel_rfl) (by kernel_rfl) (by kernel_rfl) (fun _ _ _ h => h) (y_cell (by rfl) 3 (.tmp 19) (by rfl) g 17 (by rfl) (.int .i64 (a : Int)) (ld_in _ _ _) (fun _ h => h.2.2.1)) hHeld ?_
  try simp only [Act.put, List.getElem_toArray, List.getElem_cons_succ, List.getElem_cons_zero, List.setIfInBounds_toArray, List.set_cons_zero, List.set_cons_succ]
  refine wpAnyH_take (i := 11) rfl (by kernel_rfl) (by kernel_rfl) (by kernel_rfl) (fun _ _ _ h => h) (y_cell (by rfl) 9 (.tmp 1) (by rfl) n1 0 (by rfl) (.string (st t)) (ld_st _ _ _) (fun _ h => h.2.2.2)) hHeld ?_
  try simp only [Act.put, List.getElem_toArray, List.getElem_cons_succ, List.getElem_cons_zero, List.setIfInBounds_toArray, List.set_cons_zero, List.set_cons_succ]
  refine wpAnyH_ready (rs := [12]) (by kernel_rfl) (by simp) ?_
  refine AllReadyH.cons (by rfl) (fun K hK => ?_) AllReadyH.nil
  go_simp
  refine (write_all HS2.out.drew.st HS2.out.okl HS2.out.n HS2.out.drew.tab y (a : Int) (by have := HA.out; omega) t).mono ?_
  rintro e_ w3 ⟨rfl, st3, fr3⟩
  have HST3 := Lib.hid st3
  have HB3 := Lib.hid (show Blk w3 n2 35 #[pv q] from (fr3.block _ (Blk.lt (w := w2.drew) HB2.out) (fun hm => HPQ.out _ hm |>.2.1 rfl)).trans HB2.out)
  have HI3 := Lib.hid (show Blk w3 n1 9 #[.string (st t)] from (fr3.block _ (Blk.lt (w := w2.drew) HI2.out) (fun hm => HPQ.out _ hm |>.1 rfl)).trans HI2.out)
  have HG3 := Lib.hid (show Blk w3 g 55 (wkc q ad s.x s.left s.high s.r y a s.kp s.d) from (fr3.block _ (HS2.out.drew).blk.lt (fun hm => HPQ.out _ hm |>.2.2 rfl)).trans (HS2.out.drew).blk)
  have HFR3 := Lib.hid ((Fr.of_below HW2.out : Fr (fun k => k ∈ ps) w w2).trans (show Fr (fun k => k ∈ ps) w2 w3 from ⟨fr3.os, fr3.tape, fr3.output, fr3.size, fr3.block⟩))
  clear st3 fr3 hHeld
  go_wp2_with fail
  refine hK.out _ _ ⟨HB3.out.cell 0, ⟨HG3.out.cell 11, HG3.out.cell 12, HG3.out.cell 13, HG3.out.cell 14, HG3.out.cell 15, HG3.out.cell 16⟩, HG3.out.cell 17, HI3.out.cell 0⟩ (fun hHeld => ?_)
  clear hK K
  try simp only [Act.put, List.getElem_toArray, List.getElem_cons_succ, List.getElem_cons_zero, List.setIfInBounds_toArray, List.set_cons_zero, List.set_cons_succ]
  refine wpAnyH_done (by kernel_rfl) ?_ _
  refine OnlyN.normal ?_
  go_end0
  exact ⟨rfl, HST3.out, HFR3.out⟩
set_option maxRecDepth 100000 in
set_option maxHeartbeats 4000000 in
theorem sstore_e (x : Ky) (a m : Int) (t : List UInt8) (hm : m ≠ 0) (hrf : ∀ W, Below w.heap.size w W → Calls Tryd.prog 23 #[pv q, x.val, .int .i64 a, .int .i64 (t.length : Int)] W fun e w' => e = .returned (.int .i64 m) ∧ Below W.heap.size W w') :
    Calls Tryd.prog 7 #[pv q, x.val, .int .i64 a, .string (st t)] w fun e w' => e = .returned (.tuple #[(zfa : Fa).val, .int .i64 m]) ∧ Below w.heap.size w w' := by
  have hmf : ∀ (fn : Fn) (first cap : Array Value) (w : World), (Instr.makeFunc fn first cap).run Tryd.prog w = .ok (.func fn first cap) w := fun _ _ _ _ => rfl
  have hz7 := z35
  have hsz := st_size t
  have HB0 := Lib.hid (((((Below.refl w.heap.size w).alloc (Nat.le_refl _) (.cells #[pv q] 35)).alloc (by simp) (.cells (kc x.k x.o x.c x.l x.r x.v) 29)).alloc (by simp; omega) (.cells #[.string (st t)] 9)).alloc (by simp; omega) (.cells zfa.cells.toArray 41))
  have HP0 := Lib.hid ((((Blk.new w 35 #[pv q]).alloc (.cells (kc x.k x.o x.c x.l x.r x.v) 29)).alloc (.cells #[.string (st t)] 9)).alloc (.cells zfa.cells.toArray 41))
  have HK0 := Lib.hid (((Blk.new_of (w.alloc (.cells #[pv q] 35)) 29 (kc x.k x.o x.c x.l x.r x.v) (g := w.heap.size + 1) (by simp)).alloc (.cells #[.string (st t)] 9)).alloc (.cells zfa.cells.toArray 41))
  have HT0 := Lib.hid ((Blk.new_of ((w.alloc (.cells #[pv q] 35)).alloc (.cells (kc x.k x.o x.c x.l x.r x.v) 29)) 9 #[.string (st t)] (g := w.heap.size + 2) (by simp)).alloc (.cells zfa.cells.toArray 41))
  have HA0 := Lib.hid (Blk.new_of (((w.alloc (.cells #[pv q] 35)).alloc (.cells (kc x.k x.o x.c x.l x.r x.v) 29)).alloc (.cells #[.string (st t)] 9)) 41 zfa.cells.toArray (g := w.heap.size + 3) (by simp))
  have HSZ0 := Lib.hid (show ((((w.alloc (.cells #[pv q] 35)).alloc (.cells (kc x.k x.o x.c x.l x.r x.v) 29)).alloc (.cells #[.string (st t)] 9)).alloc (.cells zfa.cells.toArray 41)).heap.size = w.heap.size + 4 by simp)
  have t0 := HT0.out.cell 0
  obtain ⟨c0, c1, c2, c3, c4, c5⟩ := HK0.out.six
  have HM := Lib.hid hm
  have HR := Lib.hid hrf
  clear hm hrf
  go_enter Tryd.func7, Tryd.ntmps7
  go_wp2_with (first
    | (go_at_call 11; refine (facedStore_err (pv q) (w.heap.size + 2) w.heap.size x a (t.length : Int) m HM.out (fun W hW => HR.out W (HB0.out.trans (hW.mono HB0.out.size)))).mono ?_; rintro e w1 ⟨rfl, b1⟩; have HB1 := Lib.hid (HB0.out.trans (b1.mono HB0.out.size)); have HA1 := Lib.hid (HA0.out.keep b1); clear b1)
    | (show wpList _ _ _ ({ dst := none, op := .store _ (.tmp 8) (.tmp 17), type := _, pos := _, after := _, guard := _ } :: _) _ _; refine wpList_store_big (l0 := zfa.cells) HA1.out rfl (.tmp 8) (.tmp 17) (ty := 41) (l := Fa.cells zfa) rfl (by rfl) (by rfl) sizeFa rfl (Fa.one _) ?_))
  exact bodyPost_ret (res_1t rfl _ _ (w.heap.size + 3) _ _ rfl rfl (load_fa _ (HA1.out.setRow _))) rfl ⟨rfl, below_setRow HB1.out (by omega) _⟩
set_option maxRecDepth 100000 in
set_option maxHeartbeats 4000000 in
theorem sstore_fault (h : StAt w base q A cap ps os) (hn : 0 < os.length) (ho : okAll os.length os) (hT : Tab w) (x : Ky) (an : Nat) (ha : an ≤ 9223372036854775807) (t : List UInt8) (hra : refA os x (an : Int) (t.length : Int) = 0) {k : Int} {kp : Ky} (hO : goneW os x (an : Int) = .fault k kp) :
    Calls Tryd.prog 7 #[pv q, x.val, .int .i64 (an : Int), .string (st t)] w fun e w' => e = .returned (.tuple #[(⟨k, kp, (an : Int)⟩ : Fa).val, .int .i64 0]) ∧ Below w.heap.size w w' := by
  have hmf : ∀ (fn : Fn) (first cap : Array Value) (w : World), (Instr.makeFunc fn first cap).run Tryd.prog w = .ok (.func fn first cap) w := fun _ _ _ _ => rfl
  have hz7 := z35
  have hsz := st_size t
  have HB0 := Lib.hid (((((Below.refl w.heap.size w).alloc (Nat.le_refl _) (.cells #[pv q] 35)).alloc (by simp) (.cells (kc x.k x.o x.c x.l x.r x.v) 29)).alloc (by simp; omega) (.cells #[.string (st t)] 9)).alloc (by simp; omega) (.cells zfa.cells.toArray 41))
  have HP0 := Lib.hid ((((Blk.new w 35 #[pv q]).alloc (.cells (kc x.k x.o x.c x.l x.r x.v) 29)).alloc (.cells #[.string (st t)] 9)).alloc (.cells zfa.cells.toArray 41))
  have HK0 := Lib.hid (((Blk.new_of (w.alloc (.cells #[pv q] 35)) 29 (kc x.k x.o x.c x.l x.r x.v) (g := w.heap.size + 1) (by simp)).alloc (.cells #[.string (st t)] 9)).alloc (.cells zfa.cells.toArray 41))
  have HT0 := Lib.hid ((Blk.new_of ((w.alloc (.cells #[pv q] 35)).alloc (.cells (kc x.k x.o x.c x.l x.r x.v) 29)) 9 #[.string (st t)] (g := w.heap.size + 2) (by simp)).alloc (.cells zfa.cells.toArray 41))
  have HA0 := Lib.hid (Blk.new_of (((w.alloc (.cells #[pv q] 35)).alloc (.cells (kc x.k x.o x.c x.l x.r x.v) 29)).alloc (.cells #[.string (st t)] 9)) 41 zfa.cells.toArray (g := w.heap.size + 3) (by simp))
  have HSZ0 := Lib.hid (show ((((w.alloc (.cells #[pv q] 35)).alloc (.cells (kc x.k x.o x.c x.l x.r x.v) 29)).alloc (.cells #[.string (st t)] 9)).alloc (.cells zfa.cells.toArray 41)).heap.size = w.heap.size + 4 by simp)
  have t0 := HT0.out.cell 0
  obtain ⟨c0, c1, c2, c3, c4, c5⟩ := HK0.out.six
  have HST := Lib.hid h
  have HN := Lib.hid hn
  have HOK := Lib.hid ho
  have HTT := Lib.hid hT
  have HAN := Lib.hid ha
  have HRA := Lib.hid hra
  have HO := Lib.hid hO
  clear h hn ho hT ha hra hO
  go_enter Tryd.func7, Tryd.ntmps7
  go_wp2_with (first
    | (go_at_call 11; refine (facedStore_fault (w.heap.size + 2) w.heap.size (HST.out.below HB0.out) HN.out HOK.out (HTT.out.below HB0.out) x an HAN.out (t.length : Int) HRA.out HO.out).mono ?_; rintro e w1 ⟨rfl, b1⟩; have HB1 := Lib.hid (HB0.out.trans (b1.mono HB0.out.size)); have HA1 := Lib.hid (HA0.out.keep b1); clear b1)
    | (show wpList _ _ _ ({ dst := none, op := .store _ (.tmp 8) (.tmp 17), type := _, pos := _, after := _, guard := _ } :: _) _ _; refine wpList_store_big (l0 := zfa.cells) HA1.out rfl (.tmp 8) (.tmp 17) (ty := 41) (l := Fa.cells ⟨k, kp, (an : Int)⟩) rfl (by rfl) (by rfl) sizeFa rfl (Fa.one _) ?_))
  exact bodyPost_ret (res_1t rfl _ _ (w.heap.size + 3) _ _ rfl rfl (load_fa _ (HA1.out.setRow _))) rfl ⟨rfl, below_setRow HB1.out (by omega) _⟩
set_option maxRecDepth 100000 in
set_option maxHeartbeats 4000000 in
theorem sstore_cross (h : StAt w base q A cap ps os) (hn : 0 < os.length) (ho : okAll os.length os) (hT : Tab w) (x : Ky) (an : Nat) (ha : an ≤ 9223372036854775807) (t : List UInt8) (hra : refA os x (an : Int) (t.length : Int) = 0) {y : Ky} {a : Nat} (ha6 : a ≤ 64) {kp : Ky} {d : Nat} (hO : goneW os x (an : Int) = .found y a kp d) (hc : 64 < (a : Int) + (t.length : Int)) :
    Calls Tryd.prog 7 #[pv q, x.val, .int .i64 (an : Int), .string (st t)] w fun e w' => e = .returned (.tuple #[(⟨5, kp, (an : Int)⟩ : Fa).val, .int .i64 0]) ∧ Below w.heap.size w w' := by
  have hmf : ∀ (fn : Fn) (first cap : Array Value) (w : World), (Instr.makeFunc fn first cap).run Tryd.prog w = .ok (.func fn first cap) w := fun _ _ _ _ => rfl
  have hz7 := z35
  have hsz := st_size t
  have HB0 := Lib.hid (((((Below.refl w.heap.size w).alloc (Nat.le_refl _) (.cells #[pv q] 35)).alloc (by simp) (.cells (kc x.k x.o x.c x.l x.r x.v) 29)).alloc (by simp; omega) (.cells #[.string (st t)] 9)).alloc (by simp; omega) (.cells zfa.cells.toArray 41))
  have HP0 := Lib.hid ((((Blk.new w 35 #[pv q]).alloc (.cells (kc x.k x.o x.c x.l x.r x.v) 29)).alloc (.cells #[.string (st t)] 9)).alloc (.cells zfa.cells.toArray 41))
  have HK0 := Lib.hid (((Blk.new_of (w.alloc (.cells #[pv q] 35)) 29 (kc x.k x.o x.c x.l x.r x.v) (g := w.heap.size + 1) (by simp)).alloc (.cells #[.string (st t)] 9)).alloc (.cells zfa.cells.toArray 41))
  have HT0 := Lib.hid ((Blk.new_of ((w.alloc (.cells #[pv q] 35)).alloc (.cells (kc x.k x.o x.c x.l x.r x.v) 29)) 9 #[.string (st t)] (g := w.heap.size + 2) (by simp)).alloc (.cells zfa.cells.toArray 41))
  have HA0 := Lib.hid (Blk.new_of (((w.alloc (.cells #[pv q] 35)).alloc (.cells (kc x.k x.o x.c x.l x.r x.v) 29)).alloc (.cells #[.string (st t)] 9)) 41 zfa.cells.toArray (g := w.heap.size + 3) (by simp))
  have HSZ0 := Lib.hid (show ((((w.alloc (.cells #[pv q] 35)).alloc (.cells (kc x.k x.o x.c x.l x.r x.v) 29)).alloc (.cells #[.string (st t)] 9)).alloc (.cells zfa.cells.toArray 41)).heap.size = w.heap.size + 4 by simp)
  have t0 := HT0.out.cell 0
  obtain ⟨c0, c1, c2, c3, c4, c5⟩ := HK0.out.six
  have HST := Lib.hid h
  have HN := Lib.hid hn
  have HOK := Lib.hid ho
  have HTT := Lib.hid hT
  have HAN := Lib.hid ha
  have HRA := Lib.hid hra
  have HO := Lib.hid hO
  clear h hn ho hT ha hra hO
  have HA6 := Lib.hid ha6
  have HCR := Lib.hid hc
  clear ha6 hc
  go_enter Tryd.func7, Tryd.ntmps7
  go_wp2_with (first
    | (go_at_call 11; refine (facedStore_gave (w.heap.size + 2) w.heap.size (HST.out.below HB0.out) HN.out HOK.out (HTT.out.below HB0.out) x an HAN.out (t.length : Int) HRA.out HO.out (k := 5) (fun W g s hW hS hkp => by subst hkp; exact cloStore_cross HA6.out hS t (HT0.out.keep hW) HCR.out)).mono ?_; rintro e w1 ⟨rfl, b1⟩; have HB1 := Lib.hid (HB0.out.trans (b1.mono HB0.out.size)); have HA1 := Lib.hid (HA0.out.keep b1); clear b1)
    | (show wpList _ _ _ ({ dst := none, op := .store _ (.tmp 8) (.tmp 17), type := _, pos := _, after := _, guard := _ } :: _) _ _; refine wpList_store_big (l0 := zfa.cells) HA1.out rfl (.tmp 8) (.tmp 17) (ty := 41) (l := Fa.cells ⟨5, kp, (an : Int)⟩) rfl (by rfl) (by rfl) sizeFa rfl (Fa.one _) ?_))
  exact bodyPost_ret (res_1t rfl _ _ (w.heap.size + 3) _ _ rfl rfl (load_fa _ (HA1.out.setRow _))) rfl ⟨rfl, below_setRow HB1.out (by omega) _⟩
set_option maxRecDepth 100000 in
set_option maxHeartbeats 4000000 in
theorem sstore_right (h : StAt w base q A cap ps os) (hn : 0 < os.length) (ho : okAll os.length os) (hT : Tab w) (x : Ky) (an : Nat) (ha : an ≤ 9223372036854775807) (t : List UInt8) (hra : refA os x (an : Int) (t.length : Int) = 0) {y : Ky} {a : Nat} (ha6 : a ≤ 64) {kp : Ky} {d : Nat} (hO : goneW os x (an : Int) = .found y a kp d) (hr : y.r = 1) (hc : ¬ 64 < (a : Int) + (t.length : Int)) :
    Calls Tryd.prog 7 #[pv q, x.val, .int .i64 (an : Int), .string (st t)] w fun e w' => e = .returned (.tuple #[(⟨6, kp, (an : Int)⟩ : Fa).val, .int .i64 0]) ∧ Below w.heap.size w w' := by
  have hmf : ∀ (fn : Fn) (first cap : Array Value) (w : World), (Instr.makeFunc fn first cap).run Tryd.prog w = .ok (.func fn first cap) w := fun _ _ _ _ => rfl
  have hz7 := z35
  have hsz := st_size t
  have HB0 := Lib.hid (((((Below.refl w.heap.size w).alloc (Nat.le_refl _) (.cells #[pv q] 35)).alloc (by simp) (.cells (kc x.k x.o x.c x.l x.r x.v) 29)).alloc (by simp; omega) (.cells #[.string (st t)] 9)).alloc (by simp; omega) (.cells zfa.cells.toArray 41))
  have HP0 := Lib.hid ((((Blk.new w 35 #[pv q]).alloc (.cells (kc x.k x.o x.c x.l x.r x.v) 29)).alloc (.cells #[.string (st t)] 9)).alloc (.cells zfa.cells.toArray 41))
  have HK0 := Lib.hid (((Blk.new_of (w.alloc (.cells #[pv q] 35)) 29 (kc x.k x.o x.c x.l x.r x.v) (g := w.heap.size + 1) (by simp)).alloc (.cells #[.string (st t)] 9)).alloc (.cells zfa.cells.toArray 41))
  have HT0 := Lib.hid ((Blk.new_of ((w.alloc (.cells #[pv q] 35)).alloc (.cells (kc x.k x.o x.c x.l x.r x.v) 29)) 9 #[.string (st t)] (g := w.heap.size + 2) (by simp)).alloc (.cells zfa.cells.toArray 41))
  have HA0 := Lib.hid (Blk.new_of (((w.alloc (.cells #[pv q] 35)).alloc (.cells (kc x.k x.o x.c x.l x.r x.v) 29)).alloc (.cells #[.string (st t)] 9)) 41 zfa.cells.toArray (g := w.heap.size + 3) (by simp))
  have HSZ0 := Lib.hid (show ((((w.alloc (.cells #[pv q] 35)).alloc (.cells (kc x.k x.o x.c x.l x.r x.v) 29)).alloc (.cells #[.string (st t)] 9)).alloc (.cells zfa.cells.toArray 41)).heap.size = w.heap.size + 4 by simp)
  have t0 := HT0.out.cell 0
  obtain ⟨c0, c1, c2, c3, c4, c5⟩ := HK0.out.six
  have HST := Lib.hid h
  have HN := Lib.hid hn
  have HOK := Lib.hid ho
  have HTT := Lib.hid hT
  have HAN := Lib.hid ha
  have HRA := Lib.hid hra
  have HO := Lib.hid hO
  clear h hn ho hT ha hra hO
  have HA6 := Lib.hid ha6
  have HCR := Lib.hid hc
  have HRR := Lib.hid hr
  clear ha6 hc hr
  go_enter Tryd.func7, Tryd.ntmps7
  go_wp2_with (first
    | (go_at_call 11; refine (facedStore_gave (w.heap.size + 2) w.heap.size (HST.out.below HB0.out) HN.out HOK.out (HTT.out.below HB0.out) x an HAN.out (t.length : Int) HRA.out HO.out (k := 6) (fun W g s hW hS hkp => by subst hkp; exact cloStore_right HA6.out hS t (HT0.out.keep hW) HRR.out HCR.out)).mono ?_; rintro e w1 ⟨rfl, b1⟩; have HB1 := Lib.hid (HB0.out.trans (b1.mono HB0.out.size)); have HA1 := Lib.hid (HA0.out.keep b1); clear b1)
    | (show wpList _ _ _ ({ dst := none, op := .store _ (.tmp 8) (.tmp 17), type := _, pos := _, after := _, guard := _ } :: _) _ _; refine wpList_store_big (l0 := zfa.cells) HA1.out rfl (.tmp 8) (.tmp 17) (ty := 41) (l := Fa.cells ⟨6, kp, (an : Int)⟩) rfl (by rfl) (by rfl) sizeFa rfl (Fa.one _) ?_))
  exact bodyPost_ret (res_1t rfl _ _ (w.heap.size + 3) _ _ rfl rfl (load_fa _ (HA1.out.setRow _))) rfl ⟨rfl, below_setRow HB1.out (by omega) _⟩
set_option maxRecDepth 100000 in
set_option maxHeartbeats 4000000 in
theorem sstore_yes (h : StAt w base q A cap ps os) (hn : 0 < os.length) (ho : okAll os.length os) (hT : Tab w) (x : Ky) (an : Nat) (ha : an ≤ 9223372036854775807) (t : List UInt8) (hra : refA os x (an : Int) (t.length : Int) = 0) {y : Ky} {a : Nat} (ha6 : a ≤ 64) {kp : Ky} {d : Nat} (hO : goneW os x (an : Int) = .found y a kp d) (hr : y.r = 0) (hc : ¬ 64 < (a : Int) + (t.length : Int)) :
    Calls Tryd.prog 7 #[pv q, x.val, .int .i64 (an : Int), .string (st t)] w fun e w' => e = .returned (.tuple #[(zfa : Fa).val, .int .i64 0]) ∧ StAt w' base q A cap ps (wrA os y (a : Int) t).1 ∧ Fr (fun k => k ∈ ps) w w' := by
  have hmf : ∀ (fn : Fn) (first cap : Array Value) (w : World), (Instr.makeFunc fn first cap).run Tryd.prog w = .ok (.func fn first cap) w := fun _ _ _ _ => rfl
  have hz7 := z35
  have hsz := st_size t
  have HB0 := Lib.hid (((((Below.refl w.heap.size w).alloc (Nat.le_refl _) (.cells #[pv q] 35)).alloc (by simp) (.cells (kc x.k x.o x.c x.l x.r x.v) 29)).alloc (by simp; omega) (.cells #[.string (st t)] 9)).alloc (by simp; omega) (.cells zfa.cells.toArray 41))
  have HP0 := Lib.hid ((((Blk.new w 35 #[pv q]).alloc (.cells (kc x.k x.o x.c x.l x.r x.v) 29)).alloc (.cells #[.string (st t)] 9)).alloc (.cells zfa.cells.toArray 41))
  have HK0 := Lib.hid (((Blk.new_of (w.alloc (.cells #[pv q] 35)) 29 (kc x.k x.o x.c x.l x.r x.v) (g := w.heap.size + 1) (by simp)).alloc (.cells #[.string (st t)] 9)).alloc (.cells zfa.cells.toArray 41))
  have HT0 := Lib.hid ((Blk.new_of ((w.alloc (.cells #[pv q] 35)).alloc (.cells (kc x.k x.o x.c x.l x.r x.v) 29)) 9 #[.string (st t)] (g := w.heap.size + 2) (by simp)).alloc (.cells zfa.cells.toArray 41))
  have HA0 := Lib.hid (Blk.new_of (((w.alloc (.cells #[pv q] 35)).alloc (.cells (kc x.k x.o x.c x.l x.r x.v) 29)).alloc (.cells #[.string (st t)] 9)) 41 zfa.cells.toArray (g := w.heap.size + 3) (by simp))
  have HSZ0 := Lib.hid (show ((((w.alloc (.cells #[pv q] 35)).alloc (.cells (kc x.k x.o x.c x.l x.r x.v) 29)).alloc (.cells #[.string (st t)] 9)).alloc (.cells zfa.cells.toArray 41)).heap.size = w.heap.size + 4 by simp)
  have t0 := HT0.out.cell 0
  obtain ⟨c0, c1, c2, c3, c4, c5⟩ := HK0.out.six
  have HST := Lib.hid h
  have HN := Lib.hid hn
  have HOK := Lib.hid ho
  have HTT := Lib.hid hT
  have HAN := Lib.hid ha
  have HRA := Lib.hid hra
  have HO := Lib.hid hO
  clear h hn ho hT ha hra hO
  have HA6 := Lib.hid ha6
  have HCR := Lib.hid hc
  have HRR := Lib.hid hr
  have HPS := Lib.hid (show ∀ k, k ∈ ps → stHas q A ps k from fun k hk => by unfold stHas; exact .inr (.inr hk))
  clear ha6 hc hr
  go_enter Tryd.func7, Tryd.ntmps7
  go_wp2_with (first
    | (go_at_call 11; refine (facedStore_yes (w.heap.size + 2) w.heap.size (HST.out.below HB0.out) HN.out HOK.out (HTT.out.below HB0.out) x an HAN.out (t.length : Int) HRA.out HO.out (fun k => k ∈ ps) (fun W => StAt W base q A cap ps (wrA os y (a : Int) t).1) (fun k hk => by have := (HST.out.lt k (HPS.out k hk)).2; rw [HSZ0.out]; omega) (fun W W' hW hz hk => hW.keep fun k hb => hk k (hW.lt k hb).2 (by have := (HST.out.lt k hb).2; rw [HSZ0.out]; omega))
      (fun W g s hW hg hS hkp hd => cloStore_yes HA6.out hS t (HT0.out.keep hW) (HP0.out.keep hW) (fun k hk => by have := (HST.out.lt k (HPS.out k hk)).2; have := hg; rw [HSZ0.out] at this; omega) HRR.out HCR.out)).mono ?_; rintro e w1 ⟨rfl, st1, f1⟩; have HST1 := Lib.hid st1; have HF1 := Lib.hid f1; have HA1 := Lib.hid (show Blk w1 (w.heap.size + 3) 41 zfa.cells.toArray from (f1.block _ HA0.out.lt (fun hm => by have := (HST.out.lt _ (HPS.out _ hm)).2; omega)).trans HA0.out); clear st1 f1)
    | (show wpList _ _ _ ({ dst := none, op := .store _ (.tmp 8) (.tmp 17), type := _, pos := _, after := _, guard := _ } :: _) _ _; refine wpList_store_big (l0 := zfa.cells) HA1.out rfl (.tmp 8) (.tmp 17) (ty := 41) (l := Fa.cells zfa) rfl (by rfl) (by rfl) sizeFa rfl (Fa.one _) ?_))
  exact bodyPost_ret (res_1t rfl _ _ (w.heap.size + 3) _ _ rfl rfl (load_fa _ (HA1.out.setRow _))) rfl ⟨rfl, HST1.out.fr (setRow_fr _ _ _) (fun k hk e => by have := (HST.out.lt k hk).2; omega), ((Fr.of_below HB0.out : Fr (fun k => k ∈ ps) w _).trans HF1.out).then_ (setRow_fr _ _ _) (fun i hi he => by omega)⟩
end
end Go.Proofs.YtjolojomgfcfbaaDoor

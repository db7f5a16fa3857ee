/- spaces: Span, Walk. -/
import Derived.Test.YtjolojomgfcfbaaDoorWFc
import Derived.Test.YtjolojomgfcfbaaDoorWRq
namespace Go.Proofs.YtjolojomgfcfbaaDoor
open Go.RowKit
set_option maxRecDepth 8000 in
set_option maxHeartbeats 1000000 in
theorem span_any (n : Int) {m : Int} (hm : spanA n = m) (w : World) : Calls Tryd.prog 9 #[.int .i64 n] w fun e w' => e = .returned (.int .i64 m) ∧ w = w' := by
  subst hm
  unfold spanA
  by_cases h0 : n = 0
  · subst h0
    go_enter Tryd.func9, Tryd.ntmps9
    go_wp2
    go_ret
    exact ⟨rfl, rfl⟩
  · have d0 : (n == 0) = false := by simpa using h0
    rw [if_neg h0]
    by_cases h1 : 1 ≤ n ∧ n ≤ 8
    · rw [if_pos h1]
      obtain ⟨k, rfl⟩ : ∃ k : Nat, n = (k : Int) := ⟨n.toNat, by omega⟩
      rw [Int.toNat_natCast]
      have HH := Lib.hid (show decide (1 ≤ (k : Int) ∧ (k : Int) ≤ 8) = true from decide_eq_true h1)
      have H1 := Lib.hid (show 1 ≤ k by omega)
      have H8 := Lib.hid (show k ≤ 8 by omega)
      have hp := part_le (h := k) (by omega)
      obtain ⟨q, hq⟩ : ∃ q, q = part k := ⟨_, rfl⟩
      have HQ := Lib.hid hq
      rw [← hq] at hp ⊢
      have s0 : 14 * (q : Int) ≤ 9223372036854775807 := by omega
      have s1 : -9223372036854775808 ≤ 14 * (q : Int) := by omega
      clear h1 h0 hq
      go_enter Tryd.func9, Tryd.ntmps9
      go_wp2_with (first
        | (go_at_call 20; refine (isH_any _ HH.out _).mono ?_; rintro e w1 ⟨rfl, rfl⟩)
        | (go_at_call 21; refine (partOf_any k H1.out H8.out _).mono ?_; rintro e w2 ⟨rfl, rfl⟩; rw [← HQ.out]))
      go_ret
      exact ⟨rfl, rfl⟩
    · rw [if_neg h1]
      have HH := Lib.hid (show decide (1 ≤ n ∧ n ≤ 8) = false from decide_eq_false h1)
      clear h1 h0
      go_enter Tryd.func9, Tryd.ntmps9
      go_wp2_with (first
        | (go_at_call 20; refine (isH_any _ HH.out _).mono ?_; rintro e w1 ⟨rfl, rfl⟩))
      go_ret
      exact ⟨rfl, rfl⟩
set_option maxRecDepth 8000 in
theorem WkS.found {w : World} {g base q : Nat} {A : Option Addr} {cap : Nat} {ps : List Nat} {os : List Oj} {ad : Int} {s : Ws} {y : Ky} {a : Int} (h : WkS w g base q A cap ps os ad s y a) : w.rangeAt g 11 (Fo.cells ⟨y, a, s.kp, (s.d : Int)⟩) := by
  have h1 : w.rangeAt g 0 (wkc q ad s.x s.left s.high s.r y a s.kp s.d).toList := Blk.range (l := (wkc q ad s.x s.left s.high s.r y a s.kp s.d).toList) h.blk
  exact range_mid (a := [pv q, .int .i64 ad, .int .i64 s.x.k, .int .i64 s.x.o, .int .i64 s.x.c, .int .i64 s.x.l, .int .i64 s.x.r, .int .i64 s.x.v, .int .i64 (s.left : Int), .int .i64 s.high, .int .i64 (s.r : Int)]) (m := Fo.cells ⟨y, a, s.kp, (s.d : Int)⟩) (b := []) h1
section
variable {w : World} {base q : Nat} {A : Option Addr} {cap : Nat} {ps : List Nat} {os : List Oj}
set_option maxRecDepth 100000 in
set_option maxHeartbeats 2000000 in
theorem clo_walk {g b : Nat} {ad : Int} {s : Ws} {y : Ky} {a : Int} (H : WkS w g base q A cap ps os ad s y a) (f0 : Fo) (hb : Blk w b 38 f0.cells.toArray) :
    Calls Tryd.prog 12 #[.pointer (some ⟨g, 0, none⟩), .pointer (some ⟨b, 0, none⟩)] w fun e w' => e = .returned (.tuple #[]) ∧ Blk w' b 38 (Fo.cells ⟨y, a, s.kp, (s.d : Int)⟩).toArray ∧ Fr (fun k => k = b) w w' := by
  have HS := Lib.hid H.found
  have HB := Lib.hid hb
  clear H hb
  go_enter Tryd.func12, Tryd.ntmps12
  go_wp2_with (first
    | (show wpList _ _ _ ({ dst := some 6, op := .load _ _, type := _, pos := _, after := _, guard := _ } :: _) _ _; refine wpList_yields (S := fun W => W.rangeAt g 11 (Fo.cells ⟨y, a, s.kp, (s.d : Int)⟩)) (y_fo (by rfl) (.tmp 5) (by rfl) g 11 (by rfl) ⟨y, a, s.kp, (s.d : Int)⟩ (fun _ h => h)) HS.out ?_)
    | (show wpList _ _ _ ({ dst := none, op := .store _ (.tmp 1) (.tmp 6), type := _, pos := _, after := _, guard := _ } :: _) _ _; refine wpList_store_big (l0 := f0.cells) HB.out rfl (.tmp 1) (.tmp 6) (ty := 38) (l := Fo.cells ⟨y, a, s.kp, (s.d : Int)⟩) rfl (by rfl) (by rfl) sizeFo rfl (Fo.one _) ?_))
  go_end0
  exact ⟨rfl, HB.out.setRow _, setRow_fr _ _ _⟩
set_option maxRecDepth 100000 in
set_option maxHeartbeats 4000000 in
theorem walk_err (P : Value) (x : Ky) (a m : Int) (hm : m ≠ 0) (hrf : ∀ W, Below w.heap.size w W → Calls Tryd.prog 23 #[P, x.val, .int .i64 a, .int .i64 0] W fun e w' => e = .returned (.int .i64 m) ∧ Below W.heap.size W w') :
    Calls Tryd.prog 6 #[P, x.val, .int .i64 a] w fun e w' => e = .returned (.tuple #[(zfo : Fo).val, (zfa : Fa).val, .int .i64 m]) ∧ Below w.heap.size w w' := by
  have hmf : ∀ (fn : Fn) (first cap : Array Value) (w : World), (Instr.makeFunc fn first cap).run Tryd.prog w = .ok (.func fn first cap) w := fun _ _ _ _ => rfl
  have hz6 := z59
  have hz7 := z35
  have HB0 := Lib.hid ((((Below.refl w.heap.size w).alloc (Nat.le_refl _) (.cells (kc x.k x.o x.c x.l x.r x.v) 29)).alloc (by simp) (.cells zfo.cells.toArray 38)).alloc (by simp; omega) (.cells zfa.cells.toArray 41))
  have HK0 := Lib.hid (((Blk.new w 29 (kc x.k x.o x.c x.l x.r x.v)).alloc (.cells zfo.cells.toArray 38)).alloc (.cells zfa.cells.toArray 41))
  have HF0 := Lib.hid ((Blk.new_of (w.alloc (.cells (kc x.k x.o x.c x.l x.r x.v) 29)) 38 zfo.cells.toArray (g := w.heap.size + 1) (by simp)).alloc (.cells zfa.cells.toArray 41))
  have HA0 := Lib.hid (Blk.new_of ((w.alloc (.cells (kc x.k x.o x.c x.l x.r x.v) 29)).alloc (.cells zfo.cells.toArray 38)) 41 zfa.cells.toArray (g := w.heap.size + 2) (by simp))
  have HSZ0 := Lib.hid (show (((w.alloc (.cells (kc x.k x.o x.c x.l x.r x.v) 29)).alloc (.cells zfo.cells.toArray 38)).alloc (.cells zfa.cells.toArray 41)).heap.size = w.heap.size + 3 by simp)
  obtain ⟨c0, c1, c2, c3, c4, c5⟩ := HK0.out.six
  have HM := Lib.hid hm
  have HR := Lib.hid hrf
  clear hm hrf
  go_enter Tryd.func6, Tryd.ntmps6
  go_wp2_with (first
    | (go_at_call 11; refine (facedWalk_err P (w.heap.size + 1) x a 0 m HM.out (fun W hW => HR.out W (HB0.out.trans (hW.mono HB0.out.size)))).mono ?_; rintro e w1 ⟨rfl, b1⟩; have HB1 := Lib.hid (HB0.out.trans (b1.mono HB0.out.size)); have HF1 := Lib.hid (HF0.out.keep b1); have HA1 := Lib.hid (HA0.out.keep b1); clear b1)
    | (show wpList _ _ _ ({ dst := none, op := .store _ (.tmp 7) (.tmp 15), type := _, pos := _, after := _, guard := _ } :: _) _ _; refine wpList_store_big (l0 := zfa.cells) HA1.out rfl (.tmp 7) (.tmp 15) (ty := 41) (l := Fa.cells zfa) rfl (by rfl) (by rfl) sizeFa rfl (Fa.one _) ?_))
  have HF9 := Lib.hid (HF1.out.row_far (b := w.heap.size + 2) (by omega) (Fa.cells zfa).toArray)
  have HA9 := Lib.hid (HA1.out.setRow (Fa.cells zfa).toArray)
  have HB9 := Lib.hid (below_setRow HB1.out (b := w.heap.size + 2) (by omega) (Fa.cells zfa).toArray)
  generalize w1.setRow (w.heap.size + 2) (Fa.cells zfa).toArray = W9 at HF9 HA9 HB9 ⊢
  clear c0 c1 c2 c3 c4 c5
  have HFX := Lib.hid (show Blk (W9.drew.setRow (w.heap.size + 1) (Fo.cells zfo).toArray) (w.heap.size + 1) 38 (Fo.cells zfo).toArray from Blk.setRow (w := W9.drew) HF9.out _)
  have HAX := Lib.hid (show Blk (W9.drew.setRow (w.heap.size + 1) (Fo.cells zfo).toArray) (w.heap.size + 2) 41 (Fa.cells zfa).toArray from Blk.row_far (w := W9.drew) HA9.out (by omega) _)
  have HFY := Lib.hid (HFX.out.row_far (b := w.heap.size + 2) (by omega) (Fa.cells zfa).toArray)
  have HAY := Lib.hid (HAX.out.setRow (Fa.cells zfa).toArray)
  have HBY := Lib.hid (below_setRow (below_setRow (below_drew HB9.out) (b := w.heap.size + 1) (by omega) (Fo.cells zfo).toArray) (b := w.heap.size + 2) (by omega) (Fa.cells zfa).toArray)
  refine wp_region_only (S := fun W => W.rangeAt (w.heap.size + 1) 0 (Fo.cells zfo) ∧ W.rangeAt (w.heap.size + 2) 0 (Fa.cells zfa)) (by kernel_rfl) ⟨(show Blk W9.drew _ _ _ from HF9.out).range, (show Blk W9.drew _ _ _ from HA9.out).range⟩ (fun hHeld => ?_)
  refine wpAnyH_take (i := 0) rfl (by kernel_rfl) (by kernel_rfl) (by kernel_rfl) (fun _ _ _ h => h) (y_fo (by rfl) (.tmp 6) (by rfl) (w.heap.size + 1) 0 (by rfl) zfo (fun _ h => h.1)) hHeld ?_
  try simp only [Act.put, List.getElem_toArray, List.getElem_cons_zero, List.setIfInBounds_toArray, List.set_cons_zero, List.set_cons_succ]
  refine wpAnyH_take (i := 1) rfl (by kernel_rfl) (by kernel_rfl) (by kernel_rfl) (fun _ _ _ h => h) (y_fa (by rfl) (.tmp 7) (by rfl) (w.heap.size + 2) 0 (by rfl) zfa (fun _ h => h.2)) hHeld ?_
  try simp only [Act.put, List.getElem_toArray, List.getElem_cons_succ, List.getElem_cons_zero, List.setIfInBounds_toArray, List.set_cons_zero, List.set_cons_succ]
  refine wpAnyH_take (i := 2) (v := ?v1) rfl (by kernel_rfl) (by kernel_rfl) (by kernel_rfl) (fun _ _ _ h => h) (Or.inl ⟨by rfl, ?hy1⟩) hHeld ?rest1
  case hy1 =>
    intro w' hSw
    try dsimp only at hSw
    go_simp
    first | done | with_reducible rfl
  try simp only [Act.put, List.getElem_toArray, List.getElem_cons_succ, List.getElem_cons_zero, List.setIfInBounds_toArray, List.set_cons_zero, List.set_cons_succ]
  refine wpAnyH_ready (rs := [3]) (by kernel_rfl) (by simp) ?_
  refine AllReadyH.cons (by rfl) (fun K hK => ?_) AllReadyH.nil
  refine step_store_big (show Blk W9.drew (w.heap.size + 1) 38 (Fo.cells zfo).toArray from HF9.out) rfl (.tmp 6) (.tmp 17) (ty := 38) (l0 := Fo.cells zfo) (l := Fo.cells zfo) (by rfl) (by rfl) (by rfl) sizeFo rfl (Fo.one _) ?_
  refine hK.out _ _ ⟨HFX.out.range, HAX.out.range⟩ (fun hHeld => ?_)
  clear hK K
  try simp only [Act.put, List.getElem_toArray, List.getElem_cons_succ, List.getElem_cons_zero]
  refine wpAnyH_ready (rs := [4]) (by kernel_rfl) (by simp) ?_
  refine AllReadyH.cons (by rfl) (fun K hK => ?_) AllReadyH.nil
  refine step_store_big HAX.out rfl (.tmp 7) (.tmp 18) (ty := 41) (l0 := Fa.cells zfa) (l := Fa.cells zfa) (by rfl) (by rfl) (by rfl) sizeFa rfl (Fa.one _) ?_
  refine hK.out _ _ ⟨HFY.out.range, HAY.out.range⟩ (fun hHeld => ?_)
  clear hK K
  try simp only [Act.put, List.getElem_toArray, List.getElem_cons_succ, List.getElem_cons_zero]
  refine wpAnyH_take (i := 5) (v := ?v2) rfl (by kernel_rfl) (by kernel_rfl) (by kernel_rfl) (fun _ _ _ h => h) (Or.inl ⟨by rfl, ?hy2⟩) hHeld ?rest2
  case hy2 =>
    intro w' hSw
    try dsimp only at hSw
    go_simp
    first | done | with_reducible rfl
  try simp only [Act.put, List.getElem_toArray, List.getElem_cons_succ, List.getElem_cons_zero, List.setIfInBounds_toArray, List.set_cons_zero, List.set_cons_succ]
  refine wpAnyH_done (by kernel_rfl) ?_ _
  refine OnlyN.normal ?_
  go_wp2_with fail
  exact bodyPost_ret (res_2t rfl _ _ (w.heap.size + 1) (w.heap.size + 2) _ _ _ rfl rfl rfl (load_fo _ HFY.out) (load_fa _ HAY.out)) rfl ⟨rfl, HBY.out⟩
set_option maxRecDepth 100000 in
set_option maxHeartbeats 4000000 in
theorem walk_fault (h : StAt w base q A cap ps os) (hn : 0 < os.length) (ho : okAll os.length os) (hT : Tab w) (x : Ky) (an : Nat) (ha : an ≤ 9223372036854775807) (hra : refA os x (an : Int) 0 = 0) {k : Int} {kp : Ky} (hO : goneW os x (an : Int) = .fault k kp) :
    Calls Tryd.prog 6 #[pv q, x.val, .int .i64 (an : Int)] w fun e w' => e = .returned (.tuple #[(zfo : Fo).val, (⟨k, kp, (an : Int)⟩ : Fa).val, .int .i64 0]) ∧ Below w.heap.size w w' := by
  have hmf : ∀ (fn : Fn) (first cap : Array Value) (w : World), (Instr.makeFunc fn first cap).run Tryd.prog w = .ok (.func fn first cap) w := fun _ _ _ _ => rfl
  have hz6 := z59
  have hz7 := z35
  have HB0 := Lib.hid ((((Below.refl w.heap.size w).alloc (Nat.le_refl _) (.cells (kc x.k x.o x.c x.l x.r x.v) 29)).alloc (by simp) (.cells zfo.cells.toArray 38)).alloc (by simp; omega) (.cells zfa.cells.toArray 41))
  have HK0 := Lib.hid (((Blk.new w 29 (kc x.k x.o x.c x.l x.r x.v)).alloc (.cells zfo.cells.toArray 38)).alloc (.cells zfa.cells.toArray 41))
  have HF0 := Lib.hid ((Blk.new_of (w.alloc (.cells (kc x.k x.o x.c x.l x.r x.v) 29)) 38 zfo.cells.toArray (g := w.heap.size + 1) (by simp)).alloc (.cells zfa.cells.toArray 41))
  have HA0 := Lib.hid (Blk.new_of ((w.alloc (.cells (kc x.k x.o x.c x.l x.r x.v) 29)).alloc (.cells zfo.cells.toArray 38)) 41 zfa.cells.toArray (g := w.heap.size + 2) (by simp))
  have HSZ0 := Lib.hid (show (((w.alloc (.cells (kc x.k x.o x.c x.l x.r x.v) 29)).alloc (.cells zfo.cells.toArray 38)).alloc (.cells zfa.cells.toArray 41)).heap.size = w.heap.size + 3 by simp)
  obtain ⟨c0, c1, c2, c3, c4, c5⟩ := HK0.out.six
  have HST := Lib.hid h
  have HN := Lib.hid hn
  have HOK := Lib.hid ho
  have HTT := Lib.hid hT
  have HAN := Lib.hid ha
  have HRA := Lib.hid hra
  have HO := Lib.hid hO
  clear h hn ho hT ha hra hO
  go_enter Tryd.func6, Tryd.ntmps6
  go_wp2_with (first
    | (go_at_call 11; refine (facedWalk_fault (w.heap.size + 1) (HST.out.below HB0.out) HN.out HOK.out (HTT.out.below HB0.out) x an HAN.out 0 HRA.out HO.out).mono ?_; rintro e w1 ⟨rfl, b1⟩; have HB1 := Lib.hid (HB0.out.trans (b1.mono HB0.out.size)); have HF1 := Lib.hid (HF0.out.keep b1); have HA1 := Lib.hid (HA0.out.keep b1); clear b1)
    | (show wpList _ _ _ ({ dst := none, op := .store _ (.tmp 7) (.tmp 15), type := _, pos := _, after := _, guard := _ } :: _) _ _; refine wpList_store_big (l0 := zfa.cells) HA1.out rfl (.tmp 7) (.tmp 15) (ty := 41) (l := Fa.cells ⟨k, kp, (an : Int)⟩) rfl (by rfl) (by rfl) sizeFa rfl (Fa.one _) ?_))
  have HF9 := Lib.hid (HF1.out.row_far (b := w.heap.size + 2) (by omega) (Fa.cells ⟨k, kp, (an : Int)⟩).toArray)
  have HA9 := Lib.hid (HA1.out.setRow (Fa.cells ⟨k, kp, (an : Int)⟩).toArray)
  have HB9 := Lib.hid (below_setRow HB1.out (b := w.heap.size + 2) (by omega) (Fa.cells ⟨k, kp, (an : Int)⟩).toArray)
  generalize w1.setRow (w.heap.size + 2) (Fa.cells ⟨k, kp, (an : Int)⟩).toArray = W9 at HF9 HA9 HB9 ⊢
  clear c0 c1 c2 c3 c4 c5
  have HFX := Lib.hid (show Blk (W9.drew.setRow (w.heap.size + 1) (Fo.cells zfo).toArray) (w.heap.size + 1) 38 (Fo.cells zfo).toArray from Blk.setRow (w := W9.drew) HF9.out _)
  have HAX := Lib.hid (show Blk (W9.drew.setRow (w.heap.size + 1) (Fo.cells zfo).toArray) (w.heap.size + 2) 41 (Fa.cells ⟨k, kp, (an : Int)⟩).toArray from Blk.row_far (w := W9.drew) HA9.out (by omega) _)
  have HFY := Lib.hid (HFX.out.row_far (b := w.heap.size + 2) (by omega) (Fa.cells ⟨k, kp, (an : Int)⟩).toArray)
  have HAY := Lib.hid (HAX.out.setRow (Fa.cells ⟨k, kp, (an : Int)⟩).toArray)
  have HBY := Lib.hid (below_setRow (below_setRow (below_drew HB9.out) (b := w.heap.size + 1) (by omega) (Fo.cells zfo).toArray) (b := w.heap.size + 2) (by omega) (Fa.cells ⟨k, kp, (an : Int)⟩).toArray)
  refine wp_region_only (S := fun W => W.rangeAt (w.heap.size + 1) 0 (Fo.cells zfo) ∧ W.rangeAt (w.heap.size + 2) 0 (Fa.cells ⟨k, kp, (an : Int)⟩)) (by kernel_rfl) ⟨(show Blk W9.drew _ _ _ from HF9.out).range, (show Blk W9.drew _ _ _ from HA9.out).range⟩ (fun hHeld => ?_)
  refine wpAnyH_take (i := 0) rfl (by kernel_rfl) (by kernel_rfl) (by kernel_rfl) (fun _ _ _ h => h) (y_fo (by rfl) (.tmp 6) (by rfl) (w.heap.size + 1) 0 (by rfl) zfo (fun _ h => h.1)) hHeld ?_
  try simp only [Act.put, List.getElem_toArray, List.getElem_cons_zero, List.setIfInBounds_toArray, List.set_cons_zero, List.set_cons_succ]
  refine wpAnyH_take (i := 1) rfl (by kernel_rfl) (by kernel_rfl) (by kernel_rfl) (fun _ _ _ h => h) (y_fa (by rfl) (.tmp 7) (by rfl) (w.heap.size + 2) 0 (by rfl) ⟨k, kp, (an : Int)⟩ (fun _ h => h.2)) hHeld ?_
  try simp only [Act.put, List.getElem_toArray, List.getElem_cons_succ, List.getElem_cons_zero, List.setIfInBounds_toArray, List.set_cons_zero, List.set_cons_succ]
  refine wpAnyH_take (i := 2) (v := ?v3) rfl (by kernel_rfl) (by kernel_rfl) (by kernel_rfl) (fun _ _ _ h => h) (Or.inl ⟨by rfl, ?hy3⟩) hHeld ?rest3
  case hy3 =>
    intro w' hSw
    try dsimp only at hSw
    go_simp
    first | done | with_reducible rfl
  try simp only [Act.put, List.getElem_toArray, List.getElem_cons_succ, List.getElem_cons_zero, List.setIfInBounds_toArray, List.set_cons_zero, List.set_cons_succ]
  refine wpAnyH_ready (rs := [3]) (by kernel_rfl) (by simp) ?_
  refine AllReadyH.cons (by rfl) (fun K hK => ?_) AllReadyH.nil
  refine step_store_big (show Blk W9.drew (w.heap.size + 1) 38 (Fo.cells zfo).toArray from HF9.out) rfl (.tmp 6) (.tmp 17) (ty := 38) (l0 := Fo.cells zfo) (l := Fo.cells zfo) (by rfl) (by rfl) (by rfl) sizeFo rfl (Fo.one _) ?_
  refine hK.out _ _ ⟨HFX.out.range, HAX.out.range⟩ (fun hHeld => ?_)
  clear hK K
  try simp only [Act.put, List.getElem_toArray, List.getElem_cons_succ, List.getElem_cons_zero]
  refine wpAnyH_ready (rs := [4]) (by kernel_rfl) (by simp) ?_
  refine AllReadyH.cons (by rfl) (fun K hK => ?_) AllReadyH.nil
  refine step_store_big HAX.out rfl (.tmp 7) (.tmp 18) (ty := 41) (l0 := Fa.cells ⟨k, kp, (an : Int)⟩) (l := Fa.cells ⟨k, kp, (an : Int)⟩) (by rfl) (by rfl) (by rfl) sizeFa rfl (Fa.one _) ?_
  refine hK.out _ _ ⟨HFY.out.range, HAY.out.range⟩ (fun hHeld => ?_)
  clear hK K
  try simp only [Act.put, List.getElem_toArray, List.getElem_cons_succ, List.getElem_cons_zero]
  refine wpAnyH_take (i := 5) (v := ?v4) rfl (by kernel_rfl) (by kernel_rfl) (by kernel_rfl) (fun _ _ _ h => h) (Or.inl ⟨by rfl, ?hy4⟩) hHeld ?rest4
  case hy4 =>
    intro w' hSw
    try dsimp only at hSw
    go_simp
    first | done | with_reducible rfl
  try simp only [Act.put, List.getElem_toArray, List.getElem_cons_succ, List.getElem_cons_zero, List.setIfInBounds_toArray, List.set_cons_zero, List.set_cons_succ]
  refine wpAnyH_done (by kernel_rfl) ?_ _
  refine OnlyN.normal ?_
  go_wp2_with fail
  exact bodyPost_ret (res_2t rfl _ _ (w.heap.size + 1) (w.heap.size + 2) _ _ _ rfl rfl rfl (load_fo _ HFY.out) (load_fa _ HAY.out)) rfl ⟨rfl, HBY.out⟩
set_option maxRecDepth 100000 in
set_option maxHeartbeats 4000000 in
theorem walk_found (h : StAt w base q A cap ps os) (hn : 0 < os.length) (ho : okAll os.length os) (hT : Tab w) (x : Ky) (an : Nat) (ha : an ≤ 9223372036854775807) (hra : refA os x (an : Int) 0 = 0) {y : Ky} {a : Nat} {kp : Ky} {d : Nat} (hO : goneW os x (an : Int) = .found y a kp d) :
    Calls Tryd.prog 6 #[pv q, x.val, .int .i64 (an : Int)] w fun e w' => e = .returned (.tuple #[(⟨y, (a : Int), kp, (d : Int)⟩ : Fo).val, (zfa : Fa).val, .int .i64 0]) ∧ Below w.heap.size w w' := by
  have hmf : ∀ (fn : Fn) (first cap : Array Value) (w : World), (Instr.makeFunc fn first cap).run Tryd.prog w = .ok (.func fn first cap) w := fun _ _ _ _ => rfl
  have hz6 := z59
  have hz7 := z35
  have HB0 := Lib.hid ((((Below.refl w.heap.size w).alloc (Nat.le_refl _) (.cells (kc x.k x.o x.c x.l x.r x.v) 29)).alloc (by simp) (.cells zfo.cells.toArray 38)).alloc (by simp; omega) (.cells zfa.cells.toArray 41))
  have HK0 := Lib.hid (((Blk.new w 29 (kc x.k x.o x.c x.l x.r x.v)).alloc (.cells zfo.cells.toArray 38)).alloc (.cells zfa.cells.toArray 41))
  have HF0 := Lib.hid ((Blk.new_of (w.alloc (.cells (kc x.k x.o x.c x.l x.r x.v) 29)) 38 zfo.cells.toArray (g := w.heap.size + 1) (by simp)).alloc (.cells zfa.cells.toArray 41))
  have HA0 := Lib.hid (Blk.new_of ((w.alloc (.cells (kc x.k x.o x.c x.l x.r x.v) 29)).alloc (.cells zfo.cells.toArray 38)) 41 zfa.cells.toArray (g := w.heap.size + 2) (by simp))
  have HSZ0 := Lib.hid (show (((w.alloc (.cells (kc x.k x.o x.c x.l x.r x.v) 29)).alloc (.cells zfo.cells.toArray 38)).alloc (.cells zfa.cells.toArray 41)).heap.size = w.heap.size + 3 by simp)
  obtain ⟨c0, c1, c2, c3, c4, c5⟩ := HK0.out.six
  have HST := Lib.hid h
  have HN := Lib.hid hn
  have HOK := Lib.hid ho
  have HTT := Lib.hid hT
  have HAN := Lib.hid ha
  have HRA := Lib.hid hra
  have HO := Lib.hid hO
  clear h hn ho hT ha hra hO
  go_enter Tryd.func6, Tryd.ntmps6
  go_wp2_with (first
    | (go_at_call 11; refine (facedWalk_yes (w.heap.size + 1) (HST.out.below HB0.out) HN.out HOK.out (HTT.out.below HB0.out) x an HAN.out 0 HRA.out HO.out (fun k => k = w.heap.size + 1) (fun W => Blk W (w.heap.size + 1) 38 (Fo.cells ⟨y, (a : Int), kp, (d : Int)⟩).toArray) (fun k e => by rw [HSZ0.out]; omega) (fun W W' hb hs hk => (hk _ hb.lt (by rw [HSZ0.out]; omega)).trans hb)
      (fun W g s hW hg hS hkp hd => by subst hkp hd; exact clo_walk hS zfo (HF0.out.keep hW))).mono ?_; rintro e w1 ⟨rfl, hf1, f1⟩; have HF1 := Lib.hid hf1; have HB1 := Lib.hid (HB0.out.trans (f1.to_below (fun k e => by omega) HB0.out.size)); have HA1 := Lib.hid (show Blk w1 (w.heap.size + 2) 41 zfa.cells.toArray from (f1.block _ HA0.out.lt (by omega)).trans HA0.out); clear hf1 f1)
    | (show wpList _ _ _ ({ dst := none, op := .store _ (.tmp 7) (.tmp 15), type := _, pos := _, after := _, guard := _ } :: _) _ _; refine wpList_store_big (l0 := zfa.cells) HA1.out rfl (.tmp 7) (.tmp 15) (ty := 41) (l := Fa.cells zfa) rfl (by rfl) (by rfl) sizeFa rfl (Fa.one _) ?_))
  have HF9 := Lib.hid (HF1.out.row_far (b := w.heap.size + 2) (by omega) (Fa.cells zfa).toArray)
  have HA9 := Lib.hid (HA1.out.setRow (Fa.cells zfa).toArray)
  have HB9 := Lib.hid (below_setRow HB1.out (b := w.heap.size + 2) (by omega) (Fa.cells zfa).toArray)
  generalize w1.setRow (w.heap.size + 2) (Fa.cells zfa).toArray = W9 at HF9 HA9 HB9 ⊢
  clear c0 c1 c2 c3 c4 c5
  have HFX := Lib.hid (show Blk (W9.drew.setRow (w.heap.size + 1) (Fo.cells ⟨y, (a : Int), kp, (d : Int)⟩).toArray) (w.heap.size + 1) 38 (Fo.cells ⟨y, (a : Int), kp, (d : Int)⟩).toArray from Blk.setRow (w := W9.drew) HF9.out _)
  have HAX := Lib.hid (show Blk (W9.drew.setRow (w.heap.size + 1) (Fo.cells ⟨y, (a : Int), kp, (d : Int)⟩).toArray) (w.heap.size + 2) 41 (Fa.cells zfa).toArray from Blk.row_far (w := W9.drew) HA9.out (by omega) _)
  have HFY := Lib.hid (HFX.out.row_far (b := w.heap.size + 2) (by omega) (Fa.cells zfa).toArray)
  have HAY := Lib.hid (HAX.out.setRow (Fa.cells zfa).toArray)
  have HBY := Lib.hid (below_setRow (below_setRow (below_drew HB9.out) (b := w.heap.size + 1) (by omega) (Fo.cells ⟨y, (a : Int), kp, (d : Int)⟩).toArray) (b := w.heap.size + 2) (by omega) (Fa.cells zfa).toArray)
  refine wp_region_only (S := fun W => W.rangeAt (w.heap.size + 1) 0 (Fo.cells ⟨y, (a : Int), kp, (d : Int)⟩) ∧ W.rangeAt (w.heap.size + 2) 0 (Fa.cells zfa)) (by kernel_rfl) ⟨(show Blk W9.drew _ _ _ from HF9.out).range, (show Blk W9.drew _ _ _ from HA9.out).range⟩ (fun hHeld => ?_)
  refine wpAnyH_take (i := 0) rfl (by kernel_rfl) (by kernel_rfl) (by kernel_rfl) (fun _ _ _ h => h) (y_fo (by rfl) (.tmp 6) (by rfl) (w.heap.size + 1) 0 (by rfl) ⟨y, (a : Int), kp, (d : Int)⟩ (fun _ h => h.1)) hHeld ?_
  try simp only [Act.put, List.getElem_toArray, List.getElem_cons_zero, List.setIfInBounds_toArray, List.set_cons_zero, List.set_cons_succ]
  refine wpAnyH_take (i := 1) rfl (by kernel_rfl) (by kernel_rfl) (by kernel_rfl) (fun _ _ _ h => h) (y_fa (by rfl) (.tmp 7) (by rfl) (w.heap.size + 2) 0 (by rfl) zfa (fun _ h => h.2)) hHeld ?_
  try simp only [Act.put, List.getElem_toArray, List.getElem_cons_succ, List.getElem_cons_zero, List.setIfInBounds_toArray, List.set_cons_zero, List.set_cons_succ]
  refine wpAnyH_take (i := 2) (v := ?v5) rfl (by kernel_rfl) (by kernel_rfl) (by kernel_rfl) (fun _ _ _ h => h) (Or.inl ⟨by rfl, ?hy5⟩) hHeld ?rest5
  case hy5 =>
    intro w' hSw
    try dsimp only at hSw
    go_simp
    first | done | with_reducible rfl
  try simp only [Act.put, List.getElem_toArray, List.getElem_cons_succ, List.getElem_cons_zero, List.setIfInBounds_toArray, List.set_cons_zero, List.set_cons_succ]
  refine wpAnyH_ready (rs := [3]) (by kernel_rfl) (by simp) ?_
  refine AllReadyH.cons (by rfl) (fun K hK => ?_) AllReadyH.nil
  refine step_store_big (show Blk W9.drew (w.heap.size + 1) 38 (Fo.cells ⟨y, (a : Int), kp, (d : Int)⟩).toArray from HF9.out) rfl (.tmp 6) (.tmp 17) (ty := 38) (l0 := Fo.cells ⟨y, (a : Int), kp, (d : Int)⟩) (l := Fo.cells ⟨y, (a : Int), kp, (d : Int)⟩) (by rfl) (by rfl) (by rfl) sizeFo rfl (Fo.one _) ?_
  refine hK.out _ _ ⟨HFX.out.range, HAX.out.range⟩ (fun hHeld => ?_)
  clear hK K
  try simp only [Act.put, List.getElem_toArray, List.getElem_cons_succ, List.getElem_cons_zero]
  refine wpAnyH_ready (rs := [4]) (by kernel_rfl) (by simp) ?_
  refine AllReadyH.cons (by rfl) (fun K hK => ?_) AllReadyH.nil
  refine step_store_big HAX.out rfl (.tmp 7) (.tmp 18) (ty := 41) (l0 := Fa.cells zfa) (l := Fa.cells zfa) (by rfl) (by rfl) (by rfl) sizeFa rfl (Fa.one _) ?_
  refine hK.out _ _ ⟨HFY.out.range, HAY.out.range⟩ (fun hHeld => ?_)
  clear hK K
  try simp only [Act.put, List.getElem_toArray, List.getElem_cons_succ, List.getElem_cons_zero]
  refine wpAnyH_take (i := 5) (v := ?v6) rfl (by kernel_rfl) (by kernel_rfl) (by kernel_rfl) (fun _ _ _ h => h) (Or.inl ⟨by rfl, ?hy6⟩) hHeld ?rest6
  case hy6 =>
    intro w' hSw
    try dsimp only at hSw
    go_simp
    first | done | with_reducible rfl
  try simp only [Act.put, List.getElem_toArray, List.getElem_cons_succ, List.getElem_cons_zero, List.setIfInBounds_toArray, List.set_cons_zero, List.set_cons_succ]
  refine wpAnyH_done (by kernel_rfl) ?_ _
  refine OnlyN.normal ?_
  go_wp2_with fail
  exact bodyPost_ret (res_2t rfl _ _ (w.heap.size + 1) (w.heap.size + 2) _ _ _ rfl rfl rfl (load_fo _ HFY.out) (load_fa _ HAY.out)) rfl ⟨rfl, HBY.out⟩
set_option maxRecDepth 8000 in
theorem refA_0 {x : Ky} {a n : Int} (h : refA os x a n = 0) : x.may os.length ∧ 0 ≤ a ∧ 0 ≤ n ∧ n ≤ 64 := by
  unfold refA at h
  by_cases h1 : x.may os.length
  · rw [if_pos h1] at h
    by_cases h2 : 0 ≤ a ∧ 0 ≤ n ∧ n ≤ 64
    · exact ⟨h1, h2⟩
    · rw [if_neg h2] at h
      exact absurd h (by decide)
  · rw [if_neg h1] at h
    exact absurd h (by decide)
set_option maxRecDepth 8000 in
theorem walk_all (h : StAt w base q A cap ps os) (hn : 0 < os.length) (ho : okAll os.length os) (hT : Tab w) (x : Ky) (a : Int) (ha : a ≤ 9223372036854775807) :
    Calls Tryd.prog 6 #[pv q, x.val, .int .i64 a] w fun e w' => e = .returned (.tuple #[(walkA os x a).1.val, (walkA os x a).2.1.val, .int .i64 (walkA os x a).2.2]) ∧ Below w.heap.size w w' := by
  unfold walkA
  by_cases hr : refA os x a 0 = 0
  · rw [if_pos hr]
    obtain ⟨an, rfl⟩ : ∃ an : Nat, a = (an : Int) := ⟨a.toNat, by have := (refA_0 hr).2.1; omega⟩
    cases hO : goneW os x (an : Int) with
    | fault k kp => exact walk_fault h hn ho hT x an (by omega) hr hO
    | found y b kp d => exact walk_found h hn ho hT x an (by omega) hr hO
  · rw [if_neg hr]
    exact walk_err (pv q) x a _ hr fun W hW => refused_any (h.below hW) hn (hT.below hW) x a 0 rfl
end
end Go.Proofs.YtjolojomgfcfbaaDoor

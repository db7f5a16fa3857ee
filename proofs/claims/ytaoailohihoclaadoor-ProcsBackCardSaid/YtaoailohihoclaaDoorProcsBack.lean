/- The law ProcsBack returns true for every input: a call and its answer: who called runs again, and is told the answer; who was called is available; the resume key counts once. No condition but that the listed variables read as the program's own text lays them; the card ties them to it. -/
import Derived.Test.YtaoailohihoclaaDoorJEq
import Derived.Test.YtaoailohihoclaaDoorR07
namespace Go.Proofs.YtaoailohihoclaaDoor.procsBack
open Go.ChangeShapes Go.WideShapes Go.ChangeAt Go.RowKit
attribute [local go_sem] Oper.semAt_some
set_option maxRecDepth 8000 in
theorem builtR (c : Int) : Tryd.prog.built 33 [(0, .int .i64 7), (2, .int .i64 1), (3, .int .i64 c)] = some (kl (rK c)).toArray := by kernel_rfl
structure Jbk (w wr : World) (m n : Mg) (c g : Int) : Prop where
  bel : Below w.heap.size w wr
  bm : Blk wr w.heap.size 38 m.cells.toArray
  bn : Blk wr (w.heap.size + 1) 38 n.cells.toArray
  bh : Blk wr (w.heap.size + 2) 61 #[.int .i64 c, .int .i64 g]
theorem Jbk.below {w wr w' : World} {m n : Mg} {c g : Int} (h : Jbk w wr m n c g) (hb : Below wr.heap.size wr w') : Jbk w w' m n c g := ⟨h.bel.trans (hb.mono h.bel.size), h.bm.keep hb, h.bn.keep hb, h.bh.keep hb⟩
theorem Jbk.alloc {w wr : World} {m n : Mg} {c g : Int} (h : Jbk w wr m n c g) (o : Obj) : Jbk w (wr.alloc o) m n c g := h.below ((Below.refl _ _).alloc (Nat.le_refl _) o)
theorem Jbk.fr {w wr w' : World} {m n : Mg} {c g : Int} {base p : Nat} {A : Option Addr} {cap : Nat} {ps : List Nat} {os : List Oj} (h : Jbk w wr m n c g) (hs : StAt wr base p A cap ps os) (hb : w.heap.size ≤ base) (hf : Fr (fun k => k ∈ ps) wr w') : Jbk w w' m n c g := ⟨h.bel.trans (fr_below hf h.bel.size fun j hj q => by
  have := (hs.lt j (.inr (.inr q))).1
  omega), hs.blkF hf h.bm (by decide), hs.blkF hf h.bn (by decide), hs.blkF hf h.bh (by decide)⟩
set_option maxRecDepth 8000 in
theorem kq {m : Mg} (h : ∀ j, j < 3 → ((m.k[j]?).getD zk).k = 1 ∧ ((m.k[j]?).getD zk).ok) : qk m := fun y hy => by
  obtain ⟨i, hi, rfl⟩ := List.mem_iff_getElem.1 hy
  have hi3 : i < 3 := by rw [← m.hk]; exact hi
  have := h i hi3
  rw [List.getElem?_eq_getElem hi, Option.getD_some] at this
  exact ⟨this.2, fun q => by have := q.2.1; omega⟩
set_option maxRecDepth 100000 in
set_option maxHeartbeats 4000000 in
theorem out0 (w : World) (hT : Tab w) (m n : Mg) (c g : Int) (h0 : ¬ m.d.length ≤ 32) : Calls Tryd.prog 6 #[m.val, n.val, .agg #[.int .i64 c, .int .i64 g]] w fun e w' => e = .returned (.bool true) ∧ Below w.heap.size w w' := by
  have hml := m.len
  have hnl := n.len
  have hsm := st_size m.d
  have hsn := st_size n.d
  have HT := Lib.hid hT
  have HJ : Hid (Jbk w (((w.alloc (.cells m.cells.toArray 38)).alloc (.cells n.cells.toArray 38)).alloc (.cells #[.int .i64 c, .int .i64 g] 61)) m n c g) := Lib.hid ⟨(((Below.refl w.heap.size w).alloc (Nat.le_refl _) (.cells m.cells.toArray 38)).alloc (by simp) (.cells n.cells.toArray 38)).alloc (by simp; omega) (.cells #[.int .i64 c, .int .i64 g] 61), ((Blk.new w 38 m.cells.toArray).alloc (.cells n.cells.toArray 38)).alloc (.cells #[.int .i64 c, .int .i64 g] 61), (Blk.new_of (w.alloc (.cells m.cells.toArray 38)) 38 n.cells.toArray (g := w.heap.size + 1) (by simp)).alloc (.cells #[.int .i64 c, .int .i64 g] 61), Blk.new_of ((w.alloc (.cells m.cells.toArray 38)).alloc (.cells n.cells.toArray 38)) 61 #[.int .i64 c, .int .i64 g] (g := w.heap.size + 2) (by simp)⟩
  have m1 := HJ.out.bm.mg.data
  have n1 := HJ.out.bn.mg.data
  have c0 := HJ.out.bh.cell 0
  rw [Nat.zero_add] at m1 n1
  have d0 : decide ((32 : Int) < (m.d.length : Int)) = true := decide_eq_true (by omega)
  clear hT h0
  go_enter Tryd.func6, Tryd.ntmps6
  go_wp2_with (go_at_call 11; refine (known_any _ (HT.out.below HJ.out.bel)).mono ?_; rintro e v9 ⟨rfl, b_⟩; have B9 := Lib.hid (HJ.out.bel.trans (b_.mono (HJ.out.bel).size)); clear b_)
  go_ret
  exact ⟨rfl, B9.out⟩
set_option maxRecDepth 100000 in
set_option maxHeartbeats 4000000 in
theorem out1 (w : World) (hT : Tab w) (m n : Mg) (c g : Int) (h0 : m.d.length ≤ 32) (h1 : ¬ n.d.length ≤ 32) : Calls Tryd.prog 6 #[m.val, n.val, .agg #[.int .i64 c, .int .i64 g]] w fun e w' => e = .returned (.bool true) ∧ Below w.heap.size w w' := by
  have hml := m.len
  have hnl := n.len
  have hsm := st_size m.d
  have hsn := st_size n.d
  have HT := Lib.hid hT
  have HJ : Hid (Jbk w (((w.alloc (.cells m.cells.toArray 38)).alloc (.cells n.cells.toArray 38)).alloc (.cells #[.int .i64 c, .int .i64 g] 61)) m n c g) := Lib.hid ⟨(((Below.refl w.heap.size w).alloc (Nat.le_refl _) (.cells m.cells.toArray 38)).alloc (by simp) (.cells n.cells.toArray 38)).alloc (by simp; omega) (.cells #[.int .i64 c, .int .i64 g] 61), ((Blk.new w 38 m.cells.toArray).alloc (.cells n.cells.toArray 38)).alloc (.cells #[.int .i64 c, .int .i64 g] 61), (Blk.new_of (w.alloc (.cells m.cells.toArray 38)) 38 n.cells.toArray (g := w.heap.size + 1) (by simp)).alloc (.cells #[.int .i64 c, .int .i64 g] 61), Blk.new_of ((w.alloc (.cells m.cells.toArray 38)).alloc (.cells n.cells.toArray 38)) 61 #[.int .i64 c, .int .i64 g] (g := w.heap.size + 2) (by simp)⟩
  have m1 := HJ.out.bm.mg.data
  have n1 := HJ.out.bn.mg.data
  have c0 := HJ.out.bh.cell 0
  rw [Nat.zero_add] at m1 n1
  have d0 : decide ((32 : Int) < (m.d.length : Int)) = false := decide_eq_false (by omega)
  have d1 : decide ((32 : Int) < (n.d.length : Int)) = true := decide_eq_true (by omega)
  clear hT h0 h1
  go_enter Tryd.func6, Tryd.ntmps6
  go_wp2_with (go_at_call 11; refine (known_any _ (HT.out.below HJ.out.bel)).mono ?_; rintro e v9 ⟨rfl, b_⟩; have B9 := Lib.hid (HJ.out.bel.trans (b_.mono (HJ.out.bel).size)); clear b_)
  go_ret
  exact ⟨rfl, B9.out⟩
set_option maxRecDepth 100000 in
set_option maxHeartbeats 4000000 in
theorem out2 (w : World) (hT : Tab w) (m n : Mg) (c g : Int) (h0 : m.d.length ≤ 32) (h1 : n.d.length ≤ 32) (h2 : c < 0) : Calls Tryd.prog 6 #[m.val, n.val, .agg #[.int .i64 c, .int .i64 g]] w fun e w' => e = .returned (.bool true) ∧ Below w.heap.size w w' := by
  have hml := m.len
  have hnl := n.len
  have hsm := st_size m.d
  have hsn := st_size n.d
  have HT := Lib.hid hT
  have HJ : Hid (Jbk w (((w.alloc (.cells m.cells.toArray 38)).alloc (.cells n.cells.toArray 38)).alloc (.cells #[.int .i64 c, .int .i64 g] 61)) m n c g) := Lib.hid ⟨(((Below.refl w.heap.size w).alloc (Nat.le_refl _) (.cells m.cells.toArray 38)).alloc (by simp) (.cells n.cells.toArray 38)).alloc (by simp; omega) (.cells #[.int .i64 c, .int .i64 g] 61), ((Blk.new w 38 m.cells.toArray).alloc (.cells n.cells.toArray 38)).alloc (.cells #[.int .i64 c, .int .i64 g] 61), (Blk.new_of (w.alloc (.cells m.cells.toArray 38)) 38 n.cells.toArray (g := w.heap.size + 1) (by simp)).alloc (.cells #[.int .i64 c, .int .i64 g] 61), Blk.new_of ((w.alloc (.cells m.cells.toArray 38)).alloc (.cells n.cells.toArray 38)) 61 #[.int .i64 c, .int .i64 g] (g := w.heap.size + 2) (by simp)⟩
  have m1 := HJ.out.bm.mg.data
  have n1 := HJ.out.bn.mg.data
  have c0 := HJ.out.bh.cell 0
  rw [Nat.zero_add] at m1 n1
  have d0 : decide ((32 : Int) < (m.d.length : Int)) = false := decide_eq_false (by omega)
  have d1 : decide ((32 : Int) < (n.d.length : Int)) = false := decide_eq_false (by omega)
  have d2 : decide (c < 0) = true := decide_eq_true h2
  clear hT h0 h1 h2
  go_enter Tryd.func6, Tryd.ntmps6
  go_wp2_with (go_at_call 11; refine (known_any _ (HT.out.below HJ.out.bel)).mono ?_; rintro e v9 ⟨rfl, b_⟩; have B9 := Lib.hid (HJ.out.bel.trans (b_.mono (HJ.out.bel).size)); clear b_)
  go_ret
  exact ⟨rfl, B9.out⟩
set_option maxRecDepth 100000 in
set_option maxHeartbeats 4000000 in
theorem out3 (w : World) (hT : Tab w) (m n : Mg) (c g : Int) (h0 : m.d.length ≤ 32) (h1 : n.d.length ≤ 32) (h2 : ¬ c < 0) (h3 : 4294967294 < c) : Calls Tryd.prog 6 #[m.val, n.val, .agg #[.int .i64 c, .int .i64 g]] w fun e w' => e = .returned (.bool true) ∧ Below w.heap.size w w' := by
  have hml := m.len
  have hnl := n.len
  have hsm := st_size m.d
  have hsn := st_size n.d
  have HT := Lib.hid hT
  have HJ : Hid (Jbk w (((w.alloc (.cells m.cells.toArray 38)).alloc (.cells n.cells.toArray 38)).alloc (.cells #[.int .i64 c, .int .i64 g] 61)) m n c g) := Lib.hid ⟨(((Below.refl w.heap.size w).alloc (Nat.le_refl _) (.cells m.cells.toArray 38)).alloc (by simp) (.cells n.cells.toArray 38)).alloc (by simp; omega) (.cells #[.int .i64 c, .int .i64 g] 61), ((Blk.new w 38 m.cells.toArray).alloc (.cells n.cells.toArray 38)).alloc (.cells #[.int .i64 c, .int .i64 g] 61), (Blk.new_of (w.alloc (.cells m.cells.toArray 38)) 38 n.cells.toArray (g := w.heap.size + 1) (by simp)).alloc (.cells #[.int .i64 c, .int .i64 g] 61), Blk.new_of ((w.alloc (.cells m.cells.toArray 38)).alloc (.cells n.cells.toArray 38)) 61 #[.int .i64 c, .int .i64 g] (g := w.heap.size + 2) (by simp)⟩
  have m1 := HJ.out.bm.mg.data
  have n1 := HJ.out.bn.mg.data
  have c0 := HJ.out.bh.cell 0
  rw [Nat.zero_add] at m1 n1
  have d0 : decide ((32 : Int) < (m.d.length : Int)) = false := decide_eq_false (by omega)
  have d1 : decide ((32 : Int) < (n.d.length : Int)) = false := decide_eq_false (by omega)
  have d2 : decide (c < 0) = false := decide_eq_false h2
  have d3 : decide (4294967294 < c) = true := decide_eq_true h3
  clear hT h0 h1 h2 h3
  go_enter Tryd.func6, Tryd.ntmps6
  go_wp2_with (go_at_call 11; refine (known_any _ (HT.out.below HJ.out.bel)).mono ?_; rintro e v9 ⟨rfl, b_⟩; have B9 := Lib.hid (HJ.out.bel.trans (b_.mono (HJ.out.bel).size)); clear b_)
  go_ret
  exact ⟨rfl, B9.out⟩
set_option maxRecDepth 8000 in
theorem k15 {w : World} {g : Nat} {t : TypeId} {u : Oj} {m : Mg} {k : Ky} (h : Blk w g t (handO u m k).cells.toArray) : KeyAt w g 93 k := by
  obtain ⟨y, hy, hk⟩ := h.ob.slot (i := 15) (by decide)
  have := hand_15 u m k
  unfold slt at this
  rw [hy, Option.getD_some] at this
  rw [← this]
  simpa using hk
section
variable {W : World} {base p : Nat} {A : Option Addr} {cap : Nat} {ps : List Nat}
set_option maxRecDepth 8000 in
theorem fin1 {c : Int} (hc : 0 ≤ c ∧ c ≤ 4294967294) (g : Int) {m : Mg} (hd : m.d.length ≤ 32) (hq : qk m) (h : StAt W base p A cap ps [slotAs (callsAs (oKC 1 1) c) 2 (nmk 1), slotAs (oKC 1 1) 2 (nmk 0)]) (hT : TabB base W) : Calls Tryd.prog 16 #[pv p, .int .i64 0, (jS g).val, .int .i64 1, m.val] W fun e w' => e = .returned (.int .i64 0) ∧ StAt w' base p A cap ps (L1 c m) ∧ Fr (fun k => k ∈ ps) W w' := by
  have := inv_all (os := [jR c, jW]) h (two_all (jR_ok ⟨hc.1, by omega⟩) jW_ok) (by decide : 0 < 2) (by decide : 2 ≤ 64) hT 0 (jS g) 1 m
  rw [inv1 hc g hd hq] at this
  exact this
set_option maxRecDepth 8000 in
theorem ftl1 {c : Int} {m : Mg} (hd : m.d.length ≤ 32) (hq : qk m) (h : StAt W base p A cap ps (L1 c m)) (hT : Tab W) : Calls Tryd.prog 22 #[pv p, .int .i64 1] W fun e w' => e = .returned (.tuple #[m.val, .int .i64 0]) ∧ Below W.heap.size W w' := by
  have := tol_all h (by decide : 0 < 2) hT 1
  rw [tol1 c hd hq] at this
  exact this
set_option maxRecDepth 8000 in
theorem fin2 {c : Int} (hc : 0 ≤ c ∧ c ≤ 4294967294) {m n : Mg} (hd : n.d.length ≤ 32) (hqm : qk m) (hq : qk n) (h : StAt W base p A cap ps (L1 c m)) (hT : TabB base W) : Calls Tryd.prog 16 #[pv p, .int .i64 1, (rK c).val, .int .i64 3, n.val] W fun e w' => e = .returned (.int .i64 0) ∧ StAt w' base p A cap ps (L2 c m n) ∧ Fr (fun k => k ∈ ps) W w' := by
  have := inv_all h (L1_all hc hqm) (by decide : 0 < 2) (by decide : 2 ≤ 64) hT 1 (rK c) 3 n
  rw [inv2 hc m hd hq] at this
  exact this
set_option maxRecDepth 8000 in
theorem ftl2 {c : Int} {m n : Mg} (hd : n.d.length ≤ 32) (hq : qk n) (h : StAt W base p A cap ps (L2 c m n)) (hT : Tab W) : Calls Tryd.prog 22 #[pv p, .int .i64 0] W fun e w' => e = .returned (.tuple #[n.val, .int .i64 0]) ∧ Below W.heap.size W w' := by
  have := tol_all h (by decide : 0 < 2) hT 0
  rw [tol2 c m hd hq] at this
  exact this
set_option maxRecDepth 8000 in
theorem fst1 {c : Int} {m n : Mg} (h : StAt W base p A cap ps (L2 c m n)) : Calls Tryd.prog 24 #[pv p, .int .i64 0] W fun e w' => e = .returned (.tuple #[.int .i64 1, .bool true]) ∧ Below W.heap.size W w' := by
  have := stt_all h (by decide : 0 < 2) 0
  rw [st2a c m n] at this
  exact this
set_option maxRecDepth 8000 in
theorem fst2 {c : Int} {m n : Mg} (h : StAt W base p A cap ps (L2 c m n)) : Calls Tryd.prog 24 #[pv p, .int .i64 1] W fun e w' => e = .returned (.tuple #[.int .i64 0, .bool true]) ∧ Below W.heap.size W w' := by
  have := stt_all h (by decide : 0 < 2) 1
  rw [st2b c m n] at this
  exact this
set_option maxRecDepth 8000 in
theorem fpr {c : Int} (hc : 0 ≤ c ∧ c ≤ 4294967294) {m n : Mg} (h : StAt W base p A cap ps (L2 c m n)) (hT : Tab W) : Calls Tryd.prog 19 #[pv p, (rK c).val] W fun e w' => e = .returned zk.val ∧ Below W.heap.size W w' := by
  have := prep_at h (by decide : 0 < 2) hT (rK c)
  rw [prep2 hc m n] at this
  exact this
theorem fmd {c : Int} (hc : 0 ≤ c ∧ c ≤ 4294967294) {A : Option Addr} (hT : Tab W) (hr : RdO W A [slotAs (callsAs (oKC 1 1) c) 2 (nmk 1), slotAs (oKC 1 1) 2 (nmk 0)]) : Calls Tryd.prog 9 #[.slice A 2 2] W fun e w' => ∃ q, e = .returned (pv q) ∧ W.heap.size ≤ q ∧ (∃ A' cap' ps, StAt w' q q A' cap' ps [slotAs (callsAs (oKC 1 1) c) 2 (nmk 1), slotAs (oKC 1 1) 2 (nmk 0)]) ∧ Below W.heap.size W w' := made_yes (cap := 2) hT hr ⟨(by decide : 2 ≤ 20), jR_right (c := c) ⟨hc.1, by omega⟩⟩
set_option maxRecDepth 8000 in
theorem fmdU {c : Int} (hc : 0 ≤ c ∧ c ≤ 4294967294) {U : Oj} (hU : callsAs (oKC 1 1) c = U) {A : Option Addr} (hT : Tab W) (hr : RdO W A [slotAs U 2 (nmk 1), slotAs (oKC 1 1) 2 (nmk 0)]) : Calls Tryd.prog 9 #[.slice A 2 2] W fun e w' => ∃ q, e = .returned (pv q) ∧ W.heap.size ≤ q ∧ (∃ A' cap' ps, StAt w' q q A' cap' ps [slotAs (callsAs (oKC 1 1) c) 2 (nmk 1), slotAs (oKC 1 1) 2 (nmk 0)]) ∧ Below W.heap.size W w' := by
  subst hU
  exact fmd hc hT hr
end
set_option maxRecDepth 100000 in
set_option maxHeartbeats 4000000 in
theorem inb (w : World) (hT : Tab w) (m n : Mg) (c g : Int) (h0 : m.d.length ≤ 32) (h1 : n.d.length ≤ 32) (h2 : 0 ≤ c ∧ c ≤ 4294967294) : Calls Tryd.prog 6 #[m.val, n.val, .agg #[.int .i64 c, .int .i64 g]] w fun e w' => e = .returned (.bool true) ∧ Below w.heap.size w w' := by
  have hml := m.len
  have hnl := n.len
  have hsm := st_size m.d
  have hsn := st_size n.d
  have HT := Lib.hid hT
  have HJ : Hid (Jbk w (((w.alloc (.cells m.cells.toArray 38)).alloc (.cells n.cells.toArray 38)).alloc (.cells #[.int .i64 c, .int .i64 g] 61)) m n c g) := Lib.hid ⟨(((Below.refl w.heap.size w).alloc (Nat.le_refl _) (.cells m.cells.toArray 38)).alloc (by simp) (.cells n.cells.toArray 38)).alloc (by simp; omega) (.cells #[.int .i64 c, .int .i64 g] 61), ((Blk.new w 38 m.cells.toArray).alloc (.cells n.cells.toArray 38)).alloc (.cells #[.int .i64 c, .int .i64 g] 61), (Blk.new_of (w.alloc (.cells m.cells.toArray 38)) 38 n.cells.toArray (g := w.heap.size + 1) (by simp)).alloc (.cells #[.int .i64 c, .int .i64 g] 61), Blk.new_of ((w.alloc (.cells m.cells.toArray 38)).alloc (.cells n.cells.toArray 38)) 61 #[.int .i64 c, .int .i64 g] (g := w.heap.size + 2) (by simp)⟩
  have m1 := HJ.out.bm.mg.data
  have n1 := HJ.out.bn.mg.data
  have c0 := HJ.out.bh.cell 0
  rw [Nat.zero_add] at m1 n1
  have d0 : decide ((32 : Int) < (m.d.length : Int)) = false := decide_eq_false (by omega)
  have d1 : decide ((32 : Int) < (n.d.length : Int)) = false := decide_eq_false (by omega)
  have d2 : decide (c < 0) = false := decide_eq_false (by omega)
  have d3 : decide (4294967294 < c) = false := decide_eq_false (by omega)
  have H0 := Lib.hid h0
  have H1 := Lib.hid h1
  have H2 := Lib.hid h2
  have hwc : IntKind.i64.wrap (c + 1) = c + 1 := wrap64 (by omega)
  clear hT h0 h1 h2
  go_enter Tryd.func6, Tryd.ntmps6
  go_wp2_with fail
  clear m1 n1 c0
  go_loopw [7] (fun k wr => ∃ i : Nat, i ≤ 3 ∧ k = .int .i64 i ∧ (∀ j, j < i → (((m.k[j]?).getD zk).k = 1 ∧ ((m.k[j]?).getD zk).ok) ∧ (((n.k[j]?).getD zk).k = 1 ∧ ((n.k[j]?).getD zk).ok)) ∧ Jbk w wr m n c g) (fun k _ => 4 - (intOf k).toNat)
  case atStart => exact ⟨0, by omega, rfl, fun j hj => absurd hj (Nat.not_lt_zero _), HJ.out⟩
  case round =>
    obtain ⟨i, hi, rfl, hpre, hc⟩ := hrel
    clear HJ
    have HJ := Lib.hid hc
    have HPRE := Lib.hid hpre
    clear hc hpre
    by_cases hlt : i < 3
    · have e0 : decide ((i : Int) < 3) = true := decide_eq_true (by omega)
      have e1 : (i : Int) < 3 := by omega
      have HLT := Lib.hid hlt
      obtain ⟨y, hy⟩ : ∃ y, m.k[i]? = some y := ⟨_, List.getElem?_eq_getElem (by rw [m.hk]; exact hlt)⟩
      obtain ⟨z, hz⟩ : ∃ z, n.k[i]? = some z := ⟨_, List.getElem?_eq_getElem (by rw [n.hk]; exact hlt)⟩
      have HY := Lib.hid hy
      have HZ := Lib.hid hz
      have HKY : Hid (KeyAt wr w.heap.size (2 + i * 6) y) := Lib.hid (by have := HJ.out.bm.mg.key hlt hy; rwa [Nat.zero_add] at this)
      have HKZ : Hid (KeyAt wr (w.heap.size + 1) (2 + i * 6) z) := Lib.hid (by have := HJ.out.bn.mg.key hlt hz; rwa [Nat.zero_add] at this)
      have ky := HKY.out.1
      have kz := HKZ.out.1
      clear hlt hy hz
      by_cases hyk : y.k = 1
      · have d4 : (y.k != 1) = false := by simpa using hyk
        by_cases hzk : z.k = 1
        · have d5 : (z.k != 1) = false := by simpa using hzk
          have HYK := Lib.hid hyk
          have HZK := Lib.hid hzk
          clear hyk hzk
          by_cases hyo : y.ok
          · have HYO := Lib.hid hyo
            have d6 : (y.chk != 0) = false := by rw [Ky.chk_yes hyo]; rfl
            clear hyo
            by_cases hzo : z.ok
            · have HZO := Lib.hid hzo
              have d7 : (z.chk != 0) = false := by rw [Ky.chk_yes hzo]; rfl
              clear hzo
              go_wp2_with (first
                | (show wpList _ _ _ ({ dst := some 69, op := .load _ _, type := _, pos := _, after := _, guard := _ } :: _) _ _; refine wpList_yields (S := fun w' => KeyAt w' w.heap.size (2 + i * 6) y) (y_kyJ (by rfl) (.tmp 68) (by rfl) w.heap.size (2 + i * 6) (by rfl) y (fun _ h => h)) HKY.out ?_; have N0 := Lib.hid True.intro)
                | (go_at_call 21; clear N0; refine (rchk_any y _).mono ?_; rintro e w1 ⟨rfl, b1⟩; have HJ1 := Lib.hid (HJ.out.below b1); have HKZ1 := Lib.hid (HKZ.out.keep b1); clear b1 ky kz)
                | (show wpList _ _ _ ({ dst := some 77, op := .load _ _, type := _, pos := _, after := _, guard := _ } :: _) _ _; refine wpList_yields (S := fun w' => KeyAt w' (w.heap.size + 1) (2 + i * 6) z) (y_kyJ (by rfl) (.tmp 76) (by rfl) (w.heap.size + 1) (2 + i * 6) (by rfl) z (fun _ h => h)) HKZ1.out ?_)
                | (go_at_call 21; refine (rchk_any z _).mono ?_; rintro e w2 ⟨rfl, b2⟩; have HJ2 := Lib.hid (HJ1.out.below b2); clear b2))
              go_roundw
              case rel =>
                refine ⟨i + 1, by have := HLT.out; omega, by go_num, fun j hj => ?_, HJ2.out⟩
                by_cases hji : j = i
                · subst hji
                  rw [HY.out, HZ.out]
                  exact ⟨⟨HYK.out, HYO.out⟩, ⟨HZK.out, HZO.out⟩⟩
                · exact HPRE.out j (by omega)
              case measure => simp [intOf]; omega
            · have d7 : (z.chk != 0) = true := by rw [Ky.chk_no hzo]; rfl
              clear hzo
              go_wp2_with (first
                | (show wpList _ _ _ ({ dst := some 69, op := .load _ _, type := _, pos := _, after := _, guard := _ } :: _) _ _; refine wpList_yields (S := fun w' => KeyAt w' w.heap.size (2 + i * 6) y) (y_kyJ (by rfl) (.tmp 68) (by rfl) w.heap.size (2 + i * 6) (by rfl) y (fun _ h => h)) HKY.out ?_; have N0 := Lib.hid True.intro)
                | (go_at_call 21; clear N0; refine (rchk_any y _).mono ?_; rintro e w1 ⟨rfl, b1⟩; have HJ1 := Lib.hid (HJ.out.below b1); have HKZ1 := Lib.hid (HKZ.out.keep b1); clear b1 ky kz)
                | (show wpList _ _ _ ({ dst := some 77, op := .load _ _, type := _, pos := _, after := _, guard := _ } :: _) _ _; refine wpList_yields (S := fun w' => KeyAt w' (w.heap.size + 1) (2 + i * 6) z) (y_kyJ (by rfl) (.tmp 76) (by rfl) (w.heap.size + 1) (2 + i * 6) (by rfl) z (fun _ h => h)) HKZ1.out ?_)
                | (go_at_call 21; refine (rchk_any z _).mono ?_; rintro e w2 ⟨rfl, b2⟩; have HJ2 := Lib.hid (HJ1.out.below b2); clear b2)
                | (go_at_call 11; refine (known_any _ (HT.out.below HJ2.out.bel)).mono ?_; rintro e v9 ⟨rfl, b_⟩; have B9 := Lib.hid (HJ2.out.bel.trans (b_.mono (HJ2.out.bel).size)); clear b_))
              go_ret
              exact ⟨rfl, B9.out⟩
          · have d6 : (y.chk != 0) = true := by rw [Ky.chk_no hyo]; rfl
            clear hyo
            go_wp2_with (first
              | (show wpList _ _ _ ({ dst := some 69, op := .load _ _, type := _, pos := _, after := _, guard := _ } :: _) _ _; refine wpList_yields (S := fun w' => KeyAt w' w.heap.size (2 + i * 6) y) (y_kyJ (by rfl) (.tmp 68) (by rfl) w.heap.size (2 + i * 6) (by rfl) y (fun _ h => h)) HKY.out ?_; have N0 := Lib.hid True.intro)
              | (go_at_call 21; refine (rchk_any y _).mono ?_; rintro e w1 ⟨rfl, b1⟩; have HJ1 := Lib.hid (HJ.out.below b1); clear b1 ky kz)
              | (go_at_call 11; refine (known_any _ (HT.out.below HJ1.out.bel)).mono ?_; rintro e v9 ⟨rfl, b_⟩; have B9 := Lib.hid (HJ1.out.bel.trans (b_.mono (HJ1.out.bel).size)); clear b_))
            go_ret
            exact ⟨rfl, B9.out⟩
        · have d5 : (z.k != 1) = true := by simpa using hzk
          clear hyk hzk
          go_wp2_with (go_at_call 11; refine (known_any _ (HT.out.below HJ.out.bel)).mono ?_; rintro e v9 ⟨rfl, b_⟩; have B9 := Lib.hid (HJ.out.bel.trans (b_.mono (HJ.out.bel).size)); clear b_)
          go_ret
          exact ⟨rfl, B9.out⟩
      · have d4 : (y.k != 1) = true := by simpa using hyk
        clear hyk
        go_wp2_with (go_at_call 11; refine (known_any _ (HT.out.below HJ.out.bel)).mono ?_; rintro e v9 ⟨rfl, b_⟩; have B9 := Lib.hid (HJ.out.bel.trans (b_.mono (HJ.out.bel).size)); clear b_)
        go_ret
        exact ⟨rfl, B9.out⟩
    · obtain rfl : i = 3 := by omega
      have e0 : decide ((3 : Int) < 3) = false := rfl
      have hqm : qk m := kq fun j hj => (HPRE.out j hj).1
      have hqn : qk n := kq fun j hj => (HPRE.out j hj).2
      have hz := z34
      have hzl := oz_len
      have hmz := zM
      have hmzl := mz.len
      have hol := (oKC 1 1).len
      obtain ⟨U, hU⟩ : ∃ U, callsAs (oKC 1 1) c = U := ⟨_, rfl⟩
      have HBU := Lib.hid (builtOc c)
      rw [hU] at HBU
      have hol2 := U.len
      have Ou0 := Lib.hid ((Blk.new wr 56 oz.cells.toArray).alloc (.cells oz.cells.toArray 56))
      have Ov0 := Lib.hid (Blk.new_of (wr.alloc (.cells oz.cells.toArray 56)) 56 oz.cells.toArray (g := wr.heap.size + 1) (by simp))
      have HBo0 := Lib.hid (((Below.refl wr.heap.size wr).alloc (Nat.le_refl _) (.cells oz.cells.toArray 56)).alloc (by simp) (.cells oz.cells.toArray 56))
      have HMD := Lib.hid (fun (W : World) (A : Option Addr) (hT : Tab W) (hr : RdO W A [slotAs U 2 (nmk 1), slotAs (oKC 1 1) 2 (nmk 0)]) => fmdU H2.out hU hT hr)
      clear hU
      have HI1 := Lib.hid (fun (W : World) (base p : Nat) (A : Option Addr) (cap : Nat) (ps : List Nat) (h : StAt W base p A cap ps [slotAs (callsAs (oKC 1 1) c) 2 (nmk 1), slotAs (oKC 1 1) 2 (nmk 0)]) (hT : TabB base W) => fin1 H2.out g H0.out hqm h hT)
      have HT1 := Lib.hid (fun (W : World) (base p : Nat) (A : Option Addr) (cap : Nat) (ps : List Nat) (h : StAt W base p A cap ps (L1 c m)) (hT : Tab W) => ftl1 H0.out hqm h hT)
      have HI2 := Lib.hid (fun (W : World) (base p : Nat) (A : Option Addr) (cap : Nat) (ps : List Nat) (h : StAt W base p A cap ps (L1 c m)) (hT : TabB base W) => fin2 H2.out H1.out hqm hqn h hT)
      have HT2 := Lib.hid (fun (W : World) (base p : Nat) (A : Option Addr) (cap : Nat) (ps : List Nat) (h : StAt W base p A cap ps (L2 c m n)) (hT : Tab W) => ftl2 H1.out hqn h hT)
      have HA1 := Lib.hid (fun (W : World) (base p : Nat) (A : Option Addr) (cap : Nat) (ps : List Nat) (h : StAt W base p A cap ps (L2 c m n)) => fst1 h)
      have HA2 := Lib.hid (fun (W : World) (base p : Nat) (A : Option Addr) (cap : Nat) (ps : List Nat) (h : StAt W base p A cap ps (L2 c m n)) => fst2 h)
      have HPP := Lib.hid (fun (W : World) (base p : Nat) (A : Option Addr) (cap : Nat) (ps : List Nat) (h : StAt W base p A cap ps (L2 c m n)) (hT : Tab W) => fpr H2.out h hT)
      have cc := HJ.out.bh.cell 0
      have hgl0 := (handO (callsAs (slotAs (jR c) 2 (nmk 2)) (c + 1)) n zk).len
      have hgl1 := (handO jW m (rK c)).len
      have M0 := Lib.hid True.intro
      have M1 := Lib.hid True.intro
      have M2 := Lib.hid True.intro
      have M3 := Lib.hid True.intro
      go_wp2_with (first
        | ((with_reducible show wpList _ _ _ ({ dst := some 84, op := .build _ _, type := _, pos := _, after := _, guard := _ } :: _) _ _); refine wpList_yields (S := fun _ => True) (y_bl3 (by rfl) (.const (.int .i64 1)) (.const (.int .i64 1)) (.tmp 83) (by rfl) (by rfl) (by rfl) (by rfl) HBU.out) trivial ?_)
        | ((with_reducible show wpList _ _ _ ({ dst := some 85, op := .build _ _, type := _, pos := _, after := _, guard := _ } :: _) _ _); refine wpList_yields (S := fun _ => True) (y_build2 (by rfl) (by rfl) (builtO 1 1)) trivial ?_)
        | ((with_reducible show wpList _ _ _ ({ dst := none, op := .store _ (.tmp 8) (.tmp 84), type := _, pos := _, after := _, guard := _ } :: _) _ _); refine wpList_store_big (l0 := Oj.cells oz) (l := Oj.cells U) Ou0.out rfl (.tmp 8) (.tmp 84) (ty := 56) rfl (by rfl) (by rfl) (by rw [Oj.len]; exact size34) (by rw [Oj.len, Oj.len]) (Oj.one _) ?_; have Ou1 := Lib.hid (Ou0.out.setRow (Oj.cells U).toArray); have Ov1 := Lib.hid (Blk.row_far (b := wr.heap.size) Ov0.out (by omega) (Oj.cells U).toArray); have HBo1 := Lib.hid (below_setRow HBo0.out (show wr.heap.size ≤ wr.heap.size by omega) (Oj.cells U).toArray); generalize World.setRow _ _ (Oj.cells U).toArray = WA0 at Ou1 Ov1 HBo1 ⊢)
        | ((with_reducible show wpList _ _ _ ({ dst := none, op := .store _ (.tmp 9) (.tmp 85), type := _, pos := _, after := _, guard := _ } :: _) _ _); refine wpList_store_big (l0 := Oj.cells oz) (l := Oj.cells (oKC 1 1)) Ov1.out rfl (.tmp 9) (.tmp 85) (ty := 56) rfl (by rfl) (by rfl) (by rw [Oj.len]; exact size34) (by rw [Oj.len, Oj.len]) (Oj.one _) ?_; have Ov2 := Lib.hid (Ov1.out.setRow (Oj.cells (oKC 1 1)).toArray); have Ou2 := Lib.hid (Blk.row_far (b := wr.heap.size + 1) Ou1.out (by omega) (Oj.cells (oKC 1 1)).toArray); have HBo2 := Lib.hid (below_setRow HBo1.out (show wr.heap.size ≤ wr.heap.size + 1 by omega) (Oj.cells (oKC 1 1)).toArray); generalize World.setRow _ _ (Oj.cells (oKC 1 1)).toArray = WA1 at Ov2 Ou2 HBo2 ⊢)
        | ((with_reducible show wpList _ _ _ ({ dst := some 86, op := .build _ _, type := _, pos := _, after := _, guard := _ } :: _) _ _); refine wpList_yields (S := fun _ => True) (y_build2 (by rfl) (by rfl) (builtN 1 1)) trivial ?_)
        | ((with_reducible show wpList _ _ _ ({ dst := some 87, op := .build _ _, type := _, pos := _, after := _, guard := _ } :: _) _ _); refine wpList_yields (S := fun _ => True) (y_bl1 (by rfl) (.const (.int .i64 1)) (by rfl) (by rfl) (builtK1 1)) trivial ?_)
        | ((with_reducible show wpList _ _ _ ({ dst := none, op := .store _ (.tmp 89) (.tmp 86), type := _, pos := _, after := _, guard := _ } :: _) _ _); refine wpList_store_in Ou2.out rfl (.tmp 89) (.tmp 86) (ty := 33) (l := kl (nmk 1)) (off := 15) (by rfl) (by rfl) (by rfl) size30 (by rw [Oj.len]; exact (by decide : 15 + 6 ≤ 163)) (kl_one _) (slot_fit U 2 (by decide) (nmk 1)) ?_; have Ou3 := Lib.hid (Ou2.out.setRow (Oj.cells (slotAs U 2 (nmk 1))).toArray); have Ov3 := Lib.hid (Blk.row_far (b := wr.heap.size) Ov2.out (by omega) (Oj.cells (slotAs U 2 (nmk 1))).toArray); have HBo3 := Lib.hid (below_setRow HBo2.out (show wr.heap.size ≤ wr.heap.size by omega) (Oj.cells (slotAs U 2 (nmk 1))).toArray); generalize World.setRow _ _ (Oj.cells (slotAs U 2 (nmk 1))).toArray = WA2 at Ou3 Ov3 HBo3 ⊢)
        | ((with_reducible show wpList _ _ _ ({ dst := none, op := .store _ (.tmp 91) (.tmp 87), type := _, pos := _, after := _, guard := _ } :: _) _ _); refine wpList_store_in Ov3.out rfl (.tmp 91) (.tmp 87) (ty := 33) (l := kl (nmk 0)) (off := 15) (by rfl) (by rfl) (by rfl) size30 (by rw [Oj.len]; exact (by decide : 15 + 6 ≤ 163)) (kl_one _) (slot_fit (oKC 1 1) 2 (by decide) (nmk 0)) ?_; have Ov4 := Lib.hid (Ov3.out.setRow (Oj.cells (slotAs (oKC 1 1) 2 (nmk 0))).toArray); have Ou4 := Lib.hid (Blk.row_far (b := wr.heap.size + 1) Ou3.out (by omega) (Oj.cells (slotAs (oKC 1 1) 2 (nmk 0))).toArray); have HBo4 := Lib.hid (below_setRow HBo3.out (show wr.heap.size ≤ wr.heap.size + 1 by omega) (Oj.cells (slotAs (oKC 1 1) 2 (nmk 0))).toArray); generalize World.setRow _ _ (Oj.cells (slotAs (oKC 1 1) 2 (nmk 0))).toArray = WA3 at Ov4 Ou4 HBo4 ⊢)
        | ((with_reducible show wpList _ _ _ ({ dst := some 92, op := .load _ _, type := _, pos := _, after := _, guard := _ } :: _) _ _); refine wpList_yields (S := fun w' => ObAt w' (wr.heap.size) 0 (slotAs U 2 (nmk 1))) (y_ob (by rfl) (.tmp 8) (by rfl) (wr.heap.size) 0 (by rfl) (slotAs U 2 (nmk 1)) (fun _ h => h)) Ou4.out.ob ?_)
        | ((with_reducible show wpList _ _ _ ({ dst := some 93, op := .load _ _, type := _, pos := _, after := _, guard := _ } :: _) _ _); refine wpList_yields (S := fun w' => ObAt w' (wr.heap.size + 1) 0 (slotAs (oKC 1 1) 2 (nmk 0))) (y_ob (by rfl) (.tmp 9) (by rfl) (wr.heap.size + 1) 0 (by rfl) (slotAs (oKC 1 1) 2 (nmk 0)) (fun _ h => h)) Ov4.out.ob ?_)
        | ((with_reducible show wpList _ _ _ ({ dst := some 94, op := .buildSlice _ _ _, type := _, pos := _, after := _, guard := _ } :: _) _ _); refine wpList_bs2 rfl (.tmp 92) (.tmp 93) (by rfl) (slotAs U 2 (nmk 1)) (slotAs (oKC 1 1) 2 (nmk 0)) (by rfl) (by rfl) ?_; have HBs := Lib.hid (HBo4.out.alloc HBo4.out.size (.cells (Oj.cells (slotAs U 2 (nmk 1)) ++ Oj.cells (slotAs (oKC 1 1) 2 (nmk 0))).toArray 56)); have HRs := Lib.hid (rdo_two (Blk.new WA3 56 (Oj.cells (slotAs U 2 (nmk 1)) ++ Oj.cells (slotAs (oKC 1 1) 2 (nmk 0))).toArray)); clear Ou0 Ov0 HBo0 Ou1 Ov1 HBo1 Ou2 Ov2 HBo2 Ou3 Ov3 HBo3)
        | (go_at_call 9; refine (HMD.out _ _ (HT.out.below (HJ.out.bel.trans (HBs.out.mono HJ.out.bel.size))) HRs.out).mono ?_; rintro e w1 ⟨q, rfl, hq, ⟨A1, cap1, ps1, hs⟩, b1⟩; have HJ1 := Lib.hid ((HJ.out.below HBs.out).below b1); have HS1 := Lib.hid hs; have HGQ := Lib.hid (Nat.le_trans (HJ.out.below HBs.out).bel.size hq); have HTB := Lib.hid (TabB.of HT.out HJ1.out.bel HGQ.out); have hg1 := HJ1.out.bh.cell 1; clear b1 hs hq)
        | ((with_reducible show wpList _ _ _ ({ dst := some 99, op := .build _ _, type := _, pos := _, after := _, guard := _ } :: _) _ _); refine wpList_yields (S := fun _ => True) (y_bl4 (by rfl) (.const (.int .i64 6)) (.const (.int .i64 1)) (.const (.int .i64 1)) (.tmp 98) (by rfl) (by rfl) (by rfl) (by rfl) (by rfl) (builtS4 g)) trivial ?_)
        | ((with_reducible show wpList _ _ _ ({ dst := some 100, op := .load _ _, type := _, pos := _, after := _, guard := _ } :: _) _ _); refine wpList_yields (S := fun w' => MgAt w' w.heap.size 0 m) (y_mg (by rfl) (.tmp 3) (by rfl) w.heap.size 0 (by rfl) m (fun _ h => h)) HJ1.out.bm.mg ?_)
        | (go_at_call 16; clear M0; refine (HI1.out _ _ _ _ _ _ HS1.out HTB.out).mono ?_; rintro e w2 ⟨rfl, hs2, f2⟩; have HS2 := Lib.hid hs2; have HJ2 := Lib.hid (HJ1.out.fr HS1.out HGQ.out f2); have HTB2 := Lib.hid (HTB.out.fr HS1.out f2); clear f2 hs2 hg1)
        | (go_at_call 22; clear M1; refine (HT1.out _ _ _ _ _ _ HS2.out HTB2.out.tab).mono ?_; rintro e w3 ⟨rfl, b3⟩; have HJ3 := Lib.hid ((HJ2.out.below b3).alloc (.cells m.cells.toArray 38)); have HS3 := Lib.hid ((HS2.out.below b3).alloc (.cells m.cells.toArray 38)); have HP3 := Lib.hid (Blk.new w3 38 m.cells.toArray); have HTB3 := Lib.hid (HTB2.out.up HS2.out (b3.alloc b3.size (.cells m.cells.toArray 38))); clear b3)
        | ((with_reducible show wpList _ _ _ ({ dst := none, op := .store _ (.tmp 12) (.tmp 105), type := _, pos := _, after := _, guard := _ } :: _) _ _); refine wpList_store_new (l := m.cells) (l0 := mz.cells) (ty := 38) rfl (.tmp 12) (.tmp 105) (by rfl) w3.heap.size rfl (by rfl) (by rfl) (by rw [Mg.len]; exact sizeM) (by rw [Mg.len, Mg.len]) (Mg.one _) ?_)
        | (go_at_call 23; clear M2; refine (get_at HS3.out 1 (show 1 < 2 by decide)).mono ?_; rintro e w4 ⟨rfl, b4⟩; have HJ4 := Lib.hid ((HJ3.out.below b4).alloc (.cells (handO jW m (rK c)).cells.toArray 56)); have HS4 := Lib.hid ((HS3.out.below b4).alloc (.cells (handO jW m (rK c)).cells.toArray 56)); have HP4 := Lib.hid ((HP3.out.keep b4).alloc (.cells (handO jW m (rK c)).cells.toArray 56)); have HO4 := Lib.hid (Blk.new w4 56 (handO jW m (rK c)).cells.toArray); have HTB4 := Lib.hid (HTB3.out.up HS3.out (b4.alloc b4.size (.cells (handO jW m (rK c)).cells.toArray 56))); clear b4)
        | ((with_reducible show wpList _ _ _ ({ dst := none, op := .store _ (.tmp 14) (.tmp 110), type := _, pos := _, after := _, guard := _ } :: _) _ _); refine wpList_store_last rfl (.tmp 14) (.tmp 110) rfl w4.heap.size rfl (by rfl) (handO jW m (rK c)) oz (by rfl) ?_)
        | ((with_reducible show wpList _ _ _ ({ dst := some 114, op := .load _ _, type := _, pos := _, after := _, guard := _ } :: _) _ _); refine wpList_yields (S := fun w' => KeyAt w' w4.heap.size 93 (rK c)) (y_kyJ (by rfl) (.tmp 113) (by rfl) w4.heap.size 93 (by rfl) (rK c) (fun _ h => h)) (k15 HO4.out) ?_; have HJ5 := Lib.hid (HJ4.out.alloc (.cells (kl (rK c)).toArray 33)); have HS5 := Lib.hid (HS4.out.alloc (.cells (kl (rK c)).toArray 33)); have HP5 := Lib.hid (HP4.out.alloc (.cells (kl (rK c)).toArray 33)); have HK5 := Lib.hid (Blk.new_of (w4.alloc (.cells (handO jW m (rK c)).cells.toArray 56)) 33 (kl (rK c)).toArray (g := w4.heap.size + 1) (by simp)); have HTB5 := Lib.hid (HTB4.out.up HS4.out ((Below.refl _ _).alloc (Nat.le_refl _) (.cells (kl (rK c)).toArray 33))))
        | ((with_reducible show wpList _ _ _ ({ dst := none, op := .store _ (.tmp 16) (.tmp 114), type := _, pos := _, after := _, guard := _ } :: _) _ _); refine wpList_store_new (l := kl (rK c)) (l0 := kl zk) (ty := 33) rfl (.tmp 16) (.tmp 114) (by rfl) (w4.heap.size + 1) (by simp) (by rfl) (by rfl) size30 rfl (kl_one _) ?_)
        | ((with_reducible show wpList _ _ _ ({ dst := some 116, op := .load _ _, type := _, pos := _, after := _, guard := _ } :: _) _ _); refine wpList_yields (S := fun w' => KeyAt w' (w4.heap.size + 1) 0 (rK c)) (y_kyJ (by rfl) (.tmp 16) (by rfl) (w4.heap.size + 1) 0 (by rfl) (rK c) (fun _ h => h)) HK5.out.kat ?_)
        | ((with_reducible show wpList _ _ _ ({ dst := some 117, op := .load _ _, type := _, pos := _, after := _, guard := _ } :: _) _ _); refine wpList_yields (S := fun w' => MgAt w' (w.heap.size + 1) 0 n) (y_mg (by rfl) (.tmp 4) (by rfl) (w.heap.size + 1) 0 (by rfl) n (fun _ h => h)) HJ5.out.bn.mg ?_)
        | (go_at_call 16; refine (HI2.out _ _ _ _ _ _ HS5.out HTB5.out).mono ?_; rintro e w6 ⟨rfl, hs6, f6⟩; have HS6 := Lib.hid hs6; have HJ6 := Lib.hid (HJ5.out.fr HS5.out HGQ.out f6); have HTB6 := Lib.hid (HTB5.out.fr HS5.out f6); have HP6 := Lib.hid (HS5.out.blkF f6 HP5.out (by decide)); have HK6 := Lib.hid (HS5.out.blkF f6 HK5.out (by decide)); clear f6 hs6)
        | (go_at_call 22; refine (HT2.out _ _ _ _ _ _ HS6.out HTB6.out.tab).mono ?_; rintro e w7 ⟨rfl, b7⟩; have HJ7 := Lib.hid ((HJ6.out.below b7).alloc (.cells n.cells.toArray 38)); have HS7 := Lib.hid ((HS6.out.below b7).alloc (.cells n.cells.toArray 38)); have HP7 := Lib.hid ((HP6.out.keep b7).alloc (.cells n.cells.toArray 38)); have HK7 := Lib.hid ((HK6.out.keep b7).alloc (.cells n.cells.toArray 38)); have HQ7 := Lib.hid (Blk.new w7 38 n.cells.toArray); have HTB7 := Lib.hid (HTB6.out.up HS6.out (b7.alloc b7.size (.cells n.cells.toArray 38))); clear b7)
        | ((with_reducible show wpList _ _ _ ({ dst := none, op := .store _ (.tmp 18) (.tmp 122), type := _, pos := _, after := _, guard := _ } :: _) _ _); refine wpList_store_new (l := n.cells) (l0 := mz.cells) (ty := 38) rfl (.tmp 18) (.tmp 122) (by rfl) w7.heap.size rfl (by rfl) (by rfl) (by rw [Mg.len]; exact sizeM) (by rw [Mg.len, Mg.len]) (Mg.one _) ?_)
        | (go_at_call 24; clear M3; refine (HA1.out _ _ _ _ _ _ HS7.out).mono ?_; rintro e w8 ⟨rfl, b8⟩; have HJ8 := Lib.hid (HJ7.out.below b8); have HS8 := Lib.hid (HS7.out.below b8); have HP8 := Lib.hid (HP7.out.keep b8); have HK8 := Lib.hid (HK7.out.keep b8); have HQ8 := Lib.hid (HQ7.out.keep b8); have HTB8 := Lib.hid (HTB7.out.up HS7.out b8); clear b8)
        | (go_at_call 24; refine (HA2.out _ _ _ _ _ _ HS8.out).mono ?_; rintro e w9 ⟨rfl, b9⟩; have HJ9 := Lib.hid (HJ8.out.below b9); have HS9 := Lib.hid (HS8.out.below b9); have HP9 := Lib.hid (HP8.out.keep b9); have HK9 := Lib.hid (HK8.out.keep b9); have HQ9 := Lib.hid (HQ8.out.keep b9); have HTB9 := Lib.hid (HTB8.out.up HS8.out b9); clear b9)
        | (go_at_call 23; refine (get_at HS9.out 0 (show 0 < 2 by decide)).mono ?_; rintro e wa ⟨rfl, ba⟩; have HJa := Lib.hid ((HJ9.out.below ba).alloc (.cells (handO (callsAs (slotAs (jR c) 2 (nmk 2)) (c + 1)) n zk).cells.toArray 56)); have HSa := Lib.hid ((HS9.out.below ba).alloc (.cells (handO (callsAs (slotAs (jR c) 2 (nmk 2)) (c + 1)) n zk).cells.toArray 56)); have HPa := Lib.hid ((HP9.out.keep ba).alloc (.cells (handO (callsAs (slotAs (jR c) 2 (nmk 2)) (c + 1)) n zk).cells.toArray 56)); have HKa := Lib.hid ((HK9.out.keep ba).alloc (.cells (handO (callsAs (slotAs (jR c) 2 (nmk 2)) (c + 1)) n zk).cells.toArray 56)); have HQa := Lib.hid ((HQ9.out.keep ba).alloc (.cells (handO (callsAs (slotAs (jR c) 2 (nmk 2)) (c + 1)) n zk).cells.toArray 56)); have HOa := Lib.hid (Blk.new wa 56 (handO (callsAs (slotAs (jR c) 2 (nmk 2)) (c + 1)) n zk).cells.toArray); have HTBa := Lib.hid (HTB9.out.up HS9.out (ba.alloc ba.size (.cells (handO (callsAs (slotAs (jR c) 2 (nmk 2)) (c + 1)) n zk).cells.toArray 56))); have hca : (wa.alloc (.cells (handO (callsAs (slotAs (jR c) 2 (nmk 2)) (c + 1)) n zk).cells.toArray 56)).cell? ⟨wa.heap.size, 2, none⟩ = some (.int .i64 (c + 1)) := HOa.out.cell 2; have hcb := HJa.out.bh.cell 0; clear ba)
        | ((with_reducible show wpList _ _ _ ({ dst := none, op := .store _ (.tmp 24) (.tmp 137), type := _, pos := _, after := _, guard := _ } :: _) _ _); refine wpList_store_last rfl (.tmp 24) (.tmp 137) rfl wa.heap.size rfl (by rfl) (handO (callsAs (slotAs (jR c) 2 (nmk 2)) (c + 1)) n zk) oz (by rfl) ?_)
        | ((with_reducible show wpList _ _ _ ({ dst := some 154, op := .load _ _, type := _, pos := _, after := _, guard := _ } :: _) _ _); refine wpList_yields (S := fun w' => MgAt w' w3.heap.size 0 m) (y_mg (by rfl) (.tmp 12) (by rfl) w3.heap.size 0 (by rfl) m (fun _ h => h)) HPa.out.mg ?_)
        | ((with_reducible show wpList _ _ _ ({ dst := some 155, op := .load _ _, type := _, pos := _, after := _, guard := _ } :: _) _ _); refine wpList_yields (S := fun w' => MgAt w' w.heap.size 0 m) (y_mg (by rfl) (.tmp 3) (by rfl) w.heap.size 0 (by rfl) m (fun _ h => h)) HJa.out.bm.mg ?_)
        | ((with_reducible show wpList _ _ _ ({ dst := some 156, op := .binOp _ _ _ _ _, type := _, pos := _, after := _, guard := _ } :: _) _ _); refine wpList_yields (S := fun _ => True) (y_mgeq (by rfl) (by rfl) m (by rfl) (by rfl)) trivial ?_)
        | ((with_reducible show wpList _ _ _ ({ dst := some 159, op := .load _ _, type := _, pos := _, after := _, guard := _ } :: _) _ _); refine wpList_yields (S := fun w' => MgAt w' w7.heap.size 0 n) (y_mg (by rfl) (.tmp 18) (by rfl) w7.heap.size 0 (by rfl) n (fun _ h => h)) HQa.out.mg ?_)
        | ((with_reducible show wpList _ _ _ ({ dst := some 160, op := .load _ _, type := _, pos := _, after := _, guard := _ } :: _) _ _); refine wpList_yields (S := fun w' => MgAt w' (w.heap.size + 1) 0 n) (y_mg (by rfl) (.tmp 4) (by rfl) (w.heap.size + 1) 0 (by rfl) n (fun _ h => h)) HJa.out.bn.mg ?_)
        | ((with_reducible show wpList _ _ _ ({ dst := some 161, op := .binOp _ _ _ _ _, type := _, pos := _, after := _, guard := _ } :: _) _ _); refine wpList_yields (S := fun _ => True) (y_mgeq (by rfl) (by rfl) n (by rfl) (by rfl)) trivial ?_)
        | ((with_reducible show wpList _ _ _ ({ dst := some 172, op := .load _ _, type := _, pos := _, after := _, guard := _ } :: _) _ _); refine wpList_yields (S := fun w' => KeyAt w' (w4.heap.size + 1) 0 (rK c)) (y_kyJ (by rfl) (.tmp 16) (by rfl) (w4.heap.size + 1) 0 (by rfl) (rK c) (fun _ h => h)) HKa.out.kat ?_)
        | ((with_reducible show wpList _ _ _ ({ dst := some 175, op := .build _ _, type := _, pos := _, after := _, guard := _ } :: _) _ _); refine wpList_yields (S := fun _ => True) (y_bl3 (by rfl) (.const (.int .i64 7)) (.const (.int .i64 1)) (.tmp 174) (by rfl) (by rfl) (by rfl) (by rfl) (builtR c)) trivial ?_)
        | ((with_reducible show wpList _ _ _ ({ dst := some 176, op := .binOp _ _ _ _ _, type := _, pos := _, after := _, guard := _ } :: _) _ _); refine wpList_yields (S := fun _ => True) (y_kyeqJ (by rfl) (by rfl) (rK c) (by rfl) (by rfl)) trivial ?_)
        | ((with_reducible show wpList _ _ _ ({ dst := some 188, op := .load _ _, type := _, pos := _, after := _, guard := _ } :: _) _ _); refine wpList_yields (S := fun w' => KeyAt w' (w4.heap.size + 1) 0 (rK c)) (y_kyJ (by rfl) (.tmp 16) (by rfl) (w4.heap.size + 1) 0 (by rfl) (rK c) (fun _ h => h)) HKa.out.kat ?_)
        | (go_at_call 19; refine (HPP.out _ _ _ _ _ _ HSa.out HTBa.out.tab).mono ?_; rintro e wb ⟨rfl, bb⟩; have HJb := Lib.hid (HJa.out.below bb); clear bb hca hcb)
        | ((with_reducible show wpList _ _ _ ({ dst := some 190, op := .build _ _, type := _, pos := _, after := _, guard := _ } :: _) _ _); refine wpList_yields (S := fun _ => True) (y_build (by rfl) (by rfl) built30) trivial ?_)
        | ((with_reducible show wpList _ _ _ ({ dst := some 191, op := .binOp _ _ _ _ _, type := _, pos := _, after := _, guard := _ } :: _) _ _); refine wpList_yields (S := fun _ => True) (y_kyeqJ (by rfl) (by rfl) zk (by rfl) (by rfl)) trivial ?_)
        | (go_at_call 11; refine (known_any _ (HT.out.below HJb.out.bel)).mono ?_; rintro e v9 ⟨rfl, b_⟩; have B9 := Lib.hid (HJb.out.bel.trans (b_.mono (HJb.out.bel).size)); clear b_))
      go_ret
      exact ⟨rfl, B9.out⟩
set_option maxRecDepth 8000 in
theorem walk (w : World) (hL : laidMetH Tryd.prog laidK w) (m n : Mg) (c g : Int) : Calls Tryd.prog 6 #[m.val, n.val, .agg #[.int .i64 c, .int .i64 g]] w fun e w' => e = .returned (.bool true) ∧ Below w.heap.size w w' := by
  have hT := tab_of hL
  by_cases h0 : m.d.length ≤ 32
  · by_cases h1 : n.d.length ≤ 32
    · by_cases h2 : c < 0
      · exact out2 w hT m n c g h0 h1 h2
      · by_cases h3 : 4294967294 < c
        · exact out3 w hT m n c g h0 h1 h2 h3
        · exact inb w hT m n c g h0 h1 ⟨by omega, by omega⟩
    · exact out1 w hT m n c g h0 h1
  · exact out0 w hT m n c g h0
set_option maxRecDepth 100000 in
theorem lifted (os : Os) (started : os.Started) (H : Type) (enc : TypeId × Value → H) :
    ReturnsInHanded {} Tryd.checked os 6 .any (fun w args => (Rows.procsBackSpec.pre enc Tryd.prog Tryd.f6 [] false w args ∧ laidMetH Tryd.prog laidK w) ∧ sizedMet enc Tryd.prog Tryd.f6 (OpenSpec.ofChange Rows.procsBackSpec) false w args) (Rows.procsBackSpec.post enc Tryd.prog Tryd.f6 false true false false) := by
  refine returnsInHanded_of_change_and (C := Tryd.checked) (X := fun w _ => laidMetH Tryd.prog laidK w) (fun _ _ _ hh h => h.of_heap hh) own started (by kernel_rfl) Tryd.func6
    (ChangeSpec.witness_shaped (enc := enc) (C := Tryd.checked) (os := os) (X := fun w _ => laidMetH Tryd.prog laidK w) false (World.doorLaid Tryd.prog 40 os) #[.agg #[.int .i64 0, .string ⟨#[]⟩, .int .i64 0, .int .i64 0, .int .i64 0, .int .i64 0, .int .i64 0, .int .i64 0, .int .i64 0, .int .i64 0, .int .i64 0, .int .i64 0, .int .i64 0, .int .i64 0, .int .i64 0, .int .i64 0, .int .i64 0, .int .i64 0, .int .i64 0, .int .i64 0], .agg #[.int .i64 0, .string ⟨#[]⟩, .int .i64 0, .int .i64 0, .int .i64 0, .int .i64 0, .int .i64 0, .int .i64 0, .int .i64 0, .int .i64 0, .int .i64 0, .int .i64 0, .int .i64 0, .int .i64 0, .int .i64 0, .int .i64 0, .int .i64 0, .int .i64 0, .int .i64 0, .int .i64 0], .agg #[.int .i64 0, .int .i64 0]] 8 rfl (World.shaped_of_RefB (by kernel_rfl) (by kernel_rfl)) (by kernel_rfl) (by kernel_rfl) (by kernel_rfl) (door_met os _)) ?_
  intro W base args ds gs before hval0 hW _ _ hL _
  have hval : ∀ (j : Nat) t v, Tryd.f6.params[j]? = some t → args[j]? = some v → Value.okWide Tryd.prog W .any base t v := hval0
  have hW' := hW
  obtain ⟨p, q, hA0, hV, rfl, hfz, hnd⟩ := hW
  have hA : DataW.TrodAll enc Tryd.prog W 0 (fun _ => true) true Tryd.f6.params.toList args.toList ds p := hA0
  rw [Tryd.params6] at hA hval
  obtain ⟨v0, vs0, d0, ds0, p0, q0, hargs, rfl, rfl, h0, t0⟩ := trodAll_cons hA
  obtain ⟨v1, vs1, d1, ds1, p1, q1, rfl, rfl, rfl, h1, t1⟩ := trodAll_cons t0
  obtain ⟨v2, vs2, d2, ds2, p2, q2, rfl, rfl, rfl, h2, t2⟩ := trodAll_cons t1
  obtain ⟨rfl, rfl, rfl⟩ := trodAll_nil t2
  obtain rfl : args = #[v0, v1, v2] := by cases args; simp_all
  obtain ⟨rfl, rfl⟩ := trodVars_none hV
  have k0 := h0
  have lt0 : ∀ x ∈ p0, x.block < W.heap.size := by obtain ⟨m, hm⟩ := k0; exact DataW.trod_lt m _ _ _ hm
  obtain ⟨m0, rfl⟩ := open_mg (hval 0 38 v0 rfl rfl) h0
  have k1 := h1
  have lt1 : ∀ x ∈ p1, x.block < W.heap.size := by obtain ⟨m, hm⟩ := k1; exact DataW.trod_lt m _ _ _ hm
  obtain ⟨m1, rfl⟩ := open_mg (hval 1 38 v1 rfl rfl) h1
  have k2 := h2
  have lt2 : ∀ x ∈ p2, x.block < W.heap.size := by obtain ⟨m, hm⟩ := k2; exact DataW.trod_lt m _ _ _ hm
  obtain ⟨c2, g2, rfl⟩ := open_ah (hval 2 61 v2 rfl rfl) h2
  clear hA0 hval0
  refine (walk W hL m0 m1 c2 g2).mono fun e W' ⟨he, bel⟩ => ?_
  subst he
  exact ⟨_, rfl, _, _, _, [], _, [], hW', trodAll_mk1 (shut_bool Tryd.underlying4 _), (trodAll_cons_mk (Below.trod laidOut (by kernel_rfl) (of_decide_eq_true (by kernel_rfl)) k0 bel lt0) (trodAll_cons_mk (Below.trod laidOut (by kernel_rfl) (of_decide_eq_true (by kernel_rfl)) k1 bel lt1) (trodAll_cons_mk (Below.trod laidOut (by kernel_rfl) (of_decide_eq_true (by kernel_rfl)) k2 bel lt2) trodAll_mk0))), rfl, bel.frame _, fun h => by cases h⟩
theorem over : Rows.procsBackRow.holds Tryd.pinned (OpenSpec.ofChange Rows.procsBackSpec) :=
  OpenClaim.holds_of_wide 6 Tryd.f6 rfl rfl rfl rfl rfl rfl rfl ⟨rfl, rfl, rfl, rfl, rfl⟩ rfl rfl rfl rfl rfl (by kernel_rfl) Tryd.func6 (by kernel_rfl)
    (of_decide_eq_true (by kernel_rfl)) (by unfold Func.isWrapper; first | (rw [if_pos (by decide +kernel)]; kernel_rfl) | (rw [if_neg (by decide +kernel)]; exact ⟨rfl, rfl⟩))
    (fun os started H enc _ => lifted os started H enc)
set_option maxRecDepth 8000 in
theorem proved : Rows.ProcsBackCardSaid :=
  Claim7.holds_tied_plain_at .later [] [.data] true Rows.procsBackCard.stood.harness true
    over (fun _ h => by cases h) (by kernel_rfl) (fun _ h => by cases h) procsBack_row_tie rfl ⟨rfl, rfl⟩ (by kernel_rfl) rfl
    (fun f fn hf hfn => by
      obtain rfl : f = 6 := Option.some.inj ((show Tryd.prog.funcNamed "chatelaine/chatelainelaw13.ProcsBack" = some 6 by kernel_rfl).symm.trans hf) |>.symm
      obtain rfl : fn = Tryd.f6 := (Option.some.inj (Tryd.func6.symm.trans hfn)).symm
      exact ⟨by kernel_rfl, fun j t ht => by
        rw [Tryd.params6] at ht
        have hm : t ∈ [38, 38, 61] := by simpa using Array.mem_of_getElem? ht
        have hall : ([38, 38, 61].all fun u => !Tryd.prog.wantsStandIn u) = true := by kernel_rfl
        exact (show Tryd.prog.wantsStandIn t = false by simpa using List.all_eq_true.1 hall t hm)⟩)
    (by kernel_rfl)
end Go.Proofs.YtaoailohihoclaaDoor.procsBack

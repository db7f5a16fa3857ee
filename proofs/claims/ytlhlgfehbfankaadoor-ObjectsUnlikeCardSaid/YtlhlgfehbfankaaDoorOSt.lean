/- objects: a store as it lies; there, asked, Size: words. -/
import Derived.Test.YtlhlgfehbfankaaDoorOChk
import Derived.Test.YtlhlgfehbfankaaDoorOwn
import Derived.Deep.AppendLies
namespace Go.Proofs.YtlhlgfehbfankaaDoor
open Go.RowKit
abbrev pv (b : Nat) : Value := .pointer (some ⟨b, 0, none⟩)
/-- the block of a row -/
def rowOf (A : Option Addr) : Option Nat := A.map (·.block)
/-- a store as it lies in p: its row A, the blocks ps of its objects os; all from base on -/
structure StAt (w : World) (base p : Nat) (A : Option Addr) (cap : Nat) (ps : List Nat) (os : List Oj) : Prop where
  blk : Blk w p 69 #[.slice A os.length cap]
  own : w.ownsRow base 78 1 (.slice A os.length cap) os.length (ps.map pv)
  len : ps.length = os.length
  obj : ∀ i (h : i < os.length) (h' : i < ps.length), Blk w ps[i] 34 os[i].cells.toArray
  pge : base ≤ p
  pn : rowOf A ≠ some p
  pps : ∀ b ∈ ps, base ≤ b ∧ b ≠ p ∧ rowOf A ≠ some b
  nd : ps.Nodup
/-- the blocks of a store -/
def stHas (p : Nat) (A : Option Addr) (ps : List Nat) (k : Nat) : Prop := k = p ∨ rowOf A = some k ∨ k ∈ ps
section
variable {w w' : World} {base p : Nat} {A : Option Addr} {cap : Nat} {ps : List Nat} {os : List Oj}
theorem own_keep {e : TypeId} {n : Nat} {xs : List Value} (h : w.ownsRow base e 1 (.slice A n cap) n xs) (hk : ∀ k, rowOf A = some k → w'.heap[k]? = w.heap[k]?) : w'.ownsRow base e 1 (.slice A n cap) n xs := by
  refine ⟨h.1, ?_⟩
  rcases h.2 with h0 | ⟨g, c, cur, h1, h2, h3, h4⟩
  · exact .inl h0
  · refine .inr ⟨g, c, cur, h1, h2, (hk g ?_).trans h3, h4⟩
    injection h1 with h1
    rw [h1]
    rfl
theorem StAt.keep (h : StAt w base p A cap ps os) (hk : ∀ k, stHas p A ps k → w'.heap[k]? = w.heap[k]?) : StAt w' base p A cap ps os where
  blk := (hk p (.inl rfl)).trans h.blk
  own := own_keep h.own (fun k hr => hk k (.inr (.inl hr)))
  len := h.len
  obj := fun i h1 h2 => (hk _ (.inr (.inr (List.getElem_mem h2)))).trans (h.obj i h1 h2)
  pge := h.pge
  pn := h.pn
  pps := h.pps
  nd := h.nd
theorem StAt.own_lt (h : StAt w base p A cap ps os) {k : Nat} (hr : rowOf A = some k) : base ≤ k ∧ k < w.heap.size := by
  rcases h.own.2 with ⟨h0, _⟩ | ⟨g, c, cur, h1, h2, h3, _⟩
  · injection h0 with h0
    rw [h0] at hr
    cases hr
  · injection h1 with h1
    rw [h1] at hr
    injection hr with hr
    simp only at hr
    subst hr
    exact ⟨h2, (Array.getElem?_eq_some_iff.1 h3).1⟩
theorem StAt.lt (h : StAt w base p A cap ps os) (k : Nat) (hk : stHas p A ps k) : base ≤ k ∧ k < w.heap.size := by
  rcases hk with rfl | hk | hk
  · exact ⟨h.pge, h.blk.lt⟩
  · exact h.own_lt hk
  · obtain ⟨i, hi, rfl⟩ := List.mem_iff_getElem.1 hk
    exact ⟨(h.pps _ hk).1, (h.obj i (by rw [← h.len]; exact hi) hi).lt⟩
theorem StAt.below (h : StAt w base p A cap ps os) (hb : Below w.heap.size w w') : StAt w' base p A cap ps os := h.keep fun k hk => hb.block k (h.lt k hk).2
theorem StAt.alloc (h : StAt w base p A cap ps os) (o : Obj) : StAt (w.alloc o) base p A cap ps os := h.below ((Below.refl _ _).alloc (Nat.le_refl _) _)
theorem StAt.drew (h : StAt w base p A cap ps os) : StAt w.drew base p A cap ps os := h.keep fun _ _ => rfl
theorem StAt.drewN (h : StAt w base p A cap ps os) (n : Nat) : StAt (w.drewN n) base p A cap ps os := h.keep fun _ _ => rfl
theorem StAt.fr {S : Nat → Prop} (h : StAt w base p A cap ps os) (hf : Fr S w w') (hS : ∀ k, stHas p A ps k → ¬ S k) : StAt w' base p A cap ps os := h.keep fun k hk => hf.block k (h.lt k hk).2 (hS k hk)
/-- its own cell -/
theorem StAt.c0 (h : StAt w base p A cap ps os) : w.cell? ⟨p, 0, none⟩ = some (.slice A os.length cap) := (h.blk.cell 0).trans rfl
/-- the row, where it is not empty -/
theorem StAt.row (h : StAt w base p A cap ps os) {i : Nat} (hi : i < os.length) : ∃ g, A = some ⟨g, 0, none⟩ ∧ ∀ (h' : i < ps.length), w.cell? ⟨g, i, none⟩ = some (pv ps[i]) := by
  obtain ⟨g, c, e, _, _⟩ := h.own.form (by omega)
  injection e with e
  subst e
  refine ⟨g, rfl, fun h' => ?_⟩
  have := h.own.cellAt i (by omega)
  rw [this, List.getElem?_map, List.getElem?_eq_getElem h']
  rfl
theorem StAt.at_ (h : StAt w base p A cap ps os) {i : Nat} (hi : i < os.length) : ∃ g b o, A = some ⟨g, 0, none⟩ ∧ w.cell? ⟨g, i, none⟩ = some (pv b) ∧ os[i] = o ∧ ObAt w b 0 o := by
  obtain ⟨g, e, hc⟩ := h.row hi
  have hp : i < ps.length := by rw [h.len]; exact hi
  exact ⟨g, ps[i], os[i], e, hc hp, rfl, (h.obj i hi hp).ob⟩
theorem there_nil (w : World) : Calls Tryd.prog 39 #[.pointer none] w fun e w' => e = .returned (.bool false) ∧ w = w' := by
  go_enter Tryd.func39, Tryd.ntmps39
  go_wp2
  go_ret
  exact ⟨rfl, rfl⟩
theorem there_at (h : StAt w base p A cap ps os) : Calls Tryd.prog 39 #[pv p] w fun e w' => e = .returned (.bool (decide (0 < os.length))) ∧ w = w' := by
  have c0 := h.c0
  clear h
  go_enter Tryd.func39, Tryd.ntmps39
  go_wp2
  go_ret
  exact ⟨rfl, rfl⟩
theorem there_yes (h : StAt w base p A cap ps os) (hn : 0 < os.length) : Calls Tryd.prog 39 #[pv p] w fun e w' => e = .returned (.bool true) ∧ w = w' := by
  have := there_at h
  rwa [show decide (0 < os.length) = true by simpa using hn] at this
theorem there_no (h : StAt w base p A cap ps []) : Calls Tryd.prog 39 #[pv p] w fun e w' => e = .returned (.bool false) ∧ w = w' := there_at h
theorem asked_nil (n : Int) (w : World) : Calls Tryd.prog 36 #[.pointer none, .int .i64 n] w fun e w' => e = .returned (.int .i64 1) ∧ w = w' := by
  go_enter Tryd.func36, Tryd.ntmps36
  go_wp2_with (go_at_call 39; refine (there_nil _).mono ?_; rintro e w1 ⟨rfl, rfl⟩)
  go_ret
  exact ⟨rfl, rfl⟩
theorem asked_none (h : StAt w base p A cap ps []) (n : Int) : Calls Tryd.prog 36 #[pv p, .int .i64 n] w fun e w' => e = .returned (.int .i64 1) ∧ w = w' := by
  have H := Lib.hid h
  clear h
  go_enter Tryd.func36, Tryd.ntmps36
  go_wp2_with (go_at_call 39; refine (there_no H.out).mono ?_; rintro e w1 ⟨rfl, rfl⟩)
  go_ret
  exact ⟨rfl, rfl⟩
theorem asked_ok (h : StAt w base p A cap ps os) (i : Nat) (hi : i < os.length) : Calls Tryd.prog 36 #[pv p, .int .i64 (i : Int)] w fun e w' => e = .returned (.int .i64 0) ∧ w = w' := by
  have H := Lib.hid h
  have HI := Lib.hid hi
  have c0 := h.c0
  have d0 : decide ((i : Int) < 0) = false := decide_eq_false (by omega)
  have d1 : decide (os.length ≤ i) = false := decide_eq_false (by omega)
  clear h hi
  go_enter Tryd.func36, Tryd.ntmps36
  go_wp2_with (go_at_call 39; refine (there_yes H.out (Nat.lt_of_le_of_lt (Nat.zero_le _) HI.out)).mono ?_; rintro e w1 ⟨rfl, rfl⟩)
  go_ret
  exact ⟨rfl, rfl⟩
theorem asked_lo (h : StAt w base p A cap ps os) (hn : 0 < os.length) (n : Int) (hi : n < 0) : Calls Tryd.prog 36 #[pv p, .int .i64 n] w fun e w' => e = .returned (.int .i64 4) ∧ w = w' := by
  have H := Lib.hid h
  have HI := Lib.hid hn
  have d0 : decide (n < 0) = true := by simpa using hi
  clear h hi hn
  go_enter Tryd.func36, Tryd.ntmps36
  go_wp2_with (go_at_call 39; refine (there_yes H.out HI.out).mono ?_; rintro e w1 ⟨rfl, rfl⟩)
  go_ret
  exact ⟨rfl, rfl⟩
theorem asked_hi (h : StAt w base p A cap ps os) (hn : 0 < os.length) (n : Int) (h0 : 0 ≤ n) (hi : (os.length : Int) ≤ n) : Calls Tryd.prog 36 #[pv p, .int .i64 n] w fun e w' => e = .returned (.int .i64 4) ∧ w = w' := by
  have H := Lib.hid h
  have HI := Lib.hid hn
  have c0 := h.c0
  have d0 : decide (n < 0) = false := decide_eq_false (by omega)
  have d1 : decide ((os.length : Int) ≤ n) = true := by simpa using hi
  clear h hi hn h0
  go_enter Tryd.func36, Tryd.ntmps36
  go_wp2_with (go_at_call 39; refine (there_yes H.out HI.out).mono ?_; rintro e w1 ⟨rfl, rfl⟩)
  go_ret
  exact ⟨rfl, rfl⟩
theorem asked_no (h : StAt w base p A cap ps os) (hn : 0 < os.length) (n : Int) (hi : n < 0 ∨ (os.length : Int) ≤ n) : Calls Tryd.prog 36 #[pv p, .int .i64 n] w fun e w' => e = .returned (.int .i64 4) ∧ w = w' := by
  by_cases h0 : n < 0
  · exact asked_lo h hn n h0
  · exact asked_hi h hn n (by omega) (by omega)
theorem size_nil (w : World) : Calls Tryd.prog 30 #[.pointer none] w fun e w' => e = .returned (.int .i64 0) ∧ w = w' := by
  go_enter Tryd.func30, Tryd.ntmps30
  go_wp2_with (go_at_call 39; refine (there_nil _).mono ?_; rintro e w1 ⟨rfl, rfl⟩)
  go_ret
  exact ⟨rfl, rfl⟩
theorem size_none (h : StAt w base p A cap ps []) : Calls Tryd.prog 30 #[pv p] w fun e w' => e = .returned (.int .i64 0) ∧ w = w' := by
  have H := Lib.hid h
  clear h
  go_enter Tryd.func30, Tryd.ntmps30
  go_wp2_with (go_at_call 39; refine (there_no H.out).mono ?_; rintro e w1 ⟨rfl, rfl⟩)
  go_ret
  exact ⟨rfl, rfl⟩
theorem size_at (h : StAt w base p A cap ps os) (hn : 0 < os.length) : Calls Tryd.prog 30 #[pv p] w fun e w' => e = .returned (.int .i64 (os.length : Int)) ∧ w = w' := by
  have H := Lib.hid h
  have HI := Lib.hid hn
  have c0 := h.c0
  clear h hn
  go_enter Tryd.func30, Tryd.ntmps30
  go_wp2_with (go_at_call 39; refine (there_yes H.out HI.out).mono ?_; rintro e w1 ⟨rfl, rfl⟩)
  go_ret
  exact ⟨rfl, rfl⟩
end
end Go.Proofs.YtlhlgfehbfankaaDoor

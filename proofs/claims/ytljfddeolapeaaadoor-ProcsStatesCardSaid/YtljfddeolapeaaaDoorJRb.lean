/- the document's layer 13: Become. -/
import Derived.Test.YtljfddeolapeaaaDoorJRs
import Derived.Test.YtljfddeolapeaaaDoorJKn
namespace Go.Proofs.YtljfddeolapeaaaDoor
open Go.RowKit
attribute [local go_sem] Oper.semAt_some
section
variable {w : World} {A : Option Addr} {cap n : Nat} {l : List Oj}
set_option maxRecDepth 100000 in
set_option maxHeartbeats 2000000 in
theorem rbe_lt (h0 : 0 < n) (i s : Int) (h : i < 0) : Calls Tryd.prog 27 #[.slice A n cap, .int .i64 i, .int .i64 s] w fun e w' => e = .returned (.tuple #[.slice A n cap, .int .i64 230]) ∧ w = w' := by
  have dn : decide ((n : Int) = 0) = false := decide_eq_false (by omega)
  have dn' : ((n : Int) == 0) = false := by simp; omega
  have d0 : decide (i < 0) = true := decide_eq_true h
  clear h0 h
  go_enter Tryd.func27, Tryd.ntmps27
  go_wp2
  go_ret2
  exact ⟨rfl, rfl⟩
set_option maxRecDepth 100000 in
set_option maxHeartbeats 2000000 in
theorem rbe_ge (h0 : 0 < n) (i s : Int) (h : ¬ i < 0) (h2 : (n : Int) ≤ i) : Calls Tryd.prog 27 #[.slice A n cap, .int .i64 i, .int .i64 s] w fun e w' => e = .returned (.tuple #[.slice A n cap, .int .i64 230]) ∧ w = w' := by
  have dn : decide ((n : Int) = 0) = false := decide_eq_false (by omega)
  have dn' : ((n : Int) == 0) = false := by simp; omega
  have d0 : decide (i < 0) = false := decide_eq_false h
  have d1 : decide ((n : Int) ≤ i) = true := decide_eq_true h2
  clear h0 h h2
  go_enter Tryd.func27, Tryd.ntmps27
  go_wp2
  go_ret2
  exact ⟨rfl, rfl⟩
set_option maxRecDepth 100000 in
set_option maxHeartbeats 2000000 in
theorem rbe_k (hr : RdO w A l) (hn : l.length = n) (j : Nat) (hj : j < n) (u : Oj) (hu : l[j]? = some u) (s : Int) (hk : u.k ≠ 1) : Calls Tryd.prog 27 #[.slice A n cap, .int .i64 (j : Int), .int .i64 s] w fun e w' => e = .returned (.tuple #[.slice A n cap, .int .i64 230]) ∧ w = w' := by
  obtain ⟨b, off, rfl, hob⟩ := hr j (by omega)
  have hu' : l[j] = u := by rw [List.getElem?_eq_getElem (by omega)] at hu; exact Option.some.inj hu
  rw [hu'] at hob
  have c0 := hob.cells.1
  have d0 : decide ((j : Int) < 0) = false := decide_eq_false (by omega)
  have d1 : decide ((n : Int) ≤ (j : Int)) = false := decide_eq_false (by omega)
  have i1 : (0 : Int) ≤ (j : Int) := by omega
  have i2 : (j : Int) < (n : Int) := by omega
  have dn : decide ((n : Int) = 0) = false := decide_eq_false (by omega)
  have dn' : ((n : Int) == 0) = false := by simp; omega
  have dk : (u.k != 1) = true := by simpa using hk
  clear hob hu hu' hk
  go_enter Tryd.func27, Tryd.ntmps27
  go_wp2
  go_ret2
  exact ⟨rfl, rfl⟩
set_option maxRecDepth 100000 in
set_option maxHeartbeats 2000000 in
theorem rbe_s1 (hr : RdO w A l) (hn : l.length = n) (j : Nat) (hj : j < n) (u : Oj) (hu : l[j]? = some u) (s : Int) (hk : u.k = 1) (hs : s < 0) : Calls Tryd.prog 27 #[.slice A n cap, .int .i64 (j : Int), .int .i64 s] w fun e w' => e = .returned (.tuple #[.slice A n cap, .int .i64 2]) ∧ w = w' := by
  obtain ⟨b, off, rfl, hob⟩ := hr j (by omega)
  have hu' : l[j] = u := by rw [List.getElem?_eq_getElem (by omega)] at hu; exact Option.some.inj hu
  rw [hu'] at hob
  have c0 := hob.cells.1
  have d0 : decide ((j : Int) < 0) = false := decide_eq_false (by omega)
  have d1 : decide ((n : Int) ≤ (j : Int)) = false := decide_eq_false (by omega)
  have i1 : (0 : Int) ≤ (j : Int) := by omega
  have i2 : (j : Int) < (n : Int) := by omega
  have dn : decide ((n : Int) = 0) = false := decide_eq_false (by omega)
  have dn' : ((n : Int) == 0) = false := by simp; omega
  have dk : (u.k != 1) = false := by simpa using hk
  have ds : decide (s < 0) = true := decide_eq_true hs
  clear hob hu hu' hk hs
  go_enter Tryd.func27, Tryd.ntmps27
  go_wp2
  go_ret2
  exact ⟨rfl, rfl⟩
set_option maxRecDepth 100000 in
set_option maxHeartbeats 2000000 in
theorem rbe_s2 (hr : RdO w A l) (hn : l.length = n) (j : Nat) (hj : j < n) (u : Oj) (hu : l[j]? = some u) (s : Int) (hk : u.k = 1) (hs : ¬ s < 0) (hs2 : 2 < s) : Calls Tryd.prog 27 #[.slice A n cap, .int .i64 (j : Int), .int .i64 s] w fun e w' => e = .returned (.tuple #[.slice A n cap, .int .i64 2]) ∧ w = w' := by
  obtain ⟨b, off, rfl, hob⟩ := hr j (by omega)
  have hu' : l[j] = u := by rw [List.getElem?_eq_getElem (by omega)] at hu; exact Option.some.inj hu
  rw [hu'] at hob
  have c0 := hob.cells.1
  have d0 : decide ((j : Int) < 0) = false := decide_eq_false (by omega)
  have d1 : decide ((n : Int) ≤ (j : Int)) = false := decide_eq_false (by omega)
  have i1 : (0 : Int) ≤ (j : Int) := by omega
  have i2 : (j : Int) < (n : Int) := by omega
  have dn : decide ((n : Int) = 0) = false := decide_eq_false (by omega)
  have dn' : ((n : Int) == 0) = false := by simp; omega
  have dk : (u.k != 1) = false := by simpa using hk
  have ds : decide (s < 0) = false := decide_eq_false hs
  have ds2 : decide (2 < s) = true := decide_eq_true hs2
  clear hob hu hu' hk hs hs2
  go_enter Tryd.func27, Tryd.ntmps27
  go_wp2
  go_ret2
  exact ⟨rfl, rfl⟩
set_option maxRecDepth 100000 in
set_option maxHeartbeats 2000000 in
theorem rbe_y (hr : RdO w A l) (hn : l.length = n) (hl : n ≤ 1000) (j : Nat) (hj : j < n) (u : Oj) (hu : l[j]? = some u) (s : Int) (hk : u.k = 1) (hs : ¬ s < 0) (hs2 : ¬ 2 < s) : Calls Tryd.prog 27 #[.slice A n cap, .int .i64 (j : Int), .int .i64 s] w fun e w' => ∃ g c, e = .returned (.tuple #[.slice (some ⟨g, 0, none⟩) n c, .int .i64 0]) ∧ w.heap.size ≤ g ∧ RdO w' (some ⟨g, 0, none⟩) (l.set j (slotAs u 2 (nmk s))) ∧ Below w.heap.size w w' := by
  have hz := z34
  have hzl := oz_len
  have HR := Lib.hid hr
  obtain ⟨b, off, rfl, hob⟩ := hr j (by omega)
  have hu' : l[j] = u := by rw [List.getElem?_eq_getElem (by omega)] at hu; exact Option.some.inj hu
  rw [hu'] at hob
  have c0 := hob.cells.1
  have d0 : decide ((j : Int) < 0) = false := decide_eq_false (by omega)
  have d1 : decide ((n : Int) ≤ (j : Int)) = false := decide_eq_false (by omega)
  have i1 : (0 : Int) ≤ (j : Int) := by omega
  have i2 : (j : Int) < (n : Int) := by omega
  have dn : decide ((n : Int) = 0) = false := decide_eq_false (by omega)
  have dn' : ((n : Int) == 0) = false := by simp; omega
  have dk : (u.k != 1) = false := by simpa using hk
  have ds : decide (s < 0) = false := decide_eq_false hs
  have ds2 : decide (2 < s) = false := decide_eq_false hs2
  have HO := Lib.hid hob
  have HNN := Lib.hid hn
  have HLL := Lib.hid hl
  have HJJ := Lib.hid hj
  have HB0 := Lib.hid ((Below.refl w.heap.size w).alloc (Nat.le_refl _) (.cells u.cells.toArray 56))
  clear hob hu hu' hk hs hs2 hr
  go_enter Tryd.func27, Tryd.ntmps27
  go_wp2_with (first
    | ((with_reducible show wpList _ _ _ (Oper.mk (some 40) (.load _ _) _ _ _ _ :: _) _ _); refine wpList_yields (S := fun w' => ObAt w' b (off + j * 163) u) (y_ob (by rfl) (.tmp 39) (by rfl) b (off + j * 163) (by rfl) u (fun _ h => h)) HO.out ?_)
    | ((with_reducible show wpList _ _ _ (Oper.mk none (.store _ (.tmp 8) (.tmp 40)) _ _ _ _ :: _) _ _); refine wpList_store_last rfl (.tmp 8) (.tmp 40) rfl w.heap.size rfl (by rfl) u oz (by rfl) ?_)
    | (go_at_call 67; refine (rnum_any _ s).mono ?_; rintro e w2 ⟨rfl, b2⟩; have O2 := Lib.hid ((Blk.new w 56 u.cells.toArray).keep b2); have HB2 := Lib.hid (HB0.out.trans (b2.mono HB0.out.size)); clear b2)
    | ((with_reducible show wpList _ _ _ (Oper.mk none (.store _ (.tmp 44) (.tmp 42)) _ _ _ _ :: _) _ _); refine wpList_store_in O2.out rfl (.tmp 44) (.tmp 42) (ty := 33) (l := kl (nmk s)) (off := 15) (by rfl) (by rfl) (by rfl) size30 (by rw [Oj.len]; exact (by decide : 15 + 6 ≤ 163)) (kl_one _) (slot_fit u 2 (by decide) (nmk s)) ?_; have O3 := Lib.hid (O2.out.setRow (Oj.cells (slotAs u 2 (nmk s))).toArray); have HB3 := Lib.hid (below_setRow HB2.out (show w.heap.size ≤ w.heap.size by omega) (Oj.cells (slotAs u 2 (nmk s))).toArray); generalize World.setRow _ _ (Oj.cells (slotAs u 2 (nmk s))).toArray = w3 at O3 HB3 ⊢)
    | ((with_reducible show wpList _ _ _ (Oper.mk (some 47) (.load _ _) _ _ _ _ :: _) _ _); refine wpList_yields (S := fun w' => ObAt w' w.heap.size 0 (slotAs u 2 (nmk s))) (y_ob (by rfl) (.tmp 8) (by rfl) w.heap.size 0 (by rfl) (slotAs u 2 (nmk s)) (fun _ h => h)) O3.out.ob ?_)
    | (go_at_call 59; refine (rput_any (HR.out.below HB3.out) HNN.out HLL.out j HJJ.out (slotAs u 2 (nmk s)) rfl).mono ?_; rintro e w4 ⟨g, c, rfl, hg, hr4, b4⟩; have HF := Lib.hid (And.intro (Nat.le_trans HB3.out.size hg) (And.intro hr4 (HB3.out.trans (b4.mono HB3.out.size)))); clear hg hr4 b4))
  go_ret2
  exact ⟨g, c, rfl, HF.out.1, HF.out.2.1, HF.out.2.2⟩
set_option maxRecDepth 8000 in
theorem rbe_no (hr : RdO w A l) (hn : l.length = n) (h0 : 0 < n) (i s : Int) {v : Int} (hv : (becA l i s).2 = v) (hne : v ≠ 0) : Calls Tryd.prog 27 #[.slice A n cap, .int .i64 i, .int .i64 s] w fun e w' => e = .returned (.tuple #[.slice A n cap, .int .i64 v]) ∧ w = w' := by
  subst hv
  by_cases h1 : i < 0
  · rw [show (becA l i s).2 = 230 by unfold becA; rw [objA_out l i (.inl h1), if_neg (by decide)]]
    exact rbe_lt h0 i s h1
  by_cases h2 : (n : Int) ≤ i
  · rw [show (becA l i s).2 = 230 by unfold becA; rw [objA_out l i (.inr (by omega)), if_neg (by decide)]]
    exact rbe_ge h0 i s h1 h2
  obtain ⟨j, rfl⟩ : ∃ j : Nat, i = (j : Int) := ⟨i.toNat, by omega⟩
  have hj : j < n := by omega
  have hjl : j < l.length := by omega
  have hu : l[j]? = some l[j] := List.getElem?_eq_getElem hjl
  have ho := objA_in l j hjl
  by_cases hk : l[j].k = 1
  · by_cases hs : s < 0
    · rw [show (becA l (j : Int) s).2 = 2 by unfold becA; rw [ho, if_pos hk, if_neg (by omega)]]
      exact rbe_s1 hr hn j hj _ hu s hk hs
    · by_cases hs2 : 2 < s
      · rw [show (becA l (j : Int) s).2 = 2 by unfold becA; rw [ho, if_pos hk, if_neg (by omega)]]
        exact rbe_s2 hr hn j hj _ hu s hk hs hs2
      · exact absurd (show (becA l (j : Int) s).2 = 0 by unfold becA; rw [ho, if_pos hk, if_pos (by omega)]) hne
  · rw [show (becA l (j : Int) s).2 = 230 by unfold becA; rw [ho, if_neg hk]]
    exact rbe_k hr hn j hj _ hu s hk
set_option maxRecDepth 8000 in
theorem rbe_yes (hr : RdO w A l) (hn : l.length = n) (hl : n ≤ 1000) (i s : Int) (hv : (becA l i s).2 = 0) : Calls Tryd.prog 27 #[.slice A n cap, .int .i64 i, .int .i64 s] w fun e w' => ∃ g c, e = .returned (.tuple #[.slice (some ⟨g, 0, none⟩) n c, .int .i64 0]) ∧ w.heap.size ≤ g ∧ RdO w' (some ⟨g, 0, none⟩) (becA l i s).1 ∧ Below w.heap.size w w' := by
  have hk : (objA l i).k = 1 := by
    by_cases hk : (objA l i).k = 1
    · exact hk
    · unfold becA at hv
      rw [if_neg hk] at hv
      exact absurd hv (by simp)
  have hs : 0 ≤ s ∧ s ≤ 2 := by
    by_cases hs : 0 ≤ s ∧ s ≤ 2
    · exact hs
    · unfold becA at hv
      rw [if_pos hk, if_neg hs] at hv
      exact absurd hv (by simp)
  obtain ⟨j, rfl, hj⟩ := objA_node (os := l) (i := i) (by omega)
  have ho := objA_in l j hj
  have e : (becA l (j : Int) s).1 = l.set j (slotAs l[j] 2 (nmk s)) := by
    unfold becA
    rw [if_pos hk, if_pos hs, ho, Int.toNat_natCast]
  rw [e]
  rw [ho] at hk
  exact rbe_y hr hn hl j (by omega) _ (List.getElem?_eq_getElem hj) s hk (by omega) (by omega)
end
end Go.Proofs.YtljfddeolapeaaaDoor

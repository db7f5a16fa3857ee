/- The law PagesBack returns true for every input: what is written is read, and bytes beside it stay; what may not be written changes nothing (at most 20 objects, at most 100 bytes). No condition but that the listed variables read as the program's own text lays them; the card ties them to it. -/
import Derived.Test.YtedlacdijkggjaaDoorGDo
import Derived.Test.YtedlacdijkggjaaDoorR12
import Derived.Test.YtedlacdijkggjaaDoorR05
import Derived.Test.YtedlacdijkggjaaDoorGSt
namespace Go.Proofs.YtedlacdijkggjaaDoor.pagesBack
open Go.ChangeShapes Go.WideShapes Go.ChangeAt Go.RowKit
attribute [local go_sem] Oper.semAt_some
set_option maxRecDepth 8000 in
set_option maxHeartbeats 2000000 in
theorem walk_no (w : World) (hT : Tab w) (A : Option Addr) (l : List Oj) (cap : Nat) (x : Ky) (a : Int) (s : List UInt8) (hr : RdO w A l) (h : ¬ madeP l) :
    Calls Tryd.prog 4 #[.slice A l.length cap, x.val, .agg (xbc a s)] w fun e w' => e = .returned (.bool true) ∧ Below w.heap.size w w' := by
  have HT := Lib.hid hT
  have HR := Lib.hid hr
  have H := Lib.hid h
  have HKB := Lib.hid (show Kb w [(w.heap.size, 30, kc x.k x.o x.c x.l x.r x.v), (w.heap.size + 1, 38, xbc a s)] (w.heap.size + 2) ((w.alloc (.cells (kc x.k x.o x.c x.l x.r x.v) 30)).alloc (.cells (xbc a s) 38)) from ⟨((Below.refl w.heap.size w).alloc (Nat.le_refl _) (.cells (kc x.k x.o x.c x.l x.r x.v) 30)).alloc (by simp) (.cells (xbc a s) 38), by omega, by simp, fun b hm => by
    rcases List.mem_cons.1 hm with rfl | hm
    · exact ⟨by simp, (Blk.new w 30 _).alloc _⟩
    · obtain rfl := List.mem_singleton.1 hm
      exact ⟨by simp, Blk.new_of (w.alloc (.cells (kc x.k x.o x.c x.l x.r x.v) 30)) 38 _ (g := w.heap.size + 1) (by simp)⟩⟩)
  clear hT hr h
  go_enter Tryd.func4, Tryd.ntmps4
  go_wp2_with (first
    | (go_at_call 8; refine (made_no (HR.out.below HKB.out.bel) H.out).mono ?_; rintro e w1 ⟨rfl, b1⟩; have HB1 := Lib.hid (HKB.out.bel.trans (b1.mono HKB.out.bel.size)); clear b1)
    | (go_at_call 9; refine (known_any _ (HT.out.below HB1.out)).mono ?_; rintro e v9 ⟨rfl, b_⟩; have B9 := Lib.hid (HB1.out.trans (b_.mono (HB1.out).size)); clear b_))
  go_ret
  exact ⟨rfl, B9.out⟩
set_option maxRecDepth 8000 in
set_option maxHeartbeats 2000000 in
theorem walk_big (w : World) (hT : Tab w) (A : Option Addr) (l : List Oj) (cap : Nat) (x : Ky) (a : Int) (s : List UInt8) (hr : RdO w A l) (h : madeP l) (hs : 100 < s.length) :
    Calls Tryd.prog 4 #[.slice A l.length cap, x.val, .agg (xbc a s)] w fun e w' => e = .returned (.bool true) ∧ Below w.heap.size w w' := by
  have HT := Lib.hid hT
  have HR := Lib.hid hr
  have H := Lib.hid h
  have HKB := Lib.hid (show Kb w [(w.heap.size, 30, kc x.k x.o x.c x.l x.r x.v), (w.heap.size + 1, 38, xbc a s)] (w.heap.size + 2) ((w.alloc (.cells (kc x.k x.o x.c x.l x.r x.v) 30)).alloc (.cells (xbc a s) 38)) from ⟨((Below.refl w.heap.size w).alloc (Nat.le_refl _) (.cells (kc x.k x.o x.c x.l x.r x.v) 30)).alloc (by simp) (.cells (xbc a s) 38), by omega, by simp, fun b hm => by
    rcases List.mem_cons.1 hm with rfl | hm
    · exact ⟨by simp, (Blk.new w 30 _).alloc _⟩
    · obtain rfl := List.mem_singleton.1 hm
      exact ⟨by simp, Blk.new_of (w.alloc (.cells (kc x.k x.o x.c x.l x.r x.v) 30)) 38 _ (g := w.heap.size + 1) (by simp)⟩⟩)
  have hsz := st_size s
  have e2 : decide ((100 : Int) < (s.length : Int)) = true := decide_eq_true (by omega)
  have e3 : decide (100 < s.length) = true := decide_eq_true hs
  clear hT hr h hs
  go_enter Tryd.func4, Tryd.ntmps4
  go_wp2_with (first
    | (go_at_call 8; refine (made_yes (HT.out.below HKB.out.bel) (HR.out.below HKB.out.bel) H.out).mono ?_; rintro e w1 ⟨q, rfl, hq, hs, b1⟩; have HKB1 := Lib.hid (HKB.out.below b1); clear b1; obtain ⟨c0, c1, c2, c3, c4, c5⟩ := (HKB1.out.blk _ List.mem_cons_self).2.six; have d0 := (HKB1.out.blk _ (List.mem_cons_of_mem _ List.mem_cons_self)).2.cell 0; have d1 := (HKB1.out.blk _ (List.mem_cons_of_mem _ List.mem_cons_self)).2.cell 1)
    | (go_at_call 9; refine (known_any _ (HT.out.below HKB1.out.bel)).mono ?_; rintro e v9 ⟨rfl, b_⟩; have B9 := Lib.hid (HKB1.out.bel.trans (b_.mono (HKB1.out.bel).size)); clear b_))
  go_ret
  exact ⟨rfl, B9.out⟩
set_option maxRecDepth 100000 in
set_option maxHeartbeats 4000000 in
theorem walk_bad (w : World) (hT : Tab w) (A : Option Addr) (l : List Oj) (cap : Nat) (x : Ky) (a : Int) (s : List UInt8) (ha : a ≤ 9223372036854775807) (hr : RdO w A l) (h : madeP l) (hs : s.length ≤ 100) (hb : (wrA l x a s).2 ≠ 0) :
    Calls Tryd.prog 4 #[.slice A l.length cap, x.val, .agg (xbc a s)] w fun e w' => e = .returned (.bool true) ∧ Below w.heap.size w w' := by
  have HT := Lib.hid hT
  have HR := Lib.hid hr
  have HKB := Lib.hid (show Kb w [(w.heap.size, 30, kc x.k x.o x.c x.l x.r x.v), (w.heap.size + 1, 38, xbc a s)] (w.heap.size + 2) ((w.alloc (.cells (kc x.k x.o x.c x.l x.r x.v) 30)).alloc (.cells (xbc a s) 38)) from ⟨((Below.refl w.heap.size w).alloc (Nat.le_refl _) (.cells (kc x.k x.o x.c x.l x.r x.v) 30)).alloc (by simp) (.cells (xbc a s) 38), by omega, by simp, fun b hm => by
    rcases List.mem_cons.1 hm with rfl | hm
    · exact ⟨by simp, (Blk.new w 30 _).alloc _⟩
    · obtain rfl := List.mem_singleton.1 hm
      exact ⟨by simp, Blk.new_of (w.alloc (.cells (kc x.k x.o x.c x.l x.r x.v) 30)) 38 _ (g := w.heap.size + 1) (by simp)⟩⟩)
  have hsz := st_size s
  have e2 : decide ((100 : Int) < (s.length : Int)) = false := decide_eq_false (by omega)
  have e3 : decide (100 < s.length) = false := decide_eq_false (by omega)
  obtain ⟨n, hn⟩ : ∃ n, l.length = n := ⟨_, rfl⟩
  have HN := Lib.hid (show 0 < n by have := h.2.1; omega)
  have HN' := Lib.hid (show n ≤ 1000 by have := h.1; omega)
  have HMD := Lib.hid (fun (W : World) (hT : Tab W) (hr : RdO W A l) => hn ▸ made_yes (cap := cap) hT hr h)
  have HOK := Lib.hid (h.2.2.2 : okAll l.length l)
  have HA := Lib.hid ha
  have HLN := Lib.hid hn
  have HLB := Lib.hid (show ∀ a, A = some a → a.block < w.heap.size by
    intro a e
    obtain ⟨b, off, e2, ho⟩ := hr 0 (by have := h.2.1; omega)
    rw [e] at e2
    injection e2 with e2
    subst e2
    exact ho.lt)
  rw [hn]
  have M0 := Lib.hid True.intro
  have M1 := Lib.hid True.intro
  obtain ⟨m, hm⟩ : ∃ m, (wrA l x a s).2 = m := ⟨_, rfl⟩
  obtain ⟨r1, r2, hrd⟩ : ∃ r1 r2, rdA l x 0 64 = (r1, r2) := ⟨_, _, rfl⟩
  have HRD : Hid (∀ (W : World) (base p : Nat) (A : Option Addr) (cap : Nat) (ps : List Nat), StAt W base p A cap ps l → Tab W → Calls Tryd.prog 12 #[pv p, x.val, .int .i64 0, .int .i64 64] W fun e w' => e = .returned (.tuple #[.string (st r1), .int .i64 r2]) ∧ Below W.heap.size W w') := Lib.hid fun W base p A cap ps hst hT => by
    have := read_all hst (by have := h.2.1; omega) hT x 0 64 (by decide)
    rw [hrd] at this
    exact this
  have HWR : Hid (∀ (W : World) (base p : Nat) (A : Option Addr) (cap : Nat) (ps : List Nat), StAt W base p A cap ps l → Tab W → Calls Tryd.prog 13 #[pv p, x.val, .int .i64 a, .string (st s)] W fun e w' => e = .returned (.int .i64 m) ∧ StAt w' base p A cap ps l ∧ Fr (fun k => k ∈ ps) W w') := Lib.hid fun W base p A cap ps hst hT => by
    have := write_all hst h.2.2.2 (by have := h.2.1; omega) hT x a ha s
    rw [hm, wrA_bad hb] at this
    exact this
  rw [hm] at hb
  have dm : (m != 0) = true := by simpa using hb
  clear hT hr h hn ha hs hb hm hrd
  go_enter Tryd.func4, Tryd.ntmps4
  go_wp2_with (first
    | (go_at_call 8; refine (HMD.out _ (HT.out.below HKB.out.bel) (HR.out.below HKB.out.bel)).mono ?_; rintro e w1 ⟨q, rfl, hq, ⟨A', cap', ps, hs⟩, b1⟩; have HKB1 := Lib.hid (HKB.out.below b1); have HS1 := Lib.hid hs; have HPS := Lib.hid (show ∀ i ∈ ps, w.heap.size + 2 ≤ i from fun i hi => by have h1 := (hs.pps i hi).1; have h2 := HKB.out.sz; omega); clear b1 hq hs; obtain ⟨c0, c1, c2, c3, c4, c5⟩ := (HKB1.out.blk _ List.mem_cons_self).2.six; have d0 := (HKB1.out.blk _ (List.mem_cons_of_mem _ List.mem_cons_self)).2.cell 0; have d1 := (HKB1.out.blk _ (List.mem_cons_of_mem _ List.mem_cons_self)).2.cell 1)
    | (go_at_call 12; refine (HRD.out _ _ _ _ _ _ HS1.out (HT.out.below HKB1.out.bel)).mono ?_; rintro e w2 ⟨rfl, b_⟩; have HKB2 := Lib.hid (HKB1.out.below b_); have HS2 := Lib.hid (HS1.out.below b_); clear b_ c0 c1 c2 c3 c4 c5 d0 d1; obtain ⟨c0, c1, c2, c3, c4, c5⟩ := (HKB2.out.blk _ List.mem_cons_self).2.six; have d0 := (HKB2.out.blk _ (List.mem_cons_of_mem _ List.mem_cons_self)).2.cell 0; have d1 := (HKB2.out.blk _ (List.mem_cons_of_mem _ List.mem_cons_self)).2.cell 1)
    | (go_at_call 13; refine (HWR.out _ _ _ _ _ _ HS2.out (HT.out.below HKB2.out.bel)).mono ?_; rintro e w3 ⟨rfl, hs3, f3⟩; have HKB3 := Lib.hid (HKB2.out.fr f3 HPS.out); have HS3 := Lib.hid hs3; clear f3 hs3 c0 c1 c2 c3 c4 c5 d0 d1)
    | (go_at_call 11; refine (same_n HS3.out HLN.out HN.out HN'.out _ _ (HR.out.below HKB3.out.bel)).mono ?_; rintro e w4 ⟨rfl, b_⟩; have HB4 := Lib.hid (HKB3.out.bel.trans (b_.mono HKB3.out.bel.size)); clear b_)
    | (go_at_call 9; refine (known_any _ (HT.out.below HB4.out)).mono ?_; rintro e v9 ⟨rfl, b_⟩; have B9 := Lib.hid (HB4.out.trans (b_.mono (HB4.out).size)); clear b_))
  go_ret
  exact ⟨rfl, B9.out⟩
set_option maxRecDepth 100000 in
set_option maxHeartbeats 8000000 in
theorem walk_ok (w : World) (hT : Tab w) (A : Option Addr) (l : List Oj) (cap : Nat) (x : Ky) (i : Nat) (s : List UInt8) (hr : RdO w A l) (h : madeP l) (hs : s.length ≤ 100) (j : Nat) (u : Oj) (d : PgD l x j u) (hr0 : x.r = 0) (hi : i + s.length ≤ 64) :
    Calls Tryd.prog 4 #[.slice A l.length cap, x.val, .agg (xbc (i : Int) s)] w fun e w' => e = .returned (.bool true) ∧ Below w.heap.size w w' := by
  have ha : (i : Int) ≤ 9223372036854775807 := by omega
  have HT := Lib.hid hT
  have HR := Lib.hid hr
  have HKB := Lib.hid (show Kb w [(w.heap.size, 30, kc x.k x.o x.c x.l x.r x.v), (w.heap.size + 1, 38, xbc (i : Int) s)] (w.heap.size + 2) ((w.alloc (.cells (kc x.k x.o x.c x.l x.r x.v) 30)).alloc (.cells (xbc (i : Int) s) 38)) from ⟨((Below.refl w.heap.size w).alloc (Nat.le_refl _) (.cells (kc x.k x.o x.c x.l x.r x.v) 30)).alloc (by simp) (.cells (xbc (i : Int) s) 38), by omega, by simp, fun b hm => by
    rcases List.mem_cons.1 hm with rfl | hm
    · exact ⟨by simp, (Blk.new w 30 _).alloc _⟩
    · obtain rfl := List.mem_singleton.1 hm
      exact ⟨by simp, Blk.new_of (w.alloc (.cells (kc x.k x.o x.c x.l x.r x.v) 30)) 38 _ (g := w.heap.size + 1) (by simp)⟩⟩)
  have hsz := st_size s
  have e2 : decide ((100 : Int) < (s.length : Int)) = false := decide_eq_false (by omega)
  have e3 : decide (100 < s.length) = false := decide_eq_false (by omega)
  obtain ⟨n, hn⟩ : ∃ n, l.length = n := ⟨_, rfl⟩
  have HN := Lib.hid (show 0 < n by have := h.2.1; omega)
  have HN' := Lib.hid (show n ≤ 1000 by have := h.1; omega)
  have HMD := Lib.hid (fun (W : World) (hT : Tab W) (hr : RdO W A l) => hn ▸ made_yes (cap := cap) hT hr h)
  have HOK := Lib.hid (h.2.2.2 : okAll l.length l)
  have HA := Lib.hid ha
  have HLN := Lib.hid hn
  have HLB := Lib.hid (show ∀ a, A = some a → a.block < w.heap.size by
    intro a e
    obtain ⟨b, off, e2, ho⟩ := hr 0 (by have := h.2.1; omega)
    rw [e] at e2
    injection e2 with e2
    subst e2
    exact ho.lt)
  rw [hn]
  have M0 := Lib.hid True.intro
  have M1 := Lib.hid True.intro
  obtain ⟨U, hU⟩ : ∃ U, layO u i s = U := ⟨_, rfl⟩
  obtain ⟨nb, hnb⟩ : ∃ nb, lay u.b i s = nb := ⟨_, rfl⟩
  have hUb : U.b = nb := by rw [← hU, layO_b hi, hnb]
  have hub := u.hb
  have hnl : nb.length = 64 := by rw [← hUb]; exact U.hb
  have hw : wrA l x (i : Int) s = (l.set j U, 0) := by rw [wrA_d d hr0 hi, hU]
  have hd' : PgD (l.set j U) x j U := hU ▸ d.setO (fun y => cn_layO y u i s) (by rw [layO_k]; exact d.uk)
  have hok' : okAll (l.set j U).length (l.set j U) := by
    have := wrA_ok h.2.2.2 x (i : Int) s
    rw [hw] at this
    rw [List.length_set]
    exact this
  have hl' : 0 < (l.set j U).length := by rw [List.length_set]; have := h.2.1; omega
  have HRD : Hid (∀ (W : World) (base p : Nat) (A : Option Addr) (cap : Nat) (ps : List Nat), StAt W base p A cap ps l → Tab W → Calls Tryd.prog 12 #[pv p, x.val, .int .i64 0, .int .i64 64] W fun e w' => e = .returned (.tuple #[.string (st u.b), .int .i64 0]) ∧ Below W.heap.size W w') := Lib.hid fun W base p A cap ps hst hT => by
    have := read_all hst (by have := h.2.1; omega) hT x ((0 : Nat) : Int) ((64 : Nat) : Int) (by decide)
    rw [rdA_d d (by decide), cut_all hub] at this
    exact this
  have HRD2 : Hid (∀ (W : World) (base p : Nat) (A : Option Addr) (cap : Nat) (ps : List Nat), StAt W base p A cap ps (l.set j U) → Tab W → Calls Tryd.prog 12 #[pv p, x.val, .int .i64 0, .int .i64 64] W fun e w' => e = .returned (.tuple #[.string (st nb), .int .i64 0]) ∧ Below W.heap.size W w') := Lib.hid fun W base p A cap ps hst hT => by
    have := read_all hst hl' hT x ((0 : Nat) : Int) ((64 : Nat) : Int) (by decide)
    rw [rdA_d hd' (by decide), cut_all U.hb, hUb] at this
    exact this
  have HRD3 : Hid (∀ (W : World) (base p : Nat) (A : Option Addr) (cap : Nat) (ps : List Nat), StAt W base p A cap ps (l.set j U) → Tab W → Calls Tryd.prog 12 #[pv p, x.val, .int .i64 (i : Int), .int .i64 (s.length : Int)] W fun e w' => e = .returned (.tuple #[.string (st s), .int .i64 0]) ∧ Below W.heap.size W w') := Lib.hid fun W base p A cap ps hst hT => by
    have := read_all hst hl' hT x (i : Int) (s.length : Int) ha
    rw [rdA_d hd' hi, hUb, ← hnb, lay_mid (by rw [hub]; exact hi)] at this
    exact this
  have HWR : Hid (∀ (W : World) (base p : Nat) (A : Option Addr) (cap : Nat) (ps : List Nat), StAt W base p A cap ps l → Tab W → Calls Tryd.prog 13 #[pv p, x.val, .int .i64 (i : Int), .string (st s)] W fun e w' => e = .returned (.int .i64 0) ∧ StAt w' base p A cap ps (l.set j U) ∧ Fr (fun k => k ∈ ps) W w') := Lib.hid fun W base p A cap ps hst hT => by
    have := write_all hst h.2.2.2 (by have := h.2.1; omega) hT x (i : Int) ha s
    rw [hw] at this
    exact this
  have hsz2 := st_size nb
  have hsz3 := st_size u.b
  rw [hnl] at hsz2
  rw [hub] at hsz3
  have hs1 := run_st_hi 9 Tryd.underlying9 u.b i (by omega)
  obtain ⟨k, hk⟩ : ∃ k, k = i + s.length := ⟨_, rfl⟩
  have hs2 := run_st_lo 9 Tryd.underlying9 u.b k (by omega)
  have hwk : IntKind.i64.wrap ((i : Int) + (s.length : Int)) = (k : Int) := by rw [show (i : Int) + (s.length : Int) = (k : Int) by omega]; exact IntWalk.i64_in _ (by omega)
  have HLE1 : Hid ((u.b.take i ++ s).length ≤ 1000) := Lib.hid (by simp; omega)
  have HLE2 : Hid (nb.length ≤ 1000) := Lib.hid (by omega)
  have HNB : Hid ((u.b.take i ++ s) ++ u.b.drop k = nb) := Lib.hid (by rw [hk]; exact hnb)
  clear hT hr h hn ha hs d hr0 hi hU hnb hUb hub hnl hw hd' hok' hl' hk
  go_enter Tryd.func4, Tryd.ntmps4
  go_wp2_with (first
    | (go_at_call 8; refine (HMD.out _ (HT.out.below HKB.out.bel) (HR.out.below HKB.out.bel)).mono ?_; rintro e w1 ⟨q, rfl, hq, ⟨A', cap', ps, hs⟩, b1⟩; have HKB1 := Lib.hid (HKB.out.below b1); have HS1 := Lib.hid hs; have HPS := Lib.hid (show ∀ i ∈ ps, w.heap.size + 2 ≤ i from fun i hi => by have h1 := (hs.pps i hi).1; have h2 := HKB.out.sz; omega); clear b1 hq hs; obtain ⟨c0, c1, c2, c3, c4, c5⟩ := (HKB1.out.blk _ List.mem_cons_self).2.six; have d0 := (HKB1.out.blk _ (List.mem_cons_of_mem _ List.mem_cons_self)).2.cell 0; have d1 := (HKB1.out.blk _ (List.mem_cons_of_mem _ List.mem_cons_self)).2.cell 1)
    | (clear M0; go_at_call 12; refine (HRD.out _ _ _ _ _ _ HS1.out (HT.out.below HKB1.out.bel)).mono ?_; rintro e w2 ⟨rfl, b_⟩; have HKB2 := Lib.hid (HKB1.out.below b_); have HS2 := Lib.hid (HS1.out.below b_); clear b_ c0 c1 c2 c3 c4 c5 d0 d1; obtain ⟨c0, c1, c2, c3, c4, c5⟩ := (HKB2.out.blk _ List.mem_cons_self).2.six; have d0 := (HKB2.out.blk _ (List.mem_cons_of_mem _ List.mem_cons_self)).2.cell 0; have d1 := (HKB2.out.blk _ (List.mem_cons_of_mem _ List.mem_cons_self)).2.cell 1)
    | (go_at_call 13; refine (HWR.out _ _ _ _ _ _ HS2.out (HT.out.below HKB2.out.bel)).mono ?_; rintro e w3 ⟨rfl, hs3, f3⟩; have HKB3 := Lib.hid (HKB2.out.fr f3 HPS.out); have HS3 := Lib.hid hs3; clear f3 hs3 c0 c1 c2 c3 c4 c5 d0 d1; obtain ⟨c0, c1, c2, c3, c4, c5⟩ := (HKB3.out.blk _ List.mem_cons_self).2.six; have d0 := (HKB3.out.blk _ (List.mem_cons_of_mem _ List.mem_cons_self)).2.cell 0; have d1 := (HKB3.out.blk _ (List.mem_cons_of_mem _ List.mem_cons_self)).2.cell 1)
    | (clear M1; go_at_call 12; refine (HRD2.out _ _ _ _ _ _ HS3.out (HT.out.below HKB3.out.bel)).mono ?_; rintro e w4 ⟨rfl, b_⟩; have HKB4 := Lib.hid (HKB3.out.below b_); have HS4 := Lib.hid (HS3.out.below b_); clear b_ c0 c1 c2 c3 c4 c5 d0 d1; obtain ⟨c0, c1, c2, c3, c4, c5⟩ := (HKB4.out.blk _ List.mem_cons_self).2.six; have d0 := (HKB4.out.blk _ (List.mem_cons_of_mem _ List.mem_cons_self)).2.cell 0; have d1 := (HKB4.out.blk _ (List.mem_cons_of_mem _ List.mem_cons_self)).2.cell 1)
    | (go_at_call 12; refine (HRD3.out _ _ _ _ _ _ HS4.out (HT.out.below HKB4.out.bel)).mono ?_; rintro e w5 ⟨rfl, b_⟩; have HKB5 := Lib.hid (HKB4.out.below b_); have HS5 := Lib.hid (HS4.out.below b_); clear b_ c0 c1 c2 c3 c4 c5 d0 d1; obtain ⟨c0, c1, c2, c3, c4, c5⟩ := (HKB5.out.blk _ List.mem_cons_self).2.six; have d0 := (HKB5.out.blk _ (List.mem_cons_of_mem _ List.mem_cons_self)).2.cell 0; have d1 := (HKB5.out.blk _ (List.mem_cons_of_mem _ List.mem_cons_self)).2.cell 1))
  refine wp_region_only (S := fun W => W.cell? ⟨w.heap.size + 1, 0, none⟩ = some (.int .i64 (i : Int)) ∧ W.cell? ⟨w.heap.size + 1, 1, none⟩ = some (.string (st s))) (by kernel_rfl) ⟨(HKB5.out.drew.blk _ (List.mem_cons_of_mem _ List.mem_cons_self)).2.cell 0, (HKB5.out.drew.blk _ (List.mem_cons_of_mem _ List.mem_cons_self)).2.cell 1⟩ (fun hHeld => ?_)
  refine wpAnyH_take (i := 0) (v := ?v1) rfl (by kernel_rfl) (by kernel_rfl) (by kernel_rfl) (fun _ _ _ h => h) (Or.inl ⟨by rfl, ?hy1⟩) hHeld ?rest1
  case hy1 =>
    intro w' hSw
    try dsimp only at hSw
    have hq0 := hSw.1
    have hq1 := hSw.2
    go_simp
    first | done | with_reducible rfl
  try simp only [Act.put, List.getElem_toArray, List.getElem_cons_zero, List.setIfInBounds_toArray, List.set_cons_zero, List.set_cons_succ]
  refine wpAnyH_take (i := 1) (v := ?v2) rfl (by kernel_rfl) (by kernel_rfl) (by kernel_rfl) (fun _ _ _ h => h) (Or.inl ⟨by rfl, ?hy2⟩) hHeld ?rest2
  case hy2 =>
    intro w' hSw
    try dsimp only at hSw
    have hq0 := hSw.1
    have hq1 := hSw.2
    go_simp
    first | done | with_reducible rfl
  try simp only [Act.put, List.getElem_toArray, List.getElem_cons_succ, List.getElem_cons_zero, List.setIfInBounds_toArray, List.set_cons_zero, List.set_cons_succ]
  refine wpAnyH_take (i := 2) (v := ?v3) rfl (by kernel_rfl) (by kernel_rfl) (by kernel_rfl) (fun _ _ _ h => h) (Or.inl ⟨by rfl, ?hy3⟩) hHeld ?rest3
  case hy3 =>
    intro w' hSw
    try dsimp only at hSw
    have hq0 := hSw.1
    have hq1 := hSw.2
    go_simp
    first | done | with_reducible rfl
  try simp only [Act.put, List.getElem_toArray, List.getElem_cons_succ, List.getElem_cons_zero, List.setIfInBounds_toArray, List.set_cons_zero, List.set_cons_succ]
  refine wpAnyH_take (i := 3) (v := ?v4) rfl (by kernel_rfl) (by kernel_rfl) (by kernel_rfl) (fun _ _ _ h => h) (Or.inl ⟨by rfl, ?hy4⟩) hHeld ?rest4
  case hy4 =>
    intro w' hSw
    try dsimp only at hSw
    have hq0 := hSw.1
    have hq1 := hSw.2
    go_simp
    first | done | with_reducible rfl
  try simp only [Act.put, List.getElem_toArray, List.getElem_cons_succ, List.getElem_cons_zero, List.setIfInBounds_toArray, List.set_cons_zero, List.set_cons_succ]
  refine wpAnyH_take (i := 4) (v := ?v5) rfl (by kernel_rfl) (by kernel_rfl) (by kernel_rfl) (fun _ _ _ h => h) (Or.inl ⟨by rfl, ?hy5⟩) hHeld ?rest5
  case hy5 =>
    intro w' hSw
    try dsimp only at hSw
    have hq0 := hSw.1
    have hq1 := hSw.2
    go_simp
    first | done | with_reducible rfl
  try simp only [Act.put, List.getElem_toArray, List.getElem_cons_succ, List.getElem_cons_zero, List.setIfInBounds_toArray, List.set_cons_zero, List.set_cons_succ]
  refine wpAnyH_take (i := 5) (v := ?v6) rfl (by kernel_rfl) (by kernel_rfl) (by kernel_rfl) (fun _ _ _ h => h) (Or.inl ⟨by rfl, ?hy6⟩) hHeld ?rest6
  case hy6 =>
    intro w' hSw
    try dsimp only at hSw
    have hq0 := hSw.1
    have hq1 := hSw.2
    go_simp
    first | done | with_reducible rfl
  try simp only [Act.put, List.getElem_toArray, List.getElem_cons_succ, List.getElem_cons_zero, List.setIfInBounds_toArray, List.set_cons_zero, List.set_cons_succ]
  refine wpAnyH_take (i := 6) (v := ?v7) rfl (by kernel_rfl) (by kernel_rfl) (by kernel_rfl) (fun _ _ _ h => h) (Or.inl ⟨by rfl, ?hy7⟩) hHeld ?rest7
  case hy7 =>
    intro w' hSw
    try dsimp only at hSw
    have hq0 := hSw.1
    have hq1 := hSw.2
    go_simp
    first | done | with_reducible rfl
  try simp only [Act.put, List.getElem_toArray, List.getElem_cons_succ, List.getElem_cons_zero, List.setIfInBounds_toArray, List.set_cons_zero, List.set_cons_succ]
  refine wpAnyH_take (i := 7) rfl (by kernel_rfl) (by kernel_rfl) (by kernel_rfl) (fun _ _ _ h => h) (y_addst (by rfl) _ _ (by rfl) (u.b.take i) s (u.b.take i ++ s) (by rfl) (by rfl) rfl HLE1.out) hHeld ?_
  try simp only [Act.put, List.getElem_toArray, List.getElem_cons_succ, List.getElem_cons_zero, List.setIfInBounds_toArray, List.set_cons_zero, List.set_cons_succ]
  refine wpAnyH_take (i := 8) (v := ?v8) rfl (by kernel_rfl) (by kernel_rfl) (by kernel_rfl) (fun _ _ _ h => h) (Or.inl ⟨by rfl, ?hy8⟩) hHeld ?rest8
  case hy8 =>
    intro w' hSw
    try dsimp only at hSw
    have hq0 := hSw.1
    have hq1 := hSw.2
    go_simp
    first | done | with_reducible rfl
  try simp only [Act.put, List.getElem_toArray, List.getElem_cons_succ, List.getElem_cons_zero, List.setIfInBounds_toArray, List.set_cons_zero, List.set_cons_succ]
  refine wpAnyH_take (i := 9) (v := ?v9) rfl (by kernel_rfl) (by kernel_rfl) (by kernel_rfl) (fun _ _ _ h => h) (Or.inl ⟨by rfl, ?hy9⟩) hHeld ?rest9
  case hy9 =>
    intro w' hSw
    try dsimp only at hSw
    have hq0 := hSw.1
    have hq1 := hSw.2
    go_simp
    first | done | with_reducible rfl
  try simp only [Act.put, List.getElem_toArray, List.getElem_cons_succ, List.getElem_cons_zero, List.setIfInBounds_toArray, List.set_cons_zero, List.set_cons_succ]
  refine wpAnyH_take (i := 10) (v := ?v10) rfl (by kernel_rfl) (by kernel_rfl) (by kernel_rfl) (fun _ _ _ h => h) (Or.inl ⟨by rfl, ?hy10⟩) hHeld ?rest10
  case hy10 =>
    intro w' hSw
    try dsimp only at hSw
    have hq0 := hSw.1
    have hq1 := hSw.2
    go_simp
    first | done | with_reducible rfl
  try simp only [Act.put, List.getElem_toArray, List.getElem_cons_succ, List.getElem_cons_zero, List.setIfInBounds_toArray, List.set_cons_zero, List.set_cons_succ]
  refine wpAnyH_take (i := 11) (v := ?v11) rfl (by kernel_rfl) (by kernel_rfl) (by kernel_rfl) (fun _ _ _ h => h) (Or.inl ⟨by rfl, ?hy11⟩) hHeld ?rest11
  case hy11 =>
    intro w' hSw
    try dsimp only at hSw
    have hq0 := hSw.1
    have hq1 := hSw.2
    go_simp
    first | done | with_reducible rfl
  try simp only [Act.put, List.getElem_toArray, List.getElem_cons_succ, List.getElem_cons_zero, List.setIfInBounds_toArray, List.set_cons_zero, List.set_cons_succ]
  refine wpAnyH_take (i := 12) (v := ?v12) rfl (by kernel_rfl) (by kernel_rfl) (by kernel_rfl) (fun _ _ _ h => h) (Or.inl ⟨by rfl, ?hy12⟩) hHeld ?rest12
  case hy12 =>
    intro w' hSw
    try dsimp only at hSw
    have hq0 := hSw.1
    have hq1 := hSw.2
    go_simp
    first | done | with_reducible rfl
  try simp only [Act.put, List.getElem_toArray, List.getElem_cons_succ, List.getElem_cons_zero, List.setIfInBounds_toArray, List.set_cons_zero, List.set_cons_succ]
  refine wpAnyH_take (i := 13) (v := ?v13) rfl (by kernel_rfl) (by kernel_rfl) (by kernel_rfl) (fun _ _ _ h => h) (Or.inl ⟨by rfl, ?hy13⟩) hHeld ?rest13
  case hy13 =>
    intro w' hSw
    try dsimp only at hSw
    have hq0 := hSw.1
    have hq1 := hSw.2
    go_simp
    first | done | with_reducible rfl
  try simp only [Act.put, List.getElem_toArray, List.getElem_cons_succ, List.getElem_cons_zero, List.setIfInBounds_toArray, List.set_cons_zero, List.set_cons_succ]
  refine wpAnyH_take (i := 14) (v := ?v14) rfl (by kernel_rfl) (by kernel_rfl) (by kernel_rfl) (fun _ _ _ h => h) (Or.inl ⟨by rfl, ?hy14⟩) hHeld ?rest14
  case hy14 =>
    intro w' hSw
    try dsimp only at hSw
    have hq0 := hSw.1
    have hq1 := hSw.2
    go_simp
    first | done | with_reducible rfl
  try simp only [Act.put, List.getElem_toArray, List.getElem_cons_succ, List.getElem_cons_zero, List.setIfInBounds_toArray, List.set_cons_zero, List.set_cons_succ]
  refine wpAnyH_take (i := 15) (v := ?v15) rfl (by kernel_rfl) (by kernel_rfl) (by kernel_rfl) (fun _ _ _ h => h) (Or.inl ⟨by rfl, ?hy15⟩) hHeld ?rest15
  case hy15 =>
    intro w' hSw
    try dsimp only at hSw
    have hq0 := hSw.1
    have hq1 := hSw.2
    go_simp
    first | done | with_reducible rfl
  try simp only [Act.put, List.getElem_toArray, List.getElem_cons_succ, List.getElem_cons_zero, List.setIfInBounds_toArray, List.set_cons_zero, List.set_cons_succ]
  refine wpAnyH_take (i := 16) rfl (by kernel_rfl) (by kernel_rfl) (by kernel_rfl) (fun _ _ _ h => h) (y_addst (by rfl) _ _ (by rfl) (u.b.take i ++ s) (u.b.drop k) nb (by rfl) (by rfl) HNB.out HLE2.out) hHeld ?_
  try simp only [Act.put, List.getElem_toArray, List.getElem_cons_succ, List.getElem_cons_zero, List.setIfInBounds_toArray, List.set_cons_zero, List.set_cons_succ]
  refine wpAnyH_take (i := 17) (v := ?v16) rfl (by kernel_rfl) (by kernel_rfl) (by kernel_rfl) (fun _ _ _ h => h) (Or.inl ⟨by rfl, ?hy16⟩) hHeld ?rest16
  case hy16 =>
    intro w' hSw
    try dsimp only at hSw
    have hq0 := hSw.1
    have hq1 := hSw.2
    go_simp
    first | done | with_reducible rfl
  try simp only [Act.put, List.getElem_toArray, List.getElem_cons_succ, List.getElem_cons_zero, List.setIfInBounds_toArray, List.set_cons_zero, List.set_cons_succ]
  refine wpAnyH_take (i := 18) (v := ?v17) rfl (by kernel_rfl) (by kernel_rfl) (by kernel_rfl) (fun _ _ _ h => h) (Or.inl ⟨by rfl, ?hy17⟩) hHeld ?rest17
  case hy17 =>
    intro w' hSw
    try dsimp only at hSw
    have hq0 := hSw.1
    have hq1 := hSw.2
    go_simp
    first | done | with_reducible rfl
  try simp only [Act.put, List.getElem_toArray, List.getElem_cons_succ, List.getElem_cons_zero, List.setIfInBounds_toArray, List.set_cons_zero, List.set_cons_succ]
  refine wpAnyH_ready (rs := [19]) (by kernel_rfl) (by simp) ?_
  refine AllReadyH.cons (by rfl) (fun K hK => ?_) AllReadyH.nil
  go_simp
  refine (known_any _ (HT.out.below HKB5.out.drew.bel)).mono ?_
  rintro e_ w9 ⟨rfl, b_⟩
  have HKB9 := Lib.hid (HKB5.out.drew.below b_)
  clear b_ hHeld
  go_wp2_with fail
  refine hK.out _ _ ⟨(HKB9.out.blk _ (List.mem_cons_of_mem _ List.mem_cons_self)).2.cell 0, (HKB9.out.blk _ (List.mem_cons_of_mem _ List.mem_cons_self)).2.cell 1⟩ (fun hHeld => ?_)
  clear hK K
  try simp only [Act.put, List.getElem_toArray, List.getElem_cons_succ, List.getElem_cons_zero, List.setIfInBounds_toArray, List.set_cons_zero, List.set_cons_succ]
  refine wpAnyH_take (i := 20) (v := ?v18) rfl (by kernel_rfl) (by kernel_rfl) (by kernel_rfl) (fun _ _ _ h => h) (Or.inl ⟨by rfl, ?hy18⟩) hHeld ?rest18
  case hy18 =>
    intro w' hSw
    try dsimp only at hSw
    have hq0 := hSw.1
    have hq1 := hSw.2
    go_simp
    first | done | with_reducible rfl
  try simp only [Act.put, List.getElem_toArray, List.getElem_cons_succ, List.getElem_cons_zero, List.setIfInBounds_toArray, List.set_cons_zero, List.set_cons_succ]
  refine wpAnyH_take (i := 21) (v := ?v19) rfl (by kernel_rfl) (by kernel_rfl) (by kernel_rfl) (fun _ _ _ h => h) (Or.inl ⟨by rfl, ?hy19⟩) hHeld ?rest19
  case hy19 =>
    intro w' hSw
    try dsimp only at hSw
    have hq0 := hSw.1
    have hq1 := hSw.2
    go_simp
    first | done | with_reducible rfl
  try simp only [Act.put, List.getElem_toArray, List.getElem_cons_succ, List.getElem_cons_zero, List.setIfInBounds_toArray, List.set_cons_zero, List.set_cons_succ]
  refine wpAnyH_done (by kernel_rfl) ?_ _
  refine OnlyN.normal ?_
  clear hHeld
  go_wp2_with fail
  go_ret
  exact ⟨rfl, HKB9.out.bel⟩
set_option maxRecDepth 8000 in
theorem walk (w : World) (hL : laidMetH Tryd.prog laidK w) (A : Option Addr) (l : List Oj) (cap : Nat) (hr : RdO w A l) (x : Ky) (a : Int) (s : List UInt8) (ha : a ≤ 9223372036854775807) : Calls Tryd.prog 4 #[.slice A l.length cap, x.val, .agg (xbc a s)] w fun e w' => e = .returned (.bool true) ∧ Below w.heap.size w w' := by
  by_cases h : madeP l
  · by_cases hs : s.length ≤ 100
    · by_cases hb : (wrA l x a s).2 = 0
      · obtain ⟨j, u, i, d, hr0, rfl, hi⟩ := wrA_good hb
        exact walk_ok w (tab_of hL) A l cap x i s hr h hs j u d hr0 hi
      · exact walk_bad w (tab_of hL) A l cap x a s ha hr h hs hb
    · exact walk_big w (tab_of hL) A l cap x a s hr h (by omega)
  · exact walk_no w (tab_of hL) A l cap x a s hr h
set_option maxRecDepth 100000 in
theorem lifted (os : Os) (started : os.Started) (H : Type) (enc : TypeId × Value → H) :
    ReturnsInHanded {} Tryd.checked os 4 .any (fun w args => (Rows.pagesBackSpec.pre enc Tryd.prog Tryd.f4 [] false w args ∧ laidMetH Tryd.prog laidK w) ∧ sizedMet enc Tryd.prog Tryd.f4 (OpenSpec.ofChange Rows.pagesBackSpec) false w args) (Rows.pagesBackSpec.post enc Tryd.prog Tryd.f4 false true false false) := by
  refine returnsInHanded_of_change_and (C := Tryd.checked) (X := fun w _ => laidMetH Tryd.prog laidK w) (fun _ _ _ hh h => h.of_heap hh) own started (by kernel_rfl) Tryd.func4
    (ChangeSpec.witness_shaped (enc := enc) (C := Tryd.checked) (os := os) (X := fun w _ => laidMetH Tryd.prog laidK w) false (World.doorLaid Tryd.prog 40 os) #[.slice none 0 0, .agg #[.int .i64 0, .int .i64 0, .int .i64 0, .int .i64 0, .int .i64 0, .int .i64 0], .agg #[.int .i64 0, .string { data := #[] }]] 8 rfl (World.shaped_of_RefB (by kernel_rfl) (by kernel_rfl)) (by kernel_rfl) (by kernel_rfl) (by kernel_rfl) (door_met os _)) ?_
  intro W base args ds gs before hval0 hW _ _ hL _
  have hval : ∀ (j : Nat) t v, Tryd.f4.params[j]? = some t → args[j]? = some v → Value.okWide Tryd.prog W .any base t v := hval0
  have hW' := hW
  obtain ⟨p, q, hA0, hV, rfl, hfz, hnd⟩ := hW
  have hA : DataW.TrodAll enc Tryd.prog W 0 (fun _ => true) true Tryd.f4.params.toList args.toList ds p := hA0
  rw [Tryd.params4] at hA hval
  obtain ⟨v0, vs0, d0, ds0, p0, q0, hargs, rfl, rfl, h0, t0⟩ := trodAll_cons hA
  obtain ⟨v1, vs1, d1, ds1, p1, q1, rfl, rfl, rfl, h1, t1⟩ := trodAll_cons t0
  obtain ⟨v2, vs2, d2, ds2, p2, q2, rfl, rfl, rfl, h2, t2⟩ := trodAll_cons t1
  obtain ⟨rfl, rfl, rfl⟩ := trodAll_nil t2
  obtain rfl : args = #[v0, v1, v2] := by cases args; simp_all
  obtain ⟨rfl, rfl⟩ := trodVars_none hV
  have k0 := h0
  have lt0 : ∀ x ∈ p0, x.block < W.heap.size := by obtain ⟨m, hm⟩ := k0; exact DataW.trod_lt m _ _ _ hm
  obtain ⟨A0, l0, c0, rfl, hlc0, hcm0, hr0⟩ := open_obs (hval 0 22 v0 rfl rfl) h0
  have k1 := h1
  have lt1 : ∀ x ∈ p1, x.block < W.heap.size := by obtain ⟨m, hm⟩ := k1; exact DataW.trod_lt m _ _ _ hm
  obtain ⟨kx1, rfl⟩ := open_key (hval 1 30 v1 rfl rfl) h1
  have k2 := h2
  have lt2 : ∀ x ∈ p2, x.block < W.heap.size := by obtain ⟨m, hm⟩ := k2; exact DataW.trod_lt m _ _ _ hm
  obtain ⟨a2, s2, rfl, ha2⟩ := open_xb (hval 2 38 v2 rfl rfl) h2
  clear hA0 hval0
  refine (walk W hL A0 l0 c0 hr0 kx1 a2 s2 ha2).mono fun e W' ⟨he, bel⟩ => ?_
  subst he
  exact ⟨_, rfl, _, _, _, [], _, [], hW', trodAll_mk1 (shut_bool Tryd.underlying4 _), (trodAll_cons_mk (Below.trod laidOut (by kernel_rfl) (of_decide_eq_true (by kernel_rfl)) k0 bel lt0) (trodAll_cons_mk (Below.trod laidOut (by kernel_rfl) (of_decide_eq_true (by kernel_rfl)) k1 bel lt1) (trodAll_cons_mk (Below.trod laidOut (by kernel_rfl) (of_decide_eq_true (by kernel_rfl)) k2 bel lt2) trodAll_mk0))), rfl, bel.frame _, fun h => by cases h⟩
theorem over : Rows.pagesBackRow.holds Tryd.pinned (OpenSpec.ofChange Rows.pagesBackSpec) :=
  OpenClaim.holds_of_wide 4 Tryd.f4 rfl rfl rfl rfl rfl rfl rfl ⟨rfl, rfl, rfl, rfl, rfl⟩ rfl rfl rfl rfl rfl (by kernel_rfl) Tryd.func4 (by kernel_rfl)
    (of_decide_eq_true (by kernel_rfl)) (by unfold Func.isWrapper; first | (rw [if_pos (by decide +kernel)]; kernel_rfl) | (rw [if_neg (by decide +kernel)]; exact ⟨rfl, rfl⟩))
    (fun os started H enc _ => lifted os started H enc)
set_option maxRecDepth 8000 in
theorem proved : Rows.PagesBackCardSaid :=
  Claim7.holds_tied_plain_at .later [] [.data] true Rows.pagesBackCard.stood.harness false
    over (fun _ h => by cases h) (by kernel_rfl) (fun _ h => by cases h) pagesBack_row_tie rfl ⟨rfl, rfl⟩ (by kernel_rfl) rfl
    (fun f fn hf hfn => by
      obtain rfl : f = 4 := Option.some.inj ((show Tryd.prog.funcNamed "chatelaine/chatelainelaw10.PagesBack" = some 4 by kernel_rfl).symm.trans hf) |>.symm
      obtain rfl : fn = Tryd.f4 := (Option.some.inj (Tryd.func4.symm.trans hfn)).symm
      exact ⟨by kernel_rfl, fun j t ht => by
        rw [Tryd.params4] at ht
        have hm : t ∈ [22, 30, 38] := by simpa using Array.mem_of_getElem? ht
        have hall : ([22, 30, 38].all fun u => !Tryd.prog.wantsStandIn u) = true := by kernel_rfl
        exact (show Tryd.prog.wantsStandIn t = false by simpa using List.all_eq_true.1 hall t hm)⟩)
    (by kernel_rfl)
end Go.Proofs.YtedlacdijkggjaaDoor.pagesBack

/- law 10: known, made. -/
import Derived.Test.YtedlacdijkggjaaDoorGBk
namespace Go.Proofs.YtedlacdijkggjaaDoor
open Go.RowKit
set_option maxRecDepth 100000 in
set_option maxHeartbeats 2000000 in
theorem known_aux (w : World) (hT : Tab w) (x : Ky) (u u' : Oj) (h1 : Tryd.prog.built 49 [(0, .int .i64 2), (1, .int .i64 1)] = some u.cells.toArray) (h2 : Tryd.prog.built 30 [(0, .int .i64 3), (2, .int .i64 1)] = some (kl x).toArray)
    (hp : wrA [u] x 62 [97, 98] = ([u'], 0)) (hg : rdA [u'] x 61 3 = ([0, 97, 98], 0)) (hr : rightP [u]) : Calls Tryd.prog 9 #[] w fun e w' => e = .returned (.bool true) ∧ Below w.heap.size w w' := by
  have HT := Lib.hid hT
  have HR := Lib.hid (rdo_one (Blk.new w 49 u.cells.toArray))
  have HB0 := Lib.hid ((Below.refl w.heap.size w).alloc (Nat.le_refl _) (.cells u.cells.toArray 49))
  have HOF : ∀ (W : World) (A : Option Addr), Tab W → RdO W A [u] → Calls Tryd.prog 17 #[.slice A 1 1] W fun e w' => ∃ q, e = .returned (.tuple #[pv q, .int .i64 0]) ∧ W.heap.size ≤ q ∧ (∃ A' cap' ps, StAt w' q q A' cap' ps [u]) ∧ Below W.heap.size W w' := fun W A hT hA => (of_yes (cap := 1) hT hA hr).mono fun e w' h => ⟨W.heap.size, h.1, Nat.le_refl _, h.2.1, h.2.2⟩
  have HPU : ∀ (W : World) (base p : Nat) (A : Option Addr) (cap : Nat) (ps : List Nat), StAt W base p A cap ps [u] → Tab W → Calls Tryd.prog 13 #[pv p, x.val, .int .i64 62, .string { data := #[97, 98] }] W fun e w' => e = .returned (.int .i64 0) ∧ StAt w' base p A cap ps [u'] ∧ Fr (fun k => k ∈ ps) W w' := fun W base p A cap ps h hT => by
    have := write_all h hr.2.2 Nat.zero_lt_one hT x 62 (by decide) [97, 98]
    rw [hp] at this
    exact this
  have HGE : ∀ (W : World) (base p : Nat) (A : Option Addr) (cap : Nat) (ps : List Nat), StAt W base p A cap ps [u'] → Tab W → Calls Tryd.prog 12 #[pv p, x.val, .int .i64 61, .int .i64 3] W fun e w' => e = .returned (.tuple #[.string { data := #[0, 97, 98] }, .int .i64 0]) ∧ Below W.heap.size W w' := fun W base p A cap ps h hT => by
    have := read_all h Nat.zero_lt_one hT x 61 3 (by decide)
    rw [hg] at this
    exact this
  have HO := Lib.hid HOF
  have HP := Lib.hid HPU
  have HG := Lib.hid HGE
  have H1 := Lib.hid h1
  have H2 := Lib.hid h2
  clear hT hp hg hr HOF HPU HGE h1 h2
  go_enter Tryd.func9, Tryd.ntmps9
  go_wp2_with (first
    | (show wpList _ _ _ ({ dst := some 8, op := .build _ _, type := _, pos := _, after := _, guard := _ } :: _) _ _; refine wpList_yields (S := fun _ => True) (y_build2 (by rfl) (by rfl) H1.out) trivial ?_)
    | (refine wpList_buildSlice34 rfl (.tmp 8) rfl u rfl ?_)
    | (go_at_call 17; refine (HO.out _ _ (HT.out.below HB0.out) HR.out).mono ?_; rintro e w1 ⟨q, rfl, hq, ⟨A1, cap1, ps1, hs⟩, b1⟩; have HQ := Lib.hid hq; clear hq; have HB1 := Lib.hid ((HB0.out.trans (b1.mono HB0.out.size)).alloc (Nat.le_trans HB0.out.size b1.size) (.cells (kl x).toArray 30)); have HX1 := Lib.hid (Blk.new w1 30 (kl x).toArray); have HS1 := Lib.hid (hs.alloc (.cells (kl x).toArray 30)); clear b1; obtain ⟨c0, c1, c2, c3, c4, c5⟩ := HX1.out.six)
    | (show wpList _ _ _ ({ dst := some 13, op := .build _ _, type := _, pos := _, after := _, guard := _ } :: _) _ _; refine wpList_yields (S := fun _ => True) (y_build2 (by rfl) (by rfl) H2.out) trivial ?_)
    | (show wpList _ _ _ ({ dst := none, op := .store _ (.tmp 3) (.tmp 13), type := _, pos := _, after := _, guard := _ } :: _) _ _; refine wpList_store_new (l := kl x) (l0 := kl zk) (ty := 30) rfl (.tmp 3) (.tmp 13) (by rfl) _ rfl (by rfl) (by rfl) size30 rfl (kl_one _) ?_)
    | (go_at_call 13; refine (HP.out _ _ _ _ _ _ HS1.out (HT.out.below HB1.out)).mono ?_; rintro e w2 ⟨rfl, hs2, f2⟩; have HB2 := Lib.hid (HB1.out.trans (f2.to_below (fun k hk => by have h1 := (HS1.out.pps k hk).1; have h2 := HQ.out; have h3 := HB0.out.size; omega) HB1.out.size)); have HX2 := Lib.hid (show Blk _ _ _ _ from ((f2.block _ HX1.out.lt (fun hm => by have := hs.lt _ (.inr (.inr hm)); omega)).trans HX1.out)); have HS2 := Lib.hid hs2; clear f2 hs2 hs c0 c1 c2 c3 c4 c5; obtain ⟨c0, c1, c2, c3, c4, c5⟩ := HX2.out.six)
    | (go_at_call 12; refine (HG.out _ _ _ _ _ _ HS2.out (HT.out.below HB2.out)).mono ?_; rintro e w3 ⟨rfl, b3⟩; have HB3 := Lib.hid (HB2.out.trans (b3.mono HB2.out.size)); clear b3 c0 c1 c2 c3 c4 c5))
  go_ret
  exact ⟨rfl, HB3.out⟩
theorem known_any (w : World) (hT : Tab w) : Calls Tryd.prog 9 #[] w fun e w' => e = .returned (.bool true) ∧ Below w.heap.size w w' :=
  known_aux w hT knk10 kn10 kn10' built10 builtK10 kn10_write kn10_read kn10_right
set_option maxRecDepth 8000 in
theorem made_yes {w : World} {A : Option Addr} {l : List Oj} {cap : Nat} (hT : Tab w) (hr : RdO w A l) (h : madeP l) :
    Calls Tryd.prog 8 #[.slice A l.length cap] w fun e w' => ∃ q, e = .returned (pv q) ∧ w.heap.size ≤ q ∧ (∃ A' cap' ps, StAt w' q q A' cap' ps l) ∧ Below w.heap.size w w' := by
  have HT := Lib.hid hT
  have HR := Lib.hid hr
  have H := Lib.hid h.2
  have d1 : decide ((20 : Int) < (l.length : Int)) = false := decide_eq_false (by have := h.1; omega)
  have d2 : decide (20 < l.length) = false := decide_eq_false (by have := h.1; omega)
  have HB0 := Lib.hid (Below.refl w.heap.size w)
  clear hT hr h
  go_enter Tryd.func8, Tryd.ntmps8
  go_wp2_with (first
    | (go_at_call 16; refine (right_yes HR.out H.out).mono ?_; rintro e w1 ⟨rfl, b1⟩; have HB1 := Lib.hid (HB0.out.trans b1); clear b1)
    | (go_at_call 17; refine (of_yes (HT.out.below HB1.out) (HR.out.below HB1.out) H.out).mono ?_; rintro e w2 ⟨rfl, hs, b2⟩; have HS := Lib.hid hs; have HB2 := Lib.hid (HB1.out.trans (b2.mono HB1.out.size)); clear b2 hs))
  go_ret
  obtain ⟨A', cap', ps, hs⟩ := HS.out
  have hb := HB1.out.size
  exact ⟨_, rfl, hb, ⟨A', cap', ps, hs⟩, HB2.out⟩
set_option maxRecDepth 8000 in
theorem made_no {w : World} {A : Option Addr} {l : List Oj} {cap : Nat} (hr : RdO w A l) (h : ¬ madeP l) :
    Calls Tryd.prog 8 #[.slice A l.length cap] w fun e w' => e = .returned (.pointer none) ∧ Below w.heap.size w w' := by
  have HR := Lib.hid hr
  have HB0 := Lib.hid (Below.refl w.heap.size w)
  by_cases h1 : l.length ≤ 20
  · have H := Lib.hid (fun hp => h ⟨h1, hp⟩ : ¬ rightP l)
    have d1 : decide ((20 : Int) < (l.length : Int)) = false := decide_eq_false (by omega)
    have d2 : decide (20 < l.length) = false := decide_eq_false (by omega)
    clear hr h h1
    go_enter Tryd.func8, Tryd.ntmps8
    go_wp2_with (first
      | (go_at_call 16; refine (right_no HR.out H.out).mono ?_; rintro e w1 ⟨rfl, b1⟩; have HB1 := Lib.hid (HB0.out.trans b1); clear b1))
    go_ret
    exact ⟨rfl, HB1.out⟩
  · have d1 : decide ((20 : Int) < (l.length : Int)) = true := decide_eq_true (by omega)
    have d2 : decide (20 < l.length) = true := decide_eq_true (by omega)
    clear hr h h1
    go_enter Tryd.func8, Tryd.ntmps8
    go_wp2_with fail
    go_ret
    exact ⟨rfl, HB0.out⟩
end Go.Proofs.YtedlacdijkggjaaDoor

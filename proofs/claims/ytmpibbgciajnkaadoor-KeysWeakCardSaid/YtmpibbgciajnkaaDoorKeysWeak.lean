/- The law KeysWeak returns true for every input: keys.Weaken and Less of up to 60 keys are the definition's. No condition but that the listed variables read as the program's own text lays them; the card ties them to it. -/
import Derived.Test.YtmpibbgciajnkaaDoorKAny
import Derived.Test.YtmpibbgciajnkaaDoorKFr
import Derived.Test.YtmpibbgciajnkaaDoorRegIn
import Derived.Test.YtmpibbgciajnkaaDoorKSl
namespace Go.Proofs.YtmpibbgciajnkaaDoor.keysWeak
open Go.ChangeShapes Go.WideShapes Go.ChangeAt Go.RowKit
attribute [local go_sem] Oper.semAt_some
theorem sameK_self (k o c l r v : Int) : (!sameK k o c l r v k o c l r v) = false := by simp [sameK]
set_option maxRecDepth 100000 in
set_option maxHeartbeats 1000000 in
theorem walk_big (w : World) (hT : Tab w) (A : Option Addr) (l : List Ky) (cap : Nat) (r : Int) (hl : 60 < l.length) :
    Calls Tryd.prog 6 #[.slice A l.length cap, .int .i64 r] w fun e w' => e = .returned (.bool true) ∧ Below w.heap.size w w' := by
  have HT := Lib.hid hT
  have h60 : (60 : Int) < (l.length : Int) := by omega
  have d60 : decide ((60 : Int) < (l.length : Int)) = true := by simpa using h60
  clear hT h60
  go_enter Tryd.func6, Tryd.ntmps6
  go_wp2_with (go_at_call 18; refine (known_any _ HT.out).mono ?_; rintro e w1 ⟨rfl, b1⟩)
  go_ret
  exact ⟨rfl, b1⟩
set_option maxRecDepth 100000 in
set_option maxHeartbeats 8000000 in
theorem walk_small (w : World) (hT : Tab w) (A : Option Addr) (l : List Ky) (cap : Nat) (r : Int) (hl : l.length ≤ 60) (hr : RdK w A l) :
    Calls Tryd.prog 6 #[.slice A l.length cap, .int .i64 r] w fun e w' => e = .returned (.bool true) ∧ Below w.heap.size w w' := by
  have HT := Lib.hid hT
  have HR := Lib.hid hr
  have h60 : ¬ (60 : Int) < (l.length : Int) := by omega
  have d60 : decide ((60 : Int) < (l.length : Int)) = false := by simpa using h60
  clear hT hr h60
  go_enter Tryd.func6, Tryd.ntmps6
  go_wp2
  go_loopw [5] (fun i wr => ∃ k : Nat, k ≤ l.length ∧ i = .int .i64 k ∧ Below w.heap.size w wr ∧ RdK wr A l ∧ Tab wr) (fun i _ => l.length + 1 - (intOf i).toNat)
  case atStart => exact ⟨0, by omega, rfl, Below.refl _ _, HR.out, HT.out⟩
  case round =>
    obtain ⟨k, hk, rfl, hb, hrd, ht⟩ := hrel
    clear HT HR
    by_cases hlt : k < l.length
    · obtain ⟨b, o, rfl, hke⟩ := hrd k hlt
      obtain ⟨x, hx⟩ : ∃ x, x = l[k] := ⟨_, rfl⟩
      rw [← hx] at hke
      have HB0 := Lib.hid hb
      have HT0 := Lib.hid ht
      have K0 := Lib.hid hke
      have HRD := Lib.hid hrd
      obtain ⟨c0, c1, c2, c3, c4, c5⟩ := hke.six
      clear hb ht hke hrd hx
      by_cases ho : x.ok
      · have HO := Lib.hid ho
        clear ho
        obtain ⟨xw, hxw⟩ : ∃ y : Ky, x.weak = y := ⟨_, rfl⟩
        have HXW := Lib.hid hxw
        clear hxw
        by_cases h0 : r < 0
        · have hq : r < 0 ∨ 7 < r := .inl h0
          have HQ := Lib.hid hq
          clear hq
          go_wp2_with (first
            | (go_at_call 21; refine (HXW.out ▸ weaken_ok x _ HT0.out HO.out).mono ?_; rintro e w1 ⟨rfl, b_⟩; have T1 := Lib.hid ((HT0.out.below b_).alloc (.cells (kc xw.k xw.o xw.c xw.l xw.r xw.v) 25)); have B1 := Lib.hid ((HB0.out.trans (b_.mono HB0.out.size)).alloc (by have := HB0.out.size; have := b_.size; omega) (.cells (kc xw.k xw.o xw.c xw.l xw.r xw.v) 25)); have K1 := Lib.hid ((K0.out.keep b_).alloc (.cells (kc xw.k xw.o xw.c xw.l xw.r xw.v) 25)); have R1 := Lib.hid ((HRD.out.keep b_).alloc (.cells (kc xw.k xw.o xw.c xw.l xw.r xw.v) 25)); have P6a := Lib.hid (Blk.new w1 25 (kc xw.k xw.o xw.c xw.l xw.r xw.v)); have hkc := K0.out.keep b_; have hz_w1 := hkc.lt; clear c0 c1 c2 c3 c4 c5; obtain ⟨c0, c1, c2, c3, c4, c5⟩ := hkc.six; clear hkc b_)
            | (go_at_call 22; refine (lesss_bad x.k x.o x.c x.l x.r x.v r _ T1.out HO.out HQ.out).mono ?_; rintro e w2 ⟨rfl, b_⟩; have T2 := Lib.hid ((T1.out.below b_).alloc (.cells (kc 0 0 0 0 0 0) 25)); have B2 := Lib.hid ((B1.out.trans (b_.mono B1.out.size)).alloc (by have := B1.out.size; have := b_.size; omega) (.cells (kc 0 0 0 0 0 0) 25)); have K2 := Lib.hid ((K1.out.keep b_).alloc (.cells (kc 0 0 0 0 0 0) 25)); have R2 := Lib.hid ((R1.out.keep b_).alloc (.cells (kc 0 0 0 0 0 0) 25)); have P6b := Lib.hid ((P6a.out.keep b_).alloc (.cells (kc 0 0 0 0 0 0) 25)); have P8b := Lib.hid (Blk.new w2 25 (kc 0 0 0 0 0 0)); have hkc := K1.out.keep b_; have hz_w2 := hkc.lt; clear c0 c1 c2 c3 c4 c5; obtain ⟨c0, c1, c2, c3, c4, c5⟩ := hkc.six; clear hkc b_)
            | (go_at_call 15; refine (rchk_ok x.k x.o x.c x.l x.r x.v _ HO.out).mono ?_; rintro e w3 ⟨rfl, b_⟩; have T3 := Lib.hid (T2.out.below b_); have B3 := Lib.hid (B2.out.trans (b_.mono B2.out.size)); have K3 := Lib.hid (K2.out.keep b_); have R3 := Lib.hid (R2.out.keep b_); have P6 := Lib.hid (P6b.out.keep b_); have P8 := Lib.hid (P8b.out.keep b_); clear c0 c1 c2 c3 c4 c5 b_ hz_w1 hz_w2; obtain ⟨c0, c1, c2, c3, c4, c5⟩ := K3.out.six; obtain ⟨d0, d1, d2, d3, d4, d5⟩ := P6.out.six; obtain ⟨e0, e1, e2, e3, e4, e5⟩ := P8.out.six))
          clear c0 c1 c2 c3 c4 c5 d0 d1 d2 d3 d4 d5 e0 e1 e2 e3 e4 e5
          refine wp_region_only (S := fun w' => (w'.cell? ⟨w1.heap.size, 0, none⟩ = some (.int .i64 xw.k) ∧ w'.cell? ⟨w1.heap.size, 1, none⟩ = some (.int .i64 xw.o) ∧ w'.cell? ⟨w1.heap.size, 2, none⟩ = some (.int .i64 xw.c) ∧ w'.cell? ⟨w1.heap.size, 3, none⟩ = some (.int .i64 xw.l) ∧ w'.cell? ⟨w1.heap.size, 4, none⟩ = some (.int .i64 xw.r) ∧ w'.cell? ⟨w1.heap.size, 5, none⟩ = some (.int .i64 xw.v)) ∧ (w'.cell? ⟨b, o + k * 6, none⟩ = some (.int .i64 x.k) ∧ w'.cell? ⟨b, o + k * 6 + 1, none⟩ = some (.int .i64 x.o) ∧ w'.cell? ⟨b, o + k * 6 + 2, none⟩ = some (.int .i64 x.c) ∧ w'.cell? ⟨b, o + k * 6 + 3, none⟩ = some (.int .i64 x.l) ∧ w'.cell? ⟨b, o + k * 6 + 4, none⟩ = some (.int .i64 x.r) ∧ w'.cell? ⟨b, o + k * 6 + 5, none⟩ = some (.int .i64 x.v))) (by kernel_rfl) ⟨P6.out.drew.six, K3.out.drew.six⟩ (fun hHeld => ?_)
          refine wpAnyH_take (i := 0) (v := ?v1) rfl (by kernel_rfl) (by kernel_rfl) (by kernel_rfl) (fun _ _ _ h => h) (Or.inl ⟨by rfl, ?hy1⟩) hHeld ?rest1
          case hy1 =>
            intro w' hSw
            try dsimp only at hSw
            go_simp
            first | done | with_reducible rfl
          try simp only [Act.put, List.getElem_toArray, List.getElem_cons_zero, List.setIfInBounds_toArray, List.set_cons_zero, List.set_cons_succ]
          refine wpAnyH_take (i := 1) (v := ?v2) rfl (by kernel_rfl) (by kernel_rfl) (by kernel_rfl) (fun _ _ _ h => h) (Or.inl ⟨by rfl, ?hy2⟩) hHeld ?rest2
          case hy2 =>
            intro w' hSw
            try dsimp only at hSw
            go_simp
            first | done | with_reducible rfl
          try simp only [Act.put, List.getElem_toArray, List.getElem_cons_succ, List.getElem_cons_zero, List.setIfInBounds_toArray, List.set_cons_zero, List.set_cons_succ]
          refine wpAnyH_take (i := 2) (v := ?v3) rfl (by kernel_rfl) (by kernel_rfl) (by kernel_rfl) (fun _ _ _ h => h) (Or.inl ⟨by rfl, ?hy3⟩) hHeld ?rest3
          case hy3 =>
            intro w' hSw
            try dsimp only at hSw
            go_simp
            first | done | with_reducible rfl
          try simp only [Act.put, List.getElem_toArray, List.getElem_cons_succ, List.getElem_cons_zero, List.setIfInBounds_toArray, List.set_cons_zero, List.set_cons_succ]
          refine wpAnyH_take (i := 3) (v := ?v4) rfl (by kernel_rfl) (by kernel_rfl) (by kernel_rfl) (fun _ _ _ h => h) (Or.inl ⟨by rfl, ?hy4⟩) hHeld ?rest4
          case hy4 =>
            intro w' hSw
            try dsimp only at hSw
            go_simp
            first | done | with_reducible rfl
          try simp only [Act.put, List.getElem_toArray, List.getElem_cons_succ, List.getElem_cons_zero, List.setIfInBounds_toArray, List.set_cons_zero, List.set_cons_succ]
          refine wpAnyH_take (i := 4) (v := ?v5) rfl (by kernel_rfl) (by kernel_rfl) (by kernel_rfl) (fun _ _ _ h => h) (Or.inl ⟨by rfl, ?hy5⟩) hHeld ?rest5
          case hy5 =>
            intro w' hSw
            try dsimp only at hSw
            go_simp
            first | done | with_reducible rfl
          try simp only [Act.put, List.getElem_toArray, List.getElem_cons_succ, List.getElem_cons_zero, List.setIfInBounds_toArray, List.set_cons_zero, List.set_cons_succ]
          refine wpAnyH_take (i := 5) (v := ?v6) rfl (by kernel_rfl) (by kernel_rfl) (by kernel_rfl) (fun _ _ _ h => h) (Or.inl ⟨by rfl, ?hy6⟩) hHeld ?rest6
          case hy6 =>
            intro w' hSw
            try dsimp only at hSw
            go_simp
            first | done | with_reducible rfl
          try simp only [Act.put, List.getElem_toArray, List.getElem_cons_succ, List.getElem_cons_zero, List.setIfInBounds_toArray, List.set_cons_zero, List.set_cons_succ]
          refine wpAnyH_take (i := 6) (v := ?v7) rfl (by kernel_rfl) (by kernel_rfl) (by kernel_rfl) (fun _ _ _ h => h) (Or.inl ⟨by rfl, ?hy7⟩) hHeld ?rest7
          case hy7 =>
            intro w' hSw
            try dsimp only at hSw
            go_simp
            first | done | with_reducible rfl
          try simp only [Act.put, List.getElem_toArray, List.getElem_cons_succ, List.getElem_cons_zero, List.setIfInBounds_toArray, List.set_cons_zero, List.set_cons_succ]
          refine wpAnyH_take (i := 7) (v := ?v8) rfl (by kernel_rfl) (by kernel_rfl) (by kernel_rfl) (fun _ _ _ h => h) (Or.inl ⟨by rfl, ?hy8⟩) hHeld ?rest8
          case hy8 =>
            intro w' hSw
            try dsimp only at hSw
            go_simp
            first | done | with_reducible rfl
          try simp only [Act.put, List.getElem_toArray, List.getElem_cons_succ, List.getElem_cons_zero, List.setIfInBounds_toArray, List.set_cons_zero, List.set_cons_succ]
          refine wpAnyH_ready (rs := [8]) (by kernel_rfl) (by simp) ?_
          refine AllReadyH.cons (by rfl) (fun K hK => ?_) AllReadyH.nil
          go_simp
          refine (HXW.out ▸ rweaken_ok x _ HO.out).mono ?_
          rintro e y1 ⟨rfl, b1⟩
          have HB_1 := Lib.hid ((below_drew B3.out).trans (b1.mono B3.out.size))
          have HT_1 := Lib.hid ((T3.out.drew).below b1)
          have HG0_1 := Lib.hid ((P6.out.drew).keep b1)
          have HG1_1 := Lib.hid ((K3.out.drew).keep b1)
          have HG2_1 := Lib.hid ((P8.out.drew).keep b1)
          have HG3_1 := Lib.hid ((R3.out.drew).keep b1)
          clear b1 hHeld
          go_wp2_with fail
          refine hK.out _ _ ⟨HG0_1.out.six, HG1_1.out.six⟩ (fun hHeld => ?_)
          clear hK K
          try simp only [Act.put, List.getElem_toArray, List.getElem_cons_succ, List.getElem_cons_zero, List.setIfInBounds_toArray, List.set_cons_zero, List.set_cons_succ]
          refine wpAnyH_take (i := 9) rfl (by kernel_rfl) (by kernel_rfl) (by kernel_rfl) (fun _ _ _ h => h) (sameK_self xw.k xw.o xw.c xw.l xw.r xw.v ▸ yields_kneq (by rfl) _ _ (by rfl) xw.k xw.o xw.c xw.l xw.r xw.v xw.k xw.o xw.c xw.l xw.r xw.v (by rfl) (by rfl)) hHeld ?_
          try simp only [Act.put, List.getElem_toArray, List.getElem_cons_succ, List.getElem_cons_zero, List.setIfInBounds_toArray, List.set_cons_zero, List.set_cons_succ]
          refine wpAnyH_take (i := 10) (v := ?v9) rfl (by kernel_rfl) (by kernel_rfl) (by kernel_rfl) (fun _ _ _ h => h) (Or.inl ⟨by rfl, ?hy9⟩) hHeld ?rest9
          case hy9 =>
            intro w' hSw
            try dsimp only at hSw
            go_simp
            first | done | with_reducible rfl
          try simp only [Act.put, List.getElem_toArray, List.getElem_cons_succ, List.getElem_cons_zero, List.setIfInBounds_toArray, List.set_cons_zero, List.set_cons_succ]
          refine wpAnyH_done (by kernel_rfl) ?_ _
          refine OnlyN.normal ?_
          clear hHeld
          obtain ⟨e0, e1, e2, e3, e4, e5⟩ := HG2_1.out.six
          go_wp2
          go_roundw
          case rel => exact ⟨k + 1, by omega, by go_num, HB_1.out, HG3_1.out, HT_1.out⟩
          case measure => simp [intOf]; omega
        · by_cases h7 : 7 < r
          · have hq : r < 0 ∨ 7 < r := .inr h7
            have HQ := Lib.hid hq
            clear hq
            have h0' : decide (r < 0) = false := by simpa using h0
            go_wp2_with (first
              | (go_at_call 21; refine (HXW.out ▸ weaken_ok x _ HT0.out HO.out).mono ?_; rintro e w1 ⟨rfl, b_⟩; have T1 := Lib.hid ((HT0.out.below b_).alloc (.cells (kc xw.k xw.o xw.c xw.l xw.r xw.v) 25)); have B1 := Lib.hid ((HB0.out.trans (b_.mono HB0.out.size)).alloc (by have := HB0.out.size; have := b_.size; omega) (.cells (kc xw.k xw.o xw.c xw.l xw.r xw.v) 25)); have K1 := Lib.hid ((K0.out.keep b_).alloc (.cells (kc xw.k xw.o xw.c xw.l xw.r xw.v) 25)); have R1 := Lib.hid ((HRD.out.keep b_).alloc (.cells (kc xw.k xw.o xw.c xw.l xw.r xw.v) 25)); have P6a := Lib.hid (Blk.new w1 25 (kc xw.k xw.o xw.c xw.l xw.r xw.v)); have hkc := K0.out.keep b_; have hz_w1 := hkc.lt; clear c0 c1 c2 c3 c4 c5; obtain ⟨c0, c1, c2, c3, c4, c5⟩ := hkc.six; clear hkc b_)
              | (go_at_call 22; refine (lesss_bad x.k x.o x.c x.l x.r x.v r _ T1.out HO.out HQ.out).mono ?_; rintro e w2 ⟨rfl, b_⟩; have T2 := Lib.hid ((T1.out.below b_).alloc (.cells (kc 0 0 0 0 0 0) 25)); have B2 := Lib.hid ((B1.out.trans (b_.mono B1.out.size)).alloc (by have := B1.out.size; have := b_.size; omega) (.cells (kc 0 0 0 0 0 0) 25)); have K2 := Lib.hid ((K1.out.keep b_).alloc (.cells (kc 0 0 0 0 0 0) 25)); have R2 := Lib.hid ((R1.out.keep b_).alloc (.cells (kc 0 0 0 0 0 0) 25)); have P6b := Lib.hid ((P6a.out.keep b_).alloc (.cells (kc 0 0 0 0 0 0) 25)); have P8b := Lib.hid (Blk.new w2 25 (kc 0 0 0 0 0 0)); have hkc := K1.out.keep b_; have hz_w2 := hkc.lt; clear c0 c1 c2 c3 c4 c5; obtain ⟨c0, c1, c2, c3, c4, c5⟩ := hkc.six; clear hkc b_)
              | (go_at_call 15; refine (rchk_ok x.k x.o x.c x.l x.r x.v _ HO.out).mono ?_; rintro e w3 ⟨rfl, b_⟩; have T3 := Lib.hid (T2.out.below b_); have B3 := Lib.hid (B2.out.trans (b_.mono B2.out.size)); have K3 := Lib.hid (K2.out.keep b_); have R3 := Lib.hid (R2.out.keep b_); have P6 := Lib.hid (P6b.out.keep b_); have P8 := Lib.hid (P8b.out.keep b_); clear c0 c1 c2 c3 c4 c5 b_ hz_w1 hz_w2; obtain ⟨c0, c1, c2, c3, c4, c5⟩ := K3.out.six; obtain ⟨d0, d1, d2, d3, d4, d5⟩ := P6.out.six; obtain ⟨e0, e1, e2, e3, e4, e5⟩ := P8.out.six))
            clear c0 c1 c2 c3 c4 c5 d0 d1 d2 d3 d4 d5 e0 e1 e2 e3 e4 e5
            refine wp_region_only (S := fun w' => (w'.cell? ⟨w1.heap.size, 0, none⟩ = some (.int .i64 xw.k) ∧ w'.cell? ⟨w1.heap.size, 1, none⟩ = some (.int .i64 xw.o) ∧ w'.cell? ⟨w1.heap.size, 2, none⟩ = some (.int .i64 xw.c) ∧ w'.cell? ⟨w1.heap.size, 3, none⟩ = some (.int .i64 xw.l) ∧ w'.cell? ⟨w1.heap.size, 4, none⟩ = some (.int .i64 xw.r) ∧ w'.cell? ⟨w1.heap.size, 5, none⟩ = some (.int .i64 xw.v)) ∧ (w'.cell? ⟨b, o + k * 6, none⟩ = some (.int .i64 x.k) ∧ w'.cell? ⟨b, o + k * 6 + 1, none⟩ = some (.int .i64 x.o) ∧ w'.cell? ⟨b, o + k * 6 + 2, none⟩ = some (.int .i64 x.c) ∧ w'.cell? ⟨b, o + k * 6 + 3, none⟩ = some (.int .i64 x.l) ∧ w'.cell? ⟨b, o + k * 6 + 4, none⟩ = some (.int .i64 x.r) ∧ w'.cell? ⟨b, o + k * 6 + 5, none⟩ = some (.int .i64 x.v))) (by kernel_rfl) ⟨P6.out.drew.six, K3.out.drew.six⟩ (fun hHeld => ?_)
            refine wpAnyH_take (i := 0) (v := ?v10) rfl (by kernel_rfl) (by kernel_rfl) (by kernel_rfl) (fun _ _ _ h => h) (Or.inl ⟨by rfl, ?hy10⟩) hHeld ?rest10
            case hy10 =>
              intro w' hSw
              try dsimp only at hSw
              go_simp
              first | done | with_reducible rfl
            try simp only [Act.put, List.getElem_toArray, List.getElem_cons_zero, List.setIfInBounds_toArray, List.set_cons_zero, List.set_cons_succ]
            refine wpAnyH_take (i := 1) (v := ?v11) rfl (by kernel_rfl) (by kernel_rfl) (by kernel_rfl) (fun _ _ _ h => h) (Or.inl ⟨by rfl, ?hy11⟩) hHeld ?rest11
            case hy11 =>
              intro w' hSw
              try dsimp only at hSw
              go_simp
              first | done | with_reducible rfl
            try simp only [Act.put, List.getElem_toArray, List.getElem_cons_succ, List.getElem_cons_zero, List.setIfInBounds_toArray, List.set_cons_zero, List.set_cons_succ]
            refine wpAnyH_take (i := 2) (v := ?v12) rfl (by kernel_rfl) (by kernel_rfl) (by kernel_rfl) (fun _ _ _ h => h) (Or.inl ⟨by rfl, ?hy12⟩) hHeld ?rest12
            case hy12 =>
              intro w' hSw
              try dsimp only at hSw
              go_simp
              first | done | with_reducible rfl
            try simp only [Act.put, List.getElem_toArray, List.getElem_cons_succ, List.getElem_cons_zero, List.setIfInBounds_toArray, List.set_cons_zero, List.set_cons_succ]
            refine wpAnyH_take (i := 3) (v := ?v13) rfl (by kernel_rfl) (by kernel_rfl) (by kernel_rfl) (fun _ _ _ h => h) (Or.inl ⟨by rfl, ?hy13⟩) hHeld ?rest13
            case hy13 =>
              intro w' hSw
              try dsimp only at hSw
              go_simp
              first | done | with_reducible rfl
            try simp only [Act.put, List.getElem_toArray, List.getElem_cons_succ, List.getElem_cons_zero, List.setIfInBounds_toArray, List.set_cons_zero, List.set_cons_succ]
            refine wpAnyH_take (i := 4) (v := ?v14) rfl (by kernel_rfl) (by kernel_rfl) (by kernel_rfl) (fun _ _ _ h => h) (Or.inl ⟨by rfl, ?hy14⟩) hHeld ?rest14
            case hy14 =>
              intro w' hSw
              try dsimp only at hSw
              go_simp
              first | done | with_reducible rfl
            try simp only [Act.put, List.getElem_toArray, List.getElem_cons_succ, List.getElem_cons_zero, List.setIfInBounds_toArray, List.set_cons_zero, List.set_cons_succ]
            refine wpAnyH_take (i := 5) (v := ?v15) rfl (by kernel_rfl) (by kernel_rfl) (by kernel_rfl) (fun _ _ _ h => h) (Or.inl ⟨by rfl, ?hy15⟩) hHeld ?rest15
            case hy15 =>
              intro w' hSw
              try dsimp only at hSw
              go_simp
              first | done | with_reducible rfl
            try simp only [Act.put, List.getElem_toArray, List.getElem_cons_succ, List.getElem_cons_zero, List.setIfInBounds_toArray, List.set_cons_zero, List.set_cons_succ]
            refine wpAnyH_take (i := 6) (v := ?v16) rfl (by kernel_rfl) (by kernel_rfl) (by kernel_rfl) (fun _ _ _ h => h) (Or.inl ⟨by rfl, ?hy16⟩) hHeld ?rest16
            case hy16 =>
              intro w' hSw
              try dsimp only at hSw
              go_simp
              first | done | with_reducible rfl
            try simp only [Act.put, List.getElem_toArray, List.getElem_cons_succ, List.getElem_cons_zero, List.setIfInBounds_toArray, List.set_cons_zero, List.set_cons_succ]
            refine wpAnyH_take (i := 7) (v := ?v17) rfl (by kernel_rfl) (by kernel_rfl) (by kernel_rfl) (fun _ _ _ h => h) (Or.inl ⟨by rfl, ?hy17⟩) hHeld ?rest17
            case hy17 =>
              intro w' hSw
              try dsimp only at hSw
              go_simp
              first | done | with_reducible rfl
            try simp only [Act.put, List.getElem_toArray, List.getElem_cons_succ, List.getElem_cons_zero, List.setIfInBounds_toArray, List.set_cons_zero, List.set_cons_succ]
            refine wpAnyH_ready (rs := [8]) (by kernel_rfl) (by simp) ?_
            refine AllReadyH.cons (by rfl) (fun K hK => ?_) AllReadyH.nil
            go_simp
            refine (HXW.out ▸ rweaken_ok x _ HO.out).mono ?_
            rintro e y1 ⟨rfl, b1⟩
            have HB_1 := Lib.hid ((below_drew B3.out).trans (b1.mono B3.out.size))
            have HT_1 := Lib.hid ((T3.out.drew).below b1)
            have HG0_1 := Lib.hid ((P6.out.drew).keep b1)
            have HG1_1 := Lib.hid ((K3.out.drew).keep b1)
            have HG2_1 := Lib.hid ((P8.out.drew).keep b1)
            have HG3_1 := Lib.hid ((R3.out.drew).keep b1)
            clear b1 hHeld
            go_wp2_with fail
            refine hK.out _ _ ⟨HG0_1.out.six, HG1_1.out.six⟩ (fun hHeld => ?_)
            clear hK K
            try simp only [Act.put, List.getElem_toArray, List.getElem_cons_succ, List.getElem_cons_zero, List.setIfInBounds_toArray, List.set_cons_zero, List.set_cons_succ]
            refine wpAnyH_take (i := 9) rfl (by kernel_rfl) (by kernel_rfl) (by kernel_rfl) (fun _ _ _ h => h) (sameK_self xw.k xw.o xw.c xw.l xw.r xw.v ▸ yields_kneq (by rfl) _ _ (by rfl) xw.k xw.o xw.c xw.l xw.r xw.v xw.k xw.o xw.c xw.l xw.r xw.v (by rfl) (by rfl)) hHeld ?_
            try simp only [Act.put, List.getElem_toArray, List.getElem_cons_succ, List.getElem_cons_zero, List.setIfInBounds_toArray, List.set_cons_zero, List.set_cons_succ]
            refine wpAnyH_take (i := 10) (v := ?v18) rfl (by kernel_rfl) (by kernel_rfl) (by kernel_rfl) (fun _ _ _ h => h) (Or.inl ⟨by rfl, ?hy18⟩) hHeld ?rest18
            case hy18 =>
              intro w' hSw
              try dsimp only at hSw
              go_simp
              first | done | with_reducible rfl
            try simp only [Act.put, List.getElem_toArray, List.getElem_cons_succ, List.getElem_cons_zero, List.setIfInBounds_toArray, List.set_cons_zero, List.set_cons_succ]
            refine wpAnyH_done (by kernel_rfl) ?_ _
            refine OnlyN.normal ?_
            clear hHeld
            obtain ⟨e0, e1, e2, e3, e4, e5⟩ := HG2_1.out.six
            go_wp2
            go_roundw
            case rel => exact ⟨k + 1, by omega, by go_num, HB_1.out, HG3_1.out, HT_1.out⟩
            case measure => simp [intOf]; omega
          · obtain ⟨q, rfl⟩ := Int.eq_ofNat_of_zero_le (show 0 ≤ r by omega)
            have q8 : q < 8 := by omega
            clear h0 h7
            obtain ⟨xl, hxl⟩ : ∃ y : Ky, x.less q = y := ⟨_, rfl⟩
            have HXL := Lib.hid hxl
            clear hxl
            have q7 : ¬ (7 : Int) < (q : Int) := by omega
            have d7 : decide ((7 : Int) < (q : Int)) = false := by simpa using q7
            clear q7
            go_wp2_with (first
              | (go_at_call 21; refine (HXW.out ▸ weaken_ok x _ HT0.out HO.out).mono ?_; rintro e w1 ⟨rfl, b_⟩; have T1 := Lib.hid ((HT0.out.below b_).alloc (.cells (kc xw.k xw.o xw.c xw.l xw.r xw.v) 25)); have B1 := Lib.hid ((HB0.out.trans (b_.mono HB0.out.size)).alloc (by have := HB0.out.size; have := b_.size; omega) (.cells (kc xw.k xw.o xw.c xw.l xw.r xw.v) 25)); have K1 := Lib.hid ((K0.out.keep b_).alloc (.cells (kc xw.k xw.o xw.c xw.l xw.r xw.v) 25)); have R1 := Lib.hid ((HRD.out.keep b_).alloc (.cells (kc xw.k xw.o xw.c xw.l xw.r xw.v) 25)); have P6a := Lib.hid (Blk.new w1 25 (kc xw.k xw.o xw.c xw.l xw.r xw.v)); have hkc := K0.out.keep b_; have hz_w1 := hkc.lt; clear c0 c1 c2 c3 c4 c5; obtain ⟨c0, c1, c2, c3, c4, c5⟩ := hkc.six; clear hkc b_)
              | (go_at_call 22; refine (HXL.out ▸ lesss_any x q _ T1.out HO.out q8).mono ?_; rintro e w2 ⟨rfl, b_⟩; have T2 := Lib.hid ((T1.out.below b_).alloc (.cells (kc xl.k xl.o xl.c xl.l xl.r xl.v) 25)); have B2 := Lib.hid ((B1.out.trans (b_.mono B1.out.size)).alloc (by have := B1.out.size; have := b_.size; omega) (.cells (kc xl.k xl.o xl.c xl.l xl.r xl.v) 25)); have K2 := Lib.hid ((K1.out.keep b_).alloc (.cells (kc xl.k xl.o xl.c xl.l xl.r xl.v) 25)); have R2 := Lib.hid ((R1.out.keep b_).alloc (.cells (kc xl.k xl.o xl.c xl.l xl.r xl.v) 25)); have P6b := Lib.hid ((P6a.out.keep b_).alloc (.cells (kc xl.k xl.o xl.c xl.l xl.r xl.v) 25)); have P8b := Lib.hid (Blk.new w2 25 (kc xl.k xl.o xl.c xl.l xl.r xl.v)); have hkc := K1.out.keep b_; have hz_w2 := hkc.lt; clear c0 c1 c2 c3 c4 c5; obtain ⟨c0, c1, c2, c3, c4, c5⟩ := hkc.six; clear hkc b_)
              | (go_at_call 15; refine (rchk_ok x.k x.o x.c x.l x.r x.v _ HO.out).mono ?_; rintro e w3 ⟨rfl, b_⟩; have T3 := Lib.hid (T2.out.below b_); have B3 := Lib.hid (B2.out.trans (b_.mono B2.out.size)); have K3 := Lib.hid (K2.out.keep b_); have R3 := Lib.hid (R2.out.keep b_); have P6 := Lib.hid (P6b.out.keep b_); have P8 := Lib.hid (P8b.out.keep b_); clear c0 c1 c2 c3 c4 c5 b_ hz_w1 hz_w2; obtain ⟨c0, c1, c2, c3, c4, c5⟩ := K3.out.six; obtain ⟨d0, d1, d2, d3, d4, d5⟩ := P6.out.six; obtain ⟨e0, e1, e2, e3, e4, e5⟩ := P8.out.six))
            clear c0 c1 c2 c3 c4 c5 d0 d1 d2 d3 d4 d5 e0 e1 e2 e3 e4 e5
            refine wp_region_only (S := fun w' => (w'.cell? ⟨w1.heap.size, 0, none⟩ = some (.int .i64 xw.k) ∧ w'.cell? ⟨w1.heap.size, 1, none⟩ = some (.int .i64 xw.o) ∧ w'.cell? ⟨w1.heap.size, 2, none⟩ = some (.int .i64 xw.c) ∧ w'.cell? ⟨w1.heap.size, 3, none⟩ = some (.int .i64 xw.l) ∧ w'.cell? ⟨w1.heap.size, 4, none⟩ = some (.int .i64 xw.r) ∧ w'.cell? ⟨w1.heap.size, 5, none⟩ = some (.int .i64 xw.v)) ∧ (w'.cell? ⟨b, o + k * 6, none⟩ = some (.int .i64 x.k) ∧ w'.cell? ⟨b, o + k * 6 + 1, none⟩ = some (.int .i64 x.o) ∧ w'.cell? ⟨b, o + k * 6 + 2, none⟩ = some (.int .i64 x.c) ∧ w'.cell? ⟨b, o + k * 6 + 3, none⟩ = some (.int .i64 x.l) ∧ w'.cell? ⟨b, o + k * 6 + 4, none⟩ = some (.int .i64 x.r) ∧ w'.cell? ⟨b, o + k * 6 + 5, none⟩ = some (.int .i64 x.v))) (by kernel_rfl) ⟨P6.out.drew.six, K3.out.drew.six⟩ (fun hHeld => ?_)
            refine wpAnyH_take (i := 0) (v := ?v19) rfl (by kernel_rfl) (by kernel_rfl) (by kernel_rfl) (fun _ _ _ h => h) (Or.inl ⟨by rfl, ?hy19⟩) hHeld ?rest19
            case hy19 =>
              intro w' hSw
              try dsimp only at hSw
              go_simp
              first | done | with_reducible rfl
            try simp only [Act.put, List.getElem_toArray, List.getElem_cons_zero, List.setIfInBounds_toArray, List.set_cons_zero, List.set_cons_succ]
            refine wpAnyH_take (i := 1) (v := ?v20) rfl (by kernel_rfl) (by kernel_rfl) (by kernel_rfl) (fun _ _ _ h => h) (Or.inl ⟨by rfl, ?hy20⟩) hHeld ?rest20
            case hy20 =>
              intro w' hSw
              try dsimp only at hSw
              go_simp
              first | done | with_reducible rfl
            try simp only [Act.put, List.getElem_toArray, List.getElem_cons_succ, List.getElem_cons_zero, List.setIfInBounds_toArray, List.set_cons_zero, List.set_cons_succ]
            refine wpAnyH_take (i := 2) (v := ?v21) rfl (by kernel_rfl) (by kernel_rfl) (by kernel_rfl) (fun _ _ _ h => h) (Or.inl ⟨by rfl, ?hy21⟩) hHeld ?rest21
            case hy21 =>
              intro w' hSw
              try dsimp only at hSw
              go_simp
              first | done | with_reducible rfl
            try simp only [Act.put, List.getElem_toArray, List.getElem_cons_succ, List.getElem_cons_zero, List.setIfInBounds_toArray, List.set_cons_zero, List.set_cons_succ]
            refine wpAnyH_take (i := 3) (v := ?v22) rfl (by kernel_rfl) (by kernel_rfl) (by kernel_rfl) (fun _ _ _ h => h) (Or.inl ⟨by rfl, ?hy22⟩) hHeld ?rest22
            case hy22 =>
              intro w' hSw
              try dsimp only at hSw
              go_simp
              first | done | with_reducible rfl
            try simp only [Act.put, List.getElem_toArray, List.getElem_cons_succ, List.getElem_cons_zero, List.setIfInBounds_toArray, List.set_cons_zero, List.set_cons_succ]
            refine wpAnyH_take (i := 4) (v := ?v23) rfl (by kernel_rfl) (by kernel_rfl) (by kernel_rfl) (fun _ _ _ h => h) (Or.inl ⟨by rfl, ?hy23⟩) hHeld ?rest23
            case hy23 =>
              intro w' hSw
              try dsimp only at hSw
              go_simp
              first | done | with_reducible rfl
            try simp only [Act.put, List.getElem_toArray, List.getElem_cons_succ, List.getElem_cons_zero, List.setIfInBounds_toArray, List.set_cons_zero, List.set_cons_succ]
            refine wpAnyH_take (i := 5) (v := ?v24) rfl (by kernel_rfl) (by kernel_rfl) (by kernel_rfl) (fun _ _ _ h => h) (Or.inl ⟨by rfl, ?hy24⟩) hHeld ?rest24
            case hy24 =>
              intro w' hSw
              try dsimp only at hSw
              go_simp
              first | done | with_reducible rfl
            try simp only [Act.put, List.getElem_toArray, List.getElem_cons_succ, List.getElem_cons_zero, List.setIfInBounds_toArray, List.set_cons_zero, List.set_cons_succ]
            refine wpAnyH_take (i := 6) (v := ?v25) rfl (by kernel_rfl) (by kernel_rfl) (by kernel_rfl) (fun _ _ _ h => h) (Or.inl ⟨by rfl, ?hy25⟩) hHeld ?rest25
            case hy25 =>
              intro w' hSw
              try dsimp only at hSw
              go_simp
              first | done | with_reducible rfl
            try simp only [Act.put, List.getElem_toArray, List.getElem_cons_succ, List.getElem_cons_zero, List.setIfInBounds_toArray, List.set_cons_zero, List.set_cons_succ]
            refine wpAnyH_take (i := 7) (v := ?v26) rfl (by kernel_rfl) (by kernel_rfl) (by kernel_rfl) (fun _ _ _ h => h) (Or.inl ⟨by rfl, ?hy26⟩) hHeld ?rest26
            case hy26 =>
              intro w' hSw
              try dsimp only at hSw
              go_simp
              first | done | with_reducible rfl
            try simp only [Act.put, List.getElem_toArray, List.getElem_cons_succ, List.getElem_cons_zero, List.setIfInBounds_toArray, List.set_cons_zero, List.set_cons_succ]
            refine wpAnyH_ready (rs := [8]) (by kernel_rfl) (by simp) ?_
            refine AllReadyH.cons (by rfl) (fun K hK => ?_) AllReadyH.nil
            go_simp
            refine (HXW.out ▸ rweaken_ok x _ HO.out).mono ?_
            rintro e y1 ⟨rfl, b1⟩
            have HB_1 := Lib.hid ((below_drew B3.out).trans (b1.mono B3.out.size))
            have HT_1 := Lib.hid ((T3.out.drew).below b1)
            have HG0_1 := Lib.hid ((P6.out.drew).keep b1)
            have HG1_1 := Lib.hid ((K3.out.drew).keep b1)
            have HG2_1 := Lib.hid ((P8.out.drew).keep b1)
            have HG3_1 := Lib.hid ((R3.out.drew).keep b1)
            clear b1 hHeld
            go_wp2_with fail
            refine hK.out _ _ ⟨HG0_1.out.six, HG1_1.out.six⟩ (fun hHeld => ?_)
            clear hK K
            try simp only [Act.put, List.getElem_toArray, List.getElem_cons_succ, List.getElem_cons_zero, List.setIfInBounds_toArray, List.set_cons_zero, List.set_cons_succ]
            refine wpAnyH_take (i := 9) rfl (by kernel_rfl) (by kernel_rfl) (by kernel_rfl) (fun _ _ _ h => h) (sameK_self xw.k xw.o xw.c xw.l xw.r xw.v ▸ yields_kneq (by rfl) _ _ (by rfl) xw.k xw.o xw.c xw.l xw.r xw.v xw.k xw.o xw.c xw.l xw.r xw.v (by rfl) (by rfl)) hHeld ?_
            try simp only [Act.put, List.getElem_toArray, List.getElem_cons_succ, List.getElem_cons_zero, List.setIfInBounds_toArray, List.set_cons_zero, List.set_cons_succ]
            refine wpAnyH_take (i := 10) (v := ?v27) rfl (by kernel_rfl) (by kernel_rfl) (by kernel_rfl) (fun _ _ _ h => h) (Or.inl ⟨by rfl, ?hy27⟩) hHeld ?rest27
            case hy27 =>
              intro w' hSw
              try dsimp only at hSw
              go_simp
              first | done | with_reducible rfl
            try simp only [Act.put, List.getElem_toArray, List.getElem_cons_succ, List.getElem_cons_zero, List.setIfInBounds_toArray, List.set_cons_zero, List.set_cons_succ]
            refine wpAnyH_done (by kernel_rfl) ?_ _
            refine OnlyN.normal ?_
            clear hHeld
            go_wp2
            refine wp_region_only (S := fun w' => (w'.cell? ⟨w2.heap.size, 0, none⟩ = some (.int .i64 xl.k) ∧ w'.cell? ⟨w2.heap.size, 1, none⟩ = some (.int .i64 xl.o) ∧ w'.cell? ⟨w2.heap.size, 2, none⟩ = some (.int .i64 xl.c) ∧ w'.cell? ⟨w2.heap.size, 3, none⟩ = some (.int .i64 xl.l) ∧ w'.cell? ⟨w2.heap.size, 4, none⟩ = some (.int .i64 xl.r) ∧ w'.cell? ⟨w2.heap.size, 5, none⟩ = some (.int .i64 xl.v)) ∧ (w'.cell? ⟨b, o + k * 6, none⟩ = some (.int .i64 x.k) ∧ w'.cell? ⟨b, o + k * 6 + 1, none⟩ = some (.int .i64 x.o) ∧ w'.cell? ⟨b, o + k * 6 + 2, none⟩ = some (.int .i64 x.c) ∧ w'.cell? ⟨b, o + k * 6 + 3, none⟩ = some (.int .i64 x.l) ∧ w'.cell? ⟨b, o + k * 6 + 4, none⟩ = some (.int .i64 x.r) ∧ w'.cell? ⟨b, o + k * 6 + 5, none⟩ = some (.int .i64 x.v))) (by kernel_rfl) ⟨HG2_1.out.drew.six, HG1_1.out.drew.six⟩ (fun hHeld => ?_)
            refine wpAnyH_take (i := 0) (v := ?v28) rfl (by kernel_rfl) (by kernel_rfl) (by kernel_rfl) (fun _ _ _ h => h) (Or.inl ⟨by rfl, ?hy28⟩) hHeld ?rest28
            case hy28 =>
              intro w' hSw
              try dsimp only at hSw
              go_simp
              first | done | with_reducible rfl
            try simp only [Act.put, List.getElem_toArray, List.getElem_cons_zero, List.setIfInBounds_toArray, List.set_cons_zero, List.set_cons_succ]
            refine wpAnyH_take (i := 1) (v := ?v29) rfl (by kernel_rfl) (by kernel_rfl) (by kernel_rfl) (fun _ _ _ h => h) (Or.inl ⟨by rfl, ?hy29⟩) hHeld ?rest29
            case hy29 =>
              intro w' hSw
              try dsimp only at hSw
              go_simp
              first | done | with_reducible rfl
            try simp only [Act.put, List.getElem_toArray, List.getElem_cons_succ, List.getElem_cons_zero, List.setIfInBounds_toArray, List.set_cons_zero, List.set_cons_succ]
            refine wpAnyH_take (i := 2) (v := ?v30) rfl (by kernel_rfl) (by kernel_rfl) (by kernel_rfl) (fun _ _ _ h => h) (Or.inl ⟨by rfl, ?hy30⟩) hHeld ?rest30
            case hy30 =>
              intro w' hSw
              try dsimp only at hSw
              go_simp
              first | done | with_reducible rfl
            try simp only [Act.put, List.getElem_toArray, List.getElem_cons_succ, List.getElem_cons_zero, List.setIfInBounds_toArray, List.set_cons_zero, List.set_cons_succ]
            refine wpAnyH_take (i := 3) (v := ?v31) rfl (by kernel_rfl) (by kernel_rfl) (by kernel_rfl) (fun _ _ _ h => h) (Or.inl ⟨by rfl, ?hy31⟩) hHeld ?rest31
            case hy31 =>
              intro w' hSw
              try dsimp only at hSw
              go_simp
              first | done | with_reducible rfl
            try simp only [Act.put, List.getElem_toArray, List.getElem_cons_succ, List.getElem_cons_zero, List.setIfInBounds_toArray, List.set_cons_zero, List.set_cons_succ]
            refine wpAnyH_take (i := 4) (v := ?v32) rfl (by kernel_rfl) (by kernel_rfl) (by kernel_rfl) (fun _ _ _ h => h) (Or.inl ⟨by rfl, ?hy32⟩) hHeld ?rest32
            case hy32 =>
              intro w' hSw
              try dsimp only at hSw
              go_simp
              first | done | with_reducible rfl
            try simp only [Act.put, List.getElem_toArray, List.getElem_cons_succ, List.getElem_cons_zero, List.setIfInBounds_toArray, List.set_cons_zero, List.set_cons_succ]
            refine wpAnyH_take (i := 5) (v := ?v33) rfl (by kernel_rfl) (by kernel_rfl) (by kernel_rfl) (fun _ _ _ h => h) (Or.inl ⟨by rfl, ?hy33⟩) hHeld ?rest33
            case hy33 =>
              intro w' hSw
              try dsimp only at hSw
              go_simp
              first | done | with_reducible rfl
            try simp only [Act.put, List.getElem_toArray, List.getElem_cons_succ, List.getElem_cons_zero, List.setIfInBounds_toArray, List.set_cons_zero, List.set_cons_succ]
            refine wpAnyH_take (i := 6) (v := ?v34) rfl (by kernel_rfl) (by kernel_rfl) (by kernel_rfl) (fun _ _ _ h => h) (Or.inl ⟨by rfl, ?hy34⟩) hHeld ?rest34
            case hy34 =>
              intro w' hSw
              try dsimp only at hSw
              go_simp
              first | done | with_reducible rfl
            try simp only [Act.put, List.getElem_toArray, List.getElem_cons_succ, List.getElem_cons_zero, List.setIfInBounds_toArray, List.set_cons_zero, List.set_cons_succ]
            refine wpAnyH_take (i := 7) (v := ?v35) rfl (by kernel_rfl) (by kernel_rfl) (by kernel_rfl) (fun _ _ _ h => h) (Or.inl ⟨by rfl, ?hy35⟩) hHeld ?rest35
            case hy35 =>
              intro w' hSw
              try dsimp only at hSw
              go_simp
              first | done | with_reducible rfl
            try simp only [Act.put, List.getElem_toArray, List.getElem_cons_succ, List.getElem_cons_zero, List.setIfInBounds_toArray, List.set_cons_zero, List.set_cons_succ]
            refine wpAnyH_take (i := 8) (v := ?v36) rfl (by kernel_rfl) (by kernel_rfl) (by kernel_rfl) (fun _ _ _ h => h) (Or.inl ⟨by rfl, ?hy36⟩) hHeld ?rest36
            case hy36 =>
              intro w' hSw
              try dsimp only at hSw
              go_simp
              first | done | with_reducible rfl
            try simp only [Act.put, List.getElem_toArray, List.getElem_cons_succ, List.getElem_cons_zero, List.setIfInBounds_toArray, List.set_cons_zero, List.set_cons_succ]
            refine wpAnyH_ready (rs := [9]) (by kernel_rfl) (by simp) ?_
            refine AllReadyH.cons (by rfl) (fun K hK => ?_) AllReadyH.nil
            go_simp
            refine (HXL.out ▸ rless_any x q _ HO.out q8).mono ?_
            rintro e y2 ⟨rfl, b2⟩
            have HB_2 := Lib.hid ((below_drew HB_1.out).trans (b2.mono HB_1.out.size))
            have HT_2 := Lib.hid ((HT_1.out.drew).below b2)
            have HG0_2 := Lib.hid ((HG2_1.out.drew).keep b2)
            have HG1_2 := Lib.hid ((HG1_1.out.drew).keep b2)
            have HG2_2 := Lib.hid ((HG3_1.out.drew).keep b2)
            clear b2 hHeld
            clear HB_1 HT_1 HG2_1 HG1_1 HG3_1
            go_wp2_with fail
            refine hK.out _ _ ⟨HG0_2.out.six, HG1_2.out.six⟩ (fun hHeld => ?_)
            clear hK K
            try simp only [Act.put, List.getElem_toArray, List.getElem_cons_succ, List.getElem_cons_zero, List.setIfInBounds_toArray, List.set_cons_zero, List.set_cons_succ]
            refine wpAnyH_take (i := 10) rfl (by kernel_rfl) (by kernel_rfl) (by kernel_rfl) (fun _ _ _ h => h) (sameK_self xl.k xl.o xl.c xl.l xl.r xl.v ▸ yields_kneq (by rfl) _ _ (by rfl) xl.k xl.o xl.c xl.l xl.r xl.v xl.k xl.o xl.c xl.l xl.r xl.v (by rfl) (by rfl)) hHeld ?_
            try simp only [Act.put, List.getElem_toArray, List.getElem_cons_succ, List.getElem_cons_zero, List.setIfInBounds_toArray, List.set_cons_zero, List.set_cons_succ]
            refine wpAnyH_take (i := 11) (v := ?v37) rfl (by kernel_rfl) (by kernel_rfl) (by kernel_rfl) (fun _ _ _ h => h) (Or.inl ⟨by rfl, ?hy37⟩) hHeld ?rest37
            case hy37 =>
              intro w' hSw
              try dsimp only at hSw
              go_simp
              first | done | with_reducible rfl
            try simp only [Act.put, List.getElem_toArray, List.getElem_cons_succ, List.getElem_cons_zero, List.setIfInBounds_toArray, List.set_cons_zero, List.set_cons_succ]
            refine wpAnyH_done (by kernel_rfl) ?_ _
            refine OnlyN.normal ?_
            clear hHeld
            go_wp2
            go_roundw
            case rel => exact ⟨k + 1, by omega, by go_num, HB_2.out, HG2_2.out, HT_2.out⟩
            case measure => simp [intOf]; omega
      · have HO := Lib.hid ho
        clear ho
        go_wp2_with (first
          | (go_at_call 21; refine (weaken_no x.k x.o x.c x.l x.r x.v _ HT0.out HO.out).mono ?_; rintro e w1 ⟨rfl, b_⟩; have T1 := Lib.hid ((HT0.out.below b_).alloc (.cells (kc 0 0 0 0 0 0) 25)); have B1 := Lib.hid ((HB0.out.trans (b_.mono HB0.out.size)).alloc (by have := HB0.out.size; have := b_.size; omega) (.cells (kc 0 0 0 0 0 0) 25)); have K1 := Lib.hid ((K0.out.keep b_).alloc (.cells (kc 0 0 0 0 0 0) 25)); have R1 := Lib.hid ((HRD.out.keep b_).alloc (.cells (kc 0 0 0 0 0 0) 25)); have P6a := Lib.hid (Blk.new w1 25 (kc 0 0 0 0 0 0)); have hkc := K0.out.keep b_; have hz_w1 := hkc.lt; clear c0 c1 c2 c3 c4 c5; obtain ⟨c0, c1, c2, c3, c4, c5⟩ := hkc.six; clear hkc b_)
          | (go_at_call 22; refine (lesss_no x.k x.o x.c x.l x.r x.v r _ T1.out HO.out).mono ?_; rintro e w2 ⟨rfl, b_⟩; have T2 := Lib.hid ((T1.out.below b_).alloc (.cells (kc 0 0 0 0 0 0) 25)); have B2 := Lib.hid ((B1.out.trans (b_.mono B1.out.size)).alloc (by have := B1.out.size; have := b_.size; omega) (.cells (kc 0 0 0 0 0 0) 25)); have K2 := Lib.hid ((K1.out.keep b_).alloc (.cells (kc 0 0 0 0 0 0) 25)); have R2 := Lib.hid ((R1.out.keep b_).alloc (.cells (kc 0 0 0 0 0 0) 25)); have P6b := Lib.hid ((P6a.out.keep b_).alloc (.cells (kc 0 0 0 0 0 0) 25)); have P8b := Lib.hid (Blk.new w2 25 (kc 0 0 0 0 0 0)); have hkc := K1.out.keep b_; have hz_w2 := hkc.lt; clear c0 c1 c2 c3 c4 c5; obtain ⟨c0, c1, c2, c3, c4, c5⟩ := hkc.six; clear hkc b_)
          | (go_at_call 15; refine (rchk_no x.k x.o x.c x.l x.r x.v _ HO.out).mono ?_; rintro e w3 ⟨rfl, b_⟩; have T3 := Lib.hid (T2.out.below b_); have B3 := Lib.hid (B2.out.trans (b_.mono B2.out.size)); have K3 := Lib.hid (K2.out.keep b_); have R3 := Lib.hid (R2.out.keep b_); have P6 := Lib.hid (P6b.out.keep b_); have P8 := Lib.hid (P8b.out.keep b_); clear c0 c1 c2 c3 c4 c5 b_ hz_w1 hz_w2; obtain ⟨c0, c1, c2, c3, c4, c5⟩ := K3.out.six; obtain ⟨d0, d1, d2, d3, d4, d5⟩ := P6.out.six; obtain ⟨e0, e1, e2, e3, e4, e5⟩ := P8.out.six))
        go_roundw
        case rel => exact ⟨k + 1, by omega, by go_num, B3.out, R3.out, T3.out⟩
        case measure => simp [intOf]; omega
    · obtain rfl : k = l.length := by omega
      have HB0 := Lib.hid hb
      have HT0 := Lib.hid ht
      clear hb ht hrd
      go_wp2_with (go_at_call 18; refine (known_any _ HT0.out).mono ?_; rintro e v9 ⟨rfl, b_⟩; have B9 := Lib.hid (HB0.out.trans (b_.mono HB0.out.size)); clear b_)
      go_ret
      exact ⟨rfl, B9.out⟩
theorem walk (w : World) (hL : laidMetH Tryd.prog laidK w) (A : Option Addr) (l : List Ky) (cap : Nat) (_ : l.length ≤ cap) (_ : cap ≤ maxLen) (hr : RdK w A l) (r : Int) : Calls Tryd.prog 6 #[.slice A l.length cap, .int .i64 r] w fun e w' => e = .returned (.bool true) ∧ Below w.heap.size w w' := by
  by_cases h : l.length ≤ 60
  · exact walk_small w (tab_of hL) A l cap r h hr
  · exact walk_big w (tab_of hL) A l cap r (by omega)
set_option maxRecDepth 100000 in
theorem lifted (os : Os) (started : os.Started) (H : Type) (enc : TypeId × Value → H) :
    ReturnsInHanded {} Tryd.checked os 6 .any (fun w args => (Rows.keysWeakSpec.pre enc Tryd.prog Tryd.f6 [] false w args ∧ laidMetH Tryd.prog laidK w) ∧ sizedMet enc Tryd.prog Tryd.f6 (OpenSpec.ofChange Rows.keysWeakSpec) false w args) (Rows.keysWeakSpec.post enc Tryd.prog Tryd.f6 false true false false) := by
  refine returnsInHanded_of_change_and (C := Tryd.checked) (X := fun w _ => laidMetH Tryd.prog laidK w) (fun _ _ _ hh h => h.of_heap hh) own started (by kernel_rfl) Tryd.func6
    (ChangeSpec.witness_shaped (enc := enc) (C := Tryd.checked) (os := os) (X := fun w _ => laidMetH Tryd.prog laidK w) false (World.doorLaid Tryd.prog 40 os) #[.slice none 0 0, .int .i64 0] 8 rfl (World.shaped_of_RefB (by kernel_rfl) (by kernel_rfl)) (by kernel_rfl) (by kernel_rfl) (by kernel_rfl) (door_met os _)) ?_
  intro W base args ds gs before hval0 hW _ _ hL _
  have hval : ∀ (j : Nat) t v, Tryd.f6.params[j]? = some t → args[j]? = some v → Value.okWide Tryd.prog W .any base t v := hval0
  have hW' := hW
  obtain ⟨p, q, hA0, hV, rfl, hfz, hnd⟩ := hW
  have hA : DataW.TrodAll enc Tryd.prog W 0 (fun _ => true) true Tryd.f6.params.toList args.toList ds p := hA0
  rw [Tryd.params6] at hA hval
  obtain ⟨v0, vs0, d0, ds0, p0, q0, hargs, rfl, rfl, h0, t0⟩ := trodAll_cons hA
  obtain ⟨v1, vs1, d1, ds1, p1, q1, rfl, rfl, rfl, h1, t1⟩ := trodAll_cons t0
  obtain ⟨rfl, rfl, rfl⟩ := trodAll_nil t1
  obtain rfl : args = #[v0, v1] := by cases args; simp_all
  obtain ⟨rfl, rfl⟩ := trodVars_none hV
  have k0 := h0
  have lt0 : ∀ x ∈ p0, x.block < W.heap.size := by obtain ⟨m, hm⟩ := k0; exact DataW.trod_lt m _ _ _ hm
  obtain ⟨A0, l0, c0, rfl, hlc0, hcm0, hr0⟩ := open_keys (hval 0 35 v0 rfl rfl) h0
  have k1 := h1
  have lt1 : ∀ x ∈ p1, x.block < W.heap.size := by obtain ⟨m, hm⟩ := k1; exact DataW.trod_lt m _ _ _ hm
  obtain ⟨a1, rfl, rfl, rfl, f1⟩ := open_int Tryd.underlying23 (hval 1 23 v1 rfl rfl) h1
  clear hA0 hval0
  refine (walk W hL A0 l0 c0 hlc0 hcm0 hr0 a1).mono fun e W' ⟨he, bel⟩ => ?_
  subst he
  exact ⟨_, rfl, _, _, _, [], _, [], hW', trodAll_mk1 (shut_bool Tryd.underlying4 _), (trodAll_cons_mk (Below.trod laidOut (by kernel_rfl) (of_decide_eq_true (by kernel_rfl)) k0 bel lt0) (trodAll_cons_mk (Below.trod laidOut (by kernel_rfl) (of_decide_eq_true (by kernel_rfl)) k1 bel lt1) trodAll_mk0)), rfl, bel.frame _, fun h => by cases h⟩
theorem over : Rows.keysWeakRow.holds Tryd.pinned (OpenSpec.ofChange Rows.keysWeakSpec) :=
  OpenClaim.holds_of_wide 6 Tryd.f6 rfl rfl rfl rfl rfl rfl rfl ⟨rfl, rfl, rfl, rfl, rfl⟩ rfl rfl rfl rfl rfl (by kernel_rfl) Tryd.func6 (by kernel_rfl)
    (of_decide_eq_true (by kernel_rfl)) (by unfold Func.isWrapper; first | (rw [if_pos (by decide +kernel)]; kernel_rfl) | (rw [if_neg (by decide +kernel)]; exact ⟨rfl, rfl⟩))
    (fun os started H enc _ => lifted os started H enc)
theorem proved : Rows.KeysWeakCardSaid :=
  Claim7.holds_tied_plain_at .later [] [.data] true Rows.keysWeakCard.stood.harness false
    over (fun _ h => by cases h) (by kernel_rfl) (fun _ h => by cases h) keysWeak_row_tie rfl ⟨rfl, rfl⟩ (by kernel_rfl) rfl
    (fun f fn hf hfn => by
      obtain rfl : f = 6 := Option.some.inj ((show Tryd.prog.funcNamed "chatelaine/chatelainelaw03.KeysWeak" = some 6 by kernel_rfl).symm.trans hf) |>.symm
      obtain rfl : fn = Tryd.f6 := (Option.some.inj (Tryd.func6.symm.trans hfn)).symm
      exact ⟨by kernel_rfl, fun j t ht => by
        rw [Tryd.params6] at ht
        have hm : t ∈ [35, 23] := by simpa using Array.mem_of_getElem? ht
        have hall : ([35, 23].all fun u => !Tryd.prog.wantsStandIn u) = true := by kernel_rfl
        exact (show Tryd.prog.wantsStandIn t = false by simpa using List.all_eq_true.1 hall t hm)⟩)
    (by kernel_rfl)
end Go.Proofs.YtmpibbgciajnkaaDoor.keysWeak

/- The law ObjectsPlay returns true for every input: what is put is got, till something is put there; what may not be is refused and changes nothing. No condition but that the listed variables read as the program's own text lays them; the card ties them to it. -/
import Derived.Test.YtlhlgfehbfankaaDoorOKn
import Derived.Test.YtlhlgfehbfankaaDoorOFr
import Derived.Test.YtlhlgfehbfankaaDoorRegIn
import Derived.Test.YtlhlgfehbfankaaDoorOSame
import Derived.Test.YtlhlgfehbfankaaDoorOStp
namespace Go.Proofs.YtlhlgfehbfankaaDoor.objectsPlay
open Go.ChangeShapes Go.WideShapes Go.ChangeAt Go.RowKit
attribute [local go_sem] Oper.semAt_some
/-- how the law stands ahead of a round -/
structure Ply (w W : World) (p g : Nat) (A : Option Addr) (cap : Nat) (ps : List Nat) (n : Nat) (os : List Oj) : Prop where
  bel : Below w.heap.size w W
  st : StAt W (w.heap.size + 1) p A cap ps os
  row : Blk W g 34 (ocs os).toArray
  len : os.length = n
  hs : ∀ k, stHas p A ps k → k < g
  ge : w.heap.size ≤ g
section
variable {w W W' : World} {p g : Nat} {A : Option Addr} {cap : Nat} {ps : List Nat} {n : Nat} {os : List Oj}
theorem Ply.below (h : Ply w W p g A cap ps n os) (hb : Below W.heap.size W W') : Ply w W' p g A cap ps n os := ⟨h.bel.trans (hb.mono h.bel.size), h.st.below hb, h.row.keep hb, h.len, h.hs, h.ge⟩
theorem Ply.alloc (h : Ply w W p g A cap ps n os) (o : Obj) : Ply w (W.alloc o) p g A cap ps n os := h.below ((Below.refl _ _).alloc (Nat.le_refl _) _)
theorem Ply.ob (h : Ply w W p g A cap ps n os) {i : Nat} (hi : i < os.length) : ObAt W g (i * 163) os[i] := by
  obtain ⟨b, off, e, ho⟩ := h.row.rdo i hi
  injection e with e
  injection e with e1 e2
  subst e1 e2
  rwa [Nat.zero_add] at ho
theorem Ply.put (h : Ply w W p g A cap ps n os) (i : Nat) (o : Oj) {W1 : World} (hW1 : W1 = W.setRow g (ocs (os.set i o)).toArray) (hs : StAt W' (w.heap.size + 1) p A cap ps (os.set i o)) (hf : Fr (fun k => k ∈ ps) W1 W') : Ply w W' p g A cap ps n (os.set i o) := by
  subst hW1
  have hsz : (W.setRow g (ocs (os.set i o)).toArray).heap.size = W.heap.size := by simp [World.setRow]
  refine ⟨(below_setRow h.bel h.ge _).trans (hf.to_below (fun k hk => by have := (h.st.pps k hk).1; omega) (by rw [hsz]; exact h.bel.size)), hs, ?_, by rw [List.length_set]; exact h.len, h.hs, h.ge⟩
  exact (hf.block g (by rw [hsz]; exact h.row.lt) (fun hm => by have := h.hs g (.inr (.inr hm)); omega)).trans (h.row.setRow _)
theorem Ply.rowed (h : Ply w W p g A cap ps n os) (c : Array Value) : StAt (W.setRow g c) (w.heap.size + 1) p A cap ps os := h.st.keep fun k hk => setRow_other W g k c (by have := h.hs k hk; omega)
end
theorem same_n {w : World} {base p : Nat} {A : Option Addr} {cap : Nat} {ps : List Nat} {os : List Oj} {n : Nat} (h : StAt w base p A cap ps os) (hl : os.length = n) (hN : 0 < n) (hN' : n ≤ 1000) (A2 : Option Addr) (cap2 : Nat) (hr : RdO w A2 os) :
    Calls Tryd.prog 16 #[pv p, .slice A2 n cap2] w fun e w' => e = .returned (.bool true) ∧ Below w.heap.size w w' := by
  subst hl
  exact same_at h hN hN' A2 cap2 hr
set_option maxHeartbeats 1000000 in
theorem walk_big (w : World) (hT : Tab w) (n : Int) (A2 : Option Addr) (l : List Stp) (cap2 : Nat) (hl : 40 < l.length) :
    Calls Tryd.prog 5 #[.int .i64 n, .slice A2 l.length cap2] w fun e w' => e = .returned (.bool true) ∧ Below w.heap.size w w' := by
  have HT := Lib.hid hT
  have HB := Lib.hid (Below.refl w.heap.size w)
  have d0 : decide ((40 : Int) < (l.length : Int)) = true := decide_eq_true (by omega)
  clear hT hl
  go_enter Tryd.func5, Tryd.ntmps5
  go_wp2_with (go_at_call 11; refine (known_any _ HT.out).mono ?_; rintro e v9 ⟨rfl, b_⟩; have B9 := Lib.hid (HB.out.trans (b_.mono HB.out.size)); clear b_)
  go_ret
  exact ⟨rfl, B9.out⟩
set_option maxHeartbeats 1000000 in
theorem walk_lo (w : World) (hT : Tab w) (n : Int) (A2 : Option Addr) (l : List Stp) (cap2 : Nat) (hl : l.length ≤ 40) (h : n < 1) :
    Calls Tryd.prog 5 #[.int .i64 n, .slice A2 l.length cap2] w fun e w' => e = .returned (.bool true) ∧ Below w.heap.size w w' := by
  have HT := Lib.hid hT
  have HB := Lib.hid (Below.refl w.heap.size w)
  have d0 : decide ((40 : Int) < (l.length : Int)) = false := decide_eq_false (by omega)
  have e0 : decide (n < 1) = true := decide_eq_true h
  have HH := Lib.hid (show ¬ (1 ≤ n ∧ n ≤ 64) by omega)
  clear hT hl h
  go_enter Tryd.func5, Tryd.ntmps5
  go_wp2_with (first
    | (go_at_call 17; refine (new_no n _ HH.out).mono ?_; rintro e w1 ⟨rfl, rfl⟩)
    | (go_at_call 11; refine (known_any _ HT.out).mono ?_; rintro e v9 ⟨rfl, b_⟩; have B9 := Lib.hid (HB.out.trans (b_.mono HB.out.size)); clear b_))
  go_ret
  exact ⟨rfl, B9.out⟩
set_option maxHeartbeats 1000000 in
theorem walk_hi (w : World) (hT : Tab w) (n : Int) (A2 : Option Addr) (l : List Stp) (cap2 : Nat) (hl : l.length ≤ 40) (h0 : ¬ n < 1) (h : 64 < n) :
    Calls Tryd.prog 5 #[.int .i64 n, .slice A2 l.length cap2] w fun e w' => e = .returned (.bool true) ∧ Below w.heap.size w w' := by
  have HT := Lib.hid hT
  have HB := Lib.hid (Below.refl w.heap.size w)
  have d0 : decide ((40 : Int) < (l.length : Int)) = false := decide_eq_false (by omega)
  have e0 : decide (n < 1) = false := decide_eq_false h0
  have e1 : decide (64 < n) = true := decide_eq_true h
  have HH := Lib.hid (show ¬ (1 ≤ n ∧ n ≤ 64) by omega)
  clear hT hl h
  go_enter Tryd.func5, Tryd.ntmps5
  go_wp2_with (first
    | (go_at_call 17; refine (new_no n _ HH.out).mono ?_; rintro e w1 ⟨rfl, rfl⟩)
    | (go_at_call 11; refine (known_any _ HT.out).mono ?_; rintro e v9 ⟨rfl, b_⟩; have B9 := Lib.hid (HB.out.trans (b_.mono HB.out.size)); clear b_))
  go_ret
  exact ⟨rfl, B9.out⟩
set_option maxRecDepth 100000 in
set_option maxHeartbeats 8000000 in
theorem walk_ok (w : World) (hT : Tab w) (n : Nat) (h1 : 1 ≤ n) (h2 : n ≤ 64) (A2 : Option Addr) (l : List Stp) (cap2 : Nat) (hr : RdS w A2 l) (hl : l.length ≤ 40) :
    Calls Tryd.prog 5 #[.int .i64 (n : Int), .slice A2 l.length cap2] w fun e w' => e = .returned (.bool true) ∧ Below w.heap.size w w' := by
  have hz := z34
  have hz5 := z45
  have hbl := oz_len
  have hbl5 := zs45_len
  have HT := Lib.hid hT
  have HR := Lib.hid hr
  have H1 := Lib.hid h1
  have H2 := Lib.hid h2
  have hmk := fun W : World => run_mk n h2 W
  have d0 : decide ((40 : Int) < (l.length : Int)) = false := decide_eq_false (by omega)
  have e0 : decide ((n : Int) < 1) = false := decide_eq_false (by omega)
  have e1 : decide ((64 : Int) < (n : Int)) = false := decide_eq_false (by omega)
  clear hT hr
  go_enter Tryd.func5, Tryd.ntmps5
  go_wp2_with (first
    | (go_at_call 17; refine (new_ok n _ HT.out H1.out H2.out).mono ?_; rintro e w1 ⟨rfl, ⟨A, cap, ps, hs⟩, b1⟩; have HP0 : Hid (Ply w (w1.alloc (.cells (mkO n).toArray 34)) (w.heap.size + 1) w1.heap.size A cap ps n (List.replicate n oz)) := ⟨b1.alloc b1.size _, hs.alloc _, (mkO_ocs n) ▸ (Blk.new w1 34 (mkO n).toArray), List.length_replicate, fun k hk => (hs.lt k hk).2, b1.size⟩; clear b1 hs)
    | (go_at_call 16; refine (same_n HP0.out.st HP0.out.len (by have := H1.out; omega) (by have := H2.out; omega) _ _ HP0.out.row.rdo).mono ?_; rintro e w2 ⟨rfl, b2⟩; have HP := Lib.hid (HP0.out.below b2); clear b2 HP0))
  generalize w1.heap.size = g at HP ⊢
  clear hmk
  go_loopw [8, 9, 10, 11, 12, 13] (fun i _ _ _ _ _ wr => ∃ k : Nat, k ≤ l.length ∧ i = .int .i64 k ∧ ∃ os, Ply w wr (w.heap.size + 1) g A cap ps n os) (fun i _ _ _ _ _ _ => l.length + 1 - (intOf i).toNat)
  case atStart => exact ⟨0, by omega, rfl, _, HP.out⟩
  case round =>
    obtain ⟨k, hk, rfl, os, hply⟩ := hrel
    clear HP
    by_cases hlt : k < l.length
    · obtain ⟨b, off, rfl, hst⟩ := HR.out k hlt
      obtain ⟨x, hx⟩ : ∃ x, x = l[k] := ⟨_, rfl⟩
      rw [← hx] at hst
      have hst1 := hst.below hply.bel
      have HA := Lib.hid hst1
      have HP := Lib.hid (hply.alloc (.cells x.cells.toArray 45))
      have HX := Lib.hid (Blk.new wr 45 x.cells.toArray).stp
      have hlen := hply.len
      have HGW := Lib.hid hply.row.lt
      clear hst hst1 hx hply
      subst hlen
      have HN := Lib.hid (show 0 < os.length by omega)
      obtain ⟨puts, oid, o⟩ := x
      have c0 := HX.out.c0
      have c1 := HX.out.c1
      simp only [Nat.zero_add] at c0 c1
      cases puts with
      | true =>
        by_cases hlo : oid < 0
        · have d1 : decide (0 ≤ oid) = false := decide_eq_false (by omega)
          have HLO := Lib.hid hlo
          clear hlo
          go_wp2_with (first
            | (refine wpList_yields (S := fun w' => StpAt w' b (off + k * 165) ⟨true, oid, o⟩) (y_stp (by rfl) (.tmp 56) (by rfl) b (off + k * 165) (by rfl) ⟨true, oid, o⟩ (fun _ h => h)) HA.out ?_)
            | (refine wpList_store_lastS rfl (.tmp 9) (.tmp 57) rfl _ rfl rfl ⟨true, oid, o⟩ zs45 rfl ?_)
            | (refine wpList_yields (S := fun w' => ObAt w' wr.heap.size 2 o) (y_ob (by rfl) (.tmp 85) (by rfl) wr.heap.size 2 (by rfl) o (fun _ h => h)) HX.out.ob0 ?_)
            | (go_at_call 18; refine (put_out HP.out.st HN.out oid (.inl HLO.out) o).mono ?_; rintro e w3 ⟨rfl, b3⟩; have HP3 := Lib.hid (HP.out.below b3); clear b3))
          go_roundw
          case rel => exact ⟨k + 1, by omega, by go_num, _, HP3.out⟩
          case measure => simp [intOf]; omega
        · by_cases hhi : oid < (os.length : Int)
          · obtain ⟨i, rfl⟩ := Int.eq_ofNat_of_zero_le (show 0 ≤ oid by omega)
            have hi : i < os.length := by omega
            have d1 : decide ((0 : Int) ≤ (i : Int)) = true := decide_eq_true (by omega)
            have d2 : decide ((i : Int) < (os.length : Int)) = true := decide_eq_true hhi
            have d2' : decide (i < os.length) = true := decide_eq_true hi
            have HI := Lib.hid hi
            clear hlo
            by_cases hok : o.ok os.length
            · have HOK := Lib.hid hok
              clear hok
              have HGX : Hid (g < wr.heap.size) := HGW.out
              go_wp2_with (first
                | (refine wpList_yields (S := fun w' => StpAt w' b (off + k * 165) ⟨true, (i : Int), o⟩) (y_stp (by rfl) (.tmp 56) (by rfl) b (off + k * 165) (by rfl) ⟨true, (i : Int), o⟩ (fun _ h => h)) HA.out ?_)
                | (refine wpList_store_lastS rfl (.tmp 9) (.tmp 57) rfl _ rfl rfl ⟨true, (i : Int), o⟩ zs45 rfl ?_)
                | (refine wpList_yields (S := fun w' => ObAt w' wr.heap.size 2 o) (y_ob (by rfl) (.tmp 71) (by rfl) wr.heap.size 2 (by rfl) o (fun _ h => h)) HX.out.ob0 ?_)
                | (go_at_call 13; refine (Oj.chk_yes HOK.out ▸ rcheck_any o os.length _).mono ?_; rintro e w1 ⟨rfl, b1⟩; have HP1 := Lib.hid (HP.out.below b1); have HX1 := Lib.hid (HX.out.below b1); clear b1 c0 c1; have c0 := HX1.out.c0; have c1 := HX1.out.c1; simp only [Nat.zero_add] at c0 c1)
                | (refine wpList_yields (S := fun w' => ObAt w' wr.heap.size 2 o) (y_ob (by rfl) (.tmp 79) (by rfl) wr.heap.size 2 (by rfl) o (fun _ h => h)) HX1.out.ob0 ?_)
                | (refine wpList_store_row_ob HP1.out.row i HI.out rfl (.tmp 81) (.tmp 80) rfl o (by rfl) (by rfl) ?_; have HX2 := Lib.hid (HX1.out.setRow (g := g) (by have := HGX.out; omega) (ocs (os.set i o)).toArray); have HS2 := Lib.hid (HP1.out.rowed (ocs (os.set i o)).toArray); have HT2 := Lib.hid (HT.out.below (below_setRow HP1.out.bel HP1.out.ge (ocs (os.set i o)).toArray)); clear c0 c1; have c0 := HX2.out.c0; have c1 := HX2.out.c1; simp only [Nat.zero_add] at c0 c1)
                | (refine wpList_yields (S := fun w' => ObAt w' wr.heap.size 2 o) (y_ob (by rfl) (.tmp 85) (by rfl) wr.heap.size 2 (by rfl) o (fun _ h => h)) HX2.out.ob0 ?_)
                | (go_at_call 18; refine (put_ok HS2.out HT2.out i HI.out o HOK.out).mono ?_; rintro e w3 ⟨rfl, hs3, hf3⟩; have HP3 := Lib.hid (HP1.out.put i o rfl hs3 hf3); clear hs3 hf3))
              go_roundw
              case rel => exact ⟨k + 1, by omega, by go_num, _, HP3.out⟩
              case measure => simp [intOf]; omega
            · have HOK := Lib.hid hok
              clear hok
              go_wp2_with (first
                | (refine wpList_yields (S := fun w' => StpAt w' b (off + k * 165) ⟨true, (i : Int), o⟩) (y_stp (by rfl) (.tmp 56) (by rfl) b (off + k * 165) (by rfl) ⟨true, (i : Int), o⟩ (fun _ h => h)) HA.out ?_)
                | (refine wpList_store_lastS rfl (.tmp 9) (.tmp 57) rfl _ rfl rfl ⟨true, (i : Int), o⟩ zs45 rfl ?_)
                | (refine wpList_yields (S := fun w' => ObAt w' wr.heap.size 2 o) (y_ob (by rfl) (.tmp 71) (by rfl) wr.heap.size 2 (by rfl) o (fun _ h => h)) HX.out.ob0 ?_)
                | (go_at_call 13; refine (Oj.chk_no HOK.out ▸ rcheck_any o os.length _).mono ?_; rintro e w1 ⟨rfl, b1⟩; have HP1 := Lib.hid (HP.out.below b1); have HX1 := Lib.hid (HX.out.below b1); clear b1 c0 c1; have c0 := HX1.out.c0; have c1 := HX1.out.c1; simp only [Nat.zero_add] at c0 c1)
                | (refine wpList_yields (S := fun w' => ObAt w' wr.heap.size 2 o) (y_ob (by rfl) (.tmp 85) (by rfl) wr.heap.size 2 (by rfl) o (fun _ h => h)) HX1.out.ob0 ?_)
                | (go_at_call 18; refine (put_bad HP1.out.st (HT.out.below HP1.out.bel) i HI.out o HOK.out).mono ?_; rintro e w3 ⟨rfl, b3⟩; have HP3 := Lib.hid (HP1.out.below b3); clear b3))
              go_roundw
              case rel => exact ⟨k + 1, by omega, by go_num, _, HP3.out⟩
              case measure => simp [intOf]; omega
          · have d1 : decide ((0 : Int) ≤ oid) = true := decide_eq_true (by omega)
            have d2 : decide (oid < (os.length : Int)) = false := decide_eq_false hhi
            have HHI := Lib.hid (show (os.length : Int) ≤ oid by omega)
            clear hlo hhi
            go_wp2_with (first
              | (refine wpList_yields (S := fun w' => StpAt w' b (off + k * 165) ⟨true, oid, o⟩) (y_stp (by rfl) (.tmp 56) (by rfl) b (off + k * 165) (by rfl) ⟨true, oid, o⟩ (fun _ h => h)) HA.out ?_)
              | (refine wpList_store_lastS rfl (.tmp 9) (.tmp 57) rfl _ rfl rfl ⟨true, oid, o⟩ zs45 rfl ?_)
              | (refine wpList_yields (S := fun w' => ObAt w' wr.heap.size 2 o) (y_ob (by rfl) (.tmp 85) (by rfl) wr.heap.size 2 (by rfl) o (fun _ h => h)) HX.out.ob0 ?_)
              | (go_at_call 18; refine (put_out HP.out.st HN.out oid (.inr HHI.out) o).mono ?_; rintro e w3 ⟨rfl, b3⟩; have HP3 := Lib.hid (HP.out.below b3); clear b3))
            go_roundw
            case rel => exact ⟨k + 1, by omega, by go_num, _, HP3.out⟩
            case measure => simp [intOf]; omega
      | false =>
        by_cases hlo : oid < 0
        · have d1 : decide (0 ≤ oid) = false := decide_eq_false (by omega)
          have HLO := Lib.hid hlo
          clear hlo
          go_wp2_with (first
            | (refine wpList_yields (S := fun w' => StpAt w' b (off + k * 165) ⟨false, oid, o⟩) (y_stp (by rfl) (.tmp 56) (by rfl) b (off + k * 165) (by rfl) ⟨false, oid, o⟩ (fun _ h => h)) HA.out ?_)
            | (refine wpList_store_lastS rfl (.tmp 9) (.tmp 57) rfl _ rfl rfl ⟨false, oid, o⟩ zs45 rfl ?_)
            | (go_at_call 19; refine (get_out HP.out.st HN.out oid (.inl HLO.out)).mono ?_; rintro e w3 ⟨rfl, b3⟩; have HP3 := Lib.hid ((HP.out.below b3).alloc (.cells (oz).cells.toArray 34)); have HX3 := Lib.hid (Blk.new w3 34 (oz).cells.toArray).ob; have HS3 := Lib.hid (HX.out.below (b3.alloc (Nat.le_trans (Nat.le_refl _) b3.size) (.cells (oz).cells.toArray 34))); clear b3 c0 c1; have c1 := HS3.out.c1; simp only [Nat.zero_add] at c1)
            | (refine wpList_store_last rfl (.tmp 12) (.tmp 95) rfl _ rfl rfl (oz) oz rfl ?_)
            | (refine wpList_yields (S := fun w' => ObAt w' w3.heap.size 0 oz) (y_ob (by rfl) (.tmp 12) (by rfl) w3.heap.size 0 (by rfl) oz (fun _ h => h)) HX3.out ?_)
            | (refine wpList_yields (S := fun _ => True) (y_build (by rfl) (by rfl) built34) trivial ?_)
            | (refine wpList_yields (S := fun _ => True) (y_obne_self (by rfl) (by rfl) oz (by rfl) (by rfl)) trivial ?_))
          go_roundw
          case rel => exact ⟨k + 1, by omega, by go_num, _, HP3.out⟩
          case measure => simp [intOf]; omega
        · by_cases hhi : oid < (os.length : Int)
          · obtain ⟨i, rfl⟩ := Int.eq_ofNat_of_zero_le (show 0 ≤ oid by omega)
            have hi : i < os.length := by omega
            have d1 : decide ((0 : Int) ≤ (i : Int)) = true := decide_eq_true (by omega)
            have d2 : decide ((i : Int) < (os.length : Int)) = true := decide_eq_true hhi
            have d2' : decide (i < os.length) = true := decide_eq_true hi
            have HI := Lib.hid hi
            obtain ⟨q, hq⟩ : ∃ q, os[i]'hi = q := ⟨_, rfl⟩
            have HQ := Lib.hid hq
            have hgo := HP.out.ob hi
            rw [hq] at hgo
            have HGO := Lib.hid hgo
            clear hlo hgo hq
            go_wp2_with (first
              | (refine wpList_yields (S := fun w' => StpAt w' b (off + k * 165) ⟨false, (i : Int), o⟩) (y_stp (by rfl) (.tmp 56) (by rfl) b (off + k * 165) (by rfl) ⟨false, (i : Int), o⟩ (fun _ h => h)) HA.out ?_)
              | (refine wpList_store_lastS rfl (.tmp 9) (.tmp 57) rfl _ rfl rfl ⟨false, (i : Int), o⟩ zs45 rfl ?_)
              | (go_at_call 19; refine (HQ.out ▸ get_at HP.out.st i HI.out).mono ?_; rintro e w3 ⟨rfl, b3⟩; have HP3 := Lib.hid ((HP.out.below b3).alloc (.cells (q).cells.toArray 34)); have HX3 := Lib.hid (Blk.new w3 34 (q).cells.toArray).ob; have HS3 := Lib.hid (HX.out.below (b3.alloc (Nat.le_trans (Nat.le_refl _) b3.size) (.cells (q).cells.toArray 34))); clear b3 c0 c1; have c1 := HS3.out.c1; simp only [Nat.zero_add] at c1)
              | (refine wpList_store_last rfl (.tmp 12) (.tmp 95) rfl _ rfl rfl (q) oz rfl ?_))
            have hgo := HP3.out.ob HI.out
            rw [HQ.out] at hgo
            have HG3 := Lib.hid hgo
            have C1 := Lib.hid c1
            clear hgo
            refine wp_region_only (S := fun w' => ObAt w' w3.heap.size 0 q ∧ w'.cell? ⟨wr.heap.size, 1, none⟩ = some (.int .i64 (i : Int)) ∧ ObAt w' g (i * 163) q) (by kernel_rfl) ⟨HX3.out.drew, C1.out, HG3.out.drew⟩ (fun hHeld => ?_)
            refine wpAnyH_take (i := 0) rfl (by kernel_rfl) (by kernel_rfl) (by kernel_rfl) (fun _ _ _ h => h) (y_ob (by rfl) (.tmp 12) (by rfl) w3.heap.size 0 (by rfl) q (fun _ h => h.1)) hHeld ?_
            try simp only [Act.put, List.getElem_toArray, List.getElem_cons_zero, List.setIfInBounds_toArray, List.set_cons_zero, List.set_cons_succ]
            refine wpAnyH_take (i := 1) (v := ?v1) rfl (by kernel_rfl) (by kernel_rfl) (by kernel_rfl) (fun _ _ _ h => h) (Or.inl ⟨by rfl, ?hy1⟩) hHeld ?rest1
            case hy1 =>
              intro w' hSw
              try dsimp only at hSw
              go_simp
              first | done | with_reducible rfl
            try simp only [Act.put, List.getElem_toArray, List.getElem_cons_succ, List.getElem_cons_zero, List.setIfInBounds_toArray, List.set_cons_zero, List.set_cons_succ]
            refine wpAnyH_take (i := 2) (v := ?v2) rfl (by kernel_rfl) (by kernel_rfl) (by kernel_rfl) (fun _ _ _ h => h) (Or.inl ⟨by rfl, ?hy2⟩) hHeld ?rest2
            case hy2 =>
              intro w' hSw
              try dsimp only at hSw
              go_simp
              first | done | with_reducible rfl
            try simp only [Act.put, List.getElem_toArray, List.getElem_cons_succ, List.getElem_cons_zero, List.setIfInBounds_toArray, List.set_cons_zero, List.set_cons_succ]
            refine wpAnyH_take (i := 3) (v := ?v3) rfl (by kernel_rfl) (by kernel_rfl) (by kernel_rfl) (fun _ _ _ h => h) (Or.inl ⟨by rfl, ?hy3⟩) hHeld ?rest3
            case hy3 =>
              intro w' hSw
              try dsimp only at hSw
              go_simp
              first | done | with_reducible rfl
            try simp only [Act.put, List.getElem_toArray, List.getElem_cons_succ, List.getElem_cons_zero, List.setIfInBounds_toArray, List.set_cons_zero, List.set_cons_succ]
            refine wpAnyH_take (i := 4) (v := ?v4) rfl (by kernel_rfl) (by kernel_rfl) (by kernel_rfl) (fun _ _ _ h => h) (Or.inl ⟨by rfl, ?hy4⟩) hHeld ?rest4
            case hy4 =>
              intro w' hSw
              try dsimp only at hSw
              go_simp
              first | done | with_reducible rfl
            try simp only [Act.put, List.getElem_toArray, List.getElem_cons_succ, List.getElem_cons_zero, List.setIfInBounds_toArray, List.set_cons_zero, List.set_cons_succ]
            refine wpAnyH_take (i := 5) rfl (by kernel_rfl) (by kernel_rfl) (by kernel_rfl) (fun _ _ _ h => h) (y_ob (by rfl) (.tmp 110) (by rfl) g (i * 163) (by rfl) q (fun _ h => h.2.2)) hHeld ?_
            try simp only [Act.put, List.getElem_toArray, List.getElem_cons_succ, List.getElem_cons_zero, List.setIfInBounds_toArray, List.set_cons_zero, List.set_cons_succ]
            refine wpAnyH_take (i := 6) rfl (by kernel_rfl) (by kernel_rfl) (by kernel_rfl) (fun _ _ _ h => h) (y_obne_self (by rfl) (by rfl) q (by rfl) (by rfl)) hHeld ?_
            try simp only [Act.put, List.getElem_toArray, List.getElem_cons_succ, List.getElem_cons_zero, List.setIfInBounds_toArray, List.set_cons_zero, List.set_cons_succ]
            refine wpAnyH_take (i := 7) (v := ?v5) rfl (by kernel_rfl) (by kernel_rfl) (by kernel_rfl) (fun _ _ _ h => h) (Or.inl ⟨by rfl, ?hy5⟩) hHeld ?rest5
            case hy5 =>
              intro w' hSw
              try dsimp only at hSw
              go_simp
              first | done | with_reducible rfl
            try simp only [Act.put, List.getElem_toArray, List.getElem_cons_succ, List.getElem_cons_zero, List.setIfInBounds_toArray, List.set_cons_zero, List.set_cons_succ]
            refine wpAnyH_take (i := 8) (v := ?v6) rfl (by kernel_rfl) (by kernel_rfl) (by kernel_rfl) (fun _ _ _ h => h) (Or.inl ⟨by rfl, ?hy6⟩) hHeld ?rest6
            case hy6 =>
              intro w' hSw
              try dsimp only at hSw
              go_simp
              first | done | with_reducible rfl
            try simp only [Act.put, List.getElem_toArray, List.getElem_cons_succ, List.getElem_cons_zero, List.setIfInBounds_toArray, List.set_cons_zero, List.set_cons_succ]
            refine wpAnyH_take (i := 9) (v := ?v7) rfl (by kernel_rfl) (by kernel_rfl) (by kernel_rfl) (fun _ _ _ h => h) (Or.inl ⟨by rfl, ?hy7⟩) hHeld ?rest7
            case hy7 =>
              intro w' hSw
              try dsimp only at hSw
              go_simp
              first | done | with_reducible rfl
            try simp only [Act.put, List.getElem_toArray, List.getElem_cons_succ, List.getElem_cons_zero, List.setIfInBounds_toArray, List.set_cons_zero, List.set_cons_succ]
            refine wpAnyH_take (i := 10) (v := ?v8) rfl (by kernel_rfl) (by kernel_rfl) (by kernel_rfl) (fun _ _ _ h => h) (Or.inl ⟨by rfl, ?hy8⟩) hHeld ?rest8
            case hy8 =>
              intro w' hSw
              try dsimp only at hSw
              go_simp
              first | done | with_reducible rfl
            try simp only [Act.put, List.getElem_toArray, List.getElem_cons_succ, List.getElem_cons_zero, List.setIfInBounds_toArray, List.set_cons_zero, List.set_cons_succ]
            refine wpAnyH_done (by kernel_rfl) ?_ _
            refine OnlyN.normal ?_
            clear hHeld
            have HP4 := Lib.hid (HP3.out.below (below_drew (Below.refl _ _)))
            go_wp2
            go_roundw
            case rel => exact ⟨k + 1, by omega, by go_num, _, HP4.out⟩
            case measure => simp [intOf]; omega
          · have d1 : decide ((0 : Int) ≤ oid) = true := decide_eq_true (by omega)
            have d2 : decide (oid < (os.length : Int)) = false := decide_eq_false hhi
            have HHI := Lib.hid (show (os.length : Int) ≤ oid by omega)
            clear hlo hhi
            go_wp2_with (first
              | (refine wpList_yields (S := fun w' => StpAt w' b (off + k * 165) ⟨false, oid, o⟩) (y_stp (by rfl) (.tmp 56) (by rfl) b (off + k * 165) (by rfl) ⟨false, oid, o⟩ (fun _ h => h)) HA.out ?_)
              | (refine wpList_store_lastS rfl (.tmp 9) (.tmp 57) rfl _ rfl rfl ⟨false, oid, o⟩ zs45 rfl ?_)
              | (go_at_call 19; refine (get_out HP.out.st HN.out oid (.inr HHI.out)).mono ?_; rintro e w3 ⟨rfl, b3⟩; have HP3 := Lib.hid ((HP.out.below b3).alloc (.cells (oz).cells.toArray 34)); have HX3 := Lib.hid (Blk.new w3 34 (oz).cells.toArray).ob; have HS3 := Lib.hid (HX.out.below (b3.alloc (Nat.le_trans (Nat.le_refl _) b3.size) (.cells (oz).cells.toArray 34))); clear b3 c0 c1; have c1 := HS3.out.c1; simp only [Nat.zero_add] at c1)
              | (refine wpList_store_last rfl (.tmp 12) (.tmp 95) rfl _ rfl rfl (oz) oz rfl ?_)
              | (refine wpList_yields (S := fun w' => ObAt w' w3.heap.size 0 oz) (y_ob (by rfl) (.tmp 12) (by rfl) w3.heap.size 0 (by rfl) oz (fun _ h => h)) HX3.out ?_)
              | (refine wpList_yields (S := fun _ => True) (y_build (by rfl) (by rfl) built34) trivial ?_)
              | (refine wpList_yields (S := fun _ => True) (y_obne_self (by rfl) (by rfl) oz (by rfl) (by rfl)) trivial ?_))
            go_roundw
            case rel => exact ⟨k + 1, by omega, by go_num, _, HP3.out⟩
            case measure => simp [intOf]; omega
    · obtain rfl : k = l.length := by omega
      have HP := Lib.hid hply
      clear hply
      go_wp2_with (first
        | (go_at_call 16; refine (same_n HP.out.st HP.out.len (by have := H1.out; omega) (by have := H2.out; omega) _ _ HP.out.row.rdo).mono ?_; rintro e w2 ⟨rfl, b2⟩; have HB2 := Lib.hid (HP.out.bel.trans (b2.mono HP.out.bel.size)); clear b2)
        | (go_at_call 11; refine (known_any _ (HT.out.below HB2.out)).mono ?_; rintro e v9 ⟨rfl, b_⟩; have B9 := Lib.hid (HB2.out.trans (b_.mono HB2.out.size)); clear b_))
      go_ret
      exact ⟨rfl, B9.out⟩
theorem walk (w : World) (hL : laidMetH Tryd.prog laidK w) (n : Int) (A2 : Option Addr) (l : List Stp) (cap2 : Nat) (_ : l.length ≤ cap2) (_ : cap2 ≤ maxLen) (hr : RdS w A2 l) : Calls Tryd.prog 5 #[.int .i64 n, .slice A2 l.length cap2] w fun e w' => e = .returned (.bool true) ∧ Below w.heap.size w w' := by
  by_cases hl : l.length ≤ 40
  · by_cases h0 : n < 1
    · exact walk_lo w (tab_of hL) n A2 l cap2 hl h0
    · by_cases h1 : 64 < n
      · exact walk_hi w (tab_of hL) n A2 l cap2 hl h0 h1
      · obtain ⟨m, rfl⟩ := Int.eq_ofNat_of_zero_le (show 0 ≤ n by omega)
        exact walk_ok w (tab_of hL) m (by omega) (by omega) A2 l cap2 hr hl
  · exact walk_big w (tab_of hL) n A2 l cap2 (by omega)
set_option maxRecDepth 100000 in
theorem lifted (os : Os) (started : os.Started) (H : Type) (enc : TypeId × Value → H) :
    ReturnsInHanded {} Tryd.checked os 5 .any (fun w args => (Rows.objectsPlaySpec.pre enc Tryd.prog Tryd.f5 [] false w args ∧ laidMetH Tryd.prog laidK w) ∧ sizedMet enc Tryd.prog Tryd.f5 (OpenSpec.ofChange Rows.objectsPlaySpec) false w args) (Rows.objectsPlaySpec.post enc Tryd.prog Tryd.f5 false true false false) := by
  refine returnsInHanded_of_change_and (C := Tryd.checked) (X := fun w _ => laidMetH Tryd.prog laidK w) (fun _ _ _ hh h => h.of_heap hh) own started (by kernel_rfl) Tryd.func5
    (ChangeSpec.witness_shaped (enc := enc) (C := Tryd.checked) (os := os) (X := fun w _ => laidMetH Tryd.prog laidK w) false (World.doorLaid Tryd.prog 40 os) #[.int .i64 0, .slice none 0 0] 8 rfl (World.shaped_of_RefB (by kernel_rfl) (by kernel_rfl)) (by kernel_rfl) (by kernel_rfl) (by kernel_rfl) (door_met os _)) ?_
  intro W base args ds gs before hval0 hW _ _ hL _
  have hval : ∀ (j : Nat) t v, Tryd.f5.params[j]? = some t → args[j]? = some v → Value.okWide Tryd.prog W .any base t v := hval0
  have hW' := hW
  obtain ⟨p, q, hA0, hV, rfl, hfz, hnd⟩ := hW
  have hA : DataW.TrodAll enc Tryd.prog W 0 (fun _ => true) true Tryd.f5.params.toList args.toList ds p := hA0
  rw [Tryd.params5] at hA hval
  obtain ⟨v0, vs0, d0, ds0, p0, q0, hargs, rfl, rfl, h0, t0⟩ := trodAll_cons hA
  obtain ⟨v1, vs1, d1, ds1, p1, q1, rfl, rfl, rfl, h1, t1⟩ := trodAll_cons t0
  obtain ⟨rfl, rfl, rfl⟩ := trodAll_nil t1
  obtain rfl : args = #[v0, v1] := by cases args; simp_all
  obtain ⟨rfl, rfl⟩ := trodVars_none hV
  have k0 := h0
  have lt0 : ∀ x ∈ p0, x.block < W.heap.size := by obtain ⟨m, hm⟩ := k0; exact DataW.trod_lt m _ _ _ hm
  obtain ⟨a0, rfl, rfl, rfl, _⟩ := open_int Tryd.underlying3 (hval 0 3 v0 rfl rfl) h0
  have k1 := h1
  have lt1 : ∀ x ∈ p1, x.block < W.heap.size := by obtain ⟨m, hm⟩ := k1; exact DataW.trod_lt m _ _ _ hm
  obtain ⟨A1, l1, c1, rfl, hlc1, hcm1, hr1⟩ := open_stps (hval 1 42 v1 rfl rfl) h1
  clear hA0 hval0
  refine (walk W hL a0 A1 l1 c1 hlc1 hcm1 hr1).mono fun e W' ⟨he, bel⟩ => ?_
  subst he
  exact ⟨_, rfl, _, _, _, [], _, [], hW', trodAll_mk1 (shut_bool Tryd.underlying4 _), (trodAll_cons_mk (Below.trod laidOut (by kernel_rfl) (of_decide_eq_true (by kernel_rfl)) k0 bel lt0) (trodAll_cons_mk (Below.trod laidOut (by kernel_rfl) (of_decide_eq_true (by kernel_rfl)) k1 bel lt1) trodAll_mk0)), rfl, bel.frame _, fun h => by cases h⟩
theorem over : Rows.objectsPlayRow.holds Tryd.pinned (OpenSpec.ofChange Rows.objectsPlaySpec) :=
  OpenClaim.holds_of_wide 5 Tryd.f5 rfl rfl rfl rfl rfl rfl rfl ⟨rfl, rfl, rfl, rfl, rfl⟩ rfl rfl rfl rfl rfl (by kernel_rfl) Tryd.func5 (by kernel_rfl)
    (of_decide_eq_true (by kernel_rfl)) (by unfold Func.isWrapper; first | (rw [if_pos (by decide +kernel)]; kernel_rfl) | (rw [if_neg (by decide +kernel)]; exact ⟨rfl, rfl⟩))
    (fun os started H enc _ => lifted os started H enc)
theorem proved : Rows.ObjectsPlayCardSaid :=
  Claim7.holds_tied_plain_at .later [] [.data] true Rows.objectsPlayCard.stood.harness false
    over (fun _ h => by cases h) (by kernel_rfl) (fun _ h => by cases h) objectsPlay_row_tie rfl ⟨rfl, rfl⟩ (by kernel_rfl) rfl
    (fun f fn hf hfn => by
      obtain rfl : f = 5 := Option.some.inj ((show Tryd.prog.funcNamed "chatelaine/chatelainelaw04.ObjectsPlay" = some 5 by kernel_rfl).symm.trans hf) |>.symm
      obtain rfl : fn = Tryd.f5 := (Option.some.inj (Tryd.func5.symm.trans hfn)).symm
      exact ⟨by kernel_rfl, fun j t ht => by
        rw [Tryd.params5] at ht
        have hm : t ∈ [3, 42] := by simpa using Array.mem_of_getElem? ht
        have hall : ([3, 42].all fun u => !Tryd.prog.wantsStandIn u) = true := by kernel_rfl
        exact (show Tryd.prog.wantsStandIn t = false by simpa using List.all_eq_true.1 hall t hm)⟩)
    (by kernel_rfl)
end Go.Proofs.YtlhlgfehbfankaaDoor.objectsPlay

/- banks: all of a bank's Oids: the iterator. -/
import Derived.Test.YteodgefnbmiblaaDoorBFst
namespace Go.Proofs.YteodgefnbmiblaaDoor
open Go.RowKit Go.Shelf
attribute [local go_sem] Oper.semAt_some
set_option maxRecDepth 8000 in
theorem ball_any (p : Nat) (x : Int) (u : Oj) (w : World) : Calls Tryd.prog 40 #[bkv p x u] w fun e w' => e = .returned (.func (.func 60) #[] #[pv w.heap.size]) ∧ w.alloc (.cells (bkc p x u).toArray 78) = w' := by
  go_enter Tryd.func40, Tryd.ntmps40
  go_wp2
  go_ret
  exact ⟨rfl, rfl⟩
/-- what comes: the objects, by their numbers, from a to b, as they are in os -/
def AllT (a b : Nat) (os : List Oj) (pre : List (Ie os)) (y : Ie os) : Prop := y.i = a + pre.length ∧ y.i ≤ b
/-- what it leans on: the bank lies there, its store has the object that comes next as it was -/
structure AllR (gb p : Nat) (x : Int) (u : Oj) (os : List Oj) (a m : Nat) (V : World) : Prop where
  bk : Blk V gb 78 (bkc p x u).toArray
  st : ∃ base A cap ps L, StAt V base p A cap ps L ∧ L.length = os.length ∧ L[a + m]? = os[a + m]?
set_option maxRecDepth 100000 in
set_option maxHeartbeats 2000000 in
theorem ball_in (n : Nat) (hn : 1 ≤ n) (gb p : Nat) (x : Int) (u : Oj) (os : List Oj) (a b : Nat) (ha : (sl0 u).v = (a : Int)) (hb : (sl1 u).v = (b : Int)) (hab : a ≤ b) (hbl : b < os.length) (hN : os.length ≤ 64) :
    SeqP n Tryd.prog 60 #[pv gb] (fun y : Ie os => #[.int .i64 (y.i : Int), y.o.val]) (AllT a b os) (fun pre V => AllR gb p x u os a pre.length V) (fun xs => xs.length = b + 1 - a) := by
  intro l J Jx Jp W hlt0 hJ hJx hR hY h0
  have hFw : ∀ f, Fence.wide.fn f := fun _ => trivial
  have hz := z34
  have hol := oz_len
  have HJ := Lib.hid hJ
  have HR := Lib.hid hR
  have HY := Lib.hid hY
  have H0 := Lib.hid h0
  have HA := Lib.hid ha
  have HB := Lib.hid hb
  have HAB := Lib.hid hab
  have HBL := Lib.hid hbl
  have HNN := Lib.hid hN
  clear hJ hJx hR hY h0 ha hb hab hbl hN
  refine callsIn_of_wp Tryd.func60 rfl trivial ?_ rfl
  simp only [Tryd.ntmps60, List.size_toArray, List.length_cons, List.length_nil, Nat.reduceAdd, Nat.reduceSub, Array.replicate_succ, Array.replicate_zero, List.push_toArray, List.append_toArray, List.nil_append, List.cons_append]
  gi_wp2_with (first
    | (refine wpListIn_yields (S := fun w' => BkAt w' gb 0 p x u) (fun _ => trivial) (by intro c hc'; cases hc') (y_bk (by rfl) (.tmp 1) (by rfl) gb 0 (by rfl) p x u (fun _ h => h)) (HR.out _ _ H0.out).bk.bk ?_)
    | (gi_at_call 34; refine ((callsIn_wide (n := n - 1)).2 (first_eq p x u _ HA.out)).mono ?_; rintro e w1 ⟨rfl, b1⟩; have J1 := Lib.hid (HJ.out _ _ _ none H0.out (grown_of_below b1) (fun _ e => by cases e)); clear b1))
  gi_loopw [3] (fun i wr => ∃ k : Nat, a ≤ k ∧ k ≤ b + 1 ∧ i = .int .i64 (k : Int) ∧ ∃ pre : List (Ie os), a + pre.length = k ∧ J pre wr) (fun i _ => b + 1 - (intOf i).toNat)
  case atStart => exact ⟨a, Nat.le_refl _, by have := HAB.out; omega, rfl, [], rfl, J1.out⟩
  case round =>
    obtain ⟨k, hka, hkb, rfl, pre, hpre, hJs⟩ := hrel
    have HPRE := Lib.hid hpre
    have HJS := Lib.hid hJs
    have HRR := Lib.hid (HR.out _ _ hJs)
    clear hpre hJs J1 H0
    have HK := Lib.hid (show a ≤ k ∧ k ≤ b + 1 from ⟨hka, hkb⟩)
    by_cases hlt : k ≤ b
    · have d1 : decide ((k : Int) ≤ (b : Int)) = true := decide_eq_true (by omega)
      have HLT := Lib.hid hlt
      have hkl : k < os.length := by have := HBL.out; omega
      obtain ⟨base, A, cap, ps, L, hst, hll, hLk⟩ := HRR.out.st
      obtain ⟨y, hy0⟩ : ∃ y : Ie os, y = ⟨k, hkl⟩ := ⟨_, rfl⟩
      have hyi : y.i = k := by rw [hy0]
      have hyo : L[k]? = some y.o := by
        rw [HPRE.out] at hLk
        rw [hLk, hy0, List.getElem?_eq_getElem hkl]
        rfl
      have HGET := Lib.hid (show ∀ W', Below wr.heap.size wr W' → Calls Tryd.prog 14 #[pv p, .int .i64 (k : Int)] W' fun e' w' => e' = .returned (.tuple #[y.o.val, .int .i64 0]) ∧ Below W'.heap.size W' w' from fun W' hW' => by
        obtain ⟨hk1, hk2⟩ := List.getElem?_eq_some_iff.1 hyo
        have := get_at (hst.below hW') k hk1
        rwa [hk2] at this)
      have HYY := Lib.hid (fun V h => HY.out pre y V h ⟨by rw [hyi]; exact HPRE.out.symm, by rw [hyi]; exact HLT.out⟩)
      have HYI := Lib.hid hyi
      have HPX := Lib.hid (show (pre ++ [y]).length = pre.length + 1 by simp)
      rw [hyi] at HYY
      clear hst hll hLk hlt hy0 hyi hyo
      obtain ⟨o, ho⟩ : ∃ o, y.o = o := ⟨_, rfl⟩
      rw [ho] at HGET HYY
      have HW := Lib.hid (Below.refl wr.heap.size wr)
      gi_wp2_with (first
        | (show wpListIn _ _ _ _ _ ({ dst := some 9, op := .load _ _, type := _, pos := _, after := _, guard := _ } :: _) _ _; refine wpListIn_yields (S := fun w' => BkAt w' gb 0 p x u) (fun _ => trivial) (by intro c hc'; cases hc') (y_bk (by rfl) (.tmp 1) (by rfl) gb 0 (by rfl) p x u (fun _ h => h)) HRR.out.bk.bk ?_)
        | (gi_at_call 33; refine ((callsIn_wide (n := n - 1)).2 (last_eq p x u _ HB.out)).mono ?_; rintro e w2 ⟨rfl, b2⟩; have J2 := Lib.hid (HJ.out _ _ _ none HJS.out (grown_of_below b2) (fun _ e => by cases e)); have B2 := Lib.hid b2; have c164 : w2.cell? ⟨gb, 164, none⟩ = some (pv p) := by { have := (HR.out _ _ J2.out).bk.bk.st; simpa using this }; clear b2)
        | (gi_at_call 14; refine ((callsIn_wide (n := n - 1)).2 (HGET.out _ B2.out)).mono ?_; rintro e w3 ⟨rfl, b3⟩; have J3 := Lib.hid (HJ.out _ _ _ none J2.out (grown_of_below b3) (fun _ e => by cases e)); have J4 := Lib.hid (HJ.out.alloc (.cells o.cells.toArray 47) J3.out); clear b3 c164; obtain ⟨fn, tmps, assign, body, hy, hR⟩ := HYY.out _ J4.out; have HRN := Lib.hid hR; have HG3 := Lib.hid (Blk.new w3 47 o.cells.toArray); clear hR)
        | (show wpListIn _ _ _ _ _ ({ dst := none, op := .store _ (.tmp 4) (.tmp 19), type := _, pos := _, after := _, guard := _ } :: _) _ _; refine wpListIn_store_last rfl (.tmp 4) (.tmp 19) rfl _ rfl rfl o oz rfl ?_)
        | (show wpListIn _ _ _ _ _ ({ dst := some 23, op := .load _ _, type := _, pos := _, after := _, guard := _ } :: _) _ _; refine wpListIn_ob rfl (.tmp 4) rfl _ 0 rfl o HG3.out.ob ?_))
      refine HRN.out.mono ?_
      rintro e W5 (⟨rfl, hJ5⟩ | ⟨rfl, hJx5⟩ | ⟨c, rfl, hp⟩)
      · have J5 := Lib.hid hJ5
        clear hJ5
        have hk64 : (k : Int) ≤ 64 := by have := HNN.out; omega
        gi_wp2
        go_roundw
        case rel => exact ⟨k + 1, by omega, by omega, by go_num, pre ++ [y], by have := HPX.out; have := HPRE.out; omega, J5.out⟩
        case measure => simp [intOf]; omega
      · have J5 := Lib.hid hJx5
        clear hJx5
        gi_wp2
        refine bodyPost_ret (results_none rfl _ _ _) rfl ?_
        exact .inl ⟨⟨_, rfl⟩, .inr ⟨_, J5.out⟩⟩
      · have J5 := Lib.hid hp
        clear hp
        gi_wp2
        exact ⟨rfl, .inr ⟨c, _, rfl, J5.out⟩⟩
    · have d1 : decide ((k : Int) ≤ (b : Int)) = false := decide_eq_false (by omega)
      have HKB := Lib.hid (show k = b + 1 by omega)
      have d2 : decide (k ≤ b) = false := decide_eq_false hlt
      have HW := Lib.hid (Below.refl wr.heap.size wr)
      gi_wp2_with (first
        | (show wpListIn _ _ _ _ _ ({ dst := some 9, op := .load _ _, type := _, pos := _, after := _, guard := _ } :: _) _ _; refine wpListIn_yields (S := fun w' => BkAt w' gb 0 p x u) (fun _ => trivial) (by intro c hc'; cases hc') (y_bk (by rfl) (.tmp 1) (by rfl) gb 0 (by rfl) p x u (fun _ h => h)) HRR.out.bk.bk ?_)
        | (gi_at_call 33; refine ((callsIn_wide (n := n - 1)).2 (last_eq p x u _ HB.out)).mono ?_; rintro e w2 ⟨rfl, b2⟩; have J2 := Lib.hid (HJ.out _ _ _ none HJS.out (grown_of_below b2) (fun _ e => by cases e)); clear b2))
      go_end0
      exact .inl ⟨⟨_, rfl⟩, .inl ⟨pre, by have := HPRE.out; have := HKB.out; omega, J2.out⟩⟩
end Go.Proofs.YteodgefnbmiblaaDoor

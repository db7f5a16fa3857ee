/- procs: what a store must hold; a message that is prepared. -/
import Derived.Test.YtljfddeolapeaaaDoorJHd
namespace Go.Proofs.YtljfddeolapeaaaDoor
open Go.RowKit
section
variable {w : World} {base p : Nat} {A : Option Addr} {cap : Nat} {ps : List Nat} {os : List Oj}
set_option maxRecDepth 100000 in
set_option maxHeartbeats 2000000 in
theorem mh_bad (h : StAt w base p A cap ps os) (hn : 0 < os.length) (hT : Tab w) (v : Ky) (hv : ¬ v.ok) :
    Calls Tryd.prog 37 #[pv p, v.val] w fun e w' => e = .panicked (erc 2) ∧ Below w.heap.size w w' := by
  obtain ⟨m, hm⟩ : ∃ m : Int, m = (os.length : Int) := ⟨_, rfl⟩
  have HV := Lib.hid hv
  have HVF := Lib.hid (show ¬ v.of from fun h => hv h.1)
  clear hv
  have HM := Lib.hid hm
  have HN := Lib.hid hn
  have HS0 := Lib.hid (h.alloc (.cells (kc v.k v.o v.c v.l v.r v.v) 33))
  have HT0 := Lib.hid (hT.alloc (.cells (kc v.k v.o v.c v.l v.r v.v) 33))
  have HB0 := Lib.hid ((Below.refl w.heap.size w).alloc (Nat.le_refl _) (.cells (kc v.k v.o v.c v.l v.r v.v) 33))
  have HV0 := Lib.hid (Blk.new w 33 (kc v.k v.o v.c v.l v.r v.v))
  obtain ⟨c0, c1, c2, c3, c4, c5⟩ := HV0.out.six
  clear h hT hm hn
  go_enter Tryd.func37, Tryd.ntmps37
  go_wp2_with (first
    | (go_at_call 46; refine (kname_no v _ HT0.out HVF.out).mono ?_; rintro e w1 ⟨rfl, b1⟩; have HB1 := Lib.hid (HB0.out.trans (b1.mono HB0.out.size)); have HV1 := Lib.hid (HV0.out.keep b1); have HS1 := Lib.hid (HS0.out.below b1); have HT1 := Lib.hid (HT0.out.below b1); clear c0 c1 c2 c3 c4 c5; obtain ⟨c0, c1, c2, c3, c4, c5⟩ := HV1.out.six; clear b1)
    | (go_at_call 73; refine (kchk_no v _ HT1.out HV.out).mono ?_; rintro e w2 ⟨rfl, b2⟩; have HB2 := Lib.hid (HB1.out.trans (b2.mono HB1.out.size)); have HS2 := Lib.hid (HS1.out.below b2); clear c0 c1 c2 c3 c4 c5; clear b2))
  exact ⟨rfl, rfl, HB2.out⟩
set_option maxRecDepth 100000 in
set_option maxHeartbeats 2000000 in
theorem mh_out (h : StAt w base p A cap ps os) (hn : 0 < os.length) (hT : Tab w) (v : Ky) (hv : v.of) (ho : (os.length : Int) ≤ v.o) :
    Calls Tryd.prog 37 #[pv p, v.val] w fun e w' => e = .panicked (erc 2) ∧ Below w.heap.size w w' := by
  obtain ⟨m, hm⟩ : ∃ m : Int, m = (os.length : Int) := ⟨_, rfl⟩
  have HV := Lib.hid hv
  have dm : decide (m ≤ v.o) = true := decide_eq_true (by omega)
  clear hv ho
  have HM := Lib.hid hm
  have HN := Lib.hid hn
  have HS0 := Lib.hid (h.alloc (.cells (kc v.k v.o v.c v.l v.r v.v) 33))
  have HT0 := Lib.hid (hT.alloc (.cells (kc v.k v.o v.c v.l v.r v.v) 33))
  have HB0 := Lib.hid ((Below.refl w.heap.size w).alloc (Nat.le_refl _) (.cells (kc v.k v.o v.c v.l v.r v.v) 33))
  have HV0 := Lib.hid (Blk.new w 33 (kc v.k v.o v.c v.l v.r v.v))
  obtain ⟨c0, c1, c2, c3, c4, c5⟩ := HV0.out.six
  clear h hT hm hn
  go_enter Tryd.func37, Tryd.ntmps37
  go_wp2_with (first
    | (go_at_call 46; refine (kname_yes v _ HT0.out HV.out).mono ?_; rintro e w1 ⟨rfl, b1⟩; have HB1 := Lib.hid (HB0.out.trans (b1.mono HB0.out.size)); have HV1 := Lib.hid (HV0.out.keep b1); have HS1 := Lib.hid (HS0.out.below b1); have HT1 := Lib.hid (HT0.out.below b1); clear c0 c1 c2 c3 c4 c5; obtain ⟨c0, c1, c2, c3, c4, c5⟩ := HV1.out.six; clear b1)
    | (go_at_call 73; refine (kchk_yes v _ HT1.out HV.out.1).mono ?_; rintro e w2 ⟨rfl, b2⟩; have HB2 := Lib.hid (HB1.out.trans (b2.mono HB1.out.size)); have HS2 := Lib.hid (HS1.out.below b2); clear c0 c1 c2 c3 c4 c5; clear b2)
    | (go_at_call 42; refine (size_m HS2.out HN.out HM.out).mono ?_; rintro e w9 ⟨rfl, rfl⟩))
  exact ⟨rfl, rfl, HB2.out⟩
set_option maxRecDepth 100000 in
set_option maxHeartbeats 2000000 in
theorem mh_in (h : StAt w base p A cap ps os) (hn : 0 < os.length) (hT : Tab w) (v : Ky) (hv : v.of) (ho : v.o < (os.length : Int)) :
    Calls Tryd.prog 37 #[pv p, v.val] w fun e w' => e = .returned (.tuple #[]) ∧ Below w.heap.size w w' := by
  obtain ⟨m, hm⟩ : ∃ m : Int, m = (os.length : Int) := ⟨_, rfl⟩
  have HV := Lib.hid hv
  have dm : decide (m ≤ v.o) = false := decide_eq_false (by omega)
  clear hv ho
  have HM := Lib.hid hm
  have HN := Lib.hid hn
  have HS0 := Lib.hid (h.alloc (.cells (kc v.k v.o v.c v.l v.r v.v) 33))
  have HT0 := Lib.hid (hT.alloc (.cells (kc v.k v.o v.c v.l v.r v.v) 33))
  have HB0 := Lib.hid ((Below.refl w.heap.size w).alloc (Nat.le_refl _) (.cells (kc v.k v.o v.c v.l v.r v.v) 33))
  have HV0 := Lib.hid (Blk.new w 33 (kc v.k v.o v.c v.l v.r v.v))
  obtain ⟨c0, c1, c2, c3, c4, c5⟩ := HV0.out.six
  clear h hT hm hn
  go_enter Tryd.func37, Tryd.ntmps37
  go_wp2_with (first
    | (go_at_call 46; refine (kname_yes v _ HT0.out HV.out).mono ?_; rintro e w1 ⟨rfl, b1⟩; have HB1 := Lib.hid (HB0.out.trans (b1.mono HB0.out.size)); have HV1 := Lib.hid (HV0.out.keep b1); have HS1 := Lib.hid (HS0.out.below b1); have HT1 := Lib.hid (HT0.out.below b1); clear c0 c1 c2 c3 c4 c5; obtain ⟨c0, c1, c2, c3, c4, c5⟩ := HV1.out.six; clear b1)
    | (go_at_call 73; refine (kchk_yes v _ HT1.out HV.out.1).mono ?_; rintro e w2 ⟨rfl, b2⟩; have HB2 := Lib.hid (HB1.out.trans (b2.mono HB1.out.size)); have HS2 := Lib.hid (HS1.out.below b2); clear c0 c1 c2 c3 c4 c5; clear b2)
    | (go_at_call 42; refine (size_m HS2.out HN.out HM.out).mono ?_; rintro e w9 ⟨rfl, rfl⟩))
  go_end0
  exact ⟨rfl, HB2.out⟩
set_option maxRecDepth 100000 in
set_option maxHeartbeats 2000000 in
theorem mh_not (h : StAt w base p A cap ps os) (hn : 0 < os.length) (hT : Tab w) (v : Ky) (hv : v.ok) (hf : ¬ v.of) :
    Calls Tryd.prog 37 #[pv p, v.val] w fun e w' => e = .returned (.tuple #[]) ∧ Below w.heap.size w w' := by
  obtain ⟨m, hm⟩ : ∃ m : Int, m = (os.length : Int) := ⟨_, rfl⟩
  have HV := Lib.hid hv
  have HVF := Lib.hid hf
  clear hv hf
  have HM := Lib.hid hm
  have HN := Lib.hid hn
  have HS0 := Lib.hid (h.alloc (.cells (kc v.k v.o v.c v.l v.r v.v) 33))
  have HT0 := Lib.hid (hT.alloc (.cells (kc v.k v.o v.c v.l v.r v.v) 33))
  have HB0 := Lib.hid ((Below.refl w.heap.size w).alloc (Nat.le_refl _) (.cells (kc v.k v.o v.c v.l v.r v.v) 33))
  have HV0 := Lib.hid (Blk.new w 33 (kc v.k v.o v.c v.l v.r v.v))
  obtain ⟨c0, c1, c2, c3, c4, c5⟩ := HV0.out.six
  clear h hT hm hn
  go_enter Tryd.func37, Tryd.ntmps37
  go_wp2_with (first
    | (go_at_call 46; refine (kname_no v _ HT0.out HVF.out).mono ?_; rintro e w1 ⟨rfl, b1⟩; have HB1 := Lib.hid (HB0.out.trans (b1.mono HB0.out.size)); have HV1 := Lib.hid (HV0.out.keep b1); have HS1 := Lib.hid (HS0.out.below b1); have HT1 := Lib.hid (HT0.out.below b1); clear c0 c1 c2 c3 c4 c5; obtain ⟨c0, c1, c2, c3, c4, c5⟩ := HV1.out.six; clear b1)
    | (go_at_call 73; refine (kchk_yes v _ HT1.out HV.out).mono ?_; rintro e w2 ⟨rfl, b2⟩; have HB2 := Lib.hid (HB1.out.trans (b2.mono HB1.out.size)); have HS2 := Lib.hid (HS1.out.below b2); clear c0 c1 c2 c3 c4 c5; clear b2))
  go_end0
  exact ⟨rfl, HB2.out⟩
set_option maxRecDepth 8000 in
theorem mh_yes (h : StAt w base p A cap ps os) (hn : 0 < os.length) (hT : Tab w) (v : Ky) (hv : v.may os.length) : Calls Tryd.prog 37 #[pv p, v.val] w fun e w' => e = .returned (.tuple #[]) ∧ Below w.heap.size w w' := by
  by_cases hf : v.of
  · exact mh_in h hn hT v hf (hv.2 hf)
  · exact mh_not h hn hT v hv.1 hf
set_option maxRecDepth 8000 in
theorem mh_no (h : StAt w base p A cap ps os) (hn : 0 < os.length) (hT : Tab w) (v : Ky) (hv : ¬ v.may os.length) : Calls Tryd.prog 37 #[pv p, v.val] w fun e w' => e = .panicked (erc 2) ∧ Below w.heap.size w w' := by
  by_cases hf : v.of
  · exact mh_out h hn hT v hf (by
      by_cases ho : (os.length : Int) ≤ v.o
      · exact ho
      · exact absurd ⟨hf.1, fun _ => by omega⟩ hv)
  · exact mh_bad h hn hT v fun hk => hv ⟨hk, fun h => absurd h hf⟩
end
set_option maxRecDepth 8000 in
theorem y_index3 {ops : Array Oper} {o : Oper} {a : Act} {S : World → Prop} (hw : Region.wanted o (yielded ops a.tmps) = true) (x y : Operand) (ho : o.op = .index 36 x y) (l : List Ky) (hl : l.length = 3) (i : Nat) (hi : i < l.length) (hx : a.eval x = .agg (kcs l).toArray) (hy : a.eval y = .int .i64 (i : Int)) : YieldsIf Tryd.prog ops S o l[i].val a := .inl ⟨hw, fun w _ => by
  have hp := part_key l i hi w
  have hz : (sizeOf 33).run Tryd.prog w = .ok 6 w := by
    cases h : Tryd.prog.info? 33 with
    | none => have := size30; simp [h] at this
    | some i => have := size30; simp [h] at this; simp [sizeOf, typeInfo, h, this]
  have hlt : (i : Int) < 3 := by omega
  unfold execOp
  simp only [ho, hx, hy, Instr.index, asIntOf, Sem.run_bind, Sem.run_pure, Result.andThen_ok, run_underlying Tryd.underlying36]
  rw [if_pos (by omega)]
  simp only [Sem.run_bind, hz, Result.andThen_ok, Int.toNat_natCast, hp]⟩
set_option maxRecDepth 8000 in
theorem cutM_len (os : List Oj) (l : List Ky) (h : l.length = 3) (i : Nat) (hi : i ≤ 3) : ((l.take i).map (prepd os) ++ l.drop i).length = 3 := by
  rw [List.length_append, List.length_map, List.length_take, List.length_drop, h]; omega
/-- a message of which i keys are prepared -/
noncomputable def cutM (os : List Oj) (m : Mg) (i : Nat) (hi : i ≤ 3) : Mg := m.ksAs ((m.k.take i).map (prepd os) ++ m.k.drop i) (cutM_len os m.k m.hk i hi)
set_option maxRecDepth 8000 in
theorem cutM_zero (os : List Oj) (m : Mg) : cutM os m 0 (by omega) = m := by
  unfold cutM Mg.ksAs
  simp
set_option maxRecDepth 8000 in
theorem cutM_all (os : List Oj) (m : Mg) : cutM os m 3 (by omega) = cntM os m := by
  have h1 : m.k.take 3 = m.k := List.take_of_length_le (by rw [m.hk]; omega)
  have h2 : m.k.drop 3 = [] := List.drop_of_length_le (by rw [m.hk]; omega)
  unfold cutM cntM Mg.ksAs
  simp [h1, h2]
set_option maxRecDepth 8000 in
theorem cutM_succ (os : List Oj) (m : Mg) (i : Nat) (hi : i < 3) (y : Ky) (hy : m.k[i]? = some y) : (cutM os m i (by omega)).ksAs ((cutM os m i (by omega)).k.set i (prepd os y)) (by rw [List.length_set]; exact (cutM os m i (by omega)).hk) = cutM os m (i + 1) hi := by
  have hl : i < m.k.length := by rw [m.hk]; exact hi
  rw [List.getElem?_eq_getElem hl] at hy
  injection hy with hy
  subst hy
  have ht : (m.k.take i).length = i := by rw [List.length_take, m.hk]; omega
  have : ((m.k.take i).map (prepd os) ++ m.k.drop i).set i (prepd os m.k[i]) = (m.k.take (i + 1)).map (prepd os) ++ m.k.drop (i + 1) := by
    rw [List.set_append_right _ _ (by rw [List.length_map, ht]; exact Nat.le_refl _), List.length_map, ht, Nat.sub_self, List.drop_eq_getElem_cons hl, List.set_cons_zero, List.take_succ_eq_append_getElem hl, List.map_append]
    simp
  unfold cutM Mg.ksAs
  simp only [this]
set_option maxRecDepth 8000 in
theorem cutM_key (os : List Oj) (m : Mg) (i : Nat) (hi : i < 3) (y : Ky) (hy : m.k[i]? = some y) : (cutM os m i (by omega)).k[i]? = some y := by
  have ht : (m.k.take i).length = i := by rw [List.length_take, m.hk]; omega
  show ((m.k.take i).map (prepd os) ++ m.k.drop i)[i]? = some y
  rw [List.getElem?_append_right (by rw [List.length_map, ht]; exact Nat.le_refl _), List.length_map, ht, Nat.sub_self, List.getElem?_drop]
  simpa using hy
section
variable {w : World} {base p : Nat} {A : Option Addr} {cap : Nat} {ps : List Nat} {os : List Oj}
structure Jpw (w wr : World) (base p : Nat) (A : Option Addr) (cap : Nat) (ps : List Nat) (os : List Oj) (m : Mg) (g i : Nat) : Prop where
  bel : Below w.heap.size w wr
  st : StAt wr base p A cap ps os
  tab : Tab wr
  res : Blk wr (g + 1) 38 mz.cells.toArray
  msg : ∃ h : i ≤ 3, Blk wr g 38 (cutM os m i h).cells.toArray
set_option maxRecDepth 100000 in
set_option maxHeartbeats 2000000 in
theorem prep_long (p' : Value) (m : Mg) (hd : ¬ m.d.length ≤ 32) : Calls Tryd.prog 38 #[p', m.val] w fun e w' => e = .panicked (erc 2) ∧ Below w.heap.size w w' := by
  have hz := zM
  have hml := m.len
  have hzl := mz.len
  have dd : decide ((32 : Int) < (m.d.length : Int)) = true := decide_eq_true (by omega)
  have HB0 := Lib.hid (((Below.refl w.heap.size w).alloc (Nat.le_refl _) (.cells m.cells.toArray 38)).alloc (by simp) (.cells mz.cells.toArray 38))
  have HM0 := Lib.hid ((Blk.new w 38 m.cells.toArray).alloc (.cells mz.cells.toArray 38))
  have c1 := HM0.out.mg.data
  have hss := st_size m.d
  rw [Nat.zero_add] at c1
  clear hd
  go_enter Tryd.func38, Tryd.ntmps38
  go_wp2_with fail
  exact ⟨rfl, rfl, HB0.out⟩
set_option maxRecDepth 100000 in
set_option maxHeartbeats 2000000 in
theorem prep_in (h : StAt w base p A cap ps os) (hn : 0 < os.length) (hT : Tab w) (m : Mg) (hd : m.d.length ≤ 32) : Calls Tryd.prog 38 #[pv p, m.val] w fun e w' => ((mayS os.length m.k ∧ e = .returned (cntM os m).val) ∨ (¬ mayS os.length m.k ∧ e = .panicked (erc 2))) ∧ Below w.heap.size w w' := by
  have hz := zM
  have hml := m.len
  have hzl := mz.len
  have dd : decide ((32 : Int) < (m.d.length : Int)) = false := decide_eq_false (by omega)
  have hss := st_size m.d
  have HB0 := Lib.hid (((Below.refl w.heap.size w).alloc (Nat.le_refl _) (.cells m.cells.toArray 38)).alloc (by simp) (.cells mz.cells.toArray 38))
  have HS0 := Lib.hid ((h.alloc (.cells m.cells.toArray 38)).alloc (.cells mz.cells.toArray 38))
  have HT0 := Lib.hid ((hT.alloc (.cells m.cells.toArray 38)).alloc (.cells mz.cells.toArray 38))
  have HM0 := Lib.hid ((Blk.new w 38 m.cells.toArray).alloc (.cells mz.cells.toArray 38))
  have HR0 := Lib.hid (Blk.new_of (w.alloc (.cells m.cells.toArray 38)) 38 mz.cells.toArray (g := w.heap.size + 1) (by simp))
  have HN := Lib.hid hn
  have HMK := Lib.hid m.hk
  have HTW := Lib.hid hT
  have HNP := Lib.hid (show w.heap.size ≠ p by have := (h.lt p (.inl rfl)).2; omega)
  have c1 := HM0.out.mg.data
  rw [Nat.zero_add] at c1
  clear h hT hn hd
  go_enter Tryd.func38, Tryd.ntmps38
  go_wp2_with (first
    | (show wpList _ _ _ (Oper.mk (some 13) (.load _ _) _ _ _ _ :: _) _ _; refine wpList_yields (S := fun w' => w'.rangeAt w.heap.size 2 (kcs m.k)) (y_k3 (by rfl) (.tmp 12) (by rfl) w.heap.size 2 (by rfl) m.k HMK.out (fun _ h => h)) (by have := HM0.out.mg.keys; simpa using this) ?_))
  have HI : Hid (Jpw w ((w.alloc (.cells m.cells.toArray 38)).alloc (.cells mz.cells.toArray 38)) base p A cap ps os m w.heap.size 0) := ⟨HB0.out, HS0.out, HT0.out, HR0.out, by omega, by rw [cutM_zero]; exact HM0.out⟩
  clear HB0 HS0 HT0 HM0 HR0 c1
  go_loopw [5, 6, 14] (fun _ _ q wr => ∃ i : Nat, i ≤ 3 ∧ q = .int .i64 i ∧ mayS os.length (m.k.take i) ∧ Jpw w wr base p A cap ps os m w.heap.size i) (fun _ _ q _ => 4 - (intOf q).toNat)
  case atStart => exact ⟨0, by omega, rfl, fun x hx => by simp at hx, HI.out⟩
  case round =>
    obtain ⟨i, hi, rfl, hms, hc⟩ := hrel
    clear HI
    have HI := Lib.hid hc
    have HMS := Lib.hid hms
    obtain ⟨hi', hmb⟩ := hc.msg
    have HM := Lib.hid hmb
    clear hc hms hmb
    by_cases hlt : i < 3
    · have d0 : decide ((i : Int) < 3) = true := decide_eq_true (by omega)
      have d1 : (i : Int) < 3 := by omega
      have HLT := Lib.hid hlt
      have hks : i < m.k.length := by rw [m.hk]; exact hlt
      have HKS := Lib.hid hks
      obtain ⟨y, hy⟩ : ∃ y, y = m.k[i] := ⟨_, rfl⟩
      have HY := Lib.hid hy
      have HY2 := Lib.hid (show m.k[i]? = some y by rw [hy]; exact List.getElem?_eq_getElem hks)
      obtain ⟨q, hq⟩ : ∃ q, cutM os m i hi' = q := ⟨_, rfl⟩
      have HSU : Hid (∃ h, q.ksAs (q.k.set i (prepd os y)) (by rw [List.length_set]; exact q.hk) = cutM os m (i + 1) h) := Lib.hid ⟨hlt, by subst hq; exact cutM_succ os m i hlt y HY2.out⟩
      rw [hq] at HM
      have HSE := Lib.hid (mg_key q i hlt (prepd os y))
      have HFT := Lib.hid (show 2 + i * 6 + (kl (prepd os y)).length ≤ q.cells.length by rw [kl_len, q.len]; omega)
      have hyk := kl_len y
      clear hlt hks hy hq
      by_cases hv : y.may os.length
      · have HV := Lib.hid hv
        clear hv
        go_wp2_with (first
          | (show wpList _ _ _ (Oper.mk (some 17) (.index _ _ _) _ _ _ _ :: _) _ _; refine wpList_yields (S := fun _ => True) (HY.out ▸ y_index3 (by rfl) (.tmp 13) (.tmp 14) (by rfl) m.k HMK.out i HKS.out (by rfl) (by rfl)) trivial ?_)
          | (go_at_call 37; refine (mh_yes (HI.out.st.alloc _) HN.out (HI.out.tab.alloc _) y HV.out).mono ?_; rintro e_ w2 ⟨rfl, b2⟩; have HS2 := Lib.hid ((HI.out.st.alloc (.cells (kl y).toArray 33)).below b2); have HT2 := Lib.hid ((HI.out.tab.alloc (.cells (kl y).toArray 33)).below b2); have HB2 := Lib.hid ((HI.out.bel.alloc HI.out.bel.size (.cells (kl y).toArray 33)).trans (b2.mono (Nat.le_trans HI.out.bel.size (by simp)))); have HG2 := Lib.hid ((Blk.new wr 33 (kl y).toArray).keep b2); have HM2 := Lib.hid ((HM.out.alloc (.cells (kl y).toArray 33)).keep b2); have HR2 := Lib.hid ((HI.out.res.alloc (.cells (kl y).toArray 33)).keep b2); obtain ⟨c0, c1, c2, c3, c4, c5⟩ := HG2.out.six; clear b2)
          | (go_at_call 17; refine (prep_at HS2.out HN.out HT2.out y).mono ?_; rintro e_ w3 ⟨rfl, b3⟩; have HS3 := Lib.hid (HS2.out.below b3); have HT3 := Lib.hid (HT2.out.below b3); have HB3 := Lib.hid (HB2.out.trans (b3.mono HB2.out.size)); have HM3 := Lib.hid (HM2.out.keep b3); have HR3 := Lib.hid (HR2.out.keep b3); clear b3 c0 c1 c2 c3 c4 c5)
          | (refine wpList_store_in HM3.out rfl (.tmp 26) (.tmp 24) (ty := 33) (l := kl (prepd os y)) (off := 2 + i * 6) (by rfl) (by rfl) (by rfl) size30 HFT.out (kl_one _) HSE.out ?_))
        go_roundw
        case rel =>
          obtain ⟨_, hsu⟩ := HSU.out
          refine ⟨i + 1, by have := HLT.out; omega, by go_num, mayS_snoc HKS.out HMS.out (HY.out ▸ HV.out), below_setRow HB3.out (Nat.le_refl _) _, HS3.out.keep fun k hk => setRow_other _ _ _ _ (fun e => HS3.out.blk_ne HM3.out (by decide) HNP.out (e ▸ hk)), HTW.out.below (below_setRow HB3.out (Nat.le_refl _) _), Blk.row_far HR3.out (by omega) _, HLT.out, ?_⟩
          rw [← hsu]
          exact HM3.out.setRow _
        case measure => simp [intOf]; omega
      · have HV := Lib.hid hv
        clear hv
        go_wp2_with (first
          | (show wpList _ _ _ (Oper.mk (some 17) (.index _ _ _) _ _ _ _ :: _) _ _; refine wpList_yields (S := fun _ => True) (HY.out ▸ y_index3 (by rfl) (.tmp 13) (.tmp 14) (by rfl) m.k HMK.out i HKS.out (by rfl) (by rfl)) trivial ?_)
          | (go_at_call 37; refine (mh_no (HI.out.st.alloc _) HN.out (HI.out.tab.alloc _) y HV.out).mono ?_; rintro e_ w2 ⟨rfl, b2⟩; have HB2 := Lib.hid ((HI.out.bel.alloc HI.out.bel.size (.cells (kl y).toArray 33)).trans (b2.mono (Nat.le_trans HI.out.bel.size (by simp)))); clear b2))
        exact ⟨rfl, .inr ⟨fun h => HV.out (HY.out ▸ h _ (List.getElem_mem HKS.out)), rfl⟩, HB2.out⟩
    · have hi3 : i = 3 := by omega
      subst hi3
      have d0 : decide ((3 : Int) < 3) = false := rfl
      rw [cutM_all] at HM
      have hcl := (cntM os m).len
      go_wp2_with (first
        | (show wpList _ _ _ (Oper.mk (some 28) (.load _ _) _ _ _ _ :: _) _ _; refine wpList_yields (S := fun w' => MgAt w' w.heap.size 0 (cntM os m)) (y_mg (by rfl) (.tmp 3) (by rfl) w.heap.size 0 (by rfl) (cntM os m) (fun _ h => h)) HM.out.mg ?_)
        | (show wpList _ _ _ (Oper.mk none (.store _ (.tmp 4) (.tmp 28)) _ _ _ _ :: _) _ _; refine wpList_store_big (l0 := mz.cells) (l := (cntM os m).cells) HI.out.res rfl (.tmp 4) (.tmp 28) (ty := 38) rfl (by rfl) (by rfl) (by rw [Mg.len]; exact sizeM) (by rw [Mg.len, Mg.len]) (Mg.one _) ?_))
      exact bodyPost_ret (res_1 rfl _ _ (w.heap.size + 1) _ rfl (load_mg (HI.out.res.setRow _))) rfl ⟨.inl ⟨by have h := HMS.out; rwa [List.take_of_length_le (by rw [m.hk]; exact Nat.le_refl _)] at h, rfl⟩, below_setRow HI.out.bel (by omega) _⟩
end
end Go.Proofs.YtljfddeolapeaaaDoor

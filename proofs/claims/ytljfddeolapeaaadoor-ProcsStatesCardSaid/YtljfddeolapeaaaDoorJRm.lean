/- the document's layer 13: May, counted. -/
import Derived.Test.YtljfddeolapeaaaDoorJRs
import Derived.Test.YtljfddeolapeaaaDoorJMh
import Derived.Test.YtljfddeolapeaaaDoorR15
namespace Go.Proofs.YtljfddeolapeaaaDoor
open Go.RowKit
attribute [local go_sem] Oper.semAt_some
section
variable {w : World} {A : Option Addr} {cap n : Nat} {l : List Oj}
/-- the first i keys may be -/
def mayI (n : Nat) (m : Mg) (i : Nat) : Prop := m.d.length ≤ 32 ∧ ∀ j y, j < i → m.k[j]? = some y → y.may n
set_option maxRecDepth 8000 in
theorem mayI_all {n : Nat} {m : Mg} : mayI n m 3 ↔ m.d.length ≤ 32 ∧ mayS n m.k := by
  constructor
  · rintro ⟨h1, h2⟩
    refine ⟨h1, fun x hx => ?_⟩
    obtain ⟨j, hj, rfl⟩ := List.mem_iff_getElem.1 hx
    exact h2 j _ (by rw [← m.hk]; exact hj) (List.getElem?_eq_getElem hj)
  · rintro ⟨h1, h2⟩
    exact ⟨h1, fun j y _ hy => h2 y (List.mem_of_getElem? hy)⟩
set_option maxRecDepth 100000 in
set_option maxHeartbeats 2000000 in
theorem rmayM_in (n cap : Nat) (A : Option Addr) (m : Mg) (w : World) : Calls Tryd.prog 56 #[.slice A n cap, m.val] w fun e w' => ((e = .returned (.bool true) ∧ mayI n m 3) ∨ (e = .returned (.bool false) ∧ ¬ mayI n m 3)) ∧ Below w.heap.size w w' := by
  have hml := m.len
  have hss := st_size m.d
  have HB0 := Lib.hid ((Below.refl w.heap.size w).alloc (Nat.le_refl _) (.cells m.cells.toArray 38))
  have HM0 := Lib.hid (Blk.new w 38 m.cells.toArray)
  have c1 := HM0.out.mg.data
  rw [Nat.zero_add] at c1
  have HI : Hid (∃ b : Bool, (.bool (decide ((m.d.length : Int) ≤ 32)) : Value) = .bool b ∧ (b = true ↔ mayI n m 0) ∧ Below w.heap.size w (w.alloc (.cells m.cells.toArray 38)) ∧ Blk (w.alloc (.cells m.cells.toArray 38)) w.heap.size 38 m.cells.toArray) := Lib.hid ⟨_, rfl, by
    rw [decide_eq_true_iff]
    exact ⟨fun h => ⟨by omega, fun j _ h => absurd h (Nat.not_lt_zero _)⟩, fun h => by have := h.1; omega⟩, HB0.out, HM0.out⟩
  clear HB0 HM0
  go_enter Tryd.func56, Tryd.ntmps56
  go_wp2
  clear c1
  go_loopw [5, 6] (fun v q wr => ∃ i : Nat, i ≤ 3 ∧ q = .int .i64 i ∧ ∃ b : Bool, v = .bool b ∧ (b = true ↔ mayI n m i) ∧ Below w.heap.size w wr ∧ Blk wr w.heap.size 38 m.cells.toArray) (fun _ q _ => 4 - (intOf q).toNat)
  case atStart => exact ⟨0, by omega, rfl, HI.out⟩
  case round =>
    obtain ⟨i, hi, rfl, b, rfl, hbi, hb, hm⟩ := hrel
    clear HI
    have HB := Lib.hid hb
    have HM := Lib.hid hm
    have HBI := Lib.hid hbi
    clear hb hm hbi
    by_cases hlt : i < 3
    · have d0 : decide ((i : Int) < 3) = true := decide_eq_true (by omega)
      have d1 : (i : Int) < 3 := by omega
      have HLT := Lib.hid hlt
      have hks : i < m.k.length := by rw [m.hk]; exact hlt
      obtain ⟨y, hy⟩ : ∃ y, m.k[i]? = some y := ⟨_, List.getElem?_eq_getElem hks⟩
      have HY := Lib.hid hy
      have HKY : Hid (KeyAt wr w.heap.size (2 + i * 6) y) := Lib.hid (by have := HM.out.mg.key hlt hy; rwa [Nat.zero_add] at this)
      have hsu : ∀ b' : Bool, (b' = true ↔ (b = true ∧ y.may n)) → (b' = true ↔ mayI n m (i + 1)) := fun b' h => by
        rw [h, HBI.out]
        constructor
        · rintro ⟨⟨q1, q2⟩, q3⟩
          refine ⟨q1, fun j z hj hz => ?_⟩
          by_cases hji : j = i
          · subst hji
            rw [HY.out] at hz
            injection hz with hz
            exact hz ▸ q3
          · exact q2 j z (by omega) hz
        · rintro ⟨q1, q2⟩
          exact ⟨⟨q1, fun j z hj hz => q2 j z (by omega) hz⟩, q2 i y (by omega) HY.out⟩
      have HSU := Lib.hid hsu
      clear hlt hks hy hsu
      cases b with
      | false =>
        go_wp2_with fail
        go_roundw
        case rel => exact ⟨i + 1, by have := HLT.out; omega, by go_num, false, rfl, HSU.out false (by simp), HB.out, HM.out⟩
        case measure => simp [intOf]; omega
      | true =>
        by_cases hv : y.may n
        · have HV := Lib.hid hv
          clear hv
          go_wp2_with (first
            | ((with_reducible show wpList _ _ _ (Oper.mk (some 21) (.load _ _) _ _ _ _ :: _) _ _); refine wpList_yields (S := fun w' => KeyAt w' w.heap.size (2 + i * 6) y) (y_kyJ (by rfl) (.tmp 20) (by rfl) w.heap.size (2 + i * 6) (by rfl) y (fun _ h => h)) HKY.out ?_)
            | (go_at_call 55; refine (rmay_y n cap A y HV.out _).mono ?_; rintro e w2 ⟨rfl, b2⟩; have HB2 := Lib.hid (HB.out.trans (b2.mono HB.out.size)); have HM2 := Lib.hid (HM.out.keep b2); clear b2))
          go_roundw
          case rel => exact ⟨i + 1, by have := HLT.out; omega, by go_num, true, rfl, HSU.out true (by simpa using HV.out), HB2.out, HM2.out⟩
          case measure => simp [intOf]; omega
        · have HV := Lib.hid hv
          clear hv
          go_wp2_with (first
            | ((with_reducible show wpList _ _ _ (Oper.mk (some 21) (.load _ _) _ _ _ _ :: _) _ _); refine wpList_yields (S := fun w' => KeyAt w' w.heap.size (2 + i * 6) y) (y_kyJ (by rfl) (.tmp 20) (by rfl) w.heap.size (2 + i * 6) (by rfl) y (fun _ h => h)) HKY.out ?_)
            | (go_at_call 55; refine (rmay_n n cap A y HV.out _).mono ?_; rintro e w2 ⟨rfl, b2⟩; have HB2 := Lib.hid (HB.out.trans (b2.mono HB.out.size)); have HM2 := Lib.hid (HM.out.keep b2); clear b2))
          go_roundw
          case rel => exact ⟨i + 1, by have := HLT.out; omega, by go_num, false, rfl, HSU.out false (by simpa using HV.out), HB2.out, HM2.out⟩
          case measure => simp [intOf]; omega
    · have hi3 : i = 3 := by omega
      subst hi3
      have d0 : decide ((3 : Int) < 3) = false := rfl
      go_wp2_with fail
      go_ret
      cases b with
      | true => exact ⟨.inl ⟨rfl, HBI.out.1 rfl⟩, HB.out⟩
      | false => exact ⟨.inr ⟨rfl, fun h => by have := HBI.out.2 h; cases this⟩, HB.out⟩
set_option maxRecDepth 8000 in
theorem rmayM_y (A : Option Addr) (cap n : Nat) (m : Mg) (h : m.d.length ≤ 32 ∧ mayS n m.k) : Calls Tryd.prog 56 #[.slice A n cap, m.val] w fun e w' => e = .returned (.bool true) ∧ Below w.heap.size w w' := by
  refine (rmayM_in n cap A m w).mono ?_
  rintro e w' ⟨⟨he, _⟩ | ⟨_, hn⟩, hb⟩
  · exact ⟨he, hb⟩
  · exact absurd (mayI_all.2 h) hn
set_option maxRecDepth 8000 in
theorem rmayM_n (A : Option Addr) (cap n : Nat) (m : Mg) (h : ¬ (m.d.length ≤ 32 ∧ mayS n m.k)) : Calls Tryd.prog 56 #[.slice A n cap, m.val] w fun e w' => e = .returned (.bool false) ∧ Below w.heap.size w w' := by
  refine (rmayM_in n cap A m w).mono ?_
  rintro e w' ⟨⟨_, hn⟩ | ⟨he, _⟩, hb⟩
  · exact absurd (mayI_all.1 hn) h
  · exact ⟨he, hb⟩
structure Jcw (w wr : World) (l : List Oj) (m : Mg) (g i : Nat) : Prop where
  bel : Below w.heap.size w wr
  res : Blk wr (g + 1) 38 mz.cells.toArray
  msg : ∃ h : i ≤ 3, Blk wr g 38 (cutM l m i h).cells.toArray
set_option maxRecDepth 100000 in
set_option maxHeartbeats 2000000 in
theorem rcntd (hr : RdO w A l) (hn : l.length = n) (hl : n ≤ 1000) (h0 : 0 < n) (m : Mg) : Calls Tryd.prog 57 #[.slice A n cap, m.val] w fun e w' => e = .returned (cntM l m).val ∧ Below w.heap.size w w' := by
  have hz := zM
  have hml := m.len
  have hzl := mz.len
  have HR := Lib.hid hr
  have HNN := Lib.hid hn
  have HLL := Lib.hid hl
  have H0 := Lib.hid h0
  have HB0 := Lib.hid (((Below.refl w.heap.size w).alloc (Nat.le_refl _) (.cells m.cells.toArray 38)).alloc (by simp) (.cells mz.cells.toArray 38))
  have HM0 := Lib.hid ((Blk.new w 38 m.cells.toArray).alloc (.cells mz.cells.toArray 38))
  have HR0 := Lib.hid (Blk.new_of (w.alloc (.cells m.cells.toArray 38)) 38 mz.cells.toArray (g := w.heap.size + 1) (by simp))
  have HI : Hid (Jcw w ((w.alloc (.cells m.cells.toArray 38)).alloc (.cells mz.cells.toArray 38)) l m w.heap.size 0) := ⟨HB0.out, HR0.out, by omega, by rw [cutM_zero]; exact HM0.out⟩
  clear hr hn hl h0 HB0 HM0 HR0
  go_enter Tryd.func57, Tryd.ntmps57
  go_wp2_with fail
  go_loopw [5] (fun q wr => ∃ i : Nat, i ≤ 3 ∧ q = .int .i64 i ∧ Jcw w wr l m w.heap.size i) (fun q _ => 4 - (intOf q).toNat)
  case atStart => exact ⟨0, by omega, rfl, HI.out⟩
  case round =>
    obtain ⟨i, hi, rfl, hc⟩ := hrel
    clear HI
    have HI := Lib.hid hc
    obtain ⟨hi', hmb⟩ := hc.msg
    have HM := Lib.hid hmb
    clear hc hmb
    by_cases hlt : i < 3
    · have d0 : decide ((i : Int) < 3) = true := decide_eq_true (by omega)
      have d1 : (i : Int) < 3 := by omega
      have HLT := Lib.hid hlt
      have hks : i < m.k.length := by rw [m.hk]; exact hlt
      obtain ⟨y, hy⟩ : ∃ y, m.k[i]? = some y := ⟨_, List.getElem?_eq_getElem hks⟩
      have HY := Lib.hid hy
      obtain ⟨q, hq⟩ : ∃ q, cutM l m i hi' = q := ⟨_, rfl⟩
      have HSU : Hid (∃ h, q.ksAs (q.k.set i (prepd l y)) (by rw [List.length_set]; exact q.hk) = cutM l m (i + 1) h) := Lib.hid ⟨hlt, by subst hq; exact cutM_succ l m i hlt y hy⟩
      have HQK : q.k[i]? = some y := by subst hq; exact cutM_key l m i hlt y hy
      rw [hq] at HM
      have HSE := Lib.hid (mg_key q i hlt (prepd l y))
      have HFT := Lib.hid (show 2 + i * 6 + (kl (prepd l y)).length ≤ q.cells.length by rw [kl_len, q.len]; omega)
      have HKY : Hid (KeyAt wr w.heap.size (2 + i * 6) y) := Lib.hid (by have := HM.out.mg.key hlt HQK; rwa [Nat.zero_add] at this)
      have hyk := kl_len y
      clear hlt hks hy hq HQK
      go_wp2_with (first
        | ((with_reducible show wpList _ _ _ (Oper.mk (some 15) (.load _ _) _ _ _ _ :: _) _ _); refine wpList_yields (S := fun w' => KeyAt w' w.heap.size (2 + i * 6) y) (y_kyJ (by rfl) (.tmp 14) (by rfl) w.heap.size (2 + i * 6) (by rfl) y (fun _ h => h)) HKY.out ?_)
        | (go_at_call 82; refine (rprep_n (HR.out.below HI.out.bel) HNN.out HLL.out H0.out y rfl).mono ?_; rintro e_ w3 ⟨rfl, b3⟩; have HB3 := Lib.hid (HI.out.bel.trans (b3.mono HI.out.bel.size)); have HM3 := Lib.hid (HM.out.keep b3); have HR3 := Lib.hid (HI.out.res.keep b3); clear b3)
        | (refine wpList_store_in HM3.out rfl (.tmp 18) (.tmp 16) (ty := 33) (l := kl (prepd l y)) (off := 2 + i * 6) (by rfl) (by rfl) (by rfl) size30 HFT.out (kl_one _) HSE.out ?_))
      go_roundw
      case rel =>
        obtain ⟨_, hsu⟩ := HSU.out
        refine ⟨i + 1, by have := HLT.out; omega, by go_num, below_setRow HB3.out (Nat.le_refl _) _, Blk.row_far (b := w.heap.size) HR3.out (by omega) _, HLT.out, ?_⟩
        rw [← hsu]
        exact HM3.out.setRow _
      case measure => simp [intOf]; omega
    · have hi3 : i = 3 := by omega
      subst hi3
      have d0 : decide ((3 : Int) < 3) = false := rfl
      rw [cutM_all] at HM
      have hcl := (cntM l m).len
      go_wp2_with (first
        | ((with_reducible show wpList _ _ _ (Oper.mk (some 19) (.load _ _) _ _ _ _ :: _) _ _); refine wpList_yields (S := fun w' => MgAt w' w.heap.size 0 (cntM l m)) (y_mg (by rfl) (.tmp 3) (by rfl) w.heap.size 0 (by rfl) (cntM l m) (fun _ h => h)) HM.out.mg ?_)
        | ((with_reducible show wpList _ _ _ (Oper.mk none (.store _ (.tmp 4) (.tmp 19)) _ _ _ _ :: _) _ _); refine wpList_store_big (l0 := mz.cells) (l := (cntM l m).cells) HI.out.res rfl (.tmp 4) (.tmp 19) (ty := 38) rfl (by rfl) (by rfl) (by rw [Mg.len]; exact sizeM) (by rw [Mg.len, Mg.len]) (Mg.one _) ?_))
      exact bodyPost_ret (res_1 rfl _ _ (w.heap.size + 1) _ rfl (load_mg (HI.out.res.setRow _))) rfl ⟨rfl, below_setRow HI.out.bel (by omega) _⟩
end
end Go.Proofs.YtljfddeolapeaaaDoor

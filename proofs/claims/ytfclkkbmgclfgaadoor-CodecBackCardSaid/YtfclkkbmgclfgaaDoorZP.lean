/- codec: Put's own. -/
import Derived.Test.YtfclkkbmgclfgaaDoorCXw
import Derived.Test.YtfclkkbmgclfgaaDoorZI
import Derived.Test.YtfclkkbmgclfgaaDoorORchk
import Derived.Test.YtfclkkbmgclfgaaDoorZT
import Derived.Test.YtfclkkbmgclfgaaDoorCXr
import Derived.Test.YtfclkkbmgclfgaaDoorZX
namespace Go.Proofs.YtfclkkbmgclfgaaDoor
open Go.RowKit
def z512 : List UInt8 := List.replicate 512 0
def z508 : List UInt8 := List.replicate 508 0
/-- a sector -/
abbrev sv (l : List UInt8) : Value := .agg (bv l).toArray
set_option maxRecDepth 8000 in
theorem zero45 : (Tryd.prog.info? 44).map (fun i => (i.zero, i.size)) = some (some (sv z512), 512) := by kernel_rfl
theorem z45 (w : World) : (zeroValue 44).run Tryd.prog w = .ok (sv z512) w := (zero_of_info zero45).1 w
set_option maxRecDepth 8000 in
theorem zero89 : (Tryd.prog.info? 67).map (fun i => (i.zero, i.size)) = some (some (sv z508), 508) := by kernel_rfl
theorem z89 (w : World) : (zeroValue 67).run Tryd.prog w = .ok (sv z508) w := (zero_of_info zero89).1 w
set_option maxRecDepth 8000 in
theorem size45 : (Tryd.prog.info? 44).map (·.size) = some 512 := by kernel_rfl
theorem bv_all (l : List UInt8) : (bv l).toArray.all (·.oneCell') = true := all_oneCell_toArray (bv_one l)
theorem load_sec {w : World} {g : Nat} {t : TypeId} (l : List UInt8) (hl : l.length = 512) (h : Blk w g t (bv l).toArray) : (loadVar 44 ⟨g, 0, none⟩).run Tryd.prog w = .ok (sv l) w :=
  run_loadVar_row w g t 44 (bv l).toArray (0, 0) _ h Tryd.underlying44 rfl (by rw [List.size_toArray, bv_length, hl]; exact size45)
set_option maxRecDepth 8000 in
theorem ofit_of {u : Oj} {n : Int} (h : u.ok n) (hv : ∀ x ∈ u.s, -9223372036854775808 ≤ x.v ∧ x.v ≤ 9223372036854775807) : u.fit := by
  obtain ⟨_, hc, hl, hh⟩ := h
  have hzf : ∀ x ∈ zks, x.ok := fun x hx => by rw [(List.mem_replicate.1 hx).2]; exact zk_ok
  refine ⟨?_, by omega, by omega, fun x hx => ?_⟩
  · rcases hh with h | h | h
    · omega
    · omega
    · rcases h.1 with h | h <;> omega
  · refine fit_of ?_ (hv x hx).1 (hv x hx).2
    rcases hh with h | h | h
    · exact (h.2 x hx).1
    · exact hzf x (h.2.2 ▸ hx)
    · exact hzf x (h.2.2.2 ▸ hx)
set_option maxRecDepth 8000 in
theorem rd_range {w : World} {D off : Nat} {l : List UInt8} (h : Rd w (some ⟨D, off, none⟩) l) : w.rangeAt D off (bv l) := by
  intro j v hv
  rw [bv_get] at hv
  cases hl : l[j]? with
  | none => rw [hl] at hv; cases hv
  | some y =>
    obtain ⟨hj, rfl⟩ := List.getElem?_eq_some_iff.1 hl
    obtain ⟨b', o', e, hc⟩ := h j hj
    injection e with e
    injection e with e1 e2
    subst e1; subst e2
    rw [hc, ← hv, hl]
    rfl
set_option maxRecDepth 8000 in
theorem at45 (D cp : Nat) (W : World) : (Instr.arrayAt 44 (.slice (some ⟨D, 0, none⟩) 512 cp)).run Tryd.prog W = .ok (.pointer (some ⟨D, 0, none⟩)) W := by kernel_rfl
theorem y_sec {ops : Array Oper} {o : Oper} {a : Act} {S : World → Prop} (hw : Region.wanted o (yielded ops a.tmps) = true) (x : Operand) (ho : o.op = .load 44 x) (g off : Nat) (hx : a.eval x = .pointer (some ⟨g, off, none⟩)) (l : List UInt8) (hl : l.length = 512) (hS : ∀ w, S w → w.rangeAt g off (bv l)) : YieldsIf Tryd.prog ops S o (sv l) a :=
  yieldsIf_load_mid hw 44 x ho g off hx (bv l) _ hS Tryd.underlying44 rfl (by rw [bv_length, hl]; exact size45)
set_option maxRecDepth 8000 in
theorem sealed_len (u : Oj) : (sealN (obs u)).length = 512 := by rw [sealN_length, obs_length]
set_option maxRecDepth 8000 in
set_option maxHeartbeats 400000 in
theorem put1_no (P Q : Nat) (u : Oj) (n : Int) (w : World) (hT : Tab w) (hP : Blk w P obt u.cells.toArray) (hQ : Blk w Q 3 #[.int .i64 n]) (h : ¬ u.ok n) :
    Calls Tryd.prog 18 #[.pointer (some ⟨P, 0, none⟩), .pointer (some ⟨Q, 0, none⟩)] w fun e w' => e = .panicked (erc 2) ∧ Below w.heap.size w w' := by
  have hz := z45
  have HT := Lib.hid (hT.alloc (.cells (bv z512).toArray 44))
  have HP := Lib.hid (Blk.alloc hP (.cells (bv z512).toArray 44))
  have HB := Lib.hid ((Below.refl w.heap.size w).alloc (Nat.le_refl _) (.cells (bv z512).toArray 44))
  have hq : (w.alloc (.cells (bv z512).toArray 44)).cell? ⟨Q, 0, none⟩ = some (.int .i64 n) := by simpa using Blk.cell (Blk.alloc hQ (.cells (bv z512).toArray 44)) 0
  have HC := Lib.hid (Oj.chk_no h)
  clear hT hP hQ h
  go_enter Tryd.func18, Tryd.ntmps18
  go_wp2_with (first
    | (refine wpList_yields (S := fun w' => ObAt w' P 0 u) (y_ob (by rfl) (.tmp 0) (by rfl) P 0 (by rfl) u (fun _ h => h)) (Blk.ob HP.out) ?_)
    | (go_at_call 19; refine (check_any u n _ HT.out).mono ?_; rw [HC.out]; rintro e w1 ⟨rfl, hb⟩; have B1 := Lib.hid (HB.out.trans (hb.mono HB.out.size)); clear hb)
    | (go_at_call 12; refine (must_no 2 2 (by decide) _).mono ?_; rintro e w3 ⟨rfl, rfl⟩))
  exact ⟨rfl, rfl, B1.out⟩
set_option maxRecDepth 8000 in
set_option maxHeartbeats 1000000 in
theorem put1_yes (P Q : Nat) (u : Oj) (n : Int) (w : World) (hT : Tab w) (hP : Blk w P obt u.cells.toArray) (hQ : Blk w Q 3 #[.int .i64 n]) (h : u.ok n) (hf : u.fit) :
    Calls Tryd.prog 18 #[.pointer (some ⟨P, 0, none⟩), .pointer (some ⟨Q, 0, none⟩)] w fun e w' => e = .returned (sv (sealN (obs u))) ∧ Below w.heap.size w w' := by
  have hz := z45
  have hz2 := z89
  have h45 := at45
  have HA := Lib.hid (show (Tryd.prog.info? 44).map (·.size) = some (bv (sealN (obs u))).toArray.size by rw [List.size_toArray, bv_length, sealed_len]; exact size45)
  have HO := Lib.hid (show (bv z512).toArray.size = (bv (sealN (obs u))).toArray.size by rw [List.size_toArray, List.size_toArray, bv_length, bv_length, sealed_len]; rfl)
  have HT := Lib.hid (hT.alloc (.cells (bv z512).toArray 44))
  have HP := Lib.hid (Blk.alloc hP (.cells (bv z512).toArray 44))
  have HR := Lib.hid (Blk.new w 44 (bv z512).toArray)
  have HB := Lib.hid ((Below.refl w.heap.size w).alloc (Nat.le_refl _) (.cells (bv z512).toArray 44))
  have hq : (w.alloc (.cells (bv z512).toArray 44)).cell? ⟨Q, 0, none⟩ = some (.int .i64 n) := by simpa using Blk.cell (Blk.alloc hQ (.cells (bv z512).toArray 44)) 0
  have HC := Lib.hid (Oj.chk_yes h)
  have HF := Lib.hid hf
  clear hT hP hQ h hf
  go_enter Tryd.func18, Tryd.ntmps18
  go_wp2_with (first
    | (refine wpList_yields (S := fun w' => ObAt w' P 0 u) (y_ob (by rfl) (.tmp 0) (by rfl) P 0 (by rfl) u (fun _ h => h)) (Blk.ob HP.out) ?_)
    | (go_at_call 19; refine (check_any u n _ HT.out).mono ?_; rw [HC.out]; rintro e w1 ⟨rfl, hb⟩; have B1 := Lib.hid (HB.out.trans (hb.mono HB.out.size)); have P1 := Lib.hid (Blk.keep HP.out hb); have R1 := Lib.hid (Blk.keep HR.out hb); clear hb hq)
    | (go_at_call 12; refine (must_ok 2 _).mono ?_; rintro e w3 ⟨rfl, rfl⟩)
    | (go_at_call 20; have hlP := Blk.lt P1.out; have hsz := B1.out.size; refine (passObject_w (w1.heap.size + 1) w1.heap.size P 67 508 [] u HF.out _ (WrAt.new w1 67 508) ((Blk.alloc P1.out _).alloc _) (by decide) (by omega) (by omega)).mono ?_; rintro e w2 ⟨rfl, h1, h2, h3⟩; have hf1 := (((Fr.refl (fun j => j = w1.heap.size + 1 ∨ j = w1.heap.size ∨ j = P) w1).alloc (.cells (bv z508).toArray 67)).alloc (.cells #[.slice (some ⟨w1.heap.size, 0, none⟩) 508 508] 58)).trans h3; have hb2 := fr_below hf1 (Nat.le_refl _) (fun j hj hs => (by obtain rfl : j = P := (by omega); exact h2.trans P1.out.symm)); have R2 := Lib.hid (Blk.keep R1.out hb2); have B2 := Lib.hid (B1.out.trans (hb2.mono B1.out.size)); have hbk := h1.blk; rw [List.nil_append, show 508 - (obs u).length = 0 by rw [obs_length], List.replicate_zero, List.append_nil] at hbk; have D2 := Lib.hid (rd_blk hbk); clear h1 h2 h3 hf1 hb2 hbk)
    | (go_at_call 21; refine (seal_any _ 508 _ (obs u) _ (obs_length u) D2.out (by decide)).mono ?_; rintro e w4 ⟨v, rfl, ho, hb⟩; obtain ⟨D, cp, rfl, hcp, -, hDl, hrd, cur, hcur, hcl⟩ := own_cell (by decide) ho; have B4 := Lib.hid (B2.out.trans (hb.mono B2.out.size)); have R4 := Lib.hid (Blk.keep R2.out hb); have D4 := Lib.hid hrd; clear ho hb hrd hcur hcl)
    | (refine wpList_yields (S := fun w' => w'.rangeAt D 0 (bv (sealN (obs u)))) (y_sec (by rfl) (.tmp 16) (by rfl) D 0 (by rfl) _ (sealed_len u) (fun _ h => h)) (rd_range D4.out) ?_)
    | (refine wpList_store_row rfl 44 (.tmp 2) (.tmp 17) rfl w.heap.size (bv (sealN (obs u))).toArray rfl rfl 44 (bv z512).toArray R4.out HA.out HO.out (bv_all _) ?_))
  have h4 := setRow_heap w4 w.heap.size (bv z512).toArray (bv (sealN (obs u))).toArray 44 (0, 0) R4.out
  have h5 : Below w.heap.size w (w4.setRow w.heap.size (bv (sealN (obs u))).toArray) := B4.out.trans (below_lt (setRow_fr w4 _ _) B4.out.size (fun j hj => by omega))
  exact bodyPost_ret (res_1 rfl _ _ w.heap.size _ rfl (load_sec _ (sealed_len u) h4)) rfl ⟨rfl, h5⟩
end Go.Proofs.YtfclkkbmgclfgaaDoor
namespace Go.Proofs.YtfclkkbmgclfgaaDoor
open Go.RowKit
/-- a sector's sum is right -/
def sumok (l : List UInt8) : Prop := numLE (l.drop 508) = crcN (l.take 508)
theorem sealed512_no (A : Option Addr) (c : Nat) (l : List UInt8) (w : World) (hn : l.length = 512) (hc : 512 ≤ c) (hr : Rd w A l) (h : ¬ sumok l) :
    Calls Tryd.prog 24 #[.slice A 512 c] w fun e w' => e = .returned (.tuple #[.slice none 0 0, .bool false]) ∧ Below w.heap.size w w' :=
  sealed_not A 508 c l w hn hc hr (by decide) (by
    have : numLE (l.drop 508) ≠ crcN (l.take 508) := h
    simp
    omega)
theorem sealed512_yes (A : Option Addr) (c : Nat) (l : List UInt8) (w : World) (hn : l.length = 512) (hc : 512 ≤ c) (hr : Rd w A l) (h : sumok l) :
    Calls Tryd.prog 24 #[.slice A 512 c] w fun e w' => ∃ v, e = .returned (.tuple #[v, .bool true]) ∧ w'.ownsRow w.heap.size 5 1 v 508 (bv (l.take 508)) ∧ Below w.heap.size w w' :=
  sealed_yes A 508 c l w hn hc hr (by decide) (by
    have : numLE (l.drop 508) = crcN (l.take 508) := h
    simp
    omega)
set_option maxRecDepth 8000 in
theorem RdAt.new (w : World) (D cp : Nat) (l : List UInt8) (hr : Rd w (some ⟨D, 0, none⟩) l) (hl : l.length = 508) (hc : 508 ≤ cp) (hD : D < w.heap.size) :
    RdAt ((w.alloc (.cells oz.cells.toArray obt)).alloc (.cells #[.slice (some ⟨D, 0, none⟩) 508 cp] 63)) (w.heap.size + 1) D l := by
  refine ⟨⟨some ⟨D, 0, none⟩, cp, ?_, by omega, (hr.alloc _).alloc _, fun a e _ => by injection e with e; rw [← e]⟩, by omega, by simp; omega⟩
  rw [hl]
  exact Blk.new_of (w.alloc (.cells oz.cells.toArray obt)) 63 #[.slice (some ⟨D, 0, none⟩) 508 cp] (by simp)
set_option maxRecDepth 8000 in
theorem oz_ok {n : Int} : oz.ok n ↔ 1 ≤ n ∧ n ≤ 64 := by
  constructor
  · exact fun h => h.1
  · exact fun h => ⟨h, ⟨by decide, by decide⟩, ⟨by decide, by decide⟩, .inr (.inr ⟨.inl rfl, rfl, rfl, rfl⟩)⟩
theorem load_ob {w : World} {g : Nat} {t : TypeId} (u : Oj) (h : Blk w g t u.cells.toArray) : (loadVar obt ⟨g, 0, none⟩).run Tryd.prog w = .ok u.val w :=
  run_loadVar_row w g t obt u.cells.toArray (0, 0) _ h Tryd.underlying30 rfl (by rw [List.size_toArray, u.len]; exact size34)
set_option maxRecDepth 8000 in
set_option maxHeartbeats 1000000 in
theorem get1_n (Q P : Nat) (n : Int) (l : List UInt8) (hl : l.length = 512) (w : World) (hT : Tab w) (hQ : Blk w Q 3 #[.int .i64 n]) (hP : Blk w P 44 (bv l).toArray) (h : ¬ (1 ≤ n ∧ n ≤ 64)) :
    Calls Tryd.prog 23 #[.pointer (some ⟨Q, 0, none⟩), .pointer (some ⟨P, 0, none⟩)] w fun e w' => e = .panicked (erc 2) ∧ Below w.heap.size w w' := by
  have hz := z34
  have hbl := oz_len
  have HT := Lib.hid (hT.alloc (.cells oz.cells.toArray obt))
  have HP := Lib.hid (Blk.alloc hP (.cells oz.cells.toArray obt))
  have HQ := Lib.hid (Blk.alloc hQ (.cells oz.cells.toArray obt))
  have HR := Lib.hid (Blk.new w obt oz.cells.toArray)
  have HB := Lib.hid ((Below.refl w.heap.size w).alloc (Nat.le_refl _) (.cells oz.cells.toArray obt))
  have hq : (w.alloc (.cells oz.cells.toArray obt)).cell? ⟨Q, 0, none⟩ = some (.int .i64 n) := by simpa using Blk.cell HQ.out 0
  have HL := Lib.hid hl
  have M1 := Lib.hid True.intro
  have M2 := Lib.hid True.intro
  have HC := Lib.hid (Oj.chk_no (fun h' => h (oz_ok.1 h')))
  clear hT hQ hP hl h
  go_enter Tryd.func23, Tryd.ntmps23
  go_wp2_with (first
    | (refine wpList_yields (S := fun _ => True) (y_build (by rfl) (by rfl) built34) trivial ?_)
    | (go_at_call 19; clear M1; refine (check_any oz n _ HT.out).mono ?_; rw [HC.out]; rintro e w1 ⟨rfl, hb⟩; have B1 := Lib.hid (HB.out.trans (hb.mono HB.out.size)); have P1 := Lib.hid (Blk.keep HP.out hb); have Q1 := Lib.hid (Blk.keep HQ.out hb); have R1 := Lib.hid (Blk.keep HR.out hb); have T1 := Lib.hid (HT.out.below hb); clear hb hq)
    | (go_at_call 12; refine (must_no 2 2 (by decide) _).mono ?_; rintro e w3 ⟨rfl, rfl⟩))
  have _x := And.intro P1.out (And.intro Q1.out (And.intro R1.out (And.intro T1.out M2.out)))
  exact ⟨rfl, rfl, B1.out⟩
set_option maxRecDepth 8000 in
set_option maxHeartbeats 1000000 in
theorem get1_s (Q P : Nat) (n : Int) (l : List UInt8) (hl : l.length = 512) (w : World) (hT : Tab w) (hQ : Blk w Q 3 #[.int .i64 n]) (hP : Blk w P 44 (bv l).toArray) (hn : 1 ≤ n ∧ n ≤ 64) (h : ¬ sumok l) :
    Calls Tryd.prog 23 #[.pointer (some ⟨Q, 0, none⟩), .pointer (some ⟨P, 0, none⟩)] w fun e w' => e = .panicked (erc 150) ∧ Below w.heap.size w w' := by
  have hz := z34
  have hbl := oz_len
  have HT := Lib.hid (hT.alloc (.cells oz.cells.toArray obt))
  have HP := Lib.hid (Blk.alloc hP (.cells oz.cells.toArray obt))
  have HQ := Lib.hid (Blk.alloc hQ (.cells oz.cells.toArray obt))
  have HR := Lib.hid (Blk.new w obt oz.cells.toArray)
  have HB := Lib.hid ((Below.refl w.heap.size w).alloc (Nat.le_refl _) (.cells oz.cells.toArray obt))
  have hq : (w.alloc (.cells oz.cells.toArray obt)).cell? ⟨Q, 0, none⟩ = some (.int .i64 n) := by simpa using Blk.cell HQ.out 0
  have HL := Lib.hid hl
  have M1 := Lib.hid True.intro
  have M2 := Lib.hid True.intro
  have HC := Lib.hid (Oj.chk_yes (oz_ok.2 hn))
  have HS := Lib.hid h
  clear hT hQ hP hl h hn
  go_enter Tryd.func23, Tryd.ntmps23
  go_wp2_with (first
    | (refine wpList_yields (S := fun _ => True) (y_build (by rfl) (by rfl) built34) trivial ?_)
    | (go_at_call 19; clear M1; refine (check_any oz n _ HT.out).mono ?_; rw [HC.out]; rintro e w1 ⟨rfl, hb⟩; have B1 := Lib.hid (HB.out.trans (hb.mono HB.out.size)); have P1 := Lib.hid (Blk.keep HP.out hb); have Q1 := Lib.hid (Blk.keep HQ.out hb); have R1 := Lib.hid (Blk.keep HR.out hb); have T1 := Lib.hid (HT.out.below hb); clear hb hq)
    | (go_at_call 12; clear M2; refine (must_ok 2 _).mono ?_; rintro e w3 ⟨rfl, rfl⟩)
    | (go_at_call 24; refine (sealed512_no _ _ l _ HL.out (by decide) (rd_blk P1.out) HS.out).mono ?_; rintro e w2 ⟨rfl, hb⟩))
  exact ⟨rfl, rfl, B1.out.trans (hb.mono B1.out.size)⟩
set_option maxRecDepth 8000 in
set_option maxHeartbeats 1000000 in
theorem get1_1 (Q P : Nat) (n : Int) (l : List UInt8) (hl : l.length = 512) (w : World) (hT : Tab w) (hQ : Blk w Q 3 #[.int .i64 n]) (hP : Blk w P 44 (bv l).toArray) (hn : 1 ≤ n ∧ n ≤ 64) (h : sumok l) (h1 : ¬ nou (((l.take 508).drop 1).take 3)) :
    Calls Tryd.prog 23 #[.pointer (some ⟨Q, 0, none⟩), .pointer (some ⟨P, 0, none⟩)] w fun e w' => e = .panicked (erc 151) ∧ Below w.heap.size w w' := by
  have hz := z34
  have hbl := oz_len
  have HT := Lib.hid (hT.alloc (.cells oz.cells.toArray obt))
  have HP := Lib.hid (Blk.alloc hP (.cells oz.cells.toArray obt))
  have HQ := Lib.hid (Blk.alloc hQ (.cells oz.cells.toArray obt))
  have HR := Lib.hid (Blk.new w obt oz.cells.toArray)
  have HB := Lib.hid ((Below.refl w.heap.size w).alloc (Nat.le_refl _) (.cells oz.cells.toArray obt))
  have hq : (w.alloc (.cells oz.cells.toArray obt)).cell? ⟨Q, 0, none⟩ = some (.int .i64 n) := by simpa using Blk.cell HQ.out 0
  have HL := Lib.hid hl
  have M1 := Lib.hid True.intro
  have M2 := Lib.hid True.intro
  have HC := Lib.hid (Oj.chk_yes (oz_ok.2 hn))
  have HS := Lib.hid h
  have HN := Lib.hid h1
  clear hT hQ hP hl h hn h1
  go_enter Tryd.func23, Tryd.ntmps23
  go_wp2_with (first
    | (refine wpList_yields (S := fun _ => True) (y_build (by rfl) (by rfl) built34) trivial ?_)
    | (go_at_call 19; clear M1; refine (check_any oz n _ HT.out).mono ?_; rw [HC.out]; rintro e w1 ⟨rfl, hb⟩; have B1 := Lib.hid (HB.out.trans (hb.mono HB.out.size)); have P1 := Lib.hid (Blk.keep HP.out hb); have Q1 := Lib.hid (Blk.keep HQ.out hb); have R1 := Lib.hid (Blk.keep HR.out hb); have T1 := Lib.hid (HT.out.below hb); clear hb hq)
    | (go_at_call 12; clear M2; refine (must_ok 2 _).mono ?_; rintro e w3 ⟨rfl, rfl⟩)
    | (go_at_call 24; refine (sealed512_yes _ _ l _ HL.out (by decide) (rd_blk P1.out) HS.out).mono ?_; rintro e w2 ⟨v, rfl, ho, hb⟩; obtain ⟨D, cp, rfl, hcp, hD0, hDl, hrd, -⟩ := own_cell (by decide) ho; have B2 := Lib.hid (B1.out.trans (hb.mono B1.out.size)); have Q2 := Lib.hid (Blk.keep Q1.out hb); have R2 := Lib.hid (Blk.keep R1.out hb); have T2 := Lib.hid (T1.out.below hb); have D2 := Lib.hid (RdAt.new w2 D cp (l.take 508) hrd (by rw [List.length_take, HL.out]; rfl) hcp hDl); have L2 := Lib.hid hDl; have L3 := Lib.hid (show (l.take 508).length = 508 by rw [List.length_take, HL.out]; rfl); clear ho hb hrd)
    | (go_at_call 20; have hDl := L2.out; refine (passObject_no1 (w2.heap.size + 1) D w2.heap.size (l.take 508) _ D2.out (Blk.alloc (Blk.new w2 obt oz.cells.toArray) _) L3.out HN.out (by omega) (by omega)).mono ?_; rintro e w4 ⟨rfl, hf⟩; have hf1 := (((Fr.refl (fun j => j = w2.heap.size + 1 ∨ j = w2.heap.size) w2).alloc (.cells oz.cells.toArray obt)).alloc (.cells #[.slice (some ⟨D, 0, none⟩) 508 cp] 63)).trans hf; have hb4 := below_lt hf1 (Nat.le_refl _) (fun j hj => by omega); have B4 := Lib.hid (B2.out.trans (hb4.mono B2.out.size)); clear hf hf1 hb4))
  exact ⟨rfl, rfl, B4.out⟩
set_option maxRecDepth 8000 in
set_option maxHeartbeats 1000000 in
theorem get1_2 (Q P : Nat) (n : Int) (l : List UInt8) (hl : l.length = 512) (w : World) (hT : Tab w) (hQ : Blk w Q 3 #[.int .i64 n]) (hP : Blk w P 44 (bv l).toArray) (hn : 1 ≤ n ∧ n ≤ 64) (h : sumok l) (h1 : nou (((l.take 508).drop 1).take 3)) (h2 : ¬ nou (((l.take 508).drop 396).take 112)) :
    Calls Tryd.prog 23 #[.pointer (some ⟨Q, 0, none⟩), .pointer (some ⟨P, 0, none⟩)] w fun e w' => e = .panicked (erc 151) ∧ Below w.heap.size w w' := by
  have hz := z34
  have hbl := oz_len
  have HT := Lib.hid (hT.alloc (.cells oz.cells.toArray obt))
  have HP := Lib.hid (Blk.alloc hP (.cells oz.cells.toArray obt))
  have HQ := Lib.hid (Blk.alloc hQ (.cells oz.cells.toArray obt))
  have HR := Lib.hid (Blk.new w obt oz.cells.toArray)
  have HB := Lib.hid ((Below.refl w.heap.size w).alloc (Nat.le_refl _) (.cells oz.cells.toArray obt))
  have hq : (w.alloc (.cells oz.cells.toArray obt)).cell? ⟨Q, 0, none⟩ = some (.int .i64 n) := by simpa using Blk.cell HQ.out 0
  have HL := Lib.hid hl
  have M1 := Lib.hid True.intro
  have M2 := Lib.hid True.intro
  have HC := Lib.hid (Oj.chk_yes (oz_ok.2 hn))
  have HS := Lib.hid h
  have HN := Lib.hid (And.intro h1 h2)
  clear hT hQ hP hl h hn h1 h2
  go_enter Tryd.func23, Tryd.ntmps23
  go_wp2_with (first
    | (refine wpList_yields (S := fun _ => True) (y_build (by rfl) (by rfl) built34) trivial ?_)
    | (go_at_call 19; clear M1; refine (check_any oz n _ HT.out).mono ?_; rw [HC.out]; rintro e w1 ⟨rfl, hb⟩; have B1 := Lib.hid (HB.out.trans (hb.mono HB.out.size)); have P1 := Lib.hid (Blk.keep HP.out hb); have Q1 := Lib.hid (Blk.keep HQ.out hb); have R1 := Lib.hid (Blk.keep HR.out hb); have T1 := Lib.hid (HT.out.below hb); clear hb hq)
    | (go_at_call 12; clear M2; refine (must_ok 2 _).mono ?_; rintro e w3 ⟨rfl, rfl⟩)
    | (go_at_call 24; refine (sealed512_yes _ _ l _ HL.out (by decide) (rd_blk P1.out) HS.out).mono ?_; rintro e w2 ⟨v, rfl, ho, hb⟩; obtain ⟨D, cp, rfl, hcp, hD0, hDl, hrd, -⟩ := own_cell (by decide) ho; have B2 := Lib.hid (B1.out.trans (hb.mono B1.out.size)); have Q2 := Lib.hid (Blk.keep Q1.out hb); have R2 := Lib.hid (Blk.keep R1.out hb); have T2 := Lib.hid (T1.out.below hb); have D2 := Lib.hid (RdAt.new w2 D cp (l.take 508) hrd (by rw [List.length_take, HL.out]; rfl) hcp hDl); have L2 := Lib.hid hDl; have L3 := Lib.hid (show (l.take 508).length = 508 by rw [List.length_take, HL.out]; rfl); clear ho hb hrd)
    | (go_at_call 20; have hDl := L2.out; refine (passObject_no2 (w2.heap.size + 1) D w2.heap.size (l.take 508) _ D2.out (Blk.alloc (Blk.new w2 obt oz.cells.toArray) _) L3.out HN.out.1 HN.out.2 (by omega) (by omega)).mono ?_; rintro e w4 ⟨rfl, hf⟩; have hf1 := (((Fr.refl (fun j => j = w2.heap.size + 1 ∨ j = w2.heap.size) w2).alloc (.cells oz.cells.toArray obt)).alloc (.cells #[.slice (some ⟨D, 0, none⟩) 508 cp] 63)).trans hf; have hb4 := below_lt hf1 (Nat.le_refl _) (fun j hj => by omega); have B4 := Lib.hid (B2.out.trans (hb4.mono B2.out.size)); clear hf hf1 hb4))
  exact ⟨rfl, rfl, B4.out⟩
set_option maxRecDepth 8000 in
set_option maxHeartbeats 1000000 in
theorem get1_c (Q P : Nat) (n : Int) (l : List UInt8) (hl : l.length = 512) (w : World) (hT : Tab w) (hQ : Blk w Q 3 #[.int .i64 n]) (hP : Blk w P 44 (bv l).toArray) (hn : 1 ≤ n ∧ n ≤ 64) (h : sumok l) (h1 : nou (((l.take 508).drop 1).take 3)) (h2 : nou (((l.take 508).drop 396).take 112)) (h3 : ¬ (obof (l.take 508)).ok n) :
    Calls Tryd.prog 23 #[.pointer (some ⟨Q, 0, none⟩), .pointer (some ⟨P, 0, none⟩)] w fun e w' => e = .panicked (erc 151) ∧ Below w.heap.size w w' := by
  have hz := z34
  have hbl := oz_len
  have HT := Lib.hid (hT.alloc (.cells oz.cells.toArray obt))
  have HP := Lib.hid (Blk.alloc hP (.cells oz.cells.toArray obt))
  have HQ := Lib.hid (Blk.alloc hQ (.cells oz.cells.toArray obt))
  have HR := Lib.hid (Blk.new w obt oz.cells.toArray)
  have HB := Lib.hid ((Below.refl w.heap.size w).alloc (Nat.le_refl _) (.cells oz.cells.toArray obt))
  have hq : (w.alloc (.cells oz.cells.toArray obt)).cell? ⟨Q, 0, none⟩ = some (.int .i64 n) := by simpa using Blk.cell HQ.out 0
  have HL := Lib.hid hl
  have M1 := Lib.hid True.intro
  have M2 := Lib.hid True.intro
  have HC := Lib.hid (Oj.chk_yes (oz_ok.2 hn))
  have HS := Lib.hid h
  have HN := Lib.hid (And.intro h1 h2)
  have HD := Lib.hid (Oj.chk_no h3)
  clear hT hQ hP hl h hn h1 h2 h3
  go_enter Tryd.func23, Tryd.ntmps23
  go_wp2_with (first
    | (refine wpList_yields (S := fun _ => True) (y_build (by rfl) (by rfl) built34) trivial ?_)
    | (go_at_call 19; clear M1; refine (check_any oz n _ HT.out).mono ?_; rw [HC.out]; rintro e w1 ⟨rfl, hb⟩; have B1 := Lib.hid (HB.out.trans (hb.mono HB.out.size)); have P1 := Lib.hid (Blk.keep HP.out hb); have Q1 := Lib.hid (Blk.keep HQ.out hb); have R1 := Lib.hid (Blk.keep HR.out hb); have T1 := Lib.hid (HT.out.below hb); clear hb hq)
    | (go_at_call 12; clear M2; refine (must_ok 2 _).mono ?_; rintro e w3 ⟨rfl, rfl⟩)
    | (go_at_call 24; refine (sealed512_yes _ _ l _ HL.out (by decide) (rd_blk P1.out) HS.out).mono ?_; rintro e w2 ⟨v, rfl, ho, hb⟩; obtain ⟨D, cp, rfl, hcp, hD0, hDl, hrd, -⟩ := own_cell (by decide) ho; have B2 := Lib.hid (B1.out.trans (hb.mono B1.out.size)); have Q2 := Lib.hid (Blk.keep Q1.out hb); have R2 := Lib.hid (Blk.keep R1.out hb); have T2 := Lib.hid (T1.out.below hb); have D2 := Lib.hid (RdAt.new w2 D cp (l.take 508) hrd (by rw [List.length_take, HL.out]; rfl) hcp hDl); have L2 := Lib.hid hDl; have L3 := Lib.hid (show (l.take 508).length = 508 by rw [List.length_take, HL.out]; rfl); clear ho hb hrd)
    | (go_at_call 20; have hDl := L2.out; refine (passObject_r (w2.heap.size + 1) D w2.heap.size (l.take 508) _ D2.out (Blk.alloc (Blk.new w2 obt oz.cells.toArray) _) L3.out HN.out.1 HN.out.2 (by omega) (by omega)).mono ?_; rintro e w4 ⟨rfl, hk, hf⟩; have hf1 := (((Fr.refl (fun j => j = w2.heap.size + 1 ∨ j = w2.heap.size) w2).alloc (.cells oz.cells.toArray obt)).alloc (.cells #[.slice (some ⟨D, 0, none⟩) 508 cp] 63)).trans hf; have hb4 := below_lt hf1 (Nat.le_refl _) (fun j hj => by omega); have B4 := Lib.hid (B2.out.trans (hb4.mono B2.out.size)); have K4 := Lib.hid hk; have R4 := Lib.hid (Blk.keep R2.out hb4); have T4 := Lib.hid (T2.out.below hb4); have hq4 : w4.cell? ⟨Q, 0, none⟩ = some (.int .i64 n) := (by simpa using Blk.cell (Blk.keep Q2.out hb4) 0); clear hk; clear hf hf1 hb4)
    | (refine wpList_yields (S := fun w' => ObAt w' w2.heap.size 0 (obof (l.take 508))) (y_ob (by rfl) (.tmp 5) (by rfl) w2.heap.size 0 (by rfl) (obof (l.take 508)) (fun _ h => h)) (Blk.ob K4.out) ?_)
    | (go_at_call 19; refine (check_any (obof (l.take 508)) n _ T4.out).mono ?_; rw [HD.out]; rintro e w5 ⟨rfl, hb⟩; have B5 := Lib.hid (B4.out.trans (hb.mono B4.out.size)); have R5 := Lib.hid (Blk.keep R4.out hb); have K5 := Lib.hid (Blk.keep K4.out hb); clear hb hq4 K4)
    | (go_at_call 12; refine (must_no 2 151 (by decide) _).mono ?_; rintro e w6 ⟨rfl, rfl⟩))
  exact ⟨rfl, rfl, B5.out⟩
set_option maxRecDepth 8000 in
set_option maxHeartbeats 1000000 in
theorem get1_yes (Q P : Nat) (n : Int) (l : List UInt8) (hl : l.length = 512) (w : World) (hT : Tab w) (hQ : Blk w Q 3 #[.int .i64 n]) (hP : Blk w P 44 (bv l).toArray) (hn : 1 ≤ n ∧ n ≤ 64) (h : sumok l) (h1 : nou (((l.take 508).drop 1).take 3)) (h2 : nou (((l.take 508).drop 396).take 112)) (h3 : (obof (l.take 508)).ok n) :
    Calls Tryd.prog 23 #[.pointer (some ⟨Q, 0, none⟩), .pointer (some ⟨P, 0, none⟩)] w fun e w' => e = .returned (obof (l.take 508)).val ∧ Below w.heap.size w w' := by
  have hz := z34
  have hbl := oz_len
  have HT := Lib.hid (hT.alloc (.cells oz.cells.toArray obt))
  have HP := Lib.hid (Blk.alloc hP (.cells oz.cells.toArray obt))
  have HQ := Lib.hid (Blk.alloc hQ (.cells oz.cells.toArray obt))
  have HR := Lib.hid (Blk.new w obt oz.cells.toArray)
  have HB := Lib.hid ((Below.refl w.heap.size w).alloc (Nat.le_refl _) (.cells oz.cells.toArray obt))
  have hq : (w.alloc (.cells oz.cells.toArray obt)).cell? ⟨Q, 0, none⟩ = some (.int .i64 n) := by simpa using Blk.cell HQ.out 0
  have HL := Lib.hid hl
  have M1 := Lib.hid True.intro
  have M2 := Lib.hid True.intro
  have HC := Lib.hid (Oj.chk_yes (oz_ok.2 hn))
  have HS := Lib.hid h
  have HN := Lib.hid (And.intro h1 h2)
  have HD := Lib.hid (Oj.chk_yes h3)
  clear hT hQ hP hl h hn h1 h2 h3
  go_enter Tryd.func23, Tryd.ntmps23
  go_wp2_with (first
    | (refine wpList_yields (S := fun _ => True) (y_build (by rfl) (by rfl) built34) trivial ?_)
    | (go_at_call 19; clear M1; refine (check_any oz n _ HT.out).mono ?_; rw [HC.out]; rintro e w1 ⟨rfl, hb⟩; have B1 := Lib.hid (HB.out.trans (hb.mono HB.out.size)); have P1 := Lib.hid (Blk.keep HP.out hb); have Q1 := Lib.hid (Blk.keep HQ.out hb); have R1 := Lib.hid (Blk.keep HR.out hb); have T1 := Lib.hid (HT.out.below hb); clear hb hq)
    | (go_at_call 12; clear M2; refine (must_ok 2 _).mono ?_; rintro e w3 ⟨rfl, rfl⟩)
    | (go_at_call 24; refine (sealed512_yes _ _ l _ HL.out (by decide) (rd_blk P1.out) HS.out).mono ?_; rintro e w2 ⟨v, rfl, ho, hb⟩; obtain ⟨D, cp, rfl, hcp, hD0, hDl, hrd, -⟩ := own_cell (by decide) ho; have B2 := Lib.hid (B1.out.trans (hb.mono B1.out.size)); have Q2 := Lib.hid (Blk.keep Q1.out hb); have R2 := Lib.hid (Blk.keep R1.out hb); have T2 := Lib.hid (T1.out.below hb); have D2 := Lib.hid (RdAt.new w2 D cp (l.take 508) hrd (by rw [List.length_take, HL.out]; rfl) hcp hDl); have L2 := Lib.hid hDl; have L3 := Lib.hid (show (l.take 508).length = 508 by rw [List.length_take, HL.out]; rfl); clear ho hb hrd)
    | (go_at_call 20; have hDl := L2.out; refine (passObject_r (w2.heap.size + 1) D w2.heap.size (l.take 508) _ D2.out (Blk.alloc (Blk.new w2 obt oz.cells.toArray) _) L3.out HN.out.1 HN.out.2 (by omega) (by omega)).mono ?_; rintro e w4 ⟨rfl, hk, hf⟩; have hf1 := (((Fr.refl (fun j => j = w2.heap.size + 1 ∨ j = w2.heap.size) w2).alloc (.cells oz.cells.toArray obt)).alloc (.cells #[.slice (some ⟨D, 0, none⟩) 508 cp] 63)).trans hf; have hb4 := below_lt hf1 (Nat.le_refl _) (fun j hj => by omega); have B4 := Lib.hid (B2.out.trans (hb4.mono B2.out.size)); have K4 := Lib.hid hk; have R4 := Lib.hid (Blk.keep R2.out hb4); have T4 := Lib.hid (T2.out.below hb4); have hq4 : w4.cell? ⟨Q, 0, none⟩ = some (.int .i64 n) := (by simpa using Blk.cell (Blk.keep Q2.out hb4) 0); clear hk; clear hf hf1 hb4)
    | (refine wpList_yields (S := fun w' => ObAt w' w2.heap.size 0 (obof (l.take 508))) (y_ob (by rfl) (.tmp 5) (by rfl) w2.heap.size 0 (by rfl) (obof (l.take 508)) (fun _ h => h)) (Blk.ob K4.out) ?_)
    | (refine wpList_yields (S := fun w' => ObAt w' w2.heap.size 0 (obof (l.take 508))) (y_ob (by rfl) (.tmp 5) (by rfl) w2.heap.size 0 (by rfl) (obof (l.take 508)) (fun _ h => h)) (Blk.ob K5.out) ?_)
    | (go_at_call 19; refine (check_any (obof (l.take 508)) n _ T4.out).mono ?_; rw [HD.out]; rintro e w5 ⟨rfl, hb⟩; have B5 := Lib.hid (B4.out.trans (hb.mono B4.out.size)); have R5 := Lib.hid (Blk.keep R4.out hb); have K5 := Lib.hid (Blk.keep K4.out hb); clear hb hq4 K4)
    | (go_at_call 12; refine (must_ok 151 _).mono ?_; rintro e w6 ⟨rfl, rfl⟩)
    | (refine wpList_store_row rfl obt (.tmp 2) (.tmp 28) rfl w.heap.size (obof (l.take 508)).cells.toArray rfl rfl obt oz.cells.toArray R5.out (by rw [List.size_toArray, Oj.len]; exact size34) (by rw [List.size_toArray, List.size_toArray, Oj.len, Oj.len]) (Oj.allOne _) ?_))
  have h4 := setRow_heap w5 w.heap.size oz.cells.toArray (obof (l.take 508)).cells.toArray obt (0, 0) R5.out
  have h5 : Below w.heap.size w (w5.setRow w.heap.size (obof (l.take 508)).cells.toArray) := B5.out.trans (below_lt (setRow_fr w5 _ _) B5.out.size (fun j hj => by omega))
  exact bodyPost_ret (res_1 rfl _ _ w.heap.size _ rfl (load_ob _ h4)) rfl ⟨rfl, h5⟩
end Go.Proofs.YtfclkkbmgclfgaaDoor
namespace Go.Proofs.YtfclkkbmgclfgaaDoor
open Go.RowKit
set_option maxRecDepth 8000 in
set_option maxHeartbeats 400000 in
theorem faceds_no (P Q : Nat) (n : Int) (w : World) (hcl : ∀ W, Below w.heap.size w W → Calls Tryd.prog 18 #[.pointer (some ⟨P, 0, none⟩), .pointer (some ⟨Q, 0, none⟩)] W fun e w' => e = .panicked (erc n) ∧ Below W.heap.size W w') :
    Calls Tryd.prog 17 #[(.func (.func 18) #[] #[.pointer (some ⟨P, 0, none⟩), .pointer (some ⟨Q, 0, none⟩)])] w fun e w' => e = .returned (.tuple #[(sv z512), .int .i64 n]) ∧ Below w.heap.size w w' := by
  have hmf : ∀ (fn : Fn) (first cap : Array Value) (w : World), (Instr.makeFunc fn first cap).run Tryd.prog w = .ok (.func fn first cap) w := fun _ _ _ _ => rfl
  have HZ := Lib.hid (Blk.alloc (Blk.new w 44 (bv z512).toArray) (.cells #[.int .i64 0] 38))
  have HE := Lib.hid (Blk.new_of (w.alloc (.cells (bv z512).toArray 44)) 38 #[.int .i64 0] (g := w.heap.size + 1) (by simp))
  have HB := Lib.hid (((Below.refl w.heap.size w).alloc (Nat.le_refl _) (.cells (bv z512).toArray 44)).alloc (by simp) (.cells #[.int .i64 0] 38))
  have HC := Lib.hid hcl
  have hz0 := z45
  clear hcl
  go_enter_defers Tryd.func17, Tryd.ntmps17
  go_wp2_with (go_at_call 18; refine (HC.out _ HB.out).mono ?_; rintro e w1 ⟨rfl, hb⟩; have Z1 := Lib.hid (Blk.keep HZ.out hb); have E1 := Lib.hid (Blk.keep HE.out hb); have B1 := Lib.hid (HB.out.trans (hb.mono HB.out.size)); clear hb)
  have hc : w1.cell? ⟨w.heap.size + 1, 0, none⟩ = some (.int .i64 0) := by simpa using Blk.cell E1.out 0
  have hz := Blk.frozen E1.out 0
  refine leaves_cons (f := 31) (args := #[.pointer (some ⟨w.heap.size + 1, 0, none⟩)]) (by simp) (by simp [go_sem]) ?_
  refine (catch_s ⟨w.heap.size + 1, 0, none⟩ 0 n [] _ hc hz).mono ?_
  rintro e u' w'' ⟨rfl, rfl, rfl⟩
  have hl1 := load_sec z512 rfl ((Blk.far Z1.out (p := ⟨w.heap.size + 1, 0, none⟩) (by show w.heap.size ≠ w.heap.size + 1; omega) (.int .i64 n)))
  have hl2 := load_err n (Blk.set_ E1.out 0 (.int .i64 n))
  change Leaves _ _ _ _ [] FrameMode.returning _
  exact ⟨_, res_2 rfl _ _ w.heap.size (w.heap.size + 1) _ _ rfl rfl hl1 hl2, rfl, B1.out.setCell (by show w.heap.size ≤ w.heap.size + 1; omega) _⟩
set_option maxRecDepth 8000 in
set_option maxHeartbeats 400000 in
theorem faceds_yes (P Q : Nat) (x : List UInt8) (hx : x.length = 512) (w : World) (hcl : ∀ W, Below w.heap.size w W → Calls Tryd.prog 18 #[.pointer (some ⟨P, 0, none⟩), .pointer (some ⟨Q, 0, none⟩)] W fun e w' => e = .returned (sv x) ∧ Below W.heap.size W w') :
    Calls Tryd.prog 17 #[(.func (.func 18) #[] #[.pointer (some ⟨P, 0, none⟩), .pointer (some ⟨Q, 0, none⟩)])] w fun e w' => e = .returned (.tuple #[(sv x), .int .i64 0]) ∧ Below w.heap.size w w' := by
  have hmf : ∀ (fn : Fn) (first cap : Array Value) (w : World), (Instr.makeFunc fn first cap).run Tryd.prog w = .ok (.func fn first cap) w := fun _ _ _ _ => rfl
  have HZ := Lib.hid (Blk.alloc (Blk.new w 44 (bv z512).toArray) (.cells #[.int .i64 0] 38))
  have HE := Lib.hid (Blk.new_of (w.alloc (.cells (bv z512).toArray 44)) 38 #[.int .i64 0] (g := w.heap.size + 1) (by simp))
  have HB := Lib.hid (((Below.refl w.heap.size w).alloc (Nat.le_refl _) (.cells (bv z512).toArray 44)).alloc (by simp) (.cells #[.int .i64 0] 38))
  have HC := Lib.hid hcl
  have hz0 := z45
  clear hcl
  go_enter_defers Tryd.func17, Tryd.ntmps17
  go_wp2_with (first
    | (go_at_call 18; refine (HC.out _ HB.out).mono ?_; rintro e w1 ⟨rfl, hb⟩; have Z1 := Lib.hid (Blk.keep HZ.out hb); have E1 := Lib.hid (Blk.keep HE.out hb); have B1 := Lib.hid (HB.out.trans (hb.mono HB.out.size)); have E2 := Lib.hid (Blk.row_far E1.out (show w.heap.size + 1 ≠ w.heap.size by omega) (bv x).toArray); have hc : (w1.setRow w.heap.size (bv x).toArray).cell? ⟨w.heap.size + 1, 0, none⟩ = some (.int .i64 0) := (by simpa using Blk.cell E2.out 0); have hz := Blk.frozen E2.out 0; clear hb)
    | (refine wpList_store_row rfl 44 (.tmp 2) (.tmp 6) rfl w.heap.size (bv x).toArray rfl rfl 44 (bv z512).toArray Z1.out (by rw [List.size_toArray, bv_length, hx]; exact size45) (by rw [List.size_toArray, List.size_toArray, bv_length, bv_length, hx]; rfl) (bv_all _) ?_))
  have Z2 := setRow_heap w1 w.heap.size (bv z512).toArray (bv x).toArray 44 (0, 0) Z1.out
  have E3 := Blk.set_ E2.out 0 (.int .i64 0)
  refine leaves_cons (f := 31) (args := #[.pointer (some ⟨w.heap.size + 1, 0, none⟩)]) (by simp) (by simp [go_sem]) ?_
  refine (idle_s ⟨w.heap.size + 1, 0, none⟩ _).mono ?_
  rintro e u' w'' ⟨rfl, rfl, rfl⟩
  have hl1 := load_sec x hx ((Blk.far Z2 (p := ⟨w.heap.size + 1, 0, none⟩) (by show w.heap.size ≠ w.heap.size + 1; omega) (.int .i64 0)))
  have hl2 := load_err 0 E3
  change Leaves _ _ _ _ [] FrameMode.returning _
  exact ⟨_, res_2 rfl _ _ w.heap.size (w.heap.size + 1) _ _ rfl rfl hl1 hl2, rfl, (B1.out.trans (below_lt (setRow_fr w1 w.heap.size _) B1.out.size (fun j hj => by omega))).setCell (by show w.heap.size ≤ w.heap.size + 1; omega) _⟩
set_option maxRecDepth 8000 in
set_option maxHeartbeats 400000 in
theorem facedo_no (Q P : Nat) (n : Int) (w : World) (hcl : ∀ W, Below w.heap.size w W → Calls Tryd.prog 23 #[.pointer (some ⟨Q, 0, none⟩), .pointer (some ⟨P, 0, none⟩)] W fun e w' => e = .panicked (erc n) ∧ Below W.heap.size W w') :
    Calls Tryd.prog 22 #[(.func (.func 23) #[] #[.pointer (some ⟨Q, 0, none⟩), .pointer (some ⟨P, 0, none⟩)])] w fun e w' => e = .returned (.tuple #[oz.val, .int .i64 n]) ∧ Below w.heap.size w w' := by
  have hmf : ∀ (fn : Fn) (first cap : Array Value) (w : World), (Instr.makeFunc fn first cap).run Tryd.prog w = .ok (.func fn first cap) w := fun _ _ _ _ => rfl
  have HZ := Lib.hid (Blk.alloc (Blk.new w obt oz.cells.toArray) (.cells #[.int .i64 0] 38))
  have HE := Lib.hid (Blk.new_of (w.alloc (.cells oz.cells.toArray obt)) 38 #[.int .i64 0] (g := w.heap.size + 1) (by simp))
  have HB := Lib.hid (((Below.refl w.heap.size w).alloc (Nat.le_refl _) (.cells oz.cells.toArray obt)).alloc (by simp) (.cells #[.int .i64 0] 38))
  have HC := Lib.hid hcl
  have hz0 := z34
  have hbl := oz_len
  clear hcl
  go_enter_defers Tryd.func22, Tryd.ntmps22
  go_wp2_with (go_at_call 23; refine (HC.out _ HB.out).mono ?_; rintro e w1 ⟨rfl, hb⟩; have Z1 := Lib.hid (Blk.keep HZ.out hb); have E1 := Lib.hid (Blk.keep HE.out hb); have B1 := Lib.hid (HB.out.trans (hb.mono HB.out.size)); clear hb)
  have hc : w1.cell? ⟨w.heap.size + 1, 0, none⟩ = some (.int .i64 0) := by simpa using Blk.cell E1.out 0
  have hz := Blk.frozen E1.out 0
  refine leaves_cons (f := 39) (args := #[.pointer (some ⟨w.heap.size + 1, 0, none⟩)]) (by simp) (by simp [go_sem]) ?_
  refine (catch_o ⟨w.heap.size + 1, 0, none⟩ 0 n [] _ hc hz).mono ?_
  rintro e u' w'' ⟨rfl, rfl, rfl⟩
  have hl1 := load_ob oz ((Blk.far Z1.out (p := ⟨w.heap.size + 1, 0, none⟩) (by show w.heap.size ≠ w.heap.size + 1; omega) (.int .i64 n)))
  have hl2 := load_err n (Blk.set_ E1.out 0 (.int .i64 n))
  change Leaves _ _ _ _ [] FrameMode.returning _
  exact ⟨_, res_2 rfl _ _ w.heap.size (w.heap.size + 1) _ _ rfl rfl hl1 hl2, rfl, B1.out.setCell (by show w.heap.size ≤ w.heap.size + 1; omega) _⟩
set_option maxRecDepth 8000 in
set_option maxHeartbeats 400000 in
theorem facedo_yes (Q P : Nat) (x : Oj) (w : World) (hcl : ∀ W, Below w.heap.size w W → Calls Tryd.prog 23 #[.pointer (some ⟨Q, 0, none⟩), .pointer (some ⟨P, 0, none⟩)] W fun e w' => e = .returned x.val ∧ Below W.heap.size W w') :
    Calls Tryd.prog 22 #[(.func (.func 23) #[] #[.pointer (some ⟨Q, 0, none⟩), .pointer (some ⟨P, 0, none⟩)])] w fun e w' => e = .returned (.tuple #[x.val, .int .i64 0]) ∧ Below w.heap.size w w' := by
  have hmf : ∀ (fn : Fn) (first cap : Array Value) (w : World), (Instr.makeFunc fn first cap).run Tryd.prog w = .ok (.func fn first cap) w := fun _ _ _ _ => rfl
  have HZ := Lib.hid (Blk.alloc (Blk.new w obt oz.cells.toArray) (.cells #[.int .i64 0] 38))
  have HE := Lib.hid (Blk.new_of (w.alloc (.cells oz.cells.toArray obt)) 38 #[.int .i64 0] (g := w.heap.size + 1) (by simp))
  have HB := Lib.hid (((Below.refl w.heap.size w).alloc (Nat.le_refl _) (.cells oz.cells.toArray obt)).alloc (by simp) (.cells #[.int .i64 0] 38))
  have HC := Lib.hid hcl
  have hz0 := z34
  have hbl := oz_len
  clear hcl
  go_enter_defers Tryd.func22, Tryd.ntmps22
  go_wp2_with (first
    | (go_at_call 23; refine (HC.out _ HB.out).mono ?_; rintro e w1 ⟨rfl, hb⟩; have Z1 := Lib.hid (Blk.keep HZ.out hb); have E1 := Lib.hid (Blk.keep HE.out hb); have B1 := Lib.hid (HB.out.trans (hb.mono HB.out.size)); have E2 := Lib.hid (Blk.row_far E1.out (show w.heap.size + 1 ≠ w.heap.size by omega) x.cells.toArray); have hc : (w1.setRow w.heap.size x.cells.toArray).cell? ⟨w.heap.size + 1, 0, none⟩ = some (.int .i64 0) := (by simpa using Blk.cell E2.out 0); have hz := Blk.frozen E2.out 0; clear hb)
    | (refine wpList_store_row rfl obt (.tmp 2) (.tmp 6) rfl w.heap.size x.cells.toArray rfl rfl obt oz.cells.toArray Z1.out (by rw [List.size_toArray, Oj.len]; exact size34) (by rw [List.size_toArray, List.size_toArray, Oj.len, Oj.len]) (Oj.allOne _) ?_))
  have Z2 := setRow_heap w1 w.heap.size oz.cells.toArray x.cells.toArray obt (0, 0) Z1.out
  have E3 := Blk.set_ E2.out 0 (.int .i64 0)
  refine leaves_cons (f := 39) (args := #[.pointer (some ⟨w.heap.size + 1, 0, none⟩)]) (by simp) (by simp [go_sem]) ?_
  refine (idle_o ⟨w.heap.size + 1, 0, none⟩ _).mono ?_
  rintro e u' w'' ⟨rfl, rfl, rfl⟩
  have hl1 := load_ob x ((Blk.far Z2 (p := ⟨w.heap.size + 1, 0, none⟩) (by show w.heap.size ≠ w.heap.size + 1; omega) (.int .i64 0)))
  have hl2 := load_err 0 E3
  change Leaves _ _ _ _ [] FrameMode.returning _
  exact ⟨_, res_2 rfl _ _ w.heap.size (w.heap.size + 1) _ _ rfl rfl hl1 hl2, rfl, (B1.out.trans (below_lt (setRow_fr w1 w.heap.size _) B1.out.size (fun j hj => by omega))).setCell (by show w.heap.size ≤ w.heap.size + 1; omega) _⟩
end Go.Proofs.YtfclkkbmgclfgaaDoor
namespace Go.Proofs.YtfclkkbmgclfgaaDoor
open Go.RowKit
set_option maxRecDepth 8000 in
set_option maxHeartbeats 800000 in
theorem cput_yes (u : Oj) (n : Int) (w : World) (hT : Tab w) (h : u.ok n) (hf : u.fit) :
    Calls Tryd.prog 8 #[u.val, .int .i64 n] w fun e w' => e = .returned (.tuple #[sv (sealN (obs u)), .int .i64 0]) ∧ Below w.heap.size w w' := by
  have hmf : ∀ (fn : Fn) (first cap : Array Value) (w : World), (Instr.makeFunc fn first cap).run Tryd.prog w = .ok (.func fn first cap) w := fun _ _ _ _ => rfl
  have hz := z45
  have HB := Lib.hid ((((Below.refl w.heap.size w).alloc (Nat.le_refl _) (.cells u.cells.toArray obt)).alloc (by simp) (.cells #[.int .i64 n] 3)).alloc (by simp; omega) (.cells (bv z512).toArray 44))
  have HP := Lib.hid (Blk.alloc (Blk.alloc (Blk.new w obt u.cells.toArray) (.cells #[.int .i64 n] 3)) (.cells (bv z512).toArray 44))
  have HQ := Lib.hid (Blk.alloc (Blk.new_of (w.alloc (.cells u.cells.toArray obt)) 3 #[.int .i64 n] (g := w.heap.size + 1) (by simp)) (.cells (bv z512).toArray 44))
  have HR := Lib.hid (Blk.new_of ((w.alloc (.cells u.cells.toArray obt)).alloc (.cells #[.int .i64 n] 3)) 44 (bv z512).toArray (g := w.heap.size + 1 + 1) (by simp))
  have HT := Lib.hid hT
  have HL := Lib.hid (show ((sealN (obs u))).length = 512 from sealed_len u)
  have HA := Lib.hid (show (Tryd.prog.info? 44).map (·.size) = some (bv (sealN (obs u))).toArray.size by rw [List.size_toArray, bv_length, HL.out]; exact size45)
  have HO := Lib.hid (show (bv z512).toArray.size = (bv (sealN (obs u))).toArray.size by first | (rw [List.size_toArray, List.size_toArray, bv_length, bv_length, HL.out]; rfl) | rfl)
  have HX := Lib.hid (And.intro h hf)
  clear hT h hf
  go_enter Tryd.func8, Tryd.ntmps8
  go_wp2_with (first
    | (go_at_call 17; refine (faceds_yes w.heap.size (w.heap.size + 1) (sealN (obs u)) (sealed_len u) _ (fun W hW => put1_yes w.heap.size (w.heap.size + 1) u n W ((HT.out.below HB.out).below hW) (Blk.keep HP.out hW) (Blk.keep HQ.out hW) HX.out.1 HX.out.2)).mono ?_; rintro e w1 ⟨rfl, hb⟩; have B1 := Lib.hid (HB.out.trans (hb.mono HB.out.size)); have R1 := Lib.hid (Blk.keep HR.out hb); clear hb)
    | (refine wpList_store_row rfl 44 (.tmp 4) (.tmp 8) rfl (w.heap.size + 1 + 1) (bv (sealN (obs u))).toArray rfl rfl 44 (bv z512).toArray R1.out HA.out (by first | exact HO.out | rfl) (bv_all _) ?_))
  have h4 := setRow_heap w1 (w.heap.size + 1 + 1) (bv z512).toArray (bv (sealN (obs u))).toArray 44 (0, 0) R1.out
  have h5 : Below w.heap.size w (w1.setRow (w.heap.size + 1 + 1) (bv (sealN (obs u))).toArray) := B1.out.trans (below_lt (setRow_fr w1 _ _) B1.out.size (fun j hj => by omega))
  exact bodyPost_ret (res_1t rfl _ _ (w.heap.size + 1 + 1) _ _ rfl rfl (load_sec _ HL.out h4)) rfl ⟨rfl, h5⟩
set_option maxRecDepth 8000 in
set_option maxHeartbeats 800000 in
theorem cput_no (u : Oj) (n : Int) (w : World) (hT : Tab w) (h : ¬ u.ok n) :
    Calls Tryd.prog 8 #[u.val, .int .i64 n] w fun e w' => e = .returned (.tuple #[sv z512, .int .i64 2]) ∧ Below w.heap.size w w' := by
  have hmf : ∀ (fn : Fn) (first cap : Array Value) (w : World), (Instr.makeFunc fn first cap).run Tryd.prog w = .ok (.func fn first cap) w := fun _ _ _ _ => rfl
  have hz := z45
  have HB := Lib.hid ((((Below.refl w.heap.size w).alloc (Nat.le_refl _) (.cells u.cells.toArray obt)).alloc (by simp) (.cells #[.int .i64 n] 3)).alloc (by simp; omega) (.cells (bv z512).toArray 44))
  have HP := Lib.hid (Blk.alloc (Blk.alloc (Blk.new w obt u.cells.toArray) (.cells #[.int .i64 n] 3)) (.cells (bv z512).toArray 44))
  have HQ := Lib.hid (Blk.alloc (Blk.new_of (w.alloc (.cells u.cells.toArray obt)) 3 #[.int .i64 n] (g := w.heap.size + 1) (by simp)) (.cells (bv z512).toArray 44))
  have HR := Lib.hid (Blk.new_of ((w.alloc (.cells u.cells.toArray obt)).alloc (.cells #[.int .i64 n] 3)) 44 (bv z512).toArray (g := w.heap.size + 1 + 1) (by simp))
  have HT := Lib.hid hT
  have HL := Lib.hid (show (z512).length = 512 from rfl)
  have HA := Lib.hid (show (Tryd.prog.info? 44).map (·.size) = some (bv z512).toArray.size by rw [List.size_toArray, bv_length, HL.out]; exact size45)
  have HO := Lib.hid (show (bv z512).toArray.size = (bv z512).toArray.size by first | (rw [List.size_toArray, List.size_toArray, bv_length, bv_length, HL.out]; rfl) | rfl)
  have HX := Lib.hid h
  clear hT h
  go_enter Tryd.func8, Tryd.ntmps8
  go_wp2_with (first
    | (go_at_call 17; refine (faceds_no w.heap.size (w.heap.size + 1) 2 _ (fun W hW => put1_no w.heap.size (w.heap.size + 1) u n W ((HT.out.below HB.out).below hW) (Blk.keep HP.out hW) (Blk.keep HQ.out hW) HX.out)).mono ?_; rintro e w1 ⟨rfl, hb⟩; have B1 := Lib.hid (HB.out.trans (hb.mono HB.out.size)); have R1 := Lib.hid (Blk.keep HR.out hb); clear hb)
    | (refine wpList_store_row rfl 44 (.tmp 4) (.tmp 8) rfl (w.heap.size + 1 + 1) (bv z512).toArray rfl rfl 44 (bv z512).toArray R1.out HA.out (by first | exact HO.out | rfl) (bv_all _) ?_))
  have h4 := setRow_heap w1 (w.heap.size + 1 + 1) (bv z512).toArray (bv z512).toArray 44 (0, 0) R1.out
  have h5 : Below w.heap.size w (w1.setRow (w.heap.size + 1 + 1) (bv z512).toArray) := B1.out.trans (below_lt (setRow_fr w1 _ _) B1.out.size (fun j hj => by omega))
  exact bodyPost_ret (res_1t rfl _ _ (w.heap.size + 1 + 1) _ _ rfl rfl (load_sec _ HL.out h4)) rfl ⟨rfl, h5⟩
/-- a sector is an object's -/
def Gok (n : Int) (l : List UInt8) : Prop := nou (((l.take 508).drop 1).take 3) ∧ nou (((l.take 508).drop 396).take 112) ∧ (obof (l.take 508)).ok n
/-- it is none, with this error -/
def Gbad (n : Int) (l : List UInt8) (e : Int) : Prop := (¬ (1 ≤ n ∧ n ≤ 64) ∧ e = 2) ∨ ((1 ≤ n ∧ n ≤ 64) ∧ ¬ sumok l ∧ e = 150) ∨ ((1 ≤ n ∧ n ≤ 64) ∧ sumok l ∧ ¬ Gok n l ∧ e = 151)
set_option maxRecDepth 8000 in
theorem get1_no (Q P : Nat) (n : Int) (l : List UInt8) (hl : l.length = 512) (e0 : Int) (w : World) (hT : Tab w) (hQ : Blk w Q 3 #[.int .i64 n]) (hP : Blk w P 44 (bv l).toArray) (h : Gbad n l e0) :
    Calls Tryd.prog 23 #[.pointer (some ⟨Q, 0, none⟩), .pointer (some ⟨P, 0, none⟩)] w fun e w' => e = .panicked (erc e0) ∧ Below w.heap.size w w' := by
  rcases h with ⟨h, rfl⟩ | ⟨hn, h, rfl⟩ | ⟨hn, hs, h, rfl⟩
  · exact get1_n Q P n l hl w hT hQ hP h
  · exact get1_s Q P n l hl w hT hQ hP hn h
  · by_cases h1 : nou (((l.take 508).drop 1).take 3)
    · by_cases h2 : nou (((l.take 508).drop 396).take 112)
      · exact get1_c Q P n l hl w hT hQ hP hn hs h1 h2 (fun h3 => h ⟨h1, h2, h3⟩)
      · exact get1_2 Q P n l hl w hT hQ hP hn hs h1 h2
    · exact get1_1 Q P n l hl w hT hQ hP hn hs h1
set_option maxRecDepth 8000 in
set_option maxHeartbeats 800000 in
theorem cget_yes (l : List UInt8) (hl : l.length = 512) (n : Int) (w : World) (hT : Tab w) (hn : 1 ≤ n ∧ n ≤ 64) (hs : sumok l) (h : Gok n l) :
    Calls Tryd.prog 9 #[sv l, .int .i64 n] w fun e w' => e = .returned (.tuple #[(obof (l.take 508)).val, .int .i64 0]) ∧ Below w.heap.size w w' := by
  have hmf : ∀ (fn : Fn) (first cap : Array Value) (w : World), (Instr.makeFunc fn first cap).run Tryd.prog w = .ok (.func fn first cap) w := fun _ _ _ _ => rfl
  have hz := z34
  have hbl := oz_len
  have HB := Lib.hid ((((Below.refl w.heap.size w).alloc (Nat.le_refl _) (.cells (bv l).toArray 44)).alloc (by simp) (.cells #[.int .i64 n] 3)).alloc (by simp; omega) (.cells oz.cells.toArray obt))
  have HP := Lib.hid (Blk.alloc (Blk.alloc (Blk.new w 44 (bv l).toArray) (.cells #[.int .i64 n] 3)) (.cells oz.cells.toArray obt))
  have HQ := Lib.hid (Blk.alloc (Blk.new_of (w.alloc (.cells (bv l).toArray 44)) 3 #[.int .i64 n] (g := w.heap.size + 1) (by simp)) (.cells oz.cells.toArray obt))
  have HR := Lib.hid (Blk.new_of ((w.alloc (.cells (bv l).toArray 44)).alloc (.cells #[.int .i64 n] 3)) obt oz.cells.toArray (g := w.heap.size + 1 + 1) (by simp))
  have HT := Lib.hid hT
  have HL := Lib.hid hl
  have HX := Lib.hid (And.intro hn (And.intro hs h))
  clear hT hl hn hs h
  go_enter Tryd.func9, Tryd.ntmps9
  go_wp2_with (first
    | (go_at_call 22; refine (facedo_yes (w.heap.size + 1) w.heap.size (obof (l.take 508)) _ (fun W hW => get1_yes (w.heap.size + 1) w.heap.size n l HL.out W ((HT.out.below HB.out).below hW) (Blk.keep HQ.out hW) (Blk.keep HP.out hW) HX.out.1 HX.out.2.1 HX.out.2.2.1 HX.out.2.2.2.1 HX.out.2.2.2.2)).mono ?_; rintro e w1 ⟨rfl, hb⟩; have B1 := Lib.hid (HB.out.trans (hb.mono HB.out.size)); have R1 := Lib.hid (Blk.keep HR.out hb); clear hb)
    | (refine wpList_store_row rfl obt (.tmp 4) (.tmp 8) rfl (w.heap.size + 1 + 1) (obof (l.take 508)).cells.toArray rfl rfl obt oz.cells.toArray R1.out (by rw [List.size_toArray, Oj.len]; exact size34) (by simp only [List.size_toArray, Oj.len]) (Oj.allOne _) ?_))
  have h4 := setRow_heap w1 (w.heap.size + 1 + 1) oz.cells.toArray (obof (l.take 508)).cells.toArray obt (0, 0) R1.out
  have h5 : Below w.heap.size w (w1.setRow (w.heap.size + 1 + 1) (obof (l.take 508)).cells.toArray) := B1.out.trans (below_lt (setRow_fr w1 _ _) B1.out.size (fun j hj => by omega))
  exact bodyPost_ret (res_1t rfl _ _ (w.heap.size + 1 + 1) _ _ rfl rfl (load_ob _ h4)) rfl ⟨rfl, h5⟩
set_option maxRecDepth 8000 in
set_option maxHeartbeats 800000 in
theorem cget_no (l : List UInt8) (hl : l.length = 512) (n : Int) (e0 : Int) (w : World) (hT : Tab w) (h : Gbad n l e0) :
    Calls Tryd.prog 9 #[sv l, .int .i64 n] w fun e w' => e = .returned (.tuple #[(oz).val, .int .i64 e0]) ∧ Below w.heap.size w w' := by
  have hmf : ∀ (fn : Fn) (first cap : Array Value) (w : World), (Instr.makeFunc fn first cap).run Tryd.prog w = .ok (.func fn first cap) w := fun _ _ _ _ => rfl
  have hz := z34
  have hbl := oz_len
  have HB := Lib.hid ((((Below.refl w.heap.size w).alloc (Nat.le_refl _) (.cells (bv l).toArray 44)).alloc (by simp) (.cells #[.int .i64 n] 3)).alloc (by simp; omega) (.cells oz.cells.toArray obt))
  have HP := Lib.hid (Blk.alloc (Blk.alloc (Blk.new w 44 (bv l).toArray) (.cells #[.int .i64 n] 3)) (.cells oz.cells.toArray obt))
  have HQ := Lib.hid (Blk.alloc (Blk.new_of (w.alloc (.cells (bv l).toArray 44)) 3 #[.int .i64 n] (g := w.heap.size + 1) (by simp)) (.cells oz.cells.toArray obt))
  have HR := Lib.hid (Blk.new_of ((w.alloc (.cells (bv l).toArray 44)).alloc (.cells #[.int .i64 n] 3)) obt oz.cells.toArray (g := w.heap.size + 1 + 1) (by simp))
  have HT := Lib.hid hT
  have HL := Lib.hid hl
  have HX := Lib.hid h
  clear hT hl h
  go_enter Tryd.func9, Tryd.ntmps9
  go_wp2_with (first
    | (go_at_call 22; refine (facedo_no (w.heap.size + 1) w.heap.size e0 _ (fun W hW => get1_no (w.heap.size + 1) w.heap.size n l HL.out e0 W ((HT.out.below HB.out).below hW) (Blk.keep HQ.out hW) (Blk.keep HP.out hW) HX.out)).mono ?_; rintro e w1 ⟨rfl, hb⟩; have B1 := Lib.hid (HB.out.trans (hb.mono HB.out.size)); have R1 := Lib.hid (Blk.keep HR.out hb); clear hb)
    | (refine wpList_store_row rfl obt (.tmp 4) (.tmp 8) rfl (w.heap.size + 1 + 1) (oz).cells.toArray rfl rfl obt oz.cells.toArray R1.out (by rw [List.size_toArray, Oj.len]; exact size34) (by simp only [List.size_toArray, Oj.len]) (Oj.allOne _) ?_))
  have h4 := setRow_heap w1 (w.heap.size + 1 + 1) oz.cells.toArray (oz).cells.toArray obt (0, 0) R1.out
  have h5 : Below w.heap.size w (w1.setRow (w.heap.size + 1 + 1) (oz).cells.toArray) := B1.out.trans (below_lt (setRow_fr w1 _ _) B1.out.size (fun j hj => by omega))
  exact bodyPost_ret (res_1t rfl _ _ (w.heap.size + 1 + 1) _ _ rfl rfl (load_ob _ h4)) rfl ⟨rfl, h5⟩
end Go.Proofs.YtfclkkbmgclfgaaDoor

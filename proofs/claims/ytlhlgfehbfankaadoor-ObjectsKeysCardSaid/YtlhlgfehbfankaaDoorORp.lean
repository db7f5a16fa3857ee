/- objects: the definition's Prepared. -/
import Derived.Test.YtlhlgfehbfankaaDoorORk
namespace Go.Proofs.YtlhlgfehbfankaaDoor
open Go.RowKit
section
variable {w : World} {A : Option Addr} {l : List Oj} {cap : Nat}
set_option maxRecDepth 100000 in
set_option maxHeartbeats 2000000 in
theorem rprep_bad (h0 : 0 < l.length) (x : Ky) (h : ¬ x.ok) :
    Calls Tryd.prog 24 #[.slice A l.length cap, x.val] w fun e w' => e = .returned zk.val ∧ Below w.heap.size w w' := by
  have HB0 := Lib.hid (((Below.refl w.heap.size w).alloc (Nat.le_refl _) (.cells (kc x.k x.o x.c x.l x.r x.v) 30)).alloc (by simp) (.cells (kc 0 0 0 0 0 0) 30))
  have HK0 := Lib.hid ((Blk.new w 30 (kc x.k x.o x.c x.l x.r x.v)).alloc (.cells (kc 0 0 0 0 0 0) 30))
  have HZ0 := Lib.hid (show Blk ((w.alloc (.cells (kc x.k x.o x.c x.l x.r x.v) 30)).alloc (.cells (kc 0 0 0 0 0 0) 30)) (w.heap.size + 1) 30 (kc 0 0 0 0 0 0) from by have := Blk.new (w.alloc (.cells (kc x.k x.o x.c x.l x.r x.v) 30)) 30 (kc 0 0 0 0 0 0); simpa using this)
  have dl : ((l.length : Int) == 0) = false := by simp; intro e; rw [e] at h0; exact absurd h0 (by decide)
  have hl0 : l ≠ [] := by rintro rfl; exact absurd h0 (by decide)
  have HO := Lib.hid h
  clear h
  obtain ⟨c0, c1, c2, c3, c4, c5⟩ := HK0.out.six
  go_enter Tryd.func24, Tryd.ntmps24
  go_wp2_with (go_at_call 34; refine (rchk_no2 x HO.out _).mono ?_; rintro e w1 ⟨rfl, b1⟩; have HB1 := Lib.hid (HB0.out.trans (b1.mono HB0.out.size)); have HZ1 := Lib.hid (HZ0.out.keep b1); clear b1 c0 c1 c2 c3 c4 c5; obtain ⟨c0, c1, c2, c3, c4, c5⟩ := HZ1.out.six; have f0 := HZ1.out.frozen 0; have f1 := HZ1.out.frozen 1; have f2 := HZ1.out.frozen 2; have f3 := HZ1.out.frozen 3; have f4 := HZ1.out.frozen 4; have f5 := HZ1.out.frozen 5)
  exact bodyPost_ret (results_key rfl _ _ (w.heap.size + 1) zk rfl ((((((HZ1.out.set_ 0 (.int .i64 0)).set_ 1 (.int .i64 0)).set_ 2 (.int .i64 0)).set_ 3 (.int .i64 0)).set_ 4 (.int .i64 0)).set_ 5 (.int .i64 0))) rfl ⟨rfl, below_set6 HB1.out (by omega) _ _ _ _ _ _⟩
set_option maxRecDepth 100000 in
set_option maxHeartbeats 2000000 in
theorem rprep_not (hr : RdO w A l) (hl : l.length ≤ 1000) (h0 : 0 < l.length) (x : Ky) (h : x.ok) (hf : ¬ x.of) :
    Calls Tryd.prog 24 #[.slice A l.length cap, x.val] w fun e w' => e = .returned x.val ∧ Below w.heap.size w w' := by
  have HB0 := Lib.hid (((Below.refl w.heap.size w).alloc (Nat.le_refl _) (.cells (kc x.k x.o x.c x.l x.r x.v) 30)).alloc (by simp) (.cells (kc 0 0 0 0 0 0) 30))
  have HR0 := Lib.hid ((hr.alloc (.cells (kc x.k x.o x.c x.l x.r x.v) 30)).alloc (.cells (kc 0 0 0 0 0 0) 30))
  have HL := Lib.hid hl
  have HK0 := Lib.hid ((Blk.new w 30 (kc x.k x.o x.c x.l x.r x.v)).alloc (.cells (kc 0 0 0 0 0 0) 30))
  have HZ0 := Lib.hid (show Blk ((w.alloc (.cells (kc x.k x.o x.c x.l x.r x.v) 30)).alloc (.cells (kc 0 0 0 0 0 0) 30)) (w.heap.size + 1) 30 (kc 0 0 0 0 0 0) from by have := Blk.new (w.alloc (.cells (kc x.k x.o x.c x.l x.r x.v) 30)) 30 (kc 0 0 0 0 0 0); simpa using this)
  have dl : ((l.length : Int) == 0) = false := by simp; intro e; rw [e] at h0; exact absurd h0 (by decide)
  have hl0 : l ≠ [] := by rintro rfl; exact absurd h0 (by decide)
  have HO := Lib.hid h
  have HF := Lib.hid hf
  have dn : decide ((0 : Int) ≤ -1) = false := by decide
  clear h hf
  obtain ⟨c0, c1, c2, c3, c4, c5⟩ := HK0.out.six
  clear hr
  go_enter Tryd.func24, Tryd.ntmps24
  go_wp2_with (first
    | (go_at_call 34; refine (Ky.chk_yes HO.out ▸ rchk_any x _).mono ?_; rintro e w1 ⟨rfl, b1⟩; have HB1 := Lib.hid (HB0.out.trans (b1.mono HB0.out.size)); have HR1 := Lib.hid (HR0.out.below b1); have HK1 := Lib.hid (HK0.out.keep b1); have HZ1 := Lib.hid (HZ0.out.keep b1); clear b1 c0 c1 c2 c3 c4 c5; obtain ⟨c0, c1, c2, c3, c4, c5⟩ := HK1.out.six)
    | (go_at_call 23; refine (rname_no x _ HF.out).mono ?_; rintro e w2 ⟨rfl, b2⟩; have HB2 := Lib.hid (HB1.out.trans (b2.mono HB1.out.size)); have HR2 := Lib.hid (HR1.out.below b2); have HK2 := Lib.hid (HK1.out.keep b2); have HZ2 := Lib.hid (HZ1.out.keep b2); clear b2 c0 c1 c2 c3 c4 c5; obtain ⟨c0, c1, c2, c3, c4, c5⟩ := HK2.out.six)
    | (refine wpList_store_ky (y := zk) HZ2.out rfl (.tmp 4) (.tmp 25) rfl (by rfl) x (by rfl) ?_))
  exact bodyPost_ret (results_key rfl _ _ (w.heap.size + 1) x rfl (HZ2.out.setRow _)) rfl ⟨rfl, below_setRow HB2.out (by omega) _⟩
set_option maxRecDepth 100000 in
set_option maxHeartbeats 2000000 in
theorem rprep_yes (hr : RdO w A l) (hl : l.length ≤ 1000) (h0 : 0 < l.length) (x : Ky) (hf : x.of) (hn : (named l x).isSome = true) :
    Calls Tryd.prog 24 #[.slice A l.length cap, x.val] w fun e w' => e = .returned x.val ∧ Below w.heap.size w w' := by
  have HB0 := Lib.hid (((Below.refl w.heap.size w).alloc (Nat.le_refl _) (.cells (kc x.k x.o x.c x.l x.r x.v) 30)).alloc (by simp) (.cells (kc 0 0 0 0 0 0) 30))
  have HR0 := Lib.hid ((hr.alloc (.cells (kc x.k x.o x.c x.l x.r x.v) 30)).alloc (.cells (kc 0 0 0 0 0 0) 30))
  have HL := Lib.hid hl
  have HK0 := Lib.hid ((Blk.new w 30 (kc x.k x.o x.c x.l x.r x.v)).alloc (.cells (kc 0 0 0 0 0 0) 30))
  have HZ0 := Lib.hid (show Blk ((w.alloc (.cells (kc x.k x.o x.c x.l x.r x.v) 30)).alloc (.cells (kc 0 0 0 0 0 0) 30)) (w.heap.size + 1) 30 (kc 0 0 0 0 0 0) from by have := Blk.new (w.alloc (.cells (kc x.k x.o x.c x.l x.r x.v) 30)) 30 (kc 0 0 0 0 0 0); simpa using this)
  have dl : ((l.length : Int) == 0) = false := by simp; intro e; rw [e] at h0; exact absurd h0 (by decide)
  have hl0 : l ≠ [] := by rintro rfl; exact absurd h0 (by decide)
  have HO := Lib.hid hf.1
  have HF := Lib.hid hf
  have HN := Lib.hid hn
  have dn : decide ((0 : Int) ≤ x.o) = true := decide_eq_true (of_o hf)
  clear hf hn
  obtain ⟨c0, c1, c2, c3, c4, c5⟩ := HK0.out.six
  clear hr
  go_enter Tryd.func24, Tryd.ntmps24
  go_wp2_with (first
    | (go_at_call 34; refine (Ky.chk_yes HO.out ▸ rchk_any x _).mono ?_; rintro e w1 ⟨rfl, b1⟩; have HB1 := Lib.hid (HB0.out.trans (b1.mono HB0.out.size)); have HR1 := Lib.hid (HR0.out.below b1); have HK1 := Lib.hid (HK0.out.keep b1); have HZ1 := Lib.hid (HZ0.out.keep b1); clear b1 c0 c1 c2 c3 c4 c5; obtain ⟨c0, c1, c2, c3, c4, c5⟩ := HK1.out.six)
    | (go_at_call 23; refine (rname_yes x _ HF.out).mono ?_; rintro e w2 ⟨rfl, b2⟩; have HB2 := Lib.hid (HB1.out.trans (b2.mono HB1.out.size)); have HR2 := Lib.hid (HR1.out.below b2); have HK2 := Lib.hid (HK1.out.keep b2); have HZ2 := Lib.hid (HZ1.out.keep b2); clear b2 c0 c1 c2 c3 c4 c5; obtain ⟨c0, c1, c2, c3, c4, c5⟩ := HK2.out.six)
    | (go_at_call 22; refine (HN.out ▸ rcounts_any HR2.out HL.out x).mono ?_; rintro e w3 ⟨rfl, b3⟩; have HB3 := Lib.hid (HB2.out.trans (b3.mono HB2.out.size)); have HR3 := Lib.hid (HR2.out.below b3); have HK3 := Lib.hid (HK2.out.keep b3); have HZ3 := Lib.hid (HZ2.out.keep b3); clear b3 c0 c1 c2 c3 c4 c5; obtain ⟨c0, c1, c2, c3, c4, c5⟩ := HK3.out.six)
    | (refine wpList_store_ky (y := zk) HZ3.out rfl (.tmp 4) (.tmp 25) rfl (by rfl) x (by rfl) ?_))
  exact bodyPost_ret (results_key rfl _ _ (w.heap.size + 1) x rfl (HZ3.out.setRow _)) rfl ⟨rfl, below_setRow HB3.out (by omega) _⟩
set_option maxRecDepth 100000 in
set_option maxHeartbeats 2000000 in
theorem rprep_no (hr : RdO w A l) (hl : l.length ≤ 1000) (h0 : 0 < l.length) (x : Ky) (hf : x.of) (hn : (named l x).isSome = false) :
    Calls Tryd.prog 24 #[.slice A l.length cap, x.val] w fun e w' => e = .returned zk.val ∧ Below w.heap.size w w' := by
  have HB0 := Lib.hid (((Below.refl w.heap.size w).alloc (Nat.le_refl _) (.cells (kc x.k x.o x.c x.l x.r x.v) 30)).alloc (by simp) (.cells (kc 0 0 0 0 0 0) 30))
  have HR0 := Lib.hid ((hr.alloc (.cells (kc x.k x.o x.c x.l x.r x.v) 30)).alloc (.cells (kc 0 0 0 0 0 0) 30))
  have HL := Lib.hid hl
  have HK0 := Lib.hid ((Blk.new w 30 (kc x.k x.o x.c x.l x.r x.v)).alloc (.cells (kc 0 0 0 0 0 0) 30))
  have HZ0 := Lib.hid (show Blk ((w.alloc (.cells (kc x.k x.o x.c x.l x.r x.v) 30)).alloc (.cells (kc 0 0 0 0 0 0) 30)) (w.heap.size + 1) 30 (kc 0 0 0 0 0 0) from by have := Blk.new (w.alloc (.cells (kc x.k x.o x.c x.l x.r x.v) 30)) 30 (kc 0 0 0 0 0 0); simpa using this)
  have dl : ((l.length : Int) == 0) = false := by simp; intro e; rw [e] at h0; exact absurd h0 (by decide)
  have hl0 : l ≠ [] := by rintro rfl; exact absurd h0 (by decide)
  have HO := Lib.hid hf.1
  have HF := Lib.hid hf
  have HN := Lib.hid hn
  have dn : decide ((0 : Int) ≤ x.o) = true := decide_eq_true (of_o hf)
  clear hf hn
  obtain ⟨c0, c1, c2, c3, c4, c5⟩ := HK0.out.six
  clear hr
  go_enter Tryd.func24, Tryd.ntmps24
  go_wp2_with (first
    | (go_at_call 34; refine (Ky.chk_yes HO.out ▸ rchk_any x _).mono ?_; rintro e w1 ⟨rfl, b1⟩; have HB1 := Lib.hid (HB0.out.trans (b1.mono HB0.out.size)); have HR1 := Lib.hid (HR0.out.below b1); have HK1 := Lib.hid (HK0.out.keep b1); have HZ1 := Lib.hid (HZ0.out.keep b1); clear b1 c0 c1 c2 c3 c4 c5; obtain ⟨c0, c1, c2, c3, c4, c5⟩ := HK1.out.six)
    | (go_at_call 23; refine (rname_yes x _ HF.out).mono ?_; rintro e w2 ⟨rfl, b2⟩; have HB2 := Lib.hid (HB1.out.trans (b2.mono HB1.out.size)); have HR2 := Lib.hid (HR1.out.below b2); have HK2 := Lib.hid (HK1.out.keep b2); have HZ2 := Lib.hid (HZ1.out.keep b2); clear b2 c0 c1 c2 c3 c4 c5; obtain ⟨c0, c1, c2, c3, c4, c5⟩ := HK2.out.six)
    | (go_at_call 22; refine (HN.out ▸ rcounts_any HR2.out HL.out x).mono ?_; rintro e w3 ⟨rfl, b3⟩; have HB3 := Lib.hid (HB2.out.trans (b3.mono HB2.out.size)); have HR3 := Lib.hid (HR2.out.below b3); have HK3 := Lib.hid (HK2.out.keep b3); have HZ3 := Lib.hid (HZ2.out.keep b3); clear b3 c0 c1 c2 c3 c4 c5; obtain ⟨c0, c1, c2, c3, c4, c5⟩ := HK3.out.six)
    | (refine wpList_store_ky (y := zk) HZ3.out rfl (.tmp 4) (.tmp 24) rfl (by rfl) zk (by rfl) ?_))
  exact bodyPost_ret (results_key rfl _ _ (w.heap.size + 1) zk rfl (HZ3.out.setRow _)) rfl ⟨rfl, below_setRow HB3.out (by omega) _⟩
theorem cn_oz {x : Ky} : x.cn oz = true ↔ x.ok ∧ ¬ x.of := by
  unfold Ky.cn
  constructor
  · intro h
    have hh : x.ok ∧ (x.of → x.want = 0 ∧ x.c = 0 ∧ (x.k ≠ 7 ∨ x.l = 0)) := by
      unfold Ky.cnt at h
      have h' := @of_decide_eq_true _ (Classical.propDecidable _) h
      exact h'
    refine ⟨hh.1, fun hf => ?_⟩
    have h1 := (hh.2 hf).1
    unfold Ky.want at h1
    rw [if_pos hf] at h1
    split at h1 <;> omega
  · rintro ⟨h1, h2⟩
    exact cnt_yes ⟨h1, fun h => absurd h h2⟩
theorem rprep_any (hr : RdO w A l) (hl : l.length ≤ 1000) (h0 : 0 < l.length) (x : Ky) :
    Calls Tryd.prog 24 #[.slice A l.length cap, x.val] w fun e w' => e = .returned (prepd l x).val ∧ Below w.heap.size w w' := by
  unfold prepd
  by_cases ho : x.ok
  · by_cases hf : x.of
    · have hz : x.cn oz = false := by
        cases h : x.cn oz with
        | false => rfl
        | true => exact absurd hf (cn_oz.1 h).2
      cases hn : (named l x).isSome with
      | true => exact rprep_yes hr hl h0 x hf hn
      | false => rw [hz]; exact rprep_no hr hl h0 x hf hn
    · rw [cn_oz.2 ⟨ho, hf⟩, Bool.or_true]
      exact rprep_not hr hl h0 x ho hf
  · have hz : x.cn oz = false := by
      cases h : x.cn oz with
      | false => rfl
      | true => exact absurd (cn_oz.1 h).1 ho
    rw [named_not (fun h => ho h.1), hz]
    exact rprep_bad h0 x ho
theorem prepd_idem (os : List Oj) (x : Ky) : prepd os (prepd os x) = prepd os x := by
  by_cases h : ((named os x).isSome || x.cn oz) = true
  · have e : prepd os x = x := if_pos h
    rw [e, e]
  · have e : prepd os x = zk := if_neg h
    rw [e]
    unfold prepd
    split <;> rfl
end
end Go.Proofs.YtlhlgfehbfankaaDoor

/- nodes: prepared. -/
import Derived.Test.YtliakhknmckdgaaDoorNAll
namespace Go.Proofs.YtliakhknmckdgaaDoor
open Go.RowKit
set_option maxRecDepth 8000 in
theorem ak_slots (p : Nat) (x : Ky) (u : Oj) (s : List Ky) (hs : s.length = 16) : (akc p x u).take 10 ++ kcs s ++ (akc p x u).drop (10 + (kcs s).length) = akc p x (slotsAs u s hs) := by
  have h96 := kcs_len hs
  have hl : (kcs u.s).length = 96 := kcs_len u.hs
  rw [h96]
  unfold akc Oj.cells slotsAs
  simp only [kl, List.cons_append, List.nil_append, List.take_succ_cons, List.take_zero, List.drop_succ_cons]
  rw [List.drop_append_of_le_length (by omega), List.drop_of_length_le (by omega)]
  simp
set_option maxRecDepth 8000 in
theorem zks_eq {l : List Ky} (hl : l.length = 16) : (kcs zks).length = (kcs l).length := by rw [zks_len, kcs_len hl]
set_option maxRecDepth 8000 in
theorem sl_size {l : List Ky} (hl : l.length = 16) : (Tryd.prog.info? 95).map (·.size) = some (kcs l).length := by rw [kcs_len hl]; exact size95
set_option maxRecDepth 8000 in
theorem built95 : Tryd.prog.built 95 [] = some (kcs zks).toArray := by kernel_rfl
section
variable {w : World} {base p : Nat} {A : Option Addr} {cap : Nat} {ps : List Nat} {os : List Oj}
theorem put_x (h : StAt w base p A cap ps os) (hT : Tab w) (i : Nat) (hi : i < os.length) (o : Oj) (hc : o.ok os.length) {n : Int} (hn : n = (i : Int)) :
    Calls Tryd.prog 71 #[pv p, .int .i64 n, o.val] w fun e' w' => e' = .returned (.int .i64 0) ∧ StAt w' base p A cap ps (os.set i o) ∧ Fr (fun k => k ∈ ps) w w' := hn ▸ put_ok h hT i hi o hc
set_option maxRecDepth 100000 in
set_option maxHeartbeats 2000000 in
theorem prd_bad (h : StAt w base p A cap ps os) (hn : 0 < os.length) (hT : Tab w) (x : Ky) (u : Oj) (v : Ky) (hv : ¬ v.ok) :
    Calls Tryd.prog 40 #[akv p x u, v.val] w fun e w' => e = .panicked (erc 2) ∧ Below w.heap.size w w' := by
  have hbl := akc_len p x u
  obtain ⟨m, hm⟩ : ∃ m : Int, m = (os.length : Int) := ⟨_, rfl⟩
  have HV := Lib.hid hv
  have HVF := Lib.hid (show ¬ v.of from fun h => hv h.1)
  clear hv
  have HM := Lib.hid hm
  have HN := Lib.hid hn
  have HS0 := Lib.hid (((h.alloc (.cells (akc p x u).toArray 93)).alloc (.cells (kc v.k v.o v.c v.l v.r v.v) 32)).alloc (.cells (kc 0 0 0 0 0 0) 32))
  have HT0 := Lib.hid (((hT.alloc (.cells (akc p x u).toArray 93)).alloc (.cells (kc v.k v.o v.c v.l v.r v.v) 32)).alloc (.cells (kc 0 0 0 0 0 0) 32))
  have HB0 := Lib.hid ((((Below.refl w.heap.size w).alloc (Nat.le_refl _) (.cells (akc p x u).toArray 93)).alloc (by simp) (.cells (kc v.k v.o v.c v.l v.r v.v) 32)).alloc (by simp; omega) (.cells (kc 0 0 0 0 0 0) 32))
  have HK0 := Lib.hid (((Blk.new w 93 (akc p x u).toArray).alloc (.cells (kc v.k v.o v.c v.l v.r v.v) 32)).alloc (.cells (kc 0 0 0 0 0 0) 32))
  have HV0 := Lib.hid ((Blk.new_of (w.alloc (.cells (akc p x u).toArray 93)) 32 (kc v.k v.o v.c v.l v.r v.v) (g := w.heap.size + 1) (by simp)).alloc (.cells (kc 0 0 0 0 0 0) 32))
  have HR0 := Lib.hid (Blk.new_of ((w.alloc (.cells (akc p x u).toArray 93)).alloc (.cells (kc v.k v.o v.c v.l v.r v.v) 32)) 32 (kc 0 0 0 0 0 0) (g := w.heap.size + 1 + 1) (by simp))
  clear h hT hm hn
  go_enter Tryd.func40, Tryd.ntmps40
  go_wp2_with (first
    | (go_at_call 69; refine (kname_no v _ HT0.out HVF.out).mono ?_; rintro e w1 ⟨rfl, b1⟩; have HB1 := Lib.hid (HB0.out.trans (b1.mono HB0.out.size)); have HK1 := Lib.hid (HK0.out.keep b1); have HV1 := Lib.hid (HV0.out.keep b1); have HR1 := Lib.hid (HR0.out.keep b1); have HS1 := Lib.hid (HS0.out.below b1); have HT1 := Lib.hid (HT0.out.below b1); obtain ⟨c0, c1, c2, c3, c4, c5⟩ := HV1.out.six; have d0 := HK1.out.ak.p0; clear b1)
    | (go_at_call 70; refine (kchk_no v _ HT1.out HV.out).mono ?_; rintro e w2 ⟨rfl, b2⟩; have HB2 := Lib.hid (HB1.out.trans (b2.mono HB1.out.size)); have HK2 := Lib.hid (HK1.out.keep b2); have HV2 := Lib.hid (HV1.out.keep b2); have HR2 := Lib.hid (HR1.out.keep b2); have HS2 := Lib.hid (HS1.out.below b2); have HT2 := Lib.hid (HT1.out.below b2); clear c0 c1 c2 c3 c4 c5 d0; obtain ⟨c0, c1, c2, c3, c4, c5⟩ := HV2.out.six; have d0 := HK2.out.ak.p0; clear b2))
  exact ⟨rfl, rfl, HB2.out⟩
set_option maxRecDepth 100000 in
set_option maxHeartbeats 2000000 in
theorem prd_out (h : StAt w base p A cap ps os) (hn : 0 < os.length) (hT : Tab w) (x : Ky) (u : Oj) (v : Ky) (hv : v.of) (ho : (os.length : Int) ≤ v.o) :
    Calls Tryd.prog 40 #[akv p x u, v.val] w fun e w' => e = .panicked (erc 2) ∧ Below w.heap.size w w' := by
  have hbl := akc_len p x u
  obtain ⟨m, hm⟩ : ∃ m : Int, m = (os.length : Int) := ⟨_, rfl⟩
  have HV := Lib.hid hv
  have dm : decide (m ≤ v.o) = true := decide_eq_true (by omega)
  clear hv ho
  have HM := Lib.hid hm
  have HN := Lib.hid hn
  have HS0 := Lib.hid (((h.alloc (.cells (akc p x u).toArray 93)).alloc (.cells (kc v.k v.o v.c v.l v.r v.v) 32)).alloc (.cells (kc 0 0 0 0 0 0) 32))
  have HT0 := Lib.hid (((hT.alloc (.cells (akc p x u).toArray 93)).alloc (.cells (kc v.k v.o v.c v.l v.r v.v) 32)).alloc (.cells (kc 0 0 0 0 0 0) 32))
  have HB0 := Lib.hid ((((Below.refl w.heap.size w).alloc (Nat.le_refl _) (.cells (akc p x u).toArray 93)).alloc (by simp) (.cells (kc v.k v.o v.c v.l v.r v.v) 32)).alloc (by simp; omega) (.cells (kc 0 0 0 0 0 0) 32))
  have HK0 := Lib.hid (((Blk.new w 93 (akc p x u).toArray).alloc (.cells (kc v.k v.o v.c v.l v.r v.v) 32)).alloc (.cells (kc 0 0 0 0 0 0) 32))
  have HV0 := Lib.hid ((Blk.new_of (w.alloc (.cells (akc p x u).toArray 93)) 32 (kc v.k v.o v.c v.l v.r v.v) (g := w.heap.size + 1) (by simp)).alloc (.cells (kc 0 0 0 0 0 0) 32))
  have HR0 := Lib.hid (Blk.new_of ((w.alloc (.cells (akc p x u).toArray 93)).alloc (.cells (kc v.k v.o v.c v.l v.r v.v) 32)) 32 (kc 0 0 0 0 0 0) (g := w.heap.size + 1 + 1) (by simp))
  clear h hT hm hn
  go_enter Tryd.func40, Tryd.ntmps40
  go_wp2_with (first
    | (go_at_call 69; refine (kname_yes v _ HT0.out HV.out).mono ?_; rintro e w1 ⟨rfl, b1⟩; have HB1 := Lib.hid (HB0.out.trans (b1.mono HB0.out.size)); have HK1 := Lib.hid (HK0.out.keep b1); have HV1 := Lib.hid (HV0.out.keep b1); have HR1 := Lib.hid (HR0.out.keep b1); have HS1 := Lib.hid (HS0.out.below b1); have HT1 := Lib.hid (HT0.out.below b1); obtain ⟨c0, c1, c2, c3, c4, c5⟩ := HV1.out.six; have d0 := HK1.out.ak.p0; clear b1)
    | (go_at_call 70; refine (kchk_yes v _ HT1.out HV.out.1).mono ?_; rintro e w2 ⟨rfl, b2⟩; have HB2 := Lib.hid (HB1.out.trans (b2.mono HB1.out.size)); have HK2 := Lib.hid (HK1.out.keep b2); have HV2 := Lib.hid (HV1.out.keep b2); have HR2 := Lib.hid (HR1.out.keep b2); have HS2 := Lib.hid (HS1.out.below b2); have HT2 := Lib.hid (HT1.out.below b2); clear c0 c1 c2 c3 c4 c5 d0; obtain ⟨c0, c1, c2, c3, c4, c5⟩ := HV2.out.six; have d0 := HK2.out.ak.p0; clear b2)
    | (go_at_call 67; refine (size_m HS2.out HN.out HM.out).mono ?_; rintro e w9 ⟨rfl, rfl⟩))
  exact ⟨rfl, rfl, HB2.out⟩
set_option maxRecDepth 100000 in
set_option maxHeartbeats 2000000 in
theorem prd_in (h : StAt w base p A cap ps os) (hn : 0 < os.length) (hT : Tab w) (x : Ky) (u : Oj) (v : Ky) (hv : v.of) (ho : v.o < (os.length : Int)) :
    Calls Tryd.prog 40 #[akv p x u, v.val] w fun e w' => e = .returned (prepd os v).val ∧ Below w.heap.size w w' := by
  have hbl := akc_len p x u
  obtain ⟨m, hm⟩ : ∃ m : Int, m = (os.length : Int) := ⟨_, rfl⟩
  have HV := Lib.hid hv
  have dm : decide (m ≤ v.o) = false := decide_eq_false (by omega)
  clear hv ho
  have HM := Lib.hid hm
  have HN := Lib.hid hn
  have HS0 := Lib.hid (((h.alloc (.cells (akc p x u).toArray 93)).alloc (.cells (kc v.k v.o v.c v.l v.r v.v) 32)).alloc (.cells (kc 0 0 0 0 0 0) 32))
  have HT0 := Lib.hid (((hT.alloc (.cells (akc p x u).toArray 93)).alloc (.cells (kc v.k v.o v.c v.l v.r v.v) 32)).alloc (.cells (kc 0 0 0 0 0 0) 32))
  have HB0 := Lib.hid ((((Below.refl w.heap.size w).alloc (Nat.le_refl _) (.cells (akc p x u).toArray 93)).alloc (by simp) (.cells (kc v.k v.o v.c v.l v.r v.v) 32)).alloc (by simp; omega) (.cells (kc 0 0 0 0 0 0) 32))
  have HK0 := Lib.hid (((Blk.new w 93 (akc p x u).toArray).alloc (.cells (kc v.k v.o v.c v.l v.r v.v) 32)).alloc (.cells (kc 0 0 0 0 0 0) 32))
  have HV0 := Lib.hid ((Blk.new_of (w.alloc (.cells (akc p x u).toArray 93)) 32 (kc v.k v.o v.c v.l v.r v.v) (g := w.heap.size + 1) (by simp)).alloc (.cells (kc 0 0 0 0 0 0) 32))
  have HR0 := Lib.hid (Blk.new_of ((w.alloc (.cells (akc p x u).toArray 93)).alloc (.cells (kc v.k v.o v.c v.l v.r v.v) 32)) 32 (kc 0 0 0 0 0 0) (g := w.heap.size + 1 + 1) (by simp))
  clear h hT hm hn
  go_enter Tryd.func40, Tryd.ntmps40
  go_wp2_with (first
    | (go_at_call 69; refine (kname_yes v _ HT0.out HV.out).mono ?_; rintro e w1 ⟨rfl, b1⟩; have HB1 := Lib.hid (HB0.out.trans (b1.mono HB0.out.size)); have HK1 := Lib.hid (HK0.out.keep b1); have HV1 := Lib.hid (HV0.out.keep b1); have HR1 := Lib.hid (HR0.out.keep b1); have HS1 := Lib.hid (HS0.out.below b1); have HT1 := Lib.hid (HT0.out.below b1); obtain ⟨c0, c1, c2, c3, c4, c5⟩ := HV1.out.six; have d0 := HK1.out.ak.p0; clear b1)
    | (go_at_call 70; refine (kchk_yes v _ HT1.out HV.out.1).mono ?_; rintro e w2 ⟨rfl, b2⟩; have HB2 := Lib.hid (HB1.out.trans (b2.mono HB1.out.size)); have HK2 := Lib.hid (HK1.out.keep b2); have HV2 := Lib.hid (HV1.out.keep b2); have HR2 := Lib.hid (HR1.out.keep b2); have HS2 := Lib.hid (HS1.out.below b2); have HT2 := Lib.hid (HT1.out.below b2); clear c0 c1 c2 c3 c4 c5 d0; obtain ⟨c0, c1, c2, c3, c4, c5⟩ := HV2.out.six; have d0 := HK2.out.ak.p0; clear b2)
    | (go_at_call 67; refine (size_m HS2.out HN.out HM.out).mono ?_; rintro e w9 ⟨rfl, rfl⟩)
    | (go_at_call 19; refine (prep_at HS2.out HN.out HT2.out v).mono ?_; rintro e w3 ⟨rfl, b3⟩; have HB3 := Lib.hid (HB2.out.trans (b3.mono HB2.out.size)); have HK3 := Lib.hid (HK2.out.keep b3); have HV3 := Lib.hid (HV2.out.keep b3); have HR3 := Lib.hid (HR2.out.keep b3); have HS3 := Lib.hid (HS2.out.below b3); have HT3 := Lib.hid (HT2.out.below b3); clear c0 c1 c2 c3 c4 c5 d0; obtain ⟨c0, c1, c2, c3, c4, c5⟩ := HV3.out.six; have d0 := HK3.out.ak.p0; clear b3)
    | (refine wpList_store_ky (y := zk) HR3.out rfl (.tmp 4) (.tmp 31) rfl (by rfl) (prepd os v) (by rfl) ?_))
  exact bodyPost_ret (results_key rfl _ _ (w.heap.size + 1 + 1) (prepd os v) rfl (HR3.out.setRow _)) rfl ⟨rfl, below_setRow HB3.out (by omega) _⟩
set_option maxRecDepth 100000 in
set_option maxHeartbeats 2000000 in
theorem prd_not (h : StAt w base p A cap ps os) (hn : 0 < os.length) (hT : Tab w) (x : Ky) (u : Oj) (v : Ky) (hv : v.ok) (hf : ¬ v.of) :
    Calls Tryd.prog 40 #[akv p x u, v.val] w fun e w' => e = .returned (prepd os v).val ∧ Below w.heap.size w w' := by
  have hbl := akc_len p x u
  obtain ⟨m, hm⟩ : ∃ m : Int, m = (os.length : Int) := ⟨_, rfl⟩
  have HV := Lib.hid hv
  have HVF := Lib.hid hf
  clear hv hf
  have HM := Lib.hid hm
  have HN := Lib.hid hn
  have HS0 := Lib.hid (((h.alloc (.cells (akc p x u).toArray 93)).alloc (.cells (kc v.k v.o v.c v.l v.r v.v) 32)).alloc (.cells (kc 0 0 0 0 0 0) 32))
  have HT0 := Lib.hid (((hT.alloc (.cells (akc p x u).toArray 93)).alloc (.cells (kc v.k v.o v.c v.l v.r v.v) 32)).alloc (.cells (kc 0 0 0 0 0 0) 32))
  have HB0 := Lib.hid ((((Below.refl w.heap.size w).alloc (Nat.le_refl _) (.cells (akc p x u).toArray 93)).alloc (by simp) (.cells (kc v.k v.o v.c v.l v.r v.v) 32)).alloc (by simp; omega) (.cells (kc 0 0 0 0 0 0) 32))
  have HK0 := Lib.hid (((Blk.new w 93 (akc p x u).toArray).alloc (.cells (kc v.k v.o v.c v.l v.r v.v) 32)).alloc (.cells (kc 0 0 0 0 0 0) 32))
  have HV0 := Lib.hid ((Blk.new_of (w.alloc (.cells (akc p x u).toArray 93)) 32 (kc v.k v.o v.c v.l v.r v.v) (g := w.heap.size + 1) (by simp)).alloc (.cells (kc 0 0 0 0 0 0) 32))
  have HR0 := Lib.hid (Blk.new_of ((w.alloc (.cells (akc p x u).toArray 93)).alloc (.cells (kc v.k v.o v.c v.l v.r v.v) 32)) 32 (kc 0 0 0 0 0 0) (g := w.heap.size + 1 + 1) (by simp))
  clear h hT hm hn
  go_enter Tryd.func40, Tryd.ntmps40
  go_wp2_with (first
    | (go_at_call 69; refine (kname_no v _ HT0.out HVF.out).mono ?_; rintro e w1 ⟨rfl, b1⟩; have HB1 := Lib.hid (HB0.out.trans (b1.mono HB0.out.size)); have HK1 := Lib.hid (HK0.out.keep b1); have HV1 := Lib.hid (HV0.out.keep b1); have HR1 := Lib.hid (HR0.out.keep b1); have HS1 := Lib.hid (HS0.out.below b1); have HT1 := Lib.hid (HT0.out.below b1); obtain ⟨c0, c1, c2, c3, c4, c5⟩ := HV1.out.six; have d0 := HK1.out.ak.p0; clear b1)
    | (go_at_call 70; refine (kchk_yes v _ HT1.out HV.out).mono ?_; rintro e w2 ⟨rfl, b2⟩; have HB2 := Lib.hid (HB1.out.trans (b2.mono HB1.out.size)); have HK2 := Lib.hid (HK1.out.keep b2); have HV2 := Lib.hid (HV1.out.keep b2); have HR2 := Lib.hid (HR1.out.keep b2); have HS2 := Lib.hid (HS1.out.below b2); have HT2 := Lib.hid (HT1.out.below b2); clear c0 c1 c2 c3 c4 c5 d0; obtain ⟨c0, c1, c2, c3, c4, c5⟩ := HV2.out.six; have d0 := HK2.out.ak.p0; clear b2)
    | (go_at_call 19; refine (prep_at HS2.out HN.out HT2.out v).mono ?_; rintro e w3 ⟨rfl, b3⟩; have HB3 := Lib.hid (HB2.out.trans (b3.mono HB2.out.size)); have HK3 := Lib.hid (HK2.out.keep b3); have HV3 := Lib.hid (HV2.out.keep b3); have HR3 := Lib.hid (HR2.out.keep b3); have HS3 := Lib.hid (HS2.out.below b3); have HT3 := Lib.hid (HT2.out.below b3); clear c0 c1 c2 c3 c4 c5 d0; obtain ⟨c0, c1, c2, c3, c4, c5⟩ := HV3.out.six; have d0 := HK3.out.ak.p0; clear b3)
    | (refine wpList_store_ky (y := zk) HR3.out rfl (.tmp 4) (.tmp 31) rfl (by rfl) (prepd os v) (by rfl) ?_))
  exact bodyPost_ret (results_key rfl _ _ (w.heap.size + 1 + 1) (prepd os v) rfl (HR3.out.setRow _)) rfl ⟨rfl, below_setRow HB3.out (by omega) _⟩
set_option maxRecDepth 8000 in
theorem prd_yes (h : StAt w base p A cap ps os) (hn : 0 < os.length) (hT : Tab w) (x : Ky) (u : Oj) (v : Ky) (hv : v.may os.length) :
    Calls Tryd.prog 40 #[akv p x u, v.val] w fun e w' => e = .returned (prepd os v).val ∧ Below w.heap.size w w' := by
  by_cases hf : v.of
  · exact prd_in h hn hT x u v hf (hv.2 hf)
  · exact prd_not h hn hT x u v hv.1 hf
set_option maxRecDepth 8000 in
theorem prd_no (h : StAt w base p A cap ps os) (hn : 0 < os.length) (hT : Tab w) (x : Ky) (u : Oj) (v : Ky) (hv : ¬ v.may os.length) :
    Calls Tryd.prog 40 #[akv p x u, v.val] w fun e w' => e = .panicked (erc 2) ∧ Below w.heap.size w w' := by
  by_cases hk : v.ok
  · by_cases hf : v.of
    · exact prd_out h hn hT x u v hf (by by_cases ho : (os.length : Int) ≤ v.o; exact ho; exact absurd ⟨hk, fun _ => by omega⟩ hv)
    · exact absurd ⟨hk, fun h => absurd h hf⟩ hv
  · exact prd_bad h hn hT x u v hk
end
end Go.Proofs.YtliakhknmckdgaaDoor

/- nodes: all, prepared, change. -/
import Derived.Test.YtogkdhpnbpgheaaGreatDoorR12
import Derived.Test.YtogkdhpnbpgheaaGreatDoorR09
namespace Go.Proofs.YtogkdhpnbpgheaaGreatDoor
open Go.RowKit
/-- a node with other slots -/
def slotsAs (o : Oj) (s : List Ky) (hs : s.length = 16) : Oj := { o with s := s, hs := hs }
/-- what is got of each slot -/
noncomputable def gots (os : List Oj) (x : Ky) (u : Oj) : List Ky := u.s.map (gotK os x)
set_option maxRecDepth 8000 in
theorem gots_len (os : List Oj) (x : Ky) (u : Oj) : (gots os x u).length = 16 := by rw [gots, List.length_map, u.hs]
set_option maxRecDepth 8000 in
theorem weak_ok {x : Ky} (h : x.ok) : x.weak.ok := by
  by_cases h1 : x.k = 0 ∨ x.k = 1 ∨ x.k = 8
  · rw [weak_self h1]
    exact h
  · by_cases h2 : x.k = 2 ∨ x.k = 3
    · rw [weak_less h2]
      obtain ⟨n, hk, hn, o0, o1, c0, c1, l0, l1, r0, r1, hv⟩ := h
      have e8 : x.r.toNat < 8 := by
        have : kRts n ≤ 7 := by unfold kRts; split <;> (try split) <;> omega
        omega
      refine ⟨n, hk, hn, o0, o1, c0, c1, l0, l1, by simp, ?_, hv⟩
      rcases h2 with h2 | h2
      · have hn2 : n = 2 := by omega
        subst hn2
        rw [h2]
        have : ∀ r, r < 8 → lsN r 3 (rm 2) ≤ 7 := by decide
        have h7 := this _ e8
        have e7 : kRts 2 = 7 := rfl
        show ((lsN x.r.toNat 3 (rm 2) : Nat) : Int) ≤ kRts 2
        omega
      · have hn3 : n = 3 := by omega
        subst hn3
        rw [h2]
        have e1 : kRts 3 = 1 := rfl
        have : ∀ r, r < 2 → lsN r 3 (rm 3) ≤ 1 := by decide
        have h7 := this x.r.toNat (by omega)
        show ((lsN x.r.toNat 3 (rm 3) : Nat) : Int) ≤ kRts 3
        omega
    · rw [weak_void (by omega)]
      exact zk_ok
set_option maxRecDepth 8000 in
theorem gotK_ok (os : List Oj) (x y : Ky) : (gotK os x y).ok := by
  unfold gotK
  by_cases h : x.r / 2 % 2 = 1
  · rw [if_pos h]
    exact weak_ok (prepd_ok os y)
  · rw [if_neg h]
    exact prepd_ok os y
set_option maxRecDepth 8000 in
theorem kcs_snoc (n : Nat) (l : List Ky) (hl : l.length = n) (hn : n < 16) (z : Ky) : (kcs (l ++ List.replicate (16 - n) zk)).take (n * 6) ++ kl z ++ (kcs (l ++ List.replicate (16 - n) zk)).drop (n * 6 + (kl z).length) = kcs (l ++ [z] ++ List.replicate (16 - (n + 1)) zk) := by
  rw [kl_len, kcs_set _ n (by simp; omega)]
  congr 1
  rw [List.set_append_right _ _ (by omega), hl, Nat.sub_self, show 16 - n = (16 - (n + 1)) + 1 by omega, List.replicate_succ, List.set_cons_zero, List.append_assoc]
  rfl
set_option maxRecDepth 8000 in
theorem take_map_snoc (os : List Oj) (x : Ky) (u : Oj) (n : Nat) (hn : n < u.s.length) : (u.s.take n).map (gotK os x) ++ [gotK os x u.s[n]] = (u.s.take (n + 1)).map (gotK os x) := by
  rw [List.take_succ_eq_append_getElem hn, List.map_append]
  rfl
section
variable {w : World} {base p : Nat} {A : Option Addr} {cap : Nat} {ps : List Nat} {os : List Oj}
/-- how all stands ahead of a round -/
structure Alw (w wr : World) (p : Nat) (os : List Oj) (x : Ky) (u : Oj) (n : Nat) : Prop where
  bel : Below w.heap.size w wr
  ak : Blk wr w.heap.size 203 (akc p x u).toArray
  sl : Blk wr (w.heap.size + 1) 199 (kcs ((u.s.take n).map (gotK os x) ++ List.replicate (16 - n) zk)).toArray
end
end Go.Proofs.YtogkdhpnbpgheaaGreatDoor
namespace Go.Proofs.YtogkdhpnbpgheaaGreatDoor
open Go.RowKit
set_option maxRecDepth 8000 in
theorem ak_slots (p : Nat) (x : Ky) (u : Oj) (s : List Ky) (hs : s.length = 16) : (akc p x u).take 10 ++ kcs s ++ (akc p x u).drop (10 + (kcs s).length) = akc p x (slotsAs u s hs) := by
  have h96 := kcs_len hs
  have hl : (kcs u.s).length = 96 := kcs_len u.hs
  rw [h96]
  unfold akc Oj.cells slotsAs
  simp only [kl, List.cons_append, List.nil_append, List.take_succ_cons, List.take_zero, List.drop_succ_cons]
  rw [List.drop_append_of_le_length (by omega), List.drop_of_length_le (by omega)]
  simp
set_option maxRecDepth 8000 in
theorem zks_eq {l : List Ky} (hl : l.length = 16) : (kcs zks).length = (kcs l).length := by rw [zks_len, kcs_len hl]
set_option maxRecDepth 8000 in
theorem sl_size {l : List Ky} (hl : l.length = 16) : (Tryz.prog.info? 199).map (·.size) = some (kcs l).length := by rw [kcs_len hl]; exact size95
set_option maxRecDepth 8000 in
theorem built95 : Tryz.prog.built 199 [] = some (kcs zks).toArray := by kernel_rfl
section
variable {w : World} {base p : Nat} {A : Option Addr} {cap : Nat} {ps : List Nat} {os : List Oj}
theorem put_x (h : StAt w base p A cap ps os) (hT : Tab w) (i : Nat) (hi : i < os.length) (o : Oj) (hc : o.ok os.length) {n : Int} (hn : n = (i : Int)) :
    Calls Tryz.prog 215 #[pv p, .int .i64 n, o.val] w fun e' w' => e' = .returned (.int .i64 0) ∧ StAt w' base p A cap ps (os.set i o) ∧ Fr (fun k => k ∈ ps) w w' := hn ▸ put_ok h hT i hi o hc
set_option maxRecDepth 100000 in
set_option maxHeartbeats 2000000 in
theorem prd_bad (h : StAt w base p A cap ps os) (hn : 0 < os.length) (hT : Tab w) (x : Ky) (u : Oj) (v : Ky) (hv : ¬ v.ok) :
    Calls Tryz.prog 167 #[akv p x u, v.val] w fun e w' => e = .panicked (erc 2) ∧ Below w.heap.size w w' := by
  have hbl := akc_len p x u
  obtain ⟨m, hm⟩ : ∃ m : Int, m = (os.length : Int) := ⟨_, rfl⟩
  have HV := Lib.hid hv
  have HVF := Lib.hid (show ¬ v.of from fun h => hv h.1)
  clear hv
  have HM := Lib.hid hm
  have HN := Lib.hid hn
  have HS0 := Lib.hid (((h.alloc (.cells (akc p x u).toArray 205)).alloc (.cells (kc v.k v.o v.c v.l v.r v.v) 33)).alloc (.cells (kc 0 0 0 0 0 0) 33))
  have HT0 := Lib.hid (((hT.alloc (.cells (akc p x u).toArray 205)).alloc (.cells (kc v.k v.o v.c v.l v.r v.v) 33)).alloc (.cells (kc 0 0 0 0 0 0) 33))
  have HB0 := Lib.hid ((((Below.refl w.heap.size w).alloc (Nat.le_refl _) (.cells (akc p x u).toArray 205)).alloc (by simp) (.cells (kc v.k v.o v.c v.l v.r v.v) 33)).alloc (by simp; omega) (.cells (kc 0 0 0 0 0 0) 33))
  have HK0 := Lib.hid (((Blk.new w 205 (akc p x u).toArray).alloc (.cells (kc v.k v.o v.c v.l v.r v.v) 33)).alloc (.cells (kc 0 0 0 0 0 0) 33))
  have HV0 := Lib.hid ((Blk.new_of (w.alloc (.cells (akc p x u).toArray 205)) 33 (kc v.k v.o v.c v.l v.r v.v) (g := w.heap.size + 1) (by simp)).alloc (.cells (kc 0 0 0 0 0 0) 33))
  have HR0 := Lib.hid (Blk.new_of ((w.alloc (.cells (akc p x u).toArray 205)).alloc (.cells (kc v.k v.o v.c v.l v.r v.v) 33)) 33 (kc 0 0 0 0 0 0) (g := w.heap.size + 1 + 1) (by simp))
  clear h hT hm hn
  go_enter Tryz.func167, Tryz.ntmps167
  go_wp2_with (first
    | (go_at_call 80; refine (kname_no v _ HT0.out HVF.out).mono ?_; rintro e w1 ⟨rfl, b1⟩; have HB1 := Lib.hid (HB0.out.trans (b1.mono HB0.out.size)); have HK1 := Lib.hid (HK0.out.keep b1); have HV1 := Lib.hid (HV0.out.keep b1); have HR1 := Lib.hid (HR0.out.keep b1); have HS1 := Lib.hid (HS0.out.below b1); have HT1 := Lib.hid (HT0.out.below b1); obtain ⟨c0, c1, c2, c3, c4, c5⟩ := HV1.out.six; have d0 := HK1.out.ak.p0; clear b1)
    | (go_at_call 81; refine (kchk_no v _ HT1.out HV.out).mono ?_; rintro e w2 ⟨rfl, b2⟩; have HB2 := Lib.hid (HB1.out.trans (b2.mono HB1.out.size)); have HK2 := Lib.hid (HK1.out.keep b2); have HV2 := Lib.hid (HV1.out.keep b2); have HR2 := Lib.hid (HR1.out.keep b2); have HS2 := Lib.hid (HS1.out.below b2); have HT2 := Lib.hid (HT1.out.below b2); clear c0 c1 c2 c3 c4 c5 d0; obtain ⟨c0, c1, c2, c3, c4, c5⟩ := HV2.out.six; have d0 := HK2.out.ak.p0; clear b2))
  exact ⟨rfl, rfl, HB2.out⟩
set_option maxRecDepth 100000 in
set_option maxHeartbeats 2000000 in
theorem prd_out (h : StAt w base p A cap ps os) (hn : 0 < os.length) (hT : Tab w) (x : Ky) (u : Oj) (v : Ky) (hv : v.of) (ho : (os.length : Int) ≤ v.o) :
    Calls Tryz.prog 167 #[akv p x u, v.val] w fun e w' => e = .panicked (erc 2) ∧ Below w.heap.size w w' := by
  have hbl := akc_len p x u
  obtain ⟨m, hm⟩ : ∃ m : Int, m = (os.length : Int) := ⟨_, rfl⟩
  have HV := Lib.hid hv
  have dm : decide (m ≤ v.o) = true := decide_eq_true (by omega)
  clear hv ho
  have HM := Lib.hid hm
  have HN := Lib.hid hn
  have HS0 := Lib.hid (((h.alloc (.cells (akc p x u).toArray 205)).alloc (.cells (kc v.k v.o v.c v.l v.r v.v) 33)).alloc (.cells (kc 0 0 0 0 0 0) 33))
  have HT0 := Lib.hid (((hT.alloc (.cells (akc p x u).toArray 205)).alloc (.cells (kc v.k v.o v.c v.l v.r v.v) 33)).alloc (.cells (kc 0 0 0 0 0 0) 33))
  have HB0 := Lib.hid ((((Below.refl w.heap.size w).alloc (Nat.le_refl _) (.cells (akc p x u).toArray 205)).alloc (by simp) (.cells (kc v.k v.o v.c v.l v.r v.v) 33)).alloc (by simp; omega) (.cells (kc 0 0 0 0 0 0) 33))
  have HK0 := Lib.hid (((Blk.new w 205 (akc p x u).toArray).alloc (.cells (kc v.k v.o v.c v.l v.r v.v) 33)).alloc (.cells (kc 0 0 0 0 0 0) 33))
  have HV0 := Lib.hid ((Blk.new_of (w.alloc (.cells (akc p x u).toArray 205)) 33 (kc v.k v.o v.c v.l v.r v.v) (g := w.heap.size + 1) (by simp)).alloc (.cells (kc 0 0 0 0 0 0) 33))
  have HR0 := Lib.hid (Blk.new_of ((w.alloc (.cells (akc p x u).toArray 205)).alloc (.cells (kc v.k v.o v.c v.l v.r v.v) 33)) 33 (kc 0 0 0 0 0 0) (g := w.heap.size + 1 + 1) (by simp))
  clear h hT hm hn
  go_enter Tryz.func167, Tryz.ntmps167
  go_wp2_with (first
    | (go_at_call 80; refine (kname_yes v _ HT0.out HV.out).mono ?_; rintro e w1 ⟨rfl, b1⟩; have HB1 := Lib.hid (HB0.out.trans (b1.mono HB0.out.size)); have HK1 := Lib.hid (HK0.out.keep b1); have HV1 := Lib.hid (HV0.out.keep b1); have HR1 := Lib.hid (HR0.out.keep b1); have HS1 := Lib.hid (HS0.out.below b1); have HT1 := Lib.hid (HT0.out.below b1); obtain ⟨c0, c1, c2, c3, c4, c5⟩ := HV1.out.six; have d0 := HK1.out.ak.p0; clear b1)
    | (go_at_call 81; refine (kchk_yes v _ HT1.out HV.out.1).mono ?_; rintro e w2 ⟨rfl, b2⟩; have HB2 := Lib.hid (HB1.out.trans (b2.mono HB1.out.size)); have HK2 := Lib.hid (HK1.out.keep b2); have HV2 := Lib.hid (HV1.out.keep b2); have HR2 := Lib.hid (HR1.out.keep b2); have HS2 := Lib.hid (HS1.out.below b2); have HT2 := Lib.hid (HT1.out.below b2); clear c0 c1 c2 c3 c4 c5 d0; obtain ⟨c0, c1, c2, c3, c4, c5⟩ := HV2.out.six; have d0 := HK2.out.ak.p0; clear b2)
    | (go_at_call 53; refine (size_m HS2.out HN.out HM.out).mono ?_; rintro e w9 ⟨rfl, rfl⟩))
  exact ⟨rfl, rfl, HB2.out⟩
set_option maxRecDepth 100000 in
set_option maxHeartbeats 2000000 in
theorem prd_in (h : StAt w base p A cap ps os) (hn : 0 < os.length) (hT : Tab w) (x : Ky) (u : Oj) (v : Ky) (hv : v.of) (ho : v.o < (os.length : Int)) :
    Calls Tryz.prog 167 #[akv p x u, v.val] w fun e w' => e = .returned (prepd os v).val ∧ Below w.heap.size w w' := by
  have hbl := akc_len p x u
  obtain ⟨m, hm⟩ : ∃ m : Int, m = (os.length : Int) := ⟨_, rfl⟩
  have HV := Lib.hid hv
  have dm : decide (m ≤ v.o) = false := decide_eq_false (by omega)
  clear hv ho
  have HM := Lib.hid hm
  have HN := Lib.hid hn
  have HS0 := Lib.hid (((h.alloc (.cells (akc p x u).toArray 205)).alloc (.cells (kc v.k v.o v.c v.l v.r v.v) 33)).alloc (.cells (kc 0 0 0 0 0 0) 33))
  have HT0 := Lib.hid (((hT.alloc (.cells (akc p x u).toArray 205)).alloc (.cells (kc v.k v.o v.c v.l v.r v.v) 33)).alloc (.cells (kc 0 0 0 0 0 0) 33))
  have HB0 := Lib.hid ((((Below.refl w.heap.size w).alloc (Nat.le_refl _) (.cells (akc p x u).toArray 205)).alloc (by simp) (.cells (kc v.k v.o v.c v.l v.r v.v) 33)).alloc (by simp; omega) (.cells (kc 0 0 0 0 0 0) 33))
  have HK0 := Lib.hid (((Blk.new w 205 (akc p x u).toArray).alloc (.cells (kc v.k v.o v.c v.l v.r v.v) 33)).alloc (.cells (kc 0 0 0 0 0 0) 33))
  have HV0 := Lib.hid ((Blk.new_of (w.alloc (.cells (akc p x u).toArray 205)) 33 (kc v.k v.o v.c v.l v.r v.v) (g := w.heap.size + 1) (by simp)).alloc (.cells (kc 0 0 0 0 0 0) 33))
  have HR0 := Lib.hid (Blk.new_of ((w.alloc (.cells (akc p x u).toArray 205)).alloc (.cells (kc v.k v.o v.c v.l v.r v.v) 33)) 33 (kc 0 0 0 0 0 0) (g := w.heap.size + 1 + 1) (by simp))
  clear h hT hm hn
  go_enter Tryz.func167, Tryz.ntmps167
  go_wp2_with (first
    | (go_at_call 80; refine (kname_yes v _ HT0.out HV.out).mono ?_; rintro e w1 ⟨rfl, b1⟩; have HB1 := Lib.hid (HB0.out.trans (b1.mono HB0.out.size)); have HK1 := Lib.hid (HK0.out.keep b1); have HV1 := Lib.hid (HV0.out.keep b1); have HR1 := Lib.hid (HR0.out.keep b1); have HS1 := Lib.hid (HS0.out.below b1); have HT1 := Lib.hid (HT0.out.below b1); obtain ⟨c0, c1, c2, c3, c4, c5⟩ := HV1.out.six; have d0 := HK1.out.ak.p0; clear b1)
    | (go_at_call 81; refine (kchk_yes v _ HT1.out HV.out.1).mono ?_; rintro e w2 ⟨rfl, b2⟩; have HB2 := Lib.hid (HB1.out.trans (b2.mono HB1.out.size)); have HK2 := Lib.hid (HK1.out.keep b2); have HV2 := Lib.hid (HV1.out.keep b2); have HR2 := Lib.hid (HR1.out.keep b2); have HS2 := Lib.hid (HS1.out.below b2); have HT2 := Lib.hid (HT1.out.below b2); clear c0 c1 c2 c3 c4 c5 d0; obtain ⟨c0, c1, c2, c3, c4, c5⟩ := HV2.out.six; have d0 := HK2.out.ak.p0; clear b2)
    | (go_at_call 53; refine (size_m HS2.out HN.out HM.out).mono ?_; rintro e w9 ⟨rfl, rfl⟩)
    | (go_at_call 55; refine (prep_at HS2.out HN.out HT2.out v).mono ?_; rintro e w3 ⟨rfl, b3⟩; have HB3 := Lib.hid (HB2.out.trans (b3.mono HB2.out.size)); have HK3 := Lib.hid (HK2.out.keep b3); have HV3 := Lib.hid (HV2.out.keep b3); have HR3 := Lib.hid (HR2.out.keep b3); have HS3 := Lib.hid (HS2.out.below b3); have HT3 := Lib.hid (HT2.out.below b3); clear c0 c1 c2 c3 c4 c5 d0; obtain ⟨c0, c1, c2, c3, c4, c5⟩ := HV3.out.six; have d0 := HK3.out.ak.p0; clear b3)
    | (refine wpList_store_ky (y := zk) HR3.out rfl (.tmp 4) (.tmp 31) rfl (by rfl) (prepd os v) (by rfl) ?_))
  exact bodyPost_ret (results_key rfl _ _ (w.heap.size + 1 + 1) (prepd os v) rfl (HR3.out.setRow _)) rfl ⟨rfl, below_setRow HB3.out (by omega) _⟩
set_option maxRecDepth 100000 in
set_option maxHeartbeats 2000000 in
theorem prd_not (h : StAt w base p A cap ps os) (hn : 0 < os.length) (hT : Tab w) (x : Ky) (u : Oj) (v : Ky) (hv : v.ok) (hf : ¬ v.of) :
    Calls Tryz.prog 167 #[akv p x u, v.val] w fun e w' => e = .returned (prepd os v).val ∧ Below w.heap.size w w' := by
  have hbl := akc_len p x u
  obtain ⟨m, hm⟩ : ∃ m : Int, m = (os.length : Int) := ⟨_, rfl⟩
  have HV := Lib.hid hv
  have HVF := Lib.hid hf
  clear hv hf
  have HM := Lib.hid hm
  have HN := Lib.hid hn
  have HS0 := Lib.hid (((h.alloc (.cells (akc p x u).toArray 205)).alloc (.cells (kc v.k v.o v.c v.l v.r v.v) 33)).alloc (.cells (kc 0 0 0 0 0 0) 33))
  have HT0 := Lib.hid (((hT.alloc (.cells (akc p x u).toArray 205)).alloc (.cells (kc v.k v.o v.c v.l v.r v.v) 33)).alloc (.cells (kc 0 0 0 0 0 0) 33))
  have HB0 := Lib.hid ((((Below.refl w.heap.size w).alloc (Nat.le_refl _) (.cells (akc p x u).toArray 205)).alloc (by simp) (.cells (kc v.k v.o v.c v.l v.r v.v) 33)).alloc (by simp; omega) (.cells (kc 0 0 0 0 0 0) 33))
  have HK0 := Lib.hid (((Blk.new w 205 (akc p x u).toArray).alloc (.cells (kc v.k v.o v.c v.l v.r v.v) 33)).alloc (.cells (kc 0 0 0 0 0 0) 33))
  have HV0 := Lib.hid ((Blk.new_of (w.alloc (.cells (akc p x u).toArray 205)) 33 (kc v.k v.o v.c v.l v.r v.v) (g := w.heap.size + 1) (by simp)).alloc (.cells (kc 0 0 0 0 0 0) 33))
  have HR0 := Lib.hid (Blk.new_of ((w.alloc (.cells (akc p x u).toArray 205)).alloc (.cells (kc v.k v.o v.c v.l v.r v.v) 33)) 33 (kc 0 0 0 0 0 0) (g := w.heap.size + 1 + 1) (by simp))
  clear h hT hm hn
  go_enter Tryz.func167, Tryz.ntmps167
  go_wp2_with (first
    | (go_at_call 80; refine (kname_no v _ HT0.out HVF.out).mono ?_; rintro e w1 ⟨rfl, b1⟩; have HB1 := Lib.hid (HB0.out.trans (b1.mono HB0.out.size)); have HK1 := Lib.hid (HK0.out.keep b1); have HV1 := Lib.hid (HV0.out.keep b1); have HR1 := Lib.hid (HR0.out.keep b1); have HS1 := Lib.hid (HS0.out.below b1); have HT1 := Lib.hid (HT0.out.below b1); obtain ⟨c0, c1, c2, c3, c4, c5⟩ := HV1.out.six; have d0 := HK1.out.ak.p0; clear b1)
    | (go_at_call 81; refine (kchk_yes v _ HT1.out HV.out).mono ?_; rintro e w2 ⟨rfl, b2⟩; have HB2 := Lib.hid (HB1.out.trans (b2.mono HB1.out.size)); have HK2 := Lib.hid (HK1.out.keep b2); have HV2 := Lib.hid (HV1.out.keep b2); have HR2 := Lib.hid (HR1.out.keep b2); have HS2 := Lib.hid (HS1.out.below b2); have HT2 := Lib.hid (HT1.out.below b2); clear c0 c1 c2 c3 c4 c5 d0; obtain ⟨c0, c1, c2, c3, c4, c5⟩ := HV2.out.six; have d0 := HK2.out.ak.p0; clear b2)
    | (go_at_call 55; refine (prep_at HS2.out HN.out HT2.out v).mono ?_; rintro e w3 ⟨rfl, b3⟩; have HB3 := Lib.hid (HB2.out.trans (b3.mono HB2.out.size)); have HK3 := Lib.hid (HK2.out.keep b3); have HV3 := Lib.hid (HV2.out.keep b3); have HR3 := Lib.hid (HR2.out.keep b3); have HS3 := Lib.hid (HS2.out.below b3); have HT3 := Lib.hid (HT2.out.below b3); clear c0 c1 c2 c3 c4 c5 d0; obtain ⟨c0, c1, c2, c3, c4, c5⟩ := HV3.out.six; have d0 := HK3.out.ak.p0; clear b3)
    | (refine wpList_store_ky (y := zk) HR3.out rfl (.tmp 4) (.tmp 31) rfl (by rfl) (prepd os v) (by rfl) ?_))
  exact bodyPost_ret (results_key rfl _ _ (w.heap.size + 1 + 1) (prepd os v) rfl (HR3.out.setRow _)) rfl ⟨rfl, below_setRow HB3.out (by omega) _⟩
set_option maxRecDepth 8000 in
theorem prd_yes (h : StAt w base p A cap ps os) (hn : 0 < os.length) (hT : Tab w) (x : Ky) (u : Oj) (v : Ky) (hv : v.may os.length) :
    Calls Tryz.prog 167 #[akv p x u, v.val] w fun e w' => e = .returned (prepd os v).val ∧ Below w.heap.size w w' := by
  by_cases hf : v.of
  · exact prd_in h hn hT x u v hf (hv.2 hf)
  · exact prd_not h hn hT x u v hv.1 hf
set_option maxRecDepth 8000 in
theorem prd_no (h : StAt w base p A cap ps os) (hn : 0 < os.length) (hT : Tab w) (x : Ky) (u : Oj) (v : Ky) (hv : ¬ v.may os.length) :
    Calls Tryz.prog 167 #[akv p x u, v.val] w fun e w' => e = .panicked (erc 2) ∧ Below w.heap.size w w' := by
  by_cases hk : v.ok
  · by_cases hf : v.of
    · exact prd_out h hn hT x u v hf (by by_cases ho : (os.length : Int) ≤ v.o; exact ho; exact absurd ⟨hk, fun _ => by omega⟩ hv)
    · exact absurd ⟨hk, fun h => absurd h hf⟩ hv
  · exact prd_bad h hn hT x u v hk
end
end Go.Proofs.YtogkdhpnbpgheaaGreatDoor
namespace Go.Proofs.YtogkdhpnbpgheaaGreatDoor
open Go.RowKit
section
variable {kt it : TypeId}
set_option maxRecDepth 100000 in
set_option maxHeartbeats 1000000 in
theorem clo_put (w : World) (s : List Ky) (hs : s.length = 16) (i : Nat) (hi : i < 16) (v : Ky) (K I : Nat) (hK : Blk w K kt (kl v).toArray) (hI : Blk w I it #[.int .i64 (i : Int)]) :
    Calls Tryz.prog 168 #[.agg (kcs s).toArray, .pointer (some ⟨K, 0, none⟩), .pointer (some ⟨I, 0, none⟩)] w fun e w' => e = .returned (.agg (kcs (s.set i v)).toArray) ∧ Below w.heap.size w w' := by
  have hz := z95
  have hbl := kcs_len hs
  have hbs := zks_len
  have HB0 := Lib.hid (((Below.refl w.heap.size w).alloc (Nat.le_refl _) (.cells (kcs s).toArray 199)).alloc (by simp) (.cells (kcs zks).toArray 199))
  have HK0 := Lib.hid ((Blk.new w 199 (kcs s).toArray).alloc (.cells (kcs zks).toArray 199))
  have HR0 := Lib.hid (Blk.new_of (w.alloc (.cells (kcs s).toArray 199)) 199 (kcs zks).toArray (g := w.heap.size + 1) (by simp))
  have HS := Lib.hid hs
  have HKV := Lib.hid ((hK.alloc (.cells (kcs s).toArray 199)).alloc (.cells (kcs zks).toArray 199))
  have HIV := Lib.hid ((hI.alloc (.cells (kcs s).toArray 199)).alloc (.cells (kcs zks).toArray 199))
  obtain ⟨c0, c1, c2, c3, c4, c5⟩ := HKV.out.six
  have d0 := HIV.out.cell 0
  have HSI := Lib.hid (show (s.set i v).length = 16 by rw [List.length_set, hs])
  have HFT := Lib.hid (show i * 6 + (kl v).length ≤ (kcs s).length by rw [kl_len, kcs_len hs]; omega)
  have HSE := Lib.hid (show (kcs s).take (i * 6) ++ kl v ++ (kcs s).drop (i * 6 + (kl v).length) = kcs (s.set i v) from kcs_set s i (by omega) v)
  have di : (i : Int) < 16 := by omega
  clear hK hI
  go_enter Tryz.func168, Tryz.ntmps168
  go_wp2_with (first
    | (refine wpList_store_in HK0.out rfl (.tmp 7) (.tmp 6) (ty := 33) (l := kl v) (off := i * 6) (by rfl) (by rfl) (by rfl) size30 HFT.out (kl_one _) HSE.out ?_; have HK1 := Lib.hid (HK0.out.setRow (kcs (s.set i v)).toArray); have HR1 := Lib.hid (Blk.row_far HR0.out (show w.heap.size + 1 ≠ w.heap.size by omega) (kcs (s.set i v)).toArray); have HB1 := Lib.hid (below_setRow HB0.out (Nat.le_refl _) (kcs (s.set i v)).toArray); clear c0 c1 c2 c3 c4 c5 d0)
    | (refine wpList_yields (S := fun w' => w'.rangeAt (w.heap.size) 0 (kcs (s.set i v))) (y_sl (by rfl) (.tmp 3) (by rfl) (w.heap.size) 0 (by rfl) (s.set i v) HSI.out (fun _ h => h)) HK1.out.range ?_)
    | (refine wpList_store_big HR1.out rfl (.tmp 4) (.tmp 8) (ty := 199) (l := kcs (s.set i v)) rfl (by rfl) (by rfl) (sl_size HSI.out) (zks_eq HSI.out) (kcs_one _) ?_))
  exact bodyPost_ret (res_1 rfl _ _ (w.heap.size + 1) _ rfl (load_sl _ HSI.out (HR1.out.setRow _))) rfl ⟨rfl, below_setRow HB1.out (by omega) _⟩
set_option maxRecDepth 100000 in
set_option maxHeartbeats 1000000 in
theorem clo_clear (w : World) (s : List Ky) (hs : s.length = 16)  :
    Calls Tryz.prog 153 #[.agg (kcs s).toArray] w fun e w' => e = .returned (.agg (kcs zks).toArray) ∧ Below w.heap.size w w' := by
  have hz := z95
  have hbl := kcs_len hs
  have hbs := zks_len
  have HB0 := Lib.hid (((Below.refl w.heap.size w).alloc (Nat.le_refl _) (.cells (kcs s).toArray 199)).alloc (by simp) (.cells (kcs zks).toArray 199))
  have HK0 := Lib.hid ((Blk.new w 199 (kcs s).toArray).alloc (.cells (kcs zks).toArray 199))
  have HR0 := Lib.hid (Blk.new_of (w.alloc (.cells (kcs s).toArray 199)) 199 (kcs zks).toArray (g := w.heap.size + 1) (by simp))
  have HS := Lib.hid hs
  go_enter Tryz.func153, Tryz.ntmps153
  go_wp2_with (first
    | (refine wpList_yields (S := fun _ => True) (y_build (by rfl) (by rfl) built95) trivial ?_)
    | (refine wpList_store_big HR0.out rfl (.tmp 2) (.tmp 3) (ty := 199) (l := kcs zks) rfl (by rfl) (by rfl) (sl_size (show zks.length = 16 from rfl)) (zks_eq (show zks.length = 16 from rfl)) (kcs_one _) ?_))
  exact bodyPost_ret (res_1 rfl _ _ (w.heap.size + 1) _ rfl (load_sl _ rfl (HR0.out.setRow _))) rfl ⟨rfl, below_setRow HB0.out (by omega) _⟩
set_option maxRecDepth 100000 in
set_option maxHeartbeats 1000000 in
theorem clo_clone (w : World) (s : List Ky) (hs : s.length = 16) (l : List Ky) (hl : l.length = 16) (K : Nat) (hK : Blk w K kt (kcs l).toArray) :
    Calls Tryz.prog 158 #[.agg (kcs s).toArray, .pointer (some ⟨K, 0, none⟩)] w fun e w' => e = .returned (.agg (kcs l).toArray) ∧ Below w.heap.size w w' := by
  have hz := z95
  have hbl := kcs_len hs
  have hbs := zks_len
  have HB0 := Lib.hid (((Below.refl w.heap.size w).alloc (Nat.le_refl _) (.cells (kcs s).toArray 199)).alloc (by simp) (.cells (kcs zks).toArray 199))
  have HK0 := Lib.hid ((Blk.new w 199 (kcs s).toArray).alloc (.cells (kcs zks).toArray 199))
  have HR0 := Lib.hid (Blk.new_of (w.alloc (.cells (kcs s).toArray 199)) 199 (kcs zks).toArray (g := w.heap.size + 1) (by simp))
  have HS := Lib.hid hs
  have HKV := Lib.hid ((hK.alloc (.cells (kcs s).toArray 199)).alloc (.cells (kcs zks).toArray 199))
  have HLL := Lib.hid hl
  clear hK hl
  go_enter Tryz.func158, Tryz.ntmps158
  go_wp2_with (first
    | (refine wpList_yields (S := fun w' => w'.rangeAt K 0 (kcs l)) (y_sl (by rfl) (.tmp 1) (by rfl) K 0 (by rfl) l HLL.out (fun _ h => h)) HKV.out.range ?_)
    | (refine wpList_store_big HR0.out rfl (.tmp 3) (.tmp 4) (ty := 199) (l := kcs l) rfl (by rfl) (by rfl) (sl_size HLL.out) (zks_eq HLL.out) (kcs_one _) ?_))
  exact bodyPost_ret (res_1 rfl _ _ (w.heap.size + 1) _ rfl (load_sl _ HLL.out (HR0.out.setRow _))) rfl ⟨rfl, below_setRow HB0.out (by omega) _⟩
end
section
variable {w : World} {base p : Nat} {A : Option Addr} {cap : Nat} {ps : List Nat} {os : List Oj} {kt it : TypeId}
set_option maxRecDepth 100000 in
set_option maxHeartbeats 4000000 in
theorem chg_put (h : StAt w base p A cap ps os) (hT : Tab w) (x : Ky) (u : Oj) (j : Nat) (hj : j < os.length) (hxo : x.o = (j : Int)) (i : Nat) (hi : i < 16) (v : Ky) (K I : Nat) (hK : Blk w K kt (kl v).toArray) (hI : Blk w I it #[.int .i64 (i : Int)]) (hok : (slotsAs u (u.s.set i v) (by rw [List.length_set]; exact u.hs)).ok os.length) :
    Calls Tryz.prog 152 #[akv p x u, .func (.func 168) #[] #[.pointer (some ⟨K, 0, none⟩), .pointer (some ⟨I, 0, none⟩)]] w fun e w' => e = .returned (.agg (kcs (u.s.set i v)).toArray) ∧ StAt w' base p A cap ps (os.set j (slotsAs u (u.s.set i v) (by rw [List.length_set]; exact u.hs))) ∧ Fr (fun k => k ∈ ps) w w' := by
  have hz := z95
  have hbl := akc_len p x u
  have hbs := zks_len
  have HJ := Lib.hid hj
  have HXO := Lib.hid hxo
  have HOK := Lib.hid hok
  have HH := Lib.hid h
  have HTT := Lib.hid hT
  have HLT := Lib.hid (fun (k : Nat) (hk : stHas p A ps k) => (h.lt k hk).2)
  have HB0 := Lib.hid (((Below.refl w.heap.size w).alloc (Nat.le_refl _) (.cells (akc p x u).toArray 205)).alloc (by simp) (.cells (kcs zks).toArray 199))
  have HK0 := Lib.hid ((Blk.new w 205 (akc p x u).toArray).alloc (.cells (kcs zks).toArray 199))
  have HR0 := Lib.hid (Blk.new_of (w.alloc (.cells (akc p x u).toArray 205)) 199 (kcs zks).toArray (g := w.heap.size + 1) (by simp))
  have HUS := Lib.hid u.hs
  have HKV := Lib.hid ((hK.alloc (.cells (akc p x u).toArray 205)).alloc (.cells (kcs zks).toArray 199))
  have HIV := Lib.hid ((hI.alloc (.cells (akc p x u).toArray 205)).alloc (.cells (kcs zks).toArray 199))
  have HI := Lib.hid hi
  clear hK hI hi
  have HS1 : Hid (((u.s.set i v)).length = 16) := Lib.hid (by rw [List.length_set]; exact u.hs)
  have HAK := Lib.hid (ak_slots p x u (u.s.set i v) (by rw [List.length_set]; exact u.hs))
  have HFT := Lib.hid (show 10 + (kcs (u.s.set i v)).length ≤ (akc p x u).length by rw [akc_len, kcs_len (by rw [List.length_set]; exact u.hs)]; omega)
  obtain ⟨U, hU⟩ : ∃ U, slotsAs u (u.s.set i v) (by rw [List.length_set]; exact u.hs) = U := ⟨_, rfl⟩
  rw [hU] at HOK HAK ⊢
  clear hj hxo hok h hT hU
  go_enter Tryz.func152, Tryz.ntmps152
  go_wp2_with (first
    | (refine wpList_yields (S := fun w' => w'.rangeAt w.heap.size 10 (kcs u.s)) (y_ks (by rfl) (.tmp 9) (by rfl) w.heap.size 10 (by rfl) u.s HUS.out (fun _ h => h)) HK0.out.ak.node.slots ?_)
    | (go_at_call 168; refine (clo_put _ u.s HUS.out i HI.out v K I HKV.out HIV.out).mono ?_; rintro e w1 ⟨rfl, b1⟩; have HB1 := Lib.hid ((HB0.out.trans (b1.mono HB0.out.size)).alloc (Nat.le_trans HB0.out.size b1.size) (.cells (kcs (u.s.set i v)).toArray 199)); have HK1 := Lib.hid ((HK0.out.keep b1).alloc (.cells (kcs (u.s.set i v)).toArray 199)); have HR1 := Lib.hid ((HR0.out.keep b1).alloc (.cells (kcs (u.s.set i v)).toArray 199)); have HG1 := Lib.hid (Blk.new w1 199 (kcs (u.s.set i v)).toArray); have HGE := Lib.hid (show w.heap.size + 2 ≤ w1.heap.size by have := HR0.out.lt; have := b1.size; omega); clear b1)
    | (refine wpList_store_new (l := kcs (u.s.set i v)) (l0 := kcs zks) (ty := 199) rfl (.tmp 5) (.tmp 11) (by rfl) _ rfl (by rfl) (by rfl) (sl_size HS1.out) (zks_eq HS1.out) (kcs_one _) ?_)
    | (refine wpList_yields (S := fun w' => w'.rangeAt w1.heap.size 0 (kcs (u.s.set i v))) (y_sl (by rfl) (.tmp 5) (by rfl) w1.heap.size 0 (by rfl) (u.s.set i v) HS1.out (fun _ h => h)) HG1.out.range ?_)
    | (refine wpList_store_in HK1.out rfl (.tmp 15) (.tmp 12) (ty := 46) (l := kcs (u.s.set i v)) (off := 10) (by rfl) (by rfl) (by rfl) (by rw [kcs_len HS1.out]; exact size31) HFT.out (kcs_one _) HAK.out ?_; have HB2 := Lib.hid (below_setRow HB1.out (Nat.le_refl _) (akc p x U).toArray); have HK2 := Lib.hid (HK1.out.setRow (akc p x U).toArray); have HR2 := Lib.hid (Blk.row_far HR1.out (show w.heap.size + 1 ≠ w.heap.size by omega) (akc p x U).toArray); have HG2 := Lib.hid (Blk.row_far HG1.out (show w1.heap.size ≠ w.heap.size by have := HGE.out; omega) (akc p x U).toArray); have p0 := HK2.out.ak.p0; have p2 := HK2.out.ak.key.2.1)
    | (refine wpList_yields (S := fun w' => ObAt w' w.heap.size 7 U) (y_ob (by rfl) (.tmp 24) (by rfl) w.heap.size 7 (by rfl) U (fun _ h => h)) HK2.out.ak.node ?_)
    | (go_at_call 215; refine (put_x (HH.out.below HB2.out) (HTT.out.below HB2.out) j HJ.out U HOK.out HXO.out).mono ?_; rintro e w3 ⟨rfl, hs3, hf3⟩; have HS3 := Lib.hid hs3; have HF3 := Lib.hid ((Fr.of_below HB2.out : Fr (fun k => k ∈ ps) w _).trans hf3); have HR3 := Lib.hid (show Blk w3 (w.heap.size + 1) 199 (kcs zks).toArray from (hf3.block _ HR2.out.lt (fun hm => by have := HLT.out _ (.inr (.inr hm)); omega)).trans HR2.out); have HG3 := Lib.hid (show Blk w3 w1.heap.size 199 (kcs (u.s.set i v)).toArray from (hf3.block _ HG2.out.lt (fun hm => by have := HLT.out _ (.inr (.inr hm)); have := HGE.out; omega)).trans HG2.out); clear hs3 hf3 p0 p2)
    | (refine wpList_yields (S := fun w' => w'.rangeAt w1.heap.size 0 (kcs (u.s.set i v))) (y_sl (by rfl) (.tmp 5) (by rfl) w1.heap.size 0 (by rfl) (u.s.set i v) HS1.out (fun _ h => h)) HG3.out.range ?_)
    | (refine wpList_store_big HR3.out rfl (.tmp 4) (.tmp 27) (ty := 199) (l := kcs (u.s.set i v)) rfl (by rfl) (by rfl) (sl_size HS1.out) (zks_eq HS1.out) (kcs_one _) ?_))
  exact bodyPost_ret (res_1 rfl _ _ (w.heap.size + 1) _ rfl (load_sl _ HS1.out (HR3.out.setRow _))) rfl ⟨rfl, HS3.out.keep (fun k hk => setRow_other _ _ _ _ (by have := HLT.out k hk; omega)), HF3.out.then_ (setRow_fr _ _ _) (fun i hi he => by omega)⟩
set_option maxRecDepth 100000 in
set_option maxHeartbeats 4000000 in
theorem chg_clear (h : StAt w base p A cap ps os) (hT : Tab w) (x : Ky) (u : Oj) (j : Nat) (hj : j < os.length) (hxo : x.o = (j : Int))  (hok : (slotsAs u zks rfl).ok os.length) :
    Calls Tryz.prog 152 #[akv p x u, .func (.func 153) #[] #[]] w fun e w' => e = .returned (.agg (kcs zks).toArray) ∧ StAt w' base p A cap ps (os.set j (slotsAs u zks rfl)) ∧ Fr (fun k => k ∈ ps) w w' := by
  have hz := z95
  have hbl := akc_len p x u
  have hbs := zks_len
  have HJ := Lib.hid hj
  have HXO := Lib.hid hxo
  have HOK := Lib.hid hok
  have HH := Lib.hid h
  have HTT := Lib.hid hT
  have HLT := Lib.hid (fun (k : Nat) (hk : stHas p A ps k) => (h.lt k hk).2)
  have HB0 := Lib.hid (((Below.refl w.heap.size w).alloc (Nat.le_refl _) (.cells (akc p x u).toArray 205)).alloc (by simp) (.cells (kcs zks).toArray 199))
  have HK0 := Lib.hid ((Blk.new w 205 (akc p x u).toArray).alloc (.cells (kcs zks).toArray 199))
  have HR0 := Lib.hid (Blk.new_of (w.alloc (.cells (akc p x u).toArray 205)) 199 (kcs zks).toArray (g := w.heap.size + 1) (by simp))
  have HUS := Lib.hid u.hs
  have HS1 : Hid ((zks).length = 16) := Lib.hid rfl
  have HAK := Lib.hid (ak_slots p x u zks rfl)
  have HFT := Lib.hid (show 10 + (kcs zks).length ≤ (akc p x u).length by rw [akc_len, kcs_len rfl]; omega)
  obtain ⟨U, hU⟩ : ∃ U, slotsAs u zks rfl = U := ⟨_, rfl⟩
  rw [hU] at HOK HAK ⊢
  clear hj hxo hok h hT hU
  go_enter Tryz.func152, Tryz.ntmps152
  go_wp2_with (first
    | (refine wpList_yields (S := fun w' => w'.rangeAt w.heap.size 10 (kcs u.s)) (y_ks (by rfl) (.tmp 9) (by rfl) w.heap.size 10 (by rfl) u.s HUS.out (fun _ h => h)) HK0.out.ak.node.slots ?_)
    | (go_at_call 153; refine (clo_clear _ u.s HUS.out).mono ?_; rintro e w1 ⟨rfl, b1⟩; have HB1 := Lib.hid ((HB0.out.trans (b1.mono HB0.out.size)).alloc (Nat.le_trans HB0.out.size b1.size) (.cells (kcs zks).toArray 199)); have HK1 := Lib.hid ((HK0.out.keep b1).alloc (.cells (kcs zks).toArray 199)); have HR1 := Lib.hid ((HR0.out.keep b1).alloc (.cells (kcs zks).toArray 199)); have HG1 := Lib.hid (Blk.new w1 199 (kcs zks).toArray); have HGE := Lib.hid (show w.heap.size + 2 ≤ w1.heap.size by have := HR0.out.lt; have := b1.size; omega); clear b1)
    | (refine wpList_store_new (l := kcs zks) (l0 := kcs zks) (ty := 199) rfl (.tmp 5) (.tmp 11) (by rfl) _ rfl (by rfl) (by rfl) (sl_size HS1.out) (zks_eq HS1.out) (kcs_one _) ?_)
    | (refine wpList_yields (S := fun w' => w'.rangeAt w1.heap.size 0 (kcs zks)) (y_sl (by rfl) (.tmp 5) (by rfl) w1.heap.size 0 (by rfl) zks HS1.out (fun _ h => h)) HG1.out.range ?_)
    | (refine wpList_store_in HK1.out rfl (.tmp 15) (.tmp 12) (ty := 46) (l := kcs zks) (off := 10) (by rfl) (by rfl) (by rfl) (by rw [kcs_len HS1.out]; exact size31) HFT.out (kcs_one _) HAK.out ?_; have HB2 := Lib.hid (below_setRow HB1.out (Nat.le_refl _) (akc p x U).toArray); have HK2 := Lib.hid (HK1.out.setRow (akc p x U).toArray); have HR2 := Lib.hid (Blk.row_far HR1.out (show w.heap.size + 1 ≠ w.heap.size by omega) (akc p x U).toArray); have HG2 := Lib.hid (Blk.row_far HG1.out (show w1.heap.size ≠ w.heap.size by have := HGE.out; omega) (akc p x U).toArray); have p0 := HK2.out.ak.p0; have p2 := HK2.out.ak.key.2.1)
    | (refine wpList_yields (S := fun w' => ObAt w' w.heap.size 7 U) (y_ob (by rfl) (.tmp 24) (by rfl) w.heap.size 7 (by rfl) U (fun _ h => h)) HK2.out.ak.node ?_)
    | (go_at_call 215; refine (put_x (HH.out.below HB2.out) (HTT.out.below HB2.out) j HJ.out U HOK.out HXO.out).mono ?_; rintro e w3 ⟨rfl, hs3, hf3⟩; have HS3 := Lib.hid hs3; have HF3 := Lib.hid ((Fr.of_below HB2.out : Fr (fun k => k ∈ ps) w _).trans hf3); have HR3 := Lib.hid (show Blk w3 (w.heap.size + 1) 199 (kcs zks).toArray from (hf3.block _ HR2.out.lt (fun hm => by have := HLT.out _ (.inr (.inr hm)); omega)).trans HR2.out); have HG3 := Lib.hid (show Blk w3 w1.heap.size 199 (kcs zks).toArray from (hf3.block _ HG2.out.lt (fun hm => by have := HLT.out _ (.inr (.inr hm)); have := HGE.out; omega)).trans HG2.out); clear hs3 hf3 p0 p2)
    | (refine wpList_yields (S := fun w' => w'.rangeAt w1.heap.size 0 (kcs zks)) (y_sl (by rfl) (.tmp 5) (by rfl) w1.heap.size 0 (by rfl) zks HS1.out (fun _ h => h)) HG3.out.range ?_)
    | (refine wpList_store_big HR3.out rfl (.tmp 4) (.tmp 27) (ty := 199) (l := kcs zks) rfl (by rfl) (by rfl) (sl_size HS1.out) (zks_eq HS1.out) (kcs_one _) ?_))
  exact bodyPost_ret (res_1 rfl _ _ (w.heap.size + 1) _ rfl (load_sl _ HS1.out (HR3.out.setRow _))) rfl ⟨rfl, HS3.out.keep (fun k hk => setRow_other _ _ _ _ (by have := HLT.out k hk; omega)), HF3.out.then_ (setRow_fr _ _ _) (fun i hi he => by omega)⟩
set_option maxRecDepth 100000 in
set_option maxHeartbeats 4000000 in
theorem chg_clone (h : StAt w base p A cap ps os) (hT : Tab w) (x : Ky) (u : Oj) (j : Nat) (hj : j < os.length) (hxo : x.o = (j : Int)) (l : List Ky) (hl : l.length = 16) (K : Nat) (hK : Blk w K kt (kcs l).toArray) (hok : (slotsAs u l hl).ok os.length) :
    Calls Tryz.prog 152 #[akv p x u, .func (.func 158) #[] #[.pointer (some ⟨K, 0, none⟩)]] w fun e w' => e = .returned (.agg (kcs l).toArray) ∧ StAt w' base p A cap ps (os.set j (slotsAs u l hl)) ∧ Fr (fun k => k ∈ ps) w w' := by
  have hz := z95
  have hbl := akc_len p x u
  have hbs := zks_len
  have HJ := Lib.hid hj
  have HXO := Lib.hid hxo
  have HOK := Lib.hid hok
  have HH := Lib.hid h
  have HTT := Lib.hid hT
  have HLT := Lib.hid (fun (k : Nat) (hk : stHas p A ps k) => (h.lt k hk).2)
  have HB0 := Lib.hid (((Below.refl w.heap.size w).alloc (Nat.le_refl _) (.cells (akc p x u).toArray 205)).alloc (by simp) (.cells (kcs zks).toArray 199))
  have HK0 := Lib.hid ((Blk.new w 205 (akc p x u).toArray).alloc (.cells (kcs zks).toArray 199))
  have HR0 := Lib.hid (Blk.new_of (w.alloc (.cells (akc p x u).toArray 205)) 199 (kcs zks).toArray (g := w.heap.size + 1) (by simp))
  have HUS := Lib.hid u.hs
  have HKV := Lib.hid ((hK.alloc (.cells (akc p x u).toArray 205)).alloc (.cells (kcs zks).toArray 199))
  clear hK
  have HS1 : Hid ((l).length = 16) := Lib.hid hl
  have HAK := Lib.hid (ak_slots p x u l hl)
  have HFT := Lib.hid (show 10 + (kcs l).length ≤ (akc p x u).length by rw [akc_len, kcs_len hl]; omega)
  obtain ⟨U, hU⟩ : ∃ U, slotsAs u l hl = U := ⟨_, rfl⟩
  rw [hU] at HOK HAK ⊢
  clear hj hxo hok h hT hU
  go_enter Tryz.func152, Tryz.ntmps152
  go_wp2_with (first
    | (refine wpList_yields (S := fun w' => w'.rangeAt w.heap.size 10 (kcs u.s)) (y_ks (by rfl) (.tmp 9) (by rfl) w.heap.size 10 (by rfl) u.s HUS.out (fun _ h => h)) HK0.out.ak.node.slots ?_)
    | (go_at_call 158; refine (clo_clone _ u.s HUS.out l HS1.out K HKV.out).mono ?_; rintro e w1 ⟨rfl, b1⟩; have HB1 := Lib.hid ((HB0.out.trans (b1.mono HB0.out.size)).alloc (Nat.le_trans HB0.out.size b1.size) (.cells (kcs l).toArray 199)); have HK1 := Lib.hid ((HK0.out.keep b1).alloc (.cells (kcs l).toArray 199)); have HR1 := Lib.hid ((HR0.out.keep b1).alloc (.cells (kcs l).toArray 199)); have HG1 := Lib.hid (Blk.new w1 199 (kcs l).toArray); have HGE := Lib.hid (show w.heap.size + 2 ≤ w1.heap.size by have := HR0.out.lt; have := b1.size; omega); clear b1)
    | (refine wpList_store_new (l := kcs l) (l0 := kcs zks) (ty := 199) rfl (.tmp 5) (.tmp 11) (by rfl) _ rfl (by rfl) (by rfl) (sl_size HS1.out) (zks_eq HS1.out) (kcs_one _) ?_)
    | (refine wpList_yields (S := fun w' => w'.rangeAt w1.heap.size 0 (kcs l)) (y_sl (by rfl) (.tmp 5) (by rfl) w1.heap.size 0 (by rfl) l HS1.out (fun _ h => h)) HG1.out.range ?_)
    | (refine wpList_store_in HK1.out rfl (.tmp 15) (.tmp 12) (ty := 46) (l := kcs l) (off := 10) (by rfl) (by rfl) (by rfl) (by rw [kcs_len HS1.out]; exact size31) HFT.out (kcs_one _) HAK.out ?_; have HB2 := Lib.hid (below_setRow HB1.out (Nat.le_refl _) (akc p x U).toArray); have HK2 := Lib.hid (HK1.out.setRow (akc p x U).toArray); have HR2 := Lib.hid (Blk.row_far HR1.out (show w.heap.size + 1 ≠ w.heap.size by omega) (akc p x U).toArray); have HG2 := Lib.hid (Blk.row_far HG1.out (show w1.heap.size ≠ w.heap.size by have := HGE.out; omega) (akc p x U).toArray); have p0 := HK2.out.ak.p0; have p2 := HK2.out.ak.key.2.1)
    | (refine wpList_yields (S := fun w' => ObAt w' w.heap.size 7 U) (y_ob (by rfl) (.tmp 24) (by rfl) w.heap.size 7 (by rfl) U (fun _ h => h)) HK2.out.ak.node ?_)
    | (go_at_call 215; refine (put_x (HH.out.below HB2.out) (HTT.out.below HB2.out) j HJ.out U HOK.out HXO.out).mono ?_; rintro e w3 ⟨rfl, hs3, hf3⟩; have HS3 := Lib.hid hs3; have HF3 := Lib.hid ((Fr.of_below HB2.out : Fr (fun k => k ∈ ps) w _).trans hf3); have HR3 := Lib.hid (show Blk w3 (w.heap.size + 1) 199 (kcs zks).toArray from (hf3.block _ HR2.out.lt (fun hm => by have := HLT.out _ (.inr (.inr hm)); omega)).trans HR2.out); have HG3 := Lib.hid (show Blk w3 w1.heap.size 199 (kcs l).toArray from (hf3.block _ HG2.out.lt (fun hm => by have := HLT.out _ (.inr (.inr hm)); have := HGE.out; omega)).trans HG2.out); clear hs3 hf3 p0 p2)
    | (refine wpList_yields (S := fun w' => w'.rangeAt w1.heap.size 0 (kcs l)) (y_sl (by rfl) (.tmp 5) (by rfl) w1.heap.size 0 (by rfl) l HS1.out (fun _ h => h)) HG3.out.range ?_)
    | (refine wpList_store_big HR3.out rfl (.tmp 4) (.tmp 27) (ty := 199) (l := kcs l) rfl (by rfl) (by rfl) (sl_size HS1.out) (zks_eq HS1.out) (kcs_one _) ?_))
  exact bodyPost_ret (res_1 rfl _ _ (w.heap.size + 1) _ rfl (load_sl _ HS1.out (HR3.out.setRow _))) rfl ⟨rfl, HS3.out.keep (fun k hk => setRow_other _ _ _ _ (by have := HLT.out k hk; omega)), HF3.out.then_ (setRow_fr _ _ _) (fun i hi he => by omega)⟩
end
end Go.Proofs.YtogkdhpnbpgheaaGreatDoor
namespace Go.Proofs.YtogkdhpnbpgheaaGreatDoor
open Go.ChangeShapes Go.WideShapes Go.ChangeAt Go.RowKit
/-- chunks of a list, each known, are the list -/
theorem keys_of_chunks : ∀ (n : Nat) (cs : List Value), cs.length = n * 6 → (∀ i, i < n → ∃ y : Ky, (cs.drop (i * 6)).take 6 = kl y) → ∃ l : List Ky, l.length = n ∧ cs = kcs l
  | 0, cs, hl, _ => ⟨[], rfl, by cases cs with | nil => rfl | cons => simp at hl⟩
  | n + 1, cs, hl, h => by
    obtain ⟨y, hy⟩ := h 0 (by omega)
    obtain ⟨l, hll, hlc⟩ := keys_of_chunks n (cs.drop 6) (by rw [List.length_drop]; omega) (fun i hi => by
      obtain ⟨z, hz⟩ := h (i + 1) (by omega)
      exact ⟨z, by rw [List.drop_drop, show 6 + i * 6 = (i + 1) * 6 by omega]; exact hz⟩)
    refine ⟨y :: l, by simp [hll], ?_⟩
    rw [Nat.zero_mul, List.drop_zero] at hy
    rw [kcs, ← hy, ← hlc, List.take_append_drop]
set_option maxRecDepth 8000 in
theorem bytes_of_cells : ∀ (cs : List Value), (∀ i (h : i < cs.length), ∃ b : UInt8, cs[i] = .int .u8 (b.toNat : Int)) → ∃ l : List UInt8, cs = bv l
  | [], _ => ⟨[], rfl⟩
  | c :: cs, h => by
    obtain ⟨b, hb⟩ := h 0 (by simp)
    obtain ⟨l, rfl⟩ := bytes_of_cells cs (fun i hi => h (i + 1) (by simpa using hi))
    exact ⟨b :: l, by simp only [List.getElem_cons_zero] at hb; rw [hb]; rfl⟩
section
variable {H : Type} {enc : TypeId × Value → H} {W : World} {base : Nat} {spare : Nat → Bool} {held : Bool} {fuel : Nat}
set_option maxRecDepth 8000 in
theorem cellsOf30 : Tryz.prog.cellsOf 33 = 6 := by kernel_rfl
set_option maxRecDepth 8000 in
theorem cellsOf31 : Tryz.prog.cellsOf 46 = 96 := by kernel_rfl
set_option maxRecDepth 8000 in
theorem cellsOf32 : Tryz.prog.cellsOf 47 = 64 := by kernel_rfl
set_option maxRecDepth 8000 in
theorem cellsOf34 : Tryz.prog.cellsOf 49 = 163 := by kernel_rfl
set_option maxRecDepth 8000 in
theorem slots_cells {cs : List Value} {x : DataW H × List MemPlace} (h : DataW.trod enc Tryz.prog W base spare held fuel 46 cs = some x) : ∃ l : List Ky, l.length = 16 ∧ cs = kcs l := by
  obtain ⟨xs, n, _, _, hl, hn, hel⟩ := DataW.trod_array Tryz.underlying46 h
  rw [cellsOf31] at hl
  rw [cellsOf30] at hel
  refine keys_of_chunks 16 cs hl (fun i hi => ?_)
  have := hel i hi
  rw [List.getElem?_eq_getElem (by omega)] at this
  obtain ⟨y, hy⟩ := key_cells this
  exact ⟨y, hy⟩
set_option maxRecDepth 8000 in
theorem bytes_cells {cs : List Value} {x : DataW H × List MemPlace} (h : DataW.trod enc Tryz.prog W base spare held fuel 47 cs = some x) : ∃ l : List UInt8, l.length = 64 ∧ cs = bv l := by
  obtain ⟨xs, n, _, _, hl, hn, hel⟩ := DataW.trod_array Tryz.underlying47 h
  have c1 : Tryz.prog.cellsOf 5 = 1 := by kernel_rfl
  rw [cellsOf32] at hl
  rw [c1] at hel
  obtain ⟨l, rfl⟩ := bytes_of_cells cs (fun i hi => by
    have := hel i (by omega)
    rw [List.getElem?_eq_getElem (by omega), Nat.mul_one, List.drop_eq_getElem_cons hi, List.take_succ_cons, List.take_zero] at this
    obtain ⟨q, hq, _, hw⟩ := DataW.trod_int Tryz.underlying5 this
    simp only [List.cons.injEq, and_true] at hq
    have h1 : IntKind.u8.min = 0 := rfl
    have h2 : IntKind.u8.max = 255 := rfl
    simp only [Lit.wf, Bool.and_eq_true, decide_eq_true_eq] at hw
    exact ⟨UInt8.ofNat q.toNat, by rw [hq]; congr 1; simp; omega⟩)
  exact ⟨l, by rw [← bv_length, hl], rfl⟩
set_option maxRecDepth 100000 in
theorem object_cells {cs : List Value} {x : DataW H × List MemPlace} (h : DataW.trod enc Tryz.prog W base spare held fuel 49 cs = some x) : ∃ o : Oj, cs = o.cells := by
  obtain ⟨xs, n, _, _, hl, hn, hel⟩ := DataW.trod_struct Tryz.underlying49 h
  rw [cellsOf34] at hl
  have c1 : ∀ t, t = 45 ∨ t = 2 → Tryz.prog.cellsOf t = 1 := by
    intro t ht
    rcases ht with rfl | rfl <;> kernel_rfl
  have g : ∀ (off : Nat) (t : TypeId) (x : DataW H × List MemPlace), (t = 45 ∨ t = 2) → off < 163 → DataW.trod enc Tryz.prog W base spare held n t ((cs.drop off).take (Tryz.prog.cellsOf t)) = some x → ∃ q : Int, cs[off]? = some (.int .i64 q) := by
    intro off t x ht hoff hx
    rw [c1 t ht, List.drop_eq_getElem_cons (by omega)] at hx
    simp only [List.take_succ_cons, List.take_zero] at hx
    have hu : Tryz.prog.underlying t = some (.int .i64) := by
      rcases ht with rfl | rfl
      · exact Tryz.underlying45
      · exact Tryz.underlying2
    obtain ⟨q, hq, _, _⟩ := DataW.trod_int hu hx
    simp only [List.cons.injEq, and_true] at hq
    exact ⟨q, by rw [List.getElem?_eq_getElem (by omega), hq]⟩
  match xs, hn with
  | [y0, y1, y2, y3, y4], _ =>
    obtain ⟨q0, e0⟩ := g 0 45 y0 (.inl rfl) (by decide) (hel 0 _ rfl)
    obtain ⟨q1, e1⟩ := g 1 2 y1 (.inr rfl) (by decide) (hel 1 _ rfl)
    obtain ⟨q2, e2⟩ := g 2 2 y2 (.inr rfl) (by decide) (hel 2 _ rfl)
    have h3 : DataW.trod enc Tryz.prog W base spare held n 46 ((cs.drop 3).take (Tryz.prog.cellsOf 46)) = some y3 := hel 3 _ rfl
    have h4 : DataW.trod enc Tryz.prog W base spare held n 47 ((cs.drop 99).take (Tryz.prog.cellsOf 47)) = some y4 := hel 4 _ rfl
    obtain ⟨s, hs, es⟩ := slots_cells h3
    obtain ⟨b, hb, eb⟩ := bytes_cells h4
    rw [cellsOf31] at es
    rw [cellsOf32] at eb
    refine ⟨⟨q0, q1, q2, s, b, hs, hb⟩, ?_⟩
    match cs, e0, e1, e2, es, eb, hl with
    | c0 :: c1 :: c2 :: cs, e0, e1, e2, es, eb, hl =>
      simp only [List.getElem?_cons_zero, List.getElem?_cons_succ, Option.some.injEq] at e0 e1 e2
      subst e0 e1 e2
      simp only [Oj.cells, List.cons.injEq, true_and]
      have es' : cs.take 96 = kcs s := es
      have eb' : (cs.drop 96).take 64 = bv b := eb
      rw [← es', ← eb', List.take_of_length_le (l := cs.drop 96) (by simp at hl ⊢; omega), List.take_append_drop]
set_option maxRecDepth 8000 in
/-- an object that came in -/
theorem open_ob {r : Reach} {b0 : Nat} {v : Value} {d : DataW H} {p : List MemPlace} (hv : Value.okWide Tryz.prog W r b0 49 v) (h : DataW.Trod enc Tryz.prog W base spare held 49 v d p) : ∃ o : Oj, v = o.val := by
  obtain ⟨cs, rfl, _⟩ := okWide_struct Tryz.underlying49 hv
  obtain ⟨f, hf⟩ := h
  obtain ⟨o, ho⟩ := object_cells hf
  refine ⟨o, ?_⟩
  obtain ⟨l⟩ := cs
  simp only [Value.cells] at ho
  subst ho
  rfl
set_option maxRecDepth 8000 in
/-- objects that came in -/
theorem open_obs {r : Reach} {b0 : Nat} {v : Value} {d : DataW H} {p : List MemPlace} (hv : Value.okWide Tryz.prog W r b0 22 v) (h : DataW.Trod enc Tryz.prog W base spare held 22 v d p) :
    ∃ (A : Option Addr) (l : List Oj) (cap : Nat), v = .slice A l.length cap ∧ l.length ≤ cap ∧ cap ≤ maxLen ∧ RdO W A l := by
  obtain ⟨A, len, cap, rfl⟩ := okWide_slice Tryz.underlying22 hv
  obtain ⟨fuel, hf⟩ := h
  rcases Go.Deep.open_slice Tryz.underlying22 hf with ⟨hcs, _⟩ | ⟨a, len', cap', m, n, D, Pl, hcs, hb, hl, hm, hmm, hx, hi⟩
  · simp only [Value.cells, List.cons.injEq, Value.slice.injEq, and_true] at hcs
    obtain ⟨rfl, rfl, rfl⟩ := hcs
    exact ⟨none, [], 0, rfl, Nat.le_refl _, by simp [maxLen], fun i h => absurd h (by simp)⟩
  · simp only [Value.cells, List.cons.injEq, Value.slice.injEq, and_true] at hcs
    obtain ⟨rfl, rfl, rfl⟩ := hcs
    rw [cellsOf34] at hi
    have hlen : len ≤ m := by rw [hmm]; split <;> omega
    have key : ∀ i, i < len → ∃ o : Oj, a.spot = none ∧ ObAt W a.block (a.off + i * 163) o := by
      intro i hil
      obtain ⟨cs', hc, ht⟩ := hi i (by omega)
      obtain ⟨o, rfl⟩ := object_cells ht
      obtain ⟨_, _, hat⟩ := World.cells?_some hc
      have hs' : a.spot = none := by
        obtain ⟨cs0, hc0, ht0⟩ := hi 0 (by omega)
        have h0 := (World.cells?_some hc0).2.2 0 (by decide)
        obtain ⟨o', rfl⟩ := object_cells ht0
        have := World.cell?_spot (h0.trans (show (Oj.cells o')[0]? = some _ from rfl))
        simpa [Addr.add] using this
      refine ⟨o, hs', fun j v hv => ?_⟩
      have e := add_add_flat hs' (i * 163)
      have hj : j < 163 := by have := (List.getElem?_eq_some_iff.1 hv).1; rwa [o.len] at this
      have := hat j hj
      rw [e, add_flat] at this
      rw [this, hv]
    have ex : ∃ l : List Oj, l.length = len ∧ ∀ i (h : i < l.length), a.spot = none ∧ ObAt W a.block (a.off + i * 163) l[i] := by
      refine ⟨(List.range len).map fun i => if h : i < len then (key i h).choose else oz, by simp, fun i h => ?_⟩
      have hil : i < len := by simpa using h
      simp only [List.getElem_map, List.getElem_range, hil, dif_pos]
      exact (key i hil).choose_spec
    obtain ⟨l, rfl, hl2⟩ := ex
    refine ⟨some a, l, cap, rfl, hl, hm, fun i h => ?_⟩
    obtain ⟨hs, hk⟩ := hl2 i h
    obtain ⟨b, o, s⟩ := a
    simp only at hs
    subst hs
    exact ⟨b, o, rfl, hk⟩
end
end Go.Proofs.YtogkdhpnbpgheaaGreatDoor

/- banks: split, where a node is made. -/
import Derived.Test.YteodgefnbmiblaaDoorBSn
namespace Go.Proofs.YteodgefnbmiblaaDoor
open Go.RowKit Go.Shelf
attribute [local go_sem] Oper.semAt_some
section
variable {w : World} {base p : Nat} {A : Option Addr} {cap : Nat} {ps : List Nat} {os : List Oj}
theorem StAt.defF {w w' : World} {base p : Nat} {A : Option Addr} {cap : Nat} {ps : List Nat} {os : List Oj} (h : StAt w base p A cap ps os) (hf : Fr (fun k => k ∈ ps) w w') {D : Nat} {l : Option (List Deferred)} (hd : w.heap[D]? = some (.deferred l)) : w'.heap[D]? = some (.deferred l) :=
  (hf.block D (Array.getElem?_eq_some_iff.1 hd).1 (fun hm => by
    obtain ⟨o', ho', hc'⟩ := h.cellsP hm
    rw [hd] at ho'
    injection ho' with ho'
    subst ho'
    cases hc')).trans hd
set_option maxRecDepth 100000 in
set_option maxHeartbeats 8000000 in
theorem split_some (h : StAt w base p A cap ps os) (ho : okAll os.length os) (hT : TabB base w) {xk : Ky} {j : Nat} {u : Oj} {a b : Nat} (d0 : BkD os xk j u a b) (hN : os.length ≤ 64) (n d m : Nat) (had : a ≤ d) (hm1 : m = d + 1) (hm2 : b = d + n) (k : Ky) (i0 : Nat) (hf : fnd os a (b + 1 - a) = some i0) (hk : k = mkK os (a + i0) 2) :
    Calls Tryd.prog 37 #[bkv p xk.o u, .int .i64 (n : Int)] w fun e w' => ∃ L, StAt w' base p A cap ps L ∧ Fr (fun k => k ∈ ps) w w' ∧ ((AllE (mkL os a b 1) m b ∧ e = .returned (bnkK k).val ∧ L = spL os xk.o u k a b m) ∨ (¬ AllE (mkL os a b 1) m b ∧ e = .panicked (erc 221))) := by
  have hFw : ∀ f, Fence.wide.fn f := fun _ => trivial
  have hbl := bkc_len p xk.o u
  have HST := Lib.hid h
  have HO := Lib.hid ho
  have HT := Lib.hid hT
  have HNN := Lib.hid hN
  have DD := Lib.hid d0
  have HF := Lib.hid hf
  have HBV := Lib.hid d0.v1
  have W0 := Lib.hid (show w.heap.size + 2 ≤ ((w.alloc (.cells (bkc p xk.o u).toArray 78)).alloc (.cells (kl zk).toArray 33)).heap.size by simp)
  have Q0 := Lib.hid (show Sq w ((w.alloc (.cells (bkc p xk.o u).toArray 78)).alloc (.cells (kl zk).toArray 33)) base p A cap ps xk.o u os from ⟨Fr.of_below (((Below.refl w.heap.size w).alloc (Nat.le_refl _) (.cells (bkc p xk.o u).toArray 78)).alloc (by simp) (.cells (kl zk).toArray 33)), W0.out, (h.alloc _).alloc _, (Blk.new w _ _).alloc _, Blk.new_of _ _ _ (by simp), (h.lt p (.inl rfl)).2⟩)
  have HAV := Lib.hid d0.v0
  have hol := oz_len
  have hz := z34
  have HM := Lib.hid (show ∀ W, StAt W base p A cap ps os → TabB base W → Calls Tryd.prog 27 #[bkv p xk.o u, .int .i64 1] W fun e w' => e = .returned k.val ∧ StAt w' base p A cap ps (mkL os a b 1) ∧ Fr (fun k => k ∈ ps) W w' from fun W hW hTW => by rw [hk]; exact made_some hW ho hTW d0 hN 1 (.inl rfl) hf)
  have HN1 := Lib.hid (show 0 < (mkL os a b 1).length by rw [mkL_len]; have := d0.lt; omega)
  have HO1 := Lib.hid (show okAll (mkL os a b 1).length (mkL os a b 1) by rw [mkL_len]; exact mkL_ok ho d0 (.inl rfl))
  have HN2 := Lib.hid (show 0 < (gvA (mkL os a b 1) k (m : Int) (b : Int)).length by rw [gvA_len]; exact HN1.out)
  have HO2 := Lib.hid (show okAll (gvA (mkL os a b 1) k (m : Int) (b : Int)).length (gvA (mkL os a b 1) k (m : Int) (b : Int)) by rw [gvA_len]; exact gvA_ok HO1.out _ _ _)
  have HDD := Lib.hid (show m = d + 1 ∧ b = d + n ∧ b < 64 from ⟨hm1, hm2, by have := d0.bl; omega⟩)
  have e5 : IntKind.i64.wrap ((b : Int) - (n : Int)) = (d : Int) := by rw [show (b : Int) - (n : Int) = (d : Int) by omega]; exact IntWalk.i64_in _ (by have := HDD.out; omega)
  have e6 : IntKind.i64.wrap ((d : Int) + 1) = (m : Int) := by rw [show (d : Int) + 1 = (m : Int) by omega]; exact IntWalk.i64_in _ (by have := HDD.out; omega)
  have e10 : IntKind.i64.wrap ((m : Int) - 1) = (m : Int) - 1 := IntWalk.i64_in _ (by have := HDD.out; omega)
  have HADD := Lib.hid had
  have HAB := Lib.hid d0.ab
  have HBL := Lib.hid (show b < (mkL os a b 1).length by rw [mkL_len]; exact d0.bl)
  have HN64 := Lib.hid (show (mkL os a b 1).length ≤ 64 by rw [mkL_len]; exact hN)
  clear h ho hT hN d0 hf hk hm1 hm2 DD
  refine (callsIn_wide (n := 4)).1 (calls_of_wpAt Tryd.func37 rfl ?_)
  simp only [Tryd.ntmps37, List.size_toArray, List.length_cons, List.length_nil, Nat.reduceAdd, Nat.reduceSub, Array.replicate_succ, Array.replicate_zero, List.push_toArray, List.append_toArray, List.nil_append, List.cons_append]
  refine wpAt_head (n := 4) ?_
  gi_wp2
  refine wpAt_head (n := 4) (wpIn_wide.2 ?_)
  refine region_twoB (fun ac g h => (((((((((ac.put (some 9) (bkv p xk.o u)).put (some 11) (bkv p xk.o u)).put (some 13) (.int .i64 (n : Int))).put (some 10) k.val).put (some 12) (.int .i64 (b : Int))).put (some 14) (.int .i64 (d : Int))).put (some 15) (.int .i64 (m : Int))).put (some 5) (.pointer (some ⟨g, 0, none⟩))).put (some 6) (.pointer (some ⟨h, 0, none⟩)))) (fun g h W => Sq w W base p A cap ps xk.o u (mkL os a b 1) ∧ Blk W g 33 (kl k).toArray ∧ Blk W h 3 #[.int .i64 (m : Int)] ∧ w.heap.size + 2 ≤ g ∧ w.heap.size + 2 ≤ h ∧ g ≠ h) ?mkTwo ?mkRest
  case mkTwo =>
    refine wp_region_only (S := fun w' => BkAt w' w.heap.size 0 p xk.o u) (by kernel_rfl) Q0.out.drew.b0.bk (fun hHeld => ?_)
    refine wpAnyH_take (i := 0) rfl (by kernel_rfl) (by kernel_rfl) (by kernel_rfl) (fun _ _ _ h => h) (y_bk (by rfl) (.tmp 2) (by rfl) w.heap.size 0 (by rfl) p xk.o u (fun _ h => h)) hHeld ?_
    try simp only [Act.put, List.getElem_toArray, List.getElem_cons_zero, List.setIfInBounds_toArray, List.set_cons_zero, List.set_cons_succ]
    refine wpAnyH_take (i := 2) rfl (by kernel_rfl) (by kernel_rfl) (by kernel_rfl) (fun _ _ _ h => h) (y_bk (by rfl) (.tmp 2) (by rfl) w.heap.size 0 (by rfl) p xk.o u (fun _ h => h)) hHeld ?_
    try simp only [Act.put, List.getElem_toArray, List.getElem_cons_succ, List.getElem_cons_zero, List.setIfInBounds_toArray, List.set_cons_zero, List.set_cons_succ]
    refine wpAnyH_take (i := 4) (v := ?v2) rfl (by kernel_rfl) (by kernel_rfl) (by kernel_rfl) (fun _ _ _ h => h) (Or.inl ⟨by rfl, ?hy2⟩) hHeld ?rest2
    case hy2 =>
      intro w' hSw
      try dsimp only at hSw
      go_simp
      first | done | with_reducible rfl
    try simp only [Act.put, List.getElem_toArray, List.getElem_cons_succ, List.getElem_cons_zero, List.setIfInBounds_toArray, List.set_cons_zero, List.set_cons_succ]
    refine wpAnyH_ready (rs := [1, 7, 8]) (by kernel_rfl) (by simp) ?_
    refine AllReadyH.cons (by rfl) (fun K hK => ?_) (AllReadyH.cons (by rfl) (fun K hK => ?_) (AllReadyH.cons (by rfl) (fun K hK => ?_) AllReadyH.nil))
    · go_simp
      refine (HM.out _ Q0.out.drew.st (HT.out.fr HST.out Q0.out.drew.fr)).mono ?_
      rintro e_ w1 ⟨rfl, hs_, hf_⟩
      have Q1 := Lib.hid (Q0.out.drew.fr' hf_ hs_)
      clear hs_ hf_ hHeld
      go_wp2_with fail
      refine hK.out _ _ Q1.out.b0.bk (fun hHeld => ?_)
      clear hK K
      try simp only [Act.put, List.getElem_toArray, List.getElem_cons_succ, List.getElem_cons_zero, List.setIfInBounds_toArray, List.set_cons_zero, List.set_cons_succ]
      refine wpAnyH_ready (rs := [3, 7, 8]) (by kernel_rfl) (by simp) ?_
      refine AllReadyH.cons (by rfl) (fun K hK => ?_) (AllReadyH.cons (by rfl) (fun K hK => ?_) (AllReadyH.cons (by rfl) (fun K hK => ?_) AllReadyH.nil))
      · go_simp
        refine (last_eq p xk.o u _ HBV.out).mono ?_
        rintro e_ w2 ⟨rfl, b_⟩
        have Q2 := Lib.hid (Q1.out.below b_)
        clear b_ hHeld
        go_wp2_with fail
        refine hK.out _ _ Q2.out.b0.bk (fun hHeld => ?_)
        clear hK K
        try simp only [Act.put, List.getElem_toArray, List.getElem_cons_succ, List.getElem_cons_zero, List.setIfInBounds_toArray, List.set_cons_zero, List.set_cons_succ]
        refine wpAnyH_take (i := 5) (v := ?v3) rfl (by kernel_rfl) (by kernel_rfl) (by kernel_rfl) (fun _ _ _ h => h) (Or.inl ⟨by rfl, ?hy3⟩) hHeld ?rest3
        case hy3 =>
          intro w' hSw
          try dsimp only at hSw
          go_simp
          first | done | with_reducible rfl
        try simp only [Act.put, List.getElem_toArray, List.getElem_cons_succ, List.getElem_cons_zero, List.setIfInBounds_toArray, List.set_cons_zero, List.set_cons_succ]
        refine wpAnyH_take (i := 6) (v := ?v4) rfl (by kernel_rfl) (by kernel_rfl) (by kernel_rfl) (fun _ _ _ h => h) (Or.inl ⟨by rfl, ?hy4⟩) hHeld ?rest4
        case hy4 =>
          intro w' hSw
          try dsimp only at hSw
          go_simp
          first | done | with_reducible rfl
        try simp only [Act.put, List.getElem_toArray, List.getElem_cons_succ, List.getElem_cons_zero, List.setIfInBounds_toArray, List.set_cons_zero, List.set_cons_succ]
        refine wpAnyH_ready (rs := [7, 8]) (by kernel_rfl) (by simp) ?_
        refine AllReadyH.cons (by rfl) (fun K hK => ?_) (AllReadyH.cons (by rfl) (fun K hK => ?_) AllReadyH.nil)
        · refine step_alloc30 rfl (by rfl) ?_
          intro g w3 hg hw
          have Q3 : Hid (Sq w w3 base p A cap ps xk.o u (mkL os a b 1)) := Lib.hid (by subst hw; exact Q2.out.alloc _)
          have Eg : Hid (w.heap.size + 2 ≤ g) := Lib.hid (by have h1 := Q2.out.sz; subst hg; exact h1)
          have Gg3 : Hid (Blk w3 g 33 (kl zk).toArray) := Lib.hid (by subst hw hg; exact Blk.new _ _ _)
          clear hg hw hHeld
          refine hK.out _ _ Q3.out.b0.bk (fun hHeld => ?_)
          clear hK K
          try simp only [Act.put, List.getElem_toArray, List.getElem_cons_succ, List.getElem_cons_zero, List.setIfInBounds_toArray, List.set_cons_zero, List.set_cons_succ]
          refine wpAnyH_ready (rs := [8]) (by kernel_rfl) (by simp) ?_
          refine AllReadyH.cons (by rfl) (fun K hK => ?_) AllReadyH.nil
          · refine step_allocI rfl (by rfl) ?_
            intro h w4 hg hw
            have Q4 : Hid (Sq w w4 base p A cap ps xk.o u (mkL os a b 1)) := Lib.hid (by subst hw; exact Q3.out.alloc _)
            have Eh : Hid (w.heap.size + 2 ≤ h) := Lib.hid (by have h1 := Q3.out.sz; subst hg; exact h1)
            have Gh4 : Hid (Blk w4 h 3 #[.int .i64 0]) := Lib.hid (by subst hw hg; exact Blk.new _ _ _)
            have Gg4 : Hid (Blk w4 g 33 (kl zk).toArray) := Lib.hid (by subst hw; exact Gg3.out.alloc _)
            have NE : Hid (g ≠ h) := Lib.hid (by have h1 := Gg3.out.lt; subst hg; omega)
            clear hg hw hHeld
            refine hK.out _ _ Q4.out.b0.bk (fun hHeld => ?_)
            clear hK K
            try simp only [Act.put, List.getElem_toArray, List.getElem_cons_succ, List.getElem_cons_zero, List.setIfInBounds_toArray, List.set_cons_zero, List.set_cons_succ]
            refine wpAnyH_ready (rs := [9]) (by kernel_rfl) (by simp) ?_
            refine AllReadyH.cons (by rfl) (fun K hK => ?_) AllReadyH.nil
            refine step_store_big Gg4.out rfl (.tmp 5) (.tmp 10) (ty := 33) (l := kl k) rfl (by rfl) (by rfl) size30 rfl (kl_one _) ?_
            have QA := Lib.hid (Q4.out.set Gg4.out (by decide) Eg.out (kl k).toArray)
            have GgA := Lib.hid (Gg4.out.setRow (kl k).toArray)
            have GhA := Lib.hid (Blk.row_far Gh4.out (Ne.symm NE.out) (kl k).toArray)
            have cA := GhA.out.one
            have zA := GhA.out.frozen 0
            generalize w4.setRow g (kl k).toArray = WA at QA GgA GhA cA zA ⊢
            refine hK.out _ _ QA.out.b0.bk (fun hHeld => ?_)
            clear hK K
            try simp only [Act.put, List.getElem_toArray, List.getElem_cons_succ, List.getElem_cons_zero]
            refine wpAnyH_ready (rs := [10]) (by kernel_rfl) (by simp) ?_
            refine AllReadyH.cons (by rfl) (fun K hK => ?_) AllReadyH.nil
            go_simp
            have QB := Lib.hid (QA.out.setc GhA.out (by decide) Eh.out 0 (.int .i64 (m : Int)))
            have GgB := Lib.hid (Blk.far GgA.out (p := ⟨h, 0, none⟩) NE.out (.int .i64 (m : Int)))
            have GhB := Lib.hid (set_same GhA.out (.int .i64 (m : Int)))
            refine hK.out _ _ QB.out.b0.bk (fun hHeld => ?_)
            clear hK K
            try simp only [Act.put, List.getElem_toArray, List.getElem_cons_succ, List.getElem_cons_zero]
            refine wpAnyH_done (by kernel_rfl) ?_ _
            refine OnlyN.normal ?_
            exact ⟨g, h, rfl, rfl, QB.out, GgB.out, GhB.out, Eg.out, Eh.out, NE.out⟩
        · refine step_allocI rfl (by rfl) ?_
          intro h w5 hg hw
          have Q5 : Hid (Sq w w5 base p A cap ps xk.o u (mkL os a b 1)) := Lib.hid (by subst hw; exact Q2.out.alloc _)
          have Eh : Hid (w.heap.size + 2 ≤ h) := Lib.hid (by have h1 := Q2.out.sz; subst hg; exact h1)
          have Gh5 : Hid (Blk w5 h 3 #[.int .i64 0]) := Lib.hid (by subst hw hg; exact Blk.new _ _ _)
          clear hg hw hHeld
          refine hK.out _ _ Q5.out.b0.bk (fun hHeld => ?_)
          clear hK K
          try simp only [Act.put, List.getElem_toArray, List.getElem_cons_succ, List.getElem_cons_zero, List.setIfInBounds_toArray, List.set_cons_zero, List.set_cons_succ]
          refine wpAnyH_ready (rs := [7]) (by kernel_rfl) (by simp) ?_
          refine AllReadyH.cons (by rfl) (fun K hK => ?_) AllReadyH.nil
          · refine step_alloc30 rfl (by rfl) ?_
            intro g w6 hg hw
            have Q6 : Hid (Sq w w6 base p A cap ps xk.o u (mkL os a b 1)) := Lib.hid (by subst hw; exact Q5.out.alloc _)
            have Eg : Hid (w.heap.size + 2 ≤ g) := Lib.hid (by have h1 := Q5.out.sz; subst hg; exact h1)
            have Gg6 : Hid (Blk w6 g 33 (kl zk).toArray) := Lib.hid (by subst hw hg; exact Blk.new _ _ _)
            have Gh6 : Hid (Blk w6 h 3 #[.int .i64 0]) := Lib.hid (by subst hw; exact Gh5.out.alloc _)
            have NE : Hid (g ≠ h) := Lib.hid (by have h1 := Gh5.out.lt; subst hg; omega)
            clear hg hw hHeld
            refine hK.out _ _ Q6.out.b0.bk (fun hHeld => ?_)
            clear hK K
            try simp only [Act.put, List.getElem_toArray, List.getElem_cons_succ, List.getElem_cons_zero, List.setIfInBounds_toArray, List.set_cons_zero, List.set_cons_succ]
            refine wpAnyH_ready (rs := [9]) (by kernel_rfl) (by simp) ?_
            refine AllReadyH.cons (by rfl) (fun K hK => ?_) AllReadyH.nil
            refine step_store_big Gg6.out rfl (.tmp 5) (.tmp 10) (ty := 33) (l := kl k) rfl (by rfl) (by rfl) size30 rfl (kl_one _) ?_
            have QA := Lib.hid (Q6.out.set Gg6.out (by decide) Eg.out (kl k).toArray)
            have GgA := Lib.hid (Gg6.out.setRow (kl k).toArray)
            have GhA := Lib.hid (Blk.row_far Gh6.out (Ne.symm NE.out) (kl k).toArray)
            have cA := GhA.out.one
            have zA := GhA.out.frozen 0
            generalize w6.setRow g (kl k).toArray = WA at QA GgA GhA cA zA ⊢
            refine hK.out _ _ QA.out.b0.bk (fun hHeld => ?_)
            clear hK K
            try simp only [Act.put, List.getElem_toArray, List.getElem_cons_succ, List.getElem_cons_zero]
            refine wpAnyH_ready (rs := [10]) (by kernel_rfl) (by simp) ?_
            refine AllReadyH.cons (by rfl) (fun K hK => ?_) AllReadyH.nil
            go_simp
            have QB := Lib.hid (QA.out.setc GhA.out (by decide) Eh.out 0 (.int .i64 (m : Int)))
            have GgB := Lib.hid (Blk.far GgA.out (p := ⟨h, 0, none⟩) NE.out (.int .i64 (m : Int)))
            have GhB := Lib.hid (set_same GhA.out (.int .i64 (m : Int)))
            refine hK.out _ _ QB.out.b0.bk (fun hHeld => ?_)
            clear hK K
            try simp only [Act.put, List.getElem_toArray, List.getElem_cons_succ, List.getElem_cons_zero]
            refine wpAnyH_done (by kernel_rfl) ?_ _
            refine OnlyN.normal ?_
            exact ⟨g, h, rfl, rfl, QB.out, GgB.out, GhB.out, Eg.out, Eh.out, NE.out⟩
      · refine step_alloc30 rfl (by rfl) ?_
        intro g w7 hg hw
        have Q7 : Hid (Sq w w7 base p A cap ps xk.o u (mkL os a b 1)) := Lib.hid (by subst hw; exact Q1.out.alloc _)
        have Eg : Hid (w.heap.size + 2 ≤ g) := Lib.hid (by have h1 := Q1.out.sz; subst hg; exact h1)
        have Gg7 : Hid (Blk w7 g 33 (kl zk).toArray) := Lib.hid (by subst hw hg; exact Blk.new _ _ _)
        clear hg hw hHeld
        refine hK.out _ _ Q7.out.b0.bk (fun hHeld => ?_)
        clear hK K
        try simp only [Act.put, List.getElem_toArray, List.getElem_cons_succ, List.getElem_cons_zero, List.setIfInBounds_toArray, List.set_cons_zero, List.set_cons_succ]
        refine wpAnyH_ready (rs := [3, 8]) (by kernel_rfl) (by simp) ?_
        refine AllReadyH.cons (by rfl) (fun K hK => ?_) (AllReadyH.cons (by rfl) (fun K hK => ?_) AllReadyH.nil)
        · go_simp
          refine (last_eq p xk.o u _ HBV.out).mono ?_
          rintro e_ w8 ⟨rfl, b_⟩
          have Q8 := Lib.hid (Q7.out.below b_)
          have Gg8 := Lib.hid (Gg7.out.keep b_)
          clear b_ hHeld
          go_wp2_with fail
          refine hK.out _ _ Q8.out.b0.bk (fun hHeld => ?_)
          clear hK K
          try simp only [Act.put, List.getElem_toArray, List.getElem_cons_succ, List.getElem_cons_zero, List.setIfInBounds_toArray, List.set_cons_zero, List.set_cons_succ]
          refine wpAnyH_take (i := 5) (v := ?v5) rfl (by kernel_rfl) (by kernel_rfl) (by kernel_rfl) (fun _ _ _ h => h) (Or.inl ⟨by rfl, ?hy5⟩) hHeld ?rest5
          case hy5 =>
            intro w' hSw
            try dsimp only at hSw
            go_simp
            first | done | with_reducible rfl
          try simp only [Act.put, List.getElem_toArray, List.getElem_cons_succ, List.getElem_cons_zero, List.setIfInBounds_toArray, List.set_cons_zero, List.set_cons_succ]
          refine wpAnyH_take (i := 6) (v := ?v6) rfl (by kernel_rfl) (by kernel_rfl) (by kernel_rfl) (fun _ _ _ h => h) (Or.inl ⟨by rfl, ?hy6⟩) hHeld ?rest6
          case hy6 =>
            intro w' hSw
            try dsimp only at hSw
            go_simp
            first | done | with_reducible rfl
          try simp only [Act.put, List.getElem_toArray, List.getElem_cons_succ, List.getElem_cons_zero, List.setIfInBounds_toArray, List.set_cons_zero, List.set_cons_succ]
          refine wpAnyH_ready (rs := [8]) (by kernel_rfl) (by simp) ?_
          refine AllReadyH.cons (by rfl) (fun K hK => ?_) AllReadyH.nil
          · refine step_allocI rfl (by rfl) ?_
            intro h w9 hg hw
            have Q9 : Hid (Sq w w9 base p A cap ps xk.o u (mkL os a b 1)) := Lib.hid (by subst hw; exact Q8.out.alloc _)
            have Eh : Hid (w.heap.size + 2 ≤ h) := Lib.hid (by have h1 := Q8.out.sz; subst hg; exact h1)
            have Gh9 : Hid (Blk w9 h 3 #[.int .i64 0]) := Lib.hid (by subst hw hg; exact Blk.new _ _ _)
            have Gg9 : Hid (Blk w9 g 33 (kl zk).toArray) := Lib.hid (by subst hw; exact Gg8.out.alloc _)
            have NE : Hid (g ≠ h) := Lib.hid (by have h1 := Gg8.out.lt; subst hg; omega)
            clear hg hw hHeld
            refine hK.out _ _ Q9.out.b0.bk (fun hHeld => ?_)
            clear hK K
            try simp only [Act.put, List.getElem_toArray, List.getElem_cons_succ, List.getElem_cons_zero, List.setIfInBounds_toArray, List.set_cons_zero, List.set_cons_succ]
            refine wpAnyH_ready (rs := [9]) (by kernel_rfl) (by simp) ?_
            refine AllReadyH.cons (by rfl) (fun K hK => ?_) AllReadyH.nil
            refine step_store_big Gg9.out rfl (.tmp 5) (.tmp 10) (ty := 33) (l := kl k) rfl (by rfl) (by rfl) size30 rfl (kl_one _) ?_
            have QA := Lib.hid (Q9.out.set Gg9.out (by decide) Eg.out (kl k).toArray)
            have GgA := Lib.hid (Gg9.out.setRow (kl k).toArray)
            have GhA := Lib.hid (Blk.row_far Gh9.out (Ne.symm NE.out) (kl k).toArray)
            have cA := GhA.out.one
            have zA := GhA.out.frozen 0
            generalize w9.setRow g (kl k).toArray = WA at QA GgA GhA cA zA ⊢
            refine hK.out _ _ QA.out.b0.bk (fun hHeld => ?_)
            clear hK K
            try simp only [Act.put, List.getElem_toArray, List.getElem_cons_succ, List.getElem_cons_zero]
            refine wpAnyH_ready (rs := [10]) (by kernel_rfl) (by simp) ?_
            refine AllReadyH.cons (by rfl) (fun K hK => ?_) AllReadyH.nil
            go_simp
            have QB := Lib.hid (QA.out.setc GhA.out (by decide) Eh.out 0 (.int .i64 (m : Int)))
            have GgB := Lib.hid (Blk.far GgA.out (p := ⟨h, 0, none⟩) NE.out (.int .i64 (m : Int)))
            have GhB := Lib.hid (set_same GhA.out (.int .i64 (m : Int)))
            refine hK.out _ _ QB.out.b0.bk (fun hHeld => ?_)
            clear hK K
            try simp only [Act.put, List.getElem_toArray, List.getElem_cons_succ, List.getElem_cons_zero]
            refine wpAnyH_done (by kernel_rfl) ?_ _
            refine OnlyN.normal ?_
            exact ⟨g, h, rfl, rfl, QB.out, GgB.out, GhB.out, Eg.out, Eh.out, NE.out⟩
        · refine step_allocI rfl (by rfl) ?_
          intro h w10 hg hw
          have Q10 : Hid (Sq w w10 base p A cap ps xk.o u (mkL os a b 1)) := Lib.hid (by subst hw; exact Q7.out.alloc _)
          have Eh : Hid (w.heap.size + 2 ≤ h) := Lib.hid (by have h1 := Q7.out.sz; subst hg; exact h1)
          have Gh10 : Hid (Blk w10 h 3 #[.int .i64 0]) := Lib.hid (by subst hw hg; exact Blk.new _ _ _)
          have Gg10 : Hid (Blk w10 g 33 (kl zk).toArray) := Lib.hid (by subst hw; exact Gg7.out.alloc _)
          have NE : Hid (g ≠ h) := Lib.hid (by have h1 := Gg7.out.lt; subst hg; omega)
          clear hg hw hHeld
          refine hK.out _ _ Q10.out.b0.bk (fun hHeld => ?_)
          clear hK K
          try simp only [Act.put, List.getElem_toArray, List.getElem_cons_succ, List.getElem_cons_zero, List.setIfInBounds_toArray, List.set_cons_zero, List.set_cons_succ]
          refine wpAnyH_ready (rs := [3]) (by kernel_rfl) (by simp) ?_
          refine AllReadyH.cons (by rfl) (fun K hK => ?_) AllReadyH.nil
          · go_simp
            refine (last_eq p xk.o u _ HBV.out).mono ?_
            rintro e_ w11 ⟨rfl, b_⟩
            have Q11 := Lib.hid (Q10.out.below b_)
            have Gg11 := Lib.hid (Gg10.out.keep b_)
            have Gh11 := Lib.hid (Gh10.out.keep b_)
            clear b_ hHeld
            go_wp2_with fail
            refine hK.out _ _ Q11.out.b0.bk (fun hHeld => ?_)
            clear hK K
            try simp only [Act.put, List.getElem_toArray, List.getElem_cons_succ, List.getElem_cons_zero, List.setIfInBounds_toArray, List.set_cons_zero, List.set_cons_succ]
            refine wpAnyH_take (i := 5) (v := ?v7) rfl (by kernel_rfl) (by kernel_rfl) (by kernel_rfl) (fun _ _ _ h => h) (Or.inl ⟨by rfl, ?hy7⟩) hHeld ?rest7
            case hy7 =>
              intro w' hSw
              try dsimp only at hSw
              go_simp
              first | done | with_reducible rfl
            try simp only [Act.put, List.getElem_toArray, List.getElem_cons_succ, List.getElem_cons_zero, List.setIfInBounds_toArray, List.set_cons_zero, List.set_cons_succ]
            refine wpAnyH_take (i := 6) (v := ?v8) rfl (by kernel_rfl) (by kernel_rfl) (by kernel_rfl) (fun _ _ _ h => h) (Or.inl ⟨by rfl, ?hy8⟩) hHeld ?rest8
            case hy8 =>
              intro w' hSw
              try dsimp only at hSw
              go_simp
              first | done | with_reducible rfl
            try simp only [Act.put, List.getElem_toArray, List.getElem_cons_succ, List.getElem_cons_zero, List.setIfInBounds_toArray, List.set_cons_zero, List.set_cons_succ]
            refine wpAnyH_ready (rs := [9]) (by kernel_rfl) (by simp) ?_
            refine AllReadyH.cons (by rfl) (fun K hK => ?_) AllReadyH.nil
            refine step_store_big Gg11.out rfl (.tmp 5) (.tmp 10) (ty := 33) (l := kl k) rfl (by rfl) (by rfl) size30 rfl (kl_one _) ?_
            have QA := Lib.hid (Q11.out.set Gg11.out (by decide) Eg.out (kl k).toArray)
            have GgA := Lib.hid (Gg11.out.setRow (kl k).toArray)
            have GhA := Lib.hid (Blk.row_far Gh11.out (Ne.symm NE.out) (kl k).toArray)
            have cA := GhA.out.one
            have zA := GhA.out.frozen 0
            generalize w11.setRow g (kl k).toArray = WA at QA GgA GhA cA zA ⊢
            refine hK.out _ _ QA.out.b0.bk (fun hHeld => ?_)
            clear hK K
            try simp only [Act.put, List.getElem_toArray, List.getElem_cons_succ, List.getElem_cons_zero]
            refine wpAnyH_ready (rs := [10]) (by kernel_rfl) (by simp) ?_
            refine AllReadyH.cons (by rfl) (fun K hK => ?_) AllReadyH.nil
            go_simp
            have QB := Lib.hid (QA.out.setc GhA.out (by decide) Eh.out 0 (.int .i64 (m : Int)))
            have GgB := Lib.hid (Blk.far GgA.out (p := ⟨h, 0, none⟩) NE.out (.int .i64 (m : Int)))
            have GhB := Lib.hid (set_same GhA.out (.int .i64 (m : Int)))
            refine hK.out _ _ QB.out.b0.bk (fun hHeld => ?_)
            clear hK K
            try simp only [Act.put, List.getElem_toArray, List.getElem_cons_succ, List.getElem_cons_zero]
            refine wpAnyH_done (by kernel_rfl) ?_ _
            refine OnlyN.normal ?_
            exact ⟨g, h, rfl, rfl, QB.out, GgB.out, GhB.out, Eg.out, Eh.out, NE.out⟩
      · refine step_allocI rfl (by rfl) ?_
        intro h w12 hg hw
        have Q12 : Hid (Sq w w12 base p A cap ps xk.o u (mkL os a b 1)) := Lib.hid (by subst hw; exact Q1.out.alloc _)
        have Eh : Hid (w.heap.size + 2 ≤ h) := Lib.hid (by have h1 := Q1.out.sz; subst hg; exact h1)
        have Gh12 : Hid (Blk w12 h 3 #[.int .i64 0]) := Lib.hid (by subst hw hg; exact Blk.new _ _ _)
        clear hg hw hHeld
        refine hK.out _ _ Q12.out.b0.bk (fun hHeld => ?_)
        clear hK K
        try simp only [Act.put, List.getElem_toArray, List.getElem_cons_succ, List.getElem_cons_zero, List.setIfInBounds_toArray, List.set_cons_zero, List.set_cons_succ]
        refine wpAnyH_ready (rs := [3, 7]) (by kernel_rfl) (by simp) ?_
        refine AllReadyH.cons (by rfl) (fun K hK => ?_) (AllReadyH.cons (by rfl) (fun K hK => ?_) AllReadyH.nil)
        · go_simp
          refine (last_eq p xk.o u _ HBV.out).mono ?_
          rintro e_ w13 ⟨rfl, b_⟩
          have Q13 := Lib.hid (Q12.out.below b_)
          have Gh13 := Lib.hid (Gh12.out.keep b_)
          clear b_ hHeld
          go_wp2_with fail
          refine hK.out _ _ Q13.out.b0.bk (fun hHeld => ?_)
          clear hK K
          try simp only [Act.put, List.getElem_toArray, List.getElem_cons_succ, List.getElem_cons_zero, List.setIfInBounds_toArray, List.set_cons_zero, List.set_cons_succ]
          refine wpAnyH_take (i := 5) (v := ?v9) rfl (by kernel_rfl) (by kernel_rfl) (by kernel_rfl) (fun _ _ _ h => h) (Or.inl ⟨by rfl, ?hy9⟩) hHeld ?rest9
          case hy9 =>
            intro w' hSw
            try dsimp only at hSw
            go_simp
            first | done | with_reducible rfl
          try simp only [Act.put, List.getElem_toArray, List.getElem_cons_succ, List.getElem_cons_zero, List.setIfInBounds_toArray, List.set_cons_zero, List.set_cons_succ]
          refine wpAnyH_take (i := 6) (v := ?v10) rfl (by kernel_rfl) (by kernel_rfl) (by kernel_rfl) (fun _ _ _ h => h) (Or.inl ⟨by rfl, ?hy10⟩) hHeld ?rest10
          case hy10 =>
            intro w' hSw
            try dsimp only at hSw
            go_simp
            first | done | with_reducible rfl
          try simp only [Act.put, List.getElem_toArray, List.getElem_cons_succ, List.getElem_cons_zero, List.setIfInBounds_toArray, List.set_cons_zero, List.set_cons_succ]
          refine wpAnyH_ready (rs := [7]) (by kernel_rfl) (by simp) ?_
          refine AllReadyH.cons (by rfl) (fun K hK => ?_) AllReadyH.nil
          · refine step_alloc30 rfl (by rfl) ?_
            intro g w14 hg hw
            have Q14 : Hid (Sq w w14 base p A cap ps xk.o u (mkL os a b 1)) := Lib.hid (by subst hw; exact Q13.out.alloc _)
            have Eg : Hid (w.heap.size + 2 ≤ g) := Lib.hid (by have h1 := Q13.out.sz; subst hg; exact h1)
            have Gg14 : Hid (Blk w14 g 33 (kl zk).toArray) := Lib.hid (by subst hw hg; exact Blk.new _ _ _)
            have Gh14 : Hid (Blk w14 h 3 #[.int .i64 0]) := Lib.hid (by subst hw; exact Gh13.out.alloc _)
            have NE : Hid (g ≠ h) := Lib.hid (by have h1 := Gh13.out.lt; subst hg; omega)
            clear hg hw hHeld
            refine hK.out _ _ Q14.out.b0.bk (fun hHeld => ?_)
            clear hK K
            try simp only [Act.put, List.getElem_toArray, List.getElem_cons_succ, List.getElem_cons_zero, List.setIfInBounds_toArray, List.set_cons_zero, List.set_cons_succ]
            refine wpAnyH_ready (rs := [9]) (by kernel_rfl) (by simp) ?_
            refine AllReadyH.cons (by rfl) (fun K hK => ?_) AllReadyH.nil
            refine step_store_big Gg14.out rfl (.tmp 5) (.tmp 10) (ty := 33) (l := kl k) rfl (by rfl) (by rfl) size30 rfl (kl_one _) ?_
            have QA := Lib.hid (Q14.out.set Gg14.out (by decide) Eg.out (kl k).toArray)
            have GgA := Lib.hid (Gg14.out.setRow (kl k).toArray)
            have GhA := Lib.hid (Blk.row_far Gh14.out (Ne.symm NE.out) (kl k).toArray)
            have cA := GhA.out.one
            have zA := GhA.out.frozen 0
            generalize w14.setRow g (kl k).toArray = WA at QA GgA GhA cA zA ⊢
            refine hK.out _ _ QA.out.b0.bk (fun hHeld => ?_)
            clear hK K
            try simp only [Act.put, List.getElem_toArray, List.getElem_cons_succ, List.getElem_cons_zero]
            refine wpAnyH_ready (rs := [10]) (by kernel_rfl) (by simp) ?_
            refine AllReadyH.cons (by rfl) (fun K hK => ?_) AllReadyH.nil
            go_simp
            have QB := Lib.hid (QA.out.setc GhA.out (by decide) Eh.out 0 (.int .i64 (m : Int)))
            have GgB := Lib.hid (Blk.far GgA.out (p := ⟨h, 0, none⟩) NE.out (.int .i64 (m : Int)))
            have GhB := Lib.hid (set_same GhA.out (.int .i64 (m : Int)))
            refine hK.out _ _ QB.out.b0.bk (fun hHeld => ?_)
            clear hK K
            try simp only [Act.put, List.getElem_toArray, List.getElem_cons_succ, List.getElem_cons_zero]
            refine wpAnyH_done (by kernel_rfl) ?_ _
            refine OnlyN.normal ?_
            exact ⟨g, h, rfl, rfl, QB.out, GgB.out, GhB.out, Eg.out, Eh.out, NE.out⟩
        · refine step_alloc30 rfl (by rfl) ?_
          intro g w15 hg hw
          have Q15 : Hid (Sq w w15 base p A cap ps xk.o u (mkL os a b 1)) := Lib.hid (by subst hw; exact Q12.out.alloc _)
          have Eg : Hid (w.heap.size + 2 ≤ g) := Lib.hid (by have h1 := Q12.out.sz; subst hg; exact h1)
          have Gg15 : Hid (Blk w15 g 33 (kl zk).toArray) := Lib.hid (by subst hw hg; exact Blk.new _ _ _)
          have Gh15 : Hid (Blk w15 h 3 #[.int .i64 0]) := Lib.hid (by subst hw; exact Gh12.out.alloc _)
          have NE : Hid (g ≠ h) := Lib.hid (by have h1 := Gh12.out.lt; subst hg; omega)
          clear hg hw hHeld
          refine hK.out _ _ Q15.out.b0.bk (fun hHeld => ?_)
          clear hK K
          try simp only [Act.put, List.getElem_toArray, List.getElem_cons_succ, List.getElem_cons_zero, List.setIfInBounds_toArray, List.set_cons_zero, List.set_cons_succ]
          refine wpAnyH_ready (rs := [3]) (by kernel_rfl) (by simp) ?_
          refine AllReadyH.cons (by rfl) (fun K hK => ?_) AllReadyH.nil
          · go_simp
            refine (last_eq p xk.o u _ HBV.out).mono ?_
            rintro e_ w16 ⟨rfl, b_⟩
            have Q16 := Lib.hid (Q15.out.below b_)
            have Gh16 := Lib.hid (Gh15.out.keep b_)
            have Gg16 := Lib.hid (Gg15.out.keep b_)
            clear b_ hHeld
            go_wp2_with fail
            refine hK.out _ _ Q16.out.b0.bk (fun hHeld => ?_)
            clear hK K
            try simp only [Act.put, List.getElem_toArray, List.getElem_cons_succ, List.getElem_cons_zero, List.setIfInBounds_toArray, List.set_cons_zero, List.set_cons_succ]
            refine wpAnyH_take (i := 5) (v := ?v11) rfl (by kernel_rfl) (by kernel_rfl) (by kernel_rfl) (fun _ _ _ h => h) (Or.inl ⟨by rfl, ?hy11⟩) hHeld ?rest11
            case hy11 =>
              intro w' hSw
              try dsimp only at hSw
              go_simp
              first | done | with_reducible rfl
            try simp only [Act.put, List.getElem_toArray, List.getElem_cons_succ, List.getElem_cons_zero, List.setIfInBounds_toArray, List.set_cons_zero, List.set_cons_succ]
            refine wpAnyH_take (i := 6) (v := ?v12) rfl (by kernel_rfl) (by kernel_rfl) (by kernel_rfl) (fun _ _ _ h => h) (Or.inl ⟨by rfl, ?hy12⟩) hHeld ?rest12
            case hy12 =>
              intro w' hSw
              try dsimp only at hSw
              go_simp
              first | done | with_reducible rfl
            try simp only [Act.put, List.getElem_toArray, List.getElem_cons_succ, List.getElem_cons_zero, List.setIfInBounds_toArray, List.set_cons_zero, List.set_cons_succ]
            refine wpAnyH_ready (rs := [9]) (by kernel_rfl) (by simp) ?_
            refine AllReadyH.cons (by rfl) (fun K hK => ?_) AllReadyH.nil
            refine step_store_big Gg16.out rfl (.tmp 5) (.tmp 10) (ty := 33) (l := kl k) rfl (by rfl) (by rfl) size30 rfl (kl_one _) ?_
            have QA := Lib.hid (Q16.out.set Gg16.out (by decide) Eg.out (kl k).toArray)
            have GgA := Lib.hid (Gg16.out.setRow (kl k).toArray)
            have GhA := Lib.hid (Blk.row_far Gh16.out (Ne.symm NE.out) (kl k).toArray)
            have cA := GhA.out.one
            have zA := GhA.out.frozen 0
            generalize w16.setRow g (kl k).toArray = WA at QA GgA GhA cA zA ⊢
            refine hK.out _ _ QA.out.b0.bk (fun hHeld => ?_)
            clear hK K
            try simp only [Act.put, List.getElem_toArray, List.getElem_cons_succ, List.getElem_cons_zero]
            refine wpAnyH_ready (rs := [10]) (by kernel_rfl) (by simp) ?_
            refine AllReadyH.cons (by rfl) (fun K hK => ?_) AllReadyH.nil
            go_simp
            have QB := Lib.hid (QA.out.setc GhA.out (by decide) Eh.out 0 (.int .i64 (m : Int)))
            have GgB := Lib.hid (Blk.far GgA.out (p := ⟨h, 0, none⟩) NE.out (.int .i64 (m : Int)))
            have GhB := Lib.hid (set_same GhA.out (.int .i64 (m : Int)))
            refine hK.out _ _ QB.out.b0.bk (fun hHeld => ?_)
            clear hK K
            try simp only [Act.put, List.getElem_toArray, List.getElem_cons_succ, List.getElem_cons_zero]
            refine wpAnyH_done (by kernel_rfl) ?_ _
            refine OnlyN.normal ?_
            exact ⟨g, h, rfl, rfl, QB.out, GgB.out, GhB.out, Eg.out, Eh.out, NE.out⟩
    · refine step_alloc30 rfl (by rfl) ?_
      intro g w17 hg hw
      have Q17 : Hid (Sq w w17 base p A cap ps xk.o u os) := Lib.hid (by subst hw; exact Q0.out.drew.alloc _)
      have Eg : Hid (w.heap.size + 2 ≤ g) := Lib.hid (by have h1 := Q0.out.sz; subst hg; exact h1)
      have Gg17 : Hid (Blk w17 g 33 (kl zk).toArray) := Lib.hid (by subst hw hg; exact Blk.new _ _ _)
      clear hg hw hHeld
      refine hK.out _ _ Q17.out.b0.bk (fun hHeld => ?_)
      clear hK K
      try simp only [Act.put, List.getElem_toArray, List.getElem_cons_succ, List.getElem_cons_zero, List.setIfInBounds_toArray, List.set_cons_zero, List.set_cons_succ]
      refine wpAnyH_ready (rs := [1, 8]) (by kernel_rfl) (by simp) ?_
      refine AllReadyH.cons (by rfl) (fun K hK => ?_) (AllReadyH.cons (by rfl) (fun K hK => ?_) AllReadyH.nil)
      · go_simp
        refine (HM.out _ Q17.out.st (HT.out.fr HST.out Q17.out.fr)).mono ?_
        rintro e_ w18 ⟨rfl, hs_, hf_⟩
        have Q18 := Lib.hid (Q17.out.fr' hf_ hs_)
        have Gg18 := Lib.hid (Q17.out.st.blkF hf_ Gg17.out (by decide))
        clear hs_ hf_ hHeld
        go_wp2_with fail
        refine hK.out _ _ Q18.out.b0.bk (fun hHeld => ?_)
        clear hK K
        try simp only [Act.put, List.getElem_toArray, List.getElem_cons_succ, List.getElem_cons_zero, List.setIfInBounds_toArray, List.set_cons_zero, List.set_cons_succ]
        refine wpAnyH_ready (rs := [3, 8]) (by kernel_rfl) (by simp) ?_
        refine AllReadyH.cons (by rfl) (fun K hK => ?_) (AllReadyH.cons (by rfl) (fun K hK => ?_) AllReadyH.nil)
        · go_simp
          refine (last_eq p xk.o u _ HBV.out).mono ?_
          rintro e_ w19 ⟨rfl, b_⟩
          have Q19 := Lib.hid (Q18.out.below b_)
          have Gg19 := Lib.hid (Gg18.out.keep b_)
          clear b_ hHeld
          go_wp2_with fail
          refine hK.out _ _ Q19.out.b0.bk (fun hHeld => ?_)
          clear hK K
          try simp only [Act.put, List.getElem_toArray, List.getElem_cons_succ, List.getElem_cons_zero, List.setIfInBounds_toArray, List.set_cons_zero, List.set_cons_succ]
          refine wpAnyH_take (i := 5) (v := ?v13) rfl (by kernel_rfl) (by kernel_rfl) (by kernel_rfl) (fun _ _ _ h => h) (Or.inl ⟨by rfl, ?hy13⟩) hHeld ?rest13
          case hy13 =>
            intro w' hSw
            try dsimp only at hSw
            go_simp
            first | done | with_reducible rfl
          try simp only [Act.put, List.getElem_toArray, List.getElem_cons_succ, List.getElem_cons_zero, List.setIfInBounds_toArray, List.set_cons_zero, List.set_cons_succ]
          refine wpAnyH_take (i := 6) (v := ?v14) rfl (by kernel_rfl) (by kernel_rfl) (by kernel_rfl) (fun _ _ _ h => h) (Or.inl ⟨by rfl, ?hy14⟩) hHeld ?rest14
          case hy14 =>
            intro w' hSw
            try dsimp only at hSw
            go_simp
            first | done | with_reducible rfl
          try simp only [Act.put, List.getElem_toArray, List.getElem_cons_succ, List.getElem_cons_zero, List.setIfInBounds_toArray, List.set_cons_zero, List.set_cons_succ]
          refine wpAnyH_ready (rs := [8]) (by kernel_rfl) (by simp) ?_
          refine AllReadyH.cons (by rfl) (fun K hK => ?_) AllReadyH.nil
          · refine step_allocI rfl (by rfl) ?_
            intro h w20 hg hw
            have Q20 : Hid (Sq w w20 base p A cap ps xk.o u (mkL os a b 1)) := Lib.hid (by subst hw; exact Q19.out.alloc _)
            have Eh : Hid (w.heap.size + 2 ≤ h) := Lib.hid (by have h1 := Q19.out.sz; subst hg; exact h1)
            have Gh20 : Hid (Blk w20 h 3 #[.int .i64 0]) := Lib.hid (by subst hw hg; exact Blk.new _ _ _)
            have Gg20 : Hid (Blk w20 g 33 (kl zk).toArray) := Lib.hid (by subst hw; exact Gg19.out.alloc _)
            have NE : Hid (g ≠ h) := Lib.hid (by have h1 := Gg19.out.lt; subst hg; omega)
            clear hg hw hHeld
            refine hK.out _ _ Q20.out.b0.bk (fun hHeld => ?_)
            clear hK K
            try simp only [Act.put, List.getElem_toArray, List.getElem_cons_succ, List.getElem_cons_zero, List.setIfInBounds_toArray, List.set_cons_zero, List.set_cons_succ]
            refine wpAnyH_ready (rs := [9]) (by kernel_rfl) (by simp) ?_
            refine AllReadyH.cons (by rfl) (fun K hK => ?_) AllReadyH.nil
            refine step_store_big Gg20.out rfl (.tmp 5) (.tmp 10) (ty := 33) (l := kl k) rfl (by rfl) (by rfl) size30 rfl (kl_one _) ?_
            have QA := Lib.hid (Q20.out.set Gg20.out (by decide) Eg.out (kl k).toArray)
            have GgA := Lib.hid (Gg20.out.setRow (kl k).toArray)
            have GhA := Lib.hid (Blk.row_far Gh20.out (Ne.symm NE.out) (kl k).toArray)
            have cA := GhA.out.one
            have zA := GhA.out.frozen 0
            generalize w20.setRow g (kl k).toArray = WA at QA GgA GhA cA zA ⊢
            refine hK.out _ _ QA.out.b0.bk (fun hHeld => ?_)
            clear hK K
            try simp only [Act.put, List.getElem_toArray, List.getElem_cons_succ, List.getElem_cons_zero]
            refine wpAnyH_ready (rs := [10]) (by kernel_rfl) (by simp) ?_
            refine AllReadyH.cons (by rfl) (fun K hK => ?_) AllReadyH.nil
            go_simp
            have QB := Lib.hid (QA.out.setc GhA.out (by decide) Eh.out 0 (.int .i64 (m : Int)))
            have GgB := Lib.hid (Blk.far GgA.out (p := ⟨h, 0, none⟩) NE.out (.int .i64 (m : Int)))
            have GhB := Lib.hid (set_same GhA.out (.int .i64 (m : Int)))
            refine hK.out _ _ QB.out.b0.bk (fun hHeld => ?_)
            clear hK K
            try simp only [Act.put, List.getElem_toArray, List.getElem_cons_succ, List.getElem_cons_zero]
            refine wpAnyH_done (by kernel_rfl) ?_ _
            refine OnlyN.normal ?_
            exact ⟨g, h, rfl, rfl, QB.out, GgB.out, GhB.out, Eg.out, Eh.out, NE.out⟩
        · refine step_allocI rfl (by rfl) ?_
          intro h w21 hg hw
          have Q21 : Hid (Sq w w21 base p A cap ps xk.o u (mkL os a b 1)) := Lib.hid (by subst hw; exact Q18.out.alloc _)
          have Eh : Hid (w.heap.size + 2 ≤ h) := Lib.hid (by have h1 := Q18.out.sz; subst hg; exact h1)
          have Gh21 : Hid (Blk w21 h 3 #[.int .i64 0]) := Lib.hid (by subst hw hg; exact Blk.new _ _ _)
          have Gg21 : Hid (Blk w21 g 33 (kl zk).toArray) := Lib.hid (by subst hw; exact Gg18.out.alloc _)
          have NE : Hid (g ≠ h) := Lib.hid (by have h1 := Gg18.out.lt; subst hg; omega)
          clear hg hw hHeld
          refine hK.out _ _ Q21.out.b0.bk (fun hHeld => ?_)
          clear hK K
          try simp only [Act.put, List.getElem_toArray, List.getElem_cons_succ, List.getElem_cons_zero, List.setIfInBounds_toArray, List.set_cons_zero, List.set_cons_succ]
          refine wpAnyH_ready (rs := [3]) (by kernel_rfl) (by simp) ?_
          refine AllReadyH.cons (by rfl) (fun K hK => ?_) AllReadyH.nil
          · go_simp
            refine (last_eq p xk.o u _ HBV.out).mono ?_
            rintro e_ w22 ⟨rfl, b_⟩
            have Q22 := Lib.hid (Q21.out.below b_)
            have Gg22 := Lib.hid (Gg21.out.keep b_)
            have Gh22 := Lib.hid (Gh21.out.keep b_)
            clear b_ hHeld
            go_wp2_with fail
            refine hK.out _ _ Q22.out.b0.bk (fun hHeld => ?_)
            clear hK K
            try simp only [Act.put, List.getElem_toArray, List.getElem_cons_succ, List.getElem_cons_zero, List.setIfInBounds_toArray, List.set_cons_zero, List.set_cons_succ]
            refine wpAnyH_take (i := 5) (v := ?v15) rfl (by kernel_rfl) (by kernel_rfl) (by kernel_rfl) (fun _ _ _ h => h) (Or.inl ⟨by rfl, ?hy15⟩) hHeld ?rest15
            case hy15 =>
              intro w' hSw
              try dsimp only at hSw
              go_simp
              first | done | with_reducible rfl
            try simp only [Act.put, List.getElem_toArray, List.getElem_cons_succ, List.getElem_cons_zero, List.setIfInBounds_toArray, List.set_cons_zero, List.set_cons_succ]
            refine wpAnyH_take (i := 6) (v := ?v16) rfl (by kernel_rfl) (by kernel_rfl) (by kernel_rfl) (fun _ _ _ h => h) (Or.inl ⟨by rfl, ?hy16⟩) hHeld ?rest16
            case hy16 =>
              intro w' hSw
              try dsimp only at hSw
              go_simp
              first | done | with_reducible rfl
            try simp only [Act.put, List.getElem_toArray, List.getElem_cons_succ, List.getElem_cons_zero, List.setIfInBounds_toArray, List.set_cons_zero, List.set_cons_succ]
            refine wpAnyH_ready (rs := [9]) (by kernel_rfl) (by simp) ?_
            refine AllReadyH.cons (by rfl) (fun K hK => ?_) AllReadyH.nil
            refine step_store_big Gg22.out rfl (.tmp 5) (.tmp 10) (ty := 33) (l := kl k) rfl (by rfl) (by rfl) size30 rfl (kl_one _) ?_
            have QA := Lib.hid (Q22.out.set Gg22.out (by decide) Eg.out (kl k).toArray)
            have GgA := Lib.hid (Gg22.out.setRow (kl k).toArray)
            have GhA := Lib.hid (Blk.row_far Gh22.out (Ne.symm NE.out) (kl k).toArray)
            have cA := GhA.out.one
            have zA := GhA.out.frozen 0
            generalize w22.setRow g (kl k).toArray = WA at QA GgA GhA cA zA ⊢
            refine hK.out _ _ QA.out.b0.bk (fun hHeld => ?_)
            clear hK K
            try simp only [Act.put, List.getElem_toArray, List.getElem_cons_succ, List.getElem_cons_zero]
            refine wpAnyH_ready (rs := [10]) (by kernel_rfl) (by simp) ?_
            refine AllReadyH.cons (by rfl) (fun K hK => ?_) AllReadyH.nil
            go_simp
            have QB := Lib.hid (QA.out.setc GhA.out (by decide) Eh.out 0 (.int .i64 (m : Int)))
            have GgB := Lib.hid (Blk.far GgA.out (p := ⟨h, 0, none⟩) NE.out (.int .i64 (m : Int)))
            have GhB := Lib.hid (set_same GhA.out (.int .i64 (m : Int)))
            refine hK.out _ _ QB.out.b0.bk (fun hHeld => ?_)
            clear hK K
            try simp only [Act.put, List.getElem_toArray, List.getElem_cons_succ, List.getElem_cons_zero]
            refine wpAnyH_done (by kernel_rfl) ?_ _
            refine OnlyN.normal ?_
            exact ⟨g, h, rfl, rfl, QB.out, GgB.out, GhB.out, Eg.out, Eh.out, NE.out⟩
      · refine step_allocI rfl (by rfl) ?_
        intro h w23 hg hw
        have Q23 : Hid (Sq w w23 base p A cap ps xk.o u os) := Lib.hid (by subst hw; exact Q17.out.alloc _)
        have Eh : Hid (w.heap.size + 2 ≤ h) := Lib.hid (by have h1 := Q17.out.sz; subst hg; exact h1)
        have Gh23 : Hid (Blk w23 h 3 #[.int .i64 0]) := Lib.hid (by subst hw hg; exact Blk.new _ _ _)
        have Gg23 : Hid (Blk w23 g 33 (kl zk).toArray) := Lib.hid (by subst hw; exact Gg17.out.alloc _)
        have NE : Hid (g ≠ h) := Lib.hid (by have h1 := Gg17.out.lt; subst hg; omega)
        clear hg hw hHeld
        refine hK.out _ _ Q23.out.b0.bk (fun hHeld => ?_)
        clear hK K
        try simp only [Act.put, List.getElem_toArray, List.getElem_cons_succ, List.getElem_cons_zero, List.setIfInBounds_toArray, List.set_cons_zero, List.set_cons_succ]
        refine wpAnyH_ready (rs := [1]) (by kernel_rfl) (by simp) ?_
        refine AllReadyH.cons (by rfl) (fun K hK => ?_) AllReadyH.nil
        · go_simp
          refine (HM.out _ Q23.out.st (HT.out.fr HST.out Q23.out.fr)).mono ?_
          rintro e_ w24 ⟨rfl, hs_, hf_⟩
          have Q24 := Lib.hid (Q23.out.fr' hf_ hs_)
          have Gg24 := Lib.hid (Q23.out.st.blkF hf_ Gg23.out (by decide))
          have Gh24 := Lib.hid (Q23.out.st.blkF hf_ Gh23.out (by decide))
          clear hs_ hf_ hHeld
          go_wp2_with fail
          refine hK.out _ _ Q24.out.b0.bk (fun hHeld => ?_)
          clear hK K
          try simp only [Act.put, List.getElem_toArray, List.getElem_cons_succ, List.getElem_cons_zero, List.setIfInBounds_toArray, List.set_cons_zero, List.set_cons_succ]
          refine wpAnyH_ready (rs := [3]) (by kernel_rfl) (by simp) ?_
          refine AllReadyH.cons (by rfl) (fun K hK => ?_) AllReadyH.nil
          · go_simp
            refine (last_eq p xk.o u _ HBV.out).mono ?_
            rintro e_ w25 ⟨rfl, b_⟩
            have Q25 := Lib.hid (Q24.out.below b_)
            have Gg25 := Lib.hid (Gg24.out.keep b_)
            have Gh25 := Lib.hid (Gh24.out.keep b_)
            clear b_ hHeld
            go_wp2_with fail
            refine hK.out _ _ Q25.out.b0.bk (fun hHeld => ?_)
            clear hK K
            try simp only [Act.put, List.getElem_toArray, List.getElem_cons_succ, List.getElem_cons_zero, List.setIfInBounds_toArray, List.set_cons_zero, List.set_cons_succ]
            refine wpAnyH_take (i := 5) (v := ?v17) rfl (by kernel_rfl) (by kernel_rfl) (by kernel_rfl) (fun _ _ _ h => h) (Or.inl ⟨by rfl, ?hy17⟩) hHeld ?rest17
            case hy17 =>
              intro w' hSw
              try dsimp only at hSw
              go_simp
              first | done | with_reducible rfl
            try simp only [Act.put, List.getElem_toArray, List.getElem_cons_succ, List.getElem_cons_zero, List.setIfInBounds_toArray, List.set_cons_zero, List.set_cons_succ]
            refine wpAnyH_take (i := 6) (v := ?v18) rfl (by kernel_rfl) (by kernel_rfl) (by kernel_rfl) (fun _ _ _ h => h) (Or.inl ⟨by rfl, ?hy18⟩) hHeld ?rest18
            case hy18 =>
              intro w' hSw
              try dsimp only at hSw
              go_simp
              first | done | with_reducible rfl
            try simp only [Act.put, List.getElem_toArray, List.getElem_cons_succ, List.getElem_cons_zero, List.setIfInBounds_toArray, List.set_cons_zero, List.set_cons_succ]
            refine wpAnyH_ready (rs := [9]) (by kernel_rfl) (by simp) ?_
            refine AllReadyH.cons (by rfl) (fun K hK => ?_) AllReadyH.nil
            refine step_store_big Gg25.out rfl (.tmp 5) (.tmp 10) (ty := 33) (l := kl k) rfl (by rfl) (by rfl) size30 rfl (kl_one _) ?_
            have QA := Lib.hid (Q25.out.set Gg25.out (by decide) Eg.out (kl k).toArray)
            have GgA := Lib.hid (Gg25.out.setRow (kl k).toArray)
            have GhA := Lib.hid (Blk.row_far Gh25.out (Ne.symm NE.out) (kl k).toArray)
            have cA := GhA.out.one
            have zA := GhA.out.frozen 0
            generalize w25.setRow g (kl k).toArray = WA at QA GgA GhA cA zA ⊢
            refine hK.out _ _ QA.out.b0.bk (fun hHeld => ?_)
            clear hK K
            try simp only [Act.put, List.getElem_toArray, List.getElem_cons_succ, List.getElem_cons_zero]
            refine wpAnyH_ready (rs := [10]) (by kernel_rfl) (by simp) ?_
            refine AllReadyH.cons (by rfl) (fun K hK => ?_) AllReadyH.nil
            go_simp
            have QB := Lib.hid (QA.out.setc GhA.out (by decide) Eh.out 0 (.int .i64 (m : Int)))
            have GgB := Lib.hid (Blk.far GgA.out (p := ⟨h, 0, none⟩) NE.out (.int .i64 (m : Int)))
            have GhB := Lib.hid (set_same GhA.out (.int .i64 (m : Int)))
            refine hK.out _ _ QB.out.b0.bk (fun hHeld => ?_)
            clear hK K
            try simp only [Act.put, List.getElem_toArray, List.getElem_cons_succ, List.getElem_cons_zero]
            refine wpAnyH_done (by kernel_rfl) ?_ _
            refine OnlyN.normal ?_
            exact ⟨g, h, rfl, rfl, QB.out, GgB.out, GhB.out, Eg.out, Eh.out, NE.out⟩
    · refine step_allocI rfl (by rfl) ?_
      intro h w26 hg hw
      have Q26 : Hid (Sq w w26 base p A cap ps xk.o u os) := Lib.hid (by subst hw; exact Q0.out.drew.alloc _)
      have Eh : Hid (w.heap.size + 2 ≤ h) := Lib.hid (by have h1 := Q0.out.sz; subst hg; exact h1)
      have Gh26 : Hid (Blk w26 h 3 #[.int .i64 0]) := Lib.hid (by subst hw hg; exact Blk.new _ _ _)
      clear hg hw hHeld
      refine hK.out _ _ Q26.out.b0.bk (fun hHeld => ?_)
      clear hK K
      try simp only [Act.put, List.getElem_toArray, List.getElem_cons_succ, List.getElem_cons_zero, List.setIfInBounds_toArray, List.set_cons_zero, List.set_cons_succ]
      refine wpAnyH_ready (rs := [1, 7]) (by kernel_rfl) (by simp) ?_
      refine AllReadyH.cons (by rfl) (fun K hK => ?_) (AllReadyH.cons (by rfl) (fun K hK => ?_) AllReadyH.nil)
      · go_simp
        refine (HM.out _ Q26.out.st (HT.out.fr HST.out Q26.out.fr)).mono ?_
        rintro e_ w27 ⟨rfl, hs_, hf_⟩
        have Q27 := Lib.hid (Q26.out.fr' hf_ hs_)
        have Gh27 := Lib.hid (Q26.out.st.blkF hf_ Gh26.out (by decide))
        clear hs_ hf_ hHeld
        go_wp2_with fail
        refine hK.out _ _ Q27.out.b0.bk (fun hHeld => ?_)
        clear hK K
        try simp only [Act.put, List.getElem_toArray, List.getElem_cons_succ, List.getElem_cons_zero, List.setIfInBounds_toArray, List.set_cons_zero, List.set_cons_succ]
        refine wpAnyH_ready (rs := [3, 7]) (by kernel_rfl) (by simp) ?_
        refine AllReadyH.cons (by rfl) (fun K hK => ?_) (AllReadyH.cons (by rfl) (fun K hK => ?_) AllReadyH.nil)
        · go_simp
          refine (last_eq p xk.o u _ HBV.out).mono ?_
          rintro e_ w28 ⟨rfl, b_⟩
          have Q28 := Lib.hid (Q27.out.below b_)
          have Gh28 := Lib.hid (Gh27.out.keep b_)
          clear b_ hHeld
          go_wp2_with fail
          refine hK.out _ _ Q28.out.b0.bk (fun hHeld => ?_)
          clear hK K
          try simp only [Act.put, List.getElem_toArray, List.getElem_cons_succ, List.getElem_cons_zero, List.setIfInBounds_toArray, List.set_cons_zero, List.set_cons_succ]
          refine wpAnyH_take (i := 5) (v := ?v19) rfl (by kernel_rfl) (by kernel_rfl) (by kernel_rfl) (fun _ _ _ h => h) (Or.inl ⟨by rfl, ?hy19⟩) hHeld ?rest19
          case hy19 =>
            intro w' hSw
            try dsimp only at hSw
            go_simp
            first | done | with_reducible rfl
          try simp only [Act.put, List.getElem_toArray, List.getElem_cons_succ, List.getElem_cons_zero, List.setIfInBounds_toArray, List.set_cons_zero, List.set_cons_succ]
          refine wpAnyH_take (i := 6) (v := ?v20) rfl (by kernel_rfl) (by kernel_rfl) (by kernel_rfl) (fun _ _ _ h => h) (Or.inl ⟨by rfl, ?hy20⟩) hHeld ?rest20
          case hy20 =>
            intro w' hSw
            try dsimp only at hSw
            go_simp
            first | done | with_reducible rfl
          try simp only [Act.put, List.getElem_toArray, List.getElem_cons_succ, List.getElem_cons_zero, List.setIfInBounds_toArray, List.set_cons_zero, List.set_cons_succ]
          refine wpAnyH_ready (rs := [7]) (by kernel_rfl) (by simp) ?_
          refine AllReadyH.cons (by rfl) (fun K hK => ?_) AllReadyH.nil
          · refine step_alloc30 rfl (by rfl) ?_
            intro g w29 hg hw
            have Q29 : Hid (Sq w w29 base p A cap ps xk.o u (mkL os a b 1)) := Lib.hid (by subst hw; exact Q28.out.alloc _)
            have Eg : Hid (w.heap.size + 2 ≤ g) := Lib.hid (by have h1 := Q28.out.sz; subst hg; exact h1)
            have Gg29 : Hid (Blk w29 g 33 (kl zk).toArray) := Lib.hid (by subst hw hg; exact Blk.new _ _ _)
            have Gh29 : Hid (Blk w29 h 3 #[.int .i64 0]) := Lib.hid (by subst hw; exact Gh28.out.alloc _)
            have NE : Hid (g ≠ h) := Lib.hid (by have h1 := Gh28.out.lt; subst hg; omega)
            clear hg hw hHeld
            refine hK.out _ _ Q29.out.b0.bk (fun hHeld => ?_)
            clear hK K
            try simp only [Act.put, List.getElem_toArray, List.getElem_cons_succ, List.getElem_cons_zero, List.setIfInBounds_toArray, List.set_cons_zero, List.set_cons_succ]
            refine wpAnyH_ready (rs := [9]) (by kernel_rfl) (by simp) ?_
            refine AllReadyH.cons (by rfl) (fun K hK => ?_) AllReadyH.nil
            refine step_store_big Gg29.out rfl (.tmp 5) (.tmp 10) (ty := 33) (l := kl k) rfl (by rfl) (by rfl) size30 rfl (kl_one _) ?_
            have QA := Lib.hid (Q29.out.set Gg29.out (by decide) Eg.out (kl k).toArray)
            have GgA := Lib.hid (Gg29.out.setRow (kl k).toArray)
            have GhA := Lib.hid (Blk.row_far Gh29.out (Ne.symm NE.out) (kl k).toArray)
            have cA := GhA.out.one
            have zA := GhA.out.frozen 0
            generalize w29.setRow g (kl k).toArray = WA at QA GgA GhA cA zA ⊢
            refine hK.out _ _ QA.out.b0.bk (fun hHeld => ?_)
            clear hK K
            try simp only [Act.put, List.getElem_toArray, List.getElem_cons_succ, List.getElem_cons_zero]
            refine wpAnyH_ready (rs := [10]) (by kernel_rfl) (by simp) ?_
            refine AllReadyH.cons (by rfl) (fun K hK => ?_) AllReadyH.nil
            go_simp
            have QB := Lib.hid (QA.out.setc GhA.out (by decide) Eh.out 0 (.int .i64 (m : Int)))
            have GgB := Lib.hid (Blk.far GgA.out (p := ⟨h, 0, none⟩) NE.out (.int .i64 (m : Int)))
            have GhB := Lib.hid (set_same GhA.out (.int .i64 (m : Int)))
            refine hK.out _ _ QB.out.b0.bk (fun hHeld => ?_)
            clear hK K
            try simp only [Act.put, List.getElem_toArray, List.getElem_cons_succ, List.getElem_cons_zero]
            refine wpAnyH_done (by kernel_rfl) ?_ _
            refine OnlyN.normal ?_
            exact ⟨g, h, rfl, rfl, QB.out, GgB.out, GhB.out, Eg.out, Eh.out, NE.out⟩
        · refine step_alloc30 rfl (by rfl) ?_
          intro g w30 hg hw
          have Q30 : Hid (Sq w w30 base p A cap ps xk.o u (mkL os a b 1)) := Lib.hid (by subst hw; exact Q27.out.alloc _)
          have Eg : Hid (w.heap.size + 2 ≤ g) := Lib.hid (by have h1 := Q27.out.sz; subst hg; exact h1)
          have Gg30 : Hid (Blk w30 g 33 (kl zk).toArray) := Lib.hid (by subst hw hg; exact Blk.new _ _ _)
          have Gh30 : Hid (Blk w30 h 3 #[.int .i64 0]) := Lib.hid (by subst hw; exact Gh27.out.alloc _)
          have NE : Hid (g ≠ h) := Lib.hid (by have h1 := Gh27.out.lt; subst hg; omega)
          clear hg hw hHeld
          refine hK.out _ _ Q30.out.b0.bk (fun hHeld => ?_)
          clear hK K
          try simp only [Act.put, List.getElem_toArray, List.getElem_cons_succ, List.getElem_cons_zero, List.setIfInBounds_toArray, List.set_cons_zero, List.set_cons_succ]
          refine wpAnyH_ready (rs := [3]) (by kernel_rfl) (by simp) ?_
          refine AllReadyH.cons (by rfl) (fun K hK => ?_) AllReadyH.nil
          · go_simp
            refine (last_eq p xk.o u _ HBV.out).mono ?_
            rintro e_ w31 ⟨rfl, b_⟩
            have Q31 := Lib.hid (Q30.out.below b_)
            have Gh31 := Lib.hid (Gh30.out.keep b_)
            have Gg31 := Lib.hid (Gg30.out.keep b_)
            clear b_ hHeld
            go_wp2_with fail
            refine hK.out _ _ Q31.out.b0.bk (fun hHeld => ?_)
            clear hK K
            try simp only [Act.put, List.getElem_toArray, List.getElem_cons_succ, List.getElem_cons_zero, List.setIfInBounds_toArray, List.set_cons_zero, List.set_cons_succ]
            refine wpAnyH_take (i := 5) (v := ?v21) rfl (by kernel_rfl) (by kernel_rfl) (by kernel_rfl) (fun _ _ _ h => h) (Or.inl ⟨by rfl, ?hy21⟩) hHeld ?rest21
            case hy21 =>
              intro w' hSw
              try dsimp only at hSw
              go_simp
              first | done | with_reducible rfl
            try simp only [Act.put, List.getElem_toArray, List.getElem_cons_succ, List.getElem_cons_zero, List.setIfInBounds_toArray, List.set_cons_zero, List.set_cons_succ]
            refine wpAnyH_take (i := 6) (v := ?v22) rfl (by kernel_rfl) (by kernel_rfl) (by kernel_rfl) (fun _ _ _ h => h) (Or.inl ⟨by rfl, ?hy22⟩) hHeld ?rest22
            case hy22 =>
              intro w' hSw
              try dsimp only at hSw
              go_simp
              first | done | with_reducible rfl
            try simp only [Act.put, List.getElem_toArray, List.getElem_cons_succ, List.getElem_cons_zero, List.setIfInBounds_toArray, List.set_cons_zero, List.set_cons_succ]
            refine wpAnyH_ready (rs := [9]) (by kernel_rfl) (by simp) ?_
            refine AllReadyH.cons (by rfl) (fun K hK => ?_) AllReadyH.nil
            refine step_store_big Gg31.out rfl (.tmp 5) (.tmp 10) (ty := 33) (l := kl k) rfl (by rfl) (by rfl) size30 rfl (kl_one _) ?_
            have QA := Lib.hid (Q31.out.set Gg31.out (by decide) Eg.out (kl k).toArray)
            have GgA := Lib.hid (Gg31.out.setRow (kl k).toArray)
            have GhA := Lib.hid (Blk.row_far Gh31.out (Ne.symm NE.out) (kl k).toArray)
            have cA := GhA.out.one
            have zA := GhA.out.frozen 0
            generalize w31.setRow g (kl k).toArray = WA at QA GgA GhA cA zA ⊢
            refine hK.out _ _ QA.out.b0.bk (fun hHeld => ?_)
            clear hK K
            try simp only [Act.put, List.getElem_toArray, List.getElem_cons_succ, List.getElem_cons_zero]
            refine wpAnyH_ready (rs := [10]) (by kernel_rfl) (by simp) ?_
            refine AllReadyH.cons (by rfl) (fun K hK => ?_) AllReadyH.nil
            go_simp
            have QB := Lib.hid (QA.out.setc GhA.out (by decide) Eh.out 0 (.int .i64 (m : Int)))
            have GgB := Lib.hid (Blk.far GgA.out (p := ⟨h, 0, none⟩) NE.out (.int .i64 (m : Int)))
            have GhB := Lib.hid (set_same GhA.out (.int .i64 (m : Int)))
            refine hK.out _ _ QB.out.b0.bk (fun hHeld => ?_)
            clear hK K
            try simp only [Act.put, List.getElem_toArray, List.getElem_cons_succ, List.getElem_cons_zero]
            refine wpAnyH_done (by kernel_rfl) ?_ _
            refine OnlyN.normal ?_
            exact ⟨g, h, rfl, rfl, QB.out, GgB.out, GhB.out, Eg.out, Eh.out, NE.out⟩
      · refine step_alloc30 rfl (by rfl) ?_
        intro g w32 hg hw
        have Q32 : Hid (Sq w w32 base p A cap ps xk.o u os) := Lib.hid (by subst hw; exact Q26.out.alloc _)
        have Eg : Hid (w.heap.size + 2 ≤ g) := Lib.hid (by have h1 := Q26.out.sz; subst hg; exact h1)
        have Gg32 : Hid (Blk w32 g 33 (kl zk).toArray) := Lib.hid (by subst hw hg; exact Blk.new _ _ _)
        have Gh32 : Hid (Blk w32 h 3 #[.int .i64 0]) := Lib.hid (by subst hw; exact Gh26.out.alloc _)
        have NE : Hid (g ≠ h) := Lib.hid (by have h1 := Gh26.out.lt; subst hg; omega)
        clear hg hw hHeld
        refine hK.out _ _ Q32.out.b0.bk (fun hHeld => ?_)
        clear hK K
        try simp only [Act.put, List.getElem_toArray, List.getElem_cons_succ, List.getElem_cons_zero, List.setIfInBounds_toArray, List.set_cons_zero, List.set_cons_succ]
        refine wpAnyH_ready (rs := [1]) (by kernel_rfl) (by simp) ?_
        refine AllReadyH.cons (by rfl) (fun K hK => ?_) AllReadyH.nil
        · go_simp
          refine (HM.out _ Q32.out.st (HT.out.fr HST.out Q32.out.fr)).mono ?_
          rintro e_ w33 ⟨rfl, hs_, hf_⟩
          have Q33 := Lib.hid (Q32.out.fr' hf_ hs_)
          have Gh33 := Lib.hid (Q32.out.st.blkF hf_ Gh32.out (by decide))
          have Gg33 := Lib.hid (Q32.out.st.blkF hf_ Gg32.out (by decide))
          clear hs_ hf_ hHeld
          go_wp2_with fail
          refine hK.out _ _ Q33.out.b0.bk (fun hHeld => ?_)
          clear hK K
          try simp only [Act.put, List.getElem_toArray, List.getElem_cons_succ, List.getElem_cons_zero, List.setIfInBounds_toArray, List.set_cons_zero, List.set_cons_succ]
          refine wpAnyH_ready (rs := [3]) (by kernel_rfl) (by simp) ?_
          refine AllReadyH.cons (by rfl) (fun K hK => ?_) AllReadyH.nil
          · go_simp
            refine (last_eq p xk.o u _ HBV.out).mono ?_
            rintro e_ w34 ⟨rfl, b_⟩
            have Q34 := Lib.hid (Q33.out.below b_)
            have Gh34 := Lib.hid (Gh33.out.keep b_)
            have Gg34 := Lib.hid (Gg33.out.keep b_)
            clear b_ hHeld
            go_wp2_with fail
            refine hK.out _ _ Q34.out.b0.bk (fun hHeld => ?_)
            clear hK K
            try simp only [Act.put, List.getElem_toArray, List.getElem_cons_succ, List.getElem_cons_zero, List.setIfInBounds_toArray, List.set_cons_zero, List.set_cons_succ]
            refine wpAnyH_take (i := 5) (v := ?v23) rfl (by kernel_rfl) (by kernel_rfl) (by kernel_rfl) (fun _ _ _ h => h) (Or.inl ⟨by rfl, ?hy23⟩) hHeld ?rest23
            case hy23 =>
              intro w' hSw
              try dsimp only at hSw
              go_simp
              first | done | with_reducible rfl
            try simp only [Act.put, List.getElem_toArray, List.getElem_cons_succ, List.getElem_cons_zero, List.setIfInBounds_toArray, List.set_cons_zero, List.set_cons_succ]
            refine wpAnyH_take (i := 6) (v := ?v24) rfl (by kernel_rfl) (by kernel_rfl) (by kernel_rfl) (fun _ _ _ h => h) (Or.inl ⟨by rfl, ?hy24⟩) hHeld ?rest24
            case hy24 =>
              intro w' hSw
              try dsimp only at hSw
              go_simp
              first | done | with_reducible rfl
            try simp only [Act.put, List.getElem_toArray, List.getElem_cons_succ, List.getElem_cons_zero, List.setIfInBounds_toArray, List.set_cons_zero, List.set_cons_succ]
            refine wpAnyH_ready (rs := [9]) (by kernel_rfl) (by simp) ?_
            refine AllReadyH.cons (by rfl) (fun K hK => ?_) AllReadyH.nil
            refine step_store_big Gg34.out rfl (.tmp 5) (.tmp 10) (ty := 33) (l := kl k) rfl (by rfl) (by rfl) size30 rfl (kl_one _) ?_
            have QA := Lib.hid (Q34.out.set Gg34.out (by decide) Eg.out (kl k).toArray)
            have GgA := Lib.hid (Gg34.out.setRow (kl k).toArray)
            have GhA := Lib.hid (Blk.row_far Gh34.out (Ne.symm NE.out) (kl k).toArray)
            have cA := GhA.out.one
            have zA := GhA.out.frozen 0
            generalize w34.setRow g (kl k).toArray = WA at QA GgA GhA cA zA ⊢
            refine hK.out _ _ QA.out.b0.bk (fun hHeld => ?_)
            clear hK K
            try simp only [Act.put, List.getElem_toArray, List.getElem_cons_succ, List.getElem_cons_zero]
            refine wpAnyH_ready (rs := [10]) (by kernel_rfl) (by simp) ?_
            refine AllReadyH.cons (by rfl) (fun K hK => ?_) AllReadyH.nil
            go_simp
            have QB := Lib.hid (QA.out.setc GhA.out (by decide) Eh.out 0 (.int .i64 (m : Int)))
            have GgB := Lib.hid (Blk.far GgA.out (p := ⟨h, 0, none⟩) NE.out (.int .i64 (m : Int)))
            have GhB := Lib.hid (set_same GhA.out (.int .i64 (m : Int)))
            refine hK.out _ _ QB.out.b0.bk (fun hHeld => ?_)
            clear hK K
            try simp only [Act.put, List.getElem_toArray, List.getElem_cons_succ, List.getElem_cons_zero]
            refine wpAnyH_done (by kernel_rfl) ?_ _
            refine OnlyN.normal ?_
            exact ⟨g, h, rfl, rfl, QB.out, GgB.out, GhB.out, Eg.out, Eh.out, NE.out⟩
  case mkRest =>
    rintro g h W5 ⟨q5, g5, h5, eg, eh, ne⟩
    have Q5 := Lib.hid q5
    have G5 := Lib.hid g5
    have H5 := Lib.hid h5
    have EG := Lib.hid eg
    have EH := Lib.hid eh
    have NE := Lib.hid ne
    clear q5 g5 h5 eg eh ne W0 Q0 e5 e6 HM
    simp only [Act.put, List.setIfInBounds_toArray, List.set_cons_zero, List.set_cons_succ]
    refine wpAt_seq (wpAt_head (n := 4) ?_)
    gi_wp2_with (first
      | (show wpListIn _ _ _ _ _ ({ dst := some 16, op := .load _ _, type := _, pos := _, after := _, guard := _ } :: _) _ _; refine wpListIn_yields (S := fun w' => BkAt w' w.heap.size 0 p xk.o u) (fun _ => trivial) (by intro c hc'; cases hc') (y_bk (by rfl) (.tmp 2) (by rfl) w.heap.size 0 (by rfl) p xk.o u (fun _ h => h)) Q5.out.b0.bk ?_)
      | (gi_at_call 40; refine ((callsIn_wide (n := 3)).2 (ball_any p xk.o u _)).mono ?_; rintro e w1 ⟨rfl, rfl⟩))
    refine wpAt_block ?_
    have Q6 := Lib.hid (Q5.out.alloc (.cells (bkc p xk.o u).toArray 78))
    have G6 := Lib.hid (G5.out.alloc (.cells (bkc p xk.o u).toArray 78))
    have H6 := Lib.hid (H5.out.alloc (.cells (bkc p xk.o u).toArray 78))
    have B6 := Lib.hid (Blk.new W5 78 (bkc p xk.o u).toArray)
    have SZ6 := Lib.hid (show (W5.alloc (.cells (bkc p xk.o u).toArray 78)).heap.size = W5.heap.size + 1 by simp)
    have SZ5 := Lib.hid Q5.out.sz
    have GL := Lib.hid G5.out.lt
    have HL := Lib.hid H5.out.lt
    generalize W5.alloc (.cells (bkc p xk.o u).toArray 78) = W6 at Q6 G6 H6 B6 SZ6 ⊢
    clear Q5 G5 H5
    refine rangeP (α := Ie (mkL os a b 1)) (n := 4) Tryd.func37 (a := { tmps := #[bkv p xk.o u, .int .i64 (n : Int), .pointer (some ⟨w.heap.size, 0, none⟩), undef, .pointer (some ⟨w.heap.size + 1, 0, none⟩), .pointer (some ⟨g, 0, none⟩), .pointer (some ⟨h, 0, none⟩), undef, undef, bkv p xk.o u, k.val, bkv p xk.o u, .int .i64 (b : Int), .int .i64 (n : Int), .int .i64 (d : Int), .int .i64 (m : Int), bkv p xk.o u, .func (.func 60) #[] #[pv W5.heap.size], undef, undef, undef, undef, undef, undef, undef, undef, undef, undef, undef, undef, undef, undef, undef, undef, undef, undef, undef, undef, undef, undef, undef, undef, undef, undef, undef, undef, undef, undef, undef, undef, undef, undef], defers := [] }) (gf := 60) rfl (enters_of Tryd.func60 (by kernel_rfl) rfl)
      (ball_in 3 (by omega) W5.heap.size p xk.o u (mkL os a b 1) a b HAV.out HBV.out HAB.out HBL.out HN64.out) (fun _ => rfl)
      (fun pre V => Sq w V base p A cap ps xk.o u (mkL os a b 1) ∧ Blk V g 33 (kl k).toArray ∧ Blk V h 3 #[.int .i64 (m : Int)] ∧ Blk V W5.heap.size 78 (bkc p xk.o u).toArray ∧ ∀ i, i < pre.length → m ≤ a + i → emp (((mkL os a b 1)[a + i]?).getD oz))
      (fun _ _ _ => False) (fun c pre V => c = erc 221 ∧ Sq w V base p A cap ps xk.o u (mkL os a b 1) ∧ ¬ AllE (mkL os a b 1) m b)
      (fun pre X Y row hs hg hr => ⟨hs.1.own (B := W6.heap.size) (by have := SZ5.out; have := SZ6.out; omega) hg hr, own_blk W6.heap.size g _ (fun _ : Unit => _) () X Y row hs.2.1 hg hr, own_blk W6.heap.size h _ (fun _ : Unit => _) () X Y row hs.2.2.1 hg hr, own_blk W6.heap.size W5.heap.size _ (fun _ : Unit => _) () X Y row hs.2.2.2.1 hg hr, hs.2.2.2.2⟩)
      (fun _ _ _ _ _ hs _ _ => hs.elim)
      (fun pre V hi => ⟨hi.2.2.2.1, base, A, cap, ps, _, hi.1.st, rfl, rfl⟩)
      ⟨Q6.out, G6.out, H6.out, B6.out, fun i hi => absurd hi (Nat.not_lt_zero i)⟩
      (fun y a' V => ∃ b7, a' = { tmps := #[bkv p xk.o u, .int .i64 (n : Int), .pointer (some ⟨w.heap.size, 0, none⟩), undef, .pointer (some ⟨w.heap.size + 1, 0, none⟩), .pointer (some ⟨g, 0, none⟩), .pointer (some ⟨h, 0, none⟩), .int .i64 (y.i : Int), .pointer (some ⟨b7, 0, none⟩), bkv p xk.o u, k.val, bkv p xk.o u, .int .i64 (b : Int), .int .i64 (n : Int), .int .i64 (d : Int), .int .i64 (m : Int), bkv p xk.o u, .func (.func 60) #[] #[pv W5.heap.size], .int .i64 (y.i : Int), y.o.val, undef, undef, undef, undef, undef, undef, undef, undef, undef, undef, undef, undef, undef, undef, undef, undef, undef, undef, undef, undef, undef, undef, undef, undef, undef, undef, undef, undef, undef, undef, undef, undef], defers := [] } ∧ Blk V b7 47 y.o.cells.toArray)
      (fun y a' s X Y row hs hg hr => by
        obtain ⟨b7, h1, h2⟩ := hs
        exact ⟨b7, h1, own_blk W6.heap.size b7 _ (fun _ => _) s X Y row h2 hg hr⟩)
      ?assign ?body ?done ?stop ?panic
    case stop => exact fun _ _ _ _ _ hf _ => hf.elim
    case assign =>
      intro l pre y V K hi hTy hK
      have hk := hK { tmps := #[bkv p xk.o u, .int .i64 (n : Int), .pointer (some ⟨w.heap.size, 0, none⟩), undef, .pointer (some ⟨w.heap.size + 1, 0, none⟩), .pointer (some ⟨g, 0, none⟩), .pointer (some ⟨h, 0, none⟩), .int .i64 (y.i : Int), .pointer (some ⟨V.heap.size, 0, none⟩), bkv p xk.o u, k.val, bkv p xk.o u, .int .i64 (b : Int), .int .i64 (n : Int), .int .i64 (d : Int), .int .i64 (m : Int), bkv p xk.o u, .func (.func 60) #[] #[pv W5.heap.size], .int .i64 (y.i : Int), y.o.val, undef, undef, undef, undef, undef, undef, undef, undef, undef, undef, undef, undef, undef, undef, undef, undef, undef, undef, undef, undef, undef, undef, undef, undef, undef, undef, undef, undef, undef, undef, undef, undef], defers := [] } (V.alloc (.cells y.o.cells.toArray 47)) ((KeepsOthers.alloc V _).from _) ⟨hi.1.alloc _, hi.2.1.alloc _, hi.2.2.1.alloc _, hi.2.2.2.1.alloc _, hi.2.2.2.2⟩ ⟨V.heap.size, rfl, Blk.new V _ _⟩
      have HKK2 := Lib.hid hk
      clear hK hk hi hTy
      gi_wp2_with (refine wpListIn_store_last rfl (.tmp 8) (.tmp 19) rfl _ rfl rfl y.o oz rfl ?_)
      exact HKK2.out
    case body =>
      rintro l pre y a' V ⟨hq, hg, hh, hb3, hng⟩ ⟨b7, rfl, hb7⟩ ⟨hT1, hT2⟩
      have HQ := Lib.hid hq
      have HG := Lib.hid hg
      have HH := Lib.hid hh
      have HB3 := Lib.hid hb3
      have HNG := Lib.hid hng
      have HT1 := Lib.hid hT1
      have HT2 := Lib.hid hT2
      have HB7 := Lib.hid hb7
      have HY := Lib.hid (show ((mkL os a b 1)[a + pre.length]?).getD oz = y.o by rw [← hT1, List.getElem?_eq_getElem y.lt]; rfl)
      have HPX := Lib.hid (show (pre ++ [y]).length = pre.length + 1 by simp)
      have c0 : V.cell? ⟨h, 0, none⟩ = some (.int .i64 (m : Int)) := hh.one
      clear hq hg hh hb3 hng hb7 hT1 hT2
      have fin : ∀ (a' : Act) V', Below V.heap.size V V' → (m ≤ a + pre.length → emp y.o) → leftP W6.heap.size (fun (pre : List (Ie (mkL os a b 1))) V => Sq w V base p A cap ps xk.o u (mkL os a b 1) ∧ Blk V g 33 (kl k).toArray ∧ Blk V h 3 #[.int .i64 (m : Int)] ∧ Blk V W5.heap.size 78 (bkc p xk.o u).toArray ∧ ∀ i, i < pre.length → m ≤ a + i → emp (((mkL os a b 1)[a + i]?).getD oz)) (fun _ _ _ => False) (fun c pre V => c = erc 221 ∧ Sq w V base p A cap ps xk.o u (mkL os a b 1) ∧ ¬ AllE (mkL os a b 1) m b) (pre ++ [y]) V Exit.normal a' V' := fun a' V' hV' he =>
        ⟨HQ.out.st.keepsF (Fr.of_below hV') _, HQ.out.below hV', HG.out.keep hV', HH.out.keep hV', HB3.out.keep hV', fun i hi hmi => by
          rw [HPX.out] at hi
          rcases Nat.lt_or_ge i pre.length with h' | h'
          · exact HNG.out i h' hmi
          · obtain rfl : i = pre.length := by omega
            rw [HY.out]
            exact he hmi⟩
      have FIN := Lib.hid fin
      clear fin
      by_cases hge : m ≤ y.i
      · have d1 : decide ((m : Int) ≤ (y.i : Int)) = true := decide_eq_true (by omega)
        have HGE := Lib.hid hge
        by_cases hem : emp y.o
        · have HE := Lib.hid (show decide (emp y.o) = true from decide_eq_true hem)
          have HEM := Lib.hid hem
          clear hem
          gi_wp2_with (first
            | (show wpListIn _ _ _ _ _ ({ dst := some 24, op := .load _ _, type := _, pos := _, after := _, guard := _ } :: _) _ _; refine wpListIn_yields (S := fun w' => ObAt w' b7 0 y.o) (fun _ => trivial) (by intro c hc'; cases hc') (y_ob (by rfl) (.tmp 8) (by rfl) b7 0 (by rfl) y.o (fun _ h => h)) HB7.out.ob ?_)
            | (gi_at_call 56; refine (CallsIn.inRound l ((callsIn_wide (n := 1)).2 (empty_any y.o _))).mono ?_; rw [HE.out]; rintro e w2 ⟨rfl, b2⟩; have JB := Lib.hid b2; clear b2))
          exact FIN.out _ _ JB.out (fun _ => HEM.out)
        · have HE := Lib.hid (show decide (emp y.o) = false from decide_eq_false hem)
          have HNA := Lib.hid (show ¬ AllE (mkL os a b 1) m b from fun hall => hem (by have := hall y.i hge HT2.out; rw [HT1.out, HY.out] at this; exact this))
          clear hem
          gi_wp2_with (first
            | (show wpListIn _ _ _ _ _ ({ dst := some 24, op := .load _ _, type := _, pos := _, after := _, guard := _ } :: _) _ _; refine wpListIn_yields (S := fun w' => ObAt w' b7 0 y.o) (fun _ => trivial) (by intro c hc'; cases hc') (y_ob (by rfl) (.tmp 8) (by rfl) b7 0 (by rfl) y.o (fun _ h => h)) HB7.out.ob ?_)
            | (gi_at_call 56; refine (CallsIn.inRound l ((callsIn_wide (n := 1)).2 (empty_any y.o _))).mono ?_; rw [HE.out]; rintro e w2 ⟨rfl, b2⟩; have JB := Lib.hid b2; clear b2))
          exact ⟨rfl, HQ.out.st.keepsF (Fr.of_below JB.out) _, rfl, HQ.out.below JB.out, HNA.out⟩
      · have d1 : decide ((m : Int) ≤ (y.i : Int)) = false := decide_eq_false (by omega)
        have d2 : decide (m ≤ y.i) = false := decide_eq_false hge
        gi_wp2_with fail
        exact FIN.out _ _ (Below.refl _ _) (fun h => absurd (by have := HT1.out; omega) hge)
    case panic =>
      rintro D c pre V hD ⟨rfl, hq, hna⟩ hK
      refine ⟨by simp, .inl ⟨_, _, rfl, run_takeDeferred hK, ?_⟩⟩
      exact ⟨_, hq.st.shut hK, hq.fr.putObj (Nat.le_refl _) (by have := SZ5.out; have := SZ6.out; omega) _, .inr ⟨hna, rfl⟩⟩
    case done =>
    rintro D xs V hD hS ⟨hq, hg, hh, hb3, hng⟩ hK
    have Q20 := Lib.hid hq
    have G20 := Lib.hid hg
    have H20 := Lib.hid hh
    have J20 := Lib.hid hK
    have HD := Lib.hid (show w.heap.size + 2 ≤ D by have := SZ5.out; have := SZ6.out; omega)
    have HAE := Lib.hid (show AllE (mkL os a b 1) m b from fun i h1 h2 => by
      by_cases hai : a ≤ i
      · have := hng (i - a) (by omega) (by omega)
        rwa [show a + (i - a) = i by omega] at this
      · exact absurd (Nat.le_trans (show a ≤ m by have := HADD.out; have := HDD.out; omega) h1) hai)
    clear hq hg hh hb3 hng hK hD hS
    refine wpAt_of (n := 4) (wpIn_wide.2 ?_)
    go_wp2_with fail
    refine wp_region_only (S := fun w' => BkAt w' w.heap.size 0 p xk.o u ∧ KeyAt w' g 0 k ∧ w'.cell? ⟨h, 0, none⟩ = some (.int .i64 (m : Int))) (by kernel_rfl) ⟨Q20.out.drew.b0.bk, G20.out.drew.six, H20.out.drew.one⟩ (fun hHeld => ?_)
    refine wpAnyH_take (i := 0) rfl (by kernel_rfl) (by kernel_rfl) (by kernel_rfl) (fun _ _ _ h => h) (y_bk (by rfl) (.tmp 2) (by rfl) w.heap.size 0 (by rfl) p xk.o u (fun _ h => h.1)) hHeld ?_
    try simp only [Act.put, List.getElem_toArray, List.getElem_cons_zero, List.setIfInBounds_toArray, List.set_cons_zero, List.set_cons_succ]
    refine wpAnyH_take (i := 1) rfl (by kernel_rfl) (by kernel_rfl) (by kernel_rfl) (fun _ _ _ h => h) (y_kyB (by rfl) (.tmp 5) (by rfl) g 0 (by rfl) k (fun _ h => h.2.1)) hHeld ?_
    try simp only [Act.put, List.getElem_toArray, List.getElem_cons_succ, List.getElem_cons_zero, List.setIfInBounds_toArray, List.set_cons_zero, List.set_cons_succ]
    refine wpAnyH_take (i := 2) (v := ?v25) rfl (by kernel_rfl) (by kernel_rfl) (by kernel_rfl) (fun _ _ _ h => h) (Or.inl ⟨by rfl, ?hy25⟩) hHeld ?rest25
    case hy25 =>
      intro w' hSw
      try dsimp only at hSw
      go_simp
      first | done | with_reducible rfl
    try simp only [Act.put, List.getElem_toArray, List.getElem_cons_succ, List.getElem_cons_zero, List.setIfInBounds_toArray, List.set_cons_zero, List.set_cons_succ]
    refine wpAnyH_take (i := 3) rfl (by kernel_rfl) (by kernel_rfl) (by kernel_rfl) (fun _ _ _ h => h) (y_bk (by rfl) (.tmp 2) (by rfl) w.heap.size 0 (by rfl) p xk.o u (fun _ h => h.1)) hHeld ?_
    try simp only [Act.put, List.getElem_toArray, List.getElem_cons_succ, List.getElem_cons_zero, List.setIfInBounds_toArray, List.set_cons_zero, List.set_cons_succ]
    refine wpAnyH_ready (rs := [4]) (by kernel_rfl) (by simp) ?_
    refine AllReadyH.cons (by rfl) (fun K hK => ?_) AllReadyH.nil
    go_simp
    refine (last_eq p xk.o u _ HBV.out).mono ?_
    rintro e_ w21 ⟨rfl, b_⟩
    have Q21 := Lib.hid (Q20.out.drew.below b_)
    have G21 := Lib.hid ((G20.out.drew).keep b_)
    have H21 := Lib.hid ((H20.out.drew).keep b_)
    have J21 : Hid (w21.heap[D]? = some (.deferred (some []))) := Lib.hid ((b_.block D (Array.getElem?_eq_some_iff.1 J20.out).1).trans J20.out)
    clear b_ hHeld
    go_wp2_with fail
    refine hK.out _ _ ⟨Q21.out.b0.bk, G21.out.six, H21.out.one⟩ (fun hHeld => ?_)
    clear hK K
    try simp only [Act.put, List.getElem_toArray, List.getElem_cons_succ, List.getElem_cons_zero, List.setIfInBounds_toArray, List.set_cons_zero, List.set_cons_succ]
    refine wpAnyH_ready (rs := [5]) (by kernel_rfl) (by simp) ?_
    refine AllReadyH.cons (by rfl) (fun K hK => ?_) AllReadyH.nil
    go_simp
    refine (give_any Q21.out.st HO1.out HN1.out (HT.out.fr HST.out Q21.out.fr) xk.o u k (m : Int) (b : Int)).mono ?_
    rintro e_ w22 ⟨rfl, hs_, hf_⟩
    have Q22 := Lib.hid (Q21.out.fr' hf_ hs_)
    have G22 := Lib.hid (Q21.out.st.blkF hf_ G21.out (by decide))
    have H22 := Lib.hid (Q21.out.st.blkF hf_ H21.out (by decide))
    have J22 : Hid (w22.heap[D]? = some (.deferred (some []))) := Lib.hid (Q21.out.st.defF hf_ J21.out)
    clear hs_ hf_ hHeld
    go_wp2_with fail
    refine hK.out _ _ ⟨Q22.out.b0.bk, G22.out.six, H22.out.one⟩ (fun hHeld => ?_)
    clear hK K
    try simp only [Act.put, List.getElem_toArray, List.getElem_cons_succ, List.getElem_cons_zero, List.setIfInBounds_toArray, List.set_cons_zero, List.set_cons_succ]
    refine wpAnyH_done (by kernel_rfl) ?_ _
    refine OnlyN.normal ?_
    go_wp2_with fail
    refine wp_region_only (S := fun w' => BkAt w' w.heap.size 0 p xk.o u ∧ w'.cell? ⟨w.heap.size, 163, none⟩ = some (.int .i64 xk.o) ∧ w'.cell? ⟨w.heap.size, 1, none⟩ = some (.int .i64 u.c) ∧ w'.cell? ⟨h, 0, none⟩ = some (.int .i64 (m : Int))) (by kernel_rfl) ⟨Q22.out.drew.b0.bk, by have := Q22.out.drew.b0.bk.oid; simpa using this, by have := Q22.out.drew.b0.bk.node.cells.2.1; simpa using this, H22.out.drew.one⟩ (fun hHeld => ?_)
    refine wpAnyH_take (i := 0) rfl (by kernel_rfl) (by kernel_rfl) (by kernel_rfl) (fun _ _ _ h => h) (y_bk (by rfl) (.tmp 2) (by rfl) w.heap.size 0 (by rfl) p xk.o u (fun _ h => h.1)) hHeld ?_
    try simp only [Act.put, List.getElem_toArray, List.getElem_cons_zero, List.setIfInBounds_toArray, List.set_cons_zero, List.set_cons_succ]
    refine wpAnyH_take (i := 1) (v := ?v26) rfl (by kernel_rfl) (by kernel_rfl) (by kernel_rfl) (fun _ _ _ h => h) (Or.inl ⟨by rfl, ?hy26⟩) hHeld ?rest26
    case hy26 =>
      intro w' hSw
      try dsimp only at hSw
      go_simp
      first | done | with_reducible rfl
    try simp only [Act.put, List.getElem_toArray, List.getElem_cons_succ, List.getElem_cons_zero, List.setIfInBounds_toArray, List.set_cons_zero, List.set_cons_succ]
    refine wpAnyH_take (i := 2) (v := ?v27) rfl (by kernel_rfl) (by kernel_rfl) (by kernel_rfl) (fun _ _ _ h => h) (Or.inl ⟨by rfl, ?hy27⟩) hHeld ?rest27
    case hy27 =>
      intro w' hSw
      try dsimp only at hSw
      go_simp
      first | done | with_reducible rfl
    try simp only [Act.put, List.getElem_toArray, List.getElem_cons_succ, List.getElem_cons_zero, List.setIfInBounds_toArray, List.set_cons_zero, List.set_cons_succ]
    refine wpAnyH_take (i := 3) (v := ?v28) rfl (by kernel_rfl) (by kernel_rfl) (by kernel_rfl) (fun _ _ _ h => h) (Or.inl ⟨by rfl, ?hy28⟩) hHeld ?rest28
    case hy28 =>
      intro w' hSw
      try dsimp only at hSw
      go_simp
      first | done | with_reducible rfl
    try simp only [Act.put, List.getElem_toArray, List.getElem_cons_succ, List.getElem_cons_zero, List.setIfInBounds_toArray, List.set_cons_zero, List.set_cons_succ]
    refine wpAnyH_take (i := 4) (v := ?v29) rfl (by kernel_rfl) (by kernel_rfl) (by kernel_rfl) (fun _ _ _ h => h) (Or.inl ⟨by rfl, ?hy29⟩) hHeld ?rest29
    case hy29 =>
      intro w' hSw
      try dsimp only at hSw
      go_simp
      first | done | with_reducible rfl
    try simp only [Act.put, List.getElem_toArray, List.getElem_cons_succ, List.getElem_cons_zero, List.setIfInBounds_toArray, List.set_cons_zero, List.set_cons_succ]
    refine wpAnyH_take (i := 5) (v := ?v30) rfl (by kernel_rfl) (by kernel_rfl) (by kernel_rfl) (fun _ _ _ h => h) (Or.inl ⟨by rfl, ?hy30⟩) hHeld ?rest30
    case hy30 =>
      intro w' hSw
      try dsimp only at hSw
      go_simp
      first | done | with_reducible rfl
    try simp only [Act.put, List.getElem_toArray, List.getElem_cons_succ, List.getElem_cons_zero, List.setIfInBounds_toArray, List.set_cons_zero, List.set_cons_succ]
    refine wpAnyH_take (i := 6) rfl (by kernel_rfl) (by kernel_rfl) (by kernel_rfl) (fun _ _ _ h => h) (y_bl3 (by rfl) _ (.tmp 37) (.tmp 40) (by rfl) (by rfl) (by rfl) (by rfl) (builtK3 2 xk.o u.c)) hHeld ?_
    try simp only [Act.put, List.getElem_toArray, List.getElem_cons_succ, List.getElem_cons_zero, List.setIfInBounds_toArray, List.set_cons_zero, List.set_cons_succ]
    refine wpAnyH_take (i := 7) rfl (by kernel_rfl) (by kernel_rfl) (by kernel_rfl) (fun _ _ _ h => h) (y_bk (by rfl) (.tmp 2) (by rfl) w.heap.size 0 (by rfl) p xk.o u (fun _ h => h.1)) hHeld ?_
    try simp only [Act.put, List.getElem_toArray, List.getElem_cons_succ, List.getElem_cons_zero, List.setIfInBounds_toArray, List.set_cons_zero, List.set_cons_succ]
    refine wpAnyH_take (i := 9) (v := ?v31) rfl (by kernel_rfl) (by kernel_rfl) (by kernel_rfl) (fun _ _ _ h => h) (Or.inl ⟨by rfl, ?hy31⟩) hHeld ?rest31
    case hy31 =>
      intro w' hSw
      try dsimp only at hSw
      go_simp
      first | done | with_reducible rfl
    try simp only [Act.put, List.getElem_toArray, List.getElem_cons_succ, List.getElem_cons_zero, List.setIfInBounds_toArray, List.set_cons_zero, List.set_cons_succ]
    refine wpAnyH_take (i := 10) (v := ?v32) rfl (by kernel_rfl) (by kernel_rfl) (by kernel_rfl) (fun _ _ _ h => h) (Or.inl ⟨by rfl, ?hy32⟩) hHeld ?rest32
    case hy32 =>
      intro w' hSw
      try dsimp only at hSw
      go_simp
      first | done | with_reducible rfl
    try simp only [Act.put, List.getElem_toArray, List.getElem_cons_succ, List.getElem_cons_zero, List.setIfInBounds_toArray, List.set_cons_zero, List.set_cons_succ]
    refine wpAnyH_ready (rs := [8]) (by kernel_rfl) (by simp) ?_
    refine AllReadyH.cons (by rfl) (fun K hK => ?_) AllReadyH.nil
    go_simp
    refine (first_eq p xk.o u _ HAV.out).mono ?_
    rintro e_ w23 ⟨rfl, b_⟩
    have Q23 := Lib.hid (Q22.out.drew.below b_)
    have G23 := Lib.hid ((G22.out.drew).keep b_)
    have H23 := Lib.hid ((H22.out.drew).keep b_)
    have J23 : Hid (w23.heap[D]? = some (.deferred (some []))) := Lib.hid ((b_.block D (Array.getElem?_eq_some_iff.1 J22.out).1).trans J22.out)
    clear b_ hHeld
    go_wp2_with fail
    refine hK.out _ _ ⟨Q23.out.b0.bk, by have := Q23.out.b0.bk.oid; simpa using this, by have := Q23.out.b0.bk.node.cells.2.1; simpa using this, H23.out.one⟩ (fun hHeld => ?_)
    clear hK K
    try simp only [Act.put, List.getElem_toArray, List.getElem_cons_succ, List.getElem_cons_zero, List.setIfInBounds_toArray, List.set_cons_zero, List.set_cons_succ]
    refine wpAnyH_ready (rs := [11]) (by kernel_rfl) (by simp) ?_
    refine AllReadyH.cons (by rfl) (fun K hK => ?_) AllReadyH.nil
    go_simp
    refine (give_any Q23.out.st HO2.out HN2.out (HT.out.fr HST.out Q23.out.fr) xk.o u (ownK xk.o u) (a : Int) ((m : Int) - 1)).mono ?_
    rintro e_ w24 ⟨rfl, hs_, hf_⟩
    have Q24 := Lib.hid (Q23.out.fr' hf_ hs_)
    have G24 := Lib.hid (Q23.out.st.blkF hf_ G23.out (by decide))
    have H24 := Lib.hid (Q23.out.st.blkF hf_ H23.out (by decide))
    have J24 : Hid (w24.heap[D]? = some (.deferred (some []))) := Lib.hid (Q23.out.st.defF hf_ J23.out)
    clear hs_ hf_ hHeld
    go_wp2_with fail
    refine hK.out _ _ ⟨Q24.out.b0.bk, by have := Q24.out.b0.bk.oid; simpa using this, by have := Q24.out.b0.bk.node.cells.2.1; simpa using this, H24.out.one⟩ (fun hHeld => ?_)
    clear hK K
    try simp only [Act.put, List.getElem_toArray, List.getElem_cons_succ, List.getElem_cons_zero, List.setIfInBounds_toArray, List.set_cons_zero, List.set_cons_succ]
    refine wpAnyH_done (by kernel_rfl) ?_ _
    refine OnlyN.normal ?_
    have k1 := G24.out.six.2.1
    have k2 := G24.out.six.2.2.1
    have HK3 := Lib.hid (builtK3 4 k.o k.c)
    go_wp2_with (first
      | (show wpList _ _ _ ({ dst := some 51, op := .build _ _, type := _, pos := _, after := _, guard := _ } :: _) _ _; refine wpList_yields (S := fun _ => True) (y_bl3 (by rfl) _ (.tmp 48) (.tmp 50) (by rfl) (by rfl) (by rfl) (by rfl) HK3.out) trivial ?_)
      | (show wpList _ _ _ ({ dst := none, op := .store _ (.tmp 4) (.tmp 51), type := _, pos := _, after := _, guard := _ } :: _) _ _; refine wpList_store_big Q24.out.b1 rfl (.tmp 4) (.tmp 51) (ty := 33) (l := kl (bnkK k)) rfl (by rfl) (by rfl) size30 rfl (kl_one _) ?_))
    have hDne : D ≠ w.heap.size + 1 := by have := HD.out; omega
    have JD : (w24.setRow (w.heap.size + 1) (kl (bnkK k)).toArray).heap[D]? = some (.deferred (some [])) := (setRow_other _ _ _ _ hDne).trans J24.out
    have JZ : Blk (w24.setRow (w.heap.size + 1) (kl (bnkK k)).toArray) (w.heap.size + 1) 33 (kl (bnkK k)).toArray := Q24.out.b1.setRow _
    have JS := Q24.out.st.keep (w' := w24.setRow (w.heap.size + 1) (kl (bnkK k)).toArray) fun k' hk' => setRow_other _ _ _ _ (fun e => Q24.out.st.blk_ne Q24.out.b1 (by decide) (by have := Q24.out.hp; omega) (e ▸ hk'))
    refine ⟨by simp, .inl ⟨_, _, rfl, run_takeDeferred JD, ?_⟩⟩
    refine ⟨_, res_1 rfl _ _ (w.heap.size + 1) _ rfl (load_key (bnkK k) ((World.putObj_heap_other (by omega)).trans JZ)), ?_⟩
    exact ⟨_, JS.shut JD, ((Q24.out.fr.then_ (setRow_fr _ _ _) (fun i hi he => by omega)).putObj (Nat.le_refl _) (by have := HD.out; omega) _), .inl ⟨HAE.out, rfl, rfl⟩⟩
end
end Go.Proofs.YteodgefnbmiblaaDoor

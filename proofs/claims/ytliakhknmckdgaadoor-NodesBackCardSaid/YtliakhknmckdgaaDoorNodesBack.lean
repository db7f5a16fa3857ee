/- The law NodesBack returns true for every input: what is put is got; other slots, and other objects, stay. No condition but that the listed variables read as the program's own text lays them; the card ties them to it. -/
import Derived.Test.YtliakhknmckdgaaDoorNDo
import Derived.Test.YtliakhknmckdgaaDoorR12
import Derived.Test.YtliakhknmckdgaaDoorR05
import Derived.Test.YtliakhknmckdgaaDoorNBack0
import Derived.Test.YtliakhknmckdgaaDoorR09
namespace Go.Proofs.YtliakhknmckdgaaDoor.nodesBack
open Go.ChangeShapes Go.WideShapes Go.ChangeAt Go.RowKit
attribute [local go_sem] Oper.semAt_some
set_option maxRecDepth 8000 in
set_option maxHeartbeats 1000000 in
theorem walk_no (w : World) (hT : Tab w) (A : Option Addr) (l : List Oj) (cap : Nat) (k : Ky) (s : Int) (x y : Ky) (hr : RdO w A l) (h : ¬ madeP l) :
    Calls Tryd.prog 6 #[.slice A l.length cap, k.val, .agg (twc s x y)] w fun e w' => e = .returned (.bool true) ∧ Below w.heap.size w w' := by
  have HT := Lib.hid hT
  have HR := Lib.hid hr
  have H := Lib.hid h
  have HB := Lib.hid (((Below.refl w.heap.size w).alloc (Nat.le_refl _) (.cells (kc k.k k.o k.c k.l k.r k.v) 32)).alloc (by simp) (.cells (twc s x y) 50))
  have HK0 := Lib.hid ((Blk.new w 32 (kc k.k k.o k.c k.l k.r k.v)).alloc (.cells (twc s x y) 50))
  have HY0 := Lib.hid (Blk.new_of (w.alloc (.cells (kc k.k k.o k.c k.l k.r k.v) 32)) 50 (twc s x y) (g := w.heap.size + 1) (by simp))
  clear hT hr h
  go_enter Tryd.func6, Tryd.ntmps6
  go_wp2_with (first
    | (go_at_call 9; refine (made_no ((HR.out.alloc _).alloc _) H.out).mono ?_; rintro e w1 ⟨rfl, b1⟩; have HB1 := Lib.hid (HB.out.trans (b1.mono HB.out.size)); clear b1)
    | (go_at_call 10; refine (known_any _ (HT.out.below HB1.out)).mono ?_; rintro e v9 ⟨rfl, b_⟩; have B9 := Lib.hid (HB1.out.trans (b_.mono (HB1.out).size)); clear b_))
  go_ret
  exact ⟨rfl, B9.out⟩
set_option maxRecDepth 8000 in
set_option maxHeartbeats 1000000 in
theorem walk_may (w : World) (hT : Tab w) (A : Option Addr) (l : List Oj) (cap : Nat) (k : Ky) (s : Int) (x y : Ky) (hr : RdO w A l) (h : madeP l) (hy : ¬ y.may l.length) :
    Calls Tryd.prog 6 #[.slice A l.length cap, k.val, .agg (twc s x y)] w fun e w' => e = .returned (.bool true) ∧ Below w.heap.size w w' := by
  have HT := Lib.hid hT
  have HR := Lib.hid hr
  obtain ⟨n, hn⟩ : ∃ n, l.length = n := ⟨_, rfl⟩
  have HN := Lib.hid (show 0 < l.length by have := h.2.1; omega)
  have HN0 := Lib.hid (show 0 < n by have := h.2.1; omega)
  have HN' := Lib.hid (show n ≤ 1000 by have := h.1; omega)
  have hn20 : n ≤ 20 := hn ▸ h.1
  have HMD := Lib.hid (fun (W : World) (hT : Tab W) (hr : RdO W A l) => hn ▸ made_yes (cap := cap) hT hr h)
  have HOK := Lib.hid h.2.2.2
  have HLN := Lib.hid hn
  have HV := Lib.hid (hn ▸ hy : ¬ y.may n)
  have HB := Lib.hid (((Below.refl w.heap.size w).alloc (Nat.le_refl _) (.cells (kc k.k k.o k.c k.l k.r k.v) 32)).alloc (by simp) (.cells (twc s x y) 50))
  have HK0 := Lib.hid ((Blk.new w 32 (kc k.k k.o k.c k.l k.r k.v)).alloc (.cells (twc s x y) 50))
  have HY0 := Lib.hid (Blk.new_of (w.alloc (.cells (kc k.k k.o k.c k.l k.r k.v) 32)) 50 (twc s x y) (g := w.heap.size + 1) (by simp))
  rw [hn]
  clear hT hr h hy hn
  go_enter Tryd.func6, Tryd.ntmps6
  go_wp2_with (first
    | (go_at_call 9; refine (HMD.out _ (HT.out.below HB.out) ((HR.out.alloc _).alloc _)).mono ?_; rintro e w1 ⟨q, rfl, hq, ⟨A', cap', ps, hs⟩, c1⟩; have HW1 : Hid (Wb w w1 q A' cap' ps l k s x y w1.heap.size) := Lib.hid ⟨HB.out.trans (c1.mono HB.out.size), hs, Nat.lt_of_lt_of_le HY0.out.lt hq, fun i hi => (hs.lt i hi).2, (hs.lt q (.inl rfl)).2, Nat.le_refl _, (show Blk _ _ _ (kl k).toArray from HK0.out.keep c1), HY0.out.keep c1⟩; clear c1 hs hq; obtain ⟨t0, ⟨a0, a1, a2, a3, a4, a5⟩, b0, b1, b2, b3, b4, b5⟩ := HW1.out.tw.tw_)
    | (go_at_call 18; refine (rmay_n n cap _ y HV.out _).mono ?_; rintro e w2 ⟨rfl, c2⟩; have HB2 := Lib.hid (HW1.out.bel.trans (c2.mono HW1.out.bel.size)); clear c2)
    | (go_at_call 10; refine (known_any _ (HT.out.below HB2.out)).mono ?_; rintro e v9 ⟨rfl, b_⟩; have B9 := Lib.hid (HB2.out.trans (b_.mono (HB2.out).size)); clear b_))
  go_ret
  exact ⟨rfl, B9.out⟩
set_option maxRecDepth 100000 in
set_option maxHeartbeats 8000000 in
theorem walk_err (w : World) (hT : Tab w) (A : Option Addr) (l : List Oj) (cap : Nat) (k : Ky) (s : Int) (x y : Ky) (hr : RdO w A l) (h : madeP l) (hy : y.may l.length) (r1 : Ky) (e1 : Int) (hp : putA l k s x = (l, r1, e1)) (he : e1 ≠ 0) :
    Calls Tryd.prog 6 #[.slice A l.length cap, k.val, .agg (twc s x y)] w fun e w' => e = .returned (.bool true) ∧ Below w.heap.size w w' := by
  have HT := Lib.hid hT
  have HR := Lib.hid hr
  obtain ⟨n, hn⟩ : ∃ n, l.length = n := ⟨_, rfl⟩
  have HN := Lib.hid (show 0 < l.length by have := h.2.1; omega)
  have HN0 := Lib.hid (show 0 < n by have := h.2.1; omega)
  have HN' := Lib.hid (show n ≤ 1000 by have := h.1; omega)
  have hn20 : n ≤ 20 := hn ▸ h.1
  have HMD := Lib.hid (fun (W : World) (hT : Tab W) (hr : RdO W A l) => hn ▸ made_yes (cap := cap) hT hr h)
  have HOK := Lib.hid h.2.2.2
  have HLN := Lib.hid hn
  have HV := Lib.hid (hn ▸ hy : y.may n)
  have de : (e1 != 0) = true := by simpa using he
  obtain ⟨a, ha⟩ : ∃ a, prepd l x = a := ⟨_, rfl⟩
  obtain ⟨b, hb⟩ : ∃ b, prepd l y = b := ⟨_, rfl⟩
  have HA_ := Lib.hid ha
  have HB_ := Lib.hid hb
  have HP := Lib.hid hp
  have HB := Lib.hid (((Below.refl w.heap.size w).alloc (Nat.le_refl _) (.cells (kc k.k k.o k.c k.l k.r k.v) 32)).alloc (by simp) (.cells (twc s x y) 50))
  have HK0 := Lib.hid ((Blk.new w 32 (kc k.k k.o k.c k.l k.r k.v)).alloc (.cells (twc s x y) 50))
  have HY0 := Lib.hid (Blk.new_of (w.alloc (.cells (kc k.k k.o k.c k.l k.r k.v) 32)) 50 (twc s x y) (g := w.heap.size + 1) (by simp))
  rw [hn]
  clear hT hr h hy hn hp he ha hb
  go_enter Tryd.func6, Tryd.ntmps6
  go_wp2_with (first
    | (go_at_call 9; refine (HMD.out _ (HT.out.below HB.out) ((HR.out.alloc _).alloc _)).mono ?_; rintro e w1 ⟨q, rfl, hq, ⟨A', cap', ps, hs⟩, c1⟩; have HW1 : Hid (Wb w w1 q A' cap' ps l k s x y w1.heap.size) := Lib.hid ⟨HB.out.trans (c1.mono HB.out.size), hs, Nat.lt_of_lt_of_le HY0.out.lt hq, fun i hi => (hs.lt i hi).2, (hs.lt q (.inl rfl)).2, Nat.le_refl _, (show Blk _ _ _ (kl k).toArray from HK0.out.keep c1), HY0.out.keep c1⟩; clear c1 hs hq; obtain ⟨t0, ⟨a0, a1, a2, a3, a4, a5⟩, b0, b1, b2, b3, b4, b5⟩ := HW1.out.tw.tw_)
    | (go_at_call 18; refine (rmay_y n cap _ y HV.out _).mono ?_; rintro e w2 ⟨rfl, c2⟩; have HW2 := Lib.hid (HW1.out.below c2); clear c2 t0 a0 a1 a2 a3 a4 a5 b0 b1 b2 b3 b4 b5))
  generalize w1.heap.size = N1 at HW2
  clear HW1 HB HK0 HY0
  have HPA := Lib.hid (show ∀ W, Wb w W q A' cap' ps l k s x y N1 → Calls Tryd.prog 19 #[pv q, x.val] W fun e w' => e = .returned a.val ∧ Below W.heap.size W w' from fun W hW => HA_.out ▸ prep_at hW.st HN.out (HT.out.below hW.bel) x)
  have HPB := Lib.hid (show ∀ W, Wb w W q A' cap' ps l k s x y N1 → Calls Tryd.prog 19 #[pv q, y.val] W fun e w' => e = .returned b.val ∧ Below W.heap.size W w' from fun W hW => HB_.out ▸ prep_at hW.st HN.out (HT.out.below hW.bel) y)
  have HPU := Lib.hid (show ∀ W, Wb w W q A' cap' ps l k s x y N1 → Calls Tryd.prog 15 #[pv q, k.val, .int .i64 s, x.val] W fun e w' => e = .returned (.tuple #[r1.val, .int .i64 e1]) ∧ StAt w' q q A' cap' ps l ∧ Fr (fun i => i ∈ ps) W w' from fun W hW => by
    have := put_all hW.st HOK.out HN.out (HT.out.below hW.bel) k s x
    rw [HP.out] at this
    exact this)
  refine region_two (fun ac g8 g9 => (((((((((ac.put (some 36) (pv q)).put (some 37) (.pointer (some ⟨w.heap.size + 1, 1, none⟩))).put (some 38) x.val).put (some 39) a.val).put (some 40) (pv q)).put (some 41) (.pointer (some ⟨w.heap.size + 1, 7, none⟩))).put (some 42) y.val).put (some 43) b.val).put (some 8) (.pointer (some ⟨g8, 0, none⟩))).put (some 9) (.pointer (some ⟨g9, 0, none⟩))) (fun g8 g9 W => Wb w W q A' cap' ps l k s x y N1 ∧ Nb N1 W g8 32 (kl a).toArray ∧ Nb N1 W g9 32 (kl b).toArray) ?mkTwo ?mkRest
  case mkTwo =>
    refine wp_region_only (S := fun W => KeyAt W (w.heap.size + 1) 1 x ∧ KeyAt W (w.heap.size + 1) 7 y) (by kernel_rfl) ⟨HW2.out.drew.tw.tw_.2.1, HW2.out.drew.tw.tw_.2.2⟩ (fun hHeld => ?_)
    refine wpAnyH_take (i := 0) (v := ?v1) rfl (by kernel_rfl) (by kernel_rfl) (by kernel_rfl) (fun _ _ _ h => h) (Or.inl ⟨by rfl, ?hy1⟩) hHeld ?rest1
    case hy1 =>
      intro w' hSw
      try dsimp only at hSw
      go_simp
      first | done | with_reducible rfl
    try simp only [Act.put, List.getElem_toArray, List.getElem_cons_zero, List.setIfInBounds_toArray, List.set_cons_zero, List.set_cons_succ]
    refine wpAnyH_take (i := 1) (v := ?v2) rfl (by kernel_rfl) (by kernel_rfl) (by kernel_rfl) (fun _ _ _ h => h) (Or.inl ⟨by rfl, ?hy2⟩) hHeld ?rest2
    case hy2 =>
      intro w' hSw
      try dsimp only at hSw
      go_simp
      first | done | with_reducible rfl
    try simp only [Act.put, List.getElem_toArray, List.getElem_cons_succ, List.getElem_cons_zero, List.setIfInBounds_toArray, List.set_cons_zero, List.set_cons_succ]
    refine wpAnyH_take (i := 2) rfl (by kernel_rfl) (by kernel_rfl) (by kernel_rfl) (fun _ _ _ h => h) (y_ky (by rfl) (.tmp 37) (by rfl) (w.heap.size + 1) 1 (by rfl) x (fun _ h => h.1)) hHeld ?_
    try simp only [Act.put, List.getElem_toArray, List.getElem_cons_succ, List.getElem_cons_zero, List.setIfInBounds_toArray, List.set_cons_zero, List.set_cons_succ]
    refine wpAnyH_take (i := 4) (v := ?v3) rfl (by kernel_rfl) (by kernel_rfl) (by kernel_rfl) (fun _ _ _ h => h) (Or.inl ⟨by rfl, ?hy3⟩) hHeld ?rest3
    case hy3 =>
      intro w' hSw
      try dsimp only at hSw
      go_simp
      first | done | with_reducible rfl
    try simp only [Act.put, List.getElem_toArray, List.getElem_cons_succ, List.getElem_cons_zero, List.setIfInBounds_toArray, List.set_cons_zero, List.set_cons_succ]
    refine wpAnyH_take (i := 5) (v := ?v4) rfl (by kernel_rfl) (by kernel_rfl) (by kernel_rfl) (fun _ _ _ h => h) (Or.inl ⟨by rfl, ?hy4⟩) hHeld ?rest4
    case hy4 =>
      intro w' hSw
      try dsimp only at hSw
      go_simp
      first | done | with_reducible rfl
    try simp only [Act.put, List.getElem_toArray, List.getElem_cons_succ, List.getElem_cons_zero, List.setIfInBounds_toArray, List.set_cons_zero, List.set_cons_succ]
    refine wpAnyH_take (i := 6) rfl (by kernel_rfl) (by kernel_rfl) (by kernel_rfl) (fun _ _ _ h => h) (y_ky (by rfl) (.tmp 41) (by rfl) (w.heap.size + 1) 7 (by rfl) y (fun _ h => h.2)) hHeld ?_
    try simp only [Act.put, List.getElem_toArray, List.getElem_cons_succ, List.getElem_cons_zero, List.setIfInBounds_toArray, List.set_cons_zero, List.set_cons_succ]
    refine wpAnyH_ready (rs := [3, 8, 9]) (by kernel_rfl) (by simp) ?_
    refine AllReadyH.cons (by rfl) (fun K hK => ?_) (AllReadyH.cons (by rfl) (fun K hK => ?_) (AllReadyH.cons (by rfl) (fun K hK => ?_) AllReadyH.nil))
    · go_simp
      refine (HPA.out _ HW2.out.drew).mono ?_
      rintro e_ rw101 ⟨rfl, c_⟩
      have RK101 := Lib.hid (HW2.out.drew.below c_)
      clear c_ hHeld
      go_wp2_with fail
      refine hK.out _ _ ⟨RK101.out.tw.tw_.2.1, RK101.out.tw.tw_.2.2⟩ (fun hHeld => ?_)
      clear hK K
      try simp only [Act.put, List.getElem_toArray, List.getElem_cons_succ, List.getElem_cons_zero, List.setIfInBounds_toArray, List.set_cons_zero, List.set_cons_succ]
      refine wpAnyH_ready (rs := [7, 8, 9]) (by kernel_rfl) (by simp) ?_
      refine AllReadyH.cons (by rfl) (fun K hK => ?_) (AllReadyH.cons (by rfl) (fun K hK => ?_) (AllReadyH.cons (by rfl) (fun K hK => ?_) AllReadyH.nil))
      · go_simp
        refine (HPB.out _ RK101.out).mono ?_
        rintro e_ rw102 ⟨rfl, c_⟩
        have RK102 := Lib.hid (RK101.out.below c_)
        clear c_ hHeld
        go_wp2_with fail
        refine hK.out _ _ ⟨RK102.out.tw.tw_.2.1, RK102.out.tw.tw_.2.2⟩ (fun hHeld => ?_)
        clear hK K
        try simp only [Act.put, List.getElem_toArray, List.getElem_cons_succ, List.getElem_cons_zero, List.setIfInBounds_toArray, List.set_cons_zero, List.set_cons_succ]
        refine wpAnyH_ready (rs := [8, 9]) (by kernel_rfl) (by simp) ?_
        refine AllReadyH.cons (by rfl) (fun K hK => ?_) (AllReadyH.cons (by rfl) (fun K hK => ?_) AllReadyH.nil)
        · refine step_alloc30 rfl (by rfl) ?_
          intro g8 rw103 hg hw
          have RK103 : Hid (Wb w rw103 q A' cap' ps l k s x y N1) := Lib.hid (by subst hw; exact RK102.out.alloc _)
          have RG8_103 : Hid (Nb N1 rw103 g8 32 (kl zk).toArray) := Lib.hid ⟨by subst hg; exact RK102.out.sz, by subst hw hg; exact Blk.new _ _ _⟩
          clear hg hw hHeld
          refine hK.out _ _ ⟨RK103.out.tw.tw_.2.1, RK103.out.tw.tw_.2.2⟩ (fun hHeld => ?_)
          clear hK K
          try simp only [Act.put, List.getElem_toArray, List.getElem_cons_succ, List.getElem_cons_zero, List.setIfInBounds_toArray, List.set_cons_zero, List.set_cons_succ]
          refine wpAnyH_ready (rs := [9]) (by kernel_rfl) (by simp) ?_
          refine AllReadyH.cons (by rfl) (fun K hK => ?_) AllReadyH.nil
          · refine step_alloc30 rfl (by rfl) ?_
            intro g9 rw104 hg hw
            have RK104 : Hid (Wb w rw104 q A' cap' ps l k s x y N1) := Lib.hid (by subst hw; exact RK103.out.alloc _)
            have RG8_104 : Hid (Nb N1 rw104 g8 32 (kl zk).toArray) := Lib.hid (by subst hw; exact RG8_103.out.alloc _)
            have RG9_104 : Hid (Nb N1 rw104 g9 32 (kl zk).toArray) := Lib.hid ⟨by subst hg; exact RK103.out.sz, by subst hw hg; exact Blk.new _ _ _⟩
            have RNE : Hid (g8 ≠ g9) := Lib.hid (by have h1 := RG8_103.out.blk.lt; subst hg; omega)
            clear hg hw hHeld
            refine hK.out _ _ ⟨RK104.out.tw.tw_.2.1, RK104.out.tw.tw_.2.2⟩ (fun hHeld => ?_)
            clear hK K
            try simp only [Act.put, List.getElem_toArray, List.getElem_cons_succ, List.getElem_cons_zero, List.setIfInBounds_toArray, List.set_cons_zero, List.set_cons_succ]
            refine wpAnyH_ready (rs := [10]) (by kernel_rfl) (by simp) ?_
            refine AllReadyH.cons (by rfl) (fun K hK => ?_) AllReadyH.nil
            refine step_store_big RG8_104.out.blk rfl (.tmp 8) (.tmp 39) (ty := 32) (l := kl a) rfl (by rfl) (by rfl) size30 rfl (kl_one a) ?_
            have SK := Lib.hid (RK104.out.set RG8_104.out.ge (kl a).toArray)
            have S8 := Lib.hid (RG8_104.out.put (kl a).toArray)
            have S9 := Lib.hid (RG9_104.out.set (Ne.symm RNE.out) (kl a).toArray)
            generalize rw104.setRow g8 (kl a).toArray = SW at SK S8 S9 ⊢
            refine hK.out _ _ ⟨SK.out.tw.tw_.2.1, SK.out.tw.tw_.2.2⟩ (fun hHeld => ?_)
            clear hK K
            try simp only [Act.put, List.getElem_toArray, List.getElem_cons_succ, List.getElem_cons_zero]
            refine wpAnyH_ready (rs := [11]) (by kernel_rfl) (by simp) ?_
            refine AllReadyH.cons (by rfl) (fun K hK => ?_) AllReadyH.nil
            refine step_store_big S9.out.blk rfl (.tmp 9) (.tmp 43) (ty := 32) (l := kl b) rfl (by rfl) (by rfl) size30 rfl (kl_one b) ?_
            have UK := Lib.hid (SK.out.set S9.out.ge (kl b).toArray)
            have U8 := Lib.hid (S8.out.set RNE.out (kl b).toArray)
            have U9 := Lib.hid (S9.out.put (kl b).toArray)
            generalize SW.setRow g9 (kl b).toArray = UW at UK U8 U9 ⊢
            refine hK.out _ _ ⟨UK.out.tw.tw_.2.1, UK.out.tw.tw_.2.2⟩ (fun hHeld => ?_)
            clear hK K
            try simp only [Act.put, List.getElem_toArray, List.getElem_cons_succ, List.getElem_cons_zero]
            refine wpAnyH_done (by kernel_rfl) ?_ _
            refine OnlyN.normal ?_
            exact ⟨g8, g9, rfl, rfl, UK.out, U8.out, U9.out⟩
        · refine step_alloc30 rfl (by rfl) ?_
          intro g9 rw105 hg hw
          have RK105 : Hid (Wb w rw105 q A' cap' ps l k s x y N1) := Lib.hid (by subst hw; exact RK102.out.alloc _)
          have RG9_105 : Hid (Nb N1 rw105 g9 32 (kl zk).toArray) := Lib.hid ⟨by subst hg; exact RK102.out.sz, by subst hw hg; exact Blk.new _ _ _⟩
          clear hg hw hHeld
          refine hK.out _ _ ⟨RK105.out.tw.tw_.2.1, RK105.out.tw.tw_.2.2⟩ (fun hHeld => ?_)
          clear hK K
          try simp only [Act.put, List.getElem_toArray, List.getElem_cons_succ, List.getElem_cons_zero, List.setIfInBounds_toArray, List.set_cons_zero, List.set_cons_succ]
          refine wpAnyH_ready (rs := [8]) (by kernel_rfl) (by simp) ?_
          refine AllReadyH.cons (by rfl) (fun K hK => ?_) AllReadyH.nil
          · refine step_alloc30 rfl (by rfl) ?_
            intro g8 rw106 hg hw
            have RK106 : Hid (Wb w rw106 q A' cap' ps l k s x y N1) := Lib.hid (by subst hw; exact RK105.out.alloc _)
            have RG9_106 : Hid (Nb N1 rw106 g9 32 (kl zk).toArray) := Lib.hid (by subst hw; exact RG9_105.out.alloc _)
            have RG8_106 : Hid (Nb N1 rw106 g8 32 (kl zk).toArray) := Lib.hid ⟨by subst hg; exact RK105.out.sz, by subst hw hg; exact Blk.new _ _ _⟩
            have RNE : Hid (g8 ≠ g9) := Lib.hid (by have h1 := RG9_105.out.blk.lt; subst hg; omega)
            clear hg hw hHeld
            refine hK.out _ _ ⟨RK106.out.tw.tw_.2.1, RK106.out.tw.tw_.2.2⟩ (fun hHeld => ?_)
            clear hK K
            try simp only [Act.put, List.getElem_toArray, List.getElem_cons_succ, List.getElem_cons_zero, List.setIfInBounds_toArray, List.set_cons_zero, List.set_cons_succ]
            refine wpAnyH_ready (rs := [10]) (by kernel_rfl) (by simp) ?_
            refine AllReadyH.cons (by rfl) (fun K hK => ?_) AllReadyH.nil
            refine step_store_big RG8_106.out.blk rfl (.tmp 8) (.tmp 39) (ty := 32) (l := kl a) rfl (by rfl) (by rfl) size30 rfl (kl_one a) ?_
            have SK := Lib.hid (RK106.out.set RG8_106.out.ge (kl a).toArray)
            have S8 := Lib.hid (RG8_106.out.put (kl a).toArray)
            have S9 := Lib.hid (RG9_106.out.set (Ne.symm RNE.out) (kl a).toArray)
            generalize rw106.setRow g8 (kl a).toArray = SW at SK S8 S9 ⊢
            refine hK.out _ _ ⟨SK.out.tw.tw_.2.1, SK.out.tw.tw_.2.2⟩ (fun hHeld => ?_)
            clear hK K
            try simp only [Act.put, List.getElem_toArray, List.getElem_cons_succ, List.getElem_cons_zero]
            refine wpAnyH_ready (rs := [11]) (by kernel_rfl) (by simp) ?_
            refine AllReadyH.cons (by rfl) (fun K hK => ?_) AllReadyH.nil
            refine step_store_big S9.out.blk rfl (.tmp 9) (.tmp 43) (ty := 32) (l := kl b) rfl (by rfl) (by rfl) size30 rfl (kl_one b) ?_
            have UK := Lib.hid (SK.out.set S9.out.ge (kl b).toArray)
            have U8 := Lib.hid (S8.out.set RNE.out (kl b).toArray)
            have U9 := Lib.hid (S9.out.put (kl b).toArray)
            generalize SW.setRow g9 (kl b).toArray = UW at UK U8 U9 ⊢
            refine hK.out _ _ ⟨UK.out.tw.tw_.2.1, UK.out.tw.tw_.2.2⟩ (fun hHeld => ?_)
            clear hK K
            try simp only [Act.put, List.getElem_toArray, List.getElem_cons_succ, List.getElem_cons_zero]
            refine wpAnyH_done (by kernel_rfl) ?_ _
            refine OnlyN.normal ?_
            exact ⟨g8, g9, rfl, rfl, UK.out, U8.out, U9.out⟩
      · refine step_alloc30 rfl (by rfl) ?_
        intro g8 rw107 hg hw
        have RK107 : Hid (Wb w rw107 q A' cap' ps l k s x y N1) := Lib.hid (by subst hw; exact RK101.out.alloc _)
        have RG8_107 : Hid (Nb N1 rw107 g8 32 (kl zk).toArray) := Lib.hid ⟨by subst hg; exact RK101.out.sz, by subst hw hg; exact Blk.new _ _ _⟩
        clear hg hw hHeld
        refine hK.out _ _ ⟨RK107.out.tw.tw_.2.1, RK107.out.tw.tw_.2.2⟩ (fun hHeld => ?_)
        clear hK K
        try simp only [Act.put, List.getElem_toArray, List.getElem_cons_succ, List.getElem_cons_zero, List.setIfInBounds_toArray, List.set_cons_zero, List.set_cons_succ]
        refine wpAnyH_ready (rs := [7, 9]) (by kernel_rfl) (by simp) ?_
        refine AllReadyH.cons (by rfl) (fun K hK => ?_) (AllReadyH.cons (by rfl) (fun K hK => ?_) AllReadyH.nil)
        · go_simp
          refine (HPB.out _ RK107.out).mono ?_
          rintro e_ rw108 ⟨rfl, c_⟩
          have RK108 := Lib.hid (RK107.out.below c_)
          have RG8_108 := Lib.hid (RG8_107.out.below c_)
          clear c_ hHeld
          go_wp2_with fail
          refine hK.out _ _ ⟨RK108.out.tw.tw_.2.1, RK108.out.tw.tw_.2.2⟩ (fun hHeld => ?_)
          clear hK K
          try simp only [Act.put, List.getElem_toArray, List.getElem_cons_succ, List.getElem_cons_zero, List.setIfInBounds_toArray, List.set_cons_zero, List.set_cons_succ]
          refine wpAnyH_ready (rs := [9]) (by kernel_rfl) (by simp) ?_
          refine AllReadyH.cons (by rfl) (fun K hK => ?_) AllReadyH.nil
          · refine step_alloc30 rfl (by rfl) ?_
            intro g9 rw109 hg hw
            have RK109 : Hid (Wb w rw109 q A' cap' ps l k s x y N1) := Lib.hid (by subst hw; exact RK108.out.alloc _)
            have RG8_109 : Hid (Nb N1 rw109 g8 32 (kl zk).toArray) := Lib.hid (by subst hw; exact RG8_108.out.alloc _)
            have RG9_109 : Hid (Nb N1 rw109 g9 32 (kl zk).toArray) := Lib.hid ⟨by subst hg; exact RK108.out.sz, by subst hw hg; exact Blk.new _ _ _⟩
            have RNE : Hid (g8 ≠ g9) := Lib.hid (by have h1 := RG8_108.out.blk.lt; subst hg; omega)
            clear hg hw hHeld
            refine hK.out _ _ ⟨RK109.out.tw.tw_.2.1, RK109.out.tw.tw_.2.2⟩ (fun hHeld => ?_)
            clear hK K
            try simp only [Act.put, List.getElem_toArray, List.getElem_cons_succ, List.getElem_cons_zero, List.setIfInBounds_toArray, List.set_cons_zero, List.set_cons_succ]
            refine wpAnyH_ready (rs := [10]) (by kernel_rfl) (by simp) ?_
            refine AllReadyH.cons (by rfl) (fun K hK => ?_) AllReadyH.nil
            refine step_store_big RG8_109.out.blk rfl (.tmp 8) (.tmp 39) (ty := 32) (l := kl a) rfl (by rfl) (by rfl) size30 rfl (kl_one a) ?_
            have SK := Lib.hid (RK109.out.set RG8_109.out.ge (kl a).toArray)
            have S8 := Lib.hid (RG8_109.out.put (kl a).toArray)
            have S9 := Lib.hid (RG9_109.out.set (Ne.symm RNE.out) (kl a).toArray)
            generalize rw109.setRow g8 (kl a).toArray = SW at SK S8 S9 ⊢
            refine hK.out _ _ ⟨SK.out.tw.tw_.2.1, SK.out.tw.tw_.2.2⟩ (fun hHeld => ?_)
            clear hK K
            try simp only [Act.put, List.getElem_toArray, List.getElem_cons_succ, List.getElem_cons_zero]
            refine wpAnyH_ready (rs := [11]) (by kernel_rfl) (by simp) ?_
            refine AllReadyH.cons (by rfl) (fun K hK => ?_) AllReadyH.nil
            refine step_store_big S9.out.blk rfl (.tmp 9) (.tmp 43) (ty := 32) (l := kl b) rfl (by rfl) (by rfl) size30 rfl (kl_one b) ?_
            have UK := Lib.hid (SK.out.set S9.out.ge (kl b).toArray)
            have U8 := Lib.hid (S8.out.set RNE.out (kl b).toArray)
            have U9 := Lib.hid (S9.out.put (kl b).toArray)
            generalize SW.setRow g9 (kl b).toArray = UW at UK U8 U9 ⊢
            refine hK.out _ _ ⟨UK.out.tw.tw_.2.1, UK.out.tw.tw_.2.2⟩ (fun hHeld => ?_)
            clear hK K
            try simp only [Act.put, List.getElem_toArray, List.getElem_cons_succ, List.getElem_cons_zero]
            refine wpAnyH_done (by kernel_rfl) ?_ _
            refine OnlyN.normal ?_
            exact ⟨g8, g9, rfl, rfl, UK.out, U8.out, U9.out⟩
        · refine step_alloc30 rfl (by rfl) ?_
          intro g9 rw110 hg hw
          have RK110 : Hid (Wb w rw110 q A' cap' ps l k s x y N1) := Lib.hid (by subst hw; exact RK107.out.alloc _)
          have RG8_110 : Hid (Nb N1 rw110 g8 32 (kl zk).toArray) := Lib.hid (by subst hw; exact RG8_107.out.alloc _)
          have RG9_110 : Hid (Nb N1 rw110 g9 32 (kl zk).toArray) := Lib.hid ⟨by subst hg; exact RK107.out.sz, by subst hw hg; exact Blk.new _ _ _⟩
          have RNE : Hid (g8 ≠ g9) := Lib.hid (by have h1 := RG8_107.out.blk.lt; subst hg; omega)
          clear hg hw hHeld
          refine hK.out _ _ ⟨RK110.out.tw.tw_.2.1, RK110.out.tw.tw_.2.2⟩ (fun hHeld => ?_)
          clear hK K
          try simp only [Act.put, List.getElem_toArray, List.getElem_cons_succ, List.getElem_cons_zero, List.setIfInBounds_toArray, List.set_cons_zero, List.set_cons_succ]
          refine wpAnyH_ready (rs := [7]) (by kernel_rfl) (by simp) ?_
          refine AllReadyH.cons (by rfl) (fun K hK => ?_) AllReadyH.nil
          · go_simp
            refine (HPB.out _ RK110.out).mono ?_
            rintro e_ rw111 ⟨rfl, c_⟩
            have RK111 := Lib.hid (RK110.out.below c_)
            have RG8_111 := Lib.hid (RG8_110.out.below c_)
            have RG9_111 := Lib.hid (RG9_110.out.below c_)
            clear c_ hHeld
            go_wp2_with fail
            refine hK.out _ _ ⟨RK111.out.tw.tw_.2.1, RK111.out.tw.tw_.2.2⟩ (fun hHeld => ?_)
            clear hK K
            try simp only [Act.put, List.getElem_toArray, List.getElem_cons_succ, List.getElem_cons_zero, List.setIfInBounds_toArray, List.set_cons_zero, List.set_cons_succ]
            refine wpAnyH_ready (rs := [10]) (by kernel_rfl) (by simp) ?_
            refine AllReadyH.cons (by rfl) (fun K hK => ?_) AllReadyH.nil
            refine step_store_big RG8_111.out.blk rfl (.tmp 8) (.tmp 39) (ty := 32) (l := kl a) rfl (by rfl) (by rfl) size30 rfl (kl_one a) ?_
            have SK := Lib.hid (RK111.out.set RG8_111.out.ge (kl a).toArray)
            have S8 := Lib.hid (RG8_111.out.put (kl a).toArray)
            have S9 := Lib.hid (RG9_111.out.set (Ne.symm RNE.out) (kl a).toArray)
            generalize rw111.setRow g8 (kl a).toArray = SW at SK S8 S9 ⊢
            refine hK.out _ _ ⟨SK.out.tw.tw_.2.1, SK.out.tw.tw_.2.2⟩ (fun hHeld => ?_)
            clear hK K
            try simp only [Act.put, List.getElem_toArray, List.getElem_cons_succ, List.getElem_cons_zero]
            refine wpAnyH_ready (rs := [11]) (by kernel_rfl) (by simp) ?_
            refine AllReadyH.cons (by rfl) (fun K hK => ?_) AllReadyH.nil
            refine step_store_big S9.out.blk rfl (.tmp 9) (.tmp 43) (ty := 32) (l := kl b) rfl (by rfl) (by rfl) size30 rfl (kl_one b) ?_
            have UK := Lib.hid (SK.out.set S9.out.ge (kl b).toArray)
            have U8 := Lib.hid (S8.out.set RNE.out (kl b).toArray)
            have U9 := Lib.hid (S9.out.put (kl b).toArray)
            generalize SW.setRow g9 (kl b).toArray = UW at UK U8 U9 ⊢
            refine hK.out _ _ ⟨UK.out.tw.tw_.2.1, UK.out.tw.tw_.2.2⟩ (fun hHeld => ?_)
            clear hK K
            try simp only [Act.put, List.getElem_toArray, List.getElem_cons_succ, List.getElem_cons_zero]
            refine wpAnyH_done (by kernel_rfl) ?_ _
            refine OnlyN.normal ?_
            exact ⟨g8, g9, rfl, rfl, UK.out, U8.out, U9.out⟩
      · refine step_alloc30 rfl (by rfl) ?_
        intro g9 rw112 hg hw
        have RK112 : Hid (Wb w rw112 q A' cap' ps l k s x y N1) := Lib.hid (by subst hw; exact RK101.out.alloc _)
        have RG9_112 : Hid (Nb N1 rw112 g9 32 (kl zk).toArray) := Lib.hid ⟨by subst hg; exact RK101.out.sz, by subst hw hg; exact Blk.new _ _ _⟩
        clear hg hw hHeld
        refine hK.out _ _ ⟨RK112.out.tw.tw_.2.1, RK112.out.tw.tw_.2.2⟩ (fun hHeld => ?_)
        clear hK K
        try simp only [Act.put, List.getElem_toArray, List.getElem_cons_succ, List.getElem_cons_zero, List.setIfInBounds_toArray, List.set_cons_zero, List.set_cons_succ]
        refine wpAnyH_ready (rs := [7, 8]) (by kernel_rfl) (by simp) ?_
        refine AllReadyH.cons (by rfl) (fun K hK => ?_) (AllReadyH.cons (by rfl) (fun K hK => ?_) AllReadyH.nil)
        · go_simp
          refine (HPB.out _ RK112.out).mono ?_
          rintro e_ rw113 ⟨rfl, c_⟩
          have RK113 := Lib.hid (RK112.out.below c_)
          have RG9_113 := Lib.hid (RG9_112.out.below c_)
          clear c_ hHeld
          go_wp2_with fail
          refine hK.out _ _ ⟨RK113.out.tw.tw_.2.1, RK113.out.tw.tw_.2.2⟩ (fun hHeld => ?_)
          clear hK K
          try simp only [Act.put, List.getElem_toArray, List.getElem_cons_succ, List.getElem_cons_zero, List.setIfInBounds_toArray, List.set_cons_zero, List.set_cons_succ]
          refine wpAnyH_ready (rs := [8]) (by kernel_rfl) (by simp) ?_
          refine AllReadyH.cons (by rfl) (fun K hK => ?_) AllReadyH.nil
          · refine step_alloc30 rfl (by rfl) ?_
            intro g8 rw114 hg hw
            have RK114 : Hid (Wb w rw114 q A' cap' ps l k s x y N1) := Lib.hid (by subst hw; exact RK113.out.alloc _)
            have RG9_114 : Hid (Nb N1 rw114 g9 32 (kl zk).toArray) := Lib.hid (by subst hw; exact RG9_113.out.alloc _)
            have RG8_114 : Hid (Nb N1 rw114 g8 32 (kl zk).toArray) := Lib.hid ⟨by subst hg; exact RK113.out.sz, by subst hw hg; exact Blk.new _ _ _⟩
            have RNE : Hid (g8 ≠ g9) := Lib.hid (by have h1 := RG9_113.out.blk.lt; subst hg; omega)
            clear hg hw hHeld
            refine hK.out _ _ ⟨RK114.out.tw.tw_.2.1, RK114.out.tw.tw_.2.2⟩ (fun hHeld => ?_)
            clear hK K
            try simp only [Act.put, List.getElem_toArray, List.getElem_cons_succ, List.getElem_cons_zero, List.setIfInBounds_toArray, List.set_cons_zero, List.set_cons_succ]
            refine wpAnyH_ready (rs := [10]) (by kernel_rfl) (by simp) ?_
            refine AllReadyH.cons (by rfl) (fun K hK => ?_) AllReadyH.nil
            refine step_store_big RG8_114.out.blk rfl (.tmp 8) (.tmp 39) (ty := 32) (l := kl a) rfl (by rfl) (by rfl) size30 rfl (kl_one a) ?_
            have SK := Lib.hid (RK114.out.set RG8_114.out.ge (kl a).toArray)
            have S8 := Lib.hid (RG8_114.out.put (kl a).toArray)
            have S9 := Lib.hid (RG9_114.out.set (Ne.symm RNE.out) (kl a).toArray)
            generalize rw114.setRow g8 (kl a).toArray = SW at SK S8 S9 ⊢
            refine hK.out _ _ ⟨SK.out.tw.tw_.2.1, SK.out.tw.tw_.2.2⟩ (fun hHeld => ?_)
            clear hK K
            try simp only [Act.put, List.getElem_toArray, List.getElem_cons_succ, List.getElem_cons_zero]
            refine wpAnyH_ready (rs := [11]) (by kernel_rfl) (by simp) ?_
            refine AllReadyH.cons (by rfl) (fun K hK => ?_) AllReadyH.nil
            refine step_store_big S9.out.blk rfl (.tmp 9) (.tmp 43) (ty := 32) (l := kl b) rfl (by rfl) (by rfl) size30 rfl (kl_one b) ?_
            have UK := Lib.hid (SK.out.set S9.out.ge (kl b).toArray)
            have U8 := Lib.hid (S8.out.set RNE.out (kl b).toArray)
            have U9 := Lib.hid (S9.out.put (kl b).toArray)
            generalize SW.setRow g9 (kl b).toArray = UW at UK U8 U9 ⊢
            refine hK.out _ _ ⟨UK.out.tw.tw_.2.1, UK.out.tw.tw_.2.2⟩ (fun hHeld => ?_)
            clear hK K
            try simp only [Act.put, List.getElem_toArray, List.getElem_cons_succ, List.getElem_cons_zero]
            refine wpAnyH_done (by kernel_rfl) ?_ _
            refine OnlyN.normal ?_
            exact ⟨g8, g9, rfl, rfl, UK.out, U8.out, U9.out⟩
        · refine step_alloc30 rfl (by rfl) ?_
          intro g8 rw115 hg hw
          have RK115 : Hid (Wb w rw115 q A' cap' ps l k s x y N1) := Lib.hid (by subst hw; exact RK112.out.alloc _)
          have RG9_115 : Hid (Nb N1 rw115 g9 32 (kl zk).toArray) := Lib.hid (by subst hw; exact RG9_112.out.alloc _)
          have RG8_115 : Hid (Nb N1 rw115 g8 32 (kl zk).toArray) := Lib.hid ⟨by subst hg; exact RK112.out.sz, by subst hw hg; exact Blk.new _ _ _⟩
          have RNE : Hid (g8 ≠ g9) := Lib.hid (by have h1 := RG9_112.out.blk.lt; subst hg; omega)
          clear hg hw hHeld
          refine hK.out _ _ ⟨RK115.out.tw.tw_.2.1, RK115.out.tw.tw_.2.2⟩ (fun hHeld => ?_)
          clear hK K
          try simp only [Act.put, List.getElem_toArray, List.getElem_cons_succ, List.getElem_cons_zero, List.setIfInBounds_toArray, List.set_cons_zero, List.set_cons_succ]
          refine wpAnyH_ready (rs := [7]) (by kernel_rfl) (by simp) ?_
          refine AllReadyH.cons (by rfl) (fun K hK => ?_) AllReadyH.nil
          · go_simp
            refine (HPB.out _ RK115.out).mono ?_
            rintro e_ rw116 ⟨rfl, c_⟩
            have RK116 := Lib.hid (RK115.out.below c_)
            have RG9_116 := Lib.hid (RG9_115.out.below c_)
            have RG8_116 := Lib.hid (RG8_115.out.below c_)
            clear c_ hHeld
            go_wp2_with fail
            refine hK.out _ _ ⟨RK116.out.tw.tw_.2.1, RK116.out.tw.tw_.2.2⟩ (fun hHeld => ?_)
            clear hK K
            try simp only [Act.put, List.getElem_toArray, List.getElem_cons_succ, List.getElem_cons_zero, List.setIfInBounds_toArray, List.set_cons_zero, List.set_cons_succ]
            refine wpAnyH_ready (rs := [10]) (by kernel_rfl) (by simp) ?_
            refine AllReadyH.cons (by rfl) (fun K hK => ?_) AllReadyH.nil
            refine step_store_big RG8_116.out.blk rfl (.tmp 8) (.tmp 39) (ty := 32) (l := kl a) rfl (by rfl) (by rfl) size30 rfl (kl_one a) ?_
            have SK := Lib.hid (RK116.out.set RG8_116.out.ge (kl a).toArray)
            have S8 := Lib.hid (RG8_116.out.put (kl a).toArray)
            have S9 := Lib.hid (RG9_116.out.set (Ne.symm RNE.out) (kl a).toArray)
            generalize rw116.setRow g8 (kl a).toArray = SW at SK S8 S9 ⊢
            refine hK.out _ _ ⟨SK.out.tw.tw_.2.1, SK.out.tw.tw_.2.2⟩ (fun hHeld => ?_)
            clear hK K
            try simp only [Act.put, List.getElem_toArray, List.getElem_cons_succ, List.getElem_cons_zero]
            refine wpAnyH_ready (rs := [11]) (by kernel_rfl) (by simp) ?_
            refine AllReadyH.cons (by rfl) (fun K hK => ?_) AllReadyH.nil
            refine step_store_big S9.out.blk rfl (.tmp 9) (.tmp 43) (ty := 32) (l := kl b) rfl (by rfl) (by rfl) size30 rfl (kl_one b) ?_
            have UK := Lib.hid (SK.out.set S9.out.ge (kl b).toArray)
            have U8 := Lib.hid (S8.out.set RNE.out (kl b).toArray)
            have U9 := Lib.hid (S9.out.put (kl b).toArray)
            generalize SW.setRow g9 (kl b).toArray = UW at UK U8 U9 ⊢
            refine hK.out _ _ ⟨UK.out.tw.tw_.2.1, UK.out.tw.tw_.2.2⟩ (fun hHeld => ?_)
            clear hK K
            try simp only [Act.put, List.getElem_toArray, List.getElem_cons_succ, List.getElem_cons_zero]
            refine wpAnyH_done (by kernel_rfl) ?_ _
            refine OnlyN.normal ?_
            exact ⟨g8, g9, rfl, rfl, UK.out, U8.out, U9.out⟩
    · refine step_alloc30 rfl (by rfl) ?_
      intro g8 rw117 hg hw
      have RK117 : Hid (Wb w rw117 q A' cap' ps l k s x y N1) := Lib.hid (by subst hw; exact HW2.out.drew.alloc _)
      have RG8_117 : Hid (Nb N1 rw117 g8 32 (kl zk).toArray) := Lib.hid ⟨by subst hg; exact HW2.out.drew.sz, by subst hw hg; exact Blk.new _ _ _⟩
      clear hg hw hHeld
      refine hK.out _ _ ⟨RK117.out.tw.tw_.2.1, RK117.out.tw.tw_.2.2⟩ (fun hHeld => ?_)
      clear hK K
      try simp only [Act.put, List.getElem_toArray, List.getElem_cons_succ, List.getElem_cons_zero, List.setIfInBounds_toArray, List.set_cons_zero, List.set_cons_succ]
      refine wpAnyH_ready (rs := [3, 9]) (by kernel_rfl) (by simp) ?_
      refine AllReadyH.cons (by rfl) (fun K hK => ?_) (AllReadyH.cons (by rfl) (fun K hK => ?_) AllReadyH.nil)
      · go_simp
        refine (HPA.out _ RK117.out).mono ?_
        rintro e_ rw118 ⟨rfl, c_⟩
        have RK118 := Lib.hid (RK117.out.below c_)
        have RG8_118 := Lib.hid (RG8_117.out.below c_)
        clear c_ hHeld
        go_wp2_with fail
        refine hK.out _ _ ⟨RK118.out.tw.tw_.2.1, RK118.out.tw.tw_.2.2⟩ (fun hHeld => ?_)
        clear hK K
        try simp only [Act.put, List.getElem_toArray, List.getElem_cons_succ, List.getElem_cons_zero, List.setIfInBounds_toArray, List.set_cons_zero, List.set_cons_succ]
        refine wpAnyH_ready (rs := [7, 9]) (by kernel_rfl) (by simp) ?_
        refine AllReadyH.cons (by rfl) (fun K hK => ?_) (AllReadyH.cons (by rfl) (fun K hK => ?_) AllReadyH.nil)
        · go_simp
          refine (HPB.out _ RK118.out).mono ?_
          rintro e_ rw119 ⟨rfl, c_⟩
          have RK119 := Lib.hid (RK118.out.below c_)
          have RG8_119 := Lib.hid (RG8_118.out.below c_)
          clear c_ hHeld
          go_wp2_with fail
          refine hK.out _ _ ⟨RK119.out.tw.tw_.2.1, RK119.out.tw.tw_.2.2⟩ (fun hHeld => ?_)
          clear hK K
          try simp only [Act.put, List.getElem_toArray, List.getElem_cons_succ, List.getElem_cons_zero, List.setIfInBounds_toArray, List.set_cons_zero, List.set_cons_succ]
          refine wpAnyH_ready (rs := [9]) (by kernel_rfl) (by simp) ?_
          refine AllReadyH.cons (by rfl) (fun K hK => ?_) AllReadyH.nil
          · refine step_alloc30 rfl (by rfl) ?_
            intro g9 rw120 hg hw
            have RK120 : Hid (Wb w rw120 q A' cap' ps l k s x y N1) := Lib.hid (by subst hw; exact RK119.out.alloc _)
            have RG8_120 : Hid (Nb N1 rw120 g8 32 (kl zk).toArray) := Lib.hid (by subst hw; exact RG8_119.out.alloc _)
            have RG9_120 : Hid (Nb N1 rw120 g9 32 (kl zk).toArray) := Lib.hid ⟨by subst hg; exact RK119.out.sz, by subst hw hg; exact Blk.new _ _ _⟩
            have RNE : Hid (g8 ≠ g9) := Lib.hid (by have h1 := RG8_119.out.blk.lt; subst hg; omega)
            clear hg hw hHeld
            refine hK.out _ _ ⟨RK120.out.tw.tw_.2.1, RK120.out.tw.tw_.2.2⟩ (fun hHeld => ?_)
            clear hK K
            try simp only [Act.put, List.getElem_toArray, List.getElem_cons_succ, List.getElem_cons_zero, List.setIfInBounds_toArray, List.set_cons_zero, List.set_cons_succ]
            refine wpAnyH_ready (rs := [10]) (by kernel_rfl) (by simp) ?_
            refine AllReadyH.cons (by rfl) (fun K hK => ?_) AllReadyH.nil
            refine step_store_big RG8_120.out.blk rfl (.tmp 8) (.tmp 39) (ty := 32) (l := kl a) rfl (by rfl) (by rfl) size30 rfl (kl_one a) ?_
            have SK := Lib.hid (RK120.out.set RG8_120.out.ge (kl a).toArray)
            have S8 := Lib.hid (RG8_120.out.put (kl a).toArray)
            have S9 := Lib.hid (RG9_120.out.set (Ne.symm RNE.out) (kl a).toArray)
            generalize rw120.setRow g8 (kl a).toArray = SW at SK S8 S9 ⊢
            refine hK.out _ _ ⟨SK.out.tw.tw_.2.1, SK.out.tw.tw_.2.2⟩ (fun hHeld => ?_)
            clear hK K
            try simp only [Act.put, List.getElem_toArray, List.getElem_cons_succ, List.getElem_cons_zero]
            refine wpAnyH_ready (rs := [11]) (by kernel_rfl) (by simp) ?_
            refine AllReadyH.cons (by rfl) (fun K hK => ?_) AllReadyH.nil
            refine step_store_big S9.out.blk rfl (.tmp 9) (.tmp 43) (ty := 32) (l := kl b) rfl (by rfl) (by rfl) size30 rfl (kl_one b) ?_
            have UK := Lib.hid (SK.out.set S9.out.ge (kl b).toArray)
            have U8 := Lib.hid (S8.out.set RNE.out (kl b).toArray)
            have U9 := Lib.hid (S9.out.put (kl b).toArray)
            generalize SW.setRow g9 (kl b).toArray = UW at UK U8 U9 ⊢
            refine hK.out _ _ ⟨UK.out.tw.tw_.2.1, UK.out.tw.tw_.2.2⟩ (fun hHeld => ?_)
            clear hK K
            try simp only [Act.put, List.getElem_toArray, List.getElem_cons_succ, List.getElem_cons_zero]
            refine wpAnyH_done (by kernel_rfl) ?_ _
            refine OnlyN.normal ?_
            exact ⟨g8, g9, rfl, rfl, UK.out, U8.out, U9.out⟩
        · refine step_alloc30 rfl (by rfl) ?_
          intro g9 rw121 hg hw
          have RK121 : Hid (Wb w rw121 q A' cap' ps l k s x y N1) := Lib.hid (by subst hw; exact RK118.out.alloc _)
          have RG8_121 : Hid (Nb N1 rw121 g8 32 (kl zk).toArray) := Lib.hid (by subst hw; exact RG8_118.out.alloc _)
          have RG9_121 : Hid (Nb N1 rw121 g9 32 (kl zk).toArray) := Lib.hid ⟨by subst hg; exact RK118.out.sz, by subst hw hg; exact Blk.new _ _ _⟩
          have RNE : Hid (g8 ≠ g9) := Lib.hid (by have h1 := RG8_118.out.blk.lt; subst hg; omega)
          clear hg hw hHeld
          refine hK.out _ _ ⟨RK121.out.tw.tw_.2.1, RK121.out.tw.tw_.2.2⟩ (fun hHeld => ?_)
          clear hK K
          try simp only [Act.put, List.getElem_toArray, List.getElem_cons_succ, List.getElem_cons_zero, List.setIfInBounds_toArray, List.set_cons_zero, List.set_cons_succ]
          refine wpAnyH_ready (rs := [7]) (by kernel_rfl) (by simp) ?_
          refine AllReadyH.cons (by rfl) (fun K hK => ?_) AllReadyH.nil
          · go_simp
            refine (HPB.out _ RK121.out).mono ?_
            rintro e_ rw122 ⟨rfl, c_⟩
            have RK122 := Lib.hid (RK121.out.below c_)
            have RG8_122 := Lib.hid (RG8_121.out.below c_)
            have RG9_122 := Lib.hid (RG9_121.out.below c_)
            clear c_ hHeld
            go_wp2_with fail
            refine hK.out _ _ ⟨RK122.out.tw.tw_.2.1, RK122.out.tw.tw_.2.2⟩ (fun hHeld => ?_)
            clear hK K
            try simp only [Act.put, List.getElem_toArray, List.getElem_cons_succ, List.getElem_cons_zero, List.setIfInBounds_toArray, List.set_cons_zero, List.set_cons_succ]
            refine wpAnyH_ready (rs := [10]) (by kernel_rfl) (by simp) ?_
            refine AllReadyH.cons (by rfl) (fun K hK => ?_) AllReadyH.nil
            refine step_store_big RG8_122.out.blk rfl (.tmp 8) (.tmp 39) (ty := 32) (l := kl a) rfl (by rfl) (by rfl) size30 rfl (kl_one a) ?_
            have SK := Lib.hid (RK122.out.set RG8_122.out.ge (kl a).toArray)
            have S8 := Lib.hid (RG8_122.out.put (kl a).toArray)
            have S9 := Lib.hid (RG9_122.out.set (Ne.symm RNE.out) (kl a).toArray)
            generalize rw122.setRow g8 (kl a).toArray = SW at SK S8 S9 ⊢
            refine hK.out _ _ ⟨SK.out.tw.tw_.2.1, SK.out.tw.tw_.2.2⟩ (fun hHeld => ?_)
            clear hK K
            try simp only [Act.put, List.getElem_toArray, List.getElem_cons_succ, List.getElem_cons_zero]
            refine wpAnyH_ready (rs := [11]) (by kernel_rfl) (by simp) ?_
            refine AllReadyH.cons (by rfl) (fun K hK => ?_) AllReadyH.nil
            refine step_store_big S9.out.blk rfl (.tmp 9) (.tmp 43) (ty := 32) (l := kl b) rfl (by rfl) (by rfl) size30 rfl (kl_one b) ?_
            have UK := Lib.hid (SK.out.set S9.out.ge (kl b).toArray)
            have U8 := Lib.hid (S8.out.set RNE.out (kl b).toArray)
            have U9 := Lib.hid (S9.out.put (kl b).toArray)
            generalize SW.setRow g9 (kl b).toArray = UW at UK U8 U9 ⊢
            refine hK.out _ _ ⟨UK.out.tw.tw_.2.1, UK.out.tw.tw_.2.2⟩ (fun hHeld => ?_)
            clear hK K
            try simp only [Act.put, List.getElem_toArray, List.getElem_cons_succ, List.getElem_cons_zero]
            refine wpAnyH_done (by kernel_rfl) ?_ _
            refine OnlyN.normal ?_
            exact ⟨g8, g9, rfl, rfl, UK.out, U8.out, U9.out⟩
      · refine step_alloc30 rfl (by rfl) ?_
        intro g9 rw123 hg hw
        have RK123 : Hid (Wb w rw123 q A' cap' ps l k s x y N1) := Lib.hid (by subst hw; exact RK117.out.alloc _)
        have RG8_123 : Hid (Nb N1 rw123 g8 32 (kl zk).toArray) := Lib.hid (by subst hw; exact RG8_117.out.alloc _)
        have RG9_123 : Hid (Nb N1 rw123 g9 32 (kl zk).toArray) := Lib.hid ⟨by subst hg; exact RK117.out.sz, by subst hw hg; exact Blk.new _ _ _⟩
        have RNE : Hid (g8 ≠ g9) := Lib.hid (by have h1 := RG8_117.out.blk.lt; subst hg; omega)
        clear hg hw hHeld
        refine hK.out _ _ ⟨RK123.out.tw.tw_.2.1, RK123.out.tw.tw_.2.2⟩ (fun hHeld => ?_)
        clear hK K
        try simp only [Act.put, List.getElem_toArray, List.getElem_cons_succ, List.getElem_cons_zero, List.setIfInBounds_toArray, List.set_cons_zero, List.set_cons_succ]
        refine wpAnyH_ready (rs := [3]) (by kernel_rfl) (by simp) ?_
        refine AllReadyH.cons (by rfl) (fun K hK => ?_) AllReadyH.nil
        · go_simp
          refine (HPA.out _ RK123.out).mono ?_
          rintro e_ rw124 ⟨rfl, c_⟩
          have RK124 := Lib.hid (RK123.out.below c_)
          have RG8_124 := Lib.hid (RG8_123.out.below c_)
          have RG9_124 := Lib.hid (RG9_123.out.below c_)
          clear c_ hHeld
          go_wp2_with fail
          refine hK.out _ _ ⟨RK124.out.tw.tw_.2.1, RK124.out.tw.tw_.2.2⟩ (fun hHeld => ?_)
          clear hK K
          try simp only [Act.put, List.getElem_toArray, List.getElem_cons_succ, List.getElem_cons_zero, List.setIfInBounds_toArray, List.set_cons_zero, List.set_cons_succ]
          refine wpAnyH_ready (rs := [7]) (by kernel_rfl) (by simp) ?_
          refine AllReadyH.cons (by rfl) (fun K hK => ?_) AllReadyH.nil
          · go_simp
            refine (HPB.out _ RK124.out).mono ?_
            rintro e_ rw125 ⟨rfl, c_⟩
            have RK125 := Lib.hid (RK124.out.below c_)
            have RG8_125 := Lib.hid (RG8_124.out.below c_)
            have RG9_125 := Lib.hid (RG9_124.out.below c_)
            clear c_ hHeld
            go_wp2_with fail
            refine hK.out _ _ ⟨RK125.out.tw.tw_.2.1, RK125.out.tw.tw_.2.2⟩ (fun hHeld => ?_)
            clear hK K
            try simp only [Act.put, List.getElem_toArray, List.getElem_cons_succ, List.getElem_cons_zero, List.setIfInBounds_toArray, List.set_cons_zero, List.set_cons_succ]
            refine wpAnyH_ready (rs := [10]) (by kernel_rfl) (by simp) ?_
            refine AllReadyH.cons (by rfl) (fun K hK => ?_) AllReadyH.nil
            refine step_store_big RG8_125.out.blk rfl (.tmp 8) (.tmp 39) (ty := 32) (l := kl a) rfl (by rfl) (by rfl) size30 rfl (kl_one a) ?_
            have SK := Lib.hid (RK125.out.set RG8_125.out.ge (kl a).toArray)
            have S8 := Lib.hid (RG8_125.out.put (kl a).toArray)
            have S9 := Lib.hid (RG9_125.out.set (Ne.symm RNE.out) (kl a).toArray)
            generalize rw125.setRow g8 (kl a).toArray = SW at SK S8 S9 ⊢
            refine hK.out _ _ ⟨SK.out.tw.tw_.2.1, SK.out.tw.tw_.2.2⟩ (fun hHeld => ?_)
            clear hK K
            try simp only [Act.put, List.getElem_toArray, List.getElem_cons_succ, List.getElem_cons_zero]
            refine wpAnyH_ready (rs := [11]) (by kernel_rfl) (by simp) ?_
            refine AllReadyH.cons (by rfl) (fun K hK => ?_) AllReadyH.nil
            refine step_store_big S9.out.blk rfl (.tmp 9) (.tmp 43) (ty := 32) (l := kl b) rfl (by rfl) (by rfl) size30 rfl (kl_one b) ?_
            have UK := Lib.hid (SK.out.set S9.out.ge (kl b).toArray)
            have U8 := Lib.hid (S8.out.set RNE.out (kl b).toArray)
            have U9 := Lib.hid (S9.out.put (kl b).toArray)
            generalize SW.setRow g9 (kl b).toArray = UW at UK U8 U9 ⊢
            refine hK.out _ _ ⟨UK.out.tw.tw_.2.1, UK.out.tw.tw_.2.2⟩ (fun hHeld => ?_)
            clear hK K
            try simp only [Act.put, List.getElem_toArray, List.getElem_cons_succ, List.getElem_cons_zero]
            refine wpAnyH_done (by kernel_rfl) ?_ _
            refine OnlyN.normal ?_
            exact ⟨g8, g9, rfl, rfl, UK.out, U8.out, U9.out⟩
    · refine step_alloc30 rfl (by rfl) ?_
      intro g9 rw126 hg hw
      have RK126 : Hid (Wb w rw126 q A' cap' ps l k s x y N1) := Lib.hid (by subst hw; exact HW2.out.drew.alloc _)
      have RG9_126 : Hid (Nb N1 rw126 g9 32 (kl zk).toArray) := Lib.hid ⟨by subst hg; exact HW2.out.drew.sz, by subst hw hg; exact Blk.new _ _ _⟩
      clear hg hw hHeld
      refine hK.out _ _ ⟨RK126.out.tw.tw_.2.1, RK126.out.tw.tw_.2.2⟩ (fun hHeld => ?_)
      clear hK K
      try simp only [Act.put, List.getElem_toArray, List.getElem_cons_succ, List.getElem_cons_zero, List.setIfInBounds_toArray, List.set_cons_zero, List.set_cons_succ]
      refine wpAnyH_ready (rs := [3, 8]) (by kernel_rfl) (by simp) ?_
      refine AllReadyH.cons (by rfl) (fun K hK => ?_) (AllReadyH.cons (by rfl) (fun K hK => ?_) AllReadyH.nil)
      · go_simp
        refine (HPA.out _ RK126.out).mono ?_
        rintro e_ rw127 ⟨rfl, c_⟩
        have RK127 := Lib.hid (RK126.out.below c_)
        have RG9_127 := Lib.hid (RG9_126.out.below c_)
        clear c_ hHeld
        go_wp2_with fail
        refine hK.out _ _ ⟨RK127.out.tw.tw_.2.1, RK127.out.tw.tw_.2.2⟩ (fun hHeld => ?_)
        clear hK K
        try simp only [Act.put, List.getElem_toArray, List.getElem_cons_succ, List.getElem_cons_zero, List.setIfInBounds_toArray, List.set_cons_zero, List.set_cons_succ]
        refine wpAnyH_ready (rs := [7, 8]) (by kernel_rfl) (by simp) ?_
        refine AllReadyH.cons (by rfl) (fun K hK => ?_) (AllReadyH.cons (by rfl) (fun K hK => ?_) AllReadyH.nil)
        · go_simp
          refine (HPB.out _ RK127.out).mono ?_
          rintro e_ rw128 ⟨rfl, c_⟩
          have RK128 := Lib.hid (RK127.out.below c_)
          have RG9_128 := Lib.hid (RG9_127.out.below c_)
          clear c_ hHeld
          go_wp2_with fail
          refine hK.out _ _ ⟨RK128.out.tw.tw_.2.1, RK128.out.tw.tw_.2.2⟩ (fun hHeld => ?_)
          clear hK K
          try simp only [Act.put, List.getElem_toArray, List.getElem_cons_succ, List.getElem_cons_zero, List.setIfInBounds_toArray, List.set_cons_zero, List.set_cons_succ]
          refine wpAnyH_ready (rs := [8]) (by kernel_rfl) (by simp) ?_
          refine AllReadyH.cons (by rfl) (fun K hK => ?_) AllReadyH.nil
          · refine step_alloc30 rfl (by rfl) ?_
            intro g8 rw129 hg hw
            have RK129 : Hid (Wb w rw129 q A' cap' ps l k s x y N1) := Lib.hid (by subst hw; exact RK128.out.alloc _)
            have RG9_129 : Hid (Nb N1 rw129 g9 32 (kl zk).toArray) := Lib.hid (by subst hw; exact RG9_128.out.alloc _)
            have RG8_129 : Hid (Nb N1 rw129 g8 32 (kl zk).toArray) := Lib.hid ⟨by subst hg; exact RK128.out.sz, by subst hw hg; exact Blk.new _ _ _⟩
            have RNE : Hid (g8 ≠ g9) := Lib.hid (by have h1 := RG9_128.out.blk.lt; subst hg; omega)
            clear hg hw hHeld
            refine hK.out _ _ ⟨RK129.out.tw.tw_.2.1, RK129.out.tw.tw_.2.2⟩ (fun hHeld => ?_)
            clear hK K
            try simp only [Act.put, List.getElem_toArray, List.getElem_cons_succ, List.getElem_cons_zero, List.setIfInBounds_toArray, List.set_cons_zero, List.set_cons_succ]
            refine wpAnyH_ready (rs := [10]) (by kernel_rfl) (by simp) ?_
            refine AllReadyH.cons (by rfl) (fun K hK => ?_) AllReadyH.nil
            refine step_store_big RG8_129.out.blk rfl (.tmp 8) (.tmp 39) (ty := 32) (l := kl a) rfl (by rfl) (by rfl) size30 rfl (kl_one a) ?_
            have SK := Lib.hid (RK129.out.set RG8_129.out.ge (kl a).toArray)
            have S8 := Lib.hid (RG8_129.out.put (kl a).toArray)
            have S9 := Lib.hid (RG9_129.out.set (Ne.symm RNE.out) (kl a).toArray)
            generalize rw129.setRow g8 (kl a).toArray = SW at SK S8 S9 ⊢
            refine hK.out _ _ ⟨SK.out.tw.tw_.2.1, SK.out.tw.tw_.2.2⟩ (fun hHeld => ?_)
            clear hK K
            try simp only [Act.put, List.getElem_toArray, List.getElem_cons_succ, List.getElem_cons_zero]
            refine wpAnyH_ready (rs := [11]) (by kernel_rfl) (by simp) ?_
            refine AllReadyH.cons (by rfl) (fun K hK => ?_) AllReadyH.nil
            refine step_store_big S9.out.blk rfl (.tmp 9) (.tmp 43) (ty := 32) (l := kl b) rfl (by rfl) (by rfl) size30 rfl (kl_one b) ?_
            have UK := Lib.hid (SK.out.set S9.out.ge (kl b).toArray)
            have U8 := Lib.hid (S8.out.set RNE.out (kl b).toArray)
            have U9 := Lib.hid (S9.out.put (kl b).toArray)
            generalize SW.setRow g9 (kl b).toArray = UW at UK U8 U9 ⊢
            refine hK.out _ _ ⟨UK.out.tw.tw_.2.1, UK.out.tw.tw_.2.2⟩ (fun hHeld => ?_)
            clear hK K
            try simp only [Act.put, List.getElem_toArray, List.getElem_cons_succ, List.getElem_cons_zero]
            refine wpAnyH_done (by kernel_rfl) ?_ _
            refine OnlyN.normal ?_
            exact ⟨g8, g9, rfl, rfl, UK.out, U8.out, U9.out⟩
        · refine step_alloc30 rfl (by rfl) ?_
          intro g8 rw130 hg hw
          have RK130 : Hid (Wb w rw130 q A' cap' ps l k s x y N1) := Lib.hid (by subst hw; exact RK127.out.alloc _)
          have RG9_130 : Hid (Nb N1 rw130 g9 32 (kl zk).toArray) := Lib.hid (by subst hw; exact RG9_127.out.alloc _)
          have RG8_130 : Hid (Nb N1 rw130 g8 32 (kl zk).toArray) := Lib.hid ⟨by subst hg; exact RK127.out.sz, by subst hw hg; exact Blk.new _ _ _⟩
          have RNE : Hid (g8 ≠ g9) := Lib.hid (by have h1 := RG9_127.out.blk.lt; subst hg; omega)
          clear hg hw hHeld
          refine hK.out _ _ ⟨RK130.out.tw.tw_.2.1, RK130.out.tw.tw_.2.2⟩ (fun hHeld => ?_)
          clear hK K
          try simp only [Act.put, List.getElem_toArray, List.getElem_cons_succ, List.getElem_cons_zero, List.setIfInBounds_toArray, List.set_cons_zero, List.set_cons_succ]
          refine wpAnyH_ready (rs := [7]) (by kernel_rfl) (by simp) ?_
          refine AllReadyH.cons (by rfl) (fun K hK => ?_) AllReadyH.nil
          · go_simp
            refine (HPB.out _ RK130.out).mono ?_
            rintro e_ rw131 ⟨rfl, c_⟩
            have RK131 := Lib.hid (RK130.out.below c_)
            have RG9_131 := Lib.hid (RG9_130.out.below c_)
            have RG8_131 := Lib.hid (RG8_130.out.below c_)
            clear c_ hHeld
            go_wp2_with fail
            refine hK.out _ _ ⟨RK131.out.tw.tw_.2.1, RK131.out.tw.tw_.2.2⟩ (fun hHeld => ?_)
            clear hK K
            try simp only [Act.put, List.getElem_toArray, List.getElem_cons_succ, List.getElem_cons_zero, List.setIfInBounds_toArray, List.set_cons_zero, List.set_cons_succ]
            refine wpAnyH_ready (rs := [10]) (by kernel_rfl) (by simp) ?_
            refine AllReadyH.cons (by rfl) (fun K hK => ?_) AllReadyH.nil
            refine step_store_big RG8_131.out.blk rfl (.tmp 8) (.tmp 39) (ty := 32) (l := kl a) rfl (by rfl) (by rfl) size30 rfl (kl_one a) ?_
            have SK := Lib.hid (RK131.out.set RG8_131.out.ge (kl a).toArray)
            have S8 := Lib.hid (RG8_131.out.put (kl a).toArray)
            have S9 := Lib.hid (RG9_131.out.set (Ne.symm RNE.out) (kl a).toArray)
            generalize rw131.setRow g8 (kl a).toArray = SW at SK S8 S9 ⊢
            refine hK.out _ _ ⟨SK.out.tw.tw_.2.1, SK.out.tw.tw_.2.2⟩ (fun hHeld => ?_)
            clear hK K
            try simp only [Act.put, List.getElem_toArray, List.getElem_cons_succ, List.getElem_cons_zero]
            refine wpAnyH_ready (rs := [11]) (by kernel_rfl) (by simp) ?_
            refine AllReadyH.cons (by rfl) (fun K hK => ?_) AllReadyH.nil
            refine step_store_big S9.out.blk rfl (.tmp 9) (.tmp 43) (ty := 32) (l := kl b) rfl (by rfl) (by rfl) size30 rfl (kl_one b) ?_
            have UK := Lib.hid (SK.out.set S9.out.ge (kl b).toArray)
            have U8 := Lib.hid (S8.out.set RNE.out (kl b).toArray)
            have U9 := Lib.hid (S9.out.put (kl b).toArray)
            generalize SW.setRow g9 (kl b).toArray = UW at UK U8 U9 ⊢
            refine hK.out _ _ ⟨UK.out.tw.tw_.2.1, UK.out.tw.tw_.2.2⟩ (fun hHeld => ?_)
            clear hK K
            try simp only [Act.put, List.getElem_toArray, List.getElem_cons_succ, List.getElem_cons_zero]
            refine wpAnyH_done (by kernel_rfl) ?_ _
            refine OnlyN.normal ?_
            exact ⟨g8, g9, rfl, rfl, UK.out, U8.out, U9.out⟩
      · refine step_alloc30 rfl (by rfl) ?_
        intro g8 rw132 hg hw
        have RK132 : Hid (Wb w rw132 q A' cap' ps l k s x y N1) := Lib.hid (by subst hw; exact RK126.out.alloc _)
        have RG9_132 : Hid (Nb N1 rw132 g9 32 (kl zk).toArray) := Lib.hid (by subst hw; exact RG9_126.out.alloc _)
        have RG8_132 : Hid (Nb N1 rw132 g8 32 (kl zk).toArray) := Lib.hid ⟨by subst hg; exact RK126.out.sz, by subst hw hg; exact Blk.new _ _ _⟩
        have RNE : Hid (g8 ≠ g9) := Lib.hid (by have h1 := RG9_126.out.blk.lt; subst hg; omega)
        clear hg hw hHeld
        refine hK.out _ _ ⟨RK132.out.tw.tw_.2.1, RK132.out.tw.tw_.2.2⟩ (fun hHeld => ?_)
        clear hK K
        try simp only [Act.put, List.getElem_toArray, List.getElem_cons_succ, List.getElem_cons_zero, List.setIfInBounds_toArray, List.set_cons_zero, List.set_cons_succ]
        refine wpAnyH_ready (rs := [3]) (by kernel_rfl) (by simp) ?_
        refine AllReadyH.cons (by rfl) (fun K hK => ?_) AllReadyH.nil
        · go_simp
          refine (HPA.out _ RK132.out).mono ?_
          rintro e_ rw133 ⟨rfl, c_⟩
          have RK133 := Lib.hid (RK132.out.below c_)
          have RG9_133 := Lib.hid (RG9_132.out.below c_)
          have RG8_133 := Lib.hid (RG8_132.out.below c_)
          clear c_ hHeld
          go_wp2_with fail
          refine hK.out _ _ ⟨RK133.out.tw.tw_.2.1, RK133.out.tw.tw_.2.2⟩ (fun hHeld => ?_)
          clear hK K
          try simp only [Act.put, List.getElem_toArray, List.getElem_cons_succ, List.getElem_cons_zero, List.setIfInBounds_toArray, List.set_cons_zero, List.set_cons_succ]
          refine wpAnyH_ready (rs := [7]) (by kernel_rfl) (by simp) ?_
          refine AllReadyH.cons (by rfl) (fun K hK => ?_) AllReadyH.nil
          · go_simp
            refine (HPB.out _ RK133.out).mono ?_
            rintro e_ rw134 ⟨rfl, c_⟩
            have RK134 := Lib.hid (RK133.out.below c_)
            have RG9_134 := Lib.hid (RG9_133.out.below c_)
            have RG8_134 := Lib.hid (RG8_133.out.below c_)
            clear c_ hHeld
            go_wp2_with fail
            refine hK.out _ _ ⟨RK134.out.tw.tw_.2.1, RK134.out.tw.tw_.2.2⟩ (fun hHeld => ?_)
            clear hK K
            try simp only [Act.put, List.getElem_toArray, List.getElem_cons_succ, List.getElem_cons_zero, List.setIfInBounds_toArray, List.set_cons_zero, List.set_cons_succ]
            refine wpAnyH_ready (rs := [10]) (by kernel_rfl) (by simp) ?_
            refine AllReadyH.cons (by rfl) (fun K hK => ?_) AllReadyH.nil
            refine step_store_big RG8_134.out.blk rfl (.tmp 8) (.tmp 39) (ty := 32) (l := kl a) rfl (by rfl) (by rfl) size30 rfl (kl_one a) ?_
            have SK := Lib.hid (RK134.out.set RG8_134.out.ge (kl a).toArray)
            have S8 := Lib.hid (RG8_134.out.put (kl a).toArray)
            have S9 := Lib.hid (RG9_134.out.set (Ne.symm RNE.out) (kl a).toArray)
            generalize rw134.setRow g8 (kl a).toArray = SW at SK S8 S9 ⊢
            refine hK.out _ _ ⟨SK.out.tw.tw_.2.1, SK.out.tw.tw_.2.2⟩ (fun hHeld => ?_)
            clear hK K
            try simp only [Act.put, List.getElem_toArray, List.getElem_cons_succ, List.getElem_cons_zero]
            refine wpAnyH_ready (rs := [11]) (by kernel_rfl) (by simp) ?_
            refine AllReadyH.cons (by rfl) (fun K hK => ?_) AllReadyH.nil
            refine step_store_big S9.out.blk rfl (.tmp 9) (.tmp 43) (ty := 32) (l := kl b) rfl (by rfl) (by rfl) size30 rfl (kl_one b) ?_
            have UK := Lib.hid (SK.out.set S9.out.ge (kl b).toArray)
            have U8 := Lib.hid (S8.out.set RNE.out (kl b).toArray)
            have U9 := Lib.hid (S9.out.put (kl b).toArray)
            generalize SW.setRow g9 (kl b).toArray = UW at UK U8 U9 ⊢
            refine hK.out _ _ ⟨UK.out.tw.tw_.2.1, UK.out.tw.tw_.2.2⟩ (fun hHeld => ?_)
            clear hK K
            try simp only [Act.put, List.getElem_toArray, List.getElem_cons_succ, List.getElem_cons_zero]
            refine wpAnyH_done (by kernel_rfl) ?_ _
            refine OnlyN.normal ?_
            exact ⟨g8, g9, rfl, rfl, UK.out, U8.out, U9.out⟩
  rintro g8 g9 W3 ⟨hk3, h8, h9⟩
  have HW3 := Lib.hid hk3
  have H83 := Lib.hid h8
  have H93 := Lib.hid h9
  clear hk3 h8 h9 HW2
  simp only [Act.put, List.setIfInBounds_toArray, List.set_cons_zero, List.set_cons_succ]
  obtain ⟨t0, ⟨a0, a1, a2, a3, a4, a5⟩, b0, b1, b2, b3, b4, b5⟩ := HW3.out.tw.tw_
  obtain ⟨k0, k1, k2, k3, k4, k5⟩ := HW3.out.kk.six
  go_wp2_with (first
    | (go_at_call 15; refine (HPU.out _ HW3.out).mono ?_; rintro e w4 ⟨rfl, s4, f4⟩; have HW4 := Lib.hid ((HW3.out.fr s4 f4).alloc (.cells (kl r1).toArray 32)); clear s4 f4 t0 a0 a1 a2 a3 a4 a5 b0 b1 b2 b3 b4 b5 k0 k1 k2 k3 k4 k5)
    | (show wpList _ _ _ ({ dst := none, op := .store _ (.tmp 10) (.tmp 52), type := _, pos := _, after := _, guard := _ } :: _) _ _; refine wpList_store_new (l := kl r1) (l0 := kl zk) (ty := 32) rfl (.tmp 10) (.tmp 52) (by rfl) _ rfl (by rfl) (by rfl) size30 rfl (kl_one _) ?_)
    | (go_at_call 12; refine (same_n HW4.out.st HLN.out HN0.out HN'.out _ _ (HR.out.below HW4.out.bel)).mono ?_; rintro e w5 ⟨rfl, c5⟩; have HW5 := Lib.hid (HW4.out.below c5); clear c5)
    | (go_at_call 10; refine (known_any _ (HT.out.below HW5.out.bel)).mono ?_; rintro e v9 ⟨rfl, b_⟩; have B9 := Lib.hid (HW5.out.bel.trans (b_.mono (HW5.out.bel).size)); clear b_))
  go_ret
  exact ⟨rfl, B9.out⟩
set_option maxRecDepth 100000 in
set_option maxHeartbeats 16000000 in
theorem walk_yes (w : World) (hT : Tab w) (A : Option Addr) (l : List Oj) (cap : Nat) (k : Ky) (i : Nat) (x y : Ky) (hr : RdO w A l) (h : madeP l) (hy : y.may l.length) (hi : i < 16) (j : Nat) (hko : k.o = (j : Int)) (r1 a b : Ky) (l1 l2 : List Oj) (M N : List Ky) (u1 u2 : Oj)
    (ha : prepd l x = a) (hb : prepd l y = b) (hp : putA l k (i : Int) x = (l1, r1, 0)) (ho1 : okAll l1.length l1) (hl1 : l1.length = l.length) (hm : AskD l1 k j u1 ∧ gots l1 k u1 = M) (hg : getA l1 k (i : Int) = (a, 0)) (hp2 : putA l1 k (i : Int) y = (l2, a, 0)) (hl2 : l2.length = l.length) (hn' : AskD l2 k j u2 ∧ gots l2 k u2 = N) (hpa : prepd l2 a = a)
    (hMN : ∀ t, t < 16 → t ≠ i → ∃ z, M[t]? = some z ∧ N[t]? = some z) (hNi : N[i]? = some b) (hot : ∀ t, t < l.length → t ≠ j → l2[t]? = l[t]?) :
    Calls Tryd.prog 6 #[.slice A l.length cap, k.val, .agg (twc (i : Int) x y)] w fun e w' => e = .returned (.bool true) ∧ Below w.heap.size w w' := by
  have HT := Lib.hid hT
  have HR := Lib.hid hr
  obtain ⟨n, hn⟩ : ∃ n, l.length = n := ⟨_, rfl⟩
  have HN := Lib.hid (show 0 < l.length by have := h.2.1; omega)
  have HN0 := Lib.hid (show 0 < n by have := h.2.1; omega)
  have HN' := Lib.hid (show n ≤ 1000 by have := h.1; omega)
  have hn20 : n ≤ 20 := hn ▸ h.1
  have HMD := Lib.hid (fun (W : World) (hT : Tab W) (hr : RdO W A l) => hn ▸ made_yes (cap := cap) hT hr h)
  have HOK := Lib.hid h.2.2.2
  have HLN := Lib.hid hn
  have HV := Lib.hid (hn ▸ hy : y.may n)
  have HA_ := Lib.hid ha
  have HB_ := Lib.hid hb
  have HP := Lib.hid hp
  have HG_ := Lib.hid hg
  have HP2 := Lib.hid hp2
  have HM_ := Lib.hid hm
  have HN_ := Lib.hid hn'
  have HPA2 := Lib.hid hpa
  have HO1 := Lib.hid ho1
  have HL1 := Lib.hid (show 0 < l1.length by rw [hl1]; exact HN.out)
  have HL2 := Lib.hid (show 0 < l2.length by rw [hl2]; exact HN.out)
  have HL2n := Lib.hid (show l2.length = n by rw [hl2]; exact hn)
  have HMN := Lib.hid hMN
  have HNB := Lib.hid hNi
  have HOT := Lib.hid hot
  have HKO := Lib.hid hko
  have hi16 : (i : Int) < 16 := by omega
  have hii : ((i : Int) != (i : Int)) = false := by simp
  have HI16 := Lib.hid hi
  have hz34 := z34
  have hbo := oz_len
  have MP := Lib.hid True.intro
  have MA := Lib.hid True.intro
  have HB := Lib.hid (((Below.refl w.heap.size w).alloc (Nat.le_refl _) (.cells (kc k.k k.o k.c k.l k.r k.v) 32)).alloc (by simp) (.cells (twc (i : Int) x y) 50))
  have HK0 := Lib.hid ((Blk.new w 32 (kc k.k k.o k.c k.l k.r k.v)).alloc (.cells (twc (i : Int) x y) 50))
  have HY0 := Lib.hid (Blk.new_of (w.alloc (.cells (kc k.k k.o k.c k.l k.r k.v) 32)) 50 (twc (i : Int) x y) (g := w.heap.size + 1) (by simp))
  rw [hn]
  clear hT hr h hy hn hp ha hb ho1 hl1 hm hg hp2 hl2 hn' hpa hMN hNi hot hko hi
  go_enter Tryd.func6, Tryd.ntmps6
  go_wp2_with (first
    | (go_at_call 9; refine (HMD.out _ (HT.out.below HB.out) ((HR.out.alloc _).alloc _)).mono ?_; rintro e w1 ⟨q, rfl, hq, ⟨A', cap', ps, hs⟩, c1⟩; have HW1 : Hid (Wb w w1 q A' cap' ps l k (i : Int) x y w1.heap.size) := Lib.hid ⟨HB.out.trans (c1.mono HB.out.size), hs, Nat.lt_of_lt_of_le HY0.out.lt hq, fun i hi => (hs.lt i hi).2, (hs.lt q (.inl rfl)).2, Nat.le_refl _, (show Blk _ _ _ (kl k).toArray from HK0.out.keep c1), HY0.out.keep c1⟩; clear c1 hs hq; obtain ⟨t0, ⟨a0, a1, a2, a3, a4, a5⟩, b0, b1, b2, b3, b4, b5⟩ := HW1.out.tw.tw_)
    | (go_at_call 18; refine (rmay_y n cap _ y HV.out _).mono ?_; rintro e w2 ⟨rfl, c2⟩; have HW2 := Lib.hid (HW1.out.below c2); clear c2 t0 a0 a1 a2 a3 a4 a5 b0 b1 b2 b3 b4 b5))
  generalize w1.heap.size = N1 at HW2
  clear HW1 HB HK0 HY0
  have HPA := Lib.hid (show ∀ W, Wb w W q A' cap' ps l k (i : Int) x y N1 → Calls Tryd.prog 19 #[pv q, x.val] W fun e w' => e = .returned a.val ∧ Below W.heap.size W w' from fun W hW => HA_.out ▸ prep_at hW.st HN.out (HT.out.below hW.bel) x)
  have HPB := Lib.hid (show ∀ W, Wb w W q A' cap' ps l k (i : Int) x y N1 → Calls Tryd.prog 19 #[pv q, y.val] W fun e w' => e = .returned b.val ∧ Below W.heap.size W w' from fun W hW => HB_.out ▸ prep_at hW.st HN.out (HT.out.below hW.bel) y)
  have HPU := Lib.hid (show ∀ W, Wb w W q A' cap' ps l k (i : Int) x y N1 → Calls Tryd.prog 15 #[pv q, k.val, .int .i64 (i : Int), x.val] W fun e w' => e = .returned (.tuple #[r1.val, .int .i64 0]) ∧ StAt w' q q A' cap' ps l1 ∧ Fr (fun i => i ∈ ps) W w' from fun W hW => by
    have := put_all hW.st HOK.out HN.out (HT.out.below hW.bel) k i x
    rw [HP.out] at this
    exact this)
  have HAL := Lib.hid (show ∀ W, Wb w W q A' cap' ps l1 k (i : Int) x y N1 → Calls Tryd.prog 20 #[pv q, k.val] W fun e w' => ∃ b, e = .returned (.tuple #[.slice (some ⟨b, 0, none⟩) 16 16, .int .i64 0]) ∧ W.heap.size ≤ b ∧ Blk w' b 95 (kcs M).toArray ∧ Below W.heap.size W w' from fun W hW => by
    have := all_is hW.st HL1.out (HT.out.below hW.bel) k HM_.out.1
    rw [HM_.out.2] at this
    exact this)
  have HGE := Lib.hid (show ∀ W, Wb w W q A' cap' ps l1 k (i : Int) x y N1 → Calls Tryd.prog 14 #[pv q, k.val, .int .i64 (i : Int)] W fun e w' => e = .returned (.tuple #[a.val, .int .i64 0]) ∧ Below W.heap.size W w' from fun W hW => by
    have := get_all hW.st HL1.out (HT.out.below hW.bel) k i
    rw [HG_.out] at this
    exact this)
  have HPU2 := Lib.hid (show ∀ W, Wb w W q A' cap' ps l1 k (i : Int) x y N1 → Calls Tryd.prog 15 #[pv q, k.val, .int .i64 (i : Int), y.val] W fun e w' => e = .returned (.tuple #[a.val, .int .i64 0]) ∧ StAt w' q q A' cap' ps l2 ∧ Fr (fun i => i ∈ ps) W w' from fun W hW => by
    have := put_all hW.st HO1.out HL1.out (HT.out.below hW.bel) k i y
    rw [HP2.out] at this
    exact this)
  have HAL2 := Lib.hid (show ∀ W, Wb w W q A' cap' ps l2 k (i : Int) x y N1 → Calls Tryd.prog 20 #[pv q, k.val] W fun e w' => ∃ b, e = .returned (.tuple #[.slice (some ⟨b, 0, none⟩) 16 16, .int .i64 0]) ∧ W.heap.size ≤ b ∧ Blk w' b 95 (kcs N).toArray ∧ Below W.heap.size W w' from fun W hW => by
    have := all_is hW.st HL2.out (HT.out.below hW.bel) k HN_.out.1
    rw [HN_.out.2] at this
    exact this)
  have HPR := Lib.hid (show ∀ W, Wb w W q A' cap' ps l2 k (i : Int) x y N1 → Calls Tryd.prog 19 #[pv q, a.val] W fun e w' => e = .returned a.val ∧ Below W.heap.size W w' from fun W hW => by
    have := prep_at hW.st HL2.out (HT.out.below hW.bel) a
    rw [HPA2.out] at this
    exact this)
  have HSG := Lib.hid (show ∀ W, Wb w W q A' cap' ps l2 k (i : Int) x y N1 → ∀ (t : Nat) (z : Oj), l2[t]? = some z → Calls Tryd.prog 21 #[pv q, .int .i64 (t : Int)] W fun e w' => e = .returned (.tuple #[z.val, .int .i64 0]) ∧ Below W.heap.size W w' from fun W hW t z hz => by
    obtain ⟨ht, rfl⟩ := List.getElem?_eq_some_iff.1 hz
    exact get_at hW.st t ht)
  refine region_two (fun ac g8 g9 => (((((((((ac.put (some 36) (pv q)).put (some 37) (.pointer (some ⟨w.heap.size + 1, 1, none⟩))).put (some 38) x.val).put (some 39) a.val).put (some 40) (pv q)).put (some 41) (.pointer (some ⟨w.heap.size + 1, 7, none⟩))).put (some 42) y.val).put (some 43) b.val).put (some 8) (.pointer (some ⟨g8, 0, none⟩))).put (some 9) (.pointer (some ⟨g9, 0, none⟩))) (fun g8 g9 W => Wb w W q A' cap' ps l k (i : Int) x y N1 ∧ Nb N1 W g8 32 (kl a).toArray ∧ Nb N1 W g9 32 (kl b).toArray) ?mkTwo ?mkRest
  case mkTwo =>
    refine wp_region_only (S := fun W => KeyAt W (w.heap.size + 1) 1 x ∧ KeyAt W (w.heap.size + 1) 7 y) (by kernel_rfl) ⟨HW2.out.drew.tw.tw_.2.1, HW2.out.drew.tw.tw_.2.2⟩ (fun hHeld => ?_)
    refine wpAnyH_take (i := 0) (v := ?v56) rfl (by kernel_rfl) (by kernel_rfl) (by kernel_rfl) (fun _ _ _ h => h) (Or.inl ⟨by rfl, ?hy56⟩) hHeld ?rest56
    case hy56 =>
      intro w' hSw
      try dsimp only at hSw
      go_simp
      first | done | with_reducible rfl
    try simp only [Act.put, List.getElem_toArray, List.getElem_cons_zero, List.setIfInBounds_toArray, List.set_cons_zero, List.set_cons_succ]
    refine wpAnyH_take (i := 1) (v := ?v57) rfl (by kernel_rfl) (by kernel_rfl) (by kernel_rfl) (fun _ _ _ h => h) (Or.inl ⟨by rfl, ?hy57⟩) hHeld ?rest57
    case hy57 =>
      intro w' hSw
      try dsimp only at hSw
      go_simp
      first | done | with_reducible rfl
    try simp only [Act.put, List.getElem_toArray, List.getElem_cons_succ, List.getElem_cons_zero, List.setIfInBounds_toArray, List.set_cons_zero, List.set_cons_succ]
    refine wpAnyH_take (i := 2) rfl (by kernel_rfl) (by kernel_rfl) (by kernel_rfl) (fun _ _ _ h => h) (y_ky (by rfl) (.tmp 37) (by rfl) (w.heap.size + 1) 1 (by rfl) x (fun _ h => h.1)) hHeld ?_
    try simp only [Act.put, List.getElem_toArray, List.getElem_cons_succ, List.getElem_cons_zero, List.setIfInBounds_toArray, List.set_cons_zero, List.set_cons_succ]
    refine wpAnyH_take (i := 4) (v := ?v58) rfl (by kernel_rfl) (by kernel_rfl) (by kernel_rfl) (fun _ _ _ h => h) (Or.inl ⟨by rfl, ?hy58⟩) hHeld ?rest58
    case hy58 =>
      intro w' hSw
      try dsimp only at hSw
      go_simp
      first | done | with_reducible rfl
    try simp only [Act.put, List.getElem_toArray, List.getElem_cons_succ, List.getElem_cons_zero, List.setIfInBounds_toArray, List.set_cons_zero, List.set_cons_succ]
    refine wpAnyH_take (i := 5) (v := ?v59) rfl (by kernel_rfl) (by kernel_rfl) (by kernel_rfl) (fun _ _ _ h => h) (Or.inl ⟨by rfl, ?hy59⟩) hHeld ?rest59
    case hy59 =>
      intro w' hSw
      try dsimp only at hSw
      go_simp
      first | done | with_reducible rfl
    try simp only [Act.put, List.getElem_toArray, List.getElem_cons_succ, List.getElem_cons_zero, List.setIfInBounds_toArray, List.set_cons_zero, List.set_cons_succ]
    refine wpAnyH_take (i := 6) rfl (by kernel_rfl) (by kernel_rfl) (by kernel_rfl) (fun _ _ _ h => h) (y_ky (by rfl) (.tmp 41) (by rfl) (w.heap.size + 1) 7 (by rfl) y (fun _ h => h.2)) hHeld ?_
    try simp only [Act.put, List.getElem_toArray, List.getElem_cons_succ, List.getElem_cons_zero, List.setIfInBounds_toArray, List.set_cons_zero, List.set_cons_succ]
    refine wpAnyH_ready (rs := [3, 8, 9]) (by kernel_rfl) (by simp) ?_
    refine AllReadyH.cons (by rfl) (fun K hK => ?_) (AllReadyH.cons (by rfl) (fun K hK => ?_) (AllReadyH.cons (by rfl) (fun K hK => ?_) AllReadyH.nil))
    · go_simp
      refine (HPA.out _ HW2.out.drew).mono ?_
      rintro e_ rw235 ⟨rfl, c_⟩
      have RK235 := Lib.hid (HW2.out.drew.below c_)
      clear c_ hHeld
      go_wp2_with fail
      refine hK.out _ _ ⟨RK235.out.tw.tw_.2.1, RK235.out.tw.tw_.2.2⟩ (fun hHeld => ?_)
      clear hK K
      try simp only [Act.put, List.getElem_toArray, List.getElem_cons_succ, List.getElem_cons_zero, List.setIfInBounds_toArray, List.set_cons_zero, List.set_cons_succ]
      refine wpAnyH_ready (rs := [7, 8, 9]) (by kernel_rfl) (by simp) ?_
      refine AllReadyH.cons (by rfl) (fun K hK => ?_) (AllReadyH.cons (by rfl) (fun K hK => ?_) (AllReadyH.cons (by rfl) (fun K hK => ?_) AllReadyH.nil))
      · go_simp
        refine (HPB.out _ RK235.out).mono ?_
        rintro e_ rw236 ⟨rfl, c_⟩
        have RK236 := Lib.hid (RK235.out.below c_)
        clear c_ hHeld
        go_wp2_with fail
        refine hK.out _ _ ⟨RK236.out.tw.tw_.2.1, RK236.out.tw.tw_.2.2⟩ (fun hHeld => ?_)
        clear hK K
        try simp only [Act.put, List.getElem_toArray, List.getElem_cons_succ, List.getElem_cons_zero, List.setIfInBounds_toArray, List.set_cons_zero, List.set_cons_succ]
        refine wpAnyH_ready (rs := [8, 9]) (by kernel_rfl) (by simp) ?_
        refine AllReadyH.cons (by rfl) (fun K hK => ?_) (AllReadyH.cons (by rfl) (fun K hK => ?_) AllReadyH.nil)
        · refine step_alloc30 rfl (by rfl) ?_
          intro g8 rw237 hg hw
          have RK237 : Hid (Wb w rw237 q A' cap' ps l k (i : Int) x y N1) := Lib.hid (by subst hw; exact RK236.out.alloc _)
          have RG8_237 : Hid (Nb N1 rw237 g8 32 (kl zk).toArray) := Lib.hid ⟨by subst hg; exact RK236.out.sz, by subst hw hg; exact Blk.new _ _ _⟩
          clear hg hw hHeld
          refine hK.out _ _ ⟨RK237.out.tw.tw_.2.1, RK237.out.tw.tw_.2.2⟩ (fun hHeld => ?_)
          clear hK K
          try simp only [Act.put, List.getElem_toArray, List.getElem_cons_succ, List.getElem_cons_zero, List.setIfInBounds_toArray, List.set_cons_zero, List.set_cons_succ]
          refine wpAnyH_ready (rs := [9]) (by kernel_rfl) (by simp) ?_
          refine AllReadyH.cons (by rfl) (fun K hK => ?_) AllReadyH.nil
          · refine step_alloc30 rfl (by rfl) ?_
            intro g9 rw238 hg hw
            have RK238 : Hid (Wb w rw238 q A' cap' ps l k (i : Int) x y N1) := Lib.hid (by subst hw; exact RK237.out.alloc _)
            have RG8_238 : Hid (Nb N1 rw238 g8 32 (kl zk).toArray) := Lib.hid (by subst hw; exact RG8_237.out.alloc _)
            have RG9_238 : Hid (Nb N1 rw238 g9 32 (kl zk).toArray) := Lib.hid ⟨by subst hg; exact RK237.out.sz, by subst hw hg; exact Blk.new _ _ _⟩
            have RNE : Hid (g8 ≠ g9) := Lib.hid (by have h1 := RG8_237.out.blk.lt; subst hg; omega)
            clear hg hw hHeld
            refine hK.out _ _ ⟨RK238.out.tw.tw_.2.1, RK238.out.tw.tw_.2.2⟩ (fun hHeld => ?_)
            clear hK K
            try simp only [Act.put, List.getElem_toArray, List.getElem_cons_succ, List.getElem_cons_zero, List.setIfInBounds_toArray, List.set_cons_zero, List.set_cons_succ]
            refine wpAnyH_ready (rs := [10]) (by kernel_rfl) (by simp) ?_
            refine AllReadyH.cons (by rfl) (fun K hK => ?_) AllReadyH.nil
            refine step_store_big RG8_238.out.blk rfl (.tmp 8) (.tmp 39) (ty := 32) (l := kl a) rfl (by rfl) (by rfl) size30 rfl (kl_one a) ?_
            have SK := Lib.hid (RK238.out.set RG8_238.out.ge (kl a).toArray)
            have S8 := Lib.hid (RG8_238.out.put (kl a).toArray)
            have S9 := Lib.hid (RG9_238.out.set (Ne.symm RNE.out) (kl a).toArray)
            generalize rw238.setRow g8 (kl a).toArray = SW at SK S8 S9 ⊢
            refine hK.out _ _ ⟨SK.out.tw.tw_.2.1, SK.out.tw.tw_.2.2⟩ (fun hHeld => ?_)
            clear hK K
            try simp only [Act.put, List.getElem_toArray, List.getElem_cons_succ, List.getElem_cons_zero]
            refine wpAnyH_ready (rs := [11]) (by kernel_rfl) (by simp) ?_
            refine AllReadyH.cons (by rfl) (fun K hK => ?_) AllReadyH.nil
            refine step_store_big S9.out.blk rfl (.tmp 9) (.tmp 43) (ty := 32) (l := kl b) rfl (by rfl) (by rfl) size30 rfl (kl_one b) ?_
            have UK := Lib.hid (SK.out.set S9.out.ge (kl b).toArray)
            have U8 := Lib.hid (S8.out.set RNE.out (kl b).toArray)
            have U9 := Lib.hid (S9.out.put (kl b).toArray)
            generalize SW.setRow g9 (kl b).toArray = UW at UK U8 U9 ⊢
            refine hK.out _ _ ⟨UK.out.tw.tw_.2.1, UK.out.tw.tw_.2.2⟩ (fun hHeld => ?_)
            clear hK K
            try simp only [Act.put, List.getElem_toArray, List.getElem_cons_succ, List.getElem_cons_zero]
            refine wpAnyH_done (by kernel_rfl) ?_ _
            refine OnlyN.normal ?_
            exact ⟨g8, g9, rfl, rfl, UK.out, U8.out, U9.out⟩
        · refine step_alloc30 rfl (by rfl) ?_
          intro g9 rw239 hg hw
          have RK239 : Hid (Wb w rw239 q A' cap' ps l k (i : Int) x y N1) := Lib.hid (by subst hw; exact RK236.out.alloc _)
          have RG9_239 : Hid (Nb N1 rw239 g9 32 (kl zk).toArray) := Lib.hid ⟨by subst hg; exact RK236.out.sz, by subst hw hg; exact Blk.new _ _ _⟩
          clear hg hw hHeld
          refine hK.out _ _ ⟨RK239.out.tw.tw_.2.1, RK239.out.tw.tw_.2.2⟩ (fun hHeld => ?_)
          clear hK K
          try simp only [Act.put, List.getElem_toArray, List.getElem_cons_succ, List.getElem_cons_zero, List.setIfInBounds_toArray, List.set_cons_zero, List.set_cons_succ]
          refine wpAnyH_ready (rs := [8]) (by kernel_rfl) (by simp) ?_
          refine AllReadyH.cons (by rfl) (fun K hK => ?_) AllReadyH.nil
          · refine step_alloc30 rfl (by rfl) ?_
            intro g8 rw240 hg hw
            have RK240 : Hid (Wb w rw240 q A' cap' ps l k (i : Int) x y N1) := Lib.hid (by subst hw; exact RK239.out.alloc _)
            have RG9_240 : Hid (Nb N1 rw240 g9 32 (kl zk).toArray) := Lib.hid (by subst hw; exact RG9_239.out.alloc _)
            have RG8_240 : Hid (Nb N1 rw240 g8 32 (kl zk).toArray) := Lib.hid ⟨by subst hg; exact RK239.out.sz, by subst hw hg; exact Blk.new _ _ _⟩
            have RNE : Hid (g8 ≠ g9) := Lib.hid (by have h1 := RG9_239.out.blk.lt; subst hg; omega)
            clear hg hw hHeld
            refine hK.out _ _ ⟨RK240.out.tw.tw_.2.1, RK240.out.tw.tw_.2.2⟩ (fun hHeld => ?_)
            clear hK K
            try simp only [Act.put, List.getElem_toArray, List.getElem_cons_succ, List.getElem_cons_zero, List.setIfInBounds_toArray, List.set_cons_zero, List.set_cons_succ]
            refine wpAnyH_ready (rs := [10]) (by kernel_rfl) (by simp) ?_
            refine AllReadyH.cons (by rfl) (fun K hK => ?_) AllReadyH.nil
            refine step_store_big RG8_240.out.blk rfl (.tmp 8) (.tmp 39) (ty := 32) (l := kl a) rfl (by rfl) (by rfl) size30 rfl (kl_one a) ?_
            have SK := Lib.hid (RK240.out.set RG8_240.out.ge (kl a).toArray)
            have S8 := Lib.hid (RG8_240.out.put (kl a).toArray)
            have S9 := Lib.hid (RG9_240.out.set (Ne.symm RNE.out) (kl a).toArray)
            generalize rw240.setRow g8 (kl a).toArray = SW at SK S8 S9 ⊢
            refine hK.out _ _ ⟨SK.out.tw.tw_.2.1, SK.out.tw.tw_.2.2⟩ (fun hHeld => ?_)
            clear hK K
            try simp only [Act.put, List.getElem_toArray, List.getElem_cons_succ, List.getElem_cons_zero]
            refine wpAnyH_ready (rs := [11]) (by kernel_rfl) (by simp) ?_
            refine AllReadyH.cons (by rfl) (fun K hK => ?_) AllReadyH.nil
            refine step_store_big S9.out.blk rfl (.tmp 9) (.tmp 43) (ty := 32) (l := kl b) rfl (by rfl) (by rfl) size30 rfl (kl_one b) ?_
            have UK := Lib.hid (SK.out.set S9.out.ge (kl b).toArray)
            have U8 := Lib.hid (S8.out.set RNE.out (kl b).toArray)
            have U9 := Lib.hid (S9.out.put (kl b).toArray)
            generalize SW.setRow g9 (kl b).toArray = UW at UK U8 U9 ⊢
            refine hK.out _ _ ⟨UK.out.tw.tw_.2.1, UK.out.tw.tw_.2.2⟩ (fun hHeld => ?_)
            clear hK K
            try simp only [Act.put, List.getElem_toArray, List.getElem_cons_succ, List.getElem_cons_zero]
            refine wpAnyH_done (by kernel_rfl) ?_ _
            refine OnlyN.normal ?_
            exact ⟨g8, g9, rfl, rfl, UK.out, U8.out, U9.out⟩
      · refine step_alloc30 rfl (by rfl) ?_
        intro g8 rw241 hg hw
        have RK241 : Hid (Wb w rw241 q A' cap' ps l k (i : Int) x y N1) := Lib.hid (by subst hw; exact RK235.out.alloc _)
        have RG8_241 : Hid (Nb N1 rw241 g8 32 (kl zk).toArray) := Lib.hid ⟨by subst hg; exact RK235.out.sz, by subst hw hg; exact Blk.new _ _ _⟩
        clear hg hw hHeld
        refine hK.out _ _ ⟨RK241.out.tw.tw_.2.1, RK241.out.tw.tw_.2.2⟩ (fun hHeld => ?_)
        clear hK K
        try simp only [Act.put, List.getElem_toArray, List.getElem_cons_succ, List.getElem_cons_zero, List.setIfInBounds_toArray, List.set_cons_zero, List.set_cons_succ]
        refine wpAnyH_ready (rs := [7, 9]) (by kernel_rfl) (by simp) ?_
        refine AllReadyH.cons (by rfl) (fun K hK => ?_) (AllReadyH.cons (by rfl) (fun K hK => ?_) AllReadyH.nil)
        · go_simp
          refine (HPB.out _ RK241.out).mono ?_
          rintro e_ rw242 ⟨rfl, c_⟩
          have RK242 := Lib.hid (RK241.out.below c_)
          have RG8_242 := Lib.hid (RG8_241.out.below c_)
          clear c_ hHeld
          go_wp2_with fail
          refine hK.out _ _ ⟨RK242.out.tw.tw_.2.1, RK242.out.tw.tw_.2.2⟩ (fun hHeld => ?_)
          clear hK K
          try simp only [Act.put, List.getElem_toArray, List.getElem_cons_succ, List.getElem_cons_zero, List.setIfInBounds_toArray, List.set_cons_zero, List.set_cons_succ]
          refine wpAnyH_ready (rs := [9]) (by kernel_rfl) (by simp) ?_
          refine AllReadyH.cons (by rfl) (fun K hK => ?_) AllReadyH.nil
          · refine step_alloc30 rfl (by rfl) ?_
            intro g9 rw243 hg hw
            have RK243 : Hid (Wb w rw243 q A' cap' ps l k (i : Int) x y N1) := Lib.hid (by subst hw; exact RK242.out.alloc _)
            have RG8_243 : Hid (Nb N1 rw243 g8 32 (kl zk).toArray) := Lib.hid (by subst hw; exact RG8_242.out.alloc _)
            have RG9_243 : Hid (Nb N1 rw243 g9 32 (kl zk).toArray) := Lib.hid ⟨by subst hg; exact RK242.out.sz, by subst hw hg; exact Blk.new _ _ _⟩
            have RNE : Hid (g8 ≠ g9) := Lib.hid (by have h1 := RG8_242.out.blk.lt; subst hg; omega)
            clear hg hw hHeld
            refine hK.out _ _ ⟨RK243.out.tw.tw_.2.1, RK243.out.tw.tw_.2.2⟩ (fun hHeld => ?_)
            clear hK K
            try simp only [Act.put, List.getElem_toArray, List.getElem_cons_succ, List.getElem_cons_zero, List.setIfInBounds_toArray, List.set_cons_zero, List.set_cons_succ]
            refine wpAnyH_ready (rs := [10]) (by kernel_rfl) (by simp) ?_
            refine AllReadyH.cons (by rfl) (fun K hK => ?_) AllReadyH.nil
            refine step_store_big RG8_243.out.blk rfl (.tmp 8) (.tmp 39) (ty := 32) (l := kl a) rfl (by rfl) (by rfl) size30 rfl (kl_one a) ?_
            have SK := Lib.hid (RK243.out.set RG8_243.out.ge (kl a).toArray)
            have S8 := Lib.hid (RG8_243.out.put (kl a).toArray)
            have S9 := Lib.hid (RG9_243.out.set (Ne.symm RNE.out) (kl a).toArray)
            generalize rw243.setRow g8 (kl a).toArray = SW at SK S8 S9 ⊢
            refine hK.out _ _ ⟨SK.out.tw.tw_.2.1, SK.out.tw.tw_.2.2⟩ (fun hHeld => ?_)
            clear hK K
            try simp only [Act.put, List.getElem_toArray, List.getElem_cons_succ, List.getElem_cons_zero]
            refine wpAnyH_ready (rs := [11]) (by kernel_rfl) (by simp) ?_
            refine AllReadyH.cons (by rfl) (fun K hK => ?_) AllReadyH.nil
            refine step_store_big S9.out.blk rfl (.tmp 9) (.tmp 43) (ty := 32) (l := kl b) rfl (by rfl) (by rfl) size30 rfl (kl_one b) ?_
            have UK := Lib.hid (SK.out.set S9.out.ge (kl b).toArray)
            have U8 := Lib.hid (S8.out.set RNE.out (kl b).toArray)
            have U9 := Lib.hid (S9.out.put (kl b).toArray)
            generalize SW.setRow g9 (kl b).toArray = UW at UK U8 U9 ⊢
            refine hK.out _ _ ⟨UK.out.tw.tw_.2.1, UK.out.tw.tw_.2.2⟩ (fun hHeld => ?_)
            clear hK K
            try simp only [Act.put, List.getElem_toArray, List.getElem_cons_succ, List.getElem_cons_zero]
            refine wpAnyH_done (by kernel_rfl) ?_ _
            refine OnlyN.normal ?_
            exact ⟨g8, g9, rfl, rfl, UK.out, U8.out, U9.out⟩
        · refine step_alloc30 rfl (by rfl) ?_
          intro g9 rw244 hg hw
          have RK244 : Hid (Wb w rw244 q A' cap' ps l k (i : Int) x y N1) := Lib.hid (by subst hw; exact RK241.out.alloc _)
          have RG8_244 : Hid (Nb N1 rw244 g8 32 (kl zk).toArray) := Lib.hid (by subst hw; exact RG8_241.out.alloc _)
          have RG9_244 : Hid (Nb N1 rw244 g9 32 (kl zk).toArray) := Lib.hid ⟨by subst hg; exact RK241.out.sz, by subst hw hg; exact Blk.new _ _ _⟩
          have RNE : Hid (g8 ≠ g9) := Lib.hid (by have h1 := RG8_241.out.blk.lt; subst hg; omega)
          clear hg hw hHeld
          refine hK.out _ _ ⟨RK244.out.tw.tw_.2.1, RK244.out.tw.tw_.2.2⟩ (fun hHeld => ?_)
          clear hK K
          try simp only [Act.put, List.getElem_toArray, List.getElem_cons_succ, List.getElem_cons_zero, List.setIfInBounds_toArray, List.set_cons_zero, List.set_cons_succ]
          refine wpAnyH_ready (rs := [7]) (by kernel_rfl) (by simp) ?_
          refine AllReadyH.cons (by rfl) (fun K hK => ?_) AllReadyH.nil
          · go_simp
            refine (HPB.out _ RK244.out).mono ?_
            rintro e_ rw245 ⟨rfl, c_⟩
            have RK245 := Lib.hid (RK244.out.below c_)
            have RG8_245 := Lib.hid (RG8_244.out.below c_)
            have RG9_245 := Lib.hid (RG9_244.out.below c_)
            clear c_ hHeld
            go_wp2_with fail
            refine hK.out _ _ ⟨RK245.out.tw.tw_.2.1, RK245.out.tw.tw_.2.2⟩ (fun hHeld => ?_)
            clear hK K
            try simp only [Act.put, List.getElem_toArray, List.getElem_cons_succ, List.getElem_cons_zero, List.setIfInBounds_toArray, List.set_cons_zero, List.set_cons_succ]
            refine wpAnyH_ready (rs := [10]) (by kernel_rfl) (by simp) ?_
            refine AllReadyH.cons (by rfl) (fun K hK => ?_) AllReadyH.nil
            refine step_store_big RG8_245.out.blk rfl (.tmp 8) (.tmp 39) (ty := 32) (l := kl a) rfl (by rfl) (by rfl) size30 rfl (kl_one a) ?_
            have SK := Lib.hid (RK245.out.set RG8_245.out.ge (kl a).toArray)
            have S8 := Lib.hid (RG8_245.out.put (kl a).toArray)
            have S9 := Lib.hid (RG9_245.out.set (Ne.symm RNE.out) (kl a).toArray)
            generalize rw245.setRow g8 (kl a).toArray = SW at SK S8 S9 ⊢
            refine hK.out _ _ ⟨SK.out.tw.tw_.2.1, SK.out.tw.tw_.2.2⟩ (fun hHeld => ?_)
            clear hK K
            try simp only [Act.put, List.getElem_toArray, List.getElem_cons_succ, List.getElem_cons_zero]
            refine wpAnyH_ready (rs := [11]) (by kernel_rfl) (by simp) ?_
            refine AllReadyH.cons (by rfl) (fun K hK => ?_) AllReadyH.nil
            refine step_store_big S9.out.blk rfl (.tmp 9) (.tmp 43) (ty := 32) (l := kl b) rfl (by rfl) (by rfl) size30 rfl (kl_one b) ?_
            have UK := Lib.hid (SK.out.set S9.out.ge (kl b).toArray)
            have U8 := Lib.hid (S8.out.set RNE.out (kl b).toArray)
            have U9 := Lib.hid (S9.out.put (kl b).toArray)
            generalize SW.setRow g9 (kl b).toArray = UW at UK U8 U9 ⊢
            refine hK.out _ _ ⟨UK.out.tw.tw_.2.1, UK.out.tw.tw_.2.2⟩ (fun hHeld => ?_)
            clear hK K
            try simp only [Act.put, List.getElem_toArray, List.getElem_cons_succ, List.getElem_cons_zero]
            refine wpAnyH_done (by kernel_rfl) ?_ _
            refine OnlyN.normal ?_
            exact ⟨g8, g9, rfl, rfl, UK.out, U8.out, U9.out⟩
      · refine step_alloc30 rfl (by rfl) ?_
        intro g9 rw246 hg hw
        have RK246 : Hid (Wb w rw246 q A' cap' ps l k (i : Int) x y N1) := Lib.hid (by subst hw; exact RK235.out.alloc _)
        have RG9_246 : Hid (Nb N1 rw246 g9 32 (kl zk).toArray) := Lib.hid ⟨by subst hg; exact RK235.out.sz, by subst hw hg; exact Blk.new _ _ _⟩
        clear hg hw hHeld
        refine hK.out _ _ ⟨RK246.out.tw.tw_.2.1, RK246.out.tw.tw_.2.2⟩ (fun hHeld => ?_)
        clear hK K
        try simp only [Act.put, List.getElem_toArray, List.getElem_cons_succ, List.getElem_cons_zero, List.setIfInBounds_toArray, List.set_cons_zero, List.set_cons_succ]
        refine wpAnyH_ready (rs := [7, 8]) (by kernel_rfl) (by simp) ?_
        refine AllReadyH.cons (by rfl) (fun K hK => ?_) (AllReadyH.cons (by rfl) (fun K hK => ?_) AllReadyH.nil)
        · go_simp
          refine (HPB.out _ RK246.out).mono ?_
          rintro e_ rw247 ⟨rfl, c_⟩
          have RK247 := Lib.hid (RK246.out.below c_)
          have RG9_247 := Lib.hid (RG9_246.out.below c_)
          clear c_ hHeld
          go_wp2_with fail
          refine hK.out _ _ ⟨RK247.out.tw.tw_.2.1, RK247.out.tw.tw_.2.2⟩ (fun hHeld => ?_)
          clear hK K
          try simp only [Act.put, List.getElem_toArray, List.getElem_cons_succ, List.getElem_cons_zero, List.setIfInBounds_toArray, List.set_cons_zero, List.set_cons_succ]
          refine wpAnyH_ready (rs := [8]) (by kernel_rfl) (by simp) ?_
          refine AllReadyH.cons (by rfl) (fun K hK => ?_) AllReadyH.nil
          · refine step_alloc30 rfl (by rfl) ?_
            intro g8 rw248 hg hw
            have RK248 : Hid (Wb w rw248 q A' cap' ps l k (i : Int) x y N1) := Lib.hid (by subst hw; exact RK247.out.alloc _)
            have RG9_248 : Hid (Nb N1 rw248 g9 32 (kl zk).toArray) := Lib.hid (by subst hw; exact RG9_247.out.alloc _)
            have RG8_248 : Hid (Nb N1 rw248 g8 32 (kl zk).toArray) := Lib.hid ⟨by subst hg; exact RK247.out.sz, by subst hw hg; exact Blk.new _ _ _⟩
            have RNE : Hid (g8 ≠ g9) := Lib.hid (by have h1 := RG9_247.out.blk.lt; subst hg; omega)
            clear hg hw hHeld
            refine hK.out _ _ ⟨RK248.out.tw.tw_.2.1, RK248.out.tw.tw_.2.2⟩ (fun hHeld => ?_)
            clear hK K
            try simp only [Act.put, List.getElem_toArray, List.getElem_cons_succ, List.getElem_cons_zero, List.setIfInBounds_toArray, List.set_cons_zero, List.set_cons_succ]
            refine wpAnyH_ready (rs := [10]) (by kernel_rfl) (by simp) ?_
            refine AllReadyH.cons (by rfl) (fun K hK => ?_) AllReadyH.nil
            refine step_store_big RG8_248.out.blk rfl (.tmp 8) (.tmp 39) (ty := 32) (l := kl a) rfl (by rfl) (by rfl) size30 rfl (kl_one a) ?_
            have SK := Lib.hid (RK248.out.set RG8_248.out.ge (kl a).toArray)
            have S8 := Lib.hid (RG8_248.out.put (kl a).toArray)
            have S9 := Lib.hid (RG9_248.out.set (Ne.symm RNE.out) (kl a).toArray)
            generalize rw248.setRow g8 (kl a).toArray = SW at SK S8 S9 ⊢
            refine hK.out _ _ ⟨SK.out.tw.tw_.2.1, SK.out.tw.tw_.2.2⟩ (fun hHeld => ?_)
            clear hK K
            try simp only [Act.put, List.getElem_toArray, List.getElem_cons_succ, List.getElem_cons_zero]
            refine wpAnyH_ready (rs := [11]) (by kernel_rfl) (by simp) ?_
            refine AllReadyH.cons (by rfl) (fun K hK => ?_) AllReadyH.nil
            refine step_store_big S9.out.blk rfl (.tmp 9) (.tmp 43) (ty := 32) (l := kl b) rfl (by rfl) (by rfl) size30 rfl (kl_one b) ?_
            have UK := Lib.hid (SK.out.set S9.out.ge (kl b).toArray)
            have U8 := Lib.hid (S8.out.set RNE.out (kl b).toArray)
            have U9 := Lib.hid (S9.out.put (kl b).toArray)
            generalize SW.setRow g9 (kl b).toArray = UW at UK U8 U9 ⊢
            refine hK.out _ _ ⟨UK.out.tw.tw_.2.1, UK.out.tw.tw_.2.2⟩ (fun hHeld => ?_)
            clear hK K
            try simp only [Act.put, List.getElem_toArray, List.getElem_cons_succ, List.getElem_cons_zero]
            refine wpAnyH_done (by kernel_rfl) ?_ _
            refine OnlyN.normal ?_
            exact ⟨g8, g9, rfl, rfl, UK.out, U8.out, U9.out⟩
        · refine step_alloc30 rfl (by rfl) ?_
          intro g8 rw249 hg hw
          have RK249 : Hid (Wb w rw249 q A' cap' ps l k (i : Int) x y N1) := Lib.hid (by subst hw; exact RK246.out.alloc _)
          have RG9_249 : Hid (Nb N1 rw249 g9 32 (kl zk).toArray) := Lib.hid (by subst hw; exact RG9_246.out.alloc _)
          have RG8_249 : Hid (Nb N1 rw249 g8 32 (kl zk).toArray) := Lib.hid ⟨by subst hg; exact RK246.out.sz, by subst hw hg; exact Blk.new _ _ _⟩
          have RNE : Hid (g8 ≠ g9) := Lib.hid (by have h1 := RG9_246.out.blk.lt; subst hg; omega)
          clear hg hw hHeld
          refine hK.out _ _ ⟨RK249.out.tw.tw_.2.1, RK249.out.tw.tw_.2.2⟩ (fun hHeld => ?_)
          clear hK K
          try simp only [Act.put, List.getElem_toArray, List.getElem_cons_succ, List.getElem_cons_zero, List.setIfInBounds_toArray, List.set_cons_zero, List.set_cons_succ]
          refine wpAnyH_ready (rs := [7]) (by kernel_rfl) (by simp) ?_
          refine AllReadyH.cons (by rfl) (fun K hK => ?_) AllReadyH.nil
          · go_simp
            refine (HPB.out _ RK249.out).mono ?_
            rintro e_ rw250 ⟨rfl, c_⟩
            have RK250 := Lib.hid (RK249.out.below c_)
            have RG9_250 := Lib.hid (RG9_249.out.below c_)
            have RG8_250 := Lib.hid (RG8_249.out.below c_)
            clear c_ hHeld
            go_wp2_with fail
            refine hK.out _ _ ⟨RK250.out.tw.tw_.2.1, RK250.out.tw.tw_.2.2⟩ (fun hHeld => ?_)
            clear hK K
            try simp only [Act.put, List.getElem_toArray, List.getElem_cons_succ, List.getElem_cons_zero, List.setIfInBounds_toArray, List.set_cons_zero, List.set_cons_succ]
            refine wpAnyH_ready (rs := [10]) (by kernel_rfl) (by simp) ?_
            refine AllReadyH.cons (by rfl) (fun K hK => ?_) AllReadyH.nil
            refine step_store_big RG8_250.out.blk rfl (.tmp 8) (.tmp 39) (ty := 32) (l := kl a) rfl (by rfl) (by rfl) size30 rfl (kl_one a) ?_
            have SK := Lib.hid (RK250.out.set RG8_250.out.ge (kl a).toArray)
            have S8 := Lib.hid (RG8_250.out.put (kl a).toArray)
            have S9 := Lib.hid (RG9_250.out.set (Ne.symm RNE.out) (kl a).toArray)
            generalize rw250.setRow g8 (kl a).toArray = SW at SK S8 S9 ⊢
            refine hK.out _ _ ⟨SK.out.tw.tw_.2.1, SK.out.tw.tw_.2.2⟩ (fun hHeld => ?_)
            clear hK K
            try simp only [Act.put, List.getElem_toArray, List.getElem_cons_succ, List.getElem_cons_zero]
            refine wpAnyH_ready (rs := [11]) (by kernel_rfl) (by simp) ?_
            refine AllReadyH.cons (by rfl) (fun K hK => ?_) AllReadyH.nil
            refine step_store_big S9.out.blk rfl (.tmp 9) (.tmp 43) (ty := 32) (l := kl b) rfl (by rfl) (by rfl) size30 rfl (kl_one b) ?_
            have UK := Lib.hid (SK.out.set S9.out.ge (kl b).toArray)
            have U8 := Lib.hid (S8.out.set RNE.out (kl b).toArray)
            have U9 := Lib.hid (S9.out.put (kl b).toArray)
            generalize SW.setRow g9 (kl b).toArray = UW at UK U8 U9 ⊢
            refine hK.out _ _ ⟨UK.out.tw.tw_.2.1, UK.out.tw.tw_.2.2⟩ (fun hHeld => ?_)
            clear hK K
            try simp only [Act.put, List.getElem_toArray, List.getElem_cons_succ, List.getElem_cons_zero]
            refine wpAnyH_done (by kernel_rfl) ?_ _
            refine OnlyN.normal ?_
            exact ⟨g8, g9, rfl, rfl, UK.out, U8.out, U9.out⟩
    · refine step_alloc30 rfl (by rfl) ?_
      intro g8 rw251 hg hw
      have RK251 : Hid (Wb w rw251 q A' cap' ps l k (i : Int) x y N1) := Lib.hid (by subst hw; exact HW2.out.drew.alloc _)
      have RG8_251 : Hid (Nb N1 rw251 g8 32 (kl zk).toArray) := Lib.hid ⟨by subst hg; exact HW2.out.drew.sz, by subst hw hg; exact Blk.new _ _ _⟩
      clear hg hw hHeld
      refine hK.out _ _ ⟨RK251.out.tw.tw_.2.1, RK251.out.tw.tw_.2.2⟩ (fun hHeld => ?_)
      clear hK K
      try simp only [Act.put, List.getElem_toArray, List.getElem_cons_succ, List.getElem_cons_zero, List.setIfInBounds_toArray, List.set_cons_zero, List.set_cons_succ]
      refine wpAnyH_ready (rs := [3, 9]) (by kernel_rfl) (by simp) ?_
      refine AllReadyH.cons (by rfl) (fun K hK => ?_) (AllReadyH.cons (by rfl) (fun K hK => ?_) AllReadyH.nil)
      · go_simp
        refine (HPA.out _ RK251.out).mono ?_
        rintro e_ rw252 ⟨rfl, c_⟩
        have RK252 := Lib.hid (RK251.out.below c_)
        have RG8_252 := Lib.hid (RG8_251.out.below c_)
        clear c_ hHeld
        go_wp2_with fail
        refine hK.out _ _ ⟨RK252.out.tw.tw_.2.1, RK252.out.tw.tw_.2.2⟩ (fun hHeld => ?_)
        clear hK K
        try simp only [Act.put, List.getElem_toArray, List.getElem_cons_succ, List.getElem_cons_zero, List.setIfInBounds_toArray, List.set_cons_zero, List.set_cons_succ]
        refine wpAnyH_ready (rs := [7, 9]) (by kernel_rfl) (by simp) ?_
        refine AllReadyH.cons (by rfl) (fun K hK => ?_) (AllReadyH.cons (by rfl) (fun K hK => ?_) AllReadyH.nil)
        · go_simp
          refine (HPB.out _ RK252.out).mono ?_
          rintro e_ rw253 ⟨rfl, c_⟩
          have RK253 := Lib.hid (RK252.out.below c_)
          have RG8_253 := Lib.hid (RG8_252.out.below c_)
          clear c_ hHeld
          go_wp2_with fail
          refine hK.out _ _ ⟨RK253.out.tw.tw_.2.1, RK253.out.tw.tw_.2.2⟩ (fun hHeld => ?_)
          clear hK K
          try simp only [Act.put, List.getElem_toArray, List.getElem_cons_succ, List.getElem_cons_zero, List.setIfInBounds_toArray, List.set_cons_zero, List.set_cons_succ]
          refine wpAnyH_ready (rs := [9]) (by kernel_rfl) (by simp) ?_
          refine AllReadyH.cons (by rfl) (fun K hK => ?_) AllReadyH.nil
          · refine step_alloc30 rfl (by rfl) ?_
            intro g9 rw254 hg hw
            have RK254 : Hid (Wb w rw254 q A' cap' ps l k (i : Int) x y N1) := Lib.hid (by subst hw; exact RK253.out.alloc _)
            have RG8_254 : Hid (Nb N1 rw254 g8 32 (kl zk).toArray) := Lib.hid (by subst hw; exact RG8_253.out.alloc _)
            have RG9_254 : Hid (Nb N1 rw254 g9 32 (kl zk).toArray) := Lib.hid ⟨by subst hg; exact RK253.out.sz, by subst hw hg; exact Blk.new _ _ _⟩
            have RNE : Hid (g8 ≠ g9) := Lib.hid (by have h1 := RG8_253.out.blk.lt; subst hg; omega)
            clear hg hw hHeld
            refine hK.out _ _ ⟨RK254.out.tw.tw_.2.1, RK254.out.tw.tw_.2.2⟩ (fun hHeld => ?_)
            clear hK K
            try simp only [Act.put, List.getElem_toArray, List.getElem_cons_succ, List.getElem_cons_zero, List.setIfInBounds_toArray, List.set_cons_zero, List.set_cons_succ]
            refine wpAnyH_ready (rs := [10]) (by kernel_rfl) (by simp) ?_
            refine AllReadyH.cons (by rfl) (fun K hK => ?_) AllReadyH.nil
            refine step_store_big RG8_254.out.blk rfl (.tmp 8) (.tmp 39) (ty := 32) (l := kl a) rfl (by rfl) (by rfl) size30 rfl (kl_one a) ?_
            have SK := Lib.hid (RK254.out.set RG8_254.out.ge (kl a).toArray)
            have S8 := Lib.hid (RG8_254.out.put (kl a).toArray)
            have S9 := Lib.hid (RG9_254.out.set (Ne.symm RNE.out) (kl a).toArray)
            generalize rw254.setRow g8 (kl a).toArray = SW at SK S8 S9 ⊢
            refine hK.out _ _ ⟨SK.out.tw.tw_.2.1, SK.out.tw.tw_.2.2⟩ (fun hHeld => ?_)
            clear hK K
            try simp only [Act.put, List.getElem_toArray, List.getElem_cons_succ, List.getElem_cons_zero]
            refine wpAnyH_ready (rs := [11]) (by kernel_rfl) (by simp) ?_
            refine AllReadyH.cons (by rfl) (fun K hK => ?_) AllReadyH.nil
            refine step_store_big S9.out.blk rfl (.tmp 9) (.tmp 43) (ty := 32) (l := kl b) rfl (by rfl) (by rfl) size30 rfl (kl_one b) ?_
            have UK := Lib.hid (SK.out.set S9.out.ge (kl b).toArray)
            have U8 := Lib.hid (S8.out.set RNE.out (kl b).toArray)
            have U9 := Lib.hid (S9.out.put (kl b).toArray)
            generalize SW.setRow g9 (kl b).toArray = UW at UK U8 U9 ⊢
            refine hK.out _ _ ⟨UK.out.tw.tw_.2.1, UK.out.tw.tw_.2.2⟩ (fun hHeld => ?_)
            clear hK K
            try simp only [Act.put, List.getElem_toArray, List.getElem_cons_succ, List.getElem_cons_zero]
            refine wpAnyH_done (by kernel_rfl) ?_ _
            refine OnlyN.normal ?_
            exact ⟨g8, g9, rfl, rfl, UK.out, U8.out, U9.out⟩
        · refine step_alloc30 rfl (by rfl) ?_
          intro g9 rw255 hg hw
          have RK255 : Hid (Wb w rw255 q A' cap' ps l k (i : Int) x y N1) := Lib.hid (by subst hw; exact RK252.out.alloc _)
          have RG8_255 : Hid (Nb N1 rw255 g8 32 (kl zk).toArray) := Lib.hid (by subst hw; exact RG8_252.out.alloc _)
          have RG9_255 : Hid (Nb N1 rw255 g9 32 (kl zk).toArray) := Lib.hid ⟨by subst hg; exact RK252.out.sz, by subst hw hg; exact Blk.new _ _ _⟩
          have RNE : Hid (g8 ≠ g9) := Lib.hid (by have h1 := RG8_252.out.blk.lt; subst hg; omega)
          clear hg hw hHeld
          refine hK.out _ _ ⟨RK255.out.tw.tw_.2.1, RK255.out.tw.tw_.2.2⟩ (fun hHeld => ?_)
          clear hK K
          try simp only [Act.put, List.getElem_toArray, List.getElem_cons_succ, List.getElem_cons_zero, List.setIfInBounds_toArray, List.set_cons_zero, List.set_cons_succ]
          refine wpAnyH_ready (rs := [7]) (by kernel_rfl) (by simp) ?_
          refine AllReadyH.cons (by rfl) (fun K hK => ?_) AllReadyH.nil
          · go_simp
            refine (HPB.out _ RK255.out).mono ?_
            rintro e_ rw256 ⟨rfl, c_⟩
            have RK256 := Lib.hid (RK255.out.below c_)
            have RG8_256 := Lib.hid (RG8_255.out.below c_)
            have RG9_256 := Lib.hid (RG9_255.out.below c_)
            clear c_ hHeld
            go_wp2_with fail
            refine hK.out _ _ ⟨RK256.out.tw.tw_.2.1, RK256.out.tw.tw_.2.2⟩ (fun hHeld => ?_)
            clear hK K
            try simp only [Act.put, List.getElem_toArray, List.getElem_cons_succ, List.getElem_cons_zero, List.setIfInBounds_toArray, List.set_cons_zero, List.set_cons_succ]
            refine wpAnyH_ready (rs := [10]) (by kernel_rfl) (by simp) ?_
            refine AllReadyH.cons (by rfl) (fun K hK => ?_) AllReadyH.nil
            refine step_store_big RG8_256.out.blk rfl (.tmp 8) (.tmp 39) (ty := 32) (l := kl a) rfl (by rfl) (by rfl) size30 rfl (kl_one a) ?_
            have SK := Lib.hid (RK256.out.set RG8_256.out.ge (kl a).toArray)
            have S8 := Lib.hid (RG8_256.out.put (kl a).toArray)
            have S9 := Lib.hid (RG9_256.out.set (Ne.symm RNE.out) (kl a).toArray)
            generalize rw256.setRow g8 (kl a).toArray = SW at SK S8 S9 ⊢
            refine hK.out _ _ ⟨SK.out.tw.tw_.2.1, SK.out.tw.tw_.2.2⟩ (fun hHeld => ?_)
            clear hK K
            try simp only [Act.put, List.getElem_toArray, List.getElem_cons_succ, List.getElem_cons_zero]
            refine wpAnyH_ready (rs := [11]) (by kernel_rfl) (by simp) ?_
            refine AllReadyH.cons (by rfl) (fun K hK => ?_) AllReadyH.nil
            refine step_store_big S9.out.blk rfl (.tmp 9) (.tmp 43) (ty := 32) (l := kl b) rfl (by rfl) (by rfl) size30 rfl (kl_one b) ?_
            have UK := Lib.hid (SK.out.set S9.out.ge (kl b).toArray)
            have U8 := Lib.hid (S8.out.set RNE.out (kl b).toArray)
            have U9 := Lib.hid (S9.out.put (kl b).toArray)
            generalize SW.setRow g9 (kl b).toArray = UW at UK U8 U9 ⊢
            refine hK.out _ _ ⟨UK.out.tw.tw_.2.1, UK.out.tw.tw_.2.2⟩ (fun hHeld => ?_)
            clear hK K
            try simp only [Act.put, List.getElem_toArray, List.getElem_cons_succ, List.getElem_cons_zero]
            refine wpAnyH_done (by kernel_rfl) ?_ _
            refine OnlyN.normal ?_
            exact ⟨g8, g9, rfl, rfl, UK.out, U8.out, U9.out⟩
      · refine step_alloc30 rfl (by rfl) ?_
        intro g9 rw257 hg hw
        have RK257 : Hid (Wb w rw257 q A' cap' ps l k (i : Int) x y N1) := Lib.hid (by subst hw; exact RK251.out.alloc _)
        have RG8_257 : Hid (Nb N1 rw257 g8 32 (kl zk).toArray) := Lib.hid (by subst hw; exact RG8_251.out.alloc _)
        have RG9_257 : Hid (Nb N1 rw257 g9 32 (kl zk).toArray) := Lib.hid ⟨by subst hg; exact RK251.out.sz, by subst hw hg; exact Blk.new _ _ _⟩
        have RNE : Hid (g8 ≠ g9) := Lib.hid (by have h1 := RG8_251.out.blk.lt; subst hg; omega)
        clear hg hw hHeld
        refine hK.out _ _ ⟨RK257.out.tw.tw_.2.1, RK257.out.tw.tw_.2.2⟩ (fun hHeld => ?_)
        clear hK K
        try simp only [Act.put, List.getElem_toArray, List.getElem_cons_succ, List.getElem_cons_zero, List.setIfInBounds_toArray, List.set_cons_zero, List.set_cons_succ]
        refine wpAnyH_ready (rs := [3]) (by kernel_rfl) (by simp) ?_
        refine AllReadyH.cons (by rfl) (fun K hK => ?_) AllReadyH.nil
        · go_simp
          refine (HPA.out _ RK257.out).mono ?_
          rintro e_ rw258 ⟨rfl, c_⟩
          have RK258 := Lib.hid (RK257.out.below c_)
          have RG8_258 := Lib.hid (RG8_257.out.below c_)
          have RG9_258 := Lib.hid (RG9_257.out.below c_)
          clear c_ hHeld
          go_wp2_with fail
          refine hK.out _ _ ⟨RK258.out.tw.tw_.2.1, RK258.out.tw.tw_.2.2⟩ (fun hHeld => ?_)
          clear hK K
          try simp only [Act.put, List.getElem_toArray, List.getElem_cons_succ, List.getElem_cons_zero, List.setIfInBounds_toArray, List.set_cons_zero, List.set_cons_succ]
          refine wpAnyH_ready (rs := [7]) (by kernel_rfl) (by simp) ?_
          refine AllReadyH.cons (by rfl) (fun K hK => ?_) AllReadyH.nil
          · go_simp
            refine (HPB.out _ RK258.out).mono ?_
            rintro e_ rw259 ⟨rfl, c_⟩
            have RK259 := Lib.hid (RK258.out.below c_)
            have RG8_259 := Lib.hid (RG8_258.out.below c_)
            have RG9_259 := Lib.hid (RG9_258.out.below c_)
            clear c_ hHeld
            go_wp2_with fail
            refine hK.out _ _ ⟨RK259.out.tw.tw_.2.1, RK259.out.tw.tw_.2.2⟩ (fun hHeld => ?_)
            clear hK K
            try simp only [Act.put, List.getElem_toArray, List.getElem_cons_succ, List.getElem_cons_zero, List.setIfInBounds_toArray, List.set_cons_zero, List.set_cons_succ]
            refine wpAnyH_ready (rs := [10]) (by kernel_rfl) (by simp) ?_
            refine AllReadyH.cons (by rfl) (fun K hK => ?_) AllReadyH.nil
            refine step_store_big RG8_259.out.blk rfl (.tmp 8) (.tmp 39) (ty := 32) (l := kl a) rfl (by rfl) (by rfl) size30 rfl (kl_one a) ?_
            have SK := Lib.hid (RK259.out.set RG8_259.out.ge (kl a).toArray)
            have S8 := Lib.hid (RG8_259.out.put (kl a).toArray)
            have S9 := Lib.hid (RG9_259.out.set (Ne.symm RNE.out) (kl a).toArray)
            generalize rw259.setRow g8 (kl a).toArray = SW at SK S8 S9 ⊢
            refine hK.out _ _ ⟨SK.out.tw.tw_.2.1, SK.out.tw.tw_.2.2⟩ (fun hHeld => ?_)
            clear hK K
            try simp only [Act.put, List.getElem_toArray, List.getElem_cons_succ, List.getElem_cons_zero]
            refine wpAnyH_ready (rs := [11]) (by kernel_rfl) (by simp) ?_
            refine AllReadyH.cons (by rfl) (fun K hK => ?_) AllReadyH.nil
            refine step_store_big S9.out.blk rfl (.tmp 9) (.tmp 43) (ty := 32) (l := kl b) rfl (by rfl) (by rfl) size30 rfl (kl_one b) ?_
            have UK := Lib.hid (SK.out.set S9.out.ge (kl b).toArray)
            have U8 := Lib.hid (S8.out.set RNE.out (kl b).toArray)
            have U9 := Lib.hid (S9.out.put (kl b).toArray)
            generalize SW.setRow g9 (kl b).toArray = UW at UK U8 U9 ⊢
            refine hK.out _ _ ⟨UK.out.tw.tw_.2.1, UK.out.tw.tw_.2.2⟩ (fun hHeld => ?_)
            clear hK K
            try simp only [Act.put, List.getElem_toArray, List.getElem_cons_succ, List.getElem_cons_zero]
            refine wpAnyH_done (by kernel_rfl) ?_ _
            refine OnlyN.normal ?_
            exact ⟨g8, g9, rfl, rfl, UK.out, U8.out, U9.out⟩
    · refine step_alloc30 rfl (by rfl) ?_
      intro g9 rw260 hg hw
      have RK260 : Hid (Wb w rw260 q A' cap' ps l k (i : Int) x y N1) := Lib.hid (by subst hw; exact HW2.out.drew.alloc _)
      have RG9_260 : Hid (Nb N1 rw260 g9 32 (kl zk).toArray) := Lib.hid ⟨by subst hg; exact HW2.out.drew.sz, by subst hw hg; exact Blk.new _ _ _⟩
      clear hg hw hHeld
      refine hK.out _ _ ⟨RK260.out.tw.tw_.2.1, RK260.out.tw.tw_.2.2⟩ (fun hHeld => ?_)
      clear hK K
      try simp only [Act.put, List.getElem_toArray, List.getElem_cons_succ, List.getElem_cons_zero, List.setIfInBounds_toArray, List.set_cons_zero, List.set_cons_succ]
      refine wpAnyH_ready (rs := [3, 8]) (by kernel_rfl) (by simp) ?_
      refine AllReadyH.cons (by rfl) (fun K hK => ?_) (AllReadyH.cons (by rfl) (fun K hK => ?_) AllReadyH.nil)
      · go_simp
        refine (HPA.out _ RK260.out).mono ?_
        rintro e_ rw261 ⟨rfl, c_⟩
        have RK261 := Lib.hid (RK260.out.below c_)
        have RG9_261 := Lib.hid (RG9_260.out.below c_)
        clear c_ hHeld
        go_wp2_with fail
        refine hK.out _ _ ⟨RK261.out.tw.tw_.2.1, RK261.out.tw.tw_.2.2⟩ (fun hHeld => ?_)
        clear hK K
        try simp only [Act.put, List.getElem_toArray, List.getElem_cons_succ, List.getElem_cons_zero, List.setIfInBounds_toArray, List.set_cons_zero, List.set_cons_succ]
        refine wpAnyH_ready (rs := [7, 8]) (by kernel_rfl) (by simp) ?_
        refine AllReadyH.cons (by rfl) (fun K hK => ?_) (AllReadyH.cons (by rfl) (fun K hK => ?_) AllReadyH.nil)
        · go_simp
          refine (HPB.out _ RK261.out).mono ?_
          rintro e_ rw262 ⟨rfl, c_⟩
          have RK262 := Lib.hid (RK261.out.below c_)
          have RG9_262 := Lib.hid (RG9_261.out.below c_)
          clear c_ hHeld
          go_wp2_with fail
          refine hK.out _ _ ⟨RK262.out.tw.tw_.2.1, RK262.out.tw.tw_.2.2⟩ (fun hHeld => ?_)
          clear hK K
          try simp only [Act.put, List.getElem_toArray, List.getElem_cons_succ, List.getElem_cons_zero, List.setIfInBounds_toArray, List.set_cons_zero, List.set_cons_succ]
          refine wpAnyH_ready (rs := [8]) (by kernel_rfl) (by simp) ?_
          refine AllReadyH.cons (by rfl) (fun K hK => ?_) AllReadyH.nil
          · refine step_alloc30 rfl (by rfl) ?_
            intro g8 rw263 hg hw
            have RK263 : Hid (Wb w rw263 q A' cap' ps l k (i : Int) x y N1) := Lib.hid (by subst hw; exact RK262.out.alloc _)
            have RG9_263 : Hid (Nb N1 rw263 g9 32 (kl zk).toArray) := Lib.hid (by subst hw; exact RG9_262.out.alloc _)
            have RG8_263 : Hid (Nb N1 rw263 g8 32 (kl zk).toArray) := Lib.hid ⟨by subst hg; exact RK262.out.sz, by subst hw hg; exact Blk.new _ _ _⟩
            have RNE : Hid (g8 ≠ g9) := Lib.hid (by have h1 := RG9_262.out.blk.lt; subst hg; omega)
            clear hg hw hHeld
            refine hK.out _ _ ⟨RK263.out.tw.tw_.2.1, RK263.out.tw.tw_.2.2⟩ (fun hHeld => ?_)
            clear hK K
            try simp only [Act.put, List.getElem_toArray, List.getElem_cons_succ, List.getElem_cons_zero, List.setIfInBounds_toArray, List.set_cons_zero, List.set_cons_succ]
            refine wpAnyH_ready (rs := [10]) (by kernel_rfl) (by simp) ?_
            refine AllReadyH.cons (by rfl) (fun K hK => ?_) AllReadyH.nil
            refine step_store_big RG8_263.out.blk rfl (.tmp 8) (.tmp 39) (ty := 32) (l := kl a) rfl (by rfl) (by rfl) size30 rfl (kl_one a) ?_
            have SK := Lib.hid (RK263.out.set RG8_263.out.ge (kl a).toArray)
            have S8 := Lib.hid (RG8_263.out.put (kl a).toArray)
            have S9 := Lib.hid (RG9_263.out.set (Ne.symm RNE.out) (kl a).toArray)
            generalize rw263.setRow g8 (kl a).toArray = SW at SK S8 S9 ⊢
            refine hK.out _ _ ⟨SK.out.tw.tw_.2.1, SK.out.tw.tw_.2.2⟩ (fun hHeld => ?_)
            clear hK K
            try simp only [Act.put, List.getElem_toArray, List.getElem_cons_succ, List.getElem_cons_zero]
            refine wpAnyH_ready (rs := [11]) (by kernel_rfl) (by simp) ?_
            refine AllReadyH.cons (by rfl) (fun K hK => ?_) AllReadyH.nil
            refine step_store_big S9.out.blk rfl (.tmp 9) (.tmp 43) (ty := 32) (l := kl b) rfl (by rfl) (by rfl) size30 rfl (kl_one b) ?_
            have UK := Lib.hid (SK.out.set S9.out.ge (kl b).toArray)
            have U8 := Lib.hid (S8.out.set RNE.out (kl b).toArray)
            have U9 := Lib.hid (S9.out.put (kl b).toArray)
            generalize SW.setRow g9 (kl b).toArray = UW at UK U8 U9 ⊢
            refine hK.out _ _ ⟨UK.out.tw.tw_.2.1, UK.out.tw.tw_.2.2⟩ (fun hHeld => ?_)
            clear hK K
            try simp only [Act.put, List.getElem_toArray, List.getElem_cons_succ, List.getElem_cons_zero]
            refine wpAnyH_done (by kernel_rfl) ?_ _
            refine OnlyN.normal ?_
            exact ⟨g8, g9, rfl, rfl, UK.out, U8.out, U9.out⟩
        · refine step_alloc30 rfl (by rfl) ?_
          intro g8 rw264 hg hw
          have RK264 : Hid (Wb w rw264 q A' cap' ps l k (i : Int) x y N1) := Lib.hid (by subst hw; exact RK261.out.alloc _)
          have RG9_264 : Hid (Nb N1 rw264 g9 32 (kl zk).toArray) := Lib.hid (by subst hw; exact RG9_261.out.alloc _)
          have RG8_264 : Hid (Nb N1 rw264 g8 32 (kl zk).toArray) := Lib.hid ⟨by subst hg; exact RK261.out.sz, by subst hw hg; exact Blk.new _ _ _⟩
          have RNE : Hid (g8 ≠ g9) := Lib.hid (by have h1 := RG9_261.out.blk.lt; subst hg; omega)
          clear hg hw hHeld
          refine hK.out _ _ ⟨RK264.out.tw.tw_.2.1, RK264.out.tw.tw_.2.2⟩ (fun hHeld => ?_)
          clear hK K
          try simp only [Act.put, List.getElem_toArray, List.getElem_cons_succ, List.getElem_cons_zero, List.setIfInBounds_toArray, List.set_cons_zero, List.set_cons_succ]
          refine wpAnyH_ready (rs := [7]) (by kernel_rfl) (by simp) ?_
          refine AllReadyH.cons (by rfl) (fun K hK => ?_) AllReadyH.nil
          · go_simp
            refine (HPB.out _ RK264.out).mono ?_
            rintro e_ rw265 ⟨rfl, c_⟩
            have RK265 := Lib.hid (RK264.out.below c_)
            have RG9_265 := Lib.hid (RG9_264.out.below c_)
            have RG8_265 := Lib.hid (RG8_264.out.below c_)
            clear c_ hHeld
            go_wp2_with fail
            refine hK.out _ _ ⟨RK265.out.tw.tw_.2.1, RK265.out.tw.tw_.2.2⟩ (fun hHeld => ?_)
            clear hK K
            try simp only [Act.put, List.getElem_toArray, List.getElem_cons_succ, List.getElem_cons_zero, List.setIfInBounds_toArray, List.set_cons_zero, List.set_cons_succ]
            refine wpAnyH_ready (rs := [10]) (by kernel_rfl) (by simp) ?_
            refine AllReadyH.cons (by rfl) (fun K hK => ?_) AllReadyH.nil
            refine step_store_big RG8_265.out.blk rfl (.tmp 8) (.tmp 39) (ty := 32) (l := kl a) rfl (by rfl) (by rfl) size30 rfl (kl_one a) ?_
            have SK := Lib.hid (RK265.out.set RG8_265.out.ge (kl a).toArray)
            have S8 := Lib.hid (RG8_265.out.put (kl a).toArray)
            have S9 := Lib.hid (RG9_265.out.set (Ne.symm RNE.out) (kl a).toArray)
            generalize rw265.setRow g8 (kl a).toArray = SW at SK S8 S9 ⊢
            refine hK.out _ _ ⟨SK.out.tw.tw_.2.1, SK.out.tw.tw_.2.2⟩ (fun hHeld => ?_)
            clear hK K
            try simp only [Act.put, List.getElem_toArray, List.getElem_cons_succ, List.getElem_cons_zero]
            refine wpAnyH_ready (rs := [11]) (by kernel_rfl) (by simp) ?_
            refine AllReadyH.cons (by rfl) (fun K hK => ?_) AllReadyH.nil
            refine step_store_big S9.out.blk rfl (.tmp 9) (.tmp 43) (ty := 32) (l := kl b) rfl (by rfl) (by rfl) size30 rfl (kl_one b) ?_
            have UK := Lib.hid (SK.out.set S9.out.ge (kl b).toArray)
            have U8 := Lib.hid (S8.out.set RNE.out (kl b).toArray)
            have U9 := Lib.hid (S9.out.put (kl b).toArray)
            generalize SW.setRow g9 (kl b).toArray = UW at UK U8 U9 ⊢
            refine hK.out _ _ ⟨UK.out.tw.tw_.2.1, UK.out.tw.tw_.2.2⟩ (fun hHeld => ?_)
            clear hK K
            try simp only [Act.put, List.getElem_toArray, List.getElem_cons_succ, List.getElem_cons_zero]
            refine wpAnyH_done (by kernel_rfl) ?_ _
            refine OnlyN.normal ?_
            exact ⟨g8, g9, rfl, rfl, UK.out, U8.out, U9.out⟩
      · refine step_alloc30 rfl (by rfl) ?_
        intro g8 rw266 hg hw
        have RK266 : Hid (Wb w rw266 q A' cap' ps l k (i : Int) x y N1) := Lib.hid (by subst hw; exact RK260.out.alloc _)
        have RG9_266 : Hid (Nb N1 rw266 g9 32 (kl zk).toArray) := Lib.hid (by subst hw; exact RG9_260.out.alloc _)
        have RG8_266 : Hid (Nb N1 rw266 g8 32 (kl zk).toArray) := Lib.hid ⟨by subst hg; exact RK260.out.sz, by subst hw hg; exact Blk.new _ _ _⟩
        have RNE : Hid (g8 ≠ g9) := Lib.hid (by have h1 := RG9_260.out.blk.lt; subst hg; omega)
        clear hg hw hHeld
        refine hK.out _ _ ⟨RK266.out.tw.tw_.2.1, RK266.out.tw.tw_.2.2⟩ (fun hHeld => ?_)
        clear hK K
        try simp only [Act.put, List.getElem_toArray, List.getElem_cons_succ, List.getElem_cons_zero, List.setIfInBounds_toArray, List.set_cons_zero, List.set_cons_succ]
        refine wpAnyH_ready (rs := [3]) (by kernel_rfl) (by simp) ?_
        refine AllReadyH.cons (by rfl) (fun K hK => ?_) AllReadyH.nil
        · go_simp
          refine (HPA.out _ RK266.out).mono ?_
          rintro e_ rw267 ⟨rfl, c_⟩
          have RK267 := Lib.hid (RK266.out.below c_)
          have RG9_267 := Lib.hid (RG9_266.out.below c_)
          have RG8_267 := Lib.hid (RG8_266.out.below c_)
          clear c_ hHeld
          go_wp2_with fail
          refine hK.out _ _ ⟨RK267.out.tw.tw_.2.1, RK267.out.tw.tw_.2.2⟩ (fun hHeld => ?_)
          clear hK K
          try simp only [Act.put, List.getElem_toArray, List.getElem_cons_succ, List.getElem_cons_zero, List.setIfInBounds_toArray, List.set_cons_zero, List.set_cons_succ]
          refine wpAnyH_ready (rs := [7]) (by kernel_rfl) (by simp) ?_
          refine AllReadyH.cons (by rfl) (fun K hK => ?_) AllReadyH.nil
          · go_simp
            refine (HPB.out _ RK267.out).mono ?_
            rintro e_ rw268 ⟨rfl, c_⟩
            have RK268 := Lib.hid (RK267.out.below c_)
            have RG9_268 := Lib.hid (RG9_267.out.below c_)
            have RG8_268 := Lib.hid (RG8_267.out.below c_)
            clear c_ hHeld
            go_wp2_with fail
            refine hK.out _ _ ⟨RK268.out.tw.tw_.2.1, RK268.out.tw.tw_.2.2⟩ (fun hHeld => ?_)
            clear hK K
            try simp only [Act.put, List.getElem_toArray, List.getElem_cons_succ, List.getElem_cons_zero, List.setIfInBounds_toArray, List.set_cons_zero, List.set_cons_succ]
            refine wpAnyH_ready (rs := [10]) (by kernel_rfl) (by simp) ?_
            refine AllReadyH.cons (by rfl) (fun K hK => ?_) AllReadyH.nil
            refine step_store_big RG8_268.out.blk rfl (.tmp 8) (.tmp 39) (ty := 32) (l := kl a) rfl (by rfl) (by rfl) size30 rfl (kl_one a) ?_
            have SK := Lib.hid (RK268.out.set RG8_268.out.ge (kl a).toArray)
            have S8 := Lib.hid (RG8_268.out.put (kl a).toArray)
            have S9 := Lib.hid (RG9_268.out.set (Ne.symm RNE.out) (kl a).toArray)
            generalize rw268.setRow g8 (kl a).toArray = SW at SK S8 S9 ⊢
            refine hK.out _ _ ⟨SK.out.tw.tw_.2.1, SK.out.tw.tw_.2.2⟩ (fun hHeld => ?_)
            clear hK K
            try simp only [Act.put, List.getElem_toArray, List.getElem_cons_succ, List.getElem_cons_zero]
            refine wpAnyH_ready (rs := [11]) (by kernel_rfl) (by simp) ?_
            refine AllReadyH.cons (by rfl) (fun K hK => ?_) AllReadyH.nil
            refine step_store_big S9.out.blk rfl (.tmp 9) (.tmp 43) (ty := 32) (l := kl b) rfl (by rfl) (by rfl) size30 rfl (kl_one b) ?_
            have UK := Lib.hid (SK.out.set S9.out.ge (kl b).toArray)
            have U8 := Lib.hid (S8.out.set RNE.out (kl b).toArray)
            have U9 := Lib.hid (S9.out.put (kl b).toArray)
            generalize SW.setRow g9 (kl b).toArray = UW at UK U8 U9 ⊢
            refine hK.out _ _ ⟨UK.out.tw.tw_.2.1, UK.out.tw.tw_.2.2⟩ (fun hHeld => ?_)
            clear hK K
            try simp only [Act.put, List.getElem_toArray, List.getElem_cons_succ, List.getElem_cons_zero]
            refine wpAnyH_done (by kernel_rfl) ?_ _
            refine OnlyN.normal ?_
            exact ⟨g8, g9, rfl, rfl, UK.out, U8.out, U9.out⟩
  rintro g8 g9 W3 ⟨hk3, h8, h9⟩
  have HW3 := Lib.hid hk3
  have H83 := Lib.hid h8
  have H93 := Lib.hid h9
  clear hk3 h8 h9 HW2
  simp only [Act.put, List.setIfInBounds_toArray, List.set_cons_zero, List.set_cons_succ]
  obtain ⟨t0, ⟨a0, a1, a2, a3, a4, a5⟩, b0, b1, b2, b3, b4, b5⟩ := HW3.out.tw.tw_
  obtain ⟨k0, k1, k2, k3, k4, k5⟩ := HW3.out.kk.six
  go_wp2_with (first
    | (go_at_call 15; clear MP; refine (HPU.out _ HW3.out).mono ?_; rintro e w4 ⟨rfl, s_, f_⟩; have HW4 := Lib.hid ((HW3.out.fr s_ f_).alloc (.cells (kl r1).toArray 32)); have H84 := Lib.hid ((H83.out.fr HW3.out f_).alloc (.cells (kl r1).toArray 32)); have H94 := Lib.hid ((H93.out.fr HW3.out f_).alloc (.cells (kl r1).toArray 32)); clear s_ f_; clear t0 a0 a1 a2 a3 a4 a5 b0 b1 b2 b3 b4 b5 k0 k1 k2 k3 k4 k5; obtain ⟨t0, ⟨a0, a1, a2, a3, a4, a5⟩, b0, b1, b2, b3, b4, b5⟩ := HW4.out.tw.tw_; obtain ⟨k0, k1, k2, k3, k4, k5⟩ := HW4.out.kk.six)
    | (show wpList _ _ _ ({ dst := none, op := .store _ (.tmp 10) (.tmp 52), type := _, pos := _, after := _, guard := _ } :: _) _ _; refine wpList_store_new (l := kl r1) (l0 := kl zk) (ty := 32) rfl (.tmp 10) (.tmp 52) (by rfl) _ rfl (by rfl) (by rfl) size30 rfl (kl_one _) ?_)
    | (go_at_call 20; clear MA; refine (HAL.out _ HW4.out).mono ?_; rintro e w5 ⟨bm, rfl, hb5, hk5, c_⟩; have HW5 := Lib.hid (HW4.out.below c_); have H85 := Lib.hid (H84.out.below c_); have H95 := Lib.hid (H94.out.below c_); have HM5 := Lib.hid (show Nb N1 w5 bm _ _ from ⟨Nat.le_trans HW4.out.sz hb5, hk5⟩); clear c_ hb5 hk5; clear t0 a0 a1 a2 a3 a4 a5 b0 b1 b2 b3 b4 b5 k0 k1 k2 k3 k4 k5; obtain ⟨t0, ⟨a0, a1, a2, a3, a4, a5⟩, b0, b1, b2, b3, b4, b5⟩ := HW5.out.tw.tw_; obtain ⟨k0, k1, k2, k3, k4, k5⟩ := HW5.out.kk.six)
    | (go_at_call 14; refine (HGE.out _ HW5.out).mono ?_; rintro e w6 ⟨rfl, c_⟩; have HNE6 := Lib.hid (Nat.le_trans HW5.out.sz c_.size); have HW6 := Lib.hid ((HW5.out.below c_).alloc (.cells (kl a).toArray 32)); have H86 := Lib.hid ((H85.out.below c_).alloc (.cells (kl a).toArray 32)); have H96 := Lib.hid ((H95.out.below c_).alloc (.cells (kl a).toArray 32)); have HM6 := Lib.hid ((HM5.out.below c_).alloc (.cells (kl a).toArray 32)); have HV6 := Lib.hid (show Nb N1 _ w6.heap.size _ _ from ⟨HNE6.out, Blk.new w6 32 (kl a).toArray⟩); clear c_; clear t0 a0 a1 a2 a3 a4 a5 b0 b1 b2 b3 b4 b5 k0 k1 k2 k3 k4 k5; obtain ⟨t0, ⟨a0, a1, a2, a3, a4, a5⟩, b0, b1, b2, b3, b4, b5⟩ := HW6.out.tw.tw_; obtain ⟨k0, k1, k2, k3, k4, k5⟩ := HW6.out.kk.six)
    | (show wpList _ _ _ ({ dst := none, op := .store _ (.tmp 14) (.tmp 74), type := _, pos := _, after := _, guard := _ } :: _) _ _; refine wpList_store_new (l := kl a) (l0 := kl zk) (ty := 32) rfl (.tmp 14) (.tmp 74) (by rfl) _ rfl (by rfl) (by rfl) size30 rfl (kl_one _) ?_)
    | (go_at_call 15; refine (HPU2.out _ HW6.out).mono ?_; rintro e w7 ⟨rfl, s_, f_⟩; have HNE7 := Lib.hid (Nat.le_trans HW6.out.sz f_.size); have HW7 := Lib.hid ((HW6.out.fr s_ f_).alloc (.cells (kl a).toArray 32)); have H87 := Lib.hid ((H86.out.fr HW6.out f_).alloc (.cells (kl a).toArray 32)); have H97 := Lib.hid ((H96.out.fr HW6.out f_).alloc (.cells (kl a).toArray 32)); have HM7 := Lib.hid ((HM6.out.fr HW6.out f_).alloc (.cells (kl a).toArray 32)); have HV7 := Lib.hid ((HV6.out.fr HW6.out f_).alloc (.cells (kl a).toArray 32)); have HX7 := Lib.hid (show Nb N1 _ w7.heap.size _ _ from ⟨HNE7.out, Blk.new w7 32 (kl a).toArray⟩); clear s_ f_; clear t0 a0 a1 a2 a3 a4 a5 b0 b1 b2 b3 b4 b5 k0 k1 k2 k3 k4 k5; obtain ⟨t0, ⟨a0, a1, a2, a3, a4, a5⟩, b0, b1, b2, b3, b4, b5⟩ := HW7.out.tw.tw_; obtain ⟨k0, k1, k2, k3, k4, k5⟩ := HW7.out.kk.six)
    | (show wpList _ _ _ ({ dst := none, op := .store _ (.tmp 16) (.tmp 84), type := _, pos := _, after := _, guard := _ } :: _) _ _; refine wpList_store_new (l := kl a) (l0 := kl zk) (ty := 32) rfl (.tmp 16) (.tmp 84) (by rfl) _ rfl (by rfl) (by rfl) size30 rfl (kl_one _) ?_)
    | (go_at_call 20; refine (HAL2.out _ HW7.out).mono ?_; rintro e w8 ⟨bn, rfl, hb8, hk8, c_⟩; have HW8 := Lib.hid (HW7.out.below c_); have H88 := Lib.hid (H87.out.below c_); have H98 := Lib.hid (H97.out.below c_); have HM8 := Lib.hid (HM7.out.below c_); have HV8 := Lib.hid (HV7.out.below c_); have HX8 := Lib.hid (HX7.out.below c_); have HN8 := Lib.hid (show Nb N1 w8 bn _ _ from ⟨Nat.le_trans HW7.out.sz hb8, hk8⟩); clear c_ hb8 hk8 t0 a0 a1 a2 a3 a4 a5 b0 b1 b2 b3 b4 b5 k0 k1 k2 k3 k4 k5))
  refine wp_region_only (S := fun W => KeyAt W w6.heap.size 0 a ∧ KeyAt W g8 0 a ∧ KeyAt W w7.heap.size 0 a) (by kernel_rfl) ⟨HV8.out.drew.kat, H88.out.drew.kat, HX8.out.drew.kat⟩ (fun hHeld => ?_)
  refine wpAnyH_take (i := 0) (v := ?v5) rfl (by kernel_rfl) (by kernel_rfl) (by kernel_rfl) (fun _ _ _ h => h) (Or.inl ⟨by rfl, ?hy5⟩) hHeld ?rest5
  case hy5 =>
    intro w' hSw
    try dsimp only at hSw
    go_simp
    first | done | with_reducible rfl
  try simp only [Act.put, List.getElem_toArray, List.getElem_cons_zero, List.setIfInBounds_toArray, List.set_cons_zero, List.set_cons_succ]
  refine wpAnyH_take (i := 1) (v := ?v6) rfl (by kernel_rfl) (by kernel_rfl) (by kernel_rfl) (fun _ _ _ h => h) (Or.inl ⟨by rfl, ?hy6⟩) hHeld ?rest6
  case hy6 =>
    intro w' hSw
    try dsimp only at hSw
    go_simp
    first | done | with_reducible rfl
  try simp only [Act.put, List.getElem_toArray, List.getElem_cons_succ, List.getElem_cons_zero, List.setIfInBounds_toArray, List.set_cons_zero, List.set_cons_succ]
  refine wpAnyH_take (i := 2) (v := ?v7) rfl (by kernel_rfl) (by kernel_rfl) (by kernel_rfl) (fun _ _ _ h => h) (Or.inl ⟨by rfl, ?hy7⟩) hHeld ?rest7
  case hy7 =>
    intro w' hSw
    try dsimp only at hSw
    go_simp
    first | done | with_reducible rfl
  try simp only [Act.put, List.getElem_toArray, List.getElem_cons_succ, List.getElem_cons_zero, List.setIfInBounds_toArray, List.set_cons_zero, List.set_cons_succ]
  refine wpAnyH_take (i := 3) (v := ?v8) rfl (by kernel_rfl) (by kernel_rfl) (by kernel_rfl) (fun _ _ _ h => h) (Or.inl ⟨by rfl, ?hy8⟩) hHeld ?rest8
  case hy8 =>
    intro w' hSw
    try dsimp only at hSw
    go_simp
    first | done | with_reducible rfl
  try simp only [Act.put, List.getElem_toArray, List.getElem_cons_succ, List.getElem_cons_zero, List.setIfInBounds_toArray, List.set_cons_zero, List.set_cons_succ]
  refine wpAnyH_take (i := 4) (v := ?v9) rfl (by kernel_rfl) (by kernel_rfl) (by kernel_rfl) (fun _ _ _ h => h) (Or.inl ⟨by rfl, ?hy9⟩) hHeld ?rest9
  case hy9 =>
    intro w' hSw
    try dsimp only at hSw
    go_simp
    first | done | with_reducible rfl
  try simp only [Act.put, List.getElem_toArray, List.getElem_cons_succ, List.getElem_cons_zero, List.setIfInBounds_toArray, List.set_cons_zero, List.set_cons_succ]
  refine wpAnyH_take (i := 5) (v := ?v10) rfl (by kernel_rfl) (by kernel_rfl) (by kernel_rfl) (fun _ _ _ h => h) (Or.inl ⟨by rfl, ?hy10⟩) hHeld ?rest10
  case hy10 =>
    intro w' hSw
    try dsimp only at hSw
    go_simp
    first | done | with_reducible rfl
  try simp only [Act.put, List.getElem_toArray, List.getElem_cons_succ, List.getElem_cons_zero, List.setIfInBounds_toArray, List.set_cons_zero, List.set_cons_succ]
  refine wpAnyH_take (i := 6) (v := ?v11) rfl (by kernel_rfl) (by kernel_rfl) (by kernel_rfl) (fun _ _ _ h => h) (Or.inl ⟨by rfl, ?hy11⟩) hHeld ?rest11
  case hy11 =>
    intro w' hSw
    try dsimp only at hSw
    go_simp
    first | done | with_reducible rfl
  try simp only [Act.put, List.getElem_toArray, List.getElem_cons_succ, List.getElem_cons_zero, List.setIfInBounds_toArray, List.set_cons_zero, List.set_cons_succ]
  refine wpAnyH_take (i := 7) (v := ?v12) rfl (by kernel_rfl) (by kernel_rfl) (by kernel_rfl) (fun _ _ _ h => h) (Or.inl ⟨by rfl, ?hy12⟩) hHeld ?rest12
  case hy12 =>
    intro w' hSw
    try dsimp only at hSw
    go_simp
    first | done | with_reducible rfl
  try simp only [Act.put, List.getElem_toArray, List.getElem_cons_succ, List.getElem_cons_zero, List.setIfInBounds_toArray, List.set_cons_zero, List.set_cons_succ]
  refine wpAnyH_take (i := 8) (v := ?v13) rfl (by kernel_rfl) (by kernel_rfl) (by kernel_rfl) (fun _ _ _ h => h) (Or.inl ⟨by rfl, ?hy13⟩) hHeld ?rest13
  case hy13 =>
    intro w' hSw
    try dsimp only at hSw
    go_simp
    first | done | with_reducible rfl
  try simp only [Act.put, List.getElem_toArray, List.getElem_cons_succ, List.getElem_cons_zero, List.setIfInBounds_toArray, List.set_cons_zero, List.set_cons_succ]
  refine wpAnyH_take (i := 9) (v := ?v14) rfl (by kernel_rfl) (by kernel_rfl) (by kernel_rfl) (fun _ _ _ h => h) (Or.inl ⟨by rfl, ?hy14⟩) hHeld ?rest14
  case hy14 =>
    intro w' hSw
    try dsimp only at hSw
    go_simp
    first | done | with_reducible rfl
  try simp only [Act.put, List.getElem_toArray, List.getElem_cons_succ, List.getElem_cons_zero, List.setIfInBounds_toArray, List.set_cons_zero, List.set_cons_succ]
  refine wpAnyH_take (i := 10) (v := ?v15) rfl (by kernel_rfl) (by kernel_rfl) (by kernel_rfl) (fun _ _ _ h => h) (Or.inl ⟨by rfl, ?hy15⟩) hHeld ?rest15
  case hy15 =>
    intro w' hSw
    try dsimp only at hSw
    go_simp
    first | done | with_reducible rfl
  try simp only [Act.put, List.getElem_toArray, List.getElem_cons_succ, List.getElem_cons_zero, List.setIfInBounds_toArray, List.set_cons_zero, List.set_cons_succ]
  refine wpAnyH_take (i := 11) (v := ?v16) rfl (by kernel_rfl) (by kernel_rfl) (by kernel_rfl) (fun _ _ _ h => h) (Or.inl ⟨by rfl, ?hy16⟩) hHeld ?rest16
  case hy16 =>
    intro w' hSw
    try dsimp only at hSw
    go_simp
    first | done | with_reducible rfl
  try simp only [Act.put, List.getElem_toArray, List.getElem_cons_succ, List.getElem_cons_zero, List.setIfInBounds_toArray, List.set_cons_zero, List.set_cons_succ]
  refine wpAnyH_take (i := 12) (v := ?v17) rfl (by kernel_rfl) (by kernel_rfl) (by kernel_rfl) (fun _ _ _ h => h) (Or.inl ⟨by rfl, ?hy17⟩) hHeld ?rest17
  case hy17 =>
    intro w' hSw
    try dsimp only at hSw
    go_simp
    first | done | with_reducible rfl
  try simp only [Act.put, List.getElem_toArray, List.getElem_cons_succ, List.getElem_cons_zero, List.setIfInBounds_toArray, List.set_cons_zero, List.set_cons_succ]
  refine wpAnyH_take (i := 13) (v := ?v18) rfl (by kernel_rfl) (by kernel_rfl) (by kernel_rfl) (fun _ _ _ h => h) (Or.inl ⟨by rfl, ?hy18⟩) hHeld ?rest18
  case hy18 =>
    intro w' hSw
    try dsimp only at hSw
    go_simp
    first | done | with_reducible rfl
  try simp only [Act.put, List.getElem_toArray, List.getElem_cons_succ, List.getElem_cons_zero, List.setIfInBounds_toArray, List.set_cons_zero, List.set_cons_succ]
  refine wpAnyH_take (i := 14) (v := ?v19) rfl (by kernel_rfl) (by kernel_rfl) (by kernel_rfl) (fun _ _ _ h => h) (Or.inl ⟨by rfl, ?hy19⟩) hHeld ?rest19
  case hy19 =>
    intro w' hSw
    try dsimp only at hSw
    go_simp
    first | done | with_reducible rfl
  try simp only [Act.put, List.getElem_toArray, List.getElem_cons_succ, List.getElem_cons_zero, List.setIfInBounds_toArray, List.set_cons_zero, List.set_cons_succ]
  refine wpAnyH_take (i := 15) rfl (by kernel_rfl) (by kernel_rfl) (by kernel_rfl) (fun _ _ _ h => h) (y_ky (by rfl) (.tmp 14) (by rfl) w6.heap.size 0 (by rfl) a (fun _ h => h.1)) hHeld ?_
  try simp only [Act.put, List.getElem_toArray, List.getElem_cons_succ, List.getElem_cons_zero, List.setIfInBounds_toArray, List.set_cons_zero, List.set_cons_succ]
  refine wpAnyH_take (i := 16) (v := ?v20) rfl (by kernel_rfl) (by kernel_rfl) (by kernel_rfl) (fun _ _ _ h => h) (Or.inl ⟨by rfl, ?hy20⟩) hHeld ?rest20
  case hy20 =>
    intro w' hSw
    try dsimp only at hSw
    go_simp
    first | done | with_reducible rfl
  try simp only [Act.put, List.getElem_toArray, List.getElem_cons_succ, List.getElem_cons_zero, List.setIfInBounds_toArray, List.set_cons_zero, List.set_cons_succ]
  refine wpAnyH_take (i := 17) rfl (by kernel_rfl) (by kernel_rfl) (by kernel_rfl) (fun _ _ _ h => h) (y_ky (by rfl) (.tmp 8) (by rfl) g8 0 (by rfl) a (fun _ h => h.2.1)) hHeld ?_
  try simp only [Act.put, List.getElem_toArray, List.getElem_cons_succ, List.getElem_cons_zero, List.setIfInBounds_toArray, List.set_cons_zero, List.set_cons_succ]
  refine wpAnyH_ready (rs := [18]) (by kernel_rfl) (by simp) ?_
  refine AllReadyH.cons (by rfl) (fun K hK => ?_) AllReadyH.nil
  go_simp
  refine (HPR.out _ HW8.out.drew).mono ?_
  rintro e_ w9 ⟨rfl, c_⟩
  have HW9 := Lib.hid (HW8.out.drew.below c_)
  have H99 := Lib.hid (H98.out.drew.below c_)
  have HM9 := Lib.hid (HM8.out.drew.below c_)
  have HN9 := Lib.hid (HN8.out.drew.below c_)
  have HV9 := Lib.hid (HV8.out.drew.below c_)
  have HX9 := Lib.hid (HX8.out.drew.below c_)
  have H89 := Lib.hid (H88.out.drew.below c_)
  clear c_ hHeld
  go_wp2_with fail
  refine hK.out _ _ ⟨HV9.out.kat, H89.out.kat, HX9.out.kat⟩ (fun hHeld => ?_)
  clear hK K
  try simp only [Act.put, List.getElem_toArray, List.getElem_cons_succ, List.getElem_cons_zero, List.setIfInBounds_toArray, List.set_cons_zero, List.set_cons_succ]
  refine wpAnyH_take (i := 19) rfl (by kernel_rfl) (by kernel_rfl) (by kernel_rfl) (fun _ _ _ h => h) (y_kyne_me (by rfl) (by rfl) a (by rfl) (by rfl)) hHeld ?_
  try simp only [Act.put, List.getElem_toArray, List.getElem_cons_succ, List.getElem_cons_zero, List.setIfInBounds_toArray, List.set_cons_zero, List.set_cons_succ]
  refine wpAnyH_take (i := 20) (v := ?v21) rfl (by kernel_rfl) (by kernel_rfl) (by kernel_rfl) (fun _ _ _ h => h) (Or.inl ⟨by rfl, ?hy21⟩) hHeld ?rest21
  case hy21 =>
    intro w' hSw
    try dsimp only at hSw
    go_simp
    first | done | with_reducible rfl
  try simp only [Act.put, List.getElem_toArray, List.getElem_cons_succ, List.getElem_cons_zero, List.setIfInBounds_toArray, List.set_cons_zero, List.set_cons_succ]
  refine wpAnyH_take (i := 21) (v := ?v22) rfl (by kernel_rfl) (by kernel_rfl) (by kernel_rfl) (fun _ _ _ h => h) (Or.inl ⟨by rfl, ?hy22⟩) hHeld ?rest22
  case hy22 =>
    intro w' hSw
    try dsimp only at hSw
    go_simp
    first | done | with_reducible rfl
  try simp only [Act.put, List.getElem_toArray, List.getElem_cons_succ, List.getElem_cons_zero, List.setIfInBounds_toArray, List.set_cons_zero, List.set_cons_succ]
  refine wpAnyH_take (i := 22) rfl (by kernel_rfl) (by kernel_rfl) (by kernel_rfl) (fun _ _ _ h => h) (y_ky (by rfl) (.tmp 16) (by rfl) w7.heap.size 0 (by rfl) a (fun _ h => h.2.2)) hHeld ?_
  try simp only [Act.put, List.getElem_toArray, List.getElem_cons_succ, List.getElem_cons_zero, List.setIfInBounds_toArray, List.set_cons_zero, List.set_cons_succ]
  refine wpAnyH_take (i := 23) rfl (by kernel_rfl) (by kernel_rfl) (by kernel_rfl) (fun _ _ _ h => h) (y_ky (by rfl) (.tmp 14) (by rfl) w6.heap.size 0 (by rfl) a (fun _ h => h.1)) hHeld ?_
  try simp only [Act.put, List.getElem_toArray, List.getElem_cons_succ, List.getElem_cons_zero, List.setIfInBounds_toArray, List.set_cons_zero, List.set_cons_succ]
  refine wpAnyH_take (i := 24) rfl (by kernel_rfl) (by kernel_rfl) (by kernel_rfl) (fun _ _ _ h => h) (y_kyne_me (by rfl) (by rfl) a (by rfl) (by rfl)) hHeld ?_
  try simp only [Act.put, List.getElem_toArray, List.getElem_cons_succ, List.getElem_cons_zero, List.setIfInBounds_toArray, List.set_cons_zero, List.set_cons_succ]
  refine wpAnyH_take (i := 25) (v := ?v23) rfl (by kernel_rfl) (by kernel_rfl) (by kernel_rfl) (fun _ _ _ h => h) (Or.inl ⟨by rfl, ?hy23⟩) hHeld ?rest23
  case hy23 =>
    intro w' hSw
    try dsimp only at hSw
    go_simp
    first | done | with_reducible rfl
  try simp only [Act.put, List.getElem_toArray, List.getElem_cons_succ, List.getElem_cons_zero, List.setIfInBounds_toArray, List.set_cons_zero, List.set_cons_succ]
  refine wpAnyH_take (i := 26) (v := ?v24) rfl (by kernel_rfl) (by kernel_rfl) (by kernel_rfl) (fun _ _ _ h => h) (Or.inl ⟨by rfl, ?hy24⟩) hHeld ?rest24
  case hy24 =>
    intro w' hSw
    try dsimp only at hSw
    go_simp
    first | done | with_reducible rfl
  try simp only [Act.put, List.getElem_toArray, List.getElem_cons_succ, List.getElem_cons_zero, List.setIfInBounds_toArray, List.set_cons_zero, List.set_cons_succ]
  refine wpAnyH_take (i := 27) (v := ?v25) rfl (by kernel_rfl) (by kernel_rfl) (by kernel_rfl) (fun _ _ _ h => h) (Or.inl ⟨by rfl, ?hy25⟩) hHeld ?rest25
  case hy25 =>
    intro w' hSw
    try dsimp only at hSw
    go_simp
    first | done | with_reducible rfl
  try simp only [Act.put, List.getElem_toArray, List.getElem_cons_succ, List.getElem_cons_zero, List.setIfInBounds_toArray, List.set_cons_zero, List.set_cons_succ]
  refine wpAnyH_take (i := 28) (v := ?v26) rfl (by kernel_rfl) (by kernel_rfl) (by kernel_rfl) (fun _ _ _ h => h) (Or.inl ⟨by rfl, ?hy26⟩) hHeld ?rest26
  case hy26 =>
    intro w' hSw
    try dsimp only at hSw
    go_simp
    first | done | with_reducible rfl
  try simp only [Act.put, List.getElem_toArray, List.getElem_cons_succ, List.getElem_cons_zero, List.setIfInBounds_toArray, List.set_cons_zero, List.set_cons_succ]
  refine wpAnyH_take (i := 29) (v := ?v27) rfl (by kernel_rfl) (by kernel_rfl) (by kernel_rfl) (fun _ _ _ h => h) (Or.inl ⟨by rfl, ?hy27⟩) hHeld ?rest27
  case hy27 =>
    intro w' hSw
    try dsimp only at hSw
    go_simp
    first | done | with_reducible rfl
  try simp only [Act.put, List.getElem_toArray, List.getElem_cons_succ, List.getElem_cons_zero, List.setIfInBounds_toArray, List.set_cons_zero, List.set_cons_succ]
  refine wpAnyH_take (i := 30) (v := ?v28) rfl (by kernel_rfl) (by kernel_rfl) (by kernel_rfl) (fun _ _ _ h => h) (Or.inl ⟨by rfl, ?hy28⟩) hHeld ?rest28
  case hy28 =>
    intro w' hSw
    try dsimp only at hSw
    go_simp
    first | done | with_reducible rfl
  try simp only [Act.put, List.getElem_toArray, List.getElem_cons_succ, List.getElem_cons_zero, List.setIfInBounds_toArray, List.set_cons_zero, List.set_cons_succ]
  refine wpAnyH_take (i := 31) (v := ?v29) rfl (by kernel_rfl) (by kernel_rfl) (by kernel_rfl) (fun _ _ _ h => h) (Or.inl ⟨by rfl, ?hy29⟩) hHeld ?rest29
  case hy29 =>
    intro w' hSw
    try dsimp only at hSw
    go_simp
    first | done | with_reducible rfl
  try simp only [Act.put, List.getElem_toArray, List.getElem_cons_succ, List.getElem_cons_zero, List.setIfInBounds_toArray, List.set_cons_zero, List.set_cons_succ]
  refine wpAnyH_take (i := 32) (v := ?v30) rfl (by kernel_rfl) (by kernel_rfl) (by kernel_rfl) (fun _ _ _ h => h) (Or.inl ⟨by rfl, ?hy30⟩) hHeld ?rest30
  case hy30 =>
    intro w' hSw
    try dsimp only at hSw
    go_simp
    first | done | with_reducible rfl
  try simp only [Act.put, List.getElem_toArray, List.getElem_cons_succ, List.getElem_cons_zero, List.setIfInBounds_toArray, List.set_cons_zero, List.set_cons_succ]
  refine wpAnyH_take (i := 33) (v := ?v31) rfl (by kernel_rfl) (by kernel_rfl) (by kernel_rfl) (fun _ _ _ h => h) (Or.inl ⟨by rfl, ?hy31⟩) hHeld ?rest31
  case hy31 =>
    intro w' hSw
    try dsimp only at hSw
    go_simp
    first | done | with_reducible rfl
  try simp only [Act.put, List.getElem_toArray, List.getElem_cons_succ, List.getElem_cons_zero, List.setIfInBounds_toArray, List.set_cons_zero, List.set_cons_succ]
  refine wpAnyH_take (i := 34) (v := ?v32) rfl (by kernel_rfl) (by kernel_rfl) (by kernel_rfl) (fun _ _ _ h => h) (Or.inl ⟨by rfl, ?hy32⟩) hHeld ?rest32
  case hy32 =>
    intro w' hSw
    try dsimp only at hSw
    go_simp
    first | done | with_reducible rfl
  try simp only [Act.put, List.getElem_toArray, List.getElem_cons_succ, List.getElem_cons_zero, List.setIfInBounds_toArray, List.set_cons_zero, List.set_cons_succ]
  refine wpAnyH_take (i := 35) (v := ?v33) rfl (by kernel_rfl) (by kernel_rfl) (by kernel_rfl) (fun _ _ _ h => h) (Or.inl ⟨by rfl, ?hy33⟩) hHeld ?rest33
  case hy33 =>
    intro w' hSw
    try dsimp only at hSw
    go_simp
    first | done | with_reducible rfl
  try simp only [Act.put, List.getElem_toArray, List.getElem_cons_succ, List.getElem_cons_zero, List.setIfInBounds_toArray, List.set_cons_zero, List.set_cons_succ]
  refine wpAnyH_done (by kernel_rfl) ?_ _
  refine OnlyN.normal ?_
  clear hHeld
  go_wp2_with fail
  have HC0 : Hid ((Wb w w9 q A' cap' ps l2 k (i : Int) x y N1 ∧ Nb N1 w9 g9 32 (kl b).toArray ∧ Nb N1 w9 bm 95 (kcs M).toArray ∧ Nb N1 w9 bn 95 (kcs N).toArray)) := Lib.hid ⟨HW9.out, H99.out, HM9.out, HN9.out⟩
  go_loopw [20] (fun q20 W => ∃ t : Nat, t ≤ 16 ∧ q20 = .int .i64 t ∧ (Wb w W q A' cap' ps l2 k (i : Int) x y N1 ∧ Nb N1 W g9 32 (kl b).toArray ∧ Nb N1 W bm 95 (kcs M).toArray ∧ Nb N1 W bn 95 (kcs N).toArray)) (fun q20 _ => 17 - (intOf q20).toNat)
  case atStart => exact ⟨0, by omega, rfl, HC0.out⟩
  case round =>
    obtain ⟨t, ht, rfl, hc⟩ := hrel
    clear HC0 HW9 H99 HM9 HN9 HV9 HX9 H89
    have HC := Lib.hid hc
    clear hc
    by_cases hlt : t < 16
    · have d0 : decide ((t : Int) < 16) = true := decide_eq_true (by omega)
      have d1 : decide (t < 16) = true := decide_eq_true hlt
      have d2 : (t : Int) < 16 := by omega
      by_cases hti : t = i
      · have e1 : ((t : Int) != (i : Int)) = false := by rw [hti]; simp
        have e2 : (t != i) = false := by rw [hti]; simp
        have e3 : decide (t = i) = true := decide_eq_true hti
        clear hti
        go_wp2_with fail
        refine wp_region_only (S := fun W => W.cell? ⟨w.heap.size + 1, 0, none⟩ = some (.int .i64 (i : Int))) (by kernel_rfl) HC.out.1.drew.tw.tw_.1 (fun hHeld => ?_)
        refine wpAnyH_take (i := 0) (v := ?v46) rfl (by kernel_rfl) (by kernel_rfl) (by kernel_rfl) (fun _ _ _ h => h) (Or.inl ⟨by rfl, ?hy46⟩) hHeld ?rest46
        case hy46 =>
          intro w' hSw
          try dsimp only at hSw
          go_simp
          first | done | with_reducible rfl
        try simp only [Act.put, List.getElem_toArray, List.getElem_cons_zero, List.setIfInBounds_toArray, List.set_cons_zero, List.set_cons_succ]
        refine wpAnyH_take (i := 1) (v := ?v47) rfl (by kernel_rfl) (by kernel_rfl) (by kernel_rfl) (fun _ _ _ h => h) (Or.inl ⟨by rfl, ?hy47⟩) hHeld ?rest47
        case hy47 =>
          intro w' hSw
          try dsimp only at hSw
          go_simp
          first | done | with_reducible rfl
        try simp only [Act.put, List.getElem_toArray, List.getElem_cons_succ, List.getElem_cons_zero, List.setIfInBounds_toArray, List.set_cons_zero, List.set_cons_succ]
        refine wpAnyH_take (i := 2) (v := ?v48) rfl (by kernel_rfl) (by kernel_rfl) (by kernel_rfl) (fun _ _ _ h => h) (Or.inl ⟨by rfl, ?hy48⟩) hHeld ?rest48
        case hy48 =>
          intro w' hSw
          try dsimp only at hSw
          go_simp
          first | done | with_reducible rfl
        try simp only [Act.put, List.getElem_toArray, List.getElem_cons_succ, List.getElem_cons_zero, List.setIfInBounds_toArray, List.set_cons_zero, List.set_cons_succ]
        refine wpAnyH_take (i := 3) (v := ?v49) rfl (by kernel_rfl) (by kernel_rfl) (by kernel_rfl) (fun _ _ _ h => h) (Or.inl ⟨by rfl, ?hy49⟩) hHeld ?rest49
        case hy49 =>
          intro w' hSw
          try dsimp only at hSw
          go_simp
          first | done | with_reducible rfl
        try simp only [Act.put, List.getElem_toArray, List.getElem_cons_succ, List.getElem_cons_zero, List.setIfInBounds_toArray, List.set_cons_zero, List.set_cons_succ]
        refine wpAnyH_take (i := 4) (v := ?v50) rfl (by kernel_rfl) (by kernel_rfl) (by kernel_rfl) (fun _ _ _ h => h) (Or.inl ⟨by rfl, ?hy50⟩) hHeld ?rest50
        case hy50 =>
          intro w' hSw
          try dsimp only at hSw
          go_simp
          first | done | with_reducible rfl
        try simp only [Act.put, List.getElem_toArray, List.getElem_cons_succ, List.getElem_cons_zero, List.setIfInBounds_toArray, List.set_cons_zero, List.set_cons_succ]
        refine wpAnyH_take (i := 5) (v := undef) rfl (by kernel_rfl) (by kernel_rfl) (by kernel_rfl) (fun _ _ _ h => h) (Or.inr ⟨by rfl, rfl⟩) hHeld ?_
        try simp only [Act.put, List.getElem_toArray, List.getElem_cons_succ, List.getElem_cons_zero, List.setIfInBounds_toArray, List.set_cons_zero, List.set_cons_succ]
        refine wpAnyH_take (i := 6) (v := undef) rfl (by kernel_rfl) (by kernel_rfl) (by kernel_rfl) (fun _ _ _ h => h) (Or.inr ⟨by rfl, rfl⟩) hHeld ?_
        try simp only [Act.put, List.getElem_toArray, List.getElem_cons_succ, List.getElem_cons_zero, List.setIfInBounds_toArray, List.set_cons_zero, List.set_cons_succ]
        refine wpAnyH_take (i := 7) (v := undef) rfl (by kernel_rfl) (by kernel_rfl) (by kernel_rfl) (fun _ _ _ h => h) (Or.inr ⟨by rfl, rfl⟩) hHeld ?_
        try simp only [Act.put, List.getElem_toArray, List.getElem_cons_succ, List.getElem_cons_zero, List.setIfInBounds_toArray, List.set_cons_zero, List.set_cons_succ]
        refine wpAnyH_take (i := 8) (v := undef) rfl (by kernel_rfl) (by kernel_rfl) (by kernel_rfl) (fun _ _ _ h => h) (Or.inr ⟨by rfl, rfl⟩) hHeld ?_
        try simp only [Act.put, List.getElem_toArray, List.getElem_cons_succ, List.getElem_cons_zero, List.setIfInBounds_toArray, List.set_cons_zero, List.set_cons_succ]
        refine wpAnyH_take (i := 9) (v := undef) rfl (by kernel_rfl) (by kernel_rfl) (by kernel_rfl) (fun _ _ _ h => h) (Or.inr ⟨by rfl, rfl⟩) hHeld ?_
        try simp only [Act.put, List.getElem_toArray, List.getElem_cons_succ, List.getElem_cons_zero, List.setIfInBounds_toArray, List.set_cons_zero, List.set_cons_succ]
        refine wpAnyH_take (i := 10) (v := undef) rfl (by kernel_rfl) (by kernel_rfl) (by kernel_rfl) (fun _ _ _ h => h) (Or.inr ⟨by rfl, rfl⟩) hHeld ?_
        try simp only [Act.put, List.getElem_toArray, List.getElem_cons_succ, List.getElem_cons_zero, List.setIfInBounds_toArray, List.set_cons_zero, List.set_cons_succ]
        refine wpAnyH_take (i := 11) (v := undef) rfl (by kernel_rfl) (by kernel_rfl) (by kernel_rfl) (fun _ _ _ h => h) (Or.inr ⟨by rfl, rfl⟩) hHeld ?_
        try simp only [Act.put, List.getElem_toArray, List.getElem_cons_succ, List.getElem_cons_zero, List.setIfInBounds_toArray, List.set_cons_zero, List.set_cons_succ]
        refine wpAnyH_take (i := 12) (v := undef) rfl (by kernel_rfl) (by kernel_rfl) (by kernel_rfl) (fun _ _ _ h => h) (Or.inr ⟨by rfl, rfl⟩) hHeld ?_
        try simp only [Act.put, List.getElem_toArray, List.getElem_cons_succ, List.getElem_cons_zero, List.setIfInBounds_toArray, List.set_cons_zero, List.set_cons_succ]
        refine wpAnyH_take (i := 13) (v := undef) rfl (by kernel_rfl) (by kernel_rfl) (by kernel_rfl) (fun _ _ _ h => h) (Or.inr ⟨by rfl, rfl⟩) hHeld ?_
        try simp only [Act.put, List.getElem_toArray, List.getElem_cons_succ, List.getElem_cons_zero, List.setIfInBounds_toArray, List.set_cons_zero, List.set_cons_succ]
        refine wpAnyH_take (i := 14) (v := ?v51) rfl (by kernel_rfl) (by kernel_rfl) (by kernel_rfl) (fun _ _ _ h => h) (Or.inl ⟨by rfl, ?hy51⟩) hHeld ?rest51
        case hy51 =>
          intro w' hSw
          try dsimp only at hSw
          go_simp
          first | done | with_reducible rfl
        try simp only [Act.put, List.getElem_toArray, List.getElem_cons_succ, List.getElem_cons_zero, List.setIfInBounds_toArray, List.set_cons_zero, List.set_cons_succ]
        refine wpAnyH_done (by kernel_rfl) ?_ _
        refine OnlyN.normal ?_
        clear hHeld
        go_wp2_with fail
        go_roundw
        case rel => exact ⟨t + 1, by omega, by go_num, HC.out.1.drew, HC.out.2.1.drew, HC.out.2.2.1.drew, HC.out.2.2.2.drew⟩
        case measure => simp [intOf]; omega
      · have e1 : ((t : Int) != (i : Int)) = true := by simp; omega
        have e2 : (t != i) = true := by simpa using hti
        have e3 : decide (t = i) = false := decide_eq_false hti
        obtain ⟨z, hzm, hzn⟩ := HMN.out t hlt hti
        have HZM := Lib.hid hzm
        have HZN := Lib.hid hzn
        clear hzm hzn
        go_wp2_with fail
        refine wp_region_only (S := fun W => W.cell? ⟨w.heap.size + 1, 0, none⟩ = some (.int .i64 (i : Int)) ∧ KeyAt W bm (t * 6) z ∧ KeyAt W bn (t * 6) z) (by kernel_rfl) ⟨HC.out.1.drew.tw.tw_.1, HC.out.2.2.1.drew.row HZM.out, HC.out.2.2.2.drew.row HZN.out⟩ (fun hHeld => ?_)
        refine wpAnyH_take (i := 0) (v := ?v34) rfl (by kernel_rfl) (by kernel_rfl) (by kernel_rfl) (fun _ _ _ h => h) (Or.inl ⟨by rfl, ?hy34⟩) hHeld ?rest34
        case hy34 =>
          intro w' hSw
          try dsimp only at hSw
          go_simp
          first | done | with_reducible rfl
        try simp only [Act.put, List.getElem_toArray, List.getElem_cons_zero, List.setIfInBounds_toArray, List.set_cons_zero, List.set_cons_succ]
        refine wpAnyH_take (i := 1) (v := ?v35) rfl (by kernel_rfl) (by kernel_rfl) (by kernel_rfl) (fun _ _ _ h => h) (Or.inl ⟨by rfl, ?hy35⟩) hHeld ?rest35
        case hy35 =>
          intro w' hSw
          try dsimp only at hSw
          go_simp
          first | done | with_reducible rfl
        try simp only [Act.put, List.getElem_toArray, List.getElem_cons_succ, List.getElem_cons_zero, List.setIfInBounds_toArray, List.set_cons_zero, List.set_cons_succ]
        refine wpAnyH_take (i := 2) (v := ?v36) rfl (by kernel_rfl) (by kernel_rfl) (by kernel_rfl) (fun _ _ _ h => h) (Or.inl ⟨by rfl, ?hy36⟩) hHeld ?rest36
        case hy36 =>
          intro w' hSw
          try dsimp only at hSw
          go_simp
          first | done | with_reducible rfl
        try simp only [Act.put, List.getElem_toArray, List.getElem_cons_succ, List.getElem_cons_zero, List.setIfInBounds_toArray, List.set_cons_zero, List.set_cons_succ]
        refine wpAnyH_take (i := 3) (v := ?v37) rfl (by kernel_rfl) (by kernel_rfl) (by kernel_rfl) (fun _ _ _ h => h) (Or.inl ⟨by rfl, ?hy37⟩) hHeld ?rest37
        case hy37 =>
          intro w' hSw
          try dsimp only at hSw
          go_simp
          first | done | with_reducible rfl
        try simp only [Act.put, List.getElem_toArray, List.getElem_cons_succ, List.getElem_cons_zero, List.setIfInBounds_toArray, List.set_cons_zero, List.set_cons_succ]
        refine wpAnyH_take (i := 4) (v := ?v38) rfl (by kernel_rfl) (by kernel_rfl) (by kernel_rfl) (fun _ _ _ h => h) (Or.inl ⟨by rfl, ?hy38⟩) hHeld ?rest38
        case hy38 =>
          intro w' hSw
          try dsimp only at hSw
          go_simp
          first | done | with_reducible rfl
        try simp only [Act.put, List.getElem_toArray, List.getElem_cons_succ, List.getElem_cons_zero, List.setIfInBounds_toArray, List.set_cons_zero, List.set_cons_succ]
        refine wpAnyH_take (i := 5) (v := ?v39) rfl (by kernel_rfl) (by kernel_rfl) (by kernel_rfl) (fun _ _ _ h => h) (Or.inl ⟨by rfl, ?hy39⟩) hHeld ?rest39
        case hy39 =>
          intro w' hSw
          try dsimp only at hSw
          go_simp
          first | done | with_reducible rfl
        try simp only [Act.put, List.getElem_toArray, List.getElem_cons_succ, List.getElem_cons_zero, List.setIfInBounds_toArray, List.set_cons_zero, List.set_cons_succ]
        refine wpAnyH_take (i := 6) (v := ?v40) rfl (by kernel_rfl) (by kernel_rfl) (by kernel_rfl) (fun _ _ _ h => h) (Or.inl ⟨by rfl, ?hy40⟩) hHeld ?rest40
        case hy40 =>
          intro w' hSw
          try dsimp only at hSw
          go_simp
          first | done | with_reducible rfl
        try simp only [Act.put, List.getElem_toArray, List.getElem_cons_succ, List.getElem_cons_zero, List.setIfInBounds_toArray, List.set_cons_zero, List.set_cons_succ]
        refine wpAnyH_take (i := 7) (v := ?v41) rfl (by kernel_rfl) (by kernel_rfl) (by kernel_rfl) (fun _ _ _ h => h) (Or.inl ⟨by rfl, ?hy41⟩) hHeld ?rest41
        case hy41 =>
          intro w' hSw
          try dsimp only at hSw
          go_simp
          first | done | with_reducible rfl
        try simp only [Act.put, List.getElem_toArray, List.getElem_cons_succ, List.getElem_cons_zero, List.setIfInBounds_toArray, List.set_cons_zero, List.set_cons_succ]
        refine wpAnyH_take (i := 8) rfl (by kernel_rfl) (by kernel_rfl) (by kernel_rfl) (fun _ _ _ h => h) (y_ky (by rfl) (.tmp 139) (by rfl) bm (t * 6) (by rfl) z (fun _ h => h.2.1)) hHeld ?_
        try simp only [Act.put, List.getElem_toArray, List.getElem_cons_succ, List.getElem_cons_zero, List.setIfInBounds_toArray, List.set_cons_zero, List.set_cons_succ]
        refine wpAnyH_take (i := 9) (v := ?v42) rfl (by kernel_rfl) (by kernel_rfl) (by kernel_rfl) (fun _ _ _ h => h) (Or.inl ⟨by rfl, ?hy42⟩) hHeld ?rest42
        case hy42 =>
          intro w' hSw
          try dsimp only at hSw
          go_simp
          first | done | with_reducible rfl
        try simp only [Act.put, List.getElem_toArray, List.getElem_cons_succ, List.getElem_cons_zero, List.setIfInBounds_toArray, List.set_cons_zero, List.set_cons_succ]
        refine wpAnyH_take (i := 10) (v := ?v43) rfl (by kernel_rfl) (by kernel_rfl) (by kernel_rfl) (fun _ _ _ h => h) (Or.inl ⟨by rfl, ?hy43⟩) hHeld ?rest43
        case hy43 =>
          intro w' hSw
          try dsimp only at hSw
          go_simp
          first | done | with_reducible rfl
        try simp only [Act.put, List.getElem_toArray, List.getElem_cons_succ, List.getElem_cons_zero, List.setIfInBounds_toArray, List.set_cons_zero, List.set_cons_succ]
        refine wpAnyH_take (i := 11) (v := ?v44) rfl (by kernel_rfl) (by kernel_rfl) (by kernel_rfl) (fun _ _ _ h => h) (Or.inl ⟨by rfl, ?hy44⟩) hHeld ?rest44
        case hy44 =>
          intro w' hSw
          try dsimp only at hSw
          go_simp
          first | done | with_reducible rfl
        try simp only [Act.put, List.getElem_toArray, List.getElem_cons_succ, List.getElem_cons_zero, List.setIfInBounds_toArray, List.set_cons_zero, List.set_cons_succ]
        refine wpAnyH_take (i := 12) rfl (by kernel_rfl) (by kernel_rfl) (by kernel_rfl) (fun _ _ _ h => h) (y_ky (by rfl) (.tmp 143) (by rfl) bn (t * 6) (by rfl) z (fun _ h => h.2.2)) hHeld ?_
        try simp only [Act.put, List.getElem_toArray, List.getElem_cons_succ, List.getElem_cons_zero, List.setIfInBounds_toArray, List.set_cons_zero, List.set_cons_succ]
        refine wpAnyH_take (i := 13) rfl (by kernel_rfl) (by kernel_rfl) (by kernel_rfl) (fun _ _ _ h => h) (y_kyne_me (by rfl) (by rfl) z (by rfl) (by rfl)) hHeld ?_
        try simp only [Act.put, List.getElem_toArray, List.getElem_cons_succ, List.getElem_cons_zero, List.setIfInBounds_toArray, List.set_cons_zero, List.set_cons_succ]
        refine wpAnyH_take (i := 14) (v := ?v45) rfl (by kernel_rfl) (by kernel_rfl) (by kernel_rfl) (fun _ _ _ h => h) (Or.inl ⟨by rfl, ?hy45⟩) hHeld ?rest45
        case hy45 =>
          intro w' hSw
          try dsimp only at hSw
          go_simp
          first | done | with_reducible rfl
        try simp only [Act.put, List.getElem_toArray, List.getElem_cons_succ, List.getElem_cons_zero, List.setIfInBounds_toArray, List.set_cons_zero, List.set_cons_succ]
        refine wpAnyH_done (by kernel_rfl) ?_ _
        refine OnlyN.normal ?_
        clear hHeld
        go_wp2_with fail
        go_roundw
        case rel => exact ⟨t + 1, by omega, by go_num, HC.out.1.drew, HC.out.2.1.drew, HC.out.2.2.1.drew, HC.out.2.2.2.drew⟩
        case measure => simp [intOf]; omega
    · have d0 : decide ((t : Int) < 16) = false := decide_eq_false (by omega)
      have d1 : decide (t < 16) = false := decide_eq_false hlt
      clear hlt ht
      go_wp2_with fail
      refine wp_region_only (S := fun W => W.cell? ⟨w.heap.size + 1, 0, none⟩ = some (.int .i64 (i : Int)) ∧ KeyAt W bn (i * 6) b ∧ KeyAt W g9 0 b) (by kernel_rfl) ⟨HC.out.1.drew.tw.tw_.1, HC.out.2.2.2.drew.row HNB.out, HC.out.2.1.drew.kat⟩ (fun hHeld => ?_)
      refine wpAnyH_take (i := 0) (v := ?v52) rfl (by kernel_rfl) (by kernel_rfl) (by kernel_rfl) (fun _ _ _ h => h) (Or.inl ⟨by rfl, ?hy52⟩) hHeld ?rest52
      case hy52 =>
        intro w' hSw
        try dsimp only at hSw
        go_simp
        first | done | with_reducible rfl
      try simp only [Act.put, List.getElem_toArray, List.getElem_cons_zero, List.setIfInBounds_toArray, List.set_cons_zero, List.set_cons_succ]
      refine wpAnyH_take (i := 1) (v := ?v53) rfl (by kernel_rfl) (by kernel_rfl) (by kernel_rfl) (fun _ _ _ h => h) (Or.inl ⟨by rfl, ?hy53⟩) hHeld ?rest53
      case hy53 =>
        intro w' hSw
        try dsimp only at hSw
        go_simp
        first | done | with_reducible rfl
      try simp only [Act.put, List.getElem_toArray, List.getElem_cons_succ, List.getElem_cons_zero, List.setIfInBounds_toArray, List.set_cons_zero, List.set_cons_succ]
      refine wpAnyH_take (i := 2) (v := ?v54) rfl (by kernel_rfl) (by kernel_rfl) (by kernel_rfl) (fun _ _ _ h => h) (Or.inl ⟨by rfl, ?hy54⟩) hHeld ?rest54
      case hy54 =>
        intro w' hSw
        try dsimp only at hSw
        go_simp
        first | done | with_reducible rfl
      try simp only [Act.put, List.getElem_toArray, List.getElem_cons_succ, List.getElem_cons_zero, List.setIfInBounds_toArray, List.set_cons_zero, List.set_cons_succ]
      refine wpAnyH_take (i := 3) (v := ?v55) rfl (by kernel_rfl) (by kernel_rfl) (by kernel_rfl) (fun _ _ _ h => h) (Or.inl ⟨by rfl, ?hy55⟩) hHeld ?rest55
      case hy55 =>
        intro w' hSw
        try dsimp only at hSw
        go_simp
        first | done | with_reducible rfl
      try simp only [Act.put, List.getElem_toArray, List.getElem_cons_succ, List.getElem_cons_zero, List.setIfInBounds_toArray, List.set_cons_zero, List.set_cons_succ]
      refine wpAnyH_take (i := 4) rfl (by kernel_rfl) (by kernel_rfl) (by kernel_rfl) (fun _ _ _ h => h) (y_ky (by rfl) (.tmp 150) (by rfl) bn (i * 6) (by rfl) b (fun _ h => h.2.1)) hHeld ?_
      try simp only [Act.put, List.getElem_toArray, List.getElem_cons_succ, List.getElem_cons_zero, List.setIfInBounds_toArray, List.set_cons_zero, List.set_cons_succ]
      refine wpAnyH_take (i := 5) rfl (by kernel_rfl) (by kernel_rfl) (by kernel_rfl) (fun _ _ _ h => h) (y_ky (by rfl) (.tmp 9) (by rfl) g9 0 (by rfl) b (fun _ h => h.2.2)) hHeld ?_
      try simp only [Act.put, List.getElem_toArray, List.getElem_cons_succ, List.getElem_cons_zero, List.setIfInBounds_toArray, List.set_cons_zero, List.set_cons_succ]
      refine wpAnyH_take (i := 6) rfl (by kernel_rfl) (by kernel_rfl) (by kernel_rfl) (fun _ _ _ h => h) (y_kyne_me (by rfl) (by rfl) b (by rfl) (by rfl)) hHeld ?_
      try simp only [Act.put, List.getElem_toArray, List.getElem_cons_succ, List.getElem_cons_zero, List.setIfInBounds_toArray, List.set_cons_zero, List.set_cons_succ]
      refine wpAnyH_done (by kernel_rfl) ?_ _
      refine OnlyN.normal ?_
      clear hHeld
      go_wp2_with fail
      have HD := Lib.hid HC.out.1.drew
      clear HC
      go_loopw [21, 22, 23] (fun q21 _ _ W => ∃ t : Nat, t ≤ n ∧ q21 = .int .i64 t ∧ Wb w W q A' cap' ps l2 k (i : Int) x y N1) (fun q21 _ _ _ => n + 1 - (intOf q21).toNat)
      case atStart => exact ⟨0, by omega, rfl, HD.out⟩
      case round =>
        obtain ⟨t, ht, rfl, hc⟩ := hrel
        clear HD
        have HC := Lib.hid hc
        clear hc
        by_cases hlt : t < n
        · have d0 : decide ((t : Int) < (n : Int)) = true := decide_eq_true (by omega)
          have d1 : decide (t < n) = true := decide_eq_true hlt
          have d2 : (t : Int) < (n : Int) := by omega
          obtain ⟨z, hz⟩ : ∃ z, l2[t]? = some z := ⟨_, List.getElem?_eq_getElem (by rw [HL2n.out]; exact hlt)⟩
          have HT2 := Lib.hid hz
          by_cases htj : t = j
          · have e1 : ((t : Int) != (j : Int)) = false := by rw [htj]; simp
            have e2 : (t != j) = false := by rw [htj]; simp
            have e3 : decide (t = j) = true := decide_eq_true htj
            clear hz htj
            go_wp2_with (first
              | (go_at_call 21; refine (HSG.out _ HC.out t z HT2.out).mono ?_; rintro e_ dw ⟨rfl, c_⟩; have HE := Lib.hid ((HC.out.below c_).alloc (.cells z.cells.toArray 60)); have HEO := Lib.hid (show Nb N1 _ dw.heap.size 60 z.cells.toArray from ⟨Nat.le_trans HC.out.sz c_.size, Blk.new dw 60 z.cells.toArray⟩); have hk := (cell_eq HE.out.kk.six.2.1 HKO.out); clear c_)
              | (show wpList _ _ _ ({ dst := none, op := .store _ (.tmp 22) (.tmp 164), type := _, pos := _, after := _, guard := _ } :: _) _ _; refine wpList_store_last rfl (.tmp 22) (.tmp 164) rfl dw.heap.size rfl rfl z oz rfl ?_))
            clear hk
            generalize dw.heap.size = g22 at HEO ⊢
            generalize dw.alloc (.cells z.cells.toArray 60) = EW at HE HEO ⊢
            refine wp_region_only (S := fun W => W.cell? ⟨w.heap.size, 1, none⟩ = some (.int .i64 (j : Int))) (by kernel_rfl) (cell_eq HE.out.drew.kk.six.2.1 HKO.out) (fun hHeld => ?_)
            refine wpAnyH_take (i := 0) (v := ?v69) rfl (by kernel_rfl) (by kernel_rfl) (by kernel_rfl) (fun _ _ _ h => h) (Or.inl ⟨by rfl, ?hy69⟩) hHeld ?rest69
            case hy69 =>
              intro w' hSw
              try dsimp only at hSw
              go_simp
              first | done | with_reducible rfl
            try simp only [Act.put, List.getElem_toArray, List.getElem_cons_zero, List.setIfInBounds_toArray, List.set_cons_zero, List.set_cons_succ]
            refine wpAnyH_take (i := 1) (v := ?v70) rfl (by kernel_rfl) (by kernel_rfl) (by kernel_rfl) (fun _ _ _ h => h) (Or.inl ⟨by rfl, ?hy70⟩) hHeld ?rest70
            case hy70 =>
              intro w' hSw
              try dsimp only at hSw
              go_simp
              first | done | with_reducible rfl
            try simp only [Act.put, List.getElem_toArray, List.getElem_cons_succ, List.getElem_cons_zero, List.setIfInBounds_toArray, List.set_cons_zero, List.set_cons_succ]
            refine wpAnyH_take (i := 2) (v := ?v71) rfl (by kernel_rfl) (by kernel_rfl) (by kernel_rfl) (fun _ _ _ h => h) (Or.inl ⟨by rfl, ?hy71⟩) hHeld ?rest71
            case hy71 =>
              intro w' hSw
              try dsimp only at hSw
              go_simp
              first | done | with_reducible rfl
            try simp only [Act.put, List.getElem_toArray, List.getElem_cons_succ, List.getElem_cons_zero, List.setIfInBounds_toArray, List.set_cons_zero, List.set_cons_succ]
            refine wpAnyH_take (i := 3) (v := ?v72) rfl (by kernel_rfl) (by kernel_rfl) (by kernel_rfl) (fun _ _ _ h => h) (Or.inl ⟨by rfl, ?hy72⟩) hHeld ?rest72
            case hy72 =>
              intro w' hSw
              try dsimp only at hSw
              go_simp
              first | done | with_reducible rfl
            try simp only [Act.put, List.getElem_toArray, List.getElem_cons_succ, List.getElem_cons_zero, List.setIfInBounds_toArray, List.set_cons_zero, List.set_cons_succ]
            refine wpAnyH_take (i := 4) (v := ?v73) rfl (by kernel_rfl) (by kernel_rfl) (by kernel_rfl) (fun _ _ _ h => h) (Or.inl ⟨by rfl, ?hy73⟩) hHeld ?rest73
            case hy73 =>
              intro w' hSw
              try dsimp only at hSw
              go_simp
              first | done | with_reducible rfl
            try simp only [Act.put, List.getElem_toArray, List.getElem_cons_succ, List.getElem_cons_zero, List.setIfInBounds_toArray, List.set_cons_zero, List.set_cons_succ]
            refine wpAnyH_take (i := 5) (v := undef) rfl (by kernel_rfl) (by kernel_rfl) (by kernel_rfl) (fun _ _ _ h => h) (Or.inr ⟨by rfl, rfl⟩) hHeld ?_
            try simp only [Act.put, List.getElem_toArray, List.getElem_cons_succ, List.getElem_cons_zero, List.setIfInBounds_toArray, List.set_cons_zero, List.set_cons_succ]
            refine wpAnyH_take (i := 6) (v := undef) rfl (by kernel_rfl) (by kernel_rfl) (by kernel_rfl) (fun _ _ _ h => h) (Or.inr ⟨by rfl, rfl⟩) hHeld ?_
            try simp only [Act.put, List.getElem_toArray, List.getElem_cons_succ, List.getElem_cons_zero, List.setIfInBounds_toArray, List.set_cons_zero, List.set_cons_succ]
            refine wpAnyH_take (i := 7) (v := undef) rfl (by kernel_rfl) (by kernel_rfl) (by kernel_rfl) (fun _ _ _ h => h) (Or.inr ⟨by rfl, rfl⟩) hHeld ?_
            try simp only [Act.put, List.getElem_toArray, List.getElem_cons_succ, List.getElem_cons_zero, List.setIfInBounds_toArray, List.set_cons_zero, List.set_cons_succ]
            refine wpAnyH_take (i := 8) (v := undef) rfl (by kernel_rfl) (by kernel_rfl) (by kernel_rfl) (fun _ _ _ h => h) (Or.inr ⟨by rfl, rfl⟩) hHeld ?_
            try simp only [Act.put, List.getElem_toArray, List.getElem_cons_succ, List.getElem_cons_zero, List.setIfInBounds_toArray, List.set_cons_zero, List.set_cons_succ]
            refine wpAnyH_take (i := 9) (v := undef) rfl (by kernel_rfl) (by kernel_rfl) (by kernel_rfl) (fun _ _ _ h => h) (Or.inr ⟨by rfl, rfl⟩) hHeld ?_
            try simp only [Act.put, List.getElem_toArray, List.getElem_cons_succ, List.getElem_cons_zero, List.setIfInBounds_toArray, List.set_cons_zero, List.set_cons_succ]
            refine wpAnyH_take (i := 10) (v := undef) rfl (by kernel_rfl) (by kernel_rfl) (by kernel_rfl) (fun _ _ _ h => h) (Or.inr ⟨by rfl, rfl⟩) hHeld ?_
            try simp only [Act.put, List.getElem_toArray, List.getElem_cons_succ, List.getElem_cons_zero, List.setIfInBounds_toArray, List.set_cons_zero, List.set_cons_succ]
            refine wpAnyH_take (i := 11) (v := ?v74) rfl (by kernel_rfl) (by kernel_rfl) (by kernel_rfl) (fun _ _ _ h => h) (Or.inl ⟨by rfl, ?hy74⟩) hHeld ?rest74
            case hy74 =>
              intro w' hSw
              try dsimp only at hSw
              go_simp
              first | done | with_reducible rfl
            try simp only [Act.put, List.getElem_toArray, List.getElem_cons_succ, List.getElem_cons_zero, List.setIfInBounds_toArray, List.set_cons_zero, List.set_cons_succ]
            refine wpAnyH_done (by kernel_rfl) ?_ _
            refine OnlyN.normal ?_
            clear hHeld
            go_wp2
            go_roundw
            case rel => exact ⟨t + 1, by omega, by go_num, HE.out.drew⟩
            case measure => simp [intOf]; omega
          · have e1 : ((t : Int) != (j : Int)) = true := by simp; omega
            have e2 : (t != j) = true := by simpa using htj
            have e3 : decide (t = j) = false := decide_eq_false htj
            have hzl := (HOT.out t (by rw [HLN.out]; exact hlt) htj).symm.trans hz
            obtain ⟨htl, hzl⟩ := List.getElem?_eq_some_iff.1 hzl
            obtain ⟨lb, lo, rfl, hlo⟩ := HR.out t htl
            rw [hzl] at hlo
            have HLO := Lib.hid hlo
            clear hz hzl hlo htl
            go_wp2_with (first
              | (go_at_call 21; refine (HSG.out _ HC.out t z HT2.out).mono ?_; rintro e_ dw ⟨rfl, c_⟩; have HE := Lib.hid ((HC.out.below c_).alloc (.cells z.cells.toArray 60)); have HEO := Lib.hid (show Nb N1 _ dw.heap.size 60 z.cells.toArray from ⟨Nat.le_trans HC.out.sz c_.size, Blk.new dw 60 z.cells.toArray⟩); have hk := (cell_eq HE.out.kk.six.2.1 HKO.out); clear c_)
              | (show wpList _ _ _ ({ dst := none, op := .store _ (.tmp 22) (.tmp 164), type := _, pos := _, after := _, guard := _ } :: _) _ _; refine wpList_store_last rfl (.tmp 22) (.tmp 164) rfl dw.heap.size rfl rfl z oz rfl ?_))
            clear hk
            generalize dw.heap.size = g22 at HEO ⊢
            generalize dw.alloc (.cells z.cells.toArray 60) = EW at HE HEO ⊢
            refine wp_region_only (S := fun W => W.cell? ⟨w.heap.size, 1, none⟩ = some (.int .i64 (j : Int)) ∧ ObAt W g22 0 z ∧ ObAt W lb (lo + t * 163) z) (by kernel_rfl) ⟨(cell_eq HE.out.drew.kk.six.2.1 HKO.out), HEO.out.drew.blk.ob, (HLO.out.below HE.out.drew.bel)⟩ (fun hHeld => ?_)
            refine wpAnyH_take (i := 0) (v := ?v60) rfl (by kernel_rfl) (by kernel_rfl) (by kernel_rfl) (fun _ _ _ h => h) (Or.inl ⟨by rfl, ?hy60⟩) hHeld ?rest60
            case hy60 =>
              intro w' hSw
              try dsimp only at hSw
              go_simp
              first | done | with_reducible rfl
            try simp only [Act.put, List.getElem_toArray, List.getElem_cons_zero, List.setIfInBounds_toArray, List.set_cons_zero, List.set_cons_succ]
            refine wpAnyH_take (i := 1) (v := ?v61) rfl (by kernel_rfl) (by kernel_rfl) (by kernel_rfl) (fun _ _ _ h => h) (Or.inl ⟨by rfl, ?hy61⟩) hHeld ?rest61
            case hy61 =>
              intro w' hSw
              try dsimp only at hSw
              go_simp
              first | done | with_reducible rfl
            try simp only [Act.put, List.getElem_toArray, List.getElem_cons_succ, List.getElem_cons_zero, List.setIfInBounds_toArray, List.set_cons_zero, List.set_cons_succ]
            refine wpAnyH_take (i := 2) (v := ?v62) rfl (by kernel_rfl) (by kernel_rfl) (by kernel_rfl) (fun _ _ _ h => h) (Or.inl ⟨by rfl, ?hy62⟩) hHeld ?rest62
            case hy62 =>
              intro w' hSw
              try dsimp only at hSw
              go_simp
              first | done | with_reducible rfl
            try simp only [Act.put, List.getElem_toArray, List.getElem_cons_succ, List.getElem_cons_zero, List.setIfInBounds_toArray, List.set_cons_zero, List.set_cons_succ]
            refine wpAnyH_take (i := 3) (v := ?v63) rfl (by kernel_rfl) (by kernel_rfl) (by kernel_rfl) (fun _ _ _ h => h) (Or.inl ⟨by rfl, ?hy63⟩) hHeld ?rest63
            case hy63 =>
              intro w' hSw
              try dsimp only at hSw
              go_simp
              first | done | with_reducible rfl
            try simp only [Act.put, List.getElem_toArray, List.getElem_cons_succ, List.getElem_cons_zero, List.setIfInBounds_toArray, List.set_cons_zero, List.set_cons_succ]
            refine wpAnyH_take (i := 4) (v := ?v64) rfl (by kernel_rfl) (by kernel_rfl) (by kernel_rfl) (fun _ _ _ h => h) (Or.inl ⟨by rfl, ?hy64⟩) hHeld ?rest64
            case hy64 =>
              intro w' hSw
              try dsimp only at hSw
              go_simp
              first | done | with_reducible rfl
            try simp only [Act.put, List.getElem_toArray, List.getElem_cons_succ, List.getElem_cons_zero, List.setIfInBounds_toArray, List.set_cons_zero, List.set_cons_succ]
            refine wpAnyH_take (i := 5) rfl (by kernel_rfl) (by kernel_rfl) (by kernel_rfl) (fun _ _ _ h => h) (y_ob (by rfl) (.tmp 22) (by rfl) g22 0 (by rfl) z (fun _ h => h.2.1)) hHeld ?_
            try simp only [Act.put, List.getElem_toArray, List.getElem_cons_succ, List.getElem_cons_zero, List.setIfInBounds_toArray, List.set_cons_zero, List.set_cons_succ]
            refine wpAnyH_take (i := 6) (v := ?v65) rfl (by kernel_rfl) (by kernel_rfl) (by kernel_rfl) (fun _ _ _ h => h) (Or.inl ⟨by rfl, ?hy65⟩) hHeld ?rest65
            case hy65 =>
              intro w' hSw
              try dsimp only at hSw
              go_simp
              first | done | with_reducible rfl
            try simp only [Act.put, List.getElem_toArray, List.getElem_cons_succ, List.getElem_cons_zero, List.setIfInBounds_toArray, List.set_cons_zero, List.set_cons_succ]
            refine wpAnyH_take (i := 7) (v := ?v66) rfl (by kernel_rfl) (by kernel_rfl) (by kernel_rfl) (fun _ _ _ h => h) (Or.inl ⟨by rfl, ?hy66⟩) hHeld ?rest66
            case hy66 =>
              intro w' hSw
              try dsimp only at hSw
              go_simp
              first | done | with_reducible rfl
            try simp only [Act.put, List.getElem_toArray, List.getElem_cons_succ, List.getElem_cons_zero, List.setIfInBounds_toArray, List.set_cons_zero, List.set_cons_succ]
            refine wpAnyH_take (i := 8) (v := ?v67) rfl (by kernel_rfl) (by kernel_rfl) (by kernel_rfl) (fun _ _ _ h => h) (Or.inl ⟨by rfl, ?hy67⟩) hHeld ?rest67
            case hy67 =>
              intro w' hSw
              try dsimp only at hSw
              go_simp
              first | done | with_reducible rfl
            try simp only [Act.put, List.getElem_toArray, List.getElem_cons_succ, List.getElem_cons_zero, List.setIfInBounds_toArray, List.set_cons_zero, List.set_cons_succ]
            refine wpAnyH_take (i := 9) rfl (by kernel_rfl) (by kernel_rfl) (by kernel_rfl) (fun _ _ _ h => h) (y_ob (by rfl) (.tmp 174) (by rfl) lb (lo + t * 163) (by rfl) z (fun _ h => h.2.2)) hHeld ?_
            try simp only [Act.put, List.getElem_toArray, List.getElem_cons_succ, List.getElem_cons_zero, List.setIfInBounds_toArray, List.set_cons_zero, List.set_cons_succ]
            refine wpAnyH_take (i := 10) rfl (by kernel_rfl) (by kernel_rfl) (by kernel_rfl) (fun _ _ _ h => h) (y_obne_self (by rfl) (by rfl) z (by rfl) (by rfl)) hHeld ?_
            try simp only [Act.put, List.getElem_toArray, List.getElem_cons_succ, List.getElem_cons_zero, List.setIfInBounds_toArray, List.set_cons_zero, List.set_cons_succ]
            refine wpAnyH_take (i := 11) (v := ?v68) rfl (by kernel_rfl) (by kernel_rfl) (by kernel_rfl) (fun _ _ _ h => h) (Or.inl ⟨by rfl, ?hy68⟩) hHeld ?rest68
            case hy68 =>
              intro w' hSw
              try dsimp only at hSw
              go_simp
              first | done | with_reducible rfl
            try simp only [Act.put, List.getElem_toArray, List.getElem_cons_succ, List.getElem_cons_zero, List.setIfInBounds_toArray, List.set_cons_zero, List.set_cons_succ]
            refine wpAnyH_done (by kernel_rfl) ?_ _
            refine OnlyN.normal ?_
            clear hHeld
            go_wp2
            go_roundw
            case rel => exact ⟨t + 1, by omega, by go_num, HE.out.drew⟩
            case measure => simp [intOf]; omega
        · have d0 : decide ((t : Int) < (n : Int)) = false := decide_eq_false (by omega)
          have d1 : decide (t < n) = false := decide_eq_false hlt
          go_wp2_with (first
            | (go_at_call 10; refine (known_any _ (HT.out.below HC.out.bel)).mono ?_; rintro e v9 ⟨rfl, b_⟩; have B9 := Lib.hid (HC.out.bel.trans (b_.mono (HC.out.bel).size)); clear b_))
          go_ret
          exact ⟨rfl, B9.out⟩
set_option maxRecDepth 8000 in
theorem walk (w : World) (hL : laidMetH Tryd.prog laidK w) (A : Option Addr) (l : List Oj) (cap : Nat) (hr : RdO w A l) (k : Ky) (s : Int) (x y : Ky) : Calls Tryd.prog 6 #[.slice A l.length cap, k.val, .agg (twc s x y)] w fun e w' => e = .returned (.bool true) ∧ Below w.heap.size w w' := by
  by_cases h : madeP l
  · by_cases hy : y.may l.length
    · by_cases he : (putA l k s x).2.2 = 0
      · obtain ⟨i, j, r1, a, b, l1, l2, M, N, u1, u2, rfl, hi, hko, hjl, h1, h2, h3, h4, h5, h6, h7, h8, h9, h10, h11, h12, h13, h14⟩ := back_is h.2.2.2 he hy
        exact walk_yes w (tab_of hL) A l cap k i x y hr h hy hi j hko r1 a b l1 l2 M N u1 u2 h1 h2 h3 h4 h5 h6 h7 h8 h9 h10 h11 h12 h13 h14
      · have hb := putA_bad he
        exact walk_err w (tab_of hL) A l cap k s x y hr h hy (putA l k s x).2.1 (putA l k s x).2.2 (Prod.ext hb (Prod.ext rfl rfl)) he
    · exact walk_may w (tab_of hL) A l cap k s x y hr h hy
  · exact walk_no w (tab_of hL) A l cap k s x y hr h
set_option maxRecDepth 100000 in
theorem lifted (os : Os) (started : os.Started) (H : Type) (enc : TypeId × Value → H) :
    ReturnsInHanded {} Tryd.checked os 6 .any (fun w args => (Rows.nodesBackSpec.pre enc Tryd.prog Tryd.f6 [] false w args ∧ laidMetH Tryd.prog laidK w) ∧ sizedMet enc Tryd.prog Tryd.f6 (OpenSpec.ofChange Rows.nodesBackSpec) false w args) (Rows.nodesBackSpec.post enc Tryd.prog Tryd.f6 false true false false) := by
  refine returnsInHanded_of_change_and (C := Tryd.checked) (X := fun w _ => laidMetH Tryd.prog laidK w) (fun _ _ _ hh h => h.of_heap hh) own started (by kernel_rfl) Tryd.func6
    (ChangeSpec.witness_shaped (enc := enc) (C := Tryd.checked) (os := os) (X := fun w _ => laidMetH Tryd.prog laidK w) false (World.doorLaid Tryd.prog 40 os) #[.slice none 0 0, .agg #[.int .i64 0, .int .i64 0, .int .i64 0, .int .i64 0, .int .i64 0, .int .i64 0], .agg #[.int .i64 0, .int .i64 0, .int .i64 0, .int .i64 0, .int .i64 0, .int .i64 0, .int .i64 0, .int .i64 0, .int .i64 0, .int .i64 0, .int .i64 0, .int .i64 0, .int .i64 0]] 8 rfl (World.shaped_of_RefB (by kernel_rfl) (by kernel_rfl)) (by kernel_rfl) (by kernel_rfl) (by kernel_rfl) (door_met os _)) ?_
  intro W base args ds gs before hval0 hW _ _ hL _
  have hval : ∀ (j : Nat) t v, Tryd.f6.params[j]? = some t → args[j]? = some v → Value.okWide Tryd.prog W .any base t v := hval0
  have hW' := hW
  obtain ⟨p, q, hA0, hV, rfl, hfz, hnd⟩ := hW
  have hA : DataW.TrodAll enc Tryd.prog W 0 (fun _ => true) true Tryd.f6.params.toList args.toList ds p := hA0
  rw [Tryd.params6] at hA hval
  obtain ⟨v0, vs0, d0, ds0, p0, q0, hargs, rfl, rfl, h0, t0⟩ := trodAll_cons hA
  obtain ⟨v1, vs1, d1, ds1, p1, q1, rfl, rfl, rfl, h1, t1⟩ := trodAll_cons t0
  obtain ⟨v2, vs2, d2, ds2, p2, q2, rfl, rfl, rfl, h2, t2⟩ := trodAll_cons t1
  obtain ⟨rfl, rfl, rfl⟩ := trodAll_nil t2
  obtain rfl : args = #[v0, v1, v2] := by cases args; simp_all
  obtain ⟨rfl, rfl⟩ := trodVars_none hV
  have k0 := h0
  have lt0 : ∀ x ∈ p0, x.block < W.heap.size := by obtain ⟨m, hm⟩ := k0; exact DataW.trod_lt m _ _ _ hm
  obtain ⟨A0, l0, c0, rfl, hlc0, hcm0, hr0⟩ := open_obs (hval 0 22 v0 rfl rfl) h0
  have k1 := h1
  have lt1 : ∀ x ∈ p1, x.block < W.heap.size := by obtain ⟨m, hm⟩ := k1; exact DataW.trod_lt m _ _ _ hm
  obtain ⟨kx1, rfl⟩ := open_key (hval 1 32 v1 rfl rfl) h1
  have k2 := h2
  have lt2 : ∀ x ∈ p2, x.block < W.heap.size := by obtain ⟨m, hm⟩ := k2; exact DataW.trod_lt m _ _ _ hm
  obtain ⟨s2, x2, y2, rfl⟩ := open_two (hval 2 50 v2 rfl rfl) h2
  clear hA0 hval0
  refine (walk W hL A0 l0 c0 hr0 kx1 s2 x2 y2).mono fun e W' ⟨he, bel⟩ => ?_
  subst he
  exact ⟨_, rfl, _, _, _, [], _, [], hW', trodAll_mk1 (shut_bool Tryd.underlying4 _), (trodAll_cons_mk (Below.trod laidOut (by kernel_rfl) (of_decide_eq_true (by kernel_rfl)) k0 bel lt0) (trodAll_cons_mk (Below.trod laidOut (by kernel_rfl) (of_decide_eq_true (by kernel_rfl)) k1 bel lt1) (trodAll_cons_mk (Below.trod laidOut (by kernel_rfl) (of_decide_eq_true (by kernel_rfl)) k2 bel lt2) trodAll_mk0))), rfl, bel.frame _, fun h => by cases h⟩
theorem over : Rows.nodesBackRow.holds Tryd.pinned (OpenSpec.ofChange Rows.nodesBackSpec) :=
  OpenClaim.holds_of_wide 6 Tryd.f6 rfl rfl rfl rfl rfl rfl rfl ⟨rfl, rfl, rfl, rfl, rfl⟩ rfl rfl rfl rfl rfl (by kernel_rfl) Tryd.func6 (by kernel_rfl)
    (of_decide_eq_true (by kernel_rfl)) (by unfold Func.isWrapper; first | (rw [if_pos (by decide +kernel)]; kernel_rfl) | (rw [if_neg (by decide +kernel)]; exact ⟨rfl, rfl⟩))
    (fun os started H enc _ => lifted os started H enc)
set_option maxRecDepth 8000 in
theorem proved : Rows.NodesBackCardSaid :=
  Claim7.holds_tied_plain_at .later [] [.data] true Rows.nodesBackCard.stood.harness true
    over (fun _ h => by cases h) (by kernel_rfl) (fun _ h => by cases h) nodesBack_row_tie rfl ⟨rfl, rfl⟩ (by kernel_rfl) rfl
    (fun f fn hf hfn => by
      obtain rfl : f = 6 := Option.some.inj ((show Tryd.prog.funcNamed "chatelaine/chatelainelaw09.NodesBack" = some 6 by kernel_rfl).symm.trans hf) |>.symm
      obtain rfl : fn = Tryd.f6 := (Option.some.inj (Tryd.func6.symm.trans hfn)).symm
      exact ⟨by kernel_rfl, fun j t ht => by
        rw [Tryd.params6] at ht
        have hm : t ∈ [22, 32, 50] := by simpa using Array.mem_of_getElem? ht
        have hall : ([22, 32, 50].all fun u => !Tryd.prog.wantsStandIn u) = true := by kernel_rfl
        exact (show Tryd.prog.wantsStandIn t = false by simpa using List.all_eq_true.1 hall t hm)⟩)
    (by kernel_rfl)
end Go.Proofs.YtliakhknmckdgaaDoor.nodesBack

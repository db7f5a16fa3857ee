/- banks: split. -/
import Derived.Test.YteodgefnbmiblaaDoorBGv
namespace Go.Proofs.YteodgefnbmiblaaDoor
open Go.RowKit Go.Shelf
attribute [local go_sem] Oper.semAt_some
/-- how all stands: the store has L -/
structure Sq (w W : World) (base p : Nat) (A : Option Addr) (cap : Nat) (ps : List Nat) (x : Int) (u : Oj) (L : List Oj) : Prop where
  fr : Fr (fun k => k ∈ ps) w W
  sz : w.heap.size + 2 ≤ W.heap.size
  st : StAt W base p A cap ps L
  b0 : Blk W w.heap.size 78 (bkc p x u).toArray
  b1 : Blk W (w.heap.size + 1) 33 (kl zk).toArray
  hp : p < w.heap.size
section
variable {w W W' : World} {base p : Nat} {A : Option Addr} {cap : Nat} {ps : List Nat} {x : Int} {u : Oj} {L L' : List Oj}
theorem Sq.below (h : Sq w W base p A cap ps x u L) (hb : Below W.heap.size W W') : Sq w W' base p A cap ps x u L := ⟨h.fr.trans (Fr.of_below hb), Nat.le_trans h.sz hb.size, h.st.below hb, h.b0.keep hb, h.b1.keep hb, h.hp⟩
theorem Sq.alloc (h : Sq w W base p A cap ps x u L) (o : Obj) : Sq w (W.alloc o) base p A cap ps x u L := h.below ((Below.refl _ _).alloc (Nat.le_refl _) o)
theorem Sq.drew (h : Sq w W base p A cap ps x u L) : Sq w W.drew base p A cap ps x u L := ⟨h.fr.drew, h.sz, h.st.drew, h.b0.drew, h.b1.drew, h.hp⟩
theorem Sq.fr' (h : Sq w W base p A cap ps x u L) (hf : Fr (fun k => k ∈ ps) W W') (hs : StAt W' base p A cap ps L') : Sq w W' base p A cap ps x u L' := ⟨h.fr.trans hf, Nat.le_trans h.sz hf.size, hs, h.st.blkF hf h.b0 (by decide), h.st.blkF hf h.b1 (by decide), h.hp⟩
theorem Sq.set (h : Sq w W base p A cap ps x u L) {g : Nat} {t : TypeId} {c0 : Array Value} (hg : Blk W g t c0) (ht : t ≠ 91 ∧ t ≠ 47) (h2 : w.heap.size + 2 ≤ g) (c : Array Value) : Sq w (W.setRow g c) base p A cap ps x u L :=
  ⟨h.fr.then_ (setRow_fr _ _ _) (fun i hi he => by omega), by have := h.sz; simpa [World.setRow] using this, h.st.keep fun k hk => setRow_other _ _ _ _ (fun e => h.st.blk_ne hg ht (by have := h.hp; omega) (e ▸ hk)), Blk.row_far h.b0 (by omega) _, Blk.row_far h.b1 (by omega) _, h.hp⟩
theorem Sq.setc (h : Sq w W base p A cap ps x u L) {g : Nat} {t : TypeId} {c0 : Array Value} (hg : Blk W g t c0) (ht : t ≠ 91 ∧ t ≠ 47) (h2 : w.heap.size + 2 ≤ g) (o : Nat) (v : Value) : Sq w (W.setCell ⟨g, o, none⟩ v) base p A cap ps x u L :=
  ⟨h.fr.setCell (fun hx => absurd hx (by show ¬ g < w.heap.size; omega)) _, by have := h.sz; simpa [World.setCell] using this, h.st.keep fun k hk => Below.heap_setCell _ _ _ _ (fun e => h.st.blk_ne hg ht (by have := h.hp; omega) (by simp only at e; exact e ▸ hk)), Blk.far h.b0 (by show w.heap.size ≠ g; omega) _, Blk.far h.b1 (by show w.heap.size + 1 ≠ g; omega) _, h.hp⟩
set_option maxRecDepth 8000 in
theorem Sq.own {X Y : World} {row : Option Nat} {B : Nat} (hB : w.heap.size + 2 ≤ B) (h : Sq w X base p A cap ps x u L) (hg : X.grownBy Y row) (hr : ∀ q, row = some q → B ≤ q ∧ ∃ o : Obj, X.heap[q]? = some o ∧ o.isCells = false) : Sq w Y base p A cap ps x u L := by
  have hb : ∀ k, k < X.heap.size → k < w.heap.size + 2 → Y.heap[k]? = X.heap[k]? := fun k hk hlt => hg.block k hk (fun e => by have := (hr k e.symm).1; omega)
  refine ⟨⟨hg.os.trans h.fr.os, hg.tape.trans h.fr.tape, hg.output.trans h.fr.output, Nat.le_trans h.fr.size hg.size, fun k hk hs => (hb k (by have := h.fr.size; omega) (by omega)).trans (h.fr.block k hk hs)⟩, Nat.le_trans h.sz hg.size, h.st.keep fun k hk => ?_, (hb _ h.b0.lt (by omega)).trans h.b0, (hb _ h.b1.lt (by omega)).trans h.b1, h.hp⟩
  obtain ⟨o, ho, hc⟩ := h.st.isCells hk
  refine hg.block k (Array.getElem?_eq_some_iff.1 ho).1 (fun e => ?_)
  obtain ⟨_, o', ho', hc'⟩ := hr k e.symm
  rw [ho] at ho'
  injection ho' with ho'
  subst ho'
  rw [hc] at hc'
  cases hc'
end
/-- all from m to b are free or retired -/
def AllE (L : List Oj) (m b : Nat) : Prop := ∀ i, m ≤ i → i ≤ b → emp ((L[i]?).getD oz)
/-- the node's own key -/
def ownK (x : Int) (u : Oj) : Ky := ⟨2, x, u.c, 0, 0, 0⟩
/-- the store behind a split, whose new node is told by k -/
noncomputable def spL (os : List Oj) (x : Int) (u : Oj) (k : Ky) (a b m : Nat) : List Oj := gvA (gvA (mkL os a b 1) k (m : Int) (b : Int)) (ownK x u) (a : Int) ((m : Int) - 1)
/-- the new bank's key -/
def bnkK (k : Ky) : Ky := ⟨4, k.o, k.c, 0, 0, 0⟩
section
variable {w : World} {base p : Nat} {A : Option Addr} {cap : Nat} {ps : List Nat} {os : List Oj}
theorem retN_ok {os : List Oj} (ho : okAll os.length os) (a : Nat) : ∀ n, okAll os.length (retN os a n)
  | 0 => ho
  | n + 1 => by
    rw [retN]
    cases hq : os[a + n]? with
    | none =>
      rw [List.set_eq_of_length_le (by rw [retN_len]; simpa using hq)]
      exact retN_ok ho a n
    | some o =>
      have hoo := ho o (List.mem_of_getElem? hq)
      refine okAll_set (retN_ok ho a n) _ ?_
      show (retO o).ok os.length
      unfold retO
      split
      · exact oKC_ok hoo.1 (.inr (.inr (.inr rfl))) hoo.2.1
      · exact hoo
set_option maxRecDepth 8000 in
theorem mkL_ok {os : List Oj} (ho : okAll os.length os) {x : Ky} {j : Nat} {u : Oj} {a b : Nat} (d : BkD os x j u a b) {kind : Int} (hk : kind = 1 ∨ kind = 2) : okAll os.length (mkL os a b kind) := by
  unfold mkL
  split
  · next i hi =>
    obtain ⟨h1, h2, _⟩ := fnd_some hi
    have hl : a + i < os.length := by have := d.bl; omega
    have hq : os[a + i]? = some os[a + i] := List.getElem?_eq_getElem hl
    rw [hq, Option.getD_some] at h2 ⊢
    have hok := ho _ (List.getElem_mem hl)
    exact okAll_set (retN_ok ho a i) _ (oKC_ok hok.1 (by omega) ⟨by have := hok.2.1.1; omega, by have := h2.2; omega⟩)
  · exact retN_ok ho a _
set_option maxRecDepth 8000 in
theorem step_allocI {ops : Array Oper} {o : Oper} {a : Act} {w : World} {K : Act → World → Prop} {Q : Exit → Act → World → Prop} {E : Prop} (hgd : o.guard = none) (ho : o.op = .alloc 3)
    (h : ∀ g w', g = w.heap.size → w' = w.alloc (.cells #[.int .i64 0] 3) → K (a.put o.dst (.pointer (some ⟨g, 0, none⟩))) w') :
    if Region.wanted o (yielded ops a.tmps) = true then Oper.wp Tryd.prog o a w K Q else E := by
  have hw : Region.wanted o (yielded ops a.tmps) = true := by simp [Region.wanted, hgd]
  rw [if_pos hw]
  unfold Oper.wp
  simp [execOp, ho, Result.andThen]
  exact h _ _ rfl rfl
set_option maxRecDepth 100000 in
set_option maxHeartbeats 4000000 in
theorem split_none (h : StAt w base p A cap ps os) (ho : okAll os.length os) (hT : TabB base w) {xk : Ky} {j : Nat} {u : Oj} {a b : Nat} (d0 : BkD os xk j u a b) (hN : os.length ≤ 64) (n : Int) (hf : fnd os a (b + 1 - a) = none) :
    Calls Tryd.prog 37 #[bkv p xk.o u, .int .i64 n] w fun e w' => e = .panicked (erc 221) ∧ ∃ L, StAt w' base p A cap ps L ∧ Fr (fun k => k ∈ ps) w w' := by
  have hbl := bkc_len p xk.o u
  have HST := Lib.hid h
  have HO := Lib.hid ho
  have HT := Lib.hid hT
  have HNN := Lib.hid hN
  have DD := Lib.hid d0
  have HF := Lib.hid hf
  have HBV := Lib.hid d0.v1
  have W0 := Lib.hid (show w.heap.size + 2 ≤ ((w.alloc (.cells (bkc p xk.o u).toArray 78)).alloc (.cells (kl zk).toArray 33)).heap.size by simp)
  have Q0 := Lib.hid (show Sq w ((w.alloc (.cells (bkc p xk.o u).toArray 78)).alloc (.cells (kl zk).toArray 33)) base p A cap ps xk.o u os from ⟨Fr.of_below (((Below.refl w.heap.size w).alloc (Nat.le_refl _) (.cells (bkc p xk.o u).toArray 78)).alloc (by simp) (.cells (kl zk).toArray 33)), W0.out, (h.alloc _).alloc _, (Blk.new w _ _).alloc _, Blk.new_of _ _ _ (by simp), (h.lt p (.inl rfl)).2⟩)
  clear h ho hT hN d0 hf
  go_enter Tryd.func37, Tryd.ntmps37
  go_wp2_with fail
  refine wp_region_held_drew (S := fun w' => BkAt w' w.heap.size 0 p xk.o u) (by kernel_rfl) Q0.out.drew.b0.bk (fun hHeld => ?_)
  refine wpAnyH_take (i := 0) rfl (by kernel_rfl) (by kernel_rfl) (by kernel_rfl) (fun _ _ _ h => h) (y_bk (by rfl) (.tmp 2) (by rfl) w.heap.size 0 (by rfl) p xk.o u (fun _ h => h)) hHeld ?_
  try simp only [Act.put, List.getElem_toArray, List.getElem_cons_zero, List.setIfInBounds_toArray, List.set_cons_zero, List.set_cons_succ]
  refine wpAnyH_take (i := 2) rfl (by kernel_rfl) (by kernel_rfl) (by kernel_rfl) (fun _ _ _ h => h) (y_bk (by rfl) (.tmp 2) (by rfl) w.heap.size 0 (by rfl) p xk.o u (fun _ h => h)) hHeld ?_
  try simp only [Act.put, List.getElem_toArray, List.getElem_cons_succ, List.getElem_cons_zero, List.setIfInBounds_toArray, List.set_cons_zero, List.set_cons_succ]
  refine wpAnyH_take (i := 4) (v := ?v1) rfl (by kernel_rfl) (by kernel_rfl) (by kernel_rfl) (fun _ _ _ h => h) (Or.inl ⟨by rfl, ?hy1⟩) hHeld ?rest1
  case hy1 =>
    intro w' hSw
    try dsimp only at hSw
    go_simp
    first | done | with_reducible rfl
  try simp only [Act.put, List.getElem_toArray, List.getElem_cons_succ, List.getElem_cons_zero, List.setIfInBounds_toArray, List.set_cons_zero, List.set_cons_succ]
  refine wpAnyH_ready (rs := [1, 7, 8]) (by kernel_rfl) (by simp) ?_
  refine AllReadyH.cons (by rfl) (fun K hK => ?_) (AllReadyH.cons (by rfl) (fun K hK => ?_) (AllReadyH.cons (by rfl) (fun K hK => ?_) AllReadyH.nil))
  · go_simp
    refine (made_none Q0.out.drew.st HO.out (HT.out.fr HST.out Q0.out.drew.fr) DD.out HNN.out 1 (.inl rfl) HF.out).mono ?_
    rintro e_ w1 ⟨rfl, hs_, hf_⟩
    exact ⟨rfl, rfl, _, hs_, Q0.out.drew.fr.trans hf_⟩
  · refine step_alloc30 rfl (by rfl) ?_
    intro g w2 hg hw
    have Q2 : Hid (Sq w w2 base p A cap ps xk.o u os) := Lib.hid (by subst hw; exact Q0.out.drew.alloc _)
    have Eg : Hid (w.heap.size + 2 ≤ g) := Lib.hid (by have h1 := Q0.out.sz; subst hg; exact h1)
    have Gg2 : Hid (Blk w2 g 33 (kl zk).toArray) := Lib.hid (by subst hw hg; exact Blk.new _ _ _)
    clear hg hw hHeld
    refine hK.out _ _ Q2.out.b0.bk (fun hHeld => ?_)
    clear hK K
    try simp only [Act.put, List.getElem_toArray, List.getElem_cons_succ, List.getElem_cons_zero, List.setIfInBounds_toArray, List.set_cons_zero, List.set_cons_succ]
    refine wpAnyH_ready (rs := [1, 8]) (by kernel_rfl) (by simp) ?_
    refine AllReadyH.cons (by rfl) (fun K hK => ?_) (AllReadyH.cons (by rfl) (fun K hK => ?_) AllReadyH.nil)
    · go_simp
      refine (made_none Q2.out.st HO.out (HT.out.fr HST.out Q2.out.fr) DD.out HNN.out 1 (.inl rfl) HF.out).mono ?_
      rintro e_ w3 ⟨rfl, hs_, hf_⟩
      exact ⟨rfl, rfl, _, hs_, Q2.out.fr.trans hf_⟩
    · refine step_allocI rfl (by rfl) ?_
      intro h w4 hg hw
      have Q4 : Hid (Sq w w4 base p A cap ps xk.o u os) := Lib.hid (by subst hw; exact Q2.out.alloc _)
      have Eh : Hid (w.heap.size + 2 ≤ h) := Lib.hid (by have h1 := Q2.out.sz; subst hg; exact h1)
      have Gh4 : Hid (Blk w4 h 3 #[.int .i64 0]) := Lib.hid (by subst hw hg; exact Blk.new _ _ _)
      have Gg4 : Hid (Blk w4 g 33 (kl zk).toArray) := Lib.hid (by subst hw; exact Gg2.out.alloc _)
      have NE : Hid (g ≠ h) := Lib.hid (by have h1 := Gg2.out.lt; subst hg; omega)
      clear hg hw hHeld
      refine hK.out _ _ Q4.out.b0.bk (fun hHeld => ?_)
      clear hK K
      try simp only [Act.put, List.getElem_toArray, List.getElem_cons_succ, List.getElem_cons_zero, List.setIfInBounds_toArray, List.set_cons_zero, List.set_cons_succ]
      refine wpAnyH_ready (rs := [1]) (by kernel_rfl) (by simp) ?_
      refine AllReadyH.cons (by rfl) (fun K hK => ?_) AllReadyH.nil
      · go_simp
        refine (made_none Q4.out.st HO.out (HT.out.fr HST.out Q4.out.fr) DD.out HNN.out 1 (.inl rfl) HF.out).mono ?_
        rintro e_ w5 ⟨rfl, hs_, hf_⟩
        exact ⟨rfl, rfl, _, hs_, Q4.out.fr.trans hf_⟩
  · refine step_allocI rfl (by rfl) ?_
    intro h w6 hg hw
    have Q6 : Hid (Sq w w6 base p A cap ps xk.o u os) := Lib.hid (by subst hw; exact Q0.out.drew.alloc _)
    have Eh : Hid (w.heap.size + 2 ≤ h) := Lib.hid (by have h1 := Q0.out.sz; subst hg; exact h1)
    have Gh6 : Hid (Blk w6 h 3 #[.int .i64 0]) := Lib.hid (by subst hw hg; exact Blk.new _ _ _)
    clear hg hw hHeld
    refine hK.out _ _ Q6.out.b0.bk (fun hHeld => ?_)
    clear hK K
    try simp only [Act.put, List.getElem_toArray, List.getElem_cons_succ, List.getElem_cons_zero, List.setIfInBounds_toArray, List.set_cons_zero, List.set_cons_succ]
    refine wpAnyH_ready (rs := [1, 7]) (by kernel_rfl) (by simp) ?_
    refine AllReadyH.cons (by rfl) (fun K hK => ?_) (AllReadyH.cons (by rfl) (fun K hK => ?_) AllReadyH.nil)
    · go_simp
      refine (made_none Q6.out.st HO.out (HT.out.fr HST.out Q6.out.fr) DD.out HNN.out 1 (.inl rfl) HF.out).mono ?_
      rintro e_ w7 ⟨rfl, hs_, hf_⟩
      exact ⟨rfl, rfl, _, hs_, Q6.out.fr.trans hf_⟩
    · refine step_alloc30 rfl (by rfl) ?_
      intro g w8 hg hw
      have Q8 : Hid (Sq w w8 base p A cap ps xk.o u os) := Lib.hid (by subst hw; exact Q6.out.alloc _)
      have Eg : Hid (w.heap.size + 2 ≤ g) := Lib.hid (by have h1 := Q6.out.sz; subst hg; exact h1)
      have Gg8 : Hid (Blk w8 g 33 (kl zk).toArray) := Lib.hid (by subst hw hg; exact Blk.new _ _ _)
      have Gh8 : Hid (Blk w8 h 3 #[.int .i64 0]) := Lib.hid (by subst hw; exact Gh6.out.alloc _)
      have NE : Hid (g ≠ h) := Lib.hid (by have h1 := Gh6.out.lt; subst hg; omega)
      clear hg hw hHeld
      refine hK.out _ _ Q8.out.b0.bk (fun hHeld => ?_)
      clear hK K
      try simp only [Act.put, List.getElem_toArray, List.getElem_cons_succ, List.getElem_cons_zero, List.setIfInBounds_toArray, List.set_cons_zero, List.set_cons_succ]
      refine wpAnyH_ready (rs := [1]) (by kernel_rfl) (by simp) ?_
      refine AllReadyH.cons (by rfl) (fun K hK => ?_) AllReadyH.nil
      · go_simp
        refine (made_none Q8.out.st HO.out (HT.out.fr HST.out Q8.out.fr) DD.out HNN.out 1 (.inl rfl) HF.out).mono ?_
        rintro e_ w9 ⟨rfl, hs_, hf_⟩
        exact ⟨rfl, rfl, _, hs_, Q8.out.fr.trans hf_⟩
end
end Go.Proofs.YteodgefnbmiblaaDoor

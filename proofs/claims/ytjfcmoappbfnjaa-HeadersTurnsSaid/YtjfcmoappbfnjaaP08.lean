/- A region that draws its order, within a round: by the laws for one without. -/
import Derived.Test.YtjfcmoappbfnjaaP01
import Derived.RangeFuncNested
import Derived.OrdersHeld
import Derived.OrdersIn
import Derived.Deep.RegionHeld3
import Derived.Test.YtjfcmoappbfnjaaP07
import Derived.Deep.AppendLies
namespace Go.Proofs.Ytjfcmoappbfnjaa
open List renaming getElem_toArray → zq1, getElem_cons_succ → zq2, getElem_cons_zero → zq3, setIfInBounds_toArray → zq4, set_cons_zero → zq5, set_cons_succ → zq6
open Go.RowKit
/-- Q at the normal end, and no other end -/
def OnlyN (Q : Exit → Act → World → Prop) : Exit → Act → World → Prop
  | .normal, a, w => Q .normal a w
  | _, _, _ => False
section
variable {P : Program} {ops : Array Oper} {Q : Exit → Act → World → Prop} {md : Region.Mode} {S : World → Prop} {l n : Nat}
set_option maxRecDepth 8000 in
theorem onlyN_not_out : ¬ LetsOut (OnlyN Q) := by rintro ⟨a, w, h⟩; exact h
set_option maxRecDepth 8000 in
theorem wpOpIn_of_only (hd : ∀ (i : Nat) (o : Oper), ops[i]? = some o → ∀ c, o.op ≠ .defer c) {i : Nat} {K K' : Act → World → Prop} (hK : ∀ a w, K a w → K' a w) {a : Act} {w : World} (h : wpOp P ops (OnlyN Q) i K a w) :
    wpOpIn (Fence.wide.inRound l) n P ops Q i K' a w := by
  unfold wpOp at h
  unfold wpOpIn
  cases ho : ops[i]? with
  | none => rw [ho] at h; exact hK _ _ h
  | some o =>
    rw [ho] at h
    simp only at h ⊢
    split
    · rename_i hw
      rw [if_pos hw] at h
      rcases h with h | ⟨_, h⟩
      · unfold Oper.wp at h
        unfold Oper.wpIn
        refine ⟨fun _ _ => trivial, ?_⟩
        rw [Oper.semAt_eq _ _ _ (hd i o ho)]
        generalize (execOp a.eval o).run P w = r at h ⊢
        cases r with
        | ok x w' =>
          cases x with
          | value v => exact hK _ _ h
          | skip => exact hK _ _ h
          | defer d => exact hK _ _ h
          | enter f args =>
            refine ⟨(fun h => by cases h), callsIn_wide.2 (Calls.mono h fun e w'' he => ?_)⟩
            cases e with
            | returned v => exact hK _ _ he
            | panicked c => exact (he : False).elim
            | outgrown => exact absurd he onlyN_not_out
          | row row args =>
            refine ⟨(fun h => by cases h), fun c cs _ => ?_⟩
            obtain ⟨v, w'', hr, hs⟩ := h c cs
            exact ⟨v, w'', hK _ _ hr, stepsIn_wide.2 hs⟩
          | _ => exact (h : False).elim
        | halt x w' =>
          cases x <;> exact (h : False).elim
      · exact absurd h onlyN_not_out
    · rename_i hw
      rw [if_neg hw] at h
      exact ⟨fun _ _ => trivial, hK _ _ h⟩
theorem wpAnyIn_of_only (hd : ∀ (i : Nat) (o : Oper), ops[i]? = some o → ∀ c, o.op ≠ .defer c) : ∀ (fuel : Nat) (listed : Array Bool) (a : Act) (w : World), wpAny P md ops (OnlyN Q) fuel listed a w → wpAnyIn (Fence.wide.inRound l) n P md ops Q fuel listed a w
  | 0, _, _, _, h => h
  | fuel + 1, _, _, _, h => ⟨h.1, fun i hi => wpOpIn_of_only hd (fun a' w' h' => wpAnyIn_of_only hd fuel _ a' w' h') (h.2 i hi)⟩
theorem wpIn_region_round {id : Nat} {a : Act} {w : World} (hm : P.follows .mixedOrders = true) (hd : ∀ (i : Nat) (o : Oper), ops[i]? = some o → ∀ c, o.op ≠ .defer c) (hS : S w.drew)
    (h : S w.drew → wpAnyH P .any ops (OnlyN Q) S ops.size (Array.replicate ops.size false) a w.drew) : (Code.region id ops true).wpIn (Fence.wide.inRound l) n P Q a w :=
  wpIn_region_any hm (wpAnyIn_of_only hd _ _ _ _ (wpAny_of_held _ _ _ _ (h hS)))
theorem OnlyN.normal {a : Act} {w : World} (h : Q .normal a w) : OnlyN Q .normal a w := h
theorem OnlyN.imp : ∀ (e : Exit) (a : Act) (w : World), OnlyN Q e a w → Q e a w := fun e a w h => by
  cases e <;> first | exact h | exact (h : False).elim
theorem wp_region_only {id : Nat} {a : Act} {w : World} (hm : P.follows .mixedOrders = true) (hS : S w.drew)
    (h : S w.drew → wpAnyH P .any ops (OnlyN Q) S ops.size (Array.replicate ops.size false) a w.drew) : (Code.region id ops true).wp P Q a w :=
  Code.wp_mono OnlyN.imp (wp_region_held_drew hm hS h)
theorem wpIn_region_out {id : Nat} {a : Act} {w : World} (hm : P.follows .mixedOrders = true) (hS : S w.drew)
    (h : S w.drew → wpAnyH P .any ops (OnlyN Q) S ops.size (Array.replicate ops.size false) a w.drew) : (Code.region id ops true).wpIn Fence.wide n P Q a w :=
  wpIn_wide.2 (wp_region_only hm hS h)
/-- no operation of the row is a defer -/
def noDeferB (ops : Array Oper) : Bool := ops.all fun o => match o.op with | .defer _ => false | _ => true
set_option maxRecDepth 8000 in
theorem noDefer (h : noDeferB ops = true) : ∀ (i : Nat) (o : Oper), ops[i]? = some o → ∀ c, o.op ≠ .defer c := by
  intro i o ho c hc
  have := (Array.all_eq_true_iff_forall_mem.1 h) o (Array.mem_of_getElem? ho)
  rw [hc] at this
  cases this
end
end Go.Proofs.Ytjfcmoappbfnjaa
namespace Go.Proofs.Ytjfcmoappbfnjaa
open List renaming getElem_toArray → zq1, getElem_cons_succ → zq2, getElem_cons_zero → zq3, setIfInBounds_toArray → zq4, set_cons_zero → zq5, set_cons_succ → zq6
open Go.RowKit Go.Shelf
attribute [local go_sem] Oper.semAt_some
attribute [local go_sem] run_store_bv run_store_wc run_store_bv_drew run_store_wc_drew
/-- what is read of a sector: the last write of it, else what lasts -/
def readL (l : List UInt8) (n : Nat) (ws : List (Nat × List UInt8)) : List UInt8 := ws.foldl (fun s w => if w.1 = n then w.2 else s) l
theorem readL_length (n : Nat) : ∀ (ws : List (Nat × List UInt8)) (l : List UInt8), l.length = 512 → (∀ x ∈ ws, x.2.length = 512) → (readL l n ws).length = 512
  | [], _, hl, _ => hl
  | x :: ws, l, hl, hw => readL_length n ws (if x.1 = n then x.2 else l) (by split; exact hw x (by simp); exact hl) (fun y hy => hw y (by simp [hy]))
set_option maxRecDepth 8000 in
theorem readL_snoc (l : List UInt8) (n : Nat) (ws : List (Nat × List UInt8)) (x : Nat × List UInt8) : readL l n (ws ++ [x]) = if x.1 = n then x.2 else readL l n ws := by simp [readL]
theorem wc_tail (x : Nat × List UInt8) {w : World} {b : Nat} {t : TypeId} (h : Blk w b t (wc x).toArray) : w.rangeAt b 1 (bv x.2) := fun j v hv => by
  rw [h.cell, List.getElem?_toArray, Nat.add_comm, wc, List.getElem?_cons_succ]
  exact hv
def Dk.reads (D : Dk) (n : Nat) : List UInt8 := readL (D.lasts n) n D.waits
set_option maxRecDepth 100000 in
set_option maxHeartbeats 2000000 in
theorem now_at {w : World} {base p : Nat} {pl : Pl} {D : Dk} (h : DiskAt w base p pl D) (hN : D.waits.length ≤ 1000000) (k : Nat) :
    Calls Try.prog 85 #[.pointer (some ⟨p, 0, none⟩), .int .i64 (k : Int)] w fun e w' => e = .returned (sec (D.reads k)) ∧ Below w.heap.size w w' := by
  have hz := z47
  have hz8 := z84
  have hFw : ∀ f, Fence.wide.fn f := fun _ => trivial
  refine (callsIn_wide (n := 4)).1 (callsIn_of_wp_marks Try.func85 rfl trivial ?_ rfl)
  simp only [Try.ntmps85, List.size_toArray, List.length_cons, List.length_nil, Nat.reduceAdd, Nat.reduceSub, Array.replicate_succ, Array.replicate_zero, List.push_toArray, List.append_toArray, List.nil_append, List.cons_append]
  gi_wp2
  have b3 : Blk ((w.alloc (.cells #[.int .i64 (k : Int)] 3)).alloc (.cells (bv zs).toArray 56)) w.heap.size 3 #[.int .i64 (k : Int)] := (Blk.new w _ _).alloc _
  have b4 : Blk ((w.alloc (.cells #[.int .i64 (k : Int)] 3)).alloc (.cells (bv zs).toArray 56)) (w.heap.size + 1) 56 (bv zs).toArray := heap_alloc2_new _ _ _
  have hd : DiskAt ((w.alloc (.cells #[.int .i64 (k : Int)] 3)).alloc (.cells (bv zs).toArray 56)) base p pl D := (h.alloc _).alloc _
  have bl : Below w.heap.size w ((w.alloc (.cells #[.int .i64 (k : Int)] 3)).alloc (.cells (bv zs).toArray 56)) := ((Below.refl _ w).alloc (Nat.le_refl _) _).alloc (by simp) _
  have sz : ((w.alloc (.cells #[.int .i64 (k : Int)] 3)).alloc (.cells (bv zs).toArray 56)).heap.size = w.heap.size + 2 := by simp
  generalize (w.alloc (.cells #[.int .i64 (k : Int)] 3)).alloc (.cells (bv zs).toArray 56) = W at b3 b4 hd bl sz ⊢
  have B3 := Lib.hid b3
  have B4 := Lib.hid b4
  have HD := Lib.hid hd
  have BL := Lib.hid bl
  have SZ := Lib.hid sz
  have LL := Lib.hid (hd.lens k)
  clear h b3 b4 hd bl sz
  have hlz : (D.lasts k).length = zs.length := by rw [LL.out, zs_length]
  have hbl : (bv (D.lasts k)).length = 512 := by rw [bv_length, LL.out]
  refine wpIn_region_out (S := fun w' => w'.cell? ⟨p, 1, none⟩ = some (.map (some pl.m)) ∧ w'.cell? ⟨w.heap.size, 0, none⟩ = some (.int .i64 (k : Int)) ∧ (Instr.lookup 85 (.map (some pl.m)) (.int .i64 (k : Int)) false).run Try.prog w' = .ok (sec (D.lasts k)) w') (by kernel_rfl) ⟨HD.out.c1, B3.out.cell 0, HD.out.drew.map.look k⟩ (fun hHeld => ?_)
  refine wpAnyH_take (i := 0) (v := ?v0) rfl (by kernel_rfl) (by kernel_rfl) (by kernel_rfl) (fun _ _ _ h => h) (Or.inl ⟨by rfl, ?hy0⟩) hHeld ?rest0
  case hy0 =>
    intro w' hSw
    try dsimp only at hSw
    go_simp
    first | done | with_reducible rfl
  try simp only [Act.put, zq1, zq3, zq4, zq5, zq6]
  refine wpAnyH_take (i := 1) (v := ?v1) rfl (by kernel_rfl) (by kernel_rfl) (by kernel_rfl) (fun _ _ _ h => h) (Or.inl ⟨by rfl, ?hy1⟩) hHeld ?rest1
  case hy1 =>
    intro w' hSw
    try dsimp only at hSw
    go_simp
    first | done | with_reducible rfl
  try simp only [Act.put, zq1, zq2, zq3, zq4, zq5, zq6]
  refine wpAnyH_take (i := 2) (v := ?v2) rfl (by kernel_rfl) (by kernel_rfl) (by kernel_rfl) (fun _ _ _ h => h) (Or.inl ⟨by rfl, ?hy2⟩) hHeld ?rest2
  case hy2 =>
    intro w' hSw
    try dsimp only at hSw
    go_simp
    first | done | with_reducible rfl
  try simp only [Act.put, zq1, zq2, zq3, zq4, zq5, zq6]
  refine wpAnyH_take (i := 3) (v := ?v3) rfl (by kernel_rfl) (by kernel_rfl) (by kernel_rfl) (fun _ _ _ h => h) (Or.inl ⟨by rfl, ?hy3⟩) hHeld ?rest3
  case hy3 =>
    intro w' hSw
    try dsimp only at hSw
    go_simp
    first | done | with_reducible rfl
  try simp only [Act.put, zq1, zq2, zq3, zq4, zq5, zq6]
  refine wpAnyH_take (i := 4) (v := ?v4) rfl (by kernel_rfl) (by kernel_rfl) (by kernel_rfl) (fun _ _ _ h => h) (Or.inl ⟨by rfl, ?hy4⟩) hHeld ?rest4
  case hy4 =>
    intro w' hSw
    try dsimp only at hSw
    go_simp
    first | done | with_reducible rfl
  try simp only [Act.put, zq1, zq2, zq3, zq4, zq5, zq6]
  refine wpAnyH_take (i := 5) (v := ?v5) rfl (by kernel_rfl) (by kernel_rfl) (by kernel_rfl) (fun _ _ _ h => h) (Or.inl ⟨by rfl, ?hy5⟩) hHeld ?rest5
  case hy5 =>
    intro w' hSw
    try dsimp only at hSw
    go_simp
    first | done | with_reducible rfl
  try simp only [Act.put, zq1, zq2, zq3, zq4, zq5, zq6]
  refine wpAnyH_ready (rs := [6]) (by kernel_rfl) (by simp) ?_
  refine AllReadyH.cons (by rfl) (fun K hK => ?_) AllReadyH.nil
  go_simp
  refine hK.out _ _ ⟨(HD.out.drew.alloc _).c1, ((B3.out : Blk W.drew _ _ _).alloc _).cell 0, (HD.out.drew.alloc _).map.look k⟩ (fun hHeld => ?_)
  clear hK K
  try simp only [Act.put, zq1, zq2, zq3, zq4, zq5, zq6]
  refine wpAnyH_ready (rs := [7]) (by kernel_rfl) (by simp) ?_
  refine AllReadyH.cons (by rfl) (fun K hK => ?_) AllReadyH.nil
  go_simp
  refine hK.out _ _ ⟨(HD.out.drew.alloc _).c1, ((B3.out : Blk W.drew _ _ _).alloc _).cell 0, (HD.out.drew.alloc _).map.look k⟩ (fun hHeld => ?_)
  clear hK K
  try simp only [Act.put, zq1, zq2, zq3, zq4, zq5, zq6]
  refine wpAnyH_done (by kernel_rfl) ?_ _
  refine OnlyN.normal ?_
  have H5 := Lib.hid (show Blk (W.alloc (.cells (bv (D.lasts k)).toArray 56)).drew W.heap.size 56 (bv (D.lasts k)).toArray from Blk.new W 56 (bv (D.lasts k)).toArray)
  have H3 := Lib.hid (show Blk (W.alloc (.cells (bv (D.lasts k)).toArray 56)).drew w.heap.size 3 #[.int .i64 (k : Int)] from B3.out.alloc _)
  have H4 := Lib.hid (show Blk (W.alloc (.cells (bv (D.lasts k)).toArray 56)).drew (w.heap.size + 1) 56 (bv zs).toArray from B4.out.alloc _)
  have HD2 := Lib.hid (HD.out.alloc (.cells (bv (D.lasts k)).toArray 56)).drew
  have BL2 := Lib.hid (BL.out.alloc (by rw [SZ.out]; omega) (.cells (bv (D.lasts k)).toArray 56)).drew
  have SZ2 := Lib.hid (show (W.alloc (.cells (bv (D.lasts k)).toArray 56)).drew.heap.size = w.heap.size + 3 by simp [SZ.out])
  rw [SZ.out] at H5 ⊢
  generalize (W.alloc (.cells (bv (D.lasts k)).toArray 56)).drew = W2 at H5 H3 H4 HD2 BL2 SZ2 ⊢
  gi_wp2_with (gi_at_call 41; refine ((callsIn_wide (n := 3)).2 (waiting_any _ _)).mono ?_; rintro e w' ⟨rfl, rfl⟩)
  have B7 := Lib.hid (Blk.new W2 30 #[.pointer (some ⟨p, 0, none⟩)])
  have H5' := Lib.hid (H5.out.alloc (.cells #[.pointer (some ⟨p, 0, none⟩)] 30))
  have H3' := Lib.hid (H3.out.alloc (.cells #[.pointer (some ⟨p, 0, none⟩)] 30))
  have H4' := Lib.hid (H4.out.alloc (.cells #[.pointer (some ⟨p, 0, none⟩)] 30))
  have HD3 := Lib.hid (HD2.out.alloc (.cells #[.pointer (some ⟨p, 0, none⟩)] 30))
  have BL3 := Lib.hid (BL2.out.alloc (by rw [SZ2.out]; omega) (.cells #[.pointer (some ⟨p, 0, none⟩)] 30))
  have SZ3 := Lib.hid (show (W2.alloc (.cells #[.pointer (some ⟨p, 0, none⟩)] 30)).heap.size = w.heap.size + 4 by simp [SZ2.out])
  generalize W2.alloc (.cells #[.pointer (some ⟨p, 0, none⟩)] 30) = W3 at B7 H5' H3' H4' HD3 BL3 SZ3 ⊢
  clear H5 H3 H4 HD2 BL2
  refine range_waiting HD3.out hN rfl ((B7.out.cell 0).trans rfl) rfl (by omega)
    (fun xs W => Blk W (w.heap.size + 2) 56 (bv (readL (D.lasts k) k (wxs xs))).toArray ∧ Blk W w.heap.size 3 #[.int .i64 (k : Int)] ∧ Blk W (w.heap.size + 1) 56 (bv zs).toArray ∧ Below w.heap.size w W ∧ W3.heap.size ≤ W.heap.size)
    ((own_blk _ _ _ (fun xs => (bv (readL (D.lasts k) k (wxs xs))).toArray)).and ((own_blk _ _ _ (fun _ => _)).and ((own_blk _ _ _ (fun _ => _)).and ((ownFrom_below (Nat.le_refl _) BL3.out.size).and (own_size _ _)))))
    ⟨H5'.out, H3'.out, H4'.out, BL3.out, Nat.le_refl _⟩
    (fun x b => { tmps := #[.pointer (some ⟨p, 0, none⟩), .int .i64 (k : Int), undef, .pointer (some ⟨w.heap.size, 0, none⟩), .pointer (some ⟨w.heap.size + 1, 0, none⟩), .pointer (some ⟨w.heap.size + 2, 0, none⟩), undef, .pointer (some ⟨b, 0, none⟩), .pointer (some ⟨p, 0, none⟩), .pointer (some ⟨p, 0, none⟩), .pointer (some ⟨p, 1, none⟩), .map (some pl.m), .int .i64 (k : Int), sec (D.lasts k), .pointer (some ⟨p, 0, none⟩), .func (.func 63) #[] #[.pointer (some ⟨W2.heap.size, 0, none⟩)], .int .i64 (x.i : Int), wv x.x, undef, undef, undef, undef, undef, undef, undef], defers := [] })
    ?assign ?body (fun pre W h => h.2.2.2.2) ?done
  case assign =>
    intro l x W K hK
    have hxz : x.x.2.length = zs.length := by rw [x.len, zs_length]
    have hwl : (wc x.x).length = 513 := wc_length x.x x.len
    have HKK := Lib.hid hK
    clear hK
    gi_wp2
    exact HKK.out
  case body =>
    rintro l pre x b W _ ⟨i1, i2, i3, i4, i5⟩ hb hbw
    have hrl := readL_length k (wxs pre) (D.lasts k) LL.out (wxs_len pre)
    have RT := Lib.hid (wc_tail x.x hbw)
    have XL := Lib.hid x.len
    have hc0 : W.cell? ⟨b, 0, none⟩ = some (.int .i64 (x.x.1 : Int)) := (hbw.cell 0).trans rfl
    have hck : W.cell? ⟨w.heap.size, 0, none⟩ = some (.int .i64 (k : Int)) := (i2.cell 0).trans rfl
    have hst := run_store_all (P := Try.prog) (bv x.x.2) (bv (readL (D.lasts k) k (wxs pre))) (by rw [bv_length, bv_length, hrl, x.len]) (bv_one _) i1
    have hbl2 : (bv x.x.2).length = 512 := by rw [bv_length, x.len]
    have hKF : Hid (KeepsFrom W3.heap.size W (W.setRow (w.heap.size + 2) (bv x.x.2).toArray)) := KeepsFrom.of_grownBy (grown_setRow _ _ _) (fun j e => by injection e with e; have := SZ3.out; omega)
    have hKW : Hid (∀ k, pl.wv.ownBlock = some k → (W.setRow (w.heap.size + 2) (bv x.x.2).toArray).heap[k]? = W.heap[k]?) := fun q hq => setRow_other _ _ _ _ (fun e => by
      obtain ⟨cur, hb⟩ := HD3.out.row_block hq
      have h5 := H5'.out
      rw [e] at hb
      unfold Blk at hb h5
      rw [hb] at h5
      injection h5 with h5
      injection h5 with _ ht
      cases ht)
    have j1 : Hid (Blk (W.setRow (w.heap.size + 2) (bv x.x.2).toArray) (w.heap.size + 2) 56 (bv x.x.2).toArray) := i1.setRow _
    have j2 : Hid (Blk (W.setRow (w.heap.size + 2) (bv x.x.2).toArray) w.heap.size 3 #[.int .i64 (k : Int)]) := i2.setRow_far (by omega) _
    have j3 : Hid (Blk (W.setRow (w.heap.size + 2) (bv x.x.2).toArray) (w.heap.size + 1) 56 (bv zs).toArray) := i3.setRow_far (by omega) _
    have j4 : Hid (Below w.heap.size w (W.setRow (w.heap.size + 2) (bv x.x.2).toArray)) := below_setRow i4 (by omega) _
    have j5 : Hid (W3.heap.size ≤ (W.setRow (w.heap.size + 2) (bv x.x.2).toArray).heap.size) := by show _ ≤ _; simpa using i5
    have RS := Lib.hid (readL_snoc (D.lasts k) k (wxs pre) x.x)
    have WS := Lib.hid (wxs_snoc pre x)
    have II := Lib.hid (show _ ∧ _ ∧ _ ∧ _ ∧ _ from ⟨i1, i2, i3, i4, i5⟩)
    clear hbw i1 i2 i3 i4 i5 hrl
    by_cases hxk : x.x.1 = k
    · have hbe : ((x.x.1 : Int) == (k : Int)) = true := beq_iff_eq.2 (by omega)
      have HXK := Lib.hid hxk
      clear hxk
      gi_wp2_with (refine wpListIn_load47 rfl (.tmp 22) rfl b 1 rfl x.x.2 RT.out XL.out ?_)
      refine ⟨rfl, hKF.out, hKW.out, ?_, j2.out, j3.out, j4.out, j5.out⟩
      rw [WS.out, RS.out, if_pos HXK.out]
      exact j1.out
    · have hbe : ((x.x.1 : Int) == (k : Int)) = false := beq_eq_false_iff_ne.2 (by omega)
      have HXK := Lib.hid hxk
      clear hxk
      gi_wp2
      refine ⟨rfl, KeepsFrom.refl _ _, fun _ _ => rfl, ?_, II.out.2.1, II.out.2.2.1, II.out.2.2.2.1, II.out.2.2.2.2⟩
      rw [WS.out, RS.out, if_neg HXK.out]
      exact II.out.1
  case done =>
    rintro B xs W hB hxs _ ⟨i1, i2, i3, i4, i5⟩ hD
    rw [hxs] at i1
    have hrl := readL_length k D.waits (D.lasts k) LL.out (fun x hx => (HD3.out.wlens x hx).1)
    have RL := Lib.hid hrl
    have R1 := Lib.hid i1.rangeAt
    have hbl2 : (bv (readL (D.lasts k) k D.waits)).length = 512 := by rw [bv_length, hrl]
    have hst := run_store_all (P := Try.prog) (bv (readL (D.lasts k) k D.waits)) (bv zs) (by rw [bv_length, bv_length, hrl, zs_length]) (bv_one _) i3
    have J3 := Lib.hid (i3.setRow (bv (readL (D.lasts k) k D.waits)).toArray)
    have J4 := Lib.hid (below_setRow i4 (show w.heap.size ≤ w.heap.size + 1 by omega) (bv (readL (D.lasts k) k D.waits)).toArray)
    have hDB : (W.setRow (w.heap.size + 1) (bv (readL (D.lasts k) k D.waits)).toArray).heap[B]? = some (.deferred (some [])) := (setRow_other _ _ _ _ (by have := SZ3.out; omega)).trans hD
    have HDB := Lib.hid hDB
    have BB := Lib.hid (show w.heap.size + 4 ≤ B by have := SZ3.out; omega)
    clear i1 i2 i3 i4 i5 hD hDB hrl hxs hB
    gi_wp2_with (refine wpListIn_load47 rfl (.tmp 5) rfl (w.heap.size + 2) 0 rfl _ R1.out RL.out ?_)
    refine ⟨by simp, .inl ⟨_, _, rfl, run_takeDeferred HDB.out, ?_⟩⟩
    have hb1 := (World.putObj_heap_other (o := .deferred none) (show w.heap.size + 1 ≠ B by have := BB.out; omega)).trans J3.out
    refine ⟨_, results_cell_row (P := Try.prog) rfl _ _ (w.heap.size + 1) 56 _ (0, 0) _ rfl hb1 Try.underlying56 rfl (by rw [List.size_toArray, hbl2]; exact size47), rfl, J4.out.trans ?_⟩
    exact (belowK_b (w := w) (Nat.le_refl _) _ B _ _ (by have := BB.out; omega) HDB.out rfl rfl)
end Go.Proofs.Ytjfcmoappbfnjaa
namespace Go.Proofs.Ytjfcmoappbfnjaa
open List renaming getElem_toArray → zq1, getElem_cons_succ → zq2, getElem_cons_zero → zq3, setIfInBounds_toArray → zq4, set_cons_zero → zq5, set_cons_succ → zq6
open Go.RowKit
attribute [local go_sem] run_store_bv run_store_wc run_store_bv_drew run_store_wc_drew
set_option maxRecDepth 100000 in
set_option maxHeartbeats 800000 in
theorem read1_at {w : World} {base p : Nat} {pl : Pl} {D : Dk} (h : DiskAt w base p pl D) (hN : D.waits.length ≤ 1000000) (k b0 b1 b2 : Nat)
    (c0 : Blk w b0 30 #[.pointer (some ⟨p, 0, none⟩)]) (c1 : Blk w b1 3 #[.int .i64 (k : Int)]) (c2 : Blk w b2 56 (bv zs).toArray) :
    Calls Try.prog 84 #[.pointer (some ⟨b0, 0, none⟩), .pointer (some ⟨b1, 0, none⟩), .pointer (some ⟨b2, 0, none⟩)] w fun e w' =>
      e = .returned (.tuple #[]) ∧ Blk w' b2 56 (bv (D.reads k)).toArray ∧ Fr (· = b2) w w' := by
  have h0 := (c0.cell 0).trans rfl
  have h1 := (c1.cell 0).trans rfl
  have HN := Lib.hid (now_at h hN k)
  have C2 := Lib.hid c2
  have hrl := readL_length k D.waits (D.lasts k) (h.lens k) (fun x hx => (h.wlens x hx).1)
  have RL := Lib.hid (show (D.reads k).length = 512 from hrl)
  clear h c0 c1 c2 hrl
  go_enter Try.func84, Try.ntmps84
  go_wp2_with fail
  refine HN.out.mono ?_
  rintro e w1 ⟨rfl, hb1⟩
  have hbl : (bv (D.reads k)).length = 512 := by rw [bv_length, RL.out]
  have hc2 := C2.out.below hb1 C2.out.lt
  have hst := run_store_all (P := Try.prog) (bv (D.reads k)) (bv zs) (by rw [bv_length, bv_length, RL.out, zs_length]) (bv_one _) hc2
  have J := Lib.hid (hc2.setRow (bv (D.reads k)).toArray)
  have FR := Lib.hid ((Fr.of_below (S := (· = b2)) hb1).grown (grown_setRow w1 b2 (bv (D.reads k)).toArray) (fun i e _ => by injection e with e; exact e.symm))
  clear hb1 hc2
  go_wp2
  go_end0
  exact ⟨rfl, J.out, FR.out⟩
set_option maxRecDepth 8000 in
theorem results_sec {fn : Func} {p q : Tmp} (h : fn.results = #[.cell p 56, .tmp q]) (tmps : Array Value) (w : World) (g : Nat) (l : List UInt8) (hl : l.length = 512)
    (hp : tmps.getD p undef = .pointer (some ⟨g, 0, none⟩)) (hg : Blk w g 56 (bv l).toArray) : (results fn tmps).run Try.prog w = .ok (.tuple #[sec l, tmps.getD q undef]) w := by
  have hp' : tmps[p]?.getD undef = .pointer (some ⟨g, 0, none⟩) := by simpa using hp
  have hl := run_loadVar_row (P := Try.prog) w g 56 56 (bv l).toArray (0, 0) _ hg Try.underlying56 rfl (by rw [List.size_toArray, bv_length, hl]; exact size47)
  simp [results, h, hp', asAddr, hl]
set_option maxRecDepth 8000 in
theorem blks (w : World) (v0 v1 : Value) (c2 c3 : Array Value) (t0 t1 t2 t3 : TypeId) :
    Blk ((((w.alloc (.cells #[v0] t0)).alloc (.cells #[v1] t1)).alloc (.cells c2 t2)).alloc (.cells c3 t3)) w.heap.size t0 #[v0] ∧
    Blk ((((w.alloc (.cells #[v0] t0)).alloc (.cells #[v1] t1)).alloc (.cells c2 t2)).alloc (.cells c3 t3)) (w.heap.size + 1) t1 #[v1] ∧
    Blk ((((w.alloc (.cells #[v0] t0)).alloc (.cells #[v1] t1)).alloc (.cells c2 t2)).alloc (.cells c3 t3)) (w.heap.size + 2) t2 c2 ∧
    Blk ((((w.alloc (.cells #[v0] t0)).alloc (.cells #[v1] t1)).alloc (.cells c2 t2)).alloc (.cells c3 t3)) (w.heap.size + 3) t3 c3 ∧
    Below w.heap.size w ((((w.alloc (.cells #[v0] t0)).alloc (.cells #[v1] t1)).alloc (.cells c2 t2)).alloc (.cells c3 t3)) ∧
    ((((w.alloc (.cells #[v0] t0)).alloc (.cells #[v1] t1)).alloc (.cells c2 t2)).alloc (.cells c3 t3)).heap.size = w.heap.size + 4 := by
  have e1 := Blk.new (w.alloc (.cells #[v0] t0)) t1 #[v1]
  have e2 := Blk.new ((w.alloc (.cells #[v0] t0)).alloc (.cells #[v1] t1)) t2 c2
  have e3 := Blk.new (((w.alloc (.cells #[v0] t0)).alloc (.cells #[v1] t1)).alloc (.cells c2 t2)) t3 c3
  simp only [World.size_alloc] at e1 e2 e3
  exact ⟨(((Blk.new w _ _).alloc _).alloc _).alloc _, (e1.alloc _).alloc _, e2.alloc _, e3, ((((Below.refl _ w).alloc (Nat.le_refl _) _).alloc (by simp) _).alloc (by simp; omega) _).alloc (by simp; omega) _, by simp⟩
theorem Fr.keepBlk {S : Nat → Prop} {w w' : World} {g : Nat} {t : TypeId} {cs : Array Value} (h : Fr S w w') (hb : Blk w g t cs) (hn : ¬ S g) : Blk w' g t cs := (h.block g hb.lt hn).trans hb
theorem DiskAt.not_new {w : World} {base p : Nat} {pl : Pl} {D : Dk} (h : DiskAt w base p pl D) {k : Nat} (hk : w.heap.size ≤ k) : ¬ pl.has p k := fun hh => by have := (h.lt k hh).1; omega
theorem enters48 (args : Array Value) (w : World) : (callFunc 84 args).run Try.prog w = .ok (.enter 84 args) w := enters_of Try.func84 (by kernel_rfl) rfl args w
set_option maxRecDepth 100000 in
set_option maxHeartbeats 800000 in
theorem read_goes {w : World} {base p : Nat} {pl : Pl} {D : Dk} (h : DiskAt w base p pl D) (hN : D.waits.length ≤ 1000000) (n : Nat) (hn : n < D.size) (hs : D.steps < 1000000) (hf : D.next = false) :
    Calls Try.prog 66 #[.pointer (some ⟨p, 0, none⟩), .int .i64 (n : Int)] w fun e w' => e = .returned (.tuple #[sec (D.reads n), .int .i64 0]) ∧ DiskAt w' base p pl D.stepped ∧ Fr (pl.has p) w w' := by
  have hz := z47
  have H := Lib.hid h
  have HF := Lib.hid hf
  have q := blks w (.pointer (some ⟨p, 0, none⟩)) (.int .i64 (n : Int)) (bv zs).toArray (bv zs).toArray 30 3 56 56
  have hrl := readL_length n D.waits (D.lasts n) (h.lens n) (fun x hx => (h.wlens x hx).1)
  have RL := Lib.hid (show (D.reads n).length = 512 from hrl)
  have hbl : (bv (D.reads n)).length = 512 := by rw [bv_length, RL.out]
  have hbz : (bv zs).length = 512 := by rw [bv_length, zs_length]
  clear h hf hrl
  go_enter Try.func66, Try.ntmps66
  go_wp2_with fail
  obtain ⟨q0, q1, q2, q3, qb, qs⟩ := q
  generalize (((w.alloc (.cells #[.pointer (some ⟨p, 0, none⟩)] 30)).alloc (.cells #[.int .i64 (n : Int)] 3)).alloc (.cells (bv zs).toArray 56)).alloc (.cells (bv zs).toArray 56) = W at q0 q1 q2 q3 qb qs ⊢
  have HW := Lib.hid (H.out.below qb)
  refine (asked_ok HW.out n hn).mono ?_
  rintro e w' ⟨rfl, rfl⟩
  have c0 := (q0.cell 0).trans rfl
  have Q0 := Lib.hid q0
  have Q1 := Lib.hid q1
  have Q2 := Lib.hid q2
  have Q3 := Lib.hid q3
  have QB := Lib.hid qb
  have QS := Lib.hid qs
  clear q0 q1 q2 q3 qb qs
  go_wp2_with fail
  refine (step_goes HW.out HF.out hs _ _ (fun w' => DiskAt w' base p pl D.stepped ∧ Fr (fun k => pl.has p k ∨ k = w.heap.size + 3) W w' ∧ Blk w' (w.heap.size + 2) 56 (bv zs).toArray ∧ Blk w' (w.heap.size + 3) 56 (bv (D.reads n)).toArray) ?hdo (enters48 _)).mono ?_
  case hdo =>
    intro W1 h1 f1
    have nn := fun k (hk : w.heap.size ≤ k) => H.out.not_new hk
    refine (read1_at h1 hN n w.heap.size (w.heap.size + 1) (w.heap.size + 3) (f1.keepBlk Q0.out (nn _ (by omega))) (f1.keepBlk Q1.out (nn _ (by omega))) (f1.keepBlk Q3.out (nn _ (by omega)))).mono ?_
    rintro e w3 ⟨rfl, hb, hf3⟩
    refine ⟨rfl, h1.fr hf3 (fun k hk e => by subst e; exact nn _ (by omega) hk), (f1.mono (fun _ _ h => .inl h)).then_ hf3 (fun _ _ e => .inr e), ?_, hb⟩
    exact hf3.keepBlk (f1.keepBlk Q2.out (nn _ (by omega))) (by omega)
  rintro e w2 ⟨rfl, h2, f2, b2, b3⟩
  have B3 := Lib.hid b3.rangeAt
  have nn := fun k (hk : w.heap.size ≤ k) => H.out.not_new hk
  have hst := run_store_all (P := Try.prog) (bv (D.reads n)) (bv zs) (by rw [bv_length, bv_length, RL.out, zs_length]) (bv_one _) b2
  have J2 := Lib.hid (b2.setRow (bv (D.reads n)).toArray)
  have JD : Hid (DiskAt (w2.setRow (w.heap.size + 2) (bv (D.reads n)).toArray) base p pl D.stepped) := h2.keep (fun k hk => setRow_other _ _ _ _ (by rintro rfl; exact nn _ (by omega) hk))
  have JF := Lib.hid (((Fr.of_below (S := pl.has p) QB.out).then_ f2 (fun i hi h => h.elim id (fun e => by omega))).grown (grown_setRow w2 (w.heap.size + 2) (bv (D.reads n)).toArray) (fun i e hi => by injection e with e; omega))
  clear h2 f2 b2 b3 nn
  go_wp2_with (refine wpList_load47 rfl (.tmp 6) rfl (w.heap.size + 3) 0 rfl (D.reads n) B3.out RL.out ?_)
  exact bodyPost_ret (results_sec rfl _ _ (w.heap.size + 2) (D.reads n) RL.out rfl J2.out) rfl ⟨rfl, JD.out, JF.out⟩
end Go.Proofs.Ytjfcmoappbfnjaa
namespace Go.Proofs.Ytjfcmoappbfnjaa
open List renaming getElem_toArray → zq1, getElem_cons_succ → zq2, getElem_cons_zero → zq3, setIfInBounds_toArray → zq4, set_cons_zero → zq5, set_cons_succ → zq6
open Go.RowKit
theorem fold_set (off : Nat) : ∀ (vs : List Value) (k : Nat) (cs : Array Value), off + k + vs.length ≤ cs.size →
    (vs.zipIdx k).foldl (fun (cs : Array Value) (p : Value × Nat) => cs.setIfInBounds (off + p.2) p.1) cs = (cs.toList.take (off + k) ++ vs ++ cs.toList.drop (off + k + vs.length)).toArray
  | [], k, cs, _ => by simp
  | v :: vs, k, cs, h => by
    simp only [List.length_cons] at h
    rw [List.zipIdx_cons, List.foldl_cons, fold_set off vs (k + 1) _ (by simp; omega)]
    have e := list_seg_step cs.toList (off + k) v vs (by simp; omega)
    congr 1
    simp only [Array.toList_setIfInBounds, List.length_cons]
    rw [← e, Nat.add_assoc off k 1, ← Nat.add_assoc]
set_option maxRecDepth 8000 in
theorem fold_cells (off : Nat) (v : Value) (cs : Array Value) (h : off + v.cells.size ≤ cs.size) :
    (v.cells.zipIdx.foldl (fun (cs : Array Value) (p : Value × Nat) => cs.setIfInBounds (off + p.2) p.1) cs) = (cs.toList.take off ++ v.cells.toList ++ cs.toList.drop (off + v.cells.size)).toArray := by
  rw [← Array.foldl_toList, Array.toList_zipIdx, fold_set off v.cells.toList 0 cs (by simpa using h)]
  simp
set_option maxRecDepth 8000 in
theorem fill_one (place : Nat → Option (Nat × Nat)) (cs : Array Value) (i : Nat) (v : Value) (rest : List (Nat × Value)) (off : Nat) (hp : place i = some (off, v.cells.size)) (h : off + v.cells.size ≤ cs.size) :
    Instr.fill place cs ((i, v) :: rest) = Instr.fill place (cs.toList.take off ++ v.cells.toList ++ cs.toList.drop (off + v.cells.size)).toArray rest := by
  have := fold_cells off v cs h
  simp only [Instr.fill, hp]
  rw [if_neg (by simp; omega)]
  congr 1
set_option maxRecDepth 8000 in
theorem size3 : (Try.prog.info? 3).map (·.size) = some 1 := by kernel_rfl
set_option maxRecDepth 8000 in
theorem run_sizeOf {P : Program} {t : TypeId} {n : Nat} (h : (P.info? t).map (·.size) = some n) (w : World) : (sizeOf t).run P w = .ok n w := by
  cases hq : P.info? t with
  | none => simp [hq] at h
  | some i =>
    simp [hq] at h
    simp [sizeOf, typeInfo, hq, h]
theorem fields84 : Try.prog.fieldsOf 95 = #[(Try.prog.fieldsOf 95)[0]!, (Try.prog.fieldsOf 95)[1]!] ∧ ((Try.prog.fieldsOf 95)[0]!).offset = 0 ∧ ((Try.prog.fieldsOf 95)[0]!).type = 3 ∧ ((Try.prog.fieldsOf 95)[1]!).offset = 1 ∧ ((Try.prog.fieldsOf 95)[1]!).type = 56 := ⟨by kernel_rfl, by kernel_rfl, by kernel_rfl, by kernel_rfl, by kernel_rfl⟩
set_option maxRecDepth 8000 in
theorem und84 : Try.prog.underlying 95 = some (.struct (Try.prog.fieldsOf 95)) := by kernel_rfl
set_option maxRecDepth 8000 in
theorem run_build84 (w : World) (n : Nat) (l : List UInt8) (hl : l.length = 512) : (Instr.build 95 #[(0, .int .i64 (n : Int)), (1, sec l)]).run Try.prog w = .ok (wv (n, l)) w := by
  obtain ⟨hf, o0, t0, o1, t1⟩ := fields84
  have hm : ((Try.prog.fieldsOf 95).mapM fun f => (do pure (f.offset, ← sizeOf f.type) : Sem (Nat × Nat))).run Try.prog w = .ok #[(0, 1), (1, 512)] w := by
    rw [hf]
    simp [Array.mapM_eq_mapM_toList, o0, t0, o1, t1, run_sizeOf size3, run_sizeOf size47, Result.andThen]
  have hz : ((zeroValue 95).run Try.prog w) = .ok (wv (0, zs)) w := z84 w
  have c1 : Instr.fill ((#[(0, 1), (1, 512)] : Array (Nat × Nat))[·]?) (wc (0, zs)).toArray [(0, .int .i64 (n : Int)), (1, sec l)] = some (wc (n, l)).toArray := by
    have hzl := wc_length (0, zs) zs_length
    rw [fill_one _ _ 0 _ _ 0 rfl (by simp [Value.cells]; omega), fill_one _ _ 1 (sec l) _ 1 (by simp [Value.cells, bv_length, hl]) (by simp [Value.cells, bv_length, hl]; omega)]
    have e : ∀ v : Value, (v :: bv zs).take 1 ++ bv l ++ (v :: bv zs).drop (1 + 512) = v :: bv l := fun v => by
      rw [List.drop_eq_nil_of_le (by rw [List.length_cons, bv_length, zs_length]; omega), List.append_nil]
      rfl
    have e2 : (sec l).cells.size = 512 := by show (bv l).toArray.size = 512; rw [List.size_toArray, bv_length, hl]
    simp only [Instr.fill, e2]
    exact congrArg (fun x : List Value => some x.toArray) (e (.int .i64 (n : Int)))
  simp only [Instr.build, Sem.run_bind, hz, Result.andThen_ok, run_underlying und84, hm]
  rw [show (wv (0, zs)).cells = (wc (0, zs)).toArray from rfl, c1]
  rfl
set_option maxRecDepth 8000 in
theorem run_buildSlice84 (w : World) (x : Nat × List UInt8) (hx : x.2.length = 512) :
    (Instr.buildSlice 87 1 #[(0, wv x)]).run Try.prog w = .ok (.slice (some ⟨w.heap.size, 0, none⟩) 1 1) (w.alloc (.cells (wc x).toArray 95)) := by
  have hz : ((zeroValue 95).run Try.prog w) = .ok (wv (0, zs)) w := z84 w
  have hs := run_sizeOf (P := Try.prog) size84 w
  have c1 : ∀ cs : Array Value, cs.size = 513 → Instr.fill (fun i => some (i * 513, 513)) cs [(0, wv x)] = some (wc x).toArray := by
    intro cs hcs
    have e2 : (wv x).cells.size = 513 := by show (wc x).toArray.size = 513; rw [List.size_toArray, wc_length x hx]
    rw [fill_one _ _ 0 (wv x) _ 0 (by rw [e2]) (by rw [e2, hcs]; omega)]
    simp only [Instr.fill, e2]
    have e : cs.toList.take 0 ++ wc x ++ cs.toList.drop (0 + 513) = wc x := by
      rw [List.drop_eq_nil_of_le (by rw [Array.length_toList, hcs]; omega), List.append_nil]
      rfl
    exact congrArg (fun x : List Value => some x.toArray) e
  have h2 := c1 ((Array.range (1 * 513)).map ((wv (0, zs)).cells[· % (wv (0, zs)).cells.size]!)) (by simp)
  simp only [Instr.buildSlice, Sem.run_bind, run_underlying Try.underlying87, Result.andThen_ok, hs]
  rw [if_neg (by decide), if_neg (by decide)]
  simp only [Sem.run_bind, hz, Result.andThen_ok, Sem.run_pure, h2]
  simp [newRow, Result.andThen]
theorem yieldsIf_build84 {ops : Array Oper} {S : World → Prop} {o : Oper} {a : Act} (hw : Region.wanted o (yielded ops a.tmps) = true) (x y : Operand) (ho : o.op = .build 95 #[(0, x), (1, y)]) (n : Nat) (l : List UInt8) (hx : a.eval x = .int .i64 (n : Int)) (hy : a.eval y = sec l) (hl : l.length = 512) :
    YieldsIf Try.prog ops S o (wv (n, l)) a := .inl ⟨hw, fun w _ => by
  simp [execOp, ho, hx, hy, run_build84 w n l hl, Result.andThen]⟩
set_option maxRecDepth 8000 in
theorem step_buildSlice84 {ops : Array Oper} {o : Oper} {a : Act} {w : World} {K : Act → World → Prop} {Q : Exit → Act → World → Prop} {E : Prop} (hgd : o.guard = none) (x : Operand) (ho : o.op = .buildSlice 87 1 #[(0, x)]) (e : Nat × List UInt8) (hx : a.eval x = wv e) (he : e.2.length = 512)
    (h : K (a.put o.dst (.slice (some ⟨w.heap.size, 0, none⟩) 1 1)) (w.alloc (.cells (wc e).toArray 95))) :
    if Region.wanted o (yielded ops a.tmps) = true then Oper.wp Try.prog o a w K Q else E := by
  have hw : Region.wanted o (yielded ops a.tmps) = true := by simp [Region.wanted, hgd]
  rw [if_pos hw]
  unfold Oper.wp
  simp [execOp, ho, hx, run_buildSlice84 w e he, Result.andThen]
  exact h
set_option maxRecDepth 8000 in
theorem info84 : (Try.prog.info? 95).map (fun i => (i.zero, i.size, i.bytes)) = some (some (wv (0, zs)), 513, 520) := by kernel_rfl
theorem news84 {w : World} {g : Nat} {t : TypeId} (x : Nat × List UInt8) (h : Blk w g t (wc x).toArray) : ∀ j u, (wc x)[j]? = some u → w.cell? ((⟨g, 0, none⟩ : Addr).add j) = some u := fun j u hu => by
  rw [add_lit0, h.cell]
  simpa using hu
set_option maxRecDepth 8000 in
/-- append of one write, at a step of a region -/
theorem step_append84 {ops : Array Oper} {o : Oper} {a : Act} {w : World} {K : Act → World → Prop} {Q : Exit → Act → World → Prop} {E : Prop} (hgd : o.guard = none) (s x : Operand)
    (ho : o.op = .call { callee := .builtin .append, args := #[s, x], argTypes := #[87, 87] }) (base : Nat) (v : Value) (n : Nat) (xs : List Value) (hs : a.eval s = v) (hown : w.ownsRow base 95 513 v n xs)
    (g0 : Nat) (c : Nat) (e : Nat × List UInt8) (hx : a.eval x = .slice (some ⟨g0, 0, none⟩) 1 c) (hb : Blk w g0 95 (wc e).toArray) (he : e.2.length = 512) (hn : n ≤ 1000000) (hbase : base ≤ w.heap.size)
    (h : ∀ g cap w', w'.ownsRow base 95 513 (.slice (some ⟨g, 0, none⟩) (n + 1) cap) (n + 1) (xs ++ wc e) → w.grownBy w' v.ownBlock → (v.ownBlock = some g ∨ g = w.heap.size) → K (a.put o.dst (.slice (some ⟨g, 0, none⟩) (n + 1) cap)) w') :
    if Region.wanted o (yielded ops a.tmps) = true then Oper.wp Try.prog o a w K Q else E := by
  obtain ⟨i0, hi, hz0, hz1, hz2⟩ := info_parts info84
  exact step_append_lies w hgd s x 87 ho base 95 i0 _ 513 520 Try.underlying87 hi hz0 hz1 hz2 (by show (wc (0, zs)).toArray.size = 513; rw [List.size_toArray, wc_length _ zs_length]) (by omega) v n xs hs hown ⟨g0, 0, none⟩ 1 c (wc e) hx (by rw [wc_length e he]) (news84 e hb) (wc_one e)
    (by omega) (by simp only [maxLen]; omega) (by omega) hbase _ rfl (fun g cap w' h1 h2 h3 _ => h g cap w' h1 h2 h3)
end Go.Proofs.Ytjfcmoappbfnjaa

/- disk: bits that are turned: words; a range over what waits, whose row is written into. -/
import Derived.Test.YtgjamgojjajcnaaQ06
import Derived.Test.YtgjamgojjajcnaaQ18
import Derived.Test.YtgjamgojjajcnaaQ19
import Derived.Test.YtgjamgojjajcnaaQ12
namespace Go.Proofs.Ytgjamgojjajcnaa
open Go.RowKit Go.Shelf
/-- a byte with bits turned -/
def turnL (l : List UInt8) (k : Nat) (b : UInt8) : List UInt8 := l.modify k (· ^^^ b)
set_option maxRecDepth 8000 in
theorem turnL_length (l : List UInt8) (k : Nat) (b : UInt8) : (turnL l k b).length = l.length := by simp [turnL]
set_option maxRecDepth 8000 in
theorem turnL_set (l : List UInt8) (k : Nat) (b : UInt8) (hk : k < l.length) : turnL l k b = l.set k (l[k] ^^^ b) := by
  unfold turnL
  apply List.ext_getElem?
  intro i
  rw [List.getElem?_modify, List.getElem?_set]
  by_cases h : k = i
  · subst h
    rw [if_pos rfl, if_pos hk, List.getElem?_eq_getElem hk]
    simp
  · rw [if_neg h]
    cases l[i]? <;> simp [h]
set_option maxRecDepth 8000 in
theorem xor_u8 (a b : UInt8) : bits BinOp.xor IntKind.u8 (a.toNat : Int) (b.toNat : Int) = ((a ^^^ b).toNat : Int) := by
  rw [UInt8.toNat_xor]
  exact u8_xor_nat a.toNat b.toNat a.toNat_lt b.toNat_lt
/-- a write of a sector with bits turned -/
def turnW (n k : Nat) (b : UInt8) (x : Nat × List UInt8) : Nat × List UInt8 := if x.1 = n then (x.1, turnL x.2 k b) else x
set_option maxRecDepth 8000 in
theorem turnW_fst (n k : Nat) (b : UInt8) (x : Nat × List UInt8) : (turnW n k b x).1 = x.1 := by unfold turnW; split <;> rfl
set_option maxRecDepth 8000 in
theorem turnW_len (n k : Nat) (b : UInt8) (x : Nat × List UInt8) : (turnW n k b x).2.length = x.2.length := by unfold turnW; split; exact turnL_length _ _ _; rfl
def turnAt (n k : Nat) (b : UInt8) (ws : List (Nat × List UInt8)) (i : Nat) : List (Nat × List UInt8) := ws.modify i (turnW n k b)
def turnAll (n k : Nat) (b : UInt8) (ws : List (Nat × List UInt8)) (is : List Nat) : List (Nat × List UInt8) := is.foldl (turnAt n k b) ws
section
variable {n k : Nat} {b : UInt8} {ws : List (Nat × List UInt8)}
set_option maxRecDepth 8000 in
theorem turnAll_snoc (is : List Nat) (i : Nat) : turnAll n k b ws (is ++ [i]) = turnAt n k b (turnAll n k b ws is) i := by simp [turnAll]
set_option maxRecDepth 8000 in
theorem turnAt_length (i : Nat) : (turnAt n k b ws i).length = ws.length := by simp [turnAt]
theorem turnAll_length : ∀ (is : List Nat) (ws : List (Nat × List UInt8)), (turnAll n k b ws is).length = ws.length
  | [], _ => rfl
  | i :: is, ws => (turnAll_length is (turnAt n k b ws i)).trans (turnAt_length i)
set_option maxRecDepth 8000 in
theorem turnAt_get (i j : Nat) : (turnAt n k b ws i)[j]? = if i = j then ws[j]?.map (turnW n k b) else ws[j]? := by
  unfold turnAt
  rw [List.getElem?_modify]
  split
  · rfl
  · cases ws[j]? <;> rfl
set_option maxRecDepth 8000 in
theorem turnAt_mem {m : Nat} (i : Nat) (h : ∀ x ∈ ws, x.2.length = 512 ∧ x.1 < m) : ∀ x ∈ turnAt n k b ws i, x.2.length = 512 ∧ x.1 < m := by
  intro x hx
  obtain ⟨j, hj⟩ := List.mem_iff_getElem?.1 hx
  rw [turnAt_get] at hj
  split at hj
  · cases hw : ws[j]? with
    | none => rw [hw] at hj; cases hj
    | some y =>
      rw [hw] at hj
      injection hj with hj
      subst hj
      have := h y (List.mem_of_getElem? hw)
      rw [turnW_fst, turnW_len]
      exact this
  · exact h x (List.mem_of_getElem? hj)
theorem turnAll_mem {m : Nat} : ∀ (is : List Nat) (ws : List (Nat × List UInt8)), (∀ x ∈ ws, x.2.length = 512 ∧ x.1 < m) → ∀ x ∈ turnAll n k b ws is, x.2.length = 512 ∧ x.1 < m
  | [], _, h => h
  | i :: is, ws, h => turnAll_mem is (turnAt n k b ws i) (turnAt_mem i h)
theorem turnAll_fst : ∀ (is : List Nat) (ws : List (Nat × List UInt8)) (j : Nat), (turnAll n k b ws is)[j]?.map (·.1) = ws[j]?.map (·.1)
  | [], _, _ => rfl
  | i :: is, ws, j => (turnAll_fst is (turnAt n k b ws i) j).trans (by
      rw [turnAt_get]
      split
      · cases ws[j]? with
        | none => rfl
        | some y => simp [turnW_fst]
      · rfl)
theorem turnAll_range (ws : List (Nat × List UInt8)) : ∀ j, (∀ i, (turnAll n k b ws (List.range j))[i]? = if i < j then ws[i]?.map (turnW n k b) else ws[i]?)
  | 0, i => by simp [turnAll]
  | j + 1, i => by
    rw [List.range_succ, turnAll_snoc, turnAt_get, turnAll_range ws j]
    by_cases h : j = i
    · subst h
      rw [if_pos rfl, if_neg (Nat.lt_irrefl _), if_pos (Nat.lt_succ_self _)]
    · rw [if_neg h]
      by_cases h2 : i < j
      · rw [if_pos h2, if_pos (by omega)]
      · rw [if_neg h2, if_neg (by omega)]
set_option maxRecDepth 8000 in
theorem turnAll_all (ws : List (Nat × List UInt8)) : turnAll n k b ws (List.range ws.length) = ws.map (turnW n k b) := by
  apply List.ext_getElem?
  intro i
  rw [turnAll_range, List.getElem?_map]
  split
  · rfl
  · rw [List.getElem?_eq_none (by omega)]; rfl
set_option maxRecDepth 8000 in
theorem turnAt_no (i : Nat) (h : ∀ y, ws[i]? = some y → y.1 ≠ n) : turnAt n k b ws i = ws := by
  apply List.ext_getElem?
  intro j
  rw [turnAt_get]
  split
  · rename_i e
    subst e
    cases hw : ws[i]? with
    | none => rfl
    | some y => simp [turnW, h y hw]
  · rfl
set_option maxRecDepth 8000 in
theorem turnAll_get (is : List Nat) (ws : List (Nat × List UInt8)) {i : Nat} {x : Nat × List UInt8} (h : ws[i]? = some x) : ∃ x', (turnAll n k b ws is)[i]? = some x' ∧ x'.1 = x.1 := by
  have e := turnAll_fst (n := n) (k := k) (b := b) is ws i
  rw [h] at e
  cases hx : (turnAll n k b ws is)[i]? with
  | none => rw [hx] at e; cases e
  | some x' => rw [hx] at e; injection e with e; exact ⟨x', rfl, e⟩
set_option maxRecDepth 8000 in
theorem turnAll_back (is : List Nat) (ws : List (Nat × List UInt8)) {i : Nat} {x' : Nat × List UInt8} (h : (turnAll n k b ws is)[i]? = some x') : ∃ x, ws[i]? = some x ∧ x'.1 = x.1 := by
  have e := turnAll_fst (n := n) (k := k) (b := b) is ws i
  rw [h] at e
  cases hx : ws[i]? with
  | none => rw [hx] at e; cases e
  | some x => rw [hx] at e; injection e with e; exact ⟨x, rfl, e⟩
set_option maxRecDepth 8000 in
/-- the cells of a row of writes, one byte of one of them another -/
theorem flat_turn (hk : k < 512) : ∀ (ws : List (Nat × List UInt8)) (i : Nat) (x : Nat × List UInt8), (∀ x ∈ ws, x.2.length = 512) → ws[i]? = some x → x.1 = n → ∀ y, x.2[k]? = some y →
    (ws.flatMap wc).set (i * 513 + 1 + k) (.int .u8 ((y ^^^ b).toNat : Int)) = (turnAt n k b ws i).flatMap wc
  | [], i, x, _, h, _, _, _ => by simp at h
  | z :: ws, i, x, hl, h, hx, y, hy => by
    have hz : (wc z).length = 513 := wc_length z (hl z (by simp))
    cases i with
    | zero =>
      simp only [List.getElem?_cons_zero, Option.some.injEq] at h
      subst h
      have e : turnAt n k b (z :: ws) 0 = turnW n k b z :: ws := by simp [turnAt]
      rw [e, List.flatMap_cons, List.flatMap_cons, List.set_append_left _ _ (by omega)]
      congr 1
      have hkl : k < z.2.length := (List.getElem?_eq_some_iff.1 hy).1
      have hyv : z.2[k] = y := (List.getElem?_eq_some_iff.1 hy).2
      unfold turnW
      rw [if_pos hx, turnL_set _ _ _ hkl, hyv]
      show (Value.int .i64 (z.1 : Int) :: bv z.2).set (0 * 513 + 1 + k) _ = Value.int .i64 (z.1 : Int) :: bv (z.2.set k (y ^^^ b))
      rw [show 0 * 513 + 1 + k = k + 1 by omega, List.set_cons_succ]
      congr 1
      unfold bv
      rw [List.map_set]
    | succ i =>
      rw [List.getElem?_cons_succ] at h
      have e : turnAt n k b (z :: ws) (i + 1) = z :: turnAt n k b ws i := by simp [turnAt]
      rw [e, List.flatMap_cons, List.flatMap_cons, List.set_append_right _ _ (by omega), hz]
      congr 1
      rw [show (i + 1) * 513 + 1 + k - 513 = i * 513 + 1 + k by omega]
      exact flat_turn hk ws i x (fun x hx => hl x (by simp [hx])) h hx y hy
end
/-- bits turned -/
def Dk.spoilt (D : Dk) (n k : Nat) (b : UInt8) : Dk := { D with lasts := upL D.lasts n (turnL (D.lasts n) k b), waits := D.waits.map (turnW n k b) }
section
variable {w w' : World} {base p : Nat} {pl : Pl} {D : Dk}
set_option maxRecDepth 8000 in
theorem DiskAt.turn (h : DiskAt w base p pl D) {A : Option Addr} {cap : Nat} (hv : pl.wv = .slice A D.waits.length cap) {n k i : Nat} {b : UInt8} (hk : k < 512) {x : Nat × List UInt8} (hi : D.waits[i]? = some x) (hx : x.1 = n) {y : UInt8} (hy : x.2[k]? = some y) :
    ∃ g, A = some ⟨g, 0, none⟩ ∧ pl.has p g ∧ w.cell? ⟨g, i * 513 + 1 + k, none⟩ = some (.int .u8 (y.toNat : Int)) ∧ w.frozen? ⟨g, i * 513 + 1 + k, none⟩ = false ∧
      DiskAt (w.setCell ⟨g, i * 513 + 1 + k, none⟩ (.int .u8 ((y ^^^ b).toNat : Int))) base p pl { D with waits := turnAt n k b D.waits i } := by
  have hrow := h.row
  rw [hv] at hrow
  have hil := (List.getElem?_eq_some_iff.1 hi).1
  rcases hrow.2 with ⟨_, h0⟩ | ⟨g, cap', cur, e, hb, hg, h1, h2, h3, h4⟩
  · omega
  · injection e with e1 e2 e3
    subst e1; subst e3
    have hown : pl.wv.ownBlock = some g := by rw [hv]; rfl
    have hf := flat_get D.waits (fun x hx => (h.wlens x hx).1) i x hi (k + 1) (.int .u8 (y.toNat : Int)) (by rw [wc, List.getElem?_cons_succ, bv_get, hy]; rfl)
    have hpos : i * 513 + (k + 1) < D.waits.length * 513 := by
      have := Nat.mul_le_mul_right 513 (show i + 1 ≤ D.waits.length by omega)
      omega
    have hcell : w.cell? ⟨g, i * 513 + 1 + k, none⟩ = some (.int .u8 (y.toNat : Int)) := by
      rw [cell_of_row w g _ cur 89 (0, 0) hg, show i * 513 + 1 + k = i * 513 + (k + 1) by omega]
      rw [← h4, List.getElem?_take, if_pos hpos] at hf
      simpa using hf
    refine ⟨g, rfl, .inr (.inr (.inl hown)), hcell, frozen_of_row w g _ cur 89 hg, ?_⟩
    exact { h with
      blk := (Below.heap_setCell _ _ _ _ (by rintro rfl; exact (by
        have hb0 := h.blk
        unfold Blk at hb0
        rw [hb0] at hg
        injection hg with hg
        injection hg with _ ht
        cases ht))).trans h.blk
      map := h.map.keep (Below.heap_setCell _ _ _ _ (by
        intro e
        obtain ⟨es, ck, hm, _⟩ := h.map
        simp only at e
        rw [e, hg] at hm
        cases hm))
      row := by
        rw [hv]
        show World.ownsRow _ base 89 513 (.slice (some ⟨g, 0, none⟩) D.waits.length cap) (turnAt n k b D.waits i).length ((turnAt n k b D.waits i).flatMap wc)
        rw [turnAt_length, ← flat_turn hk D.waits i x (fun x hx => (h.wlens x hx).1) hi hx y hy]
        refine ⟨by rw [List.length_set]; exact hrow.1, .inr ⟨g, cap, _, rfl, hb, heap_setCell_same w g _ cur 89 _ hg, h1, h2, by simpa using h3, ?_⟩⟩
        rw [Array.toList_setIfInBounds, List.take_set, h4]
      set := h.set.keep (fun b' hb' => Below.heap_setCell _ _ _ _ (by
        intro e
        have hs := h.set
        rw [hb'] at hs
        obtain ⟨es, ck, hm, _⟩ := hs
        simp only at e
        rw [e, hg] at hm
        cases hm))
      wlens := turnAt_mem i h.wlens }
end
/-- what a range over what waits comes by, where its bytes may be written meanwhile: of each its sector -/
abbrev DT (D : Dk) := We D.waits.length (fun i x => ∃ y, D.waits[i]? = some y ∧ x.1 = y.1)
set_option maxRecDepth 8000 in
theorem elts_range {N : Nat} {ok : Nat → Nat × List UInt8 → Prop} {xs : List (We N ok)} (h : Elts N xs) : xs.map (·.i) = List.range N := by
  apply List.ext_getElem?
  intro i
  rw [List.getElem?_map]
  cases hx : xs[i]? with
  | none =>
    rw [List.getElem?_eq_none_iff] at hx
    rw [List.getElem?_eq_none (by have := h.1; simp; omega)]
    rfl
  | some y =>
    have hi := (List.getElem?_eq_some_iff.1 hx).1
    rw [List.getElem?_range (by have := h.1; omega), ← h.2 i y hx]
    rfl
section
variable {n : Nat} {base p : Nat} {pl : Pl} {D : Dk} {g : Operand} {ps : Array Tmp} {assign body : Code} {Q : Exit → Act → World → Prop} {a : Act} {w : World}
/-- the elements lie there, whatever their bytes are -/
def KE (A : Option Addr) (D : Dk) (W W' : World) : Prop := ∀ i, i < D.waits.length → El A (fun i x => ∃ y, D.waits[i]? = some y ∧ x.1 = y.1) W i → El A (fun i x => ∃ y, D.waits[i]? = some y ∧ x.1 = y.1) W' i
theorem keepsFrom_has {S : Nat → Prop} {B : Nat} {W W' : World} (h : Fr S W W') (hS : ∀ k, S k → k < B) : KeepsFrom B W W' :=
  ⟨h.size, fun k o hk ho _ => (h.block k (Array.getElem?_eq_some_iff.1 ho).1 (fun hs => by have := hS k hs; omega)).trans ho⟩
set_option maxRecDepth 8000 in
/-- a row that is turned lies there with the sectors that it had -/
theorem KE.of_turned {W W' : World} {base p : Nat} {pl : Pl} {D : Dk} {A : Option Addr} {cap n k : Nat} {b : UInt8} {is : List Nat} (hv : pl.wv = .slice A D.waits.length cap) (h : DiskAt W' base p pl { D with waits := turnAll n k b D.waits is }) : KE A D W W' := by
  intro i hi _
  have hrow := h.row
  rw [hv] at hrow
  have hl : (turnAll n k b D.waits is).length = D.waits.length := turnAll_length _ _
  have hrow' : W'.ownsRow base 89 513 (.slice A D.waits.length cap) D.waits.length ((turnAll n k b D.waits is).flatMap wc) := by rw [← hl]; rw [← hl] at hrow; exact hrow
  obtain ⟨g, x, h1, h2, h3, h4⟩ := row_els hrow' hl (fun x hx => (h.wlens x hx).1) i hi
  obtain ⟨y, hy, e⟩ := turnAll_back is D.waits h2
  exact ⟨g, x, h1, ⟨y, hy, e⟩, h3, h4⟩
theorem own_disk {β : Type} {B base p : Nat} {pl : Pl} {f : β → Dk} (hB : ∀ k, pl.has p k → k < B) : OwnFrom B (fun (s : β) W => DiskAt W base p pl (f s)) := fun _ _ _ _ hs hg hr =>
  hs.keep fun k hk => hg.block k (hs.lt k hk).1 (fun e => by have := (hr k e.symm).1; have := hB k hk; omega)
set_option maxRecDepth 8000 in
/-- **a range over what waits**, the body writing into the row -/
theorem range_waiting_w (hd : DiskAt w base p pl D) (hN : D.waits.length ≤ 1000000) {A : Option Addr} {cap : Nat} (hwv : pl.wv = .slice A D.waits.length cap) {bD : Nat} (hg : a.eval g = .func (.func 62) #[] #[.pointer (some ⟨bD, 0, none⟩)])
    (hbox : w.cell? ⟨bD, 0, none⟩ = some (.pointer (some ⟨p, 0, none⟩))) (hps : ps.size = 2) (hn : 2 ≤ n)
    (I : List (DT D) → World → Prop) (hI : OwnFrom w.heap.size I) (h0 : I [] w)
    (mk : DT D → Nat → Act)
    (hassign : ∀ (l : Nat) (x : DT D) (W : World) (K : Act → World → Prop), K (mk x W.heap.size) (W.alloc (.cells (wc x.x).toArray 89)) →
      assign.wpIn (Fence.wide.inRound l) (n - 1 - 1) Try.prog (Exit.then K (fun _ _ _ => False)) { tmps := (ps.zip #[.int .i64 (x.i : Int), wv x.x]).foldl (fun t (p, v) => t.setIfInBounds p v) a.tmps, defers := [] } W)
    (hbody : ∀ (l : Nat) (pre : List (DT D)) (x : DT D) (b : Nat) (W : World), pre.length < D.waits.length → I pre W → w.heap.size ≤ b → Blk W b 89 (wc x.x).toArray →
      body.wpIn (Fence.wide.inRound l) (n - 1 - 1) Try.prog (fun e _ W' => e = .normal ∧ KeepsFrom w.heap.size W W' ∧ KE A D W W' ∧ I (pre ++ [x]) W') (mk x b) W)
    (hIs : ∀ pre W, I pre W → w.heap.size ≤ W.heap.size)
    (hdone : ∀ (B : Nat) (xs : List (DT D)) (W : World), w.heap.size ≤ B → xs.map (·.i) = List.range D.waits.length → I xs W → W.heap[B]? = some (.deferred (some [])) → Q .normal { a with defers := { target := .collected B, args := #[] } :: a.defers } W) :
    (Code.rangeFunc g ps assign body).wpIn Fence.wide n Try.prog Q a w := by
  have hrow := hd.row
  rw [hwv] at hrow
  have hcell := hd.c2
  rw [hwv] at hcell
  have hKb : ∀ (W : World) (l : Nat) (o o' : Obj), w.heap.size ≤ l → W.heap[l]? = some o → o.isCells = false → o.isWalk = false → KE A D W (W.putObj l o') := by
    intro W l o o' hl ho hc _ i hi he
    obtain ⟨g, x, h1, h2, h3, h4⟩ := he
    refine ⟨g, x, h1, h2, h3, rangeAt_keep h4 (fun hg => ?_)⟩
    simp only [World.putObj]
    rw [Array.getElem?_setIfInBounds_ne]
    have hlt := (hd.row.lt g (by rw [hwv, h1]; rfl)).2
    omega
  refine wpIn_rangeFunc_ownH (α := DT D) (Kp := KE A D) (w0 := w) rfl (by omega) (gf := 62) hg trivial (enters_of Try.func62 (by kernel_rfl) rfl)
    (waiting1_in Fence.wide (n - 1) trivial rfl (by omega) bD p D.waits.length cap A _ (KE A D) (fun W W' hk i hi he => hk i hi he) hN w hbox hcell (fun i hi => by
      obtain ⟨g, x, h1, h2, h3, h4⟩ := row_els hrow rfl (fun x hx => (hd.wlens x hx).1) i hi
      exact ⟨g, x, h1, ⟨x, h2, rfl⟩, h3, h4⟩))
    (fun h k i hi he => k i hi (h i hi he)) hKb (Below.refl _ _) (fun _ => hps.symm) I (fun _ _ _ => False) hI (fun _ _ _ _ _ h => h.elim) h0
    (fun x a' W => ∃ b, w.heap.size ≤ b ∧ a' = mk x b ∧ Blk W b 89 (wc x.x).toArray)
    (fun x a' s X Y row hs hg hr => by
      obtain ⟨b, h1, h2, h3⟩ := hs
      exact ⟨b, h1, h2, own_blk w.heap.size b _ (fun _ => _) s X Y row h3 hg hr⟩) ?_ ?_ ?_ ?_
  · intro l pre x W K hi hK
    have hsz := hIs pre W hi
    exact hassign l x W K (hK _ _ ((KeepsOthers.alloc W _).from _) (fun i _ he => he.alloc _) (hI.alloc _ hi) ⟨W.heap.size, hsz, rfl, Blk.new W _ _⟩)
  · rintro l pre x a' W hl _ hi ⟨b, h1, rfl, h3⟩ hlen
    refine wpIn_mono (hbody l pre x b W hlen hi h1 h3) ?_
    rintro e a2 W2 ⟨rfl, k1, k2, k3⟩
    exact ⟨k1, k2, k3⟩
  · intro B xs W hB hS hi hD
    exact hdone B xs W hB (elts_range hS) hi hD
  · intro B c pre W _ _ h _
    exact h.elim
end
end Go.Proofs.Ytgjamgojjajcnaa
namespace Go.Proofs.Ytgjamgojjajcnaa
open Go.RowKit
attribute [local go_sem] Oper.semAt_some
set_option maxRecDepth 8000 in
/-- a cell of a row that is owned, and another put there -/
theorem own_put {w : World} {base g c n size : Nat} {e : TypeId} {xs : List Value} (h : w.ownsRow base e size (.slice (some ⟨g, 0, none⟩) n c) n xs) {i : Nat} {y : Value} (hi : xs[i]? = some y) (u : Value) :
    w.cell? ⟨g, i, none⟩ = some y ∧ w.frozen? ⟨g, i, none⟩ = false ∧ (w.setCell ⟨g, i, none⟩ u).ownsRow base e size (.slice (some ⟨g, 0, none⟩) n c) n (xs.set i u) := by
  have hil := (List.getElem?_eq_some_iff.1 hi).1
  have hlen := h.1
  rcases h.2 with ⟨h0, _⟩ | ⟨g', cap', cur, hv, hb, hg, h1, h2, h3, h4⟩
  · cases h0
  · injection hv with e1 e2 e3
    injection e1 with e1
    injection e1 with e1
    subst e1; subst e3
    refine ⟨?_, frozen_of_row w g i cur e hg, by rw [List.length_set]; exact hlen, .inr ⟨g, c, _, rfl, hb, heap_setCell_same w g i cur e u hg, h1, h2, by simpa using h3, ?_⟩⟩
    · rw [cell_of_row w g i cur e (0, 0) hg]
      rw [← h4, List.getElem?_take, if_pos (by rw [← hlen]; exact hil)] at hi
      simpa using hi
    · rw [Array.toList_setIfInBounds, List.take_set, h4]
set_option maxRecDepth 8000 in
theorem own_addr {w : World} {base n c size : Nat} {A : Option Addr} {e : TypeId} {xs : List Value} (h : w.ownsRow base e size (.slice A n c) n xs) (hn : 0 < n) : ∃ g, A = some ⟨g, 0, none⟩ ∧ base ≤ g ∧ g < w.heap.size := by
  rcases h.2 with ⟨_, h0⟩ | ⟨g', cap', cur, hv, hb, hg, _⟩
  · omega
  · injection hv with e1 _ _
    exact ⟨g', e1, hb, (Array.getElem?_eq_some_iff.1 hg).1⟩
theorem wpList_make94 {ops : Array Oper} {rest : List Oper} {o : Oper} {a : Act} {w : World} {Q : Exit → Act → World → Prop} (hgd : o.guard = none) (ho : o.op = .buildSlice 32 0 #[])
    (h : ∀ g0 w', w'.ownsRow w.heap.size 94 513 (.slice (some ⟨g0, 0, none⟩) 0 0) 0 [] → g0 = w.heap.size → w' = w.alloc (.cells #[] 94) → wpList Try.prog ops Q rest (a.put o.dst (.slice (some ⟨g0, 0, none⟩) 0 0)) w') : wpList Try.prog ops Q (o :: rest) a w :=
  wpList_step fun _ hK => step_make94 hgd ho fun g0 w' h1 h2 h3 => hK _ _ (h g0 w' h1 h2 h3)
theorem wpList_append94s {ops : Array Oper} {rest : List Oper} {o : Oper} {a : Act} {w : World} {Q : Exit → Act → World → Prop} (hgd : o.guard = none) (s x : Operand)
    (ho : o.op = .call { callee := .builtin .append, args := #[s, x], argTypes := #[32, 32] }) {base n : Nat} {v : Value} {xs : List Value} (hs : a.eval s = v) (hown : w.ownsRow base 94 513 v n xs)
    {A : Option Addr} {m c : Nat} {ws : List (Nat × List UInt8)} (hx : a.eval x = .slice A m c) (hr : RdW w A ws) (hm : ws.length = m) (hws : ∀ x ∈ ws, x.2.length = 512) (hbig : n + m ≤ 1000000) (hbase : base ≤ w.heap.size)
    (h : ∀ v' w', w'.ownsRow base 94 513 v' (n + m) (xs ++ ws.flatMap wc) → w.grownBy w' v.ownBlock → (v'.ownBlock = v.ownBlock ∨ v'.ownBlock = some w.heap.size) → wpList Try.prog ops Q rest (a.put o.dst v') w') : wpList Try.prog ops Q (o :: rest) a w :=
  wpList_step fun _ hK => step_append94s hgd s x ho hs hown hx hr hm hws hbig hbase fun v' w' h1 h2 h3 => hK _ _ (h v' w' h1 h2 h3)
set_option maxRecDepth 8000 in
theorem turn_list {l : List UInt8} {k : Nat} {y b : UInt8} (h : l[k]? = some y) : (bv l).set k (.int .u8 ((y.toNat ^^^ b.toNat : Nat) : Int)) = bv (turnL l k b) := by
  rw [← UInt8.toNat_xor, turnL_set _ _ _ (List.getElem?_eq_some_iff.1 h).1, (List.getElem?_eq_some_iff.1 h).2]
  unfold bv
  rw [List.map_set]
/-- the document's disk with bits turned -/
def Rf.spoilt (R : Rf) (n k : Nat) (b : UInt8) : Rf := ⟨turnL R.lb (512 * n + k) b, R.ws.map (turnW n k b), R.fl⟩
set_option maxRecDepth 8000 in
theorem own_ne {w : World} {base base' g1 n1 c1 n2 c2 : Nat} {A2 : Option Addr} {xs ys : List Value} (h : w.ownsRow base 5 1 (.slice (some ⟨g1, 0, none⟩) n1 c1) n1 xs) (h' : w.ownsRow base' 94 513 (.slice A2 n2 c2) n2 ys) {g2 : Nat} (e1 : A2 = some ⟨g2, 0, none⟩) (e2 : g2 = g1) : False := by
  subst e1 e2
  rcases h.2 with ⟨h0, _⟩ | ⟨g, _, _, hv, _, hg, _⟩
  · cases h0
  · injection hv with hv _ _
    injection hv with hv
    injection hv with hv
    subst hv
    rcases h'.2 with ⟨h0, _⟩ | ⟨g', _, _, hv', _, hg', _⟩
    · cases h0
    · injection hv' with hv' _ _
      injection hv' with hv'
      injection hv' with hv'
      subst hv'
      rw [hg] at hg'
      injection hg' with hg'
      injection hg' with _ ht
      cases ht
set_option maxRecDepth 8000 in
theorem size43d (v0 v1 v2 v3 : Value) : (Try.prog.info? 34).map (·.size) = some (#[v0, v1, v2, v3] : Array Value).size := by kernel_rfl
set_option maxRecDepth 8000 in
theorem one43d (A1 A2 A3 : Option Addr) (n1 c1 n2 c2 n3 c3 : Nat) (t : Int) : (#[.slice A1 n1 c1, .slice A2 n2 c2, .int .i64 t, .slice A3 n3 c3] : Array Value).all (fun x => x.oneCell') = true := by
  simp [Value.oneCell']
set_option maxRecDepth 8000 in
theorem rspoil_ref {w w' : World} {r : Rp} {R : Rf} {z n k u : Nat} {b : UInt8} (H : RefAt w r R z) (hu : u = 512 * n + k) {A1 A2 : Option Addr} {c1 c2 base base' : Nat} (o1 : w'.ownsRow base 5 1 (.slice A1 r.n1 c1) r.n1 (bv (turnL R.lb u b)))
    (o2 : w'.ownsRow base' 94 513 (.slice A2 r.n2 c2) r.n2 ((R.ws.map (turnW n k b)).flatMap wc)) (hb : Below w.heap.size w w') : RefAt w' ⟨A1, r.n1, c1, A2, r.n2, c2, r.A3, r.n3, r.c3⟩ (R.spoilt n k b) z where
  n1 := H.n1
  l1 := by show (turnL _ _ _).length = _; rw [turnL_length, H.l1]
  r1 := by rw [hu] at o1; exact Rd.of_own o1
  n2 := by show r.n2 = (R.ws.map _).length; rw [List.length_map, H.n2]
  r2 := rdW_own (fun x hx => by obtain ⟨y, hy, rfl⟩ := List.mem_map.1 hx; rw [turnW_len]; exact (H.wl y hy).1) o2
  n3 := H.n3
  r3 := H.r3.below hb
  wl := fun x hx => by obtain ⟨y, hy, rfl⟩ := List.mem_map.1 hx; rw [turnW_len, turnW_fst]; exact H.wl y hy
  z1 := H.z1
  z2 := H.z2
  m2 := by show (R.ws.map _).length ≤ _; rw [List.length_map]; exact H.m2
  m3 := H.m3
/-- the blocks of the call while it goes on -/
structure Sg (w0 : World) (cells : Array Value) (W : World) : Prop where
  h0 : Blk W w0.heap.size 34 cells
  h1 : Blk W (w0.heap.size + 1) 34 #[.slice none 0 0, .slice none 0 0, .int .i64 0, .slice none 0 0]
  be : Below w0.heap.size w0 W
section
variable {w0 W W' : World} {cells : Array Value}
theorem Sg.next (h : Sg w0 cells W) (hb : Below (w0.heap.size + 2) W W') : Sg w0 cells W' := ⟨h.h0.below hb (by omega), h.h1.below hb (by omega), h.be.trans (hb.mono (by omega))⟩
theorem Sg.two (h : Sg w0 cells W) : w0.heap.size + 2 ≤ W.heap.size := h.h1.lt
theorem Sg.alloc (h : Sg w0 cells W) (o : Obj) : Sg w0 cells (W.alloc o) := h.next ((Below.refl _ W).alloc h.two o)
theorem Sg.put (h : Sg w0 cells W) (i : Nat) (v : Value) : Sg w0 (cells.setIfInBounds i v) (W.setCell ⟨w0.heap.size, i, none⟩ v) :=
  ⟨h.h0.set_ i v, h.h1.far (by simp) v, h.be.setCell (Nat.le_refl _) v⟩
end
set_option maxRecDepth 100000 in
set_option maxHeartbeats 4000000 in
theorem rspoil_goes {w : World} {r : Rp} {R : Rf} {s z : Nat} (h : RefAt w r R z) (n k : Nat) (b : UInt8) (hn : n < z) (hk : k < 512) :
    Calls Try.prog 35 #[r.val s, .int .i64 (n : Int), .int .i64 (k : Int), .int .u8 (b.toNat : Int)] w fun e w' => ∃ A1 c1 A2 c2, e = .returned (.tuple #[Rp.val ⟨A1, r.n1, c1, A2, r.n2, c2, r.A3, r.n3, r.c3⟩ s, .int .i64 0]) ∧ Below w.heap.size w w' ∧
      RefAt w' ⟨A1, r.n1, c1, A2, r.n2, c2, r.A3, r.n3, r.c3⟩ (R.spoilt n k b) z ∧ (∀ b off, A1 = some ⟨b, off, none⟩ → w.heap.size ≤ b) ∧ (∀ b off, A2 = some ⟨b, off, none⟩ → 0 < R.ws.length → w.heap.size ≤ b) := by
  have hz := z43
  have H := Lib.hid h
  have HN := Lib.hid hn
  have HK := Lib.hid hk
  have X0 := Lib.hid (show Sg w #[.slice r.A1 r.n1 r.c1, .slice r.A2 r.n2 r.c2, .int .i64 (s : Int), .slice r.A3 r.n3 r.c3] ((w.alloc (.cells (r.cells s) 34)).alloc (.cells #[.slice none 0 0, .slice none 0 0, .int .i64 0, .slice none 0 0] 34)) from ⟨(Blk.new w _ _).alloc _, by have := Blk.new (w.alloc (.cells (r.cells s) 34)) 34 #[.slice none 0 0, .slice none 0 0, .int .i64 0, .slice none 0 0]; simpa using this, ((Below.refl w.heap.size w).alloc (Nat.le_refl _) _).alloc (by simp) _⟩)
  have Z2 := h.z2
  have d0 : decide ((n : Int) < 0) = false := decide_eq_false (by omega)
  have d1 : decide ((z : Int) ≤ (n : Int)) = false := decide_eq_false (by omega)
  have d1' : decide (z ≤ n) = false := decide_eq_false (by omega)
  have d2 : decide ((k : Int) < 0) = false := decide_eq_false (by omega)
  have d3 : decide (512 ≤ (k : Int)) = false := decide_eq_false (by omega)
  have d3' : decide (512 ≤ k) = false := decide_eq_false (by omega)
  have w1 : IntKind.i64.wrap (512 * (n : Int)) = ((512 * n : Nat) : Int) := by rw [show 512 * (n : Int) = ((512 * n : Nat) : Int) by omega]; exact IntWalk.i64_in _ (by omega)
  obtain ⟨u, hu⟩ : ∃ u, u = 512 * n + k := ⟨_, rfl⟩
  have w2 : IntKind.i64.wrap (512 * (n : Int) + (k : Int)) = (u : Int) := by rw [show 512 * (n : Int) + (k : Int) = (u : Int) by omega]; exact IntWalk.i64_in _ (by omega)
  have HU := Lib.hid hu
  have HNB := Lib.hid (show 0 < r.n1 ∧ r.n1 ≤ 3000000 by have := h.n1; have := h.z1; omega)
  clear h hn hk Z2 hu
  go_enter Try.func35, Try.ntmps35
  go_wp2_with fail
  generalize (w.alloc (.cells (r.cells s) 34)).alloc (.cells #[.slice none 0 0, .slice none 0 0, .int .i64 0, .slice none 0 0] 34) = W at X0 ⊢
  refine (rsize_any (H.out.below X0.out.be) s).mono ?_
  rintro e W1 ⟨rfl, hb1⟩
  have X1 := Lib.hid (X0.out.next (hb1.mono X0.out.two))
  have R1 := Lib.hid ((H.out.r1.below X1.out.be).alloc (.cells #[] 5))
  have XA := Lib.hid (X1.out.alloc (.cells #[] 5))
  have c0 := (XA.out.h0.cell 0).trans (show _ = some (.slice r.A1 r.n1 r.c1) from rfl)
  clear hb1 X0
  go_wp2_with (at_builtin; refine wpList_append_bytes _ rfl (.tmp 28) (.tmp 30) _ rfl Try.underlying22 infoU8 rfl (lit0 W1) rfl R1.out (H.out.l1.trans H.out.n1.symm) (by have := HNB.out; omega) (by simp) ?_; intro v1 W2 hown1 hg1 hat1; simp only [Nat.zero_add, List.nil_append] at hown1; obtain ⟨AA, ca, rfl⟩ := own_shape hown1; obtain ⟨g1, rfl, hgb, hgl⟩ := own_addr hown1 HNB.out.1; have HO1 := Lib.hid (own_base hown1 X1.out.two); have X2 := Lib.hid (XA.out.next (by have := below_append (Below.refl (w.heap.size + 2) _) (own_base (lit0 W1) X1.out.two) hg1 (Nat.le_refl _) XA.out.two; exact this)); have c1 := (X2.out.h0.cell 0).trans (show _ = some (.slice r.A1 r.n1 r.c1) from rfl); have f1 := X2.out.h0.frozen 0; have G1 := Lib.hid (show w.heap.size + 2 ≤ g1 from Nat.le_trans X1.out.two hgb); clear hown1 hg1 hat1 hgb hgl c0)
  have X3 := Lib.hid (show Sg w #[(.slice (some ⟨g1, 0, none⟩) r.n1 ca), .slice r.A2 r.n2 r.c2, .int .i64 (s : Int), .slice r.A3 r.n3 r.c3] (W2.setCell ⟨w.heap.size, 0, none⟩ (.slice (some ⟨g1, 0, none⟩) r.n1 ca)) from X2.out.put 0 (.slice (some ⟨g1, 0, none⟩) r.n1 ca))
  have O3 := Lib.hid (own_set HO1.out ⟨w.heap.size, 0, none⟩ (.slice (some ⟨g1, 0, none⟩) r.n1 ca) (fun q hq => by injection hq with hq; have := G1.out; simp only at hq ⊢; omega))
  generalize W2.setCell ⟨w.heap.size, 0, none⟩ (.slice (some ⟨g1, 0, none⟩) r.n1 ca) = W3 at X3 O3 ⊢
  clear X1 X2 R1 XA HO1 c1 f1
  obtain ⟨y, hy⟩ : ∃ y, R.lb[u]? = some y := ⟨_, List.getElem?_eq_getElem (by have := H.out.l1; have := HN.out; have := HK.out; have := HU.out; omega)⟩
  have HP := Lib.hid (own_put O3.out (i := u) (y := .int .u8 (y.toNat : Int)) (by rw [bv_get, hy]; rfl) (.int .u8 ((y.toNat ^^^ b.toNat : Nat) : Int)))
  have HT := Lib.hid (show (bv R.lb).set (u) (.int .u8 ((y.toNat ^^^ b.toNat : Nat) : Int)) = bv (turnL R.lb (u) b) from turn_list hy)
  have hx := xor_u8 y b
  have i1 : (0 : Int) ≤ ((u : Nat) : Int) := by omega
  have i2 : ((u : Nat) : Int) < (r.n1 : Int) := by have := H.out.n1; have := HN.out; have := HK.out; have := HU.out; omega
  clear hy
  refine wp_region_U (S := fun w' => w'.cell? ⟨w.heap.size, 0, none⟩ = some (.slice (some ⟨g1, 0, none⟩) r.n1 ca) ∧ w'.cell? ⟨g1, u, none⟩ = some (.int .u8 (y.toNat : Int)) ∧ w'.frozen? ⟨g1, u, none⟩ = false) 17 (by kernel_rfl) ⟨(X3.out.h0.cell 0).trans rfl, HP.out.1, HP.out.2.1⟩ (fun hHeld => ?_)
  refine wpAnyU_take (i := 0) (v := ?v1) rfl (by kernel_rfl) (by kernel_rfl) (by kernel_rfl) (by kernel_rfl) (fun _ _ _ h => h) (Or.inl ⟨by rfl, ?hy1⟩) hHeld ?rest1
  case hy1 =>
    intro w' hSw
    try dsimp only at hSw
    go_simp
    first | done | with_reducible rfl
  try simp only [Act.put, List.getElem_toArray, List.getElem_cons_zero, List.setIfInBounds_toArray, List.set_cons_zero, List.set_cons_succ]
  refine wpAnyU_take (i := 1) (v := ?v2) rfl (by kernel_rfl) (by kernel_rfl) (by kernel_rfl) (by kernel_rfl) (fun _ _ _ h => h) (Or.inl ⟨by rfl, ?hy2⟩) hHeld ?rest2
  case hy2 =>
    intro w' hSw
    try dsimp only at hSw
    go_simp
    first | done | with_reducible rfl
  try simp only [Act.put, List.getElem_toArray, List.getElem_cons_succ, List.getElem_cons_zero, List.setIfInBounds_toArray, List.set_cons_zero, List.set_cons_succ]
  refine wpAnyU_take (i := 2) (v := ?v3) rfl (by kernel_rfl) (by kernel_rfl) (by kernel_rfl) (by kernel_rfl) (fun _ _ _ h => h) (Or.inl ⟨by rfl, ?hy3⟩) hHeld ?rest3
  case hy3 =>
    intro w' hSw
    try dsimp only at hSw
    go_simp
    first | done | with_reducible rfl
  try simp only [Act.put, List.getElem_toArray, List.getElem_cons_succ, List.getElem_cons_zero, List.setIfInBounds_toArray, List.set_cons_zero, List.set_cons_succ]
  refine wpAnyU_take (i := 3) (v := ?v4) rfl (by kernel_rfl) (by kernel_rfl) (by kernel_rfl) (by kernel_rfl) (fun _ _ _ h => h) (Or.inl ⟨by rfl, ?hy4⟩) hHeld ?rest4
  case hy4 =>
    intro w' hSw
    try dsimp only at hSw
    go_simp
    first | done | with_reducible rfl
  try simp only [Act.put, List.getElem_toArray, List.getElem_cons_succ, List.getElem_cons_zero, List.setIfInBounds_toArray, List.set_cons_zero, List.set_cons_succ]
  refine wpAnyU_take (i := 4) (v := ?v5) rfl (by kernel_rfl) (by kernel_rfl) (by kernel_rfl) (by kernel_rfl) (fun _ _ _ h => h) (Or.inl ⟨by rfl, ?hy5⟩) hHeld ?rest5
  case hy5 =>
    intro w' hSw
    try dsimp only at hSw
    go_simp
    first | done | with_reducible rfl
  try simp only [Act.put, List.getElem_toArray, List.getElem_cons_succ, List.getElem_cons_zero, List.setIfInBounds_toArray, List.set_cons_zero, List.set_cons_succ]
  refine wpAnyU_take (i := 5) (v := ?v6) rfl (by kernel_rfl) (by kernel_rfl) (by kernel_rfl) (by kernel_rfl) (fun _ _ _ h => h) (Or.inl ⟨by rfl, ?hy6⟩) hHeld ?rest6
  case hy6 =>
    intro w' hSw
    try dsimp only at hSw
    go_simp
    first | done | with_reducible rfl
  try simp only [Act.put, List.getElem_toArray, List.getElem_cons_succ, List.getElem_cons_zero, List.setIfInBounds_toArray, List.set_cons_zero, List.set_cons_succ]
  refine wpAnyU_take (i := 6) (v := ?v7) rfl (by kernel_rfl) (by kernel_rfl) (by kernel_rfl) (by kernel_rfl) (fun _ _ _ h => h) (Or.inl ⟨by rfl, ?hy7⟩) hHeld ?rest7
  case hy7 =>
    intro w' hSw
    try dsimp only at hSw
    go_simp
    first | done | with_reducible rfl
  try simp only [Act.put, List.getElem_toArray, List.getElem_cons_succ, List.getElem_cons_zero, List.setIfInBounds_toArray, List.set_cons_zero, List.set_cons_succ]
  refine wpAnyU_take (i := 7) (v := ?v8) rfl (by kernel_rfl) (by kernel_rfl) (by kernel_rfl) (by kernel_rfl) (fun _ _ _ h => h) (Or.inl ⟨by rfl, ?hy8⟩) hHeld ?rest8
  case hy8 =>
    intro w' hSw
    try dsimp only at hSw
    go_simp
    first | done | with_reducible rfl
  try simp only [Act.put, List.getElem_toArray, List.getElem_cons_succ, List.getElem_cons_zero, List.setIfInBounds_toArray, List.set_cons_zero, List.set_cons_succ]
  refine wpAnyU_take (i := 8) (v := ?v9) rfl (by kernel_rfl) (by kernel_rfl) (by kernel_rfl) (by kernel_rfl) (fun _ _ _ h => h) (Or.inl ⟨by rfl, ?hy9⟩) hHeld ?rest9
  case hy9 =>
    intro w' hSw
    try dsimp only at hSw
    go_simp
    first | done | with_reducible rfl
  try simp only [Act.put, List.getElem_toArray, List.getElem_cons_succ, List.getElem_cons_zero, List.setIfInBounds_toArray, List.set_cons_zero, List.set_cons_succ]
  refine wpAnyU_take (i := 9) (v := ?v10) rfl (by kernel_rfl) (by kernel_rfl) (by kernel_rfl) (by kernel_rfl) (fun _ _ _ h => h) (Or.inl ⟨by rfl, ?hy10⟩) hHeld ?rest10
  case hy10 =>
    intro w' hSw
    try dsimp only at hSw
    go_simp
    first | done | with_reducible rfl
  try simp only [Act.put, List.getElem_toArray, List.getElem_cons_succ, List.getElem_cons_zero, List.setIfInBounds_toArray, List.set_cons_zero, List.set_cons_succ]
  refine wpAnyU_take (i := 10) (v := ?v11) rfl (by kernel_rfl) (by kernel_rfl) (by kernel_rfl) (by kernel_rfl) (fun _ _ _ h => h) (Or.inl ⟨by rfl, ?hy11⟩) hHeld ?rest11
  case hy11 =>
    intro w' hSw
    try dsimp only at hSw
    go_simp
    first | done | with_reducible rfl
  try simp only [Act.put, List.getElem_toArray, List.getElem_cons_succ, List.getElem_cons_zero, List.setIfInBounds_toArray, List.set_cons_zero, List.set_cons_succ]
  refine wpAnyU_take (i := 11) (v := ?v12) rfl (by kernel_rfl) (by kernel_rfl) (by kernel_rfl) (by kernel_rfl) (fun _ _ _ h => h) (Or.inl ⟨by rfl, ?hy12⟩) hHeld ?rest12
  case hy12 =>
    intro w' hSw
    try dsimp only at hSw
    go_simp
    first | done | with_reducible rfl
  try simp only [Act.put, List.getElem_toArray, List.getElem_cons_succ, List.getElem_cons_zero, List.setIfInBounds_toArray, List.set_cons_zero, List.set_cons_succ]
  refine wpAnyU_take (i := 12) (v := ?v13) rfl (by kernel_rfl) (by kernel_rfl) (by kernel_rfl) (by kernel_rfl) (fun _ _ _ h => h) (Or.inl ⟨by rfl, ?hy13⟩) hHeld ?rest13
  case hy13 =>
    intro w' hSw
    try dsimp only at hSw
    go_simp
    first | done | with_reducible rfl
  try simp only [Act.put, List.getElem_toArray, List.getElem_cons_succ, List.getElem_cons_zero, List.setIfInBounds_toArray, List.set_cons_zero, List.set_cons_succ]
  refine wpAnyU_take (i := 13) (v := ?v14) rfl (by kernel_rfl) (by kernel_rfl) (by kernel_rfl) (by kernel_rfl) (fun _ _ _ h => h) (Or.inl ⟨by rfl, ?hy14⟩) hHeld ?rest14
  case hy14 =>
    intro w' hSw
    try dsimp only at hSw
    go_simp
    first | done | with_reducible rfl
  try simp only [Act.put, List.getElem_toArray, List.getElem_cons_succ, List.getElem_cons_zero, List.setIfInBounds_toArray, List.set_cons_zero, List.set_cons_succ]
  refine wpAnyU_take (i := 14) (v := ?v15) rfl (by kernel_rfl) (by kernel_rfl) (by kernel_rfl) (by kernel_rfl) (fun _ _ _ h => h) (Or.inl ⟨by rfl, ?hy15⟩) hHeld ?rest15
  case hy15 =>
    intro w' hSw
    try dsimp only at hSw
    go_simp
    first | done | with_reducible rfl
  try simp only [Act.put, List.getElem_toArray, List.getElem_cons_succ, List.getElem_cons_zero, List.setIfInBounds_toArray, List.set_cons_zero, List.set_cons_succ]
  refine wpAnyU_take (i := 15) (v := ?v16) rfl (by kernel_rfl) (by kernel_rfl) (by kernel_rfl) (by kernel_rfl) (fun _ _ _ h => h) (Or.inl ⟨by rfl, ?hy16⟩) hHeld ?rest16
  case hy16 =>
    intro w' hSw
    try dsimp only at hSw
    go_simp
    first | done | with_reducible rfl
  try simp only [Act.put, List.getElem_toArray, List.getElem_cons_succ, List.getElem_cons_zero, List.setIfInBounds_toArray, List.set_cons_zero, List.set_cons_succ]
  refine wpAnyU_take (i := 16) (v := ?v17) rfl (by kernel_rfl) (by kernel_rfl) (by kernel_rfl) (by kernel_rfl) (fun _ _ _ h => h) (Or.inl ⟨by rfl, ?hy17⟩) hHeld ?rest17
  case hy17 =>
    intro w' hSw
    try dsimp only at hSw
    go_simp
    first | done | with_reducible rfl
  try simp only [Act.put, List.getElem_toArray, List.getElem_cons_succ, List.getElem_cons_zero, List.setIfInBounds_toArray, List.set_cons_zero, List.set_cons_succ]
  refine wpAnyU_one (i := 17) (by kernel_rfl) (by rfl) (fun K hK => ?_)
  have fz := hHeld.2.2
  have cz := hHeld.2.1
  go_simp
  have X4 := Lib.hid (show Sg w #[(.slice (some ⟨g1, 0, none⟩) r.n1 ca), .slice r.A2 r.n2 r.c2, .int .i64 (s : Int), .slice r.A3 r.n3 r.c3] (W3.setCell ⟨g1, u, none⟩ (.int .u8 ((y.toNat ^^^ b.toNat : Nat) : Int))).drew from X3.out.next (((Below.refl _ W3).setCell G1.out _).drew))
  have O4 := Lib.hid (show (W3.setCell ⟨g1, u, none⟩ (.int .u8 ((y.toNat ^^^ b.toNat : Nat) : Int))).drew.ownsRow (w.heap.size + 2) 5 1 (.slice (some ⟨g1, 0, none⟩) r.n1 ca) r.n1 (bv (turnL R.lb (u) b)) from HT.out ▸ HP.out.2.2)
  generalize (W3.setCell ⟨g1, u, none⟩ (.int .u8 ((y.toNat ^^^ b.toNat : Nat) : Int))).drew = W4 at X4 O4 ⊢
  refine hK.out _ _ (.inl rfl) (fun hHeld => ?_)
  clear hK K
  try simp only [Act.put, List.getElem_toArray, List.getElem_cons_succ, List.getElem_cons_zero, List.setIfInBounds_toArray, List.set_cons_zero, List.set_cons_succ]
  refine wpAnyU_done (by kernel_rfl) ?_ _
  refine OnlyN.normal ?_
  clear hHeld fz cz HP HT X3 O3 hx i1 i2
  have XB := Lib.hid (X4.out.alloc (.cells #[] 94))
  have OB := Lib.hid (O4.out.alloc (.cells #[] 94))
  have c4 := (XB.out.h0.cell 1).trans (show _ = some (.slice r.A2 r.n2 r.c2) from rfl)
  have N2 := Lib.hid (show r.n2 ≤ 100000 by have := H.out.n2; have := H.out.m2; omega)
  go_wp2_with (first
    | (refine wpList_make94 rfl (by rfl) ?_; rintro g0 W5 hown0 hg0 rfl; have HO5 := Lib.hid (own_base hown0 X4.out.two); have NE := Lib.hid (show g1 ≠ g0 from by have := (O4.out.lt g1 rfl).2; omega); clear hown0 hg0)
    | (at_builtin; refine wpList_append94s rfl (.tmp 50) (.tmp 52) (by rfl) (by rfl) HO5.out (by rfl) (H.out.r2.below XB.out.be) H.out.n2.symm (fun x hx => (H.out.wl x hx).1) (by have := N2.out; omega) XB.out.two ?_; intro v2 W6 hown6 hg6 hat6; simp only [Nat.zero_add, List.nil_append] at hown6; obtain ⟨A2, c2, rfl⟩ := own_shape hown6; have HO6 := Lib.hid hown6; have OB6 := Lib.hid (OB.out.kept hg6 (.inr (fun e => by injection e with e; exact NE.out e))); have X6 := Lib.hid (XB.out.next ((Below.refl _ _).grown hg6 XB.out.two (fun q hq => (HO5.out.lt q hq).1))); have c6 := (X6.out.h0.cell 1).trans (show _ = some (.slice r.A2 r.n2 r.c2) from rfl); have f6 := X6.out.h0.frozen 1; have AP := Lib.hid hat6; clear hown6 hg6 hat6 c4))
  have X7 := Lib.hid (show Sg w #[(.slice (some ⟨g1, 0, none⟩) r.n1 ca), .slice A2 r.n2 c2, .int .i64 (s : Int), .slice r.A3 r.n3 r.c3] (W6.setCell ⟨w.heap.size, 1, none⟩ (.slice A2 r.n2 c2)) from X6.out.put 1 (.slice A2 r.n2 c2))
  have O7 := Lib.hid (own_set OB6.out ⟨w.heap.size, 1, none⟩ (.slice A2 r.n2 c2) (fun q hq => by injection hq with hq; have := G1.out; simp only at hq ⊢; omega))
  have P7 := Lib.hid (own_set HO6.out ⟨w.heap.size, 1, none⟩ (.slice A2 r.n2 c2) (fun q hq => by have := (HO6.out.lt q hq).1; simp only; omega))
  have NG2 := Lib.hid (show ∀ g2, A2 = some ⟨g2, 0, none⟩ → g2 ≠ g1 from fun g2 e1 e2 => own_ne OB6.out HO6.out e1 e2)
  generalize W6.setCell ⟨w.heap.size, 1, none⟩ (.slice A2 r.n2 c2) = W7 at X7 O7 P7 ⊢
  clear X6 OB6 HO6 c6 f6 AP HO5 NE XB OB X4 O4
  have HWS := Lib.hid (show ∀ x ∈ R.ws, x.2.length = 512 ∧ x.1 < z from H.out.wl)
  go_loopw [10] (fun i wr => ∃ j : Nat, j ≤ R.ws.length ∧ i = .int .i64 (j : Int) ∧ Sg w #[(.slice (some ⟨g1, 0, none⟩) r.n1 ca), .slice A2 r.n2 c2, .int .i64 (s : Int), .slice r.A3 r.n3 r.c3] wr ∧ wr.ownsRow (w.heap.size + 2) 5 1 (.slice (some ⟨g1, 0, none⟩) r.n1 ca) r.n1 (bv (turnL R.lb u b)) ∧ wr.ownsRow (w.heap.size + 2) 94 513 (.slice A2 r.n2 c2) r.n2 ((turnAll n k b R.ws (List.range j)).flatMap wc)) (fun i _ => R.ws.length - (intOf i).toNat)
  case atStart => exact ⟨0, Nat.zero_le _, rfl, X7.out, O7.out, P7.out⟩
  case round =>
    obtain ⟨j, hj, rfl, x, o1, o2⟩ := hrel
    clear X7 O7 P7
    have XR := Lib.hid x
    have OR := Lib.hid o1
    have PR := Lib.hid o2
    have c1 := (x.h0.cell 1).trans (show _ = some (.slice A2 r.n2 c2) from rfl)
    clear x o1 o2
    by_cases hlt : j < R.ws.length
    · obtain ⟨g2, rfl, hg2, _⟩ := own_addr PR.out (by have := H.out.n2; omega)
      have G2 := Lib.hid hg2
      obtain ⟨x0, hx0⟩ : ∃ x0, R.ws[j]? = some x0 := ⟨_, List.getElem?_eq_getElem hlt⟩
      obtain ⟨x', hx', hxf⟩ := turnAll_get (n := n) (k := k) (b := b) (List.range j) R.ws hx0
      have HL := Lib.hid (turnAll_mem (n := n) (k := k) (b := b) (List.range j) R.ws HWS.out)
      have HX := Lib.hid hx'
      have cs0 := (own_put PR.out (flat_get _ (fun x hx => (HL.out x hx).1) j x' hx' 0 (.int .i64 (x'.1 : Int)) rfl) undef).1
      rw [Nat.add_zero] at cs0
      have i1 : (0 : Int) ≤ (j : Int) := by omega
      have i2 : (j : Int) < (r.n2 : Int) := by have := H.out.n2; omega
      have jb : j ≤ 100000 := by have := N2.out; omega
      have RS := Lib.hid (show turnAll n k b R.ws (List.range (j + 1)) = turnAt n k b (turnAll n k b R.ws (List.range j)) j by rw [List.range_succ]; exact turnAll_snoc _ _)
      clear hx0 hxf hx' hg2
      by_cases hxn : x'.1 = n
      · have hbe : ((x'.1 : Int) == (n : Int)) = true := beq_iff_eq.2 (by omega)
        obtain ⟨y', hy'⟩ : ∃ y', x'.2[k]? = some y' := ⟨_, List.getElem?_eq_getElem (by rw [(HL.out x' (List.mem_of_getElem? HX.out)).1]; exact HK.out)⟩
        have HP2 := Lib.hid (own_put PR.out (i := j * 513 + 1 + k) (y := .int .u8 (y'.toNat : Int)) (by rw [show j * 513 + 1 + k = j * 513 + (k + 1) by omega]; exact flat_get _ (fun x hx => (HL.out x hx).1) j x' HX.out (k + 1) _ (by rw [wc, List.getElem?_cons_succ, bv_get, hy']; rfl)) (.int .u8 ((y'.toNat ^^^ b.toNat : Nat) : Int)))
        have HT2 := Lib.hid (show ((turnAll n k b R.ws (List.range j)).flatMap wc).set (j * 513 + 1 + k) (.int .u8 ((y'.toNat ^^^ b.toNat : Nat) : Int)) = (turnAt n k b (turnAll n k b R.ws (List.range j)) j).flatMap wc from by rw [← UInt8.toNat_xor]; exact flat_turn HK.out _ j x' (fun x hx => (HL.out x hx).1) HX.out hxn y' hy')
        have hx := xor_u8 y' b
        have k1 : (0 : Int) ≤ (k : Int) := by omega
        have k2 : (k : Int) < 512 := by have := HK.out; omega
        clear hy' hxn
        go_wp2_with fail
        refine wp_region_U (S := fun w' => w'.cell? ⟨w.heap.size, 1, none⟩ = some (.slice (some ⟨g2, 0, none⟩) r.n2 c2) ∧ w'.cell? ⟨g2, j * 513 + 1 + k, none⟩ = some (.int .u8 (y'.toNat : Int)) ∧ w'.frozen? ⟨g2, j * 513 + 1 + k, none⟩ = false) 17 (by kernel_rfl) ⟨(XR.out.h0.cell 1).trans rfl, HP2.out.1, HP2.out.2.1⟩ (fun hHeld => ?_)
        refine wpAnyU_take (i := 0) (v := ?v18) rfl (by kernel_rfl) (by kernel_rfl) (by kernel_rfl) (by kernel_rfl) (fun _ _ _ h => h) (Or.inl ⟨by rfl, ?hy18⟩) hHeld ?rest18
        case hy18 =>
          intro w' hSw
          try dsimp only at hSw
          go_simp
          first | done | with_reducible rfl
        try simp only [Act.put, List.getElem_toArray, List.getElem_cons_zero, List.setIfInBounds_toArray, List.set_cons_zero, List.set_cons_succ]
        refine wpAnyU_take (i := 1) (v := ?v19) rfl (by kernel_rfl) (by kernel_rfl) (by kernel_rfl) (by kernel_rfl) (fun _ _ _ h => h) (Or.inl ⟨by rfl, ?hy19⟩) hHeld ?rest19
        case hy19 =>
          intro w' hSw
          try dsimp only at hSw
          go_simp
          first | done | with_reducible rfl
        try simp only [Act.put, List.getElem_toArray, List.getElem_cons_succ, List.getElem_cons_zero, List.setIfInBounds_toArray, List.set_cons_zero, List.set_cons_succ]
        refine wpAnyU_take (i := 2) (v := ?v20) rfl (by kernel_rfl) (by kernel_rfl) (by kernel_rfl) (by kernel_rfl) (fun _ _ _ h => h) (Or.inl ⟨by rfl, ?hy20⟩) hHeld ?rest20
        case hy20 =>
          intro w' hSw
          try dsimp only at hSw
          go_simp
          first | done | with_reducible rfl
        try simp only [Act.put, List.getElem_toArray, List.getElem_cons_succ, List.getElem_cons_zero, List.setIfInBounds_toArray, List.set_cons_zero, List.set_cons_succ]
        refine wpAnyU_take (i := 3) (v := ?v21) rfl (by kernel_rfl) (by kernel_rfl) (by kernel_rfl) (by kernel_rfl) (fun _ _ _ h => h) (Or.inl ⟨by rfl, ?hy21⟩) hHeld ?rest21
        case hy21 =>
          intro w' hSw
          try dsimp only at hSw
          go_simp
          first | done | with_reducible rfl
        try simp only [Act.put, List.getElem_toArray, List.getElem_cons_succ, List.getElem_cons_zero, List.setIfInBounds_toArray, List.set_cons_zero, List.set_cons_succ]
        refine wpAnyU_take (i := 4) (v := ?v22) rfl (by kernel_rfl) (by kernel_rfl) (by kernel_rfl) (by kernel_rfl) (fun _ _ _ h => h) (Or.inl ⟨by rfl, ?hy22⟩) hHeld ?rest22
        case hy22 =>
          intro w' hSw
          try dsimp only at hSw
          go_simp
          first | done | with_reducible rfl
        try simp only [Act.put, List.getElem_toArray, List.getElem_cons_succ, List.getElem_cons_zero, List.setIfInBounds_toArray, List.set_cons_zero, List.set_cons_succ]
        refine wpAnyU_take (i := 5) (v := ?v23) rfl (by kernel_rfl) (by kernel_rfl) (by kernel_rfl) (by kernel_rfl) (fun _ _ _ h => h) (Or.inl ⟨by rfl, ?hy23⟩) hHeld ?rest23
        case hy23 =>
          intro w' hSw
          try dsimp only at hSw
          go_simp
          first | done | with_reducible rfl
        try simp only [Act.put, List.getElem_toArray, List.getElem_cons_succ, List.getElem_cons_zero, List.setIfInBounds_toArray, List.set_cons_zero, List.set_cons_succ]
        refine wpAnyU_take (i := 6) (v := ?v24) rfl (by kernel_rfl) (by kernel_rfl) (by kernel_rfl) (by kernel_rfl) (fun _ _ _ h => h) (Or.inl ⟨by rfl, ?hy24⟩) hHeld ?rest24
        case hy24 =>
          intro w' hSw
          try dsimp only at hSw
          go_simp
          first | done | with_reducible rfl
        try simp only [Act.put, List.getElem_toArray, List.getElem_cons_succ, List.getElem_cons_zero, List.setIfInBounds_toArray, List.set_cons_zero, List.set_cons_succ]
        refine wpAnyU_take (i := 7) (v := ?v25) rfl (by kernel_rfl) (by kernel_rfl) (by kernel_rfl) (by kernel_rfl) (fun _ _ _ h => h) (Or.inl ⟨by rfl, ?hy25⟩) hHeld ?rest25
        case hy25 =>
          intro w' hSw
          try dsimp only at hSw
          go_simp
          first | done | with_reducible rfl
        try simp only [Act.put, List.getElem_toArray, List.getElem_cons_succ, List.getElem_cons_zero, List.setIfInBounds_toArray, List.set_cons_zero, List.set_cons_succ]
        refine wpAnyU_take (i := 8) (v := ?v26) rfl (by kernel_rfl) (by kernel_rfl) (by kernel_rfl) (by kernel_rfl) (fun _ _ _ h => h) (Or.inl ⟨by rfl, ?hy26⟩) hHeld ?rest26
        case hy26 =>
          intro w' hSw
          try dsimp only at hSw
          go_simp
          first | done | with_reducible rfl
        try simp only [Act.put, List.getElem_toArray, List.getElem_cons_succ, List.getElem_cons_zero, List.setIfInBounds_toArray, List.set_cons_zero, List.set_cons_succ]
        refine wpAnyU_take (i := 9) (v := ?v27) rfl (by kernel_rfl) (by kernel_rfl) (by kernel_rfl) (by kernel_rfl) (fun _ _ _ h => h) (Or.inl ⟨by rfl, ?hy27⟩) hHeld ?rest27
        case hy27 =>
          intro w' hSw
          try dsimp only at hSw
          go_simp
          first | done | with_reducible rfl
        try simp only [Act.put, List.getElem_toArray, List.getElem_cons_succ, List.getElem_cons_zero, List.setIfInBounds_toArray, List.set_cons_zero, List.set_cons_succ]
        refine wpAnyU_take (i := 10) (v := ?v28) rfl (by kernel_rfl) (by kernel_rfl) (by kernel_rfl) (by kernel_rfl) (fun _ _ _ h => h) (Or.inl ⟨by rfl, ?hy28⟩) hHeld ?rest28
        case hy28 =>
          intro w' hSw
          try dsimp only at hSw
          go_simp
          first | done | with_reducible rfl
        try simp only [Act.put, List.getElem_toArray, List.getElem_cons_succ, List.getElem_cons_zero, List.setIfInBounds_toArray, List.set_cons_zero, List.set_cons_succ]
        refine wpAnyU_take (i := 11) (v := ?v29) rfl (by kernel_rfl) (by kernel_rfl) (by kernel_rfl) (by kernel_rfl) (fun _ _ _ h => h) (Or.inl ⟨by rfl, ?hy29⟩) hHeld ?rest29
        case hy29 =>
          intro w' hSw
          try dsimp only at hSw
          go_simp
          first | done | with_reducible rfl
        try simp only [Act.put, List.getElem_toArray, List.getElem_cons_succ, List.getElem_cons_zero, List.setIfInBounds_toArray, List.set_cons_zero, List.set_cons_succ]
        refine wpAnyU_take (i := 12) (v := ?v30) rfl (by kernel_rfl) (by kernel_rfl) (by kernel_rfl) (by kernel_rfl) (fun _ _ _ h => h) (Or.inl ⟨by rfl, ?hy30⟩) hHeld ?rest30
        case hy30 =>
          intro w' hSw
          try dsimp only at hSw
          go_simp
          first | done | with_reducible rfl
        try simp only [Act.put, List.getElem_toArray, List.getElem_cons_succ, List.getElem_cons_zero, List.setIfInBounds_toArray, List.set_cons_zero, List.set_cons_succ]
        refine wpAnyU_take (i := 13) (v := ?v31) rfl (by kernel_rfl) (by kernel_rfl) (by kernel_rfl) (by kernel_rfl) (fun _ _ _ h => h) (Or.inl ⟨by rfl, ?hy31⟩) hHeld ?rest31
        case hy31 =>
          intro w' hSw
          try dsimp only at hSw
          go_simp
          first | done | with_reducible rfl
        try simp only [Act.put, List.getElem_toArray, List.getElem_cons_succ, List.getElem_cons_zero, List.setIfInBounds_toArray, List.set_cons_zero, List.set_cons_succ]
        refine wpAnyU_takeP [15, 16] (i := 14) (v := ?v32) rfl (by kernel_rfl) (by kernel_rfl) (by kernel_rfl) (by kernel_rfl) (fun _ _ _ h => h) (Or.inl ⟨by rfl, ?hy32⟩) hHeld ?rest32
        case hy32 =>
          intro w' hSw
          try dsimp only at hSw
          go_simp
          first | done | with_reducible rfl
        try simp only [Act.put, List.getElem_toArray, List.getElem_cons_succ, List.getElem_cons_zero, List.setIfInBounds_toArray, List.set_cons_zero, List.set_cons_succ]
        refine wpAnyU_takeP [16] (i := 15) (v := ?v33) rfl (by kernel_rfl) (by kernel_rfl) (by kernel_rfl) (by kernel_rfl) (fun _ _ _ h => h) (Or.inl ⟨by rfl, ?hy33⟩) hHeld ?rest33
        case hy33 =>
          intro w' hSw
          try dsimp only at hSw
          go_simp
          first | done | with_reducible rfl
        try simp only [Act.put, List.getElem_toArray, List.getElem_cons_succ, List.getElem_cons_zero, List.setIfInBounds_toArray, List.set_cons_zero, List.set_cons_succ]
        refine wpAnyU_take (i := 16) (v := ?v34) rfl (by kernel_rfl) (by kernel_rfl) (by kernel_rfl) (by kernel_rfl) (fun _ _ _ h => h) (Or.inl ⟨by rfl, ?hy34⟩) hHeld ?rest34
        case hy34 =>
          intro w' hSw
          try dsimp only at hSw
          go_simp
          first | done | with_reducible rfl
        try simp only [Act.put, List.getElem_toArray, List.getElem_cons_succ, List.getElem_cons_zero, List.setIfInBounds_toArray, List.set_cons_zero, List.set_cons_succ]
        refine wpAnyU_one (i := 17) (by kernel_rfl) (by rfl) (fun K hK => ?_)
        have fz := hHeld.2.2
        have cz := hHeld.2.1
        go_simp
        have Y4 := Lib.hid (show Sg w #[(.slice (some ⟨g1, 0, none⟩) r.n1 ca), .slice (some ⟨g2, 0, none⟩) r.n2 c2, .int .i64 (s : Int), .slice r.A3 r.n3 r.c3] (wr.setCell ⟨g2, j * 513 + 1 + k, none⟩ (.int .u8 ((y'.toNat ^^^ b.toNat : Nat) : Int))).drew from XR.out.next (((Below.refl _ wr).setCell G2.out _).drew))
        have Z4 := Lib.hid (show (wr.setCell ⟨g2, j * 513 + 1 + k, none⟩ (.int .u8 ((y'.toNat ^^^ b.toNat : Nat) : Int))).drew.ownsRow (w.heap.size + 2) 5 1 (.slice (some ⟨g1, 0, none⟩) r.n1 ca) r.n1 (bv (turnL R.lb u b)) from own_set OR.out ⟨g2, j * 513 + 1 + k, none⟩ (.int .u8 ((y'.toNat ^^^ b.toNat : Nat) : Int)) (fun q hq => by injection hq with hq; simp only at hq ⊢; exact fun e => NG2.out g2 rfl (by omega)))
        have W4' := Lib.hid (show (wr.setCell ⟨g2, j * 513 + 1 + k, none⟩ (.int .u8 ((y'.toNat ^^^ b.toNat : Nat) : Int))).drew.ownsRow (w.heap.size + 2) 94 513 (.slice (some ⟨g2, 0, none⟩) r.n2 c2) r.n2 ((turnAt n k b (turnAll n k b R.ws (List.range j)) j).flatMap wc) from HT2.out ▸ HP2.out.2.2)
        generalize (wr.setCell ⟨g2, j * 513 + 1 + k, none⟩ (.int .u8 ((y'.toNat ^^^ b.toNat : Nat) : Int))).drew = W8 at Y4 Z4 W4' ⊢
        refine hK.out _ _ (.inl rfl) (fun hHeld => ?_)
        clear hK K
        try simp only [Act.put, List.getElem_toArray, List.getElem_cons_succ, List.getElem_cons_zero, List.setIfInBounds_toArray, List.set_cons_zero, List.set_cons_succ]
        refine wpAnyU_done (by kernel_rfl) ?_ _
        refine OnlyN.normal ?_
        clear hHeld fz cz
        go_wp2
        go_roundw
        case rel => exact ⟨j + 1, by omega, by go_num, Y4.out, Z4.out, by rw [RS.out]; exact W4'.out⟩
        case measure => simp [intOf]; omega
      · have hbe : ((x'.1 : Int) == (n : Int)) = false := beq_eq_false_iff_ne.2 (by omega)
        have NT := Lib.hid (turnAt_no (n := n) (k := k) (b := b) j (fun y hy e => by rw [HX.out] at hy; injection hy with hy; subst hy; exact hxn e))
        clear hxn
        go_wp2
        go_roundw
        case rel => exact ⟨j + 1, by omega, by go_num, XR.out, OR.out, by rw [RS.out, NT.out]; exact PR.out⟩
        case measure => simp [intOf]; omega
    · obtain rfl : j = R.ws.length := by omega
      have i2 : ¬ ((R.ws.length : Nat) : Int) < (r.n2 : Int) := by have := H.out.n2; omega
      have PZ := Lib.hid (turnAll_all (n := n) (k := k) (b := b) R.ws ▸ PR.out)
      go_wp2_with (first
        | (refine wpList_load_mid rfl 34 (.tmp 4) rfl w.heap.size 0 rfl [(.slice (some ⟨g1, 0, none⟩) r.n1 ca), .slice A2 r.n2 c2, .int .i64 (s : Int), .slice r.A3 r.n3 r.c3] _ (Blk.rangeAt (l := [(.slice (some ⟨g1, 0, none⟩) r.n1 ca), .slice A2 r.n2 c2, .int .i64 (s : Int), .slice r.A3 r.n3 r.c3]) XR.out.h0) Try.underlying34 rfl size43 ?_)
        | (refine wpList_store_row rfl 34 (.tmp 8) (.tmp 87) rfl (w.heap.size + 1) #[(.slice (some ⟨g1, 0, none⟩) r.n1 ca), .slice A2 r.n2 c2, .int .i64 (s : Int), .slice r.A3 r.n3 r.c3] rfl rfl 34 _ XR.out.h1 (size43d _ _ _ _) rfl (one43d _ _ _ _ _ _ _ _ _ _) ?_))
      have gr := grown_setRow wr (w.heap.size + 1) #[(.slice (some ⟨g1, 0, none⟩) r.n1 ca), .slice A2 r.n2 c2, .int .i64 (s : Int), .slice r.A3 r.n3 r.c3]
      exact bodyPost_ret (results_ref rfl _ _ (w.heap.size + 1) #[(.slice (some ⟨g1, 0, none⟩) r.n1 ca), .slice A2 r.n2 c2, .int .i64 (s : Int), .slice r.A3 r.n3 r.c3] rfl rfl (XR.out.h1.setRow _)) rfl ⟨_, _, A2, c2, rfl, below_setRow XR.out.be (by omega) _, rspoil_ref H.out HU.out (OR.out.kept gr (.inr (fun e => by have e : g1 = w.heap.size + 1 := Option.some.inj e; have := G1.out; omega))) (PZ.out.kept gr (by
        cases hA : A2 with
        | none => exact .inl rfl
        | some ad => exact .inr (fun e => by have := (PR.out.lt ad.block (by rw [hA]; rfl)).1; have e : ad.block = w.heap.size + 1 := Option.some.inj e; omega))) (below_setRow XR.out.be (by omega) _), fun b off e => by cases e; have := G1.out; omega, fun b off e _ => by have := (PR.out.lt b (by rw [e]; rfl)).1; omega⟩
end Go.Proofs.Ytgjamgojjajcnaa

/- Whole arrays out of and into blocks that are known whole; copy of bytes; one step of a region. -/
import Derived.Test.YtokbghpddgfnpaaDisk
import Derived.Deep.RegionLaw
import Derived.Laws.CopyOwn
namespace Go.Proofs.Ytokbghpddgfnpaa
open Go.RowKit
section
variable {P : Program} {w w' : World} {b : Nat} {t : TypeId}
set_option maxRecDepth 8000 in
theorem add_lit0 (b j : Nat) : (⟨b, 0, none⟩ : Addr).add j = ⟨b, j, none⟩ := by unfold Addr.add; split <;> simp_all
set_option maxRecDepth 8000 in
/-- a whole block is read -/
theorem run_load_all (l : List Value) (n : Nat) (hl : l.length = n) (h : Blk w b t l.toArray) : (loadCellsFrom ⟨b, 0, none⟩ 0 n #[]).run P w = .ok l.toArray w := by
  subst hl
  exact run_loadCells_list (P := P) w ⟨b, 0, none⟩ l (fun j v hv => by rw [add_lit0, h.cell]; simpa using hv)
set_option maxRecDepth 8000 in
theorem run_load_range (l : List Value) (n o : Nat) (hl : l.length = n) (h : w.rangeAt b o l) : (loadCellsFrom ⟨b, o, none⟩ 0 n #[]).run P w = .ok l.toArray w := by
  subst hl
  exact run_loadCells_list (P := P) w ⟨b, o, none⟩ l (fun j v hv => by rw [Addr.add_mid]; exact h j v hv)
set_option maxRecDepth 8000 in
/-- all cells of a block are stored -/
theorem run_store_all (l l0 : List Value) (hl : l.length = l0.length) (h1 : ∀ u ∈ l, u.oneCell' = true) (h : Blk w b t l0.toArray) :
    (storeCells ⟨b, 0, none⟩ l).run P w = .ok () (w.setRow b l.toArray) := by
  have := run_storeCells_at P b 0 t l 0 l0.toArray w h (by simp [hl]) h1
  rw [this]
  simp [hl]
theorem Blk.setRow {l0 : Array Value} (h : Blk w b t l0) (c : Array Value) : Blk (w.setRow b c) b t c := setRow_heap w b l0 c t (0, 0) h
theorem Blk.setRow_far {g : Nat} {t' : TypeId} {cs : Array Value} (h : Blk w g t' cs) (hne : g ≠ b) (c : Array Value) : Blk (w.setRow b c) g t' cs := (setRow_other w b g c hne).trans h
theorem grown_setRow (w : World) (b : Nat) (c : Array Value) : w.grownBy (w.setRow b c) (some b) := ⟨rfl, rfl, rfl, by simp [World.setRow], fun k _ hk => setRow_other w b k c (fun e => hk (by rw [e]))⟩
set_option maxRecDepth 8000 in
theorem setRow_last (w : World) (b : Nat) (hb : b = w.heap.size) (c c' : Array Value) (t : TypeId) : (w.alloc (.cells c t)).setRow b c' = w.alloc (.cells c' t) := by
  subst hb
  exact World.setRow_alloc_new w c c' t
set_option maxRecDepth 8000 in
/-- the block that was made last is stored whole -/
theorem run_store_last (l l0 : List Value) (hb : b = w.heap.size) (hl : l.length = l0.length) (h1 : ∀ u ∈ l, u.oneCell' = true) :
    (storeCells ⟨b, 0, none⟩ l).run P (w.alloc (.cells l0.toArray t)) = .ok () (w.alloc (.cells l.toArray t)) := by
  rw [run_store_all l l0 hl h1 (hb ▸ Blk.new w t _), setRow_last w b hb]
theorem run_store_bv (l l0 : List UInt8) (hb : b = w.heap.size) (hl : l.length = l0.length) :
    (storeCells ⟨b, 0, none⟩ (bv l)).run P (w.alloc (.cells (bv l0).toArray t)) = .ok () (w.alloc (.cells (bv l).toArray t)) := run_store_last _ _ hb (by rw [bv_length, bv_length, hl]) (bv_one l)
theorem run_store_wc (x x0 : Nat × List UInt8) (hb : b = w.heap.size) (hl : x.2.length = x0.2.length) :
    (storeCells ⟨b, 0, none⟩ (wc x)).run P (w.alloc (.cells (wc x0).toArray t)) = .ok () (w.alloc (.cells (wc x).toArray t)) := run_store_last _ _ hb (by simp [wc, bv, hl]) (wc_one x)
theorem drew_blk {W : World} {b : Nat} {t : TypeId} {cs : Array Value} (h : Blk W b t cs) : Blk W.drew b t cs := h
set_option maxRecDepth 8000 in
theorem setRow_last_drew (w : World) (b : Nat) (hb : b = w.heap.size) (c c' : Array Value) (t : TypeId) : (w.alloc (.cells c t)).drew.setRow b c' = (w.alloc (.cells c' t)).drew := by
  subst hb
  show ({ (w.alloc (.cells c t)).setRow w.heap.size c' with drawn := w.drawn + 1 } : World) = _
  rw [World.setRow_alloc_new]
  rfl
set_option maxRecDepth 8000 in
theorem run_store_bv_drew (l l0 : List UInt8) (hb : b = w.heap.size) (hl : l.length = l0.length) :
    (storeCells ⟨b, 0, none⟩ (bv l)).run P (w.alloc (.cells (bv l0).toArray t)).drew = .ok () (w.alloc (.cells (bv l).toArray t)).drew := by
  rw [run_store_all (t := t) (bv l) (bv l0) (by rw [bv_length, bv_length, hl]) (bv_one l) (drew_blk (hb ▸ Blk.new w t _)), setRow_last_drew w b hb]
set_option maxRecDepth 8000 in
theorem run_store_wc_drew (x x0 : Nat × List UInt8) (hb : b = w.heap.size) (hl : x.2.length = x0.2.length) :
    (storeCells ⟨b, 0, none⟩ (wc x)).run P (w.alloc (.cells (wc x0).toArray t)).drew = .ok () (w.alloc (.cells (wc x).toArray t)).drew := by
  rw [run_store_all (t := t) (wc x) (wc x0) (by simp [wc, bv, hl]) (wc_one x) (drew_blk (hb ▸ Blk.new w t _)), setRow_last_drew w b hb]
set_option maxRecDepth 8000 in
/-- a copy of bytes into a block that is known whole -/
theorem run_copy_sec {dT sT ty e : TypeId} (hu : P.underlying dT = some (.slice e)) (hs : (P.info? e).map (·.size) = some 1) (off n dcap : Nat) (A : Option Addr) (m scap : Nat) (cur l : List UInt8)
    (hg : Blk w b t (bv cur).toArray) (hn : l.length = Nat.min m n) (hsrc : Rd w A l) (hfit : off + l.length ≤ cur.length) :
    ∃ w', (Builtin.copy_ #[dT, sT] ty #[.slice (some ⟨b, off, none⟩) n dcap, .slice A m scap]).run P w = .ok (goInt l.length) w' ∧ Blk w' b t (bv (splice cur off l)).toArray ∧ w.grownBy w' (some b) ∧ w'.heap.size = w.heap.size := by
  cases l with
  | nil =>
    refine ⟨w, ?_, ?_, World.grownBy.refl w _, rfl⟩
    · exact run_copy_none (P := P) w dT sT ty e _ _ n dcap m scap hu hs (by simpa using hn.symm)
    · simpa [splice] using hg
  | cons x l =>
    obtain ⟨ab, ao, rfl, _⟩ := hsrc 0 (by simp)
    have hr := run_copy_row P w dT sT ty e b off n dcap ⟨ab, ao, none⟩ m scap _ t (bv (x :: l)) hu hs hg (by rw [bv_length]; exact hn) ?_ (by rw [bv_length]; simpa [bv_length] using hfit) (bv_one _)
    rw [bv_length] at hr
    refine ⟨_, hr, ?_, grown_setRow _ _ _, by simp [World.setRow]⟩
    rotate_left
    · intro j v hv
      rw [bv_get] at hv
      cases hl : (x :: l)[j]? with
      | none => rw [hl] at hv; cases hv
      | some y =>
        obtain ⟨hj, rfl⟩ := List.getElem?_eq_some_iff.1 hl
        obtain ⟨b', o', e, hc⟩ := hsrc j hj
        injection e with e
        injection e with e1 e2
        subst e1; subst e2
        rw [Addr.add_mid, hc, ← hv, hl]
        rfl
    · have : (bv (splice cur off (x :: l))).toArray = ((bv cur).toArray.toList.take off ++ bv (x :: l) ++ (bv cur).toArray.toList.drop (off + (bv (x :: l)).length)).toArray := by
        rw [bv_length]
        congr 1
        simp only [bv, splice, List.map_append, List.map_take, List.map_drop, List.append_assoc]
      rw [bv_length] at this
      rw [this]
      exact hg.setRow _
set_option maxRecDepth 8000 in
theorem step_copy {ops : Array Oper} {o : Oper} {a : Act} {K : Act → World → Prop} {Q : Exit → Act → World → Prop} {E : Prop} (hgd : o.guard = none) (d s : Operand) {dT sT e : TypeId}
    (ho : o.op = .call { callee := .builtin .copy, args := #[d, s], argTypes := #[dT, sT] }) (hu : P.underlying dT = some (.slice e)) (hs : (P.info? e).map (·.size) = some 1) (b off n dcap : Nat) (A : Option Addr) (m scap : Nat)
    (hd : a.eval d = .slice (some ⟨b, off, none⟩) n dcap) (hs' : a.eval s = .slice A m scap) (cur l : List UInt8)
    (hg : Blk w b t (bv cur).toArray) (hn : l.length = Nat.min m n) (hsrc : Rd w A l) (hfit : off + l.length ≤ cur.length)
    (h : ∀ w', Blk w' b t (bv (splice cur off l)).toArray → w.grownBy w' (some b) → w'.heap.size = w.heap.size → K (a.put o.dst (goInt l.length)) w') :
    if Region.wanted o (yielded ops a.tmps) = true then Oper.wp P o a w K Q else E := by
  have hw : Region.wanted o (yielded ops a.tmps) = true := by simp [Region.wanted, hgd]
  rw [if_pos hw]
  obtain ⟨w', hrun, h1, h2, h3⟩ := run_copy_sec (P := P) (w := w) (ty := o.type) (sT := sT) hu hs off n dcap A m scap cur l hg hn hsrc hfit
  unfold Oper.wp
  simp [execOp, ho, resolve, invoke, builtin, hd, hs', hrun, Result.andThen]
  exact h w' h1 h2 h3
end
set_option maxRecDepth 8000 in
theorem size47 : (Try.prog.info? 38).map (·.size) = some 512 := by kernel_rfl
set_option maxRecDepth 8000 in
theorem size84 : (Try.prog.info? 89).map (·.size) = some 513 := by kernel_rfl
theorem Blk.rangeAt {w : World} {b : Nat} {t : TypeId} {l : List Value} (h : Blk w b t l.toArray) : w.rangeAt b 0 l := fun j v hv => by rw [h.cell]; simpa using hv
section
variable {w : World} {ops : Array Oper} {rest : List Oper} {o : Oper} {a : Act} {Q : Exit → Act → World → Prop}
theorem wpList_load47 (hgd : o.guard = none) (x : Operand) (ho : o.op = .load 38 x) (b off : Nat) (hx : a.eval x = .pointer (some ⟨b, off, none⟩)) (l : List UInt8) (h : w.rangeAt b off (bv l)) (hl : l.length = 512)
    (hK : wpList Try.prog ops Q rest (a.put o.dst (sec l)) w) : wpList Try.prog ops Q (o :: rest) a w :=
  wpList_load_mid hgd 38 x ho b off hx (bv l) _ h Try.underlying38 rfl (by rw [bv_length, hl]; exact size47) hK
theorem wpList_load84 (hgd : o.guard = none) (x : Operand) (ho : o.op = .load 89 x) (b off : Nat) (hx : a.eval x = .pointer (some ⟨b, off, none⟩)) (l : Nat × List UInt8) (h : w.rangeAt b off (wc l)) (hl : l.2.length = 512)
    (hK : wpList Try.prog ops Q rest (a.put o.dst (wv l)) w) : wpList Try.prog ops Q (o :: rest) a w :=
  wpList_load_mid hgd 89 x ho b off hx (wc l) _ h Try.underlying89 rfl (by rw [wc_length _ hl]; exact size84) hK
set_option maxRecDepth 8000 in
theorem wpList_del75 (hgd : o.guard = none) (x y : Operand) (ho : o.op = .call { callee := .builtin .delete, args := #[x, y], argTypes := #[83, 3] }) (f : Option Nat) (n : Int) (hx : a.eval x = .map f) (hy : a.eval y = .int .i64 n)
    (S : Int → Bool) (h : SetMap w f S) (hK : ∀ w', SetMap w' f (delS S n) → w.grownBy w' f → wpList Try.prog ops Q rest (a.put o.dst (.tuple #[])) w') : wpList Try.prog ops Q (o :: rest) a w := by
  refine wpList_plain hgd fun K hK' => ?_
  obtain ⟨w', hrun, h1, h2⟩ := h.delete (ty := o.type) n
  unfold Oper.wp
  simp [execOp, ho, resolve, invoke, builtin, hx, hy, hrun, Result.andThen]
  exact hK' _ _ (hK w' h1 h2)
set_option maxRecDepth 8000 in
theorem wpList_add75 (hgd : o.guard = none) (m x v : Operand) (ho : o.op = .mapUpdate 83 m x v) (b : Nat) (n : Int) (hm : a.eval m = .map (some b)) (hx : a.eval x = .int .i64 n) (hv : a.eval v = .agg #[])
    (S : Int → Bool) (h : SetMap w (some b) S) (hK : ∀ w', SetMap w' (some b) (addS S n) → w.grownBy w' (some b) → wpList Try.prog ops Q rest (a.put o.dst undef) w') : wpList Try.prog ops Q (o :: rest) a w := by
  refine wpList_plain hgd fun K hK' => ?_
  obtain ⟨w', hrun, h1, h2⟩ := h.add n
  unfold Oper.wp
  simp [execOp, ho, hm, hx, hv, hrun, Result.andThen]
  exact hK' _ _ (hK w' h1 h2)
set_option maxRecDepth 8000 in
theorem wpList_upd47 (hgd : o.guard = none) (m x v : Operand) (ho : o.op = .mapUpdate 81 m x v) (b n : Nat) (l : List UInt8) (hm : a.eval m = .map (some b)) (hx : a.eval x = .int .i64 (n : Int)) (hv : a.eval v = sec l)
    (L : Nat → List UInt8) (h : SecMap w b L) (hK : ∀ w', SecMap w' b (upL L n l) → w.grownBy w' (some b) → w'.heap.size = w.heap.size → wpList Try.prog ops Q rest (a.put o.dst undef) w') : wpList Try.prog ops Q (o :: rest) a w := by
  refine wpList_plain hgd fun K hK' => ?_
  obtain ⟨w', hrun, h1, h2, h3⟩ := h.update n l
  unfold Oper.wp
  simp [execOp, ho, hm, hx, hv, hrun, Result.andThen]
  exact hK' _ _ (hK w' h1 h2 h3)
end
end Go.Proofs.Ytokbghpddgfnpaa

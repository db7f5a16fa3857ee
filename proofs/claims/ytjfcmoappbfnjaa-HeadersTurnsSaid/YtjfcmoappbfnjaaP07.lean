/- Whole arrays out of and into blocks that are known whole; copy of bytes; one step of a region. -/
import Derived.Test.YtjfcmoappbfnjaaP06
import Derived.Deep.RegionLaw
import Derived.Laws.CopyOwn
import Derived.Deep.RegionHeld3
import Derived.Outline
import Derived.BigQuiet
import Derived.Deep.QuietTactic
import Derived.RangeFuncNested
import Derived.RangeFuncBound
import Derived.RangeFuncCalls
import Derived.RangeFuncLeaves
import Derived.RangeFuncBox
import Derived.RangeFuncFrom
import Derived.Shelf.Abstract
import Derived.Shelf.RegionOpen
import Derived.WalkKit
import Derived.OwnWalkIn
import Derived.TacticsInMore
import Derived.LoopNIn
import Derived.LoopIn
namespace Go.Proofs.Ytjfcmoappbfnjaa
open Go.RowKit
section
variable {P : Program} {w w' : World} {b : Nat} {t : TypeId}
set_option maxRecDepth 8000 in
theorem add_lit0 (b j : Nat) : (⟨b, 0, none⟩ : Addr).add j = ⟨b, j, none⟩ := by unfold Addr.add; split <;> simp_all
set_option maxRecDepth 8000 in
/-- all cells of a block are stored -/
theorem run_store_all (l l0 : List Value) (hl : l.length = l0.length) (h1 : ∀ u ∈ l, u.oneCell' = true) (h : Blk w b t l0.toArray) :
    (storeCells ⟨b, 0, none⟩ l).run P w = .ok () (w.setRow b l.toArray) := by
  have := run_storeCells_at P b 0 t l 0 l0.toArray w h (by simp [hl]) h1
  rw [this]
  simp [hl]
theorem Blk.setRow {l0 : Array Value} (h : Blk w b t l0) (c : Array Value) : Blk (w.setRow b c) b t c := setRow_heap w b l0 c t (0, 0) h
theorem Blk.setRow_far {g : Nat} {t' : TypeId} {cs : Array Value} (h : Blk w g t' cs) (hne : g ≠ b) (c : Array Value) : Blk (w.setRow b c) g t' cs := (setRow_other w b g c hne).trans h
theorem grown_setRow (w : World) (b : Nat) (c : Array Value) : w.grownBy (w.setRow b c) (some b) := ⟨rfl, rfl, rfl, by simp [World.setRow], fun k _ hk => setRow_other w b k c (fun e => hk (by rw [e]))⟩
set_option maxRecDepth 8000 in
theorem setRow_last (w : World) (b : Nat) (hb : b = w.heap.size) (c c' : Array Value) (t : TypeId) : (w.alloc (.cells c t)).setRow b c' = w.alloc (.cells c' t) := by
  subst hb
  exact World.setRow_alloc_new w c c' t
set_option maxRecDepth 8000 in
/-- the block that was made last is stored whole -/
theorem run_store_last (l l0 : List Value) (hb : b = w.heap.size) (hl : l.length = l0.length) (h1 : ∀ u ∈ l, u.oneCell' = true) :
    (storeCells ⟨b, 0, none⟩ l).run P (w.alloc (.cells l0.toArray t)) = .ok () (w.alloc (.cells l.toArray t)) := by
  rw [run_store_all l l0 hl h1 (hb ▸ Blk.new w t _), setRow_last w b hb]
theorem run_store_bv (l l0 : List UInt8) (hb : b = w.heap.size) (hl : l.length = l0.length) :
    (storeCells ⟨b, 0, none⟩ (bv l)).run P (w.alloc (.cells (bv l0).toArray t)) = .ok () (w.alloc (.cells (bv l).toArray t)) := run_store_last _ _ hb (by rw [bv_length, bv_length, hl]) (bv_one l)
theorem run_store_wc (x x0 : Nat × List UInt8) (hb : b = w.heap.size) (hl : x.2.length = x0.2.length) :
    (storeCells ⟨b, 0, none⟩ (wc x)).run P (w.alloc (.cells (wc x0).toArray t)) = .ok () (w.alloc (.cells (wc x).toArray t)) := run_store_last _ _ hb (by simp [wc, bv, hl]) (wc_one x)
theorem drew_blk {W : World} {b : Nat} {t : TypeId} {cs : Array Value} (h : Blk W b t cs) : Blk W.drew b t cs := h
set_option maxRecDepth 8000 in
theorem setRow_last_drew (w : World) (b : Nat) (hb : b = w.heap.size) (c c' : Array Value) (t : TypeId) : (w.alloc (.cells c t)).drew.setRow b c' = (w.alloc (.cells c' t)).drew := by
  subst hb
  show ({ (w.alloc (.cells c t)).setRow w.heap.size c' with drawn := w.drawn + 1 } : World) = _
  rw [World.setRow_alloc_new]
  rfl
set_option maxRecDepth 8000 in
theorem run_store_bv_drew (l l0 : List UInt8) (hb : b = w.heap.size) (hl : l.length = l0.length) :
    (storeCells ⟨b, 0, none⟩ (bv l)).run P (w.alloc (.cells (bv l0).toArray t)).drew = .ok () (w.alloc (.cells (bv l).toArray t)).drew := by
  rw [run_store_all (t := t) (bv l) (bv l0) (by rw [bv_length, bv_length, hl]) (bv_one l) (drew_blk (hb ▸ Blk.new w t _)), setRow_last_drew w b hb]
set_option maxRecDepth 8000 in
theorem run_store_wc_drew (x x0 : Nat × List UInt8) (hb : b = w.heap.size) (hl : x.2.length = x0.2.length) :
    (storeCells ⟨b, 0, none⟩ (wc x)).run P (w.alloc (.cells (wc x0).toArray t)).drew = .ok () (w.alloc (.cells (wc x).toArray t)).drew := by
  rw [run_store_all (t := t) (wc x) (wc x0) (by simp [wc, bv, hl]) (wc_one x) (drew_blk (hb ▸ Blk.new w t _)), setRow_last_drew w b hb]
set_option maxRecDepth 8000 in
/-- a copy of bytes into a block that is known whole -/
theorem run_copy_sec {dT sT ty e : TypeId} (hu : P.underlying dT = some (.slice e)) (hs : (P.info? e).map (·.size) = some 1) (off n dcap : Nat) (A : Option Addr) (m scap : Nat) (cur l : List UInt8)
    (hg : Blk w b t (bv cur).toArray) (hn : l.length = Nat.min m n) (hsrc : Rd w A l) (hfit : off + l.length ≤ cur.length) :
    ∃ w', (Builtin.copy_ #[dT, sT] ty #[.slice (some ⟨b, off, none⟩) n dcap, .slice A m scap]).run P w = .ok (goInt l.length) w' ∧ Blk w' b t (bv (splice cur off l)).toArray ∧ w.grownBy w' (some b) ∧ w'.heap.size = w.heap.size := by
  cases l with
  | nil =>
    refine ⟨w, ?_, ?_, World.grownBy.refl w _, rfl⟩
    · exact run_copy_none (P := P) w dT sT ty e _ _ n dcap m scap hu hs (by simpa using hn.symm)
    · simpa [splice] using hg
  | cons x l =>
    obtain ⟨ab, ao, rfl, _⟩ := hsrc 0 (by simp)
    have hr := run_copy_row P w dT sT ty e b off n dcap ⟨ab, ao, none⟩ m scap _ t (bv (x :: l)) hu hs hg (by rw [bv_length]; exact hn) ?_ (by rw [bv_length]; simpa [bv_length] using hfit) (bv_one _)
    rw [bv_length] at hr
    refine ⟨_, hr, ?_, grown_setRow _ _ _, by simp [World.setRow]⟩
    rotate_left
    · intro j v hv
      rw [bv_get] at hv
      cases hl : (x :: l)[j]? with
      | none => rw [hl] at hv; cases hv
      | some y =>
        obtain ⟨hj, rfl⟩ := List.getElem?_eq_some_iff.1 hl
        obtain ⟨b', o', e, hc⟩ := hsrc j hj
        injection e with e
        injection e with e1 e2
        subst e1; subst e2
        rw [Addr.add_mid, hc, ← hv, hl]
        rfl
    · have : (bv (splice cur off (x :: l))).toArray = ((bv cur).toArray.toList.take off ++ bv (x :: l) ++ (bv cur).toArray.toList.drop (off + (bv (x :: l)).length)).toArray := by
        rw [bv_length]
        congr 1
        simp only [bv, splice, List.map_append, List.map_take, List.map_drop, List.append_assoc]
      rw [bv_length] at this
      rw [this]
      exact hg.setRow _
set_option maxRecDepth 8000 in
theorem step_copy {ops : Array Oper} {o : Oper} {a : Act} {K : Act → World → Prop} {Q : Exit → Act → World → Prop} {E : Prop} (hgd : o.guard = none) (d s : Operand) {dT sT e : TypeId}
    (ho : o.op = .call { callee := .builtin .copy, args := #[d, s], argTypes := #[dT, sT] }) (hu : P.underlying dT = some (.slice e)) (hs : (P.info? e).map (·.size) = some 1) (b off n dcap : Nat) (A : Option Addr) (m scap : Nat)
    (hd : a.eval d = .slice (some ⟨b, off, none⟩) n dcap) (hs' : a.eval s = .slice A m scap) (cur l : List UInt8)
    (hg : Blk w b t (bv cur).toArray) (hn : l.length = Nat.min m n) (hsrc : Rd w A l) (hfit : off + l.length ≤ cur.length)
    (h : ∀ w', Blk w' b t (bv (splice cur off l)).toArray → w.grownBy w' (some b) → w'.heap.size = w.heap.size → K (a.put o.dst (goInt l.length)) w') :
    if Region.wanted o (yielded ops a.tmps) = true then Oper.wp P o a w K Q else E := by
  have hw : Region.wanted o (yielded ops a.tmps) = true := by simp [Region.wanted, hgd]
  rw [if_pos hw]
  obtain ⟨w', hrun, h1, h2, h3⟩ := run_copy_sec (P := P) (w := w) (ty := o.type) (sT := sT) hu hs off n dcap A m scap cur l hg hn hsrc hfit
  unfold Oper.wp
  simp [execOp, ho, resolve, invoke, builtin, hd, hs', hrun, Result.andThen]
  exact h w' h1 h2 h3
end
set_option maxRecDepth 8000 in
theorem size47 : (Try.prog.info? 56).map (·.size) = some 512 := by kernel_rfl
set_option maxRecDepth 8000 in
theorem size84 : (Try.prog.info? 95).map (·.size) = some 513 := by kernel_rfl
theorem Blk.rangeAt {w : World} {b : Nat} {t : TypeId} {l : List Value} (h : Blk w b t l.toArray) : w.rangeAt b 0 l := fun j v hv => by rw [h.cell]; simpa using hv
section
variable {w : World} {ops : Array Oper} {rest : List Oper} {o : Oper} {a : Act} {Q : Exit → Act → World → Prop}
theorem wpList_load47 (hgd : o.guard = none) (x : Operand) (ho : o.op = .load 56 x) (b off : Nat) (hx : a.eval x = .pointer (some ⟨b, off, none⟩)) (l : List UInt8) (h : w.rangeAt b off (bv l)) (hl : l.length = 512)
    (hK : wpList Try.prog ops Q rest (a.put o.dst (sec l)) w) : wpList Try.prog ops Q (o :: rest) a w :=
  wpList_load_mid hgd 56 x ho b off hx (bv l) _ h Try.underlying56 rfl (by rw [bv_length, hl]; exact size47) hK
set_option maxRecDepth 8000 in
theorem wpList_del75 (hgd : o.guard = none) (x y : Operand) (ho : o.op = .call { callee := .builtin .delete, args := #[x, y], argTypes := #[88, 3] }) (f : Option Nat) (n : Int) (hx : a.eval x = .map f) (hy : a.eval y = .int .i64 n)
    (S : Int → Bool) (h : SetMap w f S) (hK : ∀ w', SetMap w' f (delS S n) → w.grownBy w' f → wpList Try.prog ops Q rest (a.put o.dst (.tuple #[])) w') : wpList Try.prog ops Q (o :: rest) a w := by
  refine wpList_plain hgd fun K hK' => ?_
  obtain ⟨w', hrun, h1, h2⟩ := h.delete (ty := o.type) n
  unfold Oper.wp
  simp [execOp, ho, resolve, invoke, builtin, hx, hy, hrun, Result.andThen]
  exact hK' _ _ (hK w' h1 h2)
end
end Go.Proofs.Ytjfcmoappbfnjaa
namespace Go.Proofs.Ytjfcmoappbfnjaa
open Go.RowKit
attribute [local go_sem] run_store_bv run_store_wc
theorem wc_0 (x : Nat × List UInt8) : (wc x)[0]? = some (.int .i64 (x.1 : Int)) := rfl
set_option maxRecDepth 8000 in
theorem size5 : (Try.prog.info? 5).map (·.size) = some 1 := by kernel_rfl
def layL (a l : List UInt8) (k : Nat) : List UInt8 := l.take k ++ a.drop k
set_option maxRecDepth 8000 in
theorem splice_lay (a l : List UInt8) (k : Nat) (hk : k ≤ l.length) : splice a 0 (l.take k) = layL a l k := by
  simp [splice, layL, List.length_take, Nat.min_eq_left hk]
set_option maxRecDepth 8000 in
theorem layL_length (a l : List UInt8) (k : Nat) (ha : a.length = 512) (hl : l.length = 512) (hk : k ≤ 512) : (layL a l k).length = 512 := by
  simp [layL, ha, hl]; omega
theorem rd_blk {w : World} {b : Nat} {t : TypeId} {cs : List Value} (h : Blk w b t cs.toArray) (o : Nat) (l : List UInt8) (hl : ∀ j (hj : j < l.length), cs[o + j]? = some (.int .u8 (l[j].toNat : Int))) : Rd w (some ⟨b, o, none⟩) l := fun j hj => ⟨b, o, rfl, by rw [h.cell]; simpa using hl j hj⟩
set_option maxRecDepth 8000 in
theorem wc_get (x : Nat × List UInt8) (j : Nat) (hj : j < x.2.length) : (wc x)[1 + j]? = some (.int .u8 (x.2[j].toNat : Int)) := by
  rw [Nat.add_comm, wc, List.getElem?_cons_succ, bv_get, List.getElem?_eq_getElem hj]
  rfl
set_option maxRecDepth 20000 in
set_option maxHeartbeats 800000 in
theorem lay_any (w : World) (m : Nat) (L : Nat → List UInt8) (x : Nat × List UInt8) (k : Nat) (hm : SecMap w m L) (hx : x.2.length = 512) (hL : (L x.1).length = 512) (hk : k ≤ 512) :
    Calls Try.prog 42 #[.map (some m), wv x, .int .i64 (k : Int)] w fun e w' => e = .returned (.tuple #[]) ∧ SecMap w' m (upL L x.1 (layL (L x.1) x.2 k)) ∧ Fr (· = m) w w' := by
  have hz := z47
  have hw0 := wc_0 x
  have hl := (hm.keep (Below.heap_alloc w (.cells (wc x).toArray 95) m hm.lt)).look x.1
  have HM := Lib.hid hm
  have HX := Lib.hid hx
  have HL := Lib.hid hL
  have hbl : (bv (L x.1)).length = 512 := by rw [bv_length, hL]
  have hll : (L x.1).length = zs.length := by rw [hL, zs_length]
  have k1 : (0 : Int) ≤ (k : Int) := by omega
  have k2 : (k : Int) ≤ 512 := by omega
  clear hm hx hL
  go_enter Try.func42, Try.ntmps42
  go_wp2_with fail
  have b0 : Blk ((w.alloc (.cells (wc x).toArray 95)).alloc (.cells (bv (L x.1)).toArray 56)) w.heap.size 95 (wc x).toArray := (Blk.new w _ _).alloc _
  have b1 : Blk ((w.alloc (.cells (wc x).toArray 95)).alloc (.cells (bv (L x.1)).toArray 56)) (w.heap.size + 1) 56 (bv (L x.1)).toArray := heap_alloc2_new _ _ _
  have sm : SecMap ((w.alloc (.cells (wc x).toArray 95)).alloc (.cells (bv (L x.1)).toArray 56)) m L := (HM.out.keep (Below.heap_alloc _ _ _ HM.out.lt)).keep (Below.heap_alloc _ _ _ (by have := HM.out.lt; simp; omega))
  have fr : Fr (· = m) w ((w.alloc (.cells (wc x).toArray 95)).alloc (.cells (bv (L x.1)).toArray 56)) := ((Fr.refl _ w).alloc _).alloc _
  generalize (w.alloc (.cells (wc x).toArray 95)).alloc (.cells (bv (L x.1)).toArray 56) = W at b0 b1 sm fr ⊢
  have R1 := Lib.hid (rd_blk b0 1 (x.2.take k) (fun j hj => by rw [wc_get x j (by simp at hj; omega)]; simp))
  have B0 := Lib.hid b0
  have B1 := Lib.hid b1
  have SM := Lib.hid sm
  have FR := Lib.hid fr
  have TL := Lib.hid (show (x.2.take k).length = k by rw [List.length_take, HX.out]; omega)
  have TF := Lib.hid (show 0 + (x.2.take k).length ≤ (L x.1).length by rw [TL.out, HL.out]; omega)
  have mp := HM.out.lt
  clear b0 b1 sm fr hl hbl hll
  go_region_held3 (fun _ => True) (trivial) ((refine step_copy rfl (.tmp 13) (.tmp 17) (by rfl) Try.underlying22 size5 (w.heap.size + 1) 0 k k (some ⟨w.heap.size, 1, none⟩) k k (by simp [Act.eval]) (by simp [Act.eval]) (L x.1) (x.2.take k) B1.out (by rw [TL.out]; simp) R1.out TF.out ?_; intro w2 hb2 hg2 hs2))
  rw [splice_lay _ _ _ (by rw [HX.out]; omega)] at hb2
  have hb0 : Blk w2 w.heap.size 95 (wc x).toArray := (hg2.block _ (by have := B0.out.lt; simpa using this) (by simp)).trans B0.out
  have sm2 : SecMap w2 m L := SM.out.keep ((hg2.block m (by have := SM.out.lt; simpa using this) (by simp; omega)).trans rfl)
  have FR2 := Lib.hid ((FR.out.drew).grown hg2 (fun i e hi => by injection e with e; omega))
  have hll := layL_length (L x.1) x.2 k HL.out HX.out hk
  have hc0 : w2.cell? ⟨w.heap.size, 0, none⟩ = some (.int .i64 (x.1 : Int)) := (hb0.cell 0).trans rfl
  have HB2 := Lib.hid hb2.rangeAt
  have HLL := Lib.hid hll
  obtain ⟨w3, hup, sm3, hg3, _⟩ := sm2.update x.1 (layL (L x.1) x.2 k)
  have SM3 := Lib.hid sm3
  have FR3 := Lib.hid (FR2.out.grown hg3 (fun i e _ => by injection e with e; exact e.symm))
  clear hb2 hg2 hs2 hb0 sm2 hll sm3 hg3
  go_wp2_with (refine wpList_load47 rfl (.tmp 6) rfl (w.heap.size + 1) 0 rfl _ HB2.out HLL.out ?_)
  go_end0
  exact ⟨rfl, SM3.out, FR3.out⟩
end Go.Proofs.Ytjfcmoappbfnjaa
namespace Go.Proofs.Ytjfcmoappbfnjaa
open Go.RowKit
/-- the disk behind a step that is numbered: one step more; its number is named no more -/
def Dk.stepped (D : Dk) : Dk := { D with steps := D.steps + 1, fails := delS D.fails ((D.steps : Int) - (D.frm : Int)) }
/-- does the next step fail? -/
def Dk.next (D : Dk) : Bool := D.fails ((D.steps : Int) - (D.frm : Int))
set_option maxRecDepth 20000 in
set_option maxHeartbeats 800000 in
theorem step_goes {w : World} {base p : Nat} {pl : Pl} {D : Dk} (h : DiskAt w base p pl D) (hf : D.next = false) (hs : D.steps < 1000000) (g : FuncId) (caps : Array Value) (R : World → Prop)
    (hdo : ∀ W, DiskAt W base p pl D.stepped → Fr (pl.has p) w W → Calls Try.prog g caps W fun e w' => e = .returned (.tuple #[]) ∧ R w')
    (hgo : ∀ w : World, (callFunc g caps).run Try.prog w = .ok (.enter g caps) w) :
    Calls Try.prog 53 #[.pointer (some ⟨p, 0, none⟩), .func (.func g) #[] caps] w fun e w' => e = .returned (.int .i64 0) ∧ R w' := by
  have hz := z99
  have c3 := h.c3
  have c4 := h.c4
  have c5 := h.c5
  have hfr := h.frm
  have s1 : (0 : Int) ≤ (D.steps : Int) - (D.frm : Int) := by omega
  have s2 : (D.steps : Int) - (D.frm : Int) ≤ 1000000 := by omega
  have s3 : (D.steps : Int) ≤ 1000000 := by omega
  have HD := Lib.hid hdo
  clear hdo
  go_enter Try.func53, Try.ntmps53
  go_wp2_with fail
  go_quiet (fail)
  have H := Lib.hid (h.drewN nq)
  have FR := Lib.hid ((Fr.refl (pl.has p) w).drewN nq)
  generalize w.drewN nq = W at H FR ⊢
  have hlk := H.out.set.look ((D.steps : Int) - (D.frm : Int))
  rw [show D.fails ((D.steps : Int) - (D.frm : Int)) = false from hf] at hlk
  have HS := Lib.hid (H.out.alloc (.cells #[] 118))
  have c5W := H.out.c5
  have c5' := HS.out.c5
  clear h c3 c4 c5 hf
  go_wp2_with ((refine wpList_del75 rfl (.tmp 29) (.tmp 30) rfl _ _ rfl rfl _ HS.out.set ?_; intro w2 hd2 hg2; have H2 := Lib.hid (HS.out.deleted hd2 hg2); have FR2 := Lib.hid ((FR.out.alloc (.cells #[] 118)).grown hg2 (fun i e _ => .inr (.inr (.inr e)))); have d3 := H2.out.c3; have f3 := H2.out.blk.frozen 3; clear hd2 hg2))
  refine (HD.out _ (H2.out.counted (D.steps + 1) (by show D.frm ≤ D.steps + 1; omega)) (FR2.out.setCell (fun _ => .inl rfl) _)).mono ?_
  rintro e w3 ⟨rfl, h3⟩
  have HR := Lib.hid h3
  clear h3
  go_wp2
  go_ret
  exact ⟨rfl, HR.out⟩
end Go.Proofs.Ytjfcmoappbfnjaa
namespace Go.Proofs.Ytjfcmoappbfnjaa
open Go.RowKit Go.Shelf
attribute [local go_sem] Oper.semAt_some
attribute [local go_sem] run_store_bv run_store_wc
/-- what comes: a number, a write of that number -/
structure We (N : Nat) (ok : Nat → Nat × List UInt8 → Prop) where
  i : Nat
  x : Nat × List UInt8
  lt : i < N
  len : x.2.length = 512
  fits : ok i x
/-- what has come: the first so many, in order -/
def Elts {N : Nat} {ok : Nat → Nat × List UInt8 → Prop} (k : Nat) (xs : List (We N ok)) : Prop :=
  xs.length = k ∧ ∀ (i : Nat) (y : We N ok), xs[i]? = some y → y.i = i
set_option maxRecDepth 8000 in
theorem Elts.snoc {N : Nat} {ok : Nat → Nat × List UInt8 → Prop} {k : Nat} {xs : List (We N ok)} (h : Elts k xs) (x : We N ok) (hx : x.i = k) : Elts (k + 1) (xs ++ [x]) := by
  refine ⟨by simp [h.1], fun i y hy => ?_⟩
  rcases Nat.lt_or_ge i xs.length with hi | hi
  · rw [List.getElem?_append_left hi] at hy
    exact h.2 i y hy
  · rw [List.getElem?_append_right hi] at hy
    have hi' : i = xs.length := by
      rcases Nat.eq_or_lt_of_le hi with e | e
      · exact e.symm
      · rw [List.getElem?_eq_none (by simp; omega)] at hy; cases hy
    subst hi'
    rw [Nat.sub_self] at hy
    simp only [List.getElem?_cons_zero, Option.some.injEq] at hy
    subst hy
    rw [h.1]
    exact hx
/-- in W the element of that number lies in the row -/
def El (A : Option Addr) (ok : Nat → Nat × List UInt8 → Prop) (W : World) (i : Nat) : Prop :=
  ∃ g x, A = some ⟨g, 0, none⟩ ∧ ok i x ∧ x.2.length = 512 ∧ W.rangeAt g (i * 513) (wc x)
set_option maxRecDepth 8000 in
theorem El.alloc {A : Option Addr} {ok : Nat → Nat × List UInt8 → Prop} {W : World} {i : Nat} (h : El A ok W i) (o : Obj) : El A ok (W.alloc o) i := by
  obtain ⟨g, x, h1, h2, h3, h4⟩ := h
  exact ⟨g, x, h1, h2, h3, World.rangeAt_alloc h4 o⟩
theorem rangeAt_keep {w w' : World} {g o : Nat} {l : List Value} (h : w.rangeAt g o l) (hk : g < w.heap.size → w'.heap[g]? = w.heap[g]?) : w'.rangeAt g o l := fun j v hv => by
  have hc := h j v hv
  exact (World.cell?_of_block (hk (World.block_lt_of_cell? w _ hc))).trans hc
section
variable {F : Fence} {n : Nat} {w : World} {ops : Array Oper} {rest : List Oper} {o : Oper} {a : Act} {Q : Exit → Act → World → Prop}
set_option maxRecDepth 8000 in
theorem wpListIn_load_mid {P : Program} (hgd : o.guard = none) (ty : TypeId) (x : Operand) (ho : o.op = .load ty x) (b off : Nat) (hx : a.eval x = .pointer (some ⟨b, off, none⟩)) (cs : List Value) (d : TypeDesc) (hc : w.rangeAt b off cs)
    (hu : P.underlying ty = some d) (hd : d.isRow = true) (hi : (P.info? ty).map (·.size) = some cs.length) (h : wpListIn F n P ops Q rest (a.put o.dst (.agg cs.toArray)) w) : wpListIn F n P ops Q (o :: rest) a w := by
  refine wpListIn_plain hgd fun K hK' => ?_
  unfold Oper.wpIn
  refine ⟨?_, ?_⟩
  · simp [Oper.about, ho]
  · rw [Oper.semAt_plain F _ _ (by rw [ho]; intro c hc'; cases hc')]
    simp only [execOp, ho, hx, run_loadAt_mid w b off ty cs d hc hu hd hi, Sem.run_bind, Result.andThen]
    exact hK' _ _ h
theorem wpListIn_load47 (hgd : o.guard = none) (x : Operand) (ho : o.op = .load 56 x) (b off : Nat) (hx : a.eval x = .pointer (some ⟨b, off, none⟩)) (l : List UInt8) (h : w.rangeAt b off (bv l)) (hl : l.length = 512)
    (hK : wpListIn F n Try.prog ops Q rest (a.put o.dst (sec l)) w) : wpListIn F n Try.prog ops Q (o :: rest) a w :=
  wpListIn_load_mid hgd 56 x ho b off hx (bv l) _ h Try.underlying56 rfl (by rw [bv_length, hl]; exact size47) hK
theorem wpListIn_load84 (hgd : o.guard = none) (x : Operand) (ho : o.op = .load 95 x) (b off : Nat) (hx : a.eval x = .pointer (some ⟨b, off, none⟩)) (l : Nat × List UInt8) (h : w.rangeAt b off (wc l)) (hl : l.2.length = 512)
    (hK : wpListIn F n Try.prog ops Q rest (a.put o.dst (wv l)) w) : wpListIn F n Try.prog ops Q (o :: rest) a w :=
  wpListIn_load_mid hgd 95 x ho b off hx (wc l) _ h Try.underlying95 rfl (by rw [wc_length _ hl]; exact size84) hK
end
set_option maxRecDepth 100000 in
set_option maxHeartbeats 2000000 in
theorem waiting1_in (F : Fence) (n : Nat) (hF : F.fn 63) (hro : F.round = none) (hn : 1 ≤ n) (bD p N cap : Nat) (A : Option Addr) (ok : Nat → Nat × List UInt8 → Prop) (Kp : World → World → Prop)
    (hKp : ∀ W W', Kp W W' → ∀ i, i < N → El A ok W i → El A ok W' i) (hN : N ≤ 1000000) (w0 : World)
    (hbox : w0.cell? ⟨bD, 0, none⟩ = some (.pointer (some ⟨p, 0, none⟩))) (hwv : w0.cell? ⟨p, 2, none⟩ = some (.slice A N cap)) (hel : ∀ i, i < N → El A ok w0 i) :
    SeqStopsK F n Try.prog 63 #[.pointer (some ⟨bD, 0, none⟩)] (fun y : We N ok => #[.int .i64 (y.i : Int), wv y.x]) Kp (Elts N) (fun pre => ∃ k, k ≤ N ∧ Elts k pre) N w0 := by
  intro l J Jx W hb hJ hJx hY h0
  have hz := z84
  have hbox' := (hb.cell (p := ⟨bD, 0, none⟩) (World.block_lt_of_cell? w0 _ hbox)).trans hbox
  have hwv' := (hb.cell (p := ⟨p, 2, none⟩) (World.block_lt_of_cell? w0 _ hwv)).trans hwv
  have HE : Hid (∀ i, i < N → El A ok W i) := fun i hi => by
    obtain ⟨g, x, h1, h2, h3, h4⟩ := hel i hi
    exact ⟨g, x, h1, h2, h3, rangeAt_keep h4 (fun hg => hb.block g hg)⟩
  have HK := Lib.hid hKp
  have HJ := Lib.hid hJ
  have HY := Lib.hid hY
  clear hbox hwv hel hKp hJ hJx hY hb
  refine callsIn_of_wp Try.func63 rfl hF ?_ hro
  simp only [Try.ntmps63, List.size_toArray, List.length_cons, List.length_nil, Nat.reduceAdd, Nat.reduceSub, Array.replicate_succ, Array.replicate_zero, List.push_toArray, List.append_toArray, List.nil_append, List.cons_append]
  gi_wp2
  gi_loopw [10] (fun i wr => ∃ k : Nat, k ≤ N ∧ i = .int .i64 k ∧ ∃ pre, Elts k pre ∧ J pre wr ∧ (∀ j, j < N → El A ok wr j)) (fun i _ => N - (intOf i).toNat)
  case atStart => exact ⟨0, Nat.zero_le _, rfl, [], ⟨rfl, by simp⟩, h0, HE.out⟩
  case round =>
    obtain ⟨k, hk, rfl, pre, hpre, hJs, hE⟩ := hrel
    by_cases hlt : k < N
    · obtain ⟨g, x, rfl, hok, hx, hrg⟩ := hE k hlt
      have HEL : Hid (∀ j, j < N → El (some ⟨g, 0, none⟩) ok wr j) := hE
      have HJs := Lib.hid hJs
      have HP := Lib.hid hpre
      have HX := Lib.hid hx
      have HR := Lib.hid hrg
      have HOK := Lib.hid hok
      have i1 : (0 : Int) ≤ (k : Int) := by omega
      have i2 : (k : Int) < (N : Int) := by omega
      have hxz : x.2.length = zs.length := by rw [HX.out, zs_length]
      have hwl : (wc x).length = 513 := wc_length x HX.out
      clear hE hJs hpre hx hrg hok
      have HJ2 : Hid (J pre (wr.alloc (.cells (wc x).toArray 95))) := HJ.out pre wr _ none HJs.out (World.grownBy_alloc wr _ none) (fun r e => by cases e)
      have HR2 : Hid ((wr.alloc (.cells (wc x).toArray 95)).rangeAt wr.heap.size 0 (wc x)) := (Blk.new wr 95 (wc x).toArray).rangeAt
      obtain ⟨fn, tmps, assign, body, hy, hR⟩ := HY.out pre ⟨k, x, hlt, HX.out, HOK.out⟩ _ HJ2.out (by rw [HP.out.1]; exact hlt)
      have HRR := Lib.hid hR
      clear hR
      gi_wp2_with (first | (refine wpListIn_load84 rfl (.tmp 13) rfl g (k * 513) rfl x HR.out HX.out ?_) | (refine wpListIn_load84 rfl (.tmp 4) rfl wr.heap.size 0 rfl x HR2.out HX.out ?_))
      refine HRR.out.mono ?_
      rintro e W3 (⟨rfl, hJ3, hk3⟩ | ⟨rfl, hJx3⟩)
      · have HE3 : Hid (∀ j, j < N → El (some ⟨g, 0, none⟩) ok W3 j) := fun j hj => HK.out _ _ hk3 j hj ((HEL.out j hj).alloc _)
        have HP3 := Lib.hid (HP.out.snoc ⟨k, x, hlt, HX.out, HOK.out⟩ rfl)
        have HJ3 := Lib.hid hJ3
        clear hJ3 hk3
        gi_wp2
        go_roundw
        case rel => exact ⟨k + 1, by omega, by go_num, _, HP3.out, HJ3.out, HE3.out⟩
        case measure => simp [intOf]; omega
      · have HP3 := Lib.hid (HP.out.snoc ⟨k, x, hlt, HX.out, HOK.out⟩ rfl)
        have HJ3 := Lib.hid hJx3
        clear hJx3
        gi_wp2
        refine bodyPost_ret (results_none rfl _ _ _) rfl ?_
        exact ⟨⟨_, rfl⟩, .inr ⟨_, ⟨k + 1, by omega, HP3.out⟩, HJ3.out⟩⟩
    · obtain rfl : k = N := by omega
      gi_wp2
      go_end0
      exact ⟨⟨_, rfl⟩, .inl ⟨pre, hpre, hJs⟩⟩
/-- the blocks of the row lie as they lay -/
def KW (A : Option Addr) (W W' : World) : Prop := ∀ ad, A = some ad → W'.heap[ad.block]? = W.heap[ad.block]?
set_option maxRecDepth 8000 in
theorem KW.el {A : Option Addr} {ok : Nat → Nat × List UInt8 → Prop} {W W' : World} (h : KW A W W') {i : Nat} (he : El A ok W i) : El A ok W' i := by
  obtain ⟨g, x, rfl, h2, h3, h4⟩ := he
  exact ⟨g, x, rfl, h2, h3, rangeAt_keep h4 (fun _ => h ⟨g, 0, none⟩ rfl)⟩
set_option maxRecDepth 8000 in
theorem flat_get (ws : List (Nat × List UInt8)) (hw : ∀ x ∈ ws, x.2.length = 512) : ∀ (i : Nat) (x : Nat × List UInt8), ws[i]? = some x → ∀ j v, (wc x)[j]? = some v → (ws.flatMap wc)[i * 513 + j]? = some v := by
  induction ws with
  | nil => intro i x h; simp at h
  | cons y ws ih =>
    intro i x h j v hv
    have hy := wc_length y (hw y (by simp))
    rw [List.flatMap_cons]
    cases i with
    | zero =>
      simp only [List.getElem?_cons_zero, Option.some.injEq] at h
      subst h
      have hj : j < (wc y).length := (List.getElem?_eq_some_iff.1 hv).1
      rw [Nat.zero_mul, Nat.zero_add, List.getElem?_append_left hj, hv]
    | succ i =>
      rw [List.getElem?_cons_succ] at h
      rw [List.getElem?_append_right (by rw [hy]; omega), hy, show (i + 1) * 513 + j - 513 = i * 513 + j by omega]
      exact ih (fun x hx => hw x (by simp [hx])) i x h j v hv
set_option maxRecDepth 8000 in
/-- the elements of a row that a disk has -/
theorem row_els {w : World} {base : Nat} {A : Option Addr} {N cap : Nat} {ws : List (Nat × List UInt8)} (h : w.ownsRow base 95 513 (.slice A N cap) N (ws.flatMap wc)) (hN : ws.length = N) (hw : ∀ x ∈ ws, x.2.length = 512) :
    ∀ i, i < N → El A (fun i x => ws[i]? = some x) w i := by
  intro i hi
  rcases h.2 with ⟨_, h0⟩ | ⟨g, cap', cur, hv, _, hb, _, _, _, ht⟩
  · omega
  · injection hv with hA _ _
    subst hA
    have hx : ws[i]? = some (ws[i]'(by omega)) := List.getElem?_eq_getElem (by omega)
    refine ⟨g, _, rfl, hx, hw _ (List.getElem_mem _), fun j v hv => ?_⟩
    have hf := flat_get ws hw i _ hx j v hv
    rw [← ht, List.getElem?_take] at hf
    split at hf
    · rw [cell_of_row w g _ cur 95 (0, 0) hb]
      simpa using hf
    · cases hf
set_option maxRecDepth 8000 in
theorem own_shape {w : World} {base n : Nat} {e : TypeId} {size : Nat} {v : Value} {xs : List Value} (h : w.ownsRow base e size v n xs) : ∃ A cap, v = .slice A n cap := by
  rcases h.2 with ⟨rfl, rfl⟩ | ⟨g, cap, cur, rfl, _⟩
  · exact ⟨_, _, rfl⟩
  · exact ⟨_, _, rfl⟩
set_option maxRecDepth 8000 in
/-- what comes to the writes that wait -/
theorem elts_map {ws : List (Nat × List UInt8)} {xs : List (We ws.length (fun i x => ws[i]? = some x))} (h : Elts ws.length xs) : xs.map (·.x) = ws := by
  apply List.ext_getElem?
  intro i
  rw [List.getElem?_map]
  cases hx : xs[i]? with
  | none =>
    rw [List.getElem?_eq_none_iff] at hx
    rw [List.getElem?_eq_none (by have := h.1; omega)]
    rfl
  | some y =>
    have := y.fits
    rw [h.2 i y hx] at this
    rw [this]
    rfl
/-- what comes of a disk's writes -/
abbrev DW (D : Dk) := We D.waits.length (fun i x => D.waits[i]? = some x)
def wxs {D : Dk} (xs : List (DW D)) : List (Nat × List UInt8) := xs.map (·.x)
set_option maxRecDepth 8000 in
theorem wxs_snoc {D : Dk} (xs : List (DW D)) (x : DW D) : wxs (xs ++ [x]) = wxs xs ++ [x.x] := by simp [wxs]
set_option maxRecDepth 8000 in
theorem wxs_len {D : Dk} (xs : List (DW D)) : ∀ x ∈ wxs xs, x.2.length = 512 := by
  intro x hx
  obtain ⟨y, _, rfl⟩ := List.mem_map.1 hx
  exact y.len
/-- the end of a round -/
def BPost (B : Nat) (v : Value) (W : World) (J : World → Prop) (e : Exit) (_ : Act) (W' : World) : Prop :=
  e = .normal ∧ KeepsFrom B W W' ∧ (∀ k, v.ownBlock = some k → W'.heap[k]? = W.heap[k]?) ∧ J W'
section
variable {n : Nat} {base p : Nat} {pl : Pl} {D : Dk} {g : Operand} {ps : Array Tmp} {assign body : Code} {Q : Exit → Act → World → Prop} {a : Act} {w : World}
theorem own_blk {β : Type} (B : Nat) (g : Nat) (t : TypeId) (f : β → Array Value) : OwnFrom B (fun (s : β) W => Blk W g t (f s)) := fun s X Y row hs hg hr =>
  (hg.block g hs.lt (fun e => by obtain ⟨_, o, ho, hc⟩ := hr g e.symm; unfold Blk at hs; rw [hs] at ho; cases ho; cases hc)).trans hs
theorem own_size {β : Type} (B n : Nat) : OwnFrom B (fun (_ : β) W => n ≤ W.heap.size) := fun _ _ _ _ hs hg _ => Nat.le_trans hs hg.size
set_option maxRecDepth 8000 in
/-- **a range over what waits**, the body keeping the row -/
theorem range_waiting (hd : DiskAt w base p pl D) (hN : D.waits.length ≤ 1000000) {bD : Nat} (hg : a.eval g = .func (.func 63) #[] #[.pointer (some ⟨bD, 0, none⟩)])
    (hbox : w.cell? ⟨bD, 0, none⟩ = some (.pointer (some ⟨p, 0, none⟩))) (hps : ps.size = 2) (hn : 2 ≤ n)
    (I : List (DW D) → World → Prop) (hI : OwnFrom w.heap.size I) (h0 : I [] w)
    (mk : DW D → Nat → Act)
    (hassign : ∀ (l : Nat) (x : DW D) (W : World) (K : Act → World → Prop), K (mk x W.heap.size) (W.alloc (.cells (wc x.x).toArray 95)) →
      assign.wpIn (Fence.wide.inRound l) (n - 1 - 1) Try.prog (Exit.then K (fun _ _ _ => False)) { tmps := (ps.zip #[.int .i64 (x.i : Int), wv x.x]).foldl (fun t (p, v) => t.setIfInBounds p v) a.tmps, defers := [] } W)
    (hbody : ∀ (l : Nat) (pre : List (DW D)) (x : DW D) (b : Nat) (W : World), pre.length < D.waits.length → I pre W → w.heap.size ≤ b → Blk W b 95 (wc x.x).toArray →
      body.wpIn (Fence.wide.inRound l) (n - 1 - 1) Try.prog (BPost w.heap.size pl.wv W (I (pre ++ [x]))) (mk x b) W)
    (hIs : ∀ pre W, I pre W → w.heap.size ≤ W.heap.size)
    (hdone : ∀ (B : Nat) (xs : List (DW D)) (W : World), w.heap.size ≤ B → wxs xs = D.waits → (∀ (i : Nat) (y : DW D), xs[i]? = some y → y.i = i) → I xs W → W.heap[B]? = some (.deferred (some [])) → Q .normal { a with defers := { target := .collected B, args := #[] } :: a.defers } W) :
    (Code.rangeFunc g ps assign body).wpIn Fence.wide n Try.prog Q a w := by
  obtain ⟨A, cap, hwv⟩ := own_shape hd.row
  have hrow := hd.row
  rw [hwv] at hrow
  have hcell := hd.c2
  rw [hwv] at hcell
  have hKb : ∀ (W : World) (l : Nat) (o o' : Obj), w.heap.size ≤ l → W.heap[l]? = some o → o.isCells = false → o.isWalk = false → KW A W (W.putObj l o') := by
    intro W l o o' hl _ _ _ ad hA
    have hlt := (hd.row.lt ad.block (by rw [hwv, hA]; rfl)).2
    simp only [World.putObj]
    rw [Array.getElem?_setIfInBounds_ne (by omega)]
  refine wpIn_rangeFunc_ownH (α := DW D) (Kp := KW A) (w0 := w) rfl (by omega) (gf := 63) hg trivial (enters_of Try.func63 (by kernel_rfl) rfl)
    (waiting1_in Fence.wide (n - 1) trivial rfl (by omega) bD p D.waits.length cap A _ (KW A) (fun W W' hk i _ he => hk.el he) hN w hbox hcell (row_els hrow rfl (fun x hx => (hd.wlens x hx).1)))
    (fun h k ad hA => (k ad hA).trans (h ad hA)) hKb (Below.refl _ _) (fun _ => hps.symm) I (fun _ _ _ => False) hI (fun _ _ _ _ _ h => h.elim) h0
    (fun x a' W => ∃ b, w.heap.size ≤ b ∧ a' = mk x b ∧ Blk W b 95 (wc x.x).toArray)
    (fun x a' s X Y row hs hg hr => by
      obtain ⟨b, h1, h2, h3⟩ := hs
      exact ⟨b, h1, h2, own_blk w.heap.size b _ (fun _ => _) s X Y row h3 hg hr⟩) ?_ ?_ ?_ ?_
  · intro l pre x W K hi hK
    have hsz := hIs pre W hi
    refine hassign l x W K (hK _ _ ((KeepsOthers.alloc W _).from _) (fun ad hA => Below.heap_alloc W _ _ ?_) (hI.alloc _ hi) ⟨W.heap.size, hsz, rfl, Blk.new W _ _⟩)
    have := (hd.row.lt ad.block (by rw [hwv, hA]; rfl)).2
    omega
  · rintro l pre x a' W hl _ hi ⟨b, h1, rfl, h3⟩ hlen
    refine wpIn_mono (hbody l pre x b W hlen hi h1 h3) ?_
    rintro e a2 W2 ⟨rfl, k1, k2, k3⟩
    exact ⟨k1, fun ad hA => k2 _ (by rw [hwv, hA]; rfl), k3⟩
  · intro B xs W hB hS hi hD
    exact hdone B xs W hB (elts_map hS) hS.2 hi hD
  · intro B c pre W _ _ h _
    exact h.elim
end
end Go.Proofs.Ytjfcmoappbfnjaa

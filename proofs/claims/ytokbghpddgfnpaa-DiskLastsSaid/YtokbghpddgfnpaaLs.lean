/- law 2: DiskLasts: how all stands while writes are made; its calls. -/
import Derived.Test.YtokbghpddgfnpaaLasts
import Derived.Test.YtokbghpddgfnpaaWrite
namespace Go.Proofs.Ytokbghpddgfnpaa
open Go.RowKit
attribute [local go_sem] Oper.semAt_some
def tv (k : Nat) : List Value := List.replicate k (.bool true)
set_option maxRecDepth 8000 in
theorem tv_snoc (k : Nat) : tv k ++ [.bool true] = tv (k + 1) := by simp [tv, List.replicate_succ']
set_option maxRecDepth 8000 in
theorem infoBool : (Try.prog.info? 4).map (fun i => (i.zero, i.size, i.bytes)) = some (some (.bool false), 1, 1) := by kernel_rfl
set_option maxRecDepth 8000 in
/-- append of a true that was boxed last -/
theorem wpList_append_true {ops : Array Oper} {rest : List Oper} {o : Oper} {a : Act} {Q : Exit → Act → World → Prop} {W : World} (hgd : o.guard = none) (s x : Operand) (ho : o.op = .call { callee := .builtin .append, args := #[s, x], argTypes := #[24, 24] })
    {base k : Nat} {v : Value} (hs : a.eval s = v) (hown : W.ownsRow base 4 1 v k (tv k)) (hx : a.eval x = .slice (some ⟨W.heap.size, 0, none⟩) 1 1) (hn : k ≤ 1000) (hbase : base ≤ W.heap.size)
    (h : ∀ g c w', w'.ownsRow base 4 1 (.slice (some ⟨g, 0, none⟩) (k + 1) c) (k + 1) (tv (k + 1)) → (W.alloc (.cells #[.bool true] 4)).grownBy w' v.ownBlock → (v.ownBlock = some g ∨ W.heap.size ≤ g) → wpList Try.prog ops Q rest (a.put o.dst (.slice (some ⟨g, 0, none⟩) (k + 1) c)) w') : wpList Try.prog ops Q (o :: rest) a (W.alloc (.cells #[.bool true] 4)) := by
  obtain ⟨i0, hi, hz0, hz1, hz2⟩ := info_parts infoBool
  have hown2 : (W.alloc (.cells #[.bool true] 4)).ownsRow base 4 1 v k (tv k) := own_below' hown ((Below.refl _ _).alloc (Nat.le_refl _) _)
  refine wpList_append_lies _ hgd s x 24 ho base 4 i0 (.bool false) 1 1 Try.underlying24 hi hz0 hz1 hz2 rfl (by decide) v k (tv k) hs hown2 ⟨W.heap.size, 0, none⟩ 1 1 [.bool true] hx rfl ?_ (by simp [Value.oneCell']) (by decide) (by simp only [maxLen]; omega) (by omega) (by simp; omega) _ rfl ?_
  · intro j u hu
    rw [Addr.add_mid, Nat.zero_add]
    have := (Blk.new W 4 #[.bool true]).cell j
    rw [this]
    simpa using hu
  · intro g c w' h1 h2 h3 _
    rw [tv_snoc] at h1
    exact h g c w' h1 h2 (h3.imp_right fun e => by simp at e; omega)
set_option maxRecDepth 8000 in
theorem rdB_of_own {w : World} {base k c : Nat} {A : Option Addr} (h : w.ownsRow base 4 1 (.slice A k c) k (tv k)) : RdB w A (List.replicate k true) := by
  intro j hj
  rw [List.length_replicate] at hj
  obtain ⟨g, cap, hv, _⟩ := own_some h (by omega)
  injection hv with hA _ _
  subst hA
  refine ⟨g, 0, rfl, ?_⟩
  have := h.cellAt j (by omega)
  rw [Nat.zero_add, this]
  simp [tv, hj]
set_option maxRecDepth 8000 in
theorem own_keep {w w' : World} {base n sz : Nat} {e : TypeId} {v : Value} {xs : List Value} (h : w.ownsRow base e sz v n xs) (hb : ∀ g, v.ownBlock = some g → w'.heap[g]? = w.heap[g]?) : w'.ownsRow base e sz v n xs := by
  refine ⟨h.1, ?_⟩
  rcases h.2 with h' | ⟨g, cap, cur, hv, hbs, hg, rest⟩
  · exact .inl h'
  · exact .inr ⟨g, cap, cur, hv, hbs, (hb g (by rw [hv]; rfl)).trans hg, rest⟩
/-- how all stands: the disk, the crash's box, what was read, the list of trues -/
structure Ls (w wr : World) (B p : Nat) (pl : Pl) (D : Dk) (cs : Array Value) (A : Option Addr) (was : List UInt8) (vA : Value) (k : Nat) : Prop where
  da : DiskAt wr B p pl D
  be : Below w.heap.size w wr
  bx : Blk wr w.heap.size 26 cs
  rw : Rd wr A was
  wn : ∀ a, A = some a → ¬ pl.has p a.block ∧ vA.ownBlock ≠ some a.block
  oa : wr.ownsRow B 4 1 vA k (tv k)
  an : ∀ g, vA.ownBlock = some g → ¬ pl.has p g
  hb : w.heap.size < B
  hB : B ≤ wr.heap.size
  wp : 0 < was.length
section
variable {w wr w' : World} {B p : Nat} {pl pl' : Pl} {D D' : Dk} {cs : Array Value} {A : Option Addr} {was : List UInt8} {vA : Value} {k : Nat}
theorem Ls.below (h : Ls w wr B p pl D cs A was vA k) (hb : Below wr.heap.size wr w') : Ls w w' B p pl D cs A was vA k :=
  { h with
    da := h.da.below hb
    be := h.be.trans (hb.mono h.be.size)
    bx := h.bx.below hb h.bx.lt
    rw := h.rw.below hb
    oa := own_below' h.oa hb
    hB := Nat.le_trans h.hB hb.size }
theorem Ls.drew (h : Ls w wr B p pl D cs A was vA k) : Ls w wr.drew B p pl D cs A was vA k := { h with da := h.da.drew, be := h.be.drew }
theorem Ls.disk (h : Ls w wr B p pl D cs A was vA k) (hd : DiskAt w' B p pl' D') (hf : Fr (pl.has p) wr w') (hs : ∀ q, pl'.has p q → pl.has p q ∨ wr.heap.size ≤ q) : Ls w w' B p pl' D' cs A was vA k where
  da := hd
  be := h.be.trans (hf.to_below (fun q hq => Nat.le_trans (Nat.le_of_lt h.hb) (h.da.lt q hq).2) h.be.size)
  bx := hf.keepBlk h.bx (fun hq => by have := (h.da.lt _ hq).2; have := h.hb; omega)
  rw := fun j hj => by
    obtain ⟨b, off, e, hc⟩ := h.rw j hj
    exact ⟨b, off, e, (hf.cell (p := ⟨b, off + j, none⟩) (cell_lt hc) ((h.wn _ e).1)).trans hc⟩
  wn := fun a e => ⟨fun hq => by
      obtain ⟨b, off, e', hc⟩ := h.rw 0 h.wp
      rw [e] at e'
      cases e'
      exact (hs _ hq).elim (h.wn _ e).1 (fun h1 => by have := cell_lt hc; simp only at this h1; omega), (h.wn a e).2⟩
  oa := own_keep h.oa fun g hg => hf.block g (h.oa.lt g hg).2 (h.an g hg)
  an := fun g hg hq => (hs g hq).elim (h.an g hg) (fun h1 => by have := (h.oa.lt g hg).2; omega)
  hb := h.hb
  hB := Nat.le_trans h.hB hf.size
  wp := h.wp
set_option maxRecDepth 8000 in
theorem Ls.push {o : Obj} {g c : Nat} (h : Ls w wr B p pl D cs A was vA k) (ho : w'.ownsRow B 4 1 (.slice (some ⟨g, 0, none⟩) (k + 1) c) (k + 1) (tv (k + 1))) (hg : (wr.alloc o).grownBy w' vA.ownBlock) (hat : vA.ownBlock = some g ∨ wr.heap.size ≤ g) :
    Ls w w' B p pl D cs A was (.slice (some ⟨g, 0, none⟩) (k + 1) c) (k + 1) := by
  have h' := h.below ((Below.refl _ wr).alloc (Nat.le_refl _) o)
  have hk : ∀ q, q < wr.heap.size → vA.ownBlock ≠ some q → w'.heap[q]? = wr.heap[q]? := fun q hq hn => (hg.block q (by simp; omega) (fun e => hn e.symm)).trans (Below.heap_alloc wr o q hq)
  refine { h with da := h.da.keep fun q hq => hk q (h.da.lt q hq).1 (fun e => h.an q e hq), be := ?_, bx := ?_, rw := fun j hj => ?_, wn := fun a e => ⟨(h.wn a e).1, fun e' => ?_⟩, oa := ho, an := fun g' hg' hq => ?_, hB := ?_ }
  · exact h'.be.grown hg h'.be.size fun q hq => by have := (h.oa.lt q hq).1; have := h.hb; omega
  · exact (hk _ h.bx.lt (fun e => by have := (h.oa.lt _ e).1; have := h.hb; omega)).trans h.bx
  · obtain ⟨b, off, e, hc⟩ := h.rw j hj
    exact ⟨b, off, e, (World.cell?_of_block (a := ⟨b, off + j, none⟩) (hk b (cell_lt hc) (h.wn _ e).2)).trans hc⟩
  · obtain ⟨b, off, e2, hc⟩ := h.rw 0 h.wp
    rw [e] at e2
    cases e2
    have hlt := cell_lt hc
    simp only [Value.ownBlock, Option.some.injEq] at e'
    subst e'
    exact hat.elim (h.wn _ e).2 (fun h1 => by simp only at hlt; omega)
  · simp only [Value.ownBlock, Option.some.injEq] at hg'
    subst hg'
    exact hat.elim (fun e => h.an _ e hq) (fun h1 => by have := (h.da.lt _ hq).1; omega)
  · exact Nat.le_trans h'.hB hg.size
set_option maxRecDepth 8000 in
theorem ls_write {D0 : Dk} {l : List Ac} (h : Ls w wr B p pl D cs A was vA k) (hw : Wd D0 l D) (hl : l.length ≤ 100) (x : Ac) :
    Calls Try.prog 22 #[.pointer (some ⟨p, 0, none⟩), .int .i64 x.sector, sec (fullL x.byte)] wr fun e w' => ∃ no pl' D', e = .returned (.int .i64 no) ∧ Ls w w' B p pl' D' cs A was vA k ∧ Wd D0 (l ++ [x]) D' := by
  by_cases hx : x.sector < 0 ∨ (D.size : Int) ≤ x.sector
  · refine (write_out h.da x.sector (fullL x.byte) hx).mono ?_
    rintro e w' ⟨rfl, hb⟩
    exact ⟨4, pl, D, rfl, h.below hb, hw.skip x⟩
  · obtain ⟨n, hn⟩ := Int.eq_ofNat_of_zero_le (show 0 ≤ x.sector by omega)
    have hw1 := hw.waits
    have hw2 := hw.steps
    rw [hn]
    refine (write_goes h.da h.hB (by omega) n (fullL x.byte) (fullL_length _) (by omega) (by omega) hw.next).mono ?_
    rintro e w' ⟨rfl, v, hd, hf, hv⟩
    refine ⟨0, _, _, rfl, h.disk hd hf (fun q hq => ?_), hw.put x n hn⟩
    rcases hq with hq | hq | hq | hq
    · exact .inl (.inl hq)
    · exact .inl (.inr (.inl hq))
    · rcases hv with e | ⟨g, e, hg⟩
      · exact .inl (.inr (.inr (.inl (e ▸ hq))))
      · rw [show v.ownBlock = some q from hq] at e
        cases e
        exact .inr hg
    · exact .inl (.inr (.inr (.inr hq)))
set_option maxRecDepth 8000 in
theorem crash_true (h : Ls w wr B p pl D cs A was vA k) (hN : D.waits.length ≤ 1000000) {g : Option Addr} {c : Nat} (hv : vA = .slice g k c) :
    Calls Try.prog 24 #[.pointer (some ⟨p, 0, none⟩), .agg #[.slice g k c, .int .i64 (-1), .int .i64 0]] wr fun e w' => ∃ p' m, e = .returned (.tuple #[.pointer (some ⟨p', 0, none⟩), .int .i64 0]) ∧ DiskAt w' wr.heap.size p' (leftPl m) (D.crashed ⟨List.replicate k true, -1, 0⟩) ∧ Below wr.heap.size wr w' := by
  have ho := h.oa
  rw [hv] at ho
  have := crash_ok h.da hN ⟨List.replicate k true, -1, 0⟩ g c (rdB_of_own ho) (show (0 : Int) ≤ 0 by decide) (show (0 : Int) ≤ 512 by decide)
  unfold Cr.val at this
  simp only [List.length_replicate] at this
  exact this
theorem true_all {D0 : Dk} {l : List Ac} (hw : Wd D0 l D) : (D.crashed ⟨List.replicate l.length true, -1, 0⟩).all = D.all := crashed_all fun i hi => by
  have := hw.waits
  show (Cr.kept ⟨List.replicate l.length true, -1, 0⟩ i).toNat = 512
  unfold Cr.kept
  simp only
  rw [if_neg (by omega), if_pos (by rw [List.getElem?_replicate, if_pos (by omega)])]
  rfl
end
end Go.Proofs.Ytokbghpddgfnpaa

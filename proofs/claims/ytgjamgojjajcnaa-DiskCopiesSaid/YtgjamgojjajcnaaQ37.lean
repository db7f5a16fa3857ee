/- law 2: copies: two of them, written apart; a slice of one call. -/
import Derived.Test.YtgjamgojjajcnaaQ36
import Derived.Test.YtgjamgojjajcnaaQ35
import Derived.Test.YtgjamgojjajcnaaQ12
namespace Go.Proofs.Ytgjamgojjajcnaa
open Go.RowKit
attribute [local go_sem] Oper.semAt_some
set_option maxRecDepth 8000 in
theorem zeroA2 : (Try.prog.info? 28).map (fun i => (i.zero, i.size)) = some (some (.agg #[.int .i64 0, .int .i64 0, .int .i64 0, .int .u8 0, .slice none 0 0, .slice none 0 0, .int .i64 0, .int .i64 0]), 8) := by kernel_rfl
theorem zA2 (w : World) : (zeroValue 28).run Try.prog w = .ok (.agg #[.int .i64 0, .int .i64 0, .int .i64 0, .int .u8 0, .slice none 0 0, .slice none 0 0, .int .i64 0, .int .i64 0]) w := (zero_of_info zeroA2).1 w
set_option maxRecDepth 8000 in
theorem zeroC2 : (Try.prog.info? 26).map (fun i => (i.zero, i.size)) = some (some (.agg #[.slice none 0 0, .int .i64 0, .int .i64 0]), 3) := by kernel_rfl
theorem zC2 (w : World) : (zeroValue 26).run Try.prog w = .ok (.agg #[.slice none 0 0, .int .i64 0, .int .i64 0]) w := (zero_of_info zeroC2).1 w
set_option maxRecDepth 8000 in
theorem size28n : (Try.prog.info? 28).map (·.size) = some 8 := by kernel_rfl
set_option maxRecDepth 8000 in
theorem run_buildSlice28 (w : World) (x : Ac) :
    (Instr.buildSlice 47 1 #[(0, x.val)]).run Try.prog w = .ok (.slice (some ⟨w.heap.size, 0, none⟩) 1 1) (w.alloc (.cells x.cs.toArray 28)) := by
  have hz := zA2 w
  have hs := run_sizeOf (P := Try.prog) size28n w
  have c1 : ∀ cs : Array Value, cs.size = 8 → Instr.fill (fun i => some (i * 8, 8)) cs [(0, x.val)] = some x.cs.toArray := by
    intro cs hcs
    have e2 : x.val.cells.size = 8 := rfl
    rw [fill_one _ _ 0 x.val _ 0 (by rw [e2]) (by rw [e2, hcs]; omega)]
    simp only [Instr.fill, e2]
    have e : cs.toList.take 0 ++ x.cs ++ cs.toList.drop (0 + 8) = x.cs := by
      rw [List.drop_eq_nil_of_le (by rw [Array.length_toList, hcs]; omega), List.append_nil]
      rfl
    exact congrArg (fun x : List Value => some x.toArray) e
  have h2 := c1 ((Array.range (1 * 8)).map ((Value.agg #[.int .i64 0, .int .i64 0, .int .i64 0, .int .u8 0, .slice none 0 0, .slice none 0 0, .int .i64 0, .int .i64 0]).cells[· % (Value.agg #[.int .i64 0, .int .i64 0, .int .i64 0, .int .u8 0, .slice none 0 0, .slice none 0 0, .int .i64 0, .int .i64 0]).cells.size]!)) (by simp)
  simp only [Instr.buildSlice, Sem.run_bind, run_underlying Try.underlying47, Result.andThen_ok, hs]
  rw [if_neg (by decide), if_neg (by decide)]
  simp only [Sem.run_bind, hz, Result.andThen_ok, Sem.run_pure, h2]
  simp [newRow, Result.andThen]
theorem wpList_buildSlice28 {ops : Array Oper} {rest : List Oper} {o : Oper} {a : Act} {w : World} {Q : Exit → Act → World → Prop} (hw : Region.wanted o (yielded ops a.tmps) = true) (y : Operand) (ho : o.op = .buildSlice 47 1 #[(0, y)]) (x : Ac) (hx : a.eval y = x.val)
    (h : wpList Try.prog ops Q rest (a.put o.dst (.slice (some ⟨w.heap.size, 0, none⟩) 1 1)) (w.alloc (.cells x.cs.toArray 28))) : wpList Try.prog ops Q (o :: rest) a w :=
  wpList_step fun K hK => by
    rw [if_pos hw]
    unfold Oper.wp
    simp only [execOp, ho, List.map_toArray, List.map_cons, List.map_nil, hx, Sem.run_bind, run_buildSlice28 w x, Result.andThen_ok]
    exact hK _ _ h
set_option maxRecDepth 8000 in
theorem rdA_one {w : World} {g : Nat} {t : TypeId} {x : Ac} (h : Blk w g t x.cs.toArray) : RdA w (some ⟨g, 0, none⟩) [x] := fun i y hy => by
  obtain rfl : i = 0 := by
    rcases Nat.eq_zero_or_pos i with e | e
    · exact e
    · rw [List.getElem?_eq_none (by simp; omega)] at hy; cases hy
  simp only [List.getElem?_cons_zero, Option.some.injEq] at hy
  subst hy
  exact ⟨g, 0, rfl, fun j u hu => by rw [show 0 + 0 * 8 + j = j by omega, h.cell, List.getElem?_toArray]; exact hu⟩
/-- two disks apart, both made behind W0 -/
structure PQ (W0 W : World) (BP pP : Nat) (plP : Pl) (DP : Dk) (BQ pQ : Nat) (plQ : Pl) (DQ : Dk) : Prop where
  a : DiskAt W BP pP plP DP
  b : DiskAt W BQ pQ plQ DQ
  ap : ∀ k, plP.has pP k → ¬ plQ.has pQ k
  be : Below W0.heap.size W0 W
  p0 : W0.heap.size ≤ BP
  q0 : W0.heap.size ≤ BQ
  pb : BP ≤ W.heap.size
  qb : BQ ≤ W.heap.size
section
variable {W0 W W' : World} {BP pP : Nat} {plP plP' : Pl} {DP DP' : Dk} {BQ pQ : Nat} {plQ plQ' : Pl} {DQ DQ' : Dk}
theorem PQ.swap (h : PQ W0 W BP pP plP DP BQ pQ plQ DQ) : PQ W0 W BQ pQ plQ DQ BP pP plP DP := ⟨h.b, h.a, fun k h1 h2 => h.ap k h2 h1, h.be, h.q0, h.p0, h.qb, h.pb⟩
theorem PQ.left (h : PQ W0 W BP pP plP DP BQ pQ plQ DQ) (hd : DiskAt W' BP pP plP' DP') (hf : Fr (plP.has pP) W W') (hpl : ∀ q, plP'.has pP q → plP.has pP q ∨ W.heap.size ≤ q) : PQ W0 W' BP pP plP' DP' BQ pQ plQ DQ where
  a := hd
  b := h.b.fr hf (fun k hk e => h.ap k e hk)
  ap := fun k hk hq => by
    rcases hpl k hk with h1 | h1
    · exact h.ap k h1 hq
    · have := (h.b.lt k hq).1
      omega
  be := h.be.trans (hf.to_below (fun k hk => Nat.le_trans h.p0 (h.a.lt k hk).2) h.be.size)
  p0 := h.p0
  q0 := h.q0
  pb := Nat.le_trans h.pb hf.size
  qb := Nat.le_trans h.qb hf.size
theorem PQ.right (h : PQ W0 W BP pP plP DP BQ pQ plQ DQ) (hd : DiskAt W' BQ pQ plQ' DQ') (hf : Fr (plQ.has pQ) W W') (hpl : ∀ q, plQ'.has pQ q → plQ.has pQ q ∨ W.heap.size ≤ q) : PQ W0 W' BP pP plP DP BQ pQ plQ' DQ' := (h.swap.left hd hf hpl).swap
theorem PQ.next (h : PQ W0 W BP pP plP DP BQ pQ plQ DQ) (hb : Below W.heap.size W W') : PQ W0 W' BP pP plP DP BQ pQ plQ DQ :=
  { h with a := h.a.below hb, b := h.b.below hb, be := h.be.trans (hb.mono h.be.size), pb := Nat.le_trans h.pb hb.size, qb := Nat.le_trans h.qb hb.size }
end
section
variable {w : World} {B p : Nat} {pl : Pl} {D : Dk}
set_option maxRecDepth 8000 in
theorem fail0 (h : DiskAt w B p pl D) (hB : B ≤ w.heap.size) : Calls Try.prog 20 #[.pointer (some ⟨p, 0, none⟩), .slice none 0 0] w fun e w' => e = .returned (.int .i64 0) ∧ ∃ pl', DiskAt w' B p pl' (D.failing []) ∧ Fr (pl.has p) w w' ∧ ∀ q, pl'.has p q → pl.has p q ∨ w.heap.size ≤ q := by
  refine (show Calls Try.prog _ #[.pointer (some ⟨p, 0, none⟩), .slice none 0 0] w _ from fail_any h hB none 0 [] (by simp) (fun j hj => absurd hj (by simp))).mono ?_
  rintro e w' (⟨_, rfl, ⟨f, hd', hf⟩, hfr⟩ | ⟨⟨x, hx, _⟩, _⟩)
  · refine ⟨rfl, _, hd', hfr, ?_⟩
    rintro q (h | h | h | h)
    · exact .inl (.inl h)
    · exact .inl (.inr (.inl h))
    · exact .inl (.inr (.inr (.inl h)))
    · injection h with h
      exact .inr (h ▸ hf)
  · cases hx
set_option maxRecDepth 8000 in
theorem write0 (h : DiskAt w B p pl (D.failing [])) (hB : B ≤ w.heap.size) (hN : D.waits.length ≤ 1000000) (hs : D.steps < 1000000) (c : UInt8) : Calls Try.prog 21 #[.pointer (some ⟨p, 0, none⟩), .int .i64 0, sec (fullL c)] w fun e w' => e = .returned (.int .i64 0) ∧ ∃ pl' D', DiskAt w' B p pl' D' ∧ D'.waits = D.waits ++ [(0, fullL c)] ∧ D'.size = D.size ∧ Fr (pl.has p) w w' ∧ ∀ q, pl'.has p q → pl.has p q ∨ w.heap.size ≤ q := by
  refine (show Calls Try.prog _ #[.pointer (some ⟨p, 0, none⟩), .int .i64 0, sec (fullL c)] w _ from write_goes h hB hN 0 (fullL c) (fullL_length c) h.size1 hs (by simp [Dk.next, Dk.failing, inS])).mono ?_
  rintro e w' ⟨rfl, v, hd', hfr, hv⟩
  refine ⟨rfl, _, _, hd', rfl, rfl, hfr, fun q hq => ?_⟩
  rcases hq with hq | hq | hq | hq
  · exact .inl (.inl hq)
  · exact .inl (.inr (.inl hq))
  · rcases hv with e | ⟨g, e, hg⟩
    · exact .inl (.inr (.inr (.inl (e ▸ hq))))
    · rw [show v.ownBlock = some q from hq] at e
      cases e
      exact .inr hg
  · exact .inl (.inr (.inr (.inr hq)))
end
set_option maxRecDepth 8000 in
theorem same_iff {D D' : Dk} {R R' : Rf} {s s' z : Nat} (h : Alike D R s z) (h' : Alike D' R' s' z) (hl : R.lb.length = z * 512) (hl' : R'.lb.length = z * 512) : sameD D D' ↔ sameR R' R := by
  unfold sameD sameR sameL
  rw [h.size, h.waits, h'.waits]
  have e : (∀ n, n < z → D.lasts n = D'.lasts n) ↔ R'.lb = R.lb := by
    constructor
    · intro hh
      rw [← secs_chunk _ _ hl, ← secs_chunk _ _ hl']
      exact secs_congr z (fun n hn => by rw [← h.lasts n hn, ← h'.lasts n hn, hh n hn])
    · intro hh n hn
      rw [h.lasts n hn, h'.lasts n hn, hh]
  rw [e]
  exact ⟨fun ⟨a, b⟩ => ⟨a, b.symm⟩, fun ⟨a, b⟩ => ⟨a, b.symm⟩⟩
theorem sameD_symm {D D' : Dk} (hs : D.size = D'.size) : sameD D D' ↔ sameD D' D :=
  ⟨fun ⟨a, b⟩ => ⟨fun n hn => (a n (by rw [hs]; exact hn)).symm, b.symm⟩, fun ⟨a, b⟩ => ⟨fun n hn => (a n (by rw [← hs]; exact hn)).symm, b.symm⟩⟩
theorem full_ne : fullL 1 ≠ fullL 2 := fun e => by
  have := congrArg (fun l => l[0]?) e
  revert this
  decide
section
variable {w w0 W W' : World} {B p : Nat} {pl : Pl} {D : Dk} {r : Rp} {R : Rf} {s z g : Nat}
theorem Lw.rebase (h : Lw w0 B p pl D r R s z g W) (hb : Below w.heap.size w w0) : Lw w B p pl D r R s z g W :=
  { h with be := hb.trans (h.be.mono hb.size), b0 := Nat.le_trans hb.size h.b0, g0 := Nat.le_trans hb.size h.g0 }
theorem Lw.set0 (h : Lw w B p pl D r R s z g W) (hB : w.heap.size < B) (hg : w.heap.size ≠ g) (hn : ¬ r.at_ R w.heap.size) (u : Value) : Lw w B p pl D r R s z g (W.setCell ⟨w.heap.size, 0, none⟩ u) :=
  { h with
    bo := h.bo.far (g := w.heap.size) ((Fr.refl (fun k => k = w.heap.size) W).setCell (fun _ => rfl) u) (fun hk => by have := (h.bo.da.lt _ hk).2; omega) hn
    be := h.be.setCell (Nat.le_refl _) u
    bg := h.bg.far (by simp only; omega) u }
end
/-- what stays while the copies are written -/
structure Od (w W : World) (Bc pc : Nat) (plc : Pl) (D : Dk) (B p' : Nat) (pl' : Pl) (D' : Dk) (q : Rp) (R : Rf) (t : Nat) (q' : Rp) (R' : Rf) (t' z g gn : Nat) : Prop where
  c : DiskAt W Bc pc plc D
  e : DiskAt W B p' pl' D'
  rf : RefAt W q R z
  rf' : RefAt W q' R' z
  al : Alike D R t z
  al' : Alike D' R' t' z
  bg : Blk W g 34 #[.slice q.A1 q.n1 q.c1, .slice q.A2 q.n2 q.c2, .int .i64 (t : Int), .slice q.A3 q.n3 q.c3]
  bn : Blk W gn 34 #[.slice q'.A1 q'.n1 q'.c1, .slice q'.A2 q'.n2 q'.c2, .int .i64 (t' : Int), .slice q'.A3 q'.n3 q'.c3]
  be : Below w.heap.size w W
theorem Od.next {w W W' : World} {Bc pc : Nat} {plc : Pl} {D : Dk} {B p' : Nat} {pl' : Pl} {D' : Dk} {q : Rp} {R : Rf} {t : Nat} {q' : Rp} {R' : Rf} {t' z g gn : Nat} (h : Od w W Bc pc plc D B p' pl' D' q R t q' R' t' z g gn) (hb : Below W.heap.size W W') : Od w W' Bc pc plc D B p' pl' D' q R t q' R' t' z g gn :=
  { h with c := h.c.below hb, e := h.e.below hb, rf := h.rf.below hb, rf' := h.rf'.below hb, bg := h.bg.below hb h.bg.lt, bn := h.bn.below hb h.bn.lt, be := h.be.trans (hb.mono h.be.size) }
end Go.Proofs.Ytgjamgojjajcnaa

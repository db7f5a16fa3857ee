/- law 2: a whole struct stored into a block that is known whole, in a drawn region. -/
import Derived.Test.YtgjamgojjajcnaaQ19
import Derived.Test.YtgjamgojjajcnaaQ14
import Derived.Test.YtgjamgojjajcnaaQ09
import Derived.Test.YtgjamgojjajcnaaQ15
namespace Go.Proofs.Ytgjamgojjajcnaa
open Go.RowKit
theorem setRow_fr' (w : World) (b : Nat) (c : Array Value) : Fr (fun k => k = b) w (w.setRow b c) := ⟨rfl, rfl, rfl, by simp [World.setRow], fun k _ hk => setRow_other w b k c hk⟩
set_option maxRecDepth 8000 in
theorem step_store_whole {ops : Array Oper} {o : Oper} {a : Act} {w : World} {K : Act → World → Prop} {Q : Exit → Act → World → Prop} {E : Prop} (hgd : o.guard = none) (ty : TypeId) (x y : Operand) (ho : o.op = .store ty x y) {g : Nat} (hx : a.eval x = .pointer (some ⟨g, 0, none⟩))
    (cells old : Array Value) (t : TypeId) (hy : a.eval y = .agg cells) (hb : Blk w g t old) (hi : (Try.prog.info? ty).map (·.size) = some cells.size) (hold : old.size = cells.size) (h1 : cells.all (·.oneCell') = true)
    (h : ∀ w', Blk w' g t cells → Fr (fun k => k = g) w w' → K (a.put o.dst undef) w') : if Region.wanted o (yielded ops a.tmps) = true then Oper.wp Try.prog o a w K Q else E := by
  rw [if_pos (by simp [Region.wanted, hgd])]
  refine wp_store_row ty x y ho g cells hx hy t old hb hi hold h1 ?_
  exact h _ (setRow_heap w g _ _ t (0, 0) hb) (setRow_fr' w g cells)
set_option maxRecDepth 8000 in
theorem size43c (v0 v1 v2 v3 : Value) : (Try.prog.info? 34).map (·.size) = some (#[v0, v1, v2, v3] : Array Value).size := by kernel_rfl
set_option maxRecDepth 8000 in
theorem one43 (A1 A2 A3 : Option Addr) (n1 c1 n2 c2 n3 c3 : Nat) (t : Int) : (#[.slice A1 n1 c1, .slice A2 n2 c2, .int .i64 t, .slice A3 n3 c3] : Array Value).all (fun x => x.oneCell') = true := by
  simp [Value.oneCell']
set_option maxRecDepth 8000 in
theorem results_act {fn : Func} {p q o : Tmp} (h : fn.results = #[.tmp p, .cell q 34, .tmp o]) (tmps : Array Value) (w : World) (g : Nat) (cs : Array Value) (hl : cs.size = 4)
    (hq : tmps.getD q undef = .pointer (some ⟨g, 0, none⟩)) (hg : Blk w g 34 cs) : (results fn tmps).run Try.prog w = .ok (.tuple #[tmps.getD p undef, .agg cs, tmps.getD o undef]) w := by
  have hq' : tmps[q]?.getD undef = .pointer (some ⟨g, 0, none⟩) := by simpa using hq
  have h1 := run_loadVar_row (P := Try.prog) w g 34 34 cs (0, 0) _ hg Try.underlying34 rfl (by rw [hl]; exact size43)
  simp [results, h, hq', asAddr, h1]
/-- what stays apart behind a step of each -/
theorem Bo.mk' {W0 W W' : World} {B p : Nat} {pl pl' : Pl} {D D' : Dk} {r r' : Rp} {R R' : Rf} {s s' z : Nat} (h : Bo W0 B p pl D r R s z) (hW : W0.heap.size ≤ W.heap.size) (hrf : RefAt W r' R' z) (hat : ∀ b, r'.at_ R' b → r.at_ R b ∨ W0.heap.size ≤ b)
    (hd : DiskAt W' B p pl' D') (hf : Fr (pl.has p) W W') (hpl : ∀ q, pl'.has p q → pl.has p q ∨ W.heap.size ≤ q) (ha : Alike D' R' s' z) : Bo W' B p pl' D' r' R' s' z where
  da := hd
  rf := hrf.fr hf (fun b hb hp => by
    rcases hat b hb with h1 | h1
    · exact h.ap b h1 hp
    · have := (h.da.lt b hp).1
      omega)
  al := ha
  ap := fun b hb hp => by
    have hlt := hrf.lt hb
    rcases hpl b hp with h2 | h2
    · rcases hat b hb with h1 | h1
      · exact h.ap b h1 h2
      · have := (h.da.lt b h2).1
        omega
    · omega
  hB := Nat.le_trans h.hB (Nat.le_trans hW hf.size)
set_option maxRecDepth 8000 in
/-- a disk just made, and the document's -/
theorem bo_begun {w1 w2 : World} {p : Nat} {pl : Pl} {l : List UInt8} {s : Nat} (da : DiskAt w2 (w1.heap.size + 2) p pl (ofD (begB l (s * 512)) s s)) (bg : Blk w2 (w1.heap.size + 1) 5 (bv (begB l (s * 512))).toArray) (s1 : 1 ≤ s) (s2 : s ≤ 12) :
    Bo w2 (w1.heap.size + 2) p pl (ofD (begB l (s * 512)) s s) ⟨some ⟨w1.heap.size + 1, 0, none⟩, s * 512, s * 512, none, 0, 0, none, 0, 0⟩ ⟨begB l (s * 512), [], []⟩ 0 s where
  da := da
  rf := {
    n1 := rfl
    l1 := begB_length l _
    r1 := rd_blk bg 0 _ (fun j hj => by rw [Nat.zero_add, bv_get, List.getElem?_eq_getElem hj]; rfl)
    n2 := rfl
    r2 := fun i x hx => by simp at hx
    n3 := rfl
    r3 := fun j hj => absurd hj (by simp)
    wl := fun x hx => by simp at hx
    z1 := s1
    z2 := by omega
    m2 := by simp
    m3 := by simp }
  al := {
    size := rfl
    lasts := fun n hn => by show ofL _ _ _ = _; unfold ofL; rw [if_pos hn]
    waits := rfl
    steps := rfl
    fails := fun n _ _ => by simp [ofD, newDk] }
  ap := fun b hb' hp => by
    obtain ⟨off, ⟨e, _⟩ | ⟨e, _⟩ | ⟨e, _⟩⟩ := hb'
    · injection e with e
      injection e with e1 _
      have := (da.lt b hp).2
      omega
    · cases e
    · cases e
  hB := bg.lt
/-- a store into a block that neither has -/
theorem Bo.far {W W' : World} {B p : Nat} {pl : Pl} {D : Dk} {r : Rp} {R : Rf} {s z g : Nat} (h : Bo W B p pl D r R s z) (hf : Fr (fun k => k = g) W W') (h1 : ¬ pl.has p g) (h2 : ¬ r.at_ R g) : Bo W' B p pl D r R s z where
  da := h.da.fr hf (fun k hk e => by subst e; exact h1 hk)
  rf := h.rf.fr hf (fun b hb e => by subst e; exact h2 hb)
  al := h.al
  ap := h.ap
  hB := Nat.le_trans h.hB hf.size
/-- what act leaves, where the disk goes on -/
def ActPost (w : World) (B p : Nat) (pl : Pl) (r : Rp) (R : Rf) (z : Nat) (R' : Rf) (s' : Nat) (e : Ending) (w' : World) : Prop :=
  ∃ pl' D' r', e = .returned (.tuple #[.pointer (some ⟨p, 0, none⟩), Rp.val r' s', .bool true]) ∧ Bo w' B p pl' D' r' R' s' z ∧ Fr (pl.has p) w w' ∧ (∀ q, pl'.has p q → pl.has p q ∨ w.heap.size ≤ q) ∧ ∀ b, r'.at_ R' b → r.at_ R b ∨ w.heap.size ≤ b
/-- a law's disk and the document's, the latter in a block of its own -/
structure Lw (w0 : World) (B p : Nat) (pl : Pl) (D : Dk) (r : Rp) (R : Rf) (s z g : Nat) (W : World) : Prop where
  bo : Bo W B p pl D r R s z
  be : Below w0.heap.size w0 W
  bg : Blk W g 34 #[.slice r.A1 r.n1 r.c1, .slice r.A2 r.n2 r.c2, .int .i64 (s : Int), .slice r.A3 r.n3 r.c3]
  ng : ¬ pl.has p g
  nr : ¬ r.at_ R g
  b0 : w0.heap.size ≤ B
  g0 : w0.heap.size ≤ g
section
variable {w0 W W' : World} {B p : Nat} {pl pl' : Pl} {D D' : Dk} {r r' : Rp} {R R' : Rf} {s s' z g : Nat}
theorem Lw.kept (h : Lw w0 B p pl D r R s z g W) (hf : Fr (pl.has p) W W') : Blk W' g 34 #[.slice r.A1 r.n1 r.c1, .slice r.A2 r.n2 r.c2, .int .i64 (s : Int), .slice r.A3 r.n3 r.c3] := hf.keepBlk h.bg h.ng
theorem Lw.blk (h : Lw w0 B p pl D r R s z g W) {b : Nat} {t : TypeId} {cs : Array Value} (hb : Blk W b t cs) (hn : b < B) (hf : Fr (pl.has p) W W') : Blk W' b t cs := hf.keepBlk hb (fun hk => by have := (h.bo.da.lt b hk).2; omega)
theorem Lw.below' (h : Lw w0 B p pl D r R s z g W) (hf : Fr (pl.has p) W W') : Below w0.heap.size w0 W' := h.be.trans (hf.to_below (fun k hk => Nat.le_trans h.b0 (h.bo.da.lt k hk).2) h.be.size)
set_option maxRecDepth 8000 in
theorem Lw.stored (h : Lw w0 B p pl D r R s z g W) (bo : Bo W' B p pl' D' r' R' s' z) (hf : Fr (pl.has p) W W') (hpl : ∀ q, pl'.has p q → pl.has p q ∨ W.heap.size ≤ q) (hat : ∀ b, r'.at_ R' b → r.at_ R b ∨ W.heap.size ≤ b) :
    Lw w0 B p pl' D' r' R' s' z g (W'.setRow g #[.slice r'.A1 r'.n1 r'.c1, .slice r'.A2 r'.n2 r'.c2, .int .i64 (s' : Int), .slice r'.A3 r'.n3 r'.c3]) := by
  have h1 : ¬ pl'.has p g := fun hk => by
    rcases hpl g hk with h1 | h1
    · exact h.ng h1
    · have := h.bg.lt; omega
  have h2 : ¬ r'.at_ R' g := fun hk => by
    rcases hat g hk with h1 | h1
    · exact h.nr h1
    · have := h.bg.lt; omega
  exact {
    bo := bo.far (setRow_fr' _ _ _) h1 h2
    be := (h.below' hf).trans ((setRow_fr' W' g _).to_below (fun k e => by subst e; exact h.g0) (h.below' hf).size)
    bg := setRow_heap W' g _ _ _ (0, 0) (h.kept hf)
    ng := h1
    nr := h2
    b0 := h.b0
    g0 := h.g0 }
theorem Lw.next (h : Lw w0 B p pl D r R s z g W) (hb : Below W.heap.size W W') : Lw w0 B p pl D r R s z g W' :=
  { h with bo := h.bo.below hb, be := h.be.trans (hb.mono h.be.size), bg := h.bg.below hb h.bg.lt }
/-- the disk alone goes on, the document's lies where it lay -/
theorem Lw.moved (h : Lw w0 B p pl D r R s z g W) (hd : DiskAt W' B p pl' D') (hf : Fr (pl.has p) W W') (hpl : ∀ q, pl'.has p q → pl.has p q ∨ W.heap.size ≤ q) : DiskAt W' B p pl' D' ∧ RefAt W' r R z ∧ (∀ b, r.at_ R b → ¬ pl'.has p b) ∧ B ≤ W'.heap.size :=
  ⟨hd, h.bo.rf.fr hf h.bo.ap, fun b hb hk => by
    rcases hpl b hk with h1 | h1
    · exact h.bo.ap b hb h1
    · have := h.bo.rf.lt hb; omega, Nat.le_trans h.bo.hB hf.size⟩
end
theorem wpList_yieldsD {P : Program} {ops : Array Oper} {rest : List Oper} {o : Oper} {a : Act} {w : World} {Q : Exit → Act → World → Prop} {S : World → Prop} {v : Value} (hy : YieldsIf P ops S o v a) (hS : S w) (h : wpList P ops Q rest (a.put o.dst v) w) : wpList P ops Q (o :: rest) a w :=
  wpList_step fun K hK => by
    rcases hy with ⟨hw, hrun⟩ | ⟨hw, rfl⟩
    · rw [if_pos hw]
      unfold Oper.wp
      rw [hrun w hS]
      exact hK _ _ h
    · rw [if_neg (by rw [hw]; decide)]
      exact hK _ _ h
/-- the blocks of the call while it goes on -/
structure Ah (w0 : World) (x : Ac) (g : Nat) (cs : Array Value) (W : World) : Prop where
  h1 : Blk W (w0.heap.size + 1) 28 x.cs.toArray
  h7 : Blk W (w0.heap.size + 1 + 1) 34 #[.slice none 0 0, .slice none 0 0, .int .i64 0, .slice none 0 0]
  hg : Blk W g 34 cs
section
variable {w0 W W' : World} {x : Ac} {g : Nat} {cs : Array Value}
theorem Ah.fr {S : Nat → Prop} (h : Ah w0 x g cs W) (hf : Fr S W W') (hS : ∀ k, S k → k < w0.heap.size) (hg : w0.heap.size + 1 + 1 < g) : Ah w0 x g cs W' :=
  ⟨hf.keepBlk h.h1 (fun e => by have := hS _ e; omega), hf.keepBlk h.h7 (fun e => by have := hS _ e; omega), hf.keepBlk h.hg (fun e => by have := hS _ e; omega)⟩
theorem Ah.below (h : Ah w0 x g cs W) (hb : Below W.heap.size W W') : Ah w0 x g cs W' := ⟨h.h1.below hb h.h1.lt, h.h7.below hb h.h7.lt, h.hg.below hb h.hg.lt⟩
theorem Ah.fs (h : Ah w0 x g cs W) : W.cell? ⟨w0.heap.size + 1, 1, none⟩ = some (.int .i64 x.sector) ∧ W.cell? ⟨w0.heap.size + 1, 3, none⟩ = some (.int .u8 (x.byte.toNat : Int)) ∧ Blk W g 34 cs := ⟨(h.h1.cell 1).trans rfl, (h.h1.cell 3).trans rfl, h.hg⟩
end
/-- the blocks of act while it goes on -/
structure Ag (w0 : World) (r : Rp) (s : Nat) (x : Ac) (W : World) : Prop where
  h0 : Blk W w0.heap.size 34 #[.slice r.A1 r.n1 r.c1, .slice r.A2 r.n2 r.c2, .int .i64 (s : Int), .slice r.A3 r.n3 r.c3]
  h1 : Blk W (w0.heap.size + 1) 28 x.cs.toArray
  h7 : Blk W (w0.heap.size + 1 + 1) 34 #[.slice none 0 0, .slice none 0 0, .int .i64 0, .slice none 0 0]
  be : Below w0.heap.size w0 W
section
variable {w0 W W' : World} {r : Rp} {s : Nat} {x : Ac}
theorem Ag.next (h : Ag w0 r s x W) (hb : Below (w0.heap.size + 1 + 1 + 1) W W') : Ag w0 r s x W' :=
  ⟨h.h0.below hb (by omega), h.h1.below hb (by omega), h.h7.below hb (by omega), h.be.trans (hb.mono (by omega))⟩
theorem Ag.go (h : Ag w0 r s x W) (hb : Below W.heap.size W W') : Ag w0 r s x W' := h.next (hb.mono h.h7.lt)
theorem Ag.alloc (h : Ag w0 r s x W) (o : Obj) : Ag w0 r s x (W.alloc o) := h.go ((Below.refl _ W).alloc (Nat.le_refl _) o)
theorem Ag.drew (h : Ag w0 r s x W) : Ag w0 r s x W.drew := h.go (Below.drew (Below.refl _ W))
theorem Ag.fs (h : Ag w0 r s x W) : W.cell? ⟨w0.heap.size + 1, 1, none⟩ = some (.int .i64 x.sector) ∧ W.cell? ⟨w0.heap.size + 1, 3, none⟩ = some (.int .u8 (x.byte.toNat : Int)) ∧ Blk W w0.heap.size 34 #[.slice r.A1 r.n1 r.c1, .slice r.A2 r.n2 r.c2, .int .i64 (s : Int), .slice r.A3 r.n3 r.c3] := ⟨(h.h1.cell 1).trans rfl, (h.h1.cell 3).trans rfl, h.h0⟩
/-- a store into a newer block -/
theorem Ag.stored {g : Nat} (h : Ag w0 r s x W) (hg : w0.heap.size + 1 + 1 < g) (hf : Fr (fun k => k = g) W W') : Ag w0 r s x W' := h.next (hf.to_below (fun k e => by subst e; omega) h.h7.lt)
set_option maxRecDepth 8000 in
/-- behind its three blocks -/
theorem Ag.of (w0 : World) (r : Rp) (s : Nat) (x : Ac) : Ag w0 r s x (((w0.alloc (.cells #[.slice r.A1 r.n1 r.c1, .slice r.A2 r.n2 r.c2, .int .i64 (s : Int), .slice r.A3 r.n3 r.c3] 34)).alloc (.cells x.cs.toArray 28)).alloc (.cells #[.slice none 0 0, .slice none 0 0, .int .i64 0, .slice none 0 0] 34)) where
  h0 := ((Blk.new w0 34 _).alloc _).alloc _
  h1 := by have := (Blk.new (w0.alloc (.cells #[.slice r.A1 r.n1 r.c1, .slice r.A2 r.n2 r.c2, .int .i64 (s : Int), .slice r.A3 r.n3 r.c3] 34)) 28 x.cs.toArray).alloc (.cells #[.slice none 0 0, .slice none 0 0, .int .i64 0, .slice none 0 0] 34); simpa using this
  h7 := by have := Blk.new ((w0.alloc (.cells #[.slice r.A1 r.n1 r.c1, .slice r.A2 r.n2 r.c2, .int .i64 (s : Int), .slice r.A3 r.n3 r.c3] 34)).alloc (.cells x.cs.toArray 28)) 34 #[.slice none 0 0, .slice none 0 0, .int .i64 0, .slice none 0 0]; simpa using this
  be := (((Below.refl w0.heap.size w0).alloc (Nat.le_refl _) _).alloc (by simp) _).alloc (by simp; omega) _
end
end Go.Proofs.Ytgjamgojjajcnaa

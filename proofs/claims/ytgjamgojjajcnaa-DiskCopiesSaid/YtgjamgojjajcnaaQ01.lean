/- Reading a list of bytes out of memory; a list of bytes that a call has made: words and their laws, over any world. -/
import Derived.WalkKit
import Derived.Below
import Derived.Laws.OwnMore
import Derived.Deep.AppendLies
import Derived.Deep.Draws
import Derived.Lib.Hide
import Derived.Maps.AppendAt
import Derived.OwnWalk
import Derived.Test.YtgjamgojjajcnaaRows
import Derived.Deep.MidRow
import Derived.Deep.WholeRow
namespace Go.Proofs.Ytgjamgojjajcnaa
open Go.RowKit
/-- the cells of bytes -/
def bv (l : List UInt8) : List Value := l.map fun x => .int .u8 (x.toNat : Int)
set_option maxRecDepth 8000 in
theorem bv_length (l : List UInt8) : (bv l).length = l.length := by simp [bv]
set_option maxRecDepth 8000 in
theorem bv_get (l : List UInt8) (j : Nat) : (bv l)[j]? = (l[j]?).map fun x => .int .u8 (x.toNat : Int) := by simp [bv]
set_option maxRecDepth 8000 in
theorem bv_append (a b : List UInt8) : bv (a ++ b) = bv a ++ bv b := by simp [bv]
set_option maxRecDepth 8000 in
theorem bv_one (l : List UInt8) : ∀ u ∈ bv l, u.oneCell' = true := by
  intro u hu
  simp only [bv, List.mem_map] at hu
  obtain ⟨x, _, rfl⟩ := hu
  rfl
set_option maxRecDepth 8000 in
theorem bv_inj {a b : List UInt8} (h : bv a = bv b) : a = b := by
  induction a generalizing b with
  | nil => cases b with
    | nil => rfl
    | cons y b => simp [bv] at h
  | cons x a ih => cases b with
    | nil => simp [bv] at h
    | cons y b =>
      simp only [bv, List.map_cons, List.cons.injEq] at h
      obtain ⟨h1, h2⟩ := h
      rw [ih h2]
      have : x.toNat = y.toNat := by
        injection h1 with _ h1
        omega
      rw [UInt8.toNat_inj.1 this]
set_option maxRecDepth 8000 in
theorem own_base {w : World} {base base' : Nat} {e : TypeId} {size : Nat} {v : Value} {n : Nat} {xs : List Value} (h : w.ownsRow base e size v n xs) (hb : base' ≤ base) : w.ownsRow base' e size v n xs := by
  refine ⟨h.1, ?_⟩
  rcases h.2 with h | ⟨g, cap, cur, h1, h2, h3⟩
  · exact .inl h
  · exact .inr ⟨g, cap, cur, h1, by omega, h3⟩
/-- The cells from A on read as the bytes l. -/
def Rd (w : World) (A : Option Addr) (l : List UInt8) : Prop :=
  ∀ j (h : j < l.length), ∃ b off, A = some ⟨b, off, none⟩ ∧ w.cell? ⟨b, off + j, none⟩ = some (.int .u8 (l[j].toNat : Int))
set_option maxRecDepth 8000 in
theorem cell_lt {w : World} {p : Addr} {v : Value} (h : w.cell? p = some v) : p.block < w.heap.size := by
  rcases Nat.lt_or_ge p.block w.heap.size with hlt | hge
  · exact hlt
  · rw [World.cell?, Array.getElem?_eq_none hge] at h
    cases h
section
variable {w w' : World} {A : Option Addr} {l : List UInt8}
theorem Rd.none_ : Rd w A [] := fun j h => absurd h (by simp)
set_option maxRecDepth 8000 in
theorem Rd.keep (h : Rd w A l) (hk : ∀ p : Addr, p.block < w.heap.size → w'.cell? p = w.cell? p) : Rd w' A l := by
  intro j hj
  obtain ⟨b, off, rfl, hc⟩ := h j hj
  exact ⟨b, off, rfl, (hk _ (cell_lt hc)).trans hc⟩
theorem Rd.below (h : Rd w A l) (hb : Below w.heap.size w w') : Rd w' A l := h.keep fun _ hp => hb.cell hp
theorem Rd.alloc (h : Rd w A l) (o : Obj) : Rd (w.alloc o) A l := h.keep fun p hp => World.cell?_alloc_lt w o p hp
theorem Rd.drew (h : Rd w A l) : Rd w.drew A l := h
theorem Rd.drewN (h : Rd w A l) (k : Nat) : Rd (w.drewN k) A l := h
set_option maxRecDepth 8000 in
theorem Rd.take (h : Rd w A l) (n : Nat) : Rd w A (l.take n) := by
  intro j hj
  have hj' : j < l.length := by simp at hj; omega
  obtain ⟨b, off, e, hc⟩ := h j hj'
  exact ⟨b, off, e, by rw [hc]; simp⟩
set_option maxRecDepth 8000 in
theorem Rd.drop {b off : Nat} (h : Rd w (some ⟨b, off, none⟩) l) (n : Nat) : Rd w (some ⟨b, off + n, none⟩) (l.drop n) := by
  intro j hj
  have hj' : n + j < l.length := by simp at hj; omega
  obtain ⟨b', off', e, hc⟩ := h (n + j) hj'
  injection e with e
  injection e with e1 e2
  subst e1; subst e2
  exact ⟨b, off + n, rfl, by rw [Nat.add_assoc, hc]; simp⟩
set_option maxRecDepth 8000 in
theorem Rd.of_own {base n c : Nat} {t : TypeId} (h : w.ownsRow base t 1 (.slice A n c) n (bv l)) : Rd w A l := by
  intro j hj
  have hn : (bv l).length = n := by simpa using h.1
  rw [bv_length] at hn
  obtain ⟨g, cap, hv, _, _⟩ := h.form (by omega)
  injection hv with hA _ _
  subst hA
  refine ⟨g, 0, rfl, ?_⟩
  have := h.cellAt j (by omega)
  rw [Nat.zero_add, this, bv_get, List.getElem?_eq_getElem hj]
  rfl
end
end Go.Proofs.Ytgjamgojjajcnaa
namespace Go.Proofs.Ytgjamgojjajcnaa
open Go.RowKit
set_option maxRecDepth 8000 in
theorem add_flat (b off j : Nat) : ((⟨b, off, none⟩ : Addr).add j) = ⟨b, off + j, none⟩ := by
  unfold Addr.add
  split
  · subst_vars; rfl
  · rfl
section
variable {P : Program} (w : World)
set_option maxRecDepth 8000 in
theorem run_append_bytes {t ty e : TypeId} (ht : P.underlying t = some (.slice e)) (hinfo : (P.info? e).map (fun i => (i.zero, i.size, i.bytes)) = some (some (.int .u8 0), 1, 1))
    {base n : Nat} {v : Value} {l : List UInt8} (hown : w.ownsRow base e 1 v n (bv l)) {A : Option Addr} {m c : Nat} {k : List UInt8} (hr : Rd w A k) (hm : k.length = m)
    (hbig : n + m ≤ 100000000) (hbase : base ≤ w.heap.size) :
    ∃ v' w', (Builtin.append_ #[t, t] ty #[v, .slice A m c]).run P w = .ok v' w' ∧ w'.ownsRow base e 1 v' (n + m) (bv (l ++ k)) ∧ w.grownBy w' v.ownBlock ∧
      (v'.ownBlock = v.ownBlock ∨ v'.ownBlock = some w.heap.size) := by
  obtain ⟨i, hi, hz, hs, hb⟩ := info_parts hinfo
  cases A with
  | none =>
    have hk : k = [] := by
      cases k with
      | nil => rfl
      | cons x k =>
        obtain ⟨b, off, h, _⟩ := hr 0 (by simp)
        cases h
    subst hk
    simp only [List.length_nil] at hm
    subst hm
    refine ⟨v, w, ?_, by simpa using hown, World.grownBy.refl w _, .inl rfl⟩
    rcases hown.2 with ⟨rfl, rfl⟩ | ⟨g, cap, cur, rfl, _, _, hnc, _⟩
    · simp [Builtin.append_, run_underlying ht, sizeOf, typeInfo, hi, Builtin.lenOf, Builtin.firstCells]
    · simp [Builtin.append_, run_underlying ht, sizeOf, typeInfo, hi, Builtin.lenOf, Builtin.firstCells, hnc, storeCells]
  | some ad =>
    have hnews : ∀ j u, (bv k)[j]? = some u → w.cell? (ad.add j) = some u := by
      intro j u hu
      rw [bv_get] at hu
      rcases Nat.lt_or_ge j k.length with hj | hj
      · obtain ⟨b, off, h, hc⟩ := hr j hj
        injection h with h
        subst h
        rw [List.getElem?_eq_getElem hj] at hu
        rw [add_flat, hc, ← hu]
        rfl
      · rw [List.getElem?_eq_none hj] at hu
        cases hu
    obtain ⟨v', w', hrun, h2, h3, _, h5⟩ := run_append_own_at (P := P) w base t ty e i (.int .u8 0) 1 1 ht hi hz hs hb rfl (by omega) v n (bv l) hown ad m c (bv k) (by rw [bv_length]; omega) hnews (bv_one k) (by simp only [maxLen]; omega) (by omega) hbase
    exact ⟨v', w', hrun, by rw [bv_append]; exact h2, h3, h5⟩
set_option maxRecDepth 8000 in
theorem wpList_append_bytes {ops : Array Oper} {rest : List Oper} {o : Oper} {a : Act} {Q : Exit → Act → World → Prop} (hgd : o.guard = none) (s x : Operand) (t : TypeId)
    (ho : o.op = .call { callee := .builtin .append, args := #[s, x], argTypes := #[t, t] }) {e : TypeId} (ht : P.underlying t = some (.slice e)) (hinfo : (P.info? e).map (fun i => (i.zero, i.size, i.bytes)) = some (some (.int .u8 0), 1, 1))
    {base n : Nat} {v : Value} {l : List UInt8} (hs : a.eval s = v) (hown : w.ownsRow base e 1 v n (bv l)) {A : Option Addr} {m c : Nat} {k : List UInt8} (hx : a.eval x = .slice A m c) (hr : Rd w A k) (hm : k.length = m)
    (hbig : n + m ≤ 100000000) (hbase : base ≤ w.heap.size)
    (h : ∀ v' w', w'.ownsRow base e 1 v' (n + m) (bv (l ++ k)) → w.grownBy w' v.ownBlock → (v'.ownBlock = v.ownBlock ∨ v'.ownBlock = some w.heap.size) → wpList P ops Q rest (a.put o.dst v') w') : wpList P ops Q (o :: rest) a w := by
  refine wpList_plain hgd fun K hK => ?_
  obtain ⟨v', w', hrun, h2, h3, h4⟩ := run_append_bytes (P := P) w (ty := o.type) ht hinfo hown hr hm (c := c) hbig hbase
  unfold Oper.wp execOp
  simp only [ho, resolve, invoke, builtin, Sem.run_bind, Sem.run_pure, Result.andThen_ok, List.map_toArray, List.map_cons, List.map_nil, hs, hx, hrun]
  exact hK _ _ (h v' w' h2 h3 h4)
theorem below_append {base B : Nat} {e : TypeId} {n : Nat} {v : Value} {xs : List Value} {W w w' : World} (hb : Below B W w) (hown : w.ownsRow base e 1 v n xs) (hg : w.grownBy w' v.ownBlock) (hB : B ≤ base) (hw : B ≤ w.heap.size) : Below B W w' :=
  hb.grown hg hw fun k hk => Nat.le_trans hB (hown.lt k hk).1
set_option maxRecDepth 8000 in
theorem rd_new (w : World) (x : UInt8) (t : TypeId) {i : Int} (h : i = (x.toNat : Int)) : Rd (w.alloc (.cells #[.int .u8 i] t)) (some ⟨w.heap.size, 0, none⟩) [x] := by
  subst h
  intro j hj
  have : j = 0 := by simp at hj; omega
  subst this
  exact ⟨_, _, rfl, by simp⟩
set_option maxRecDepth 8000 in
theorem u8_mod (M : Nat) : ((M : Int) % 256) = ((UInt8.ofNat (M % 256)).toNat : Int) := by simp
set_option maxRecDepth 8000 in
theorem rd_one (w : World) (x : UInt8) (t : TypeId) : Rd (w.alloc (.cells #[.int .u8 (x.toNat : Int)] t)) (some ⟨w.heap.size, 0, none⟩) [x] := by
  intro j hj
  have : j = 0 := by simp at hj; omega
  subst this
  exact ⟨_, _, rfl, by simp⟩
end
end Go.Proofs.Ytgjamgojjajcnaa
namespace Go.Proofs.Ytgjamgojjajcnaa
open Go.RowKit
/-- the value of a sector's bytes -/
abbrev sec (l : List UInt8) : Value := .agg (bv l).toArray
/-- a sector of noughts -/
def zs : List UInt8 := List.replicate 512 0
theorem zs_length : zs.length = 512 := List.length_replicate ..
/-- a write's cells: its sector, its bytes -/
def wc (x : Nat × List UInt8) : List Value := .int .i64 (x.1 : Int) :: bv x.2
abbrev wv (x : Nat × List UInt8) : Value := .agg (wc x).toArray
set_option maxRecDepth 8000 in
theorem wc_length (x : Nat × List UInt8) (h : x.2.length = 512) : (wc x).length = 513 := by simp [wc, bv, h]
set_option maxRecDepth 8000 in
theorem wc_one (x : Nat × List UInt8) : ∀ u ∈ wc x, u.oneCell' = true := by
  intro u hu
  simp only [wc, List.mem_cons] at hu
  rcases hu with rfl | hu
  · rfl
  · exact bv_one _ u hu
/-- a block that is known whole -/
def Blk (w : World) (g : Nat) (t : TypeId) (cs : Array Value) : Prop := w.heap[g]? = some (.cells cs t (0, 0))
section
variable {w w' : World} {g : Nat} {t : TypeId} {cs : Array Value}
theorem Blk.lt (h : Blk w g t cs) : g < w.heap.size := (Array.getElem?_eq_some_iff.1 h).1
theorem Blk.cell (h : Blk w g t cs) (i : Nat) : w.cell? ⟨g, i, none⟩ = cs[i]? := cell_of_row w g i cs t (0, 0) h
theorem Blk.frozen (h : Blk w g t cs) (i : Nat) : w.frozen? ⟨g, i, none⟩ = false := frozen_of_row w g i cs t h
theorem Blk.new (w : World) (t : TypeId) (cs : Array Value) : Blk (w.alloc (.cells cs t)) w.heap.size t cs := heap_alloc_new w _
theorem Blk.alloc (h : Blk w g t cs) (o : Obj) : Blk (w.alloc o) g t cs := (Below.heap_alloc w o g h.lt).trans h
theorem Blk.set_ (h : Blk w g t cs) (i : Nat) (u : Value) : Blk (w.setCell ⟨g, i, none⟩ u) g t (cs.setIfInBounds i u) := heap_setCell_same w g i cs t u h
theorem Blk.far (h : Blk w g t cs) {p : Addr} (hp : g ≠ p.block) (u : Value) : Blk (w.setCell p u) g t cs := (Below.heap_setCell w p u g hp).trans h
theorem Blk.below {B : Nat} (h : Blk w g t cs) (hb : Below B w w') (hg : g < B) : Blk w' g t cs := (hb.block g hg).trans h
theorem Blk.range (h : Blk w g t cs) (l : List Value) (o : Nat) (hl : ∀ j v, l[j]? = some v → cs[o + j]? = some v) : w.rangeAt g o l := fun j v hv => by
  rw [h.cell]
  exact hl j v hv
end
set_option maxRecDepth 8000 in
theorem zero47 : (Try.prog.info? 38).map (fun i => (i.zero, i.size)) = some (some (sec zs), 512) := by kernel_rfl
set_option maxRecDepth 8000 in
theorem zero84 : (Try.prog.info? 89).map (fun i => (i.zero, i.size)) = some (some (wv (0, zs)), 513) := by kernel_rfl
theorem z47 (w : World) : (zeroValue 38).run Try.prog w = .ok (sec zs) w := (zero_of_info zero47).1 w
theorem z84 (w : World) : (zeroValue 89).run Try.prog w = .ok (wv (0, zs)) w := (zero_of_info zero84).1 w
end Go.Proofs.Ytgjamgojjajcnaa

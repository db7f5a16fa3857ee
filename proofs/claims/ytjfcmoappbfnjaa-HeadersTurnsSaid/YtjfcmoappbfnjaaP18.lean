/- the document's answer for layer 2: Write, where it is refused or fails. -/
import Derived.Test.YtjfcmoappbfnjaaP17
import Derived.Test.YtjfcmoappbfnjaaP15
import Derived.Test.YtjfcmoappbfnjaaP08
import Derived.Test.YtjfcmoappbfnjaaP12
import Derived.Test.YtjfcmoappbfnjaaP16
import Derived.Test.YtjfcmoappbfnjaaP13
import Derived.Deep.Slices
import Derived.SizedLaws
namespace Go.Proofs.Ytjfcmoappbfnjaa
open Go.RowKit
attribute [local go_sem] Oper.semAt_some
section
variable {w w' : World} {r : Rp} {R : Rf} {z : Nat}
end
end Go.Proofs.Ytjfcmoappbfnjaa
namespace Go.Proofs.Ytjfcmoappbfnjaa
open Go.RowKit
/-- while the row is made: the blocks of the call, g its new disk's -/
structure Wg (w0 : World) (r : Rp) (s : Nat) (l : List UInt8) (g : Nat) (W : World) : Prop where
  h0 : Blk W w0.heap.size 33 #[.slice r.A1 r.n1 r.c1, .slice r.A2 r.n2 r.c2, .int .i64 (s : Int), .slice r.A3 r.n3 r.c3]
  h1 : Blk W (w0.heap.size + 1) 56 (bv l).toArray
  h6 : Blk W (w0.heap.size + 1 + 1) 33 #[.slice none 0 0, .slice none 0 0, .int .i64 0, .slice none 0 0]
  h8 : Blk W g 33 #[.slice r.A1 r.n1 r.c1, .slice r.A2 r.n2 r.c2, .int .i64 ((s : Int) + 1), .slice r.A3 r.n3 r.c3]
  be : Below w0.heap.size w0 W
  gt : w0.heap.size + 1 + 1 < g
  sz : g < W.heap.size
section
variable {w0 W W' : World} {r : Rp} {s : Nat} {l : List UInt8} {g : Nat}
set_option maxRecDepth 8000 in
theorem Wg.next (h : Wg w0 r s l g W) (hb : Below (g + 1) W W') : Wg w0 r s l g W' := by
  have h3 := h.gt
  exact ⟨h.h0.below hb (by omega), h.h1.below hb (by omega), h.h6.below hb (by omega), h.h8.below hb (by omega), h.be.trans (hb.mono (by omega)), h.gt, Nat.lt_of_lt_of_le h.sz hb.size⟩
theorem Wg.alloc (h : Wg w0 r s l g W) (o : Obj) : Wg w0 r s l g (W.alloc o) := h.next ((Below.refl _ W).alloc h.sz o)
theorem Wg.grown (h : Wg w0 r s l g W) {e : TypeId} {n : Nat} {v : Value} {xs : List Value} (ho : W.ownsRow (g + 1) e 513 v n xs) (hg : W.grownBy W' v.ownBlock) : Wg w0 r s l g W' :=
  h.next ((Below.refl _ W).grown hg h.sz fun k hk => (ho.lt k hk).1)
theorem RdW.far {w : World} {A : Option Addr} {ws : List (Nat × List UInt8)} (h : RdW w A ws) {p : Addr} (hp : ∀ b off, A = some ⟨b, off, none⟩ → b ≠ p.block) (v : Value) : RdW (w.setCell p v) A ws := fun i x hx => by
  obtain ⟨b, off, e, hc⟩ := h i x hx
  refine ⟨b, off, e, fun j u hu => ?_⟩
  have := hc j u hu
  have hb : (w.setCell p v).heap[b]? = w.heap[b]? := Below.heap_setCell w p v b (hp b off e)
  unfold World.cell? at this ⊢
  simp only [hb]
  exact this
theorem RdW.one {w : World} {b : Nat} {t : TypeId} {x : Nat × List UInt8} (h : Blk w b t (wc x).toArray) : RdW w (some ⟨b, 0, none⟩) [x] := fun i y hy => by
  match i with
  | 0 =>
    injection hy with hy
    subst hy
    exact ⟨b, 0, rfl, by simpa using h.rangeAt⟩
  | i + 1 => simp at hy
end
end Go.Proofs.Ytjfcmoappbfnjaa
namespace Go.Proofs.Ytjfcmoappbfnjaa
open Go.RowKit
attribute [local go_sem] Oper.semAt_some
end Go.Proofs.Ytjfcmoappbfnjaa
namespace Go.Proofs.Ytjfcmoappbfnjaa
open Go.RowKit Go.ChangeShapes Go.WideShapes Go.ChangeAt
/-- a call, as it is told by plain data -/
structure Ac where
  what : Int
  sector : Int
  at_ : Int
  byte : UInt8
  sA : Option Addr
  sc : Nat
  steps : List Int
  kA : Option Addr
  kc : Nat
  keep : List Bool
  torn : Int
  bytes : Int
abbrev Ac.cs (x : Ac) : List Value := [.int .i64 x.what, .int .i64 x.sector, .int .i64 x.at_, .int .u8 (x.byte.toNat : Int), .slice x.sA x.steps.length x.sc, .slice x.kA x.keep.length x.kc, .int .i64 x.torn, .int .i64 x.bytes]
abbrev Ac.val (x : Ac) : Value := .agg x.cs.toArray
/-- its lists lie there, and are of a size that there is -/
structure Ac.lies (w : World) (x : Ac) : Prop where
  steps : RdI w x.sA x.steps
  keep : RdB w x.kA x.keep
  s1 : x.steps.length ≤ 140737488351232
  k1 : x.keep.length ≤ 140737488351232
  wf : ∀ n ∈ x.steps, -9223372036854775808 ≤ n ∧ n ≤ 9223372036854775807
theorem Ac.lies.below {w w' : World} {x : Ac} (h : x.lies w) (hb : Below w.heap.size w w') : x.lies w' := { h with steps := h.steps.below hb, keep := h.keep.below hb }
/-- a list of calls lies there -/
def RdA (w : World) (A : Option Addr) (l : List Ac) : Prop := ∀ i x, l[i]? = some x → ∃ b off, A = some ⟨b, off, none⟩ ∧ ∀ j u, x.cs[j]? = some u → w.cell? ⟨b, off + i * 8 + j, none⟩ = some u
theorem RdA.below {w w' : World} {A : Option Addr} {l : List Ac} (h : RdA w A l) (hb : Below w.heap.size w w') : RdA w' A l := fun i x hx => by
  obtain ⟨b, off, e, hc⟩ := h i x hx
  exact ⟨b, off, e, fun j u hu => (hb.cell (p := ⟨b, off + i * 8 + j, none⟩) (cell_lt (hc j u hu))).trans (hc j u hu)⟩
section
variable {H : Type} {enc : TypeId × Value → H} {W : World} {base : Nat} {held : Bool} {fuel : Nat}
theorem spot_none {A : Addr} {v : Value} (h : W.cell? A = some v) : A.spot = none := World.cell?_spot h
set_option maxRecDepth 8000 in
theorem bools_lie {cs : List Value} {x : DataW H × List MemPlace} (h : DataW.trod enc Try.prog W base (fun _ => true) held fuel 60 cs = some x) :
    ∃ (A : Option Addr) (c : Nat) (l : List Bool), cs = [.slice A l.length c] ∧ l.length ≤ c ∧ RdB W A l ∧ ((∀ n ∈ x.1.weights Try.prog 60, n ≤ reachBytes) → l.length ≤ 140737488351232) := by
  have hu : Try.prog.underlying 60 = some (.slice 4) := Try.underlying60
  rcases Go.Deep.open_slice hu h with ⟨rfl, _⟩ | ⟨a, len, cap, m, n, D, Pl, rfl, _, hl, hm, hmm, hx, hi⟩
  · exact ⟨none, 0, [], rfl, Nat.le_refl _, fun j hj => absurd hj (by simp), fun _ => by simp⟩
  · rw [show Try.prog.cellsOf 4 = 1 by kernel_rfl] at hi
    have hmc : m = cap := by simpa using hmm
    have key : ∀ i, i < len → ∃ b : Bool, a.spot = none ∧ W.cell? ⟨a.block, a.off + i, none⟩ = some (.bool b) := by
      intro i hil
      obtain ⟨cs', hc, ht⟩ := hi i (by omega)
      obtain ⟨b, rfl, _⟩ := DataW.trod_bool Try.underlying4 ht
      have h0 := (World.cells?_some hc).2.2 0 (by decide)
      have hs : a.spot = none := by
        obtain ⟨cs0, hc0, ht0⟩ := hi 0 (by omega)
        obtain ⟨b0, rfl, _⟩ := DataW.trod_bool Try.underlying4 ht0
        have := spot_none ((World.cells?_some hc0).2.2 0 (by decide))
        simpa [Addr.add] using this
      obtain ⟨b', off, spot⟩ := a
      simp only at hs
      subst hs
      refine ⟨b, rfl, ?_⟩
      simpa [add_flat] using h0
    let f : Nat → Bool := fun i => if h : i < len then (key i h).choose else false
    have hf : ∀ i (h : i < len), a.spot = none ∧ W.cell? ⟨a.block, a.off + i, none⟩ = some (.bool (f i)) := fun i h => by
      have := (key i h).choose_spec
      simp only [f, h, dif_pos]
      exact this
    refine ⟨some a, cap, (List.range len).map f, by simp, by simpa using hl, fun j hj => ?_, fun hw => ?_⟩
    · simp at hj
      obtain ⟨hs, hc⟩ := hf j hj
      obtain ⟨b', off, spot⟩ := a
      simp only at hs
      subst hs
      exact ⟨b', off, rfl, by rw [hc]; simp⟩
    · have hw := hw (m * 1) (by
        rw [hx]
        have hb : Try.prog.bytesOf 4 = 1 := by kernel_rfl
        simp only [DataW.weights, hu, hb]
        exact List.mem_cons.2 (.inl (by simp only [List.length_map, List.length_range]; omega)))
      have : reachBytes = 140737488351232 := rfl
      simp
      omega
end
end Go.Proofs.Ytjfcmoappbfnjaa

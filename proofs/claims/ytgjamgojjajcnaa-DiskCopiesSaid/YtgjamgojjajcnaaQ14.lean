/- What the walk of a law is told of its arguments: words. -/
import Derived.Test.YtgjamgojjajcnaaQ01
import Derived.Test.YtgjamgojjajcnaaChecked
import Derived.Test.YtgjamgojjajcnaaRows
import Derived.ProofKit
import Derived.OpenShut
import Derived.ShutString
import Derived.ChangeOld
import Derived.Below
import Derived.Test.YtgjamgojjajcnaaQ08
import Derived.Test.YtgjamgojjajcnaaQ13
import Derived.Deep.Slices
import Derived.SizedLaws
namespace Go.Proofs.Ytgjamgojjajcnaa
open Go.ChangeShapes Go.WideShapes Go.ChangeAt Go.RowKit
set_option maxRecDepth 8000 in
theorem own : ownKnob Try.prog.godebug = none := by kernel_rfl
set_option maxRecDepth 8000 in
theorem laidOut : laidOutB Try.prog = true := by kernel_rfl
/-- What a slice of integers that came in is: nil, or a row of cap cells, each fitting its kind. -/
def IsRow (k : IntKind) (w : World) (a : Option Addr) (len cap : Nat) (zs : List Int) : Prop :=
  (a = none ∧ len = 0 ∧ cap = 0 ∧ zs = []) ∨
  ∃ x, a = some x ∧ len ≤ cap ∧ cap ≤ maxLen ∧ zs.length = cap ∧ (∀ i, i < zs.length → w.cell? (x.add i) = some (.int k (zs.getD i 0))) ∧ ∀ n ∈ zs, (Lit.int k n).wf = true
set_option maxRecDepth 8000 in
theorem wf_i64 {n : Int} (h : (Lit.int .i64 n).wf = true) : -9223372036854775808 ≤ n ∧ n ≤ 9223372036854775807 := by
  have h1 : IntKind.i64.min = -9223372036854775808 := rfl
  have h2 : IntKind.i64.max = 9223372036854775807 := rfl
  simp only [Lit.wf, Bool.and_eq_true, decide_eq_true_eq] at h
  omega
set_option maxRecDepth 8000 in
theorem wf_u8 {n : Int} (h : (Lit.int .u8 n).wf = true) : 0 ≤ n ∧ n ≤ 255 := by
  have h1 : IntKind.u8.min = 0 := rfl
  have h2 : IntKind.u8.max = 255 := rfl
  simp only [Lit.wf, Bool.and_eq_true, decide_eq_true_eq] at h
  omega
set_option maxRecDepth 8000 in
theorem wf_u32 {n : Int} (h : (Lit.int .u32 n).wf = true) : 0 ≤ n ∧ n ≤ 4294967295 := by
  have h1 : IntKind.u32.min = 0 := rfl
  have h2 : IntKind.u32.max = 4294967295 := rfl
  simp only [Lit.wf, Bool.and_eq_true, decide_eq_true_eq] at h
  omega
set_option maxRecDepth 8000 in
theorem row_bytes {w : World} {a : Option Addr} {len cap : Nat} {zs : List Int} (h : IsRow .u8 w a len cap zs) : ∃ l : List UInt8, l.length = len ∧ len ≤ cap ∧ Rd w a l := by
  rcases h with ⟨rfl, rfl, rfl, _⟩ | ⟨x, rfl, hl, hm, hz, hc, hw⟩
  · exact ⟨[], rfl, Nat.le_refl _, Rd.none_⟩
  · refine ⟨(zs.take len).map fun z => UInt8.ofNat z.toNat, by simp; omega, hl, ?_⟩
    intro j hj
    have hj' : j < zs.length := by simp at hj; omega
    have hcell := hc j hj'
    have hspot : x.spot = none := by
      have := World.cell?_spot (hc 0 (by omega))
      simpa [Addr.add] using this
    obtain ⟨b, off, spot⟩ := x
    simp only at hspot
    subst hspot
    refine ⟨b, off, rfl, ?_⟩
    rw [add_flat] at hcell
    rw [hcell, List.getD_eq_getElem?_getD, List.getElem?_eq_getElem hj']
    have hb := wf_u8 (hw _ (List.getElem_mem hj'))
    congr 2
    simp
    omega
end Go.Proofs.Ytgjamgojjajcnaa
namespace Go.Proofs.Ytgjamgojjajcnaa
open Go.RowKit Go.ChangeShapes Go.WideShapes Go.ChangeAt
/-- a call, as it is told by plain data -/
structure Ac where
  what : Int
  sector : Int
  at_ : Int
  byte : UInt8
  sA : Option Addr
  sc : Nat
  steps : List Int
  kA : Option Addr
  kc : Nat
  keep : List Bool
  torn : Int
  bytes : Int
abbrev Ac.cs (x : Ac) : List Value := [.int .i64 x.what, .int .i64 x.sector, .int .i64 x.at_, .int .u8 (x.byte.toNat : Int), .slice x.sA x.steps.length x.sc, .slice x.kA x.keep.length x.kc, .int .i64 x.torn, .int .i64 x.bytes]
abbrev Ac.val (x : Ac) : Value := .agg x.cs.toArray
/-- its lists lie there, and are of a size that there is -/
structure Ac.lies (w : World) (x : Ac) : Prop where
  steps : RdI w x.sA x.steps
  keep : RdB w x.kA x.keep
  s1 : x.steps.length ≤ 140737488351232
  k1 : x.keep.length ≤ 140737488351232
  wf : ∀ n ∈ x.steps, -9223372036854775808 ≤ n ∧ n ≤ 9223372036854775807
theorem Ac.lies.below {w w' : World} {x : Ac} (h : x.lies w) (hb : Below w.heap.size w w') : x.lies w' := { h with steps := h.steps.below hb, keep := h.keep.below hb }
/-- a list of calls lies there -/
def RdA (w : World) (A : Option Addr) (l : List Ac) : Prop := ∀ i x, l[i]? = some x → ∃ b off, A = some ⟨b, off, none⟩ ∧ ∀ j u, x.cs[j]? = some u → w.cell? ⟨b, off + i * 8 + j, none⟩ = some u
theorem RdA.below {w w' : World} {A : Option Addr} {l : List Ac} (h : RdA w A l) (hb : Below w.heap.size w w') : RdA w' A l := fun i x hx => by
  obtain ⟨b, off, e, hc⟩ := h i x hx
  exact ⟨b, off, e, fun j u hu => (hb.cell (p := ⟨b, off + i * 8 + j, none⟩) (cell_lt (hc j u hu))).trans (hc j u hu)⟩
section
variable {H : Type} {enc : TypeId × Value → H} {W : World} {base : Nat} {held : Bool} {fuel : Nat}
theorem spot_none {A : Addr} {v : Value} (h : W.cell? A = some v) : A.spot = none := World.cell?_spot h
set_option maxRecDepth 8000 in
theorem ints_lie {cs : List Value} {x : DataW H × List MemPlace} (h : DataW.trod enc Try.prog W base (fun _ => true) held fuel 23 cs = some x) :
    ∃ (A : Option Addr) (c : Nat) (l : List Int), cs = [.slice A l.length c] ∧ l.length ≤ c ∧ RdI W A l ∧ (∀ n ∈ l, -9223372036854775808 ≤ n ∧ n ≤ 9223372036854775807) ∧ ((∀ n ∈ x.1.weights Try.prog 23, n ≤ reachBytes) → l.length ≤ 140737488351232) := by
  rcases open_ints Try.underlying23 Try.underlying3 (by kernel_rfl) h with ⟨rfl, _⟩ | ⟨a, len, cap, zs, rfl, _, hl, hm, hz, hx, hcell, hwz⟩
  · exact ⟨none, 0, [], rfl, Nat.le_refl _, fun j hj => absurd hj (by simp), by simp, fun _ => by simp⟩
  · have hz' : zs.length = cap := by simpa using hz
    have htl : (zs.take len).length = len := by rw [List.length_take]; omega
    refine ⟨some a, cap, zs.take len, by rw [htl], by omega, fun j hj => ?_, fun n hn => wf_i64 (hwz n (List.mem_of_mem_take hn)), fun hw => ?_⟩
    · rw [htl] at hj
      have hs : a.spot = none := by
        have := spot_none (hcell 0 (by omega))
        simpa [Addr.add] using this
      obtain ⟨b, off, spot⟩ := a
      simp only at hs
      subst hs
      refine ⟨b, off, rfl, ?_⟩
      have := hcell j (by omega)
      rw [add_flat] at this
      rw [this, List.getElem_take, List.getD_eq_getElem?_getD, List.getElem?_eq_getElem (by omega)]
      rfl
    · have hw := hw ((zs.length) * 8) (by
        rw [hx]
        have hu : Try.prog.underlying 23 = some (.slice 3) := Try.underlying23
        have hb : Try.prog.bytesOf 3 = 8 := by kernel_rfl
        simp only [DataW.weights, hu, hb]
        exact List.mem_cons.2 (.inl (by simp only [lits, List.length_map, List.length_take, List.length_drop]; omega)))
      have : reachBytes = 140737488351232 := rfl
      omega
set_option maxRecDepth 8000 in
theorem bools_lie {cs : List Value} {x : DataW H × List MemPlace} (h : DataW.trod enc Try.prog W base (fun _ => true) held fuel 24 cs = some x) :
    ∃ (A : Option Addr) (c : Nat) (l : List Bool), cs = [.slice A l.length c] ∧ l.length ≤ c ∧ RdB W A l ∧ ((∀ n ∈ x.1.weights Try.prog 24, n ≤ reachBytes) → l.length ≤ 140737488351232) := by
  have hu : Try.prog.underlying 24 = some (.slice 4) := Try.underlying24
  rcases Go.Deep.open_slice hu h with ⟨rfl, _⟩ | ⟨a, len, cap, m, n, D, Pl, rfl, _, hl, hm, hmm, hx, hi⟩
  · exact ⟨none, 0, [], rfl, Nat.le_refl _, fun j hj => absurd hj (by simp), fun _ => by simp⟩
  · rw [show Try.prog.cellsOf 4 = 1 by kernel_rfl] at hi
    have hmc : m = cap := by simpa using hmm
    have key : ∀ i, i < len → ∃ b : Bool, a.spot = none ∧ W.cell? ⟨a.block, a.off + i, none⟩ = some (.bool b) := by
      intro i hil
      obtain ⟨cs', hc, ht⟩ := hi i (by omega)
      obtain ⟨b, rfl, _⟩ := DataW.trod_bool Try.underlying4 ht
      have h0 := (World.cells?_some hc).2.2 0 (by decide)
      have hs : a.spot = none := by
        obtain ⟨cs0, hc0, ht0⟩ := hi 0 (by omega)
        obtain ⟨b0, rfl, _⟩ := DataW.trod_bool Try.underlying4 ht0
        have := spot_none ((World.cells?_some hc0).2.2 0 (by decide))
        simpa [Addr.add] using this
      obtain ⟨b', off, spot⟩ := a
      simp only at hs
      subst hs
      refine ⟨b, rfl, ?_⟩
      simpa [add_flat] using h0
    let f : Nat → Bool := fun i => if h : i < len then (key i h).choose else false
    have hf : ∀ i (h : i < len), a.spot = none ∧ W.cell? ⟨a.block, a.off + i, none⟩ = some (.bool (f i)) := fun i h => by
      have := (key i h).choose_spec
      simp only [f, h, dif_pos]
      exact this
    refine ⟨some a, cap, (List.range len).map f, by simp, by simpa using hl, fun j hj => ?_, fun hw => ?_⟩
    · simp at hj
      obtain ⟨hs, hc⟩ := hf j hj
      obtain ⟨b', off, spot⟩ := a
      simp only at hs
      subst hs
      exact ⟨b', off, rfl, by rw [hc]; simp⟩
    · have hw := hw (m * 1) (by
        rw [hx]
        have hb : Try.prog.bytesOf 4 = 1 := by kernel_rfl
        simp only [DataW.weights, hu, hb]
        exact List.mem_cons.2 (.inl (by simp only [List.length_map, List.length_range]; omega)))
      have : reachBytes = 140737488351232 := rfl
      simp
      omega
set_option maxRecDepth 8000 in
theorem byte_of_u8 {n : Int} (h : (Lit.int .u8 n).wf = true) : ∃ b : UInt8, n = (b.toNat : Int) := by
  have hb := wf_u8 h
  exact ⟨UInt8.ofNat n.toNat, by simp; omega⟩
set_option maxRecDepth 100000 in
theorem act_cells {cs : List Value} {x : DataW H × List MemPlace} (h : DataW.trod enc Try.prog W base (fun _ => true) held fuel 28 cs = some x) :
    ∃ a : Ac, cs = a.cs ∧ ((∀ n ∈ x.1.weights Try.prog 28, n ≤ reachBytes) → a.lies W) := by
  obtain ⟨xs, n, _, hx, hl, hn, hel⟩ := DataW.trod_struct Try.underlying28 h
  rw [show Try.prog.cellsOf 28 = 8 by kernel_rfl] at hl
  match xs, hn with
  | [y0, y1, y2, y3, y4, y5], _ =>
    have h0 : DataW.trod enc Try.prog W base (fun _ => true) held n 3 ((cs.drop 0).take (Try.prog.cellsOf 3)) = some y0 := hel 0 _ rfl
    have h1 : DataW.trod enc Try.prog W base (fun _ => true) held n 3 ((cs.drop 1).take (Try.prog.cellsOf 3)) = some y1 := hel 1 _ rfl
    have h2 : DataW.trod enc Try.prog W base (fun _ => true) held n 3 ((cs.drop 2).take (Try.prog.cellsOf 3)) = some y2 := hel 2 _ rfl
    have h3 : DataW.trod enc Try.prog W base (fun _ => true) held n 5 ((cs.drop 3).take (Try.prog.cellsOf 5)) = some y3 := hel 3 _ rfl
    have h4 : DataW.trod enc Try.prog W base (fun _ => true) held n 23 ((cs.drop 4).take (Try.prog.cellsOf 23)) = some y4 := hel 4 _ rfl
    have h5 : DataW.trod enc Try.prog W base (fun _ => true) held n 26 ((cs.drop 5).take (Try.prog.cellsOf 26)) = some y5 := hel 5 _ rfl
    rw [show Try.prog.cellsOf 3 = 1 by kernel_rfl] at h0 h1 h2
    rw [show Try.prog.cellsOf 5 = 1 by kernel_rfl] at h3
    rw [show Try.prog.cellsOf 23 = 1 by kernel_rfl] at h4
    rw [show Try.prog.cellsOf 26 = 3 by kernel_rfl] at h5
    match cs, hl with
    | [c0, c1, c2, c3, c4, c5, c6, c7], _ =>
      simp only [List.drop_zero, List.take_succ_cons, List.take_zero, List.drop_succ_cons] at h0 h1 h2 h3 h4 h5
      obtain ⟨n0, e0, _, _⟩ := DataW.trod_int Try.underlying3 h0
      obtain ⟨n1, e1, _, _⟩ := DataW.trod_int Try.underlying3 h1
      obtain ⟨n2, e2, _, _⟩ := DataW.trod_int Try.underlying3 h2
      obtain ⟨n3, e3, _, w3⟩ := DataW.trod_int Try.underlying5 h3
      obtain ⟨b3, rfl⟩ := byte_of_u8 w3
      obtain ⟨A4, p4, l4, e4, _, r4, f4, g4⟩ := ints_lie h4
      obtain ⟨zs, m, _, hz, _, hzn, hzl⟩ := DataW.trod_struct Try.underlying26 h5
      match zs, hzn with
      | [z0, z1, z2], _ =>
        have k0 : DataW.trod enc Try.prog W base (fun _ => true) held m 24 (([c5, c6, c7].drop 0).take (Try.prog.cellsOf 24)) = some z0 := hzl 0 _ rfl
        have k1 : DataW.trod enc Try.prog W base (fun _ => true) held m 3 (([c5, c6, c7].drop 1).take (Try.prog.cellsOf 3)) = some z1 := hzl 1 _ rfl
        have k2 : DataW.trod enc Try.prog W base (fun _ => true) held m 3 (([c5, c6, c7].drop 2).take (Try.prog.cellsOf 3)) = some z2 := hzl 2 _ rfl
        rw [show Try.prog.cellsOf 3 = 1 by kernel_rfl] at k1 k2
        rw [show Try.prog.cellsOf 24 = 1 by kernel_rfl] at k0
        simp only [List.drop_zero, List.take_succ_cons, List.take_zero, List.drop_succ_cons] at k0 k1 k2
        obtain ⟨A5, p5, l5, e5, _, r5, g5⟩ := bools_lie k0
        obtain ⟨n6, e6, _, _⟩ := DataW.trod_int Try.underlying3 k1
        obtain ⟨n7, e7, _, _⟩ := DataW.trod_int Try.underlying3 k2
        simp only [List.cons.injEq, and_true] at e0 e1 e2 e3 e4 e5 e6 e7
        subst e0 e1 e2 e3 e4 e5 e6 e7
        refine ⟨⟨n0, n1, n2, b3, A4, p4, l4, A5, p5, l5, n6, n7⟩, rfl, fun hw => ⟨r4, r5, g4 fun q hq => hw q ?_, g5 fun q hq => hw q ?_, f4⟩⟩
        · rw [hx]
          have hu := Try.underlying28
          simp only [DataW.weights, hu]
          exact DataW.weights_mem_each (j := 4) rfl rfl q hq
        · rw [hx]
          have hu := Try.underlying28
          have hu2 := Try.underlying26
          simp only [DataW.weights, hu]
          refine DataW.weights_mem_each (j := 5) (t := 26) (d := y5.1) rfl rfl q ?_
          rw [hz]
          simp only [DataW.weights, hu2]
          exact DataW.weights_mem_each (j := 0) rfl rfl q hq
end
end Go.Proofs.Ytgjamgojjajcnaa
namespace Go.Proofs.Ytgjamgojjajcnaa
open Go.RowKit Go.ChangeShapes Go.WideShapes Go.ChangeAt
section
variable {H : Type} {enc : TypeId × Value → H} {W : World} {base : Nat} {held : Bool} {d : DataW H} {p : List MemPlace}
theorem weights_all {P : Program} {e : TypeId} : ∀ {ds : List (DataW H)} {d : DataW H}, d ∈ ds → ∀ n ∈ d.weights P e, n ∈ DataW.weightsAll P e ds
  | d0 :: ds, d, h, n, hn => by
    simp only [DataW.weightsAll, List.mem_append]
    rcases List.mem_cons.1 h with rfl | h
    · exact Or.inl hn
    · exact Or.inr (weights_all h n hn)
set_option maxRecDepth 8000 in
theorem open_bytes {r : Reach} {b0 : Nat} {v : Value} (hv : Value.okWide Try.prog W r b0 22 v) (h : DataW.Trod enc Try.prog W base (fun _ => true) held 22 v d p) :
    ∃ (A : Option Addr) (n c : Nat) (l : List UInt8), v = .slice A n c ∧ l.length = n ∧ n ≤ c ∧ Rd W A l := by
  obtain ⟨a0, len0, cap0, rfl⟩ := okWide_slice Try.underlying22 hv
  obtain ⟨fuel, hf⟩ := h
  rcases open_ints Try.underlying22 Try.underlying5 (by kernel_rfl) hf with ⟨hcs, _⟩ | ⟨x, l, c, zs, hcs, _, hl, hm, hz, _, hcell, hwz⟩
  · simp [Value.cells] at hcs
    obtain ⟨rfl, rfl, rfl⟩ := hcs
    obtain ⟨l, h1, h2, h3⟩ := row_bytes (.inl ⟨rfl, rfl, rfl, rfl⟩ : IsRow .u8 W none 0 0 [])
    exact ⟨none, 0, 0, l, rfl, h1, h2, h3⟩
  · simp [Value.cells] at hcs
    obtain ⟨rfl, rfl, rfl⟩ := hcs
    obtain ⟨l', h1, h2, h3⟩ := row_bytes (.inr ⟨_, rfl, hl, hm, by simpa using hz, hcell, hwz⟩)
    exact ⟨_, _, _, l', rfl, h1, h2, h3⟩
set_option maxRecDepth 8000 in
theorem open_crash {r : Reach} {b0 : Nat} {v : Value} (hv : Value.okWide Try.prog W r b0 26 v) (h : DataW.Trod enc Try.prog W base (fun _ => true) held 26 v d p) :
    ∃ (KA : Option Addr) (kc : Nat) (cr : Cr), v = .agg #[.slice KA cr.keep.length kc, .int .i64 cr.torn, .int .i64 cr.bytes] ∧ RdB W KA cr.keep := by
  obtain ⟨cs, rfl, _⟩ := okWide_struct Try.underlying26 hv
  obtain ⟨fu, hf⟩ := h
  obtain ⟨zs, m, _, _, hl, hzn, hzl⟩ := DataW.trod_struct Try.underlying26 hf
  rw [show Try.prog.cellsOf 26 = 3 by kernel_rfl] at hl
  obtain ⟨cs⟩ := cs
  simp only [Value.cells] at hl hzl
  match zs, hzn with
  | [z0, z1, z2], _ =>
    have k0 : DataW.trod enc Try.prog W base (fun _ => true) held m 24 ((cs.drop 0).take (Try.prog.cellsOf 24)) = some z0 := hzl 0 _ rfl
    have k1 : DataW.trod enc Try.prog W base (fun _ => true) held m 3 ((cs.drop 1).take (Try.prog.cellsOf 3)) = some z1 := hzl 1 _ rfl
    have k2 : DataW.trod enc Try.prog W base (fun _ => true) held m 3 ((cs.drop 2).take (Try.prog.cellsOf 3)) = some z2 := hzl 2 _ rfl
    rw [show Try.prog.cellsOf 3 = 1 by kernel_rfl] at k1 k2
    rw [show Try.prog.cellsOf 24 = 1 by kernel_rfl] at k0
    match cs, hl with
    | [c5, c6, c7], _ =>
      simp only [List.drop_zero, List.take_succ_cons, List.take_zero, List.drop_succ_cons] at k0 k1 k2
      obtain ⟨A5, p5, l5, e5, _, r5, _⟩ := bools_lie k0
      obtain ⟨n6, e6, _, _⟩ := DataW.trod_int Try.underlying3 k1
      obtain ⟨n7, e7, _, _⟩ := DataW.trod_int Try.underlying3 k2
      simp only [List.cons.injEq, and_true] at e5 e6 e7
      subst e5 e6 e7
      exact ⟨A5, p5, ⟨l5, n6, n7⟩, rfl, r5⟩
set_option maxRecDepth 8000 in
theorem open_act {r : Reach} {b0 : Nat} {v : Value} (hv : Value.okWide Try.prog W r b0 28 v) (h : DataW.Trod enc Try.prog W base (fun _ => true) held 28 v d p)
    (hw : ∀ n ∈ d.weights Try.prog 28, n ≤ reachBytes) : ∃ x : Ac, v = x.val ∧ x.lies W := by
  obtain ⟨cs, rfl, _⟩ := okWide_struct Try.underlying28 hv
  obtain ⟨f, hf⟩ := h
  obtain ⟨a, ha, hl⟩ := act_cells hf
  obtain ⟨l⟩ := cs
  simp only [Value.cells] at ha
  subst ha
  exact ⟨a, rfl, hl hw⟩
def ac0 : Ac := ⟨0, 0, 0, 0, none, 0, [], none, 0, [], 0, 0⟩
set_option maxRecDepth 8000 in
theorem open_acts {r : Reach} {b0 : Nat} {v : Value} (hv : Value.okWide Try.prog W r b0 47 v) (h : DataW.Trod enc Try.prog W base (fun _ => true) held 47 v d p)
    (hw : ∀ n ∈ d.weights Try.prog 47, n ≤ reachBytes) :
    ∃ (A : Option Addr) (l : List Ac) (c : Nat), v = .slice A l.length c ∧ RdA W A l ∧ (∀ x ∈ l, x.lies W) ∧ l.length ≤ 140737488351232 := by
  have hu : Try.prog.underlying 47 = some (.slice 28) := Try.underlying47
  obtain ⟨A, len, cap, rfl⟩ := okWide_slice Try.underlying47 hv
  obtain ⟨fuel, hf⟩ := h
  rcases Go.Deep.open_slice hu hf with ⟨hcs, _⟩ | ⟨a, len', cap', m, n, D, Pl, hcs, hb, hl, hm, hmm, hx, hi⟩
  · simp only [Value.cells, List.cons.injEq, Value.slice.injEq, and_true] at hcs
    obtain ⟨rfl, rfl, rfl⟩ := hcs
    exact ⟨none, [], 0, rfl, fun i x hx => by simp at hx, by simp, by simp⟩
  · simp only [Value.cells, List.cons.injEq, Value.slice.injEq, and_true] at hcs
    obtain ⟨rfl, rfl, rfl⟩ := hcs
    rw [show Try.prog.cellsOf 28 = 8 by kernel_rfl] at hi
    have hmc : m = cap := by simpa using hmm
    have hd : d = .slice ((List.range len).map D) ((List.range (m - len)).map fun j => D (len + j)) := congrArg Prod.fst hx
    have hel : ∀ i, i < len → ∀ q ∈ (D i).weights Try.prog 28, q ≤ reachBytes := fun i hi q hq => hw q (by
      rw [hd]
      simp only [DataW.weights, hu]
      exact List.mem_cons.2 (.inr (List.mem_append.2 (.inl (weights_all (List.mem_map.2 ⟨i, List.mem_range.2 hi, rfl⟩) q hq)))))
    have key : ∀ i, i < len → ∃ x : Ac, a.spot = none ∧ (∀ j u, x.cs[j]? = some u → W.cell? ⟨a.block, a.off + i * 8 + j, none⟩ = some u) ∧ x.lies W := by
      intro i hil
      obtain ⟨cs', hc, ht⟩ := hi i (by omega)
      obtain ⟨x, rfl, hlx⟩ := act_cells ht
      obtain ⟨_, _, hat⟩ := World.cells?_some hc
      have hs' : a.spot = none := by
        obtain ⟨cs0, hc0, ht0⟩ := hi 0 (by omega)
        have h0 := (World.cells?_some hc0).2.2 0 (by decide)
        obtain ⟨x', rfl, _⟩ := act_cells ht0
        have := World.cell?_spot (h0.trans (show (Ac.cs x')[0]? = some _ from rfl))
        simpa [Addr.add] using this
      obtain ⟨b', off, spot⟩ := a
      simp only at hs'
      subst hs'
      refine ⟨x, rfl, fun j v hv => ?_, hlx (hel i hil)⟩
      have hj : j < 8 := (List.getElem?_eq_some_iff.1 hv).1
      have := hat j hj
      rw [add_flat, add_flat] at this
      rw [this, hv]
    have ex : ∃ l : List Ac, l.length = len ∧ ∀ i (h : i < l.length), a.spot = none ∧ (∀ j u, (l[i]).cs[j]? = some u → W.cell? ⟨a.block, a.off + i * 8 + j, none⟩ = some u) ∧ (l[i]).lies W := by
      refine ⟨(List.range len).map fun i => if h : i < len then (key i h).choose else ac0, by simp, fun i h => ?_⟩
      have hil : i < len := by simpa using h
      simp only [List.getElem_map, List.getElem_range, hil, dif_pos]
      exact (key i hil).choose_spec
    obtain ⟨l, rfl, hl2⟩ := ex
    refine ⟨some a, l, cap, rfl, fun i x hx => ?_, fun x hx => ?_, ?_⟩
    · obtain ⟨hi', rfl⟩ := List.getElem?_eq_some_iff.1 hx
      obtain ⟨hs, hk, _⟩ := hl2 i hi'
      obtain ⟨b, o, s⟩ := a
      simp only at hs
      subst hs
      exact ⟨b, o, rfl, hk⟩
    · obtain ⟨i, hi', rfl⟩ := List.mem_iff_getElem.1 hx
      exact (hl2 i hi').2.2
    · have hq := hw (m * Try.prog.bytesOf 28) (by
        rw [hd]
        simp only [DataW.weights, hu]
        exact List.mem_cons.2 (.inl (by simp only [List.length_map, List.length_range]; congr 1; omega)))
      have hb1 : 1 ≤ Try.prog.bytesOf 28 := by
        rw [show Try.prog.bytesOf 28 = 96 by kernel_rfl]
        omega
      have h2 : m * 1 ≤ m * Try.prog.bytesOf 28 := Nat.mul_le_mul_left _ hb1
      have : reachBytes = 140737488351232 := rfl
      omega
end
end Go.Proofs.Ytgjamgojjajcnaa

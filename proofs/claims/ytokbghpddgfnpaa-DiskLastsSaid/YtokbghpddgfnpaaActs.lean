/- law 2: calls and crashes that come in as arguments: what they are, and where they lie. -/
import Derived.Test.YtokbghpddgfnpaaCrash
import Derived.Test.YtokbghpddgfnpaaBegunN
import Derived.Test.YtokbghpddgfnpaaFrame
import Derived.Deep.Slices
import Derived.SizedLaws
namespace Go.Proofs.Ytokbghpddgfnpaa
open Go.RowKit Go.ChangeShapes Go.WideShapes Go.ChangeAt
/-- a call, as it is told by plain data -/
structure Ac where
  what : Int
  sector : Int
  at_ : Int
  byte : UInt8
  sA : Option Addr
  sc : Nat
  steps : List Int
  kA : Option Addr
  kc : Nat
  keep : List Bool
  torn : Int
  bytes : Int
abbrev Ac.cs (x : Ac) : List Value := [.int .i64 x.what, .int .i64 x.sector, .int .i64 x.at_, .int .u8 (x.byte.toNat : Int), .slice x.sA x.steps.length x.sc, .slice x.kA x.keep.length x.kc, .int .i64 x.torn, .int .i64 x.bytes]
abbrev Ac.val (x : Ac) : Value := .agg x.cs.toArray
/-- its lists lie there, and are of a size that there is -/
structure Ac.lies (w : World) (x : Ac) : Prop where
  steps : RdI w x.sA x.steps
  keep : RdB w x.kA x.keep
  s1 : x.steps.length ≤ 140737488351232
  k1 : x.keep.length ≤ 140737488351232
  wf : ∀ n ∈ x.steps, -9223372036854775808 ≤ n ∧ n ≤ 9223372036854775807
theorem Ac.lies.below {w w' : World} {x : Ac} (h : x.lies w) (hb : Below w.heap.size w w') : x.lies w' := { h with steps := h.steps.below hb, keep := h.keep.below hb }
/-- a list of calls lies there -/
def RdA (w : World) (A : Option Addr) (l : List Ac) : Prop := ∀ i x, l[i]? = some x → ∃ b off, A = some ⟨b, off, none⟩ ∧ ∀ j u, x.cs[j]? = some u → w.cell? ⟨b, off + i * 8 + j, none⟩ = some u
theorem RdA.below {w w' : World} {A : Option Addr} {l : List Ac} (h : RdA w A l) (hb : Below w.heap.size w w') : RdA w' A l := fun i x hx => by
  obtain ⟨b, off, e, hc⟩ := h i x hx
  exact ⟨b, off, e, fun j u hu => (hb.cell (p := ⟨b, off + i * 8 + j, none⟩) (cell_lt (hc j u hu))).trans (hc j u hu)⟩
section
variable {H : Type} {enc : TypeId × Value → H} {W : World} {base : Nat} {held : Bool} {fuel : Nat}
theorem spot_none {A : Addr} {v : Value} (h : W.cell? A = some v) : A.spot = none := World.cell?_spot h
set_option maxRecDepth 8000 in
theorem ints_lie {cs : List Value} {x : DataW H × List MemPlace} (h : DataW.trod enc Try.prog W base (fun _ => true) held fuel 23 cs = some x) :
    ∃ (A : Option Addr) (c : Nat) (l : List Int), cs = [.slice A l.length c] ∧ l.length ≤ c ∧ RdI W A l ∧ (∀ n ∈ l, -9223372036854775808 ≤ n ∧ n ≤ 9223372036854775807) ∧ ((∀ n ∈ x.1.weights Try.prog 23, n ≤ reachBytes) → l.length ≤ 140737488351232) := by
  rcases open_ints Try.underlying23 Try.underlying3 (by kernel_rfl) h with ⟨rfl, _⟩ | ⟨a, len, cap, zs, rfl, _, hl, hm, hz, hx, hcell, hwz⟩
  · exact ⟨none, 0, [], rfl, Nat.le_refl _, fun j hj => absurd hj (by simp), by simp, fun _ => by simp⟩
  · have hz' : zs.length = cap := by simpa using hz
    have htl : (zs.take len).length = len := by rw [List.length_take]; omega
    refine ⟨some a, cap, zs.take len, by rw [htl], by omega, fun j hj => ?_, fun n hn => wf_i64 (hwz n (List.mem_of_mem_take hn)), fun hw => ?_⟩
    · rw [htl] at hj
      have hs : a.spot = none := by
        have := spot_none (hcell 0 (by omega))
        simpa [Addr.add] using this
      obtain ⟨b, off, spot⟩ := a
      simp only at hs
      subst hs
      refine ⟨b, off, rfl, ?_⟩
      have := hcell j (by omega)
      rw [add_flat] at this
      rw [this, List.getElem_take, List.getD_eq_getElem?_getD, List.getElem?_eq_getElem (by omega)]
      rfl
    · have hw := hw ((zs.length) * 8) (by
        rw [hx]
        have hu : Try.prog.underlying 23 = some (.slice 3) := Try.underlying23
        have hb : Try.prog.bytesOf 3 = 8 := by kernel_rfl
        simp only [DataW.weights, hu, hb]
        exact List.mem_cons.2 (.inl (by simp only [lits, List.length_map, List.length_take, List.length_drop]; omega)))
      have : reachBytes = 140737488351232 := rfl
      omega
set_option maxRecDepth 8000 in
theorem bools_lie {cs : List Value} {x : DataW H × List MemPlace} (h : DataW.trod enc Try.prog W base (fun _ => true) held fuel 24 cs = some x) :
    ∃ (A : Option Addr) (c : Nat) (l : List Bool), cs = [.slice A l.length c] ∧ l.length ≤ c ∧ RdB W A l ∧ ((∀ n ∈ x.1.weights Try.prog 24, n ≤ reachBytes) → l.length ≤ 140737488351232) := by
  have hu : Try.prog.underlying 24 = some (.slice 4) := Try.underlying24
  rcases Go.Deep.open_slice hu h with ⟨rfl, _⟩ | ⟨a, len, cap, m, n, D, Pl, rfl, _, hl, hm, hmm, hx, hi⟩
  · exact ⟨none, 0, [], rfl, Nat.le_refl _, fun j hj => absurd hj (by simp), fun _ => by simp⟩
  · rw [show Try.prog.cellsOf 4 = 1 by kernel_rfl] at hi
    have hmc : m = cap := by simpa using hmm
    have key : ∀ i, i < len → ∃ b : Bool, a.spot = none ∧ W.cell? ⟨a.block, a.off + i, none⟩ = some (.bool b) := by
      intro i hil
      obtain ⟨cs', hc, ht⟩ := hi i (by omega)
      obtain ⟨b, rfl, _⟩ := DataW.trod_bool Try.underlying4 ht
      have h0 := (World.cells?_some hc).2.2 0 (by decide)
      have hs : a.spot = none := by
        obtain ⟨cs0, hc0, ht0⟩ := hi 0 (by omega)
        obtain ⟨b0, rfl, _⟩ := DataW.trod_bool Try.underlying4 ht0
        have := spot_none ((World.cells?_some hc0).2.2 0 (by decide))
        simpa [Addr.add] using this
      obtain ⟨b', off, spot⟩ := a
      simp only at hs
      subst hs
      refine ⟨b, rfl, ?_⟩
      simpa [add_flat] using h0
    let f : Nat → Bool := fun i => if h : i < len then (key i h).choose else false
    have hf : ∀ i (h : i < len), a.spot = none ∧ W.cell? ⟨a.block, a.off + i, none⟩ = some (.bool (f i)) := fun i h => by
      have := (key i h).choose_spec
      simp only [f, h, dif_pos]
      exact this
    refine ⟨some a, cap, (List.range len).map f, by simp, by simpa using hl, fun j hj => ?_, fun hw => ?_⟩
    · simp at hj
      obtain ⟨hs, hc⟩ := hf j hj
      obtain ⟨b', off, spot⟩ := a
      simp only at hs
      subst hs
      exact ⟨b', off, rfl, by rw [hc]; simp⟩
    · have hw := hw (m * 1) (by
        rw [hx]
        have hb : Try.prog.bytesOf 4 = 1 := by kernel_rfl
        simp only [DataW.weights, hu, hb]
        exact List.mem_cons.2 (.inl (by simp only [List.length_map, List.length_range]; omega)))
      have : reachBytes = 140737488351232 := rfl
      simp
      omega
set_option maxRecDepth 8000 in
theorem byte_of_u8 {n : Int} (h : (Lit.int .u8 n).wf = true) : ∃ b : UInt8, n = (b.toNat : Int) := by
  have hb := wf_u8 h
  exact ⟨UInt8.ofNat n.toNat, by simp; omega⟩
set_option maxRecDepth 100000 in
theorem act_cells {cs : List Value} {x : DataW H × List MemPlace} (h : DataW.trod enc Try.prog W base (fun _ => true) held fuel 28 cs = some x) :
    ∃ a : Ac, cs = a.cs ∧ ((∀ n ∈ x.1.weights Try.prog 28, n ≤ reachBytes) → a.lies W) := by
  obtain ⟨xs, n, _, hx, hl, hn, hel⟩ := DataW.trod_struct Try.underlying28 h
  rw [show Try.prog.cellsOf 28 = 8 by kernel_rfl] at hl
  match xs, hn with
  | [y0, y1, y2, y3, y4, y5], _ =>
    have h0 : DataW.trod enc Try.prog W base (fun _ => true) held n 3 ((cs.drop 0).take (Try.prog.cellsOf 3)) = some y0 := hel 0 _ rfl
    have h1 : DataW.trod enc Try.prog W base (fun _ => true) held n 3 ((cs.drop 1).take (Try.prog.cellsOf 3)) = some y1 := hel 1 _ rfl
    have h2 : DataW.trod enc Try.prog W base (fun _ => true) held n 3 ((cs.drop 2).take (Try.prog.cellsOf 3)) = some y2 := hel 2 _ rfl
    have h3 : DataW.trod enc Try.prog W base (fun _ => true) held n 5 ((cs.drop 3).take (Try.prog.cellsOf 5)) = some y3 := hel 3 _ rfl
    have h4 : DataW.trod enc Try.prog W base (fun _ => true) held n 23 ((cs.drop 4).take (Try.prog.cellsOf 23)) = some y4 := hel 4 _ rfl
    have h5 : DataW.trod enc Try.prog W base (fun _ => true) held n 26 ((cs.drop 5).take (Try.prog.cellsOf 26)) = some y5 := hel 5 _ rfl
    rw [show Try.prog.cellsOf 3 = 1 by kernel_rfl] at h0 h1 h2
    rw [show Try.prog.cellsOf 5 = 1 by kernel_rfl] at h3
    rw [show Try.prog.cellsOf 23 = 1 by kernel_rfl] at h4
    rw [show Try.prog.cellsOf 26 = 3 by kernel_rfl] at h5
    match cs, hl with
    | [c0, c1, c2, c3, c4, c5, c6, c7], _ =>
      simp only [List.drop_zero, List.take_succ_cons, List.take_zero, List.drop_succ_cons] at h0 h1 h2 h3 h4 h5
      obtain ⟨n0, e0, _, _⟩ := DataW.trod_int Try.underlying3 h0
      obtain ⟨n1, e1, _, _⟩ := DataW.trod_int Try.underlying3 h1
      obtain ⟨n2, e2, _, _⟩ := DataW.trod_int Try.underlying3 h2
      obtain ⟨n3, e3, _, w3⟩ := DataW.trod_int Try.underlying5 h3
      obtain ⟨b3, rfl⟩ := byte_of_u8 w3
      obtain ⟨A4, p4, l4, e4, _, r4, f4, g4⟩ := ints_lie h4
      obtain ⟨zs, m, _, hz, _, hzn, hzl⟩ := DataW.trod_struct Try.underlying26 h5
      match zs, hzn with
      | [z0, z1, z2], _ =>
        have k0 : DataW.trod enc Try.prog W base (fun _ => true) held m 24 (([c5, c6, c7].drop 0).take (Try.prog.cellsOf 24)) = some z0 := hzl 0 _ rfl
        have k1 : DataW.trod enc Try.prog W base (fun _ => true) held m 3 (([c5, c6, c7].drop 1).take (Try.prog.cellsOf 3)) = some z1 := hzl 1 _ rfl
        have k2 : DataW.trod enc Try.prog W base (fun _ => true) held m 3 (([c5, c6, c7].drop 2).take (Try.prog.cellsOf 3)) = some z2 := hzl 2 _ rfl
        rw [show Try.prog.cellsOf 3 = 1 by kernel_rfl] at k1 k2
        rw [show Try.prog.cellsOf 24 = 1 by kernel_rfl] at k0
        simp only [List.drop_zero, List.take_succ_cons, List.take_zero, List.drop_succ_cons] at k0 k1 k2
        obtain ⟨A5, p5, l5, e5, _, r5, g5⟩ := bools_lie k0
        obtain ⟨n6, e6, _, _⟩ := DataW.trod_int Try.underlying3 k1
        obtain ⟨n7, e7, _, _⟩ := DataW.trod_int Try.underlying3 k2
        simp only [List.cons.injEq, and_true] at e0 e1 e2 e3 e4 e5 e6 e7
        subst e0 e1 e2 e3 e4 e5 e6 e7
        refine ⟨⟨n0, n1, n2, b3, A4, p4, l4, A5, p5, l5, n6, n7⟩, rfl, fun hw => ⟨r4, r5, g4 fun q hq => hw q ?_, g5 fun q hq => hw q ?_, f4⟩⟩
        · rw [hx]
          have hu := Try.underlying28
          simp only [DataW.weights, hu]
          exact DataW.weights_mem_each (j := 4) rfl rfl q hq
        · rw [hx]
          have hu := Try.underlying28
          have hu2 := Try.underlying26
          simp only [DataW.weights, hu]
          refine DataW.weights_mem_each (j := 5) (t := 26) (d := y5.1) rfl rfl q ?_
          rw [hz]
          simp only [DataW.weights, hu2]
          exact DataW.weights_mem_each (j := 0) rfl rfl q hq
end
end Go.Proofs.Ytokbghpddgfnpaa

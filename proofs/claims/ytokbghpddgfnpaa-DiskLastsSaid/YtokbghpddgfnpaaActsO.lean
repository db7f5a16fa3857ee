/- law 2: bytes, calls and crashes that come in: openings. -/
import Derived.Test.YtokbghpddgfnpaaActs
namespace Go.Proofs.Ytokbghpddgfnpaa
open Go.RowKit Go.ChangeShapes Go.WideShapes Go.ChangeAt
section
variable {H : Type} {enc : TypeId × Value → H} {W : World} {base : Nat} {held : Bool} {d : DataW H} {p : List MemPlace}
theorem weights_all {P : Program} {e : TypeId} : ∀ {ds : List (DataW H)} {d : DataW H}, d ∈ ds → ∀ n ∈ d.weights P e, n ∈ DataW.weightsAll P e ds
  | d0 :: ds, d, h, n, hn => by
    simp only [DataW.weightsAll, List.mem_append]
    rcases List.mem_cons.1 h with rfl | h
    · exact Or.inl hn
    · exact Or.inr (weights_all h n hn)
set_option maxRecDepth 8000 in
theorem open_bytes {r : Reach} {b0 : Nat} {v : Value} (hv : Value.okWide Try.prog W r b0 22 v) (h : DataW.Trod enc Try.prog W base (fun _ => true) held 22 v d p) :
    ∃ (A : Option Addr) (n c : Nat) (l : List UInt8), v = .slice A n c ∧ l.length = n ∧ n ≤ c ∧ Rd W A l := by
  obtain ⟨a0, len0, cap0, rfl⟩ := okWide_slice Try.underlying22 hv
  obtain ⟨fuel, hf⟩ := h
  rcases open_ints Try.underlying22 Try.underlying5 (by kernel_rfl) hf with ⟨hcs, _⟩ | ⟨x, l, c, zs, hcs, _, hl, hm, hz, _, hcell, hwz⟩
  · simp [Value.cells] at hcs
    obtain ⟨rfl, rfl, rfl⟩ := hcs
    obtain ⟨l, h1, h2, h3⟩ := row_bytes (.inl ⟨rfl, rfl, rfl, rfl⟩ : IsRow .u8 W none 0 0 [])
    exact ⟨none, 0, 0, l, rfl, h1, h2, h3⟩
  · simp [Value.cells] at hcs
    obtain ⟨rfl, rfl, rfl⟩ := hcs
    obtain ⟨l', h1, h2, h3⟩ := row_bytes (.inr ⟨_, rfl, hl, hm, by simpa using hz, hcell, hwz⟩)
    exact ⟨_, _, _, l', rfl, h1, h2, h3⟩
set_option maxRecDepth 8000 in
theorem open_crash {r : Reach} {b0 : Nat} {v : Value} (hv : Value.okWide Try.prog W r b0 26 v) (h : DataW.Trod enc Try.prog W base (fun _ => true) held 26 v d p) :
    ∃ (KA : Option Addr) (kc : Nat) (cr : Cr), v = .agg #[.slice KA cr.keep.length kc, .int .i64 cr.torn, .int .i64 cr.bytes] ∧ RdB W KA cr.keep := by
  obtain ⟨cs, rfl, _⟩ := okWide_struct Try.underlying26 hv
  obtain ⟨fu, hf⟩ := h
  obtain ⟨zs, m, _, _, hl, hzn, hzl⟩ := DataW.trod_struct Try.underlying26 hf
  rw [show Try.prog.cellsOf 26 = 3 by kernel_rfl] at hl
  obtain ⟨cs⟩ := cs
  simp only [Value.cells] at hl hzl
  match zs, hzn with
  | [z0, z1, z2], _ =>
    have k0 : DataW.trod enc Try.prog W base (fun _ => true) held m 24 ((cs.drop 0).take (Try.prog.cellsOf 24)) = some z0 := hzl 0 _ rfl
    have k1 : DataW.trod enc Try.prog W base (fun _ => true) held m 3 ((cs.drop 1).take (Try.prog.cellsOf 3)) = some z1 := hzl 1 _ rfl
    have k2 : DataW.trod enc Try.prog W base (fun _ => true) held m 3 ((cs.drop 2).take (Try.prog.cellsOf 3)) = some z2 := hzl 2 _ rfl
    rw [show Try.prog.cellsOf 3 = 1 by kernel_rfl] at k1 k2
    rw [show Try.prog.cellsOf 24 = 1 by kernel_rfl] at k0
    match cs, hl with
    | [c5, c6, c7], _ =>
      simp only [List.drop_zero, List.take_succ_cons, List.take_zero, List.drop_succ_cons] at k0 k1 k2
      obtain ⟨A5, p5, l5, e5, _, r5, _⟩ := bools_lie k0
      obtain ⟨n6, e6, _, _⟩ := DataW.trod_int Try.underlying3 k1
      obtain ⟨n7, e7, _, _⟩ := DataW.trod_int Try.underlying3 k2
      simp only [List.cons.injEq, and_true] at e5 e6 e7
      subst e5 e6 e7
      exact ⟨A5, p5, ⟨l5, n6, n7⟩, rfl, r5⟩
set_option maxRecDepth 8000 in
theorem open_act {r : Reach} {b0 : Nat} {v : Value} (hv : Value.okWide Try.prog W r b0 28 v) (h : DataW.Trod enc Try.prog W base (fun _ => true) held 28 v d p)
    (hw : ∀ n ∈ d.weights Try.prog 28, n ≤ reachBytes) : ∃ x : Ac, v = x.val ∧ x.lies W := by
  obtain ⟨cs, rfl, _⟩ := okWide_struct Try.underlying28 hv
  obtain ⟨f, hf⟩ := h
  obtain ⟨a, ha, hl⟩ := act_cells hf
  obtain ⟨l⟩ := cs
  simp only [Value.cells] at ha
  subst ha
  exact ⟨a, rfl, hl hw⟩
def ac0 : Ac := ⟨0, 0, 0, 0, none, 0, [], none, 0, [], 0, 0⟩
set_option maxRecDepth 8000 in
theorem open_acts {r : Reach} {b0 : Nat} {v : Value} (hv : Value.okWide Try.prog W r b0 47 v) (h : DataW.Trod enc Try.prog W base (fun _ => true) held 47 v d p)
    (hw : ∀ n ∈ d.weights Try.prog 47, n ≤ reachBytes) :
    ∃ (A : Option Addr) (l : List Ac) (c : Nat), v = .slice A l.length c ∧ RdA W A l ∧ (∀ x ∈ l, x.lies W) ∧ l.length ≤ 140737488351232 := by
  have hu : Try.prog.underlying 47 = some (.slice 28) := Try.underlying47
  obtain ⟨A, len, cap, rfl⟩ := okWide_slice Try.underlying47 hv
  obtain ⟨fuel, hf⟩ := h
  rcases Go.Deep.open_slice hu hf with ⟨hcs, _⟩ | ⟨a, len', cap', m, n, D, Pl, hcs, hb, hl, hm, hmm, hx, hi⟩
  · simp only [Value.cells, List.cons.injEq, Value.slice.injEq, and_true] at hcs
    obtain ⟨rfl, rfl, rfl⟩ := hcs
    exact ⟨none, [], 0, rfl, fun i x hx => by simp at hx, by simp, by simp⟩
  · simp only [Value.cells, List.cons.injEq, Value.slice.injEq, and_true] at hcs
    obtain ⟨rfl, rfl, rfl⟩ := hcs
    rw [show Try.prog.cellsOf 28 = 8 by kernel_rfl] at hi
    have hmc : m = cap := by simpa using hmm
    have hd : d = .slice ((List.range len).map D) ((List.range (m - len)).map fun j => D (len + j)) := congrArg Prod.fst hx
    have hel : ∀ i, i < len → ∀ q ∈ (D i).weights Try.prog 28, q ≤ reachBytes := fun i hi q hq => hw q (by
      rw [hd]
      simp only [DataW.weights, hu]
      exact List.mem_cons.2 (.inr (List.mem_append.2 (.inl (weights_all (List.mem_map.2 ⟨i, List.mem_range.2 hi, rfl⟩) q hq)))))
    have key : ∀ i, i < len → ∃ x : Ac, a.spot = none ∧ (∀ j u, x.cs[j]? = some u → W.cell? ⟨a.block, a.off + i * 8 + j, none⟩ = some u) ∧ x.lies W := by
      intro i hil
      obtain ⟨cs', hc, ht⟩ := hi i (by omega)
      obtain ⟨x, rfl, hlx⟩ := act_cells ht
      obtain ⟨_, _, hat⟩ := World.cells?_some hc
      have hs' : a.spot = none := by
        obtain ⟨cs0, hc0, ht0⟩ := hi 0 (by omega)
        have h0 := (World.cells?_some hc0).2.2 0 (by decide)
        obtain ⟨x', rfl, _⟩ := act_cells ht0
        have := World.cell?_spot (h0.trans (show (Ac.cs x')[0]? = some _ from rfl))
        simpa [Addr.add] using this
      obtain ⟨b', off, spot⟩ := a
      simp only at hs'
      subst hs'
      refine ⟨x, rfl, fun j v hv => ?_, hlx (hel i hil)⟩
      have hj : j < 8 := (List.getElem?_eq_some_iff.1 hv).1
      have := hat j hj
      rw [add_flat, add_flat] at this
      rw [this, hv]
    have ex : ∃ l : List Ac, l.length = len ∧ ∀ i (h : i < l.length), a.spot = none ∧ (∀ j u, (l[i]).cs[j]? = some u → W.cell? ⟨a.block, a.off + i * 8 + j, none⟩ = some u) ∧ (l[i]).lies W := by
      refine ⟨(List.range len).map fun i => if h : i < len then (key i h).choose else ac0, by simp, fun i h => ?_⟩
      have hil : i < len := by simpa using h
      simp only [List.getElem_map, List.getElem_range, hil, dif_pos]
      exact (key i hil).choose_spec
    obtain ⟨l, rfl, hl2⟩ := ex
    refine ⟨some a, l, cap, rfl, fun i x hx => ?_, fun x hx => ?_, ?_⟩
    · obtain ⟨hi', rfl⟩ := List.getElem?_eq_some_iff.1 hx
      obtain ⟨hs, hk, _⟩ := hl2 i hi'
      obtain ⟨b, o, s⟩ := a
      simp only at hs
      subst hs
      exact ⟨b, o, rfl, hk⟩
    · obtain ⟨i, hi', rfl⟩ := List.mem_iff_getElem.1 hx
      exact (hl2 i hi').2.2
    · have hq := hw (m * Try.prog.bytesOf 28) (by
        rw [hd]
        simp only [DataW.weights, hu]
        exact List.mem_cons.2 (.inl (by simp only [List.length_map, List.length_range]; congr 1; omega)))
      have hb1 : 1 ≤ Try.prog.bytesOf 28 := by
        rw [show Try.prog.bytesOf 28 = 96 by kernel_rfl]
        omega
      have h2 : m * 1 ≤ m * Try.prog.bytesOf 28 := Nat.mul_le_mul_left _ hb1
      have : reachBytes = 140737488351232 := rfl
      omega
end
end Go.Proofs.Ytokbghpddgfnpaa

/- law 8: a disk of the law that comes in as an argument. -/
import Derived.Test.YtcfkoglehjkkdaaHMade
import Derived.Test.YtcfkoglehjkkdaaP18
namespace Go.Proofs.Ytcfkoglehjkkdaa
open Go.RowKit Go.ChangeShapes Go.WideShapes Go.ChangeAt
section
variable {H : Type} {enc : TypeId × Value → H} {W : World} {base : Nat} {held : Bool} {d : DataW H} {p : List MemPlace}
set_option maxRecDepth 8000 in
theorem bytes_lie8 {fuel : Nat} {cs : List Value} {x : DataW H × List MemPlace} (h : DataW.trod enc Try.prog W base (fun _ => true) held fuel 22 cs = some x) :
    ∃ (A : Option Addr) (n c : Nat) (l : List UInt8), cs = [.slice A n c] ∧ l.length = n ∧ Rd W A l := by
  rcases open_ints Try.underlying22 Try.underlying5 (by kernel_rfl) h with ⟨rfl, _⟩ | ⟨x, l, c, zs, rfl, _, hl, hm, hz, _, hcell, hwz⟩
  · obtain ⟨l, h1, _, h3⟩ := row_bytes (.inl ⟨rfl, rfl, rfl, rfl⟩ : IsRow .u8 W none 0 0 [])
    exact ⟨none, 0, 0, l, rfl, h1, h3⟩
  · obtain ⟨l', h1, _, h3⟩ := row_bytes (.inr ⟨_, rfl, hl, hm, by simpa using hz, hcell, hwz⟩)
    exact ⟨_, _, _, l', rfl, h1, h3⟩
set_option maxRecDepth 8000 in
theorem open_ds {r : Reach} {b0 : Nat} {v : Value} (hv : Value.okWide Try.prog W r b0 26 v) (h : DataW.Trod enc Try.prog W base (fun _ => true) held 26 v d p) :
    ∃ x : Ds, v = x.val ∧ (∃ l : List UInt8, l.length = x.n0 ∧ Rd W x.A0 l) ∧ (∃ l : List UInt8, l.length = x.n1 ∧ Rd W x.A1 l) ∧ ∃ l : List Int, l.length = x.n2 ∧ RdI W x.A2 l ∧ ∀ n ∈ l, n ≤ 9223372036854775807 := by
  obtain ⟨cs, rfl, _⟩ := okWide_struct Try.underlying26 hv
  obtain ⟨fu, hf⟩ := h
  obtain ⟨zs, m, _, _, hl, hzn, hzl⟩ := DataW.trod_struct Try.underlying26 hf
  rw [show Try.prog.cellsOf 26 = 4 by kernel_rfl] at hl
  obtain ⟨cs⟩ := cs
  simp only [Value.cells] at hl hzl
  match zs, hzn with
  | [y0, y1, y2], _ =>
    have k0 : DataW.trod enc Try.prog W base (fun _ => true) held m 3 ((cs.drop 0).take (Try.prog.cellsOf 3)) = some y0 := hzl 0 _ rfl
    have k1 : DataW.trod enc Try.prog W base (fun _ => true) held m 23 ((cs.drop 1).take (Try.prog.cellsOf 23)) = some y1 := hzl 1 _ rfl
    have k2 : DataW.trod enc Try.prog W base (fun _ => true) held m 24 ((cs.drop 3).take (Try.prog.cellsOf 24)) = some y2 := hzl 2 _ rfl
    rw [show Try.prog.cellsOf 3 = 1 by kernel_rfl] at k0
    rw [show Try.prog.cellsOf 23 = 2 by kernel_rfl] at k1
    rw [show Try.prog.cellsOf 24 = 1 by kernel_rfl] at k2
    match cs, hl with
    | [c0, c1, c2, c3], _ =>
      simp only [List.drop_zero, List.take_succ_cons, List.take_zero, List.drop_succ_cons] at k0 k1 k2
      obtain ⟨n0, e0, _, _⟩ := DataW.trod_int Try.underlying3 k0
      obtain ⟨xs, m1, _, _, _, hxn, hxl⟩ := DataW.trod_array Try.underlying23 k1
      match xs, hxn with
      | [z0, z1], _ =>
        have j0 := hxl 0 (by decide)
        have j1 := hxl 1 (by decide)
        rw [show Try.prog.cellsOf 22 = 1 by kernel_rfl] at j0 j1
        obtain ⟨A0, a0, q0, l0, e1, t0, r0⟩ := bytes_lie8 (show DataW.trod enc Try.prog W base (fun _ => true) held m1 22 [c1] = some z0 from j0)
        obtain ⟨A1, a1, q1, l1, e2, t1, r1⟩ := bytes_lie8 (show DataW.trod enc Try.prog W base (fun _ => true) held m1 22 [c2] = some z1 from j1)
        obtain ⟨A2, q2, l2, e3, _, r2, w2, _⟩ := ints_lie k2
        simp only [List.cons.injEq, and_true] at e0 e1 e2 e3
        subst e0 e1 e2 e3
        exact ⟨⟨n0, A0, a0, q0, A1, a1, q1, A2, l2.length, q2⟩, rfl, ⟨l0, t0, r0⟩, ⟨l1, t1, r1⟩, ⟨l2, rfl, r2, fun n hn => (w2 n hn).2⟩⟩
end
end Go.Proofs.Ytcfkoglehjkkdaa

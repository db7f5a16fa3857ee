/- law 12: a part as an argument; what a split tells, of each case: plain. -/
import Derived.Test.YteodgefnbmiblaaDoorBPf
import Derived.Test.YteodgefnbmiblaaDoorR13
import Derived.Test.YteodgefnbmiblaaDoorR05
import Derived.Deep.Slices
namespace Go.Proofs.YteodgefnbmiblaaDoor
open Go.ChangeShapes Go.WideShapes Go.ChangeAt Go.RowKit
/-- a row of numbers lies there -/
def RdQ (w : World) (A : Option Addr) (l : List Int) : Prop := ∀ j (h : j < l.length), ∃ b off, A = some ⟨b, off, none⟩ ∧ w.cell? ⟨b, off + j, none⟩ = some (.int .i64 l[j])
theorem RdQ.below {w w' : World} {A : Option Addr} {l : List Int} (h : RdQ w A l) (hb : Below w.heap.size w w') : RdQ w' A l := fun j hj => by
  obtain ⟨b, off, e, hc⟩ := h j hj
  exact ⟨b, off, e, (hb.cell (World.block_lt_of_cell? w _ hc)).trans hc⟩
/-- a part's cells -/
abbrev ptc (n : Int) (A : Option Addr) (m c : Nat) : Array Value := #[.int .i64 n, .slice A m c]
section
variable {H : Type} {enc : TypeId × Value → H} {W : World} {base : Nat} {held : Bool} {fuel : Nat}
set_option maxRecDepth 8000 in
theorem kinds_in {cs : List Value} {x : DataW H × List MemPlace} (h : DataW.trod enc Tryd.prog W base (fun _ => true) held fuel 59 cs = some x) :
    ∃ (A : Option Addr) (c : Nat) (l : List Int), cs = [.slice A l.length c] ∧ RdQ W A l := by
  rcases open_ints Tryd.underlying59 Tryd.underlying35 (by kernel_rfl) h with ⟨rfl, _⟩ | ⟨a, len, cap, zs, rfl, _, hl, hm, hz, hx, hcell, hwz⟩
  · exact ⟨none, 0, [], rfl, fun j hj => absurd hj (by simp)⟩
  · have hz' : zs.length = cap := by simpa using hz
    have htl : (zs.take len).length = len := by rw [List.length_take]; omega
    refine ⟨some a, cap, zs.take len, by rw [htl], fun j hj => ?_⟩
    rw [htl] at hj
    have hs : a.spot = none := by
      have := World.cell?_spot (hcell 0 (by omega))
      simpa [Addr.add] using this
    obtain ⟨b, off, spot⟩ := a
    simp only at hs
    subst hs
    refine ⟨b, off, rfl, ?_⟩
    have := hcell j (by omega)
    rw [add_flat] at this
    rw [this, List.getElem_take, List.getD_eq_getElem?_getD, List.getElem?_eq_getElem (by omega)]
    rfl
set_option maxRecDepth 8000 in
theorem part_cells {cs : List Value} {x : DataW H × List MemPlace} (h : DataW.trod enc Tryd.prog W base (fun _ => true) held fuel 61 cs = some x) : ∃ (n : Int) (A : Option Addr) (c : Nat) (l : List Int), cs = (ptc n A l.length c).toList ∧ RdQ W A l := by
  obtain ⟨xs, n, _, _, hl, hn, hel⟩ := DataW.trod_struct Tryd.underlying61 h
  rw [show Tryd.prog.cellsOf 61 = 2 by kernel_rfl] at hl
  match xs, hn with
  | [y0, y1], _ =>
    have h0 : DataW.trod enc Tryd.prog W base (fun _ => true) held n 3 ((cs.drop 0).take (Tryd.prog.cellsOf 3)) = some y0 := hel 0 _ rfl
    have h1 : DataW.trod enc Tryd.prog W base (fun _ => true) held n 59 ((cs.drop 1).take (Tryd.prog.cellsOf 59)) = some y1 := hel 1 _ rfl
    rw [show Tryd.prog.cellsOf 3 = 1 by kernel_rfl] at h0
    rw [show Tryd.prog.cellsOf 59 = 1 by kernel_rfl] at h1
    match cs, hl with
    | [c0, c1], _ =>
      obtain ⟨p, e0, _, _⟩ := DataW.trod_int Tryd.underlying3 h0
      obtain ⟨A, c, l, e1, hr⟩ := kinds_in h1
      simp only [List.drop_zero, List.take_succ_cons, List.take_zero, List.drop_succ_cons, List.cons.injEq, and_true] at e0 e1
      subst e0 e1
      exact ⟨p, A, c, l, rfl, hr⟩
set_option maxRecDepth 8000 in
theorem open_part {r : Reach} {b0 : Nat} {v : Value} {d : DataW H} {p : List MemPlace} (hv : Value.okWide Tryd.prog W r b0 61 v) (h : DataW.Trod enc Tryd.prog W base (fun _ => true) held 61 v d p) : ∃ (n : Int) (A : Option Addr) (c : Nat) (l : List Int), v = .agg (ptc n A l.length c) ∧ RdQ W A l := by
  obtain ⟨cs, rfl, _⟩ := okWide_struct Tryd.underlying61 hv
  obtain ⟨f, hf⟩ := h
  obtain ⟨n, A, c, l, ho, hr⟩ := part_cells hf
  refine ⟨n, A, c, l, ?_, hr⟩
  obtain ⟨cl⟩ := cs
  simp only [Value.cells] at ho
  subst ho
  rfl
end
set_option maxRecDepth 8000 in
/-- what a split and a range tell: refused, or two banks -/
theorem sp_cases {os : List Oj} (ho : okAll os.length os) (hN : os.length ≤ 64) (x : Ky) (n : Int) :
    (∃ f l e g : Int, rgA os x = (f, l, e) ∧ spA os x n = (os, zk, g) ∧ g ≠ 0) ∨
    (∃ (a b m : Nat) (L : List Oj) (z : Ky) (j j2 : Nat) (u u2 : Oj), rgA os x = ((a : Int), (b : Int), 0) ∧ spA os x n = (L, z, 0) ∧ n = ((b + 1 - m : Nat) : Int) ∧ a < m ∧ m ≤ b ∧ b < os.length ∧ L.length = os.length ∧ okAll os.length L ∧ BkD L x j u a (m - 1) ∧ BkD L z j2 u2 m b ∧ a ≤ j2 ∧ j2 < m) := by
  by_cases hE : bnkE os x = 0
  · obtain ⟨j, u, a, b, d⟩ := bnkE_d hE
    have hrg := rgA_d d
    by_cases hr : 1 ≤ n ∧ n ≤ (b : Int) - (a : Int)
    · cases hf : fnd os a (b + 1 - a) with
      | none => exact .inl ⟨_, _, _, _, hrg, spA_none d hr hf, by decide⟩
      | some i =>
        obtain ⟨n', rfl⟩ := Int.eq_ofNat_of_zero_le (show 0 ≤ n by omega)
        by_cases hall : AllE (mkL os a b 1) (b - ((n' : Int)).toNat + 1) b
        · have hsp := spA_yes d hr hf hall
          rw [Int.toNat_natCast] at hsp hall
          have hm1 : a < b - n' + 1 := by omega
          have hm2 : b - n' + 1 ≤ b := by omega
          obtain ⟨d1, d2⟩ := spL_banks ho d hN hf hm1 hm2
          have hl : a + i < os.length := by have := d.bl; have := (fnd_some hf).1; omega
          refine .inr ⟨a, b, b - n' + 1, _, _, _, _, _, _, hrg, hsp, by omega, hm1, hm2, d.bl, spL_len _ _ _ _ _ _ _, spL_ok ho d _ _ _ _, d1, d2, by omega, ?_⟩
          rcases Nat.lt_or_ge (a + i) (b - n' + 1) with h' | h'
          · exact h'
          · have h1 := hall (a + i) h' (by have := (fnd_some hf).1; omega)
            rw [mkL_new (kind := 1) hf hl, Option.getD_some] at h1
            rcases h1 with h1 | h1
            · exact absurd h1 (by show ¬ ((1 : Int) = 0); decide)
            · exact absurd h1 (by show ¬ ((1 : Int) = 3); decide)
        · exact .inl ⟨_, _, _, _, hrg, spA_full d hr hf hall, by decide⟩
    · exact .inl ⟨_, _, _, _, hrg, spA_rng d hr, by decide⟩
  · exact .inl ⟨_, _, _, _, rgA_e hE, spA_e n hE, hE⟩
set_option maxRecDepth 8000 in
/-- what a making by a bank tells -/
theorem mk_cases {os : List Oj} (ho : okAll os.length os) {x : Ky} {j : Nat} {u : Oj} {a b : Nat} (d : BkD os x j u a b) (kind : Int) :
    ∃ L r e, mkA os x kind = (L, r, e) ∧ L.length = os.length ∧ okAll os.length L ∧ (e = 0 → (a : Int) ≤ r.o ∧ r.o ≤ (b : Int)) ∧ (L = os ∨ ∃ k, L = mkL os a b k) := by
  by_cases hk : kind = 1 ∨ kind = 2
  · cases hf : fnd os a (b + 1 - a) with
    | some i => exact ⟨_, _, _, mkA_some d hk hf, mkL_len _ _ _ _, mkL_ok ho d hk, fun _ => ⟨by show (a : Int) ≤ ((a + i : Nat) : Int); omega, by have := (fnd_some hf).1; have := d.ab; show ((a + i : Nat) : Int) ≤ (b : Int); omega⟩, .inr ⟨_, rfl⟩⟩
    | none => exact ⟨_, _, _, mkA_none d hk hf, mkL_len _ _ _ _, mkL_ok ho d hk, fun h => absurd h (by decide), .inr ⟨_, rfl⟩⟩
  · exact ⟨_, _, _, mkA_arg d.e hk, rfl, ho, fun h => absurd h (by decide), .inl rfl⟩
end Go.Proofs.YteodgefnbmiblaaDoor

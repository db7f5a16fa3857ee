/- nodes: all, prepared, change. -/
import Derived.Test.YtljfddeolapeaaaDoorR12
import Derived.Test.YtljfddeolapeaaaDoorR09
namespace Go.Proofs.YtljfddeolapeaaaDoor
open Go.RowKit
/-- a node with other slots -/
def slotsAs (o : Oj) (s : List Ky) (hs : s.length = 16) : Oj := { o with s := s, hs := hs }
section
variable {w : World} {base p : Nat} {A : Option Addr} {cap : Nat} {ps : List Nat} {os : List Oj}
end
end Go.Proofs.YtljfddeolapeaaaDoor
namespace Go.Proofs.YtljfddeolapeaaaDoor
open Go.RowKit
set_option maxRecDepth 8000 in
theorem ak_slots (p : Nat) (x : Ky) (u : Oj) (s : List Ky) (hs : s.length = 16) : (akc p x u).take 10 ++ kcs s ++ (akc p x u).drop (10 + (kcs s).length) = akc p x (slotsAs u s hs) := by
  have h96 := kcs_len hs
  have hl : (kcs u.s).length = 96 := kcs_len u.hs
  rw [h96]
  unfold akc Oj.cells slotsAs
  simp only [kl, List.cons_append, List.nil_append, List.take_succ_cons, List.take_zero, List.drop_succ_cons]
  rw [List.drop_append_of_le_length (by omega), List.drop_of_length_le (by omega)]
  simp
set_option maxRecDepth 8000 in
theorem zks_eq {l : List Ky} (hl : l.length = 16) : (kcs zks).length = (kcs l).length := by rw [zks_len, kcs_len hl]
section
variable {w : World} {base p : Nat} {A : Option Addr} {cap : Nat} {ps : List Nat} {os : List Oj}
theorem put_x (h : StAt w base p A cap ps os) (hT : Tab w) (i : Nat) (hi : i < os.length) (o : Oj) (hc : o.ok os.length) {n : Int} (hn : n = (i : Int)) :
    Calls Tryd.prog 84 #[pv p, .int .i64 n, o.val] w fun e' w' => e' = .returned (.int .i64 0) ∧ StAt w' base p A cap ps (os.set i o) ∧ Fr (fun k => k ∈ ps) w w' := hn ▸ put_ok h hT i hi o hc
end
end Go.Proofs.YtljfddeolapeaaaDoor
namespace Go.Proofs.YtljfddeolapeaaaDoor
open Go.RowKit
section
variable {kt it : TypeId}
end
section
variable {w : World} {base p : Nat} {A : Option Addr} {cap : Nat} {ps : List Nat} {os : List Oj} {kt it : TypeId}
end
end Go.Proofs.YtljfddeolapeaaaDoor
namespace Go.Proofs.YtljfddeolapeaaaDoor
open Go.ChangeShapes Go.WideShapes Go.ChangeAt Go.RowKit
/-- chunks of a list, each known, are the list -/
theorem keys_of_chunks : ∀ (n : Nat) (cs : List Value), cs.length = n * 6 → (∀ i, i < n → ∃ y : Ky, (cs.drop (i * 6)).take 6 = kl y) → ∃ l : List Ky, l.length = n ∧ cs = kcs l
  | 0, cs, hl, _ => ⟨[], rfl, by cases cs with | nil => rfl | cons => simp at hl⟩
  | n + 1, cs, hl, h => by
    obtain ⟨y, hy⟩ := h 0 (by omega)
    obtain ⟨l, hll, hlc⟩ := keys_of_chunks n (cs.drop 6) (by rw [List.length_drop]; omega) (fun i hi => by
      obtain ⟨z, hz⟩ := h (i + 1) (by omega)
      exact ⟨z, by rw [List.drop_drop, show 6 + i * 6 = (i + 1) * 6 by omega]; exact hz⟩)
    refine ⟨y :: l, by simp [hll], ?_⟩
    rw [Nat.zero_mul, List.drop_zero] at hy
    rw [kcs, ← hy, ← hlc, List.take_append_drop]
set_option maxRecDepth 8000 in
theorem bytes_of_cells : ∀ (cs : List Value), (∀ i (h : i < cs.length), ∃ b : UInt8, cs[i] = .int .u8 (b.toNat : Int)) → ∃ l : List UInt8, cs = bv l
  | [], _ => ⟨[], rfl⟩
  | c :: cs, h => by
    obtain ⟨b, hb⟩ := h 0 (by simp)
    obtain ⟨l, rfl⟩ := bytes_of_cells cs (fun i hi => h (i + 1) (by simpa using hi))
    exact ⟨b :: l, by simp only [List.getElem_cons_zero] at hb; rw [hb]; rfl⟩
section
variable {H : Type} {enc : TypeId × Value → H} {W : World} {base : Nat} {spare : Nat → Bool} {held : Bool} {fuel : Nat}
set_option maxRecDepth 8000 in
theorem cellsOf30 : Tryd.prog.cellsOf 33 = 6 := by kernel_rfl
set_option maxRecDepth 8000 in
theorem cellsOf31 : Tryd.prog.cellsOf 53 = 96 := by kernel_rfl
set_option maxRecDepth 8000 in
theorem cellsOf32 : Tryd.prog.cellsOf 54 = 64 := by kernel_rfl
set_option maxRecDepth 8000 in
theorem cellsOf34 : Tryd.prog.cellsOf 56 = 163 := by kernel_rfl
set_option maxRecDepth 8000 in
theorem slots_cells {cs : List Value} {x : DataW H × List MemPlace} (h : DataW.trod enc Tryd.prog W base spare held fuel 53 cs = some x) : ∃ l : List Ky, l.length = 16 ∧ cs = kcs l := by
  obtain ⟨xs, n, _, _, hl, hn, hel⟩ := DataW.trod_array Tryd.underlying53 h
  rw [cellsOf31] at hl
  rw [cellsOf30] at hel
  refine keys_of_chunks 16 cs hl (fun i hi => ?_)
  have := hel i hi
  rw [List.getElem?_eq_getElem (by omega)] at this
  obtain ⟨y, hy⟩ := key_cells this
  exact ⟨y, hy⟩
set_option maxRecDepth 8000 in
theorem bytes_cells {cs : List Value} {x : DataW H × List MemPlace} (h : DataW.trod enc Tryd.prog W base spare held fuel 54 cs = some x) : ∃ l : List UInt8, l.length = 64 ∧ cs = bv l := by
  obtain ⟨xs, n, _, _, hl, hn, hel⟩ := DataW.trod_array Tryd.underlying54 h
  have c1 : Tryd.prog.cellsOf 5 = 1 := by kernel_rfl
  rw [cellsOf32] at hl
  rw [c1] at hel
  obtain ⟨l, rfl⟩ := bytes_of_cells cs (fun i hi => by
    have := hel i (by omega)
    rw [List.getElem?_eq_getElem (by omega), Nat.mul_one, List.drop_eq_getElem_cons hi, List.take_succ_cons, List.take_zero] at this
    obtain ⟨q, hq, _, hw⟩ := DataW.trod_int Tryd.underlying5 this
    simp only [List.cons.injEq, and_true] at hq
    have h1 : IntKind.u8.min = 0 := rfl
    have h2 : IntKind.u8.max = 255 := rfl
    simp only [Lit.wf, Bool.and_eq_true, decide_eq_true_eq] at hw
    exact ⟨UInt8.ofNat q.toNat, by rw [hq]; congr 1; simp; omega⟩)
  exact ⟨l, by rw [← bv_length, hl], rfl⟩
set_option maxRecDepth 100000 in
theorem object_cells {cs : List Value} {x : DataW H × List MemPlace} (h : DataW.trod enc Tryd.prog W base spare held fuel 56 cs = some x) : ∃ o : Oj, cs = o.cells := by
  obtain ⟨xs, n, _, _, hl, hn, hel⟩ := DataW.trod_struct Tryd.underlying56 h
  rw [cellsOf34] at hl
  have c1 : ∀ t, t = 52 ∨ t = 2 → Tryd.prog.cellsOf t = 1 := by
    intro t ht
    rcases ht with rfl | rfl <;> kernel_rfl
  have g : ∀ (off : Nat) (t : TypeId) (x : DataW H × List MemPlace), (t = 52 ∨ t = 2) → off < 163 → DataW.trod enc Tryd.prog W base spare held n t ((cs.drop off).take (Tryd.prog.cellsOf t)) = some x → ∃ q : Int, cs[off]? = some (.int .i64 q) := by
    intro off t x ht hoff hx
    rw [c1 t ht, List.drop_eq_getElem_cons (by omega)] at hx
    simp only [List.take_succ_cons, List.take_zero] at hx
    have hu : Tryd.prog.underlying t = some (.int .i64) := by
      rcases ht with rfl | rfl
      · exact Tryd.underlying52
      · exact Tryd.underlying2
    obtain ⟨q, hq, _, _⟩ := DataW.trod_int hu hx
    simp only [List.cons.injEq, and_true] at hq
    exact ⟨q, by rw [List.getElem?_eq_getElem (by omega), hq]⟩
  match xs, hn with
  | [y0, y1, y2, y3, y4], _ =>
    obtain ⟨q0, e0⟩ := g 0 52 y0 (.inl rfl) (by decide) (hel 0 _ rfl)
    obtain ⟨q1, e1⟩ := g 1 2 y1 (.inr rfl) (by decide) (hel 1 _ rfl)
    obtain ⟨q2, e2⟩ := g 2 2 y2 (.inr rfl) (by decide) (hel 2 _ rfl)
    have h3 : DataW.trod enc Tryd.prog W base spare held n 53 ((cs.drop 3).take (Tryd.prog.cellsOf 53)) = some y3 := hel 3 _ rfl
    have h4 : DataW.trod enc Tryd.prog W base spare held n 54 ((cs.drop 99).take (Tryd.prog.cellsOf 54)) = some y4 := hel 4 _ rfl
    obtain ⟨s, hs, es⟩ := slots_cells h3
    obtain ⟨b, hb, eb⟩ := bytes_cells h4
    rw [cellsOf31] at es
    rw [cellsOf32] at eb
    refine ⟨⟨q0, q1, q2, s, b, hs, hb⟩, ?_⟩
    match cs, e0, e1, e2, es, eb, hl with
    | c0 :: c1 :: c2 :: cs, e0, e1, e2, es, eb, hl =>
      simp only [List.getElem?_cons_zero, List.getElem?_cons_succ, Option.some.injEq] at e0 e1 e2
      subst e0 e1 e2
      simp only [Oj.cells, List.cons.injEq, true_and]
      have es' : cs.take 96 = kcs s := es
      have eb' : (cs.drop 96).take 64 = bv b := eb
      rw [← es', ← eb', List.take_of_length_le (l := cs.drop 96) (by simp at hl ⊢; omega), List.take_append_drop]
set_option maxRecDepth 8000 in
/-- objects that came in -/
theorem open_obs {r : Reach} {b0 : Nat} {v : Value} {d : DataW H} {p : List MemPlace} (hv : Value.okWide Tryd.prog W r b0 22 v) (h : DataW.Trod enc Tryd.prog W base spare held 22 v d p) :
    ∃ (A : Option Addr) (l : List Oj) (cap : Nat), v = .slice A l.length cap ∧ l.length ≤ cap ∧ cap ≤ maxLen ∧ RdO W A l := by
  obtain ⟨A, len, cap, rfl⟩ := okWide_slice Tryd.underlying22 hv
  obtain ⟨fuel, hf⟩ := h
  rcases Go.Deep.open_slice Tryd.underlying22 hf with ⟨hcs, _⟩ | ⟨a, len', cap', m, n, D, Pl, hcs, hb, hl, hm, hmm, hx, hi⟩
  · simp only [Value.cells, List.cons.injEq, Value.slice.injEq, and_true] at hcs
    obtain ⟨rfl, rfl, rfl⟩ := hcs
    exact ⟨none, [], 0, rfl, Nat.le_refl _, by simp [maxLen], fun i h => absurd h (by simp)⟩
  · simp only [Value.cells, List.cons.injEq, Value.slice.injEq, and_true] at hcs
    obtain ⟨rfl, rfl, rfl⟩ := hcs
    rw [cellsOf34] at hi
    have hlen : len ≤ m := by rw [hmm]; split <;> omega
    have key : ∀ i, i < len → ∃ o : Oj, a.spot = none ∧ ObAt W a.block (a.off + i * 163) o := by
      intro i hil
      obtain ⟨cs', hc, ht⟩ := hi i (by omega)
      obtain ⟨o, rfl⟩ := object_cells ht
      obtain ⟨_, _, hat⟩ := World.cells?_some hc
      have hs' : a.spot = none := by
        obtain ⟨cs0, hc0, ht0⟩ := hi 0 (by omega)
        have h0 := (World.cells?_some hc0).2.2 0 (by decide)
        obtain ⟨o', rfl⟩ := object_cells ht0
        have := World.cell?_spot (h0.trans (show (Oj.cells o')[0]? = some _ from rfl))
        simpa [Addr.add] using this
      refine ⟨o, hs', fun j v hv => ?_⟩
      have e := add_add_flat hs' (i * 163)
      have hj : j < 163 := by have := (List.getElem?_eq_some_iff.1 hv).1; rwa [o.len] at this
      have := hat j hj
      rw [e, add_flat] at this
      rw [this, hv]
    have ex : ∃ l : List Oj, l.length = len ∧ ∀ i (h : i < l.length), a.spot = none ∧ ObAt W a.block (a.off + i * 163) l[i] := by
      refine ⟨(List.range len).map fun i => if h : i < len then (key i h).choose else oz, by simp, fun i h => ?_⟩
      have hil : i < len := by simpa using h
      simp only [List.getElem_map, List.getElem_range, hil, dif_pos]
      exact (key i hil).choose_spec
    obtain ⟨l, rfl, hl2⟩ := ex
    refine ⟨some a, l, cap, rfl, hl, hm, fun i h => ?_⟩
    obtain ⟨hs, hk⟩ := hl2 i h
    obtain ⟨b, o, s⟩ := a
    simp only at hs
    subst hs
    exact ⟨b, o, rfl, hk⟩
end
end Go.Proofs.YtljfddeolapeaaaDoor

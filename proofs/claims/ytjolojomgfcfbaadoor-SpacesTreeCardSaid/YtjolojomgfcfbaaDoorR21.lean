/- nodes: what each call answers, of any store: plain. -/
import Derived.Test.YtjolojomgfcfbaaDoorR18
import Derived.Test.YtjolojomgfcfbaaDoorR20
namespace Go.Proofs.YtjolojomgfcfbaaDoor
open Go.RowKit
/-- it is the key of a node that counts -/
def askN (os : List Oj) (x : Ky) : Prop := (named os x).isSome = true ∧ x.k = 2
structure AskD (os : List Oj) (x : Ky) (j : Nat) (u : Oj) : Prop where
  nm : named os x = some u
  k : x.k = 2
  ok : x.ok
  o : x.o = (j : Int)
  lt : j < os.length
  at_ : os[j] = u
  uk : u.k = 1
set_option maxRecDepth 8000 in
theorem askN_d {os : List Oj} {x : Ky} (h : askN os x) : ∃ j u, AskD os x j u := by
  obtain ⟨h1, h2⟩ := h
  have hof := named_of h1
  have hok := hof.1
  have h3 := named_is (os := os) hof
  obtain ⟨u, hu⟩ := Option.isSome_iff_exists.1 h1
  rw [hu] at h3
  have h4 := Option.filter_eq_some_iff.1 h3.symm
  obtain ⟨h5, h6⟩ := h4
  obtain ⟨hlt, hat⟩ := List.getElem?_eq_some_iff.1 h5
  have ho : 0 ≤ x.o := by
    obtain ⟨n, hk, hn, o0, _⟩ := hok
    exact o0
  refine ⟨x.o.toNat, u, hu, h2, hok, by omega, hlt, hat, ?_⟩
  have h7 : x.ok ∧ (x.of → x.want = u.k ∧ x.c = u.c ∧ (x.k ≠ 7 ∨ x.l = u.l)) := by
    have : x.cnt u.k u.c u.l = true := h6
    unfold Ky.cnt at this
    simpa using this
  have h8 := (h7.2 hof).1
  unfold Ky.want at h8
  rw [if_pos hof, if_neg (by omega)] at h8
  exact h8.symm
theorem AskD.is {os : List Oj} {x : Ky} {j : Nat} {u : Oj} (h : AskD os x j u) : askN os x := ⟨by rw [h.nm]; rfl, h.k⟩
set_option maxRecDepth 8000 in
theorem AskD.eq {os : List Oj} {x : Ky} {j : Nat} {u : Oj} (h : AskD os x j u) : (named os x).getD oz = u := by rw [h.nm]; rfl
set_option maxRecDepth 8000 in
theorem AskD.jn {os : List Oj} {x : Ky} {j : Nat} {u : Oj} (h : AskD os x j u) : x.o.toNat = j := by have := h.o; omega
-- what is put may be there
theorem zks_may (n : Int) : mayS n zks := fun y hy => by
  rw [List.eq_of_mem_replicate (show y ∈ List.replicate 16 zk from hy)]
  exact zk_may n
theorem okAll_set {n : Int} {os : List Oj} (h : okAll n os) (j : Nat) {o : Oj} (ho : o.ok n) : okAll n (os.set j o) := fun y hy => by
  rcases List.mem_or_eq_of_mem_set hy with h' | rfl
  · exact h y h'
  · exact ho
theorem AskD.okU {os : List Oj} {x : Ky} {j : Nat} {u : Oj} (h : AskD os x j u) (ho : okAll os.length os) : u.ok os.length := ho u (h.at_ ▸ List.getElem_mem h.lt)
-- the answers
open Classical in
noncomputable def getA (os : List Oj) (x : Ky) (i : Int) : Ky × Int := if askN os x then (if 0 ≤ i ∧ i < 16 then (gotK os x ((((named os x).getD oz).s[i.toNat]?).getD zk), 0) else (zk, 4)) else (zk, 190)
end Go.Proofs.YtjolojomgfcfbaaDoor
namespace Go.Proofs.YtjolojomgfcfbaaDoor
open Go.RowKit
section
variable {w : World} {base p : Nat} {A : Option Addr} {cap : Nat} {ps : List Nat} {os : List Oj}
theorem askN_no {os : List Oj} {x : Ky} (h : ¬ askN os x) : ¬ ((named os x).isSome = true ∧ x.k = 2) := h
set_option maxRecDepth 8000 in
theorem AskD.slot {os : List Oj} {x : Ky} {j : Nat} {u : Oj} (_ : AskD os x j u) {i : Nat} (hi : i < 16) : u.s[i]? = some ((u.s[i]?).getD zk) := by
  rw [List.getElem?_eq_getElem (by rw [u.hs]; exact hi)]
  rfl
set_option maxRecDepth 8000 in
theorem get_all (h : StAt w base p A cap ps os) (hn : 0 < os.length) (hT : Tab w) (x : Ky) (i : Int) :
    Calls Tryd.prog 58 #[pv p, x.val, .int .i64 i] w fun e w' => e = .returned (.tuple #[(getA os x i).1.val, .int .i64 (getA os x i).2]) ∧ Below w.heap.size w w' := by
  unfold getA
  split
  · next ha =>
    obtain ⟨j, u, d⟩ := askN_d ha
    split
    · next hi =>
      obtain ⟨k, rfl⟩ := Int.eq_ofNat_of_zero_le hi.1
      have hk : k < 16 := by omega
      rw [d.eq, Int.toNat_natCast]
      exact nget_yes x k _ fun W S K I hW hS hK hI => get1_yes (h.below hW) hn (hT.below hW) x u d.nm d.k d.ok k hk _ (d.slot hk) hS hK hI
    · next hi => exact nget_no (pv p) (.inr ⟨_, rfl⟩) x i 4 fun W S K I hW hS hK hI => get1_slot (h.below hW) hn (hT.below hW) x u d.nm d.k i hi hS hK hI
  · next ha => exact nget_no (pv p) (.inr ⟨_, rfl⟩) x i 190 fun W S K I hW hS hK hI => get1_no (h.below hW) hn (hT.below hW) x (askN_no ha) i hS hK hI
end
section
variable {w : World} {A : Option Addr} {l : List Oj} {n cap : Nat}
end
end Go.Proofs.YtjolojomgfcfbaaDoor
namespace Go.Proofs.YtjolojomgfcfbaaDoor
open Go.RowKit
section
variable {os : List Oj} {j : Nat} {u : Oj}
theorem cn_slots (y : Ky) (u : Oj) (s : List Ky) (hs : s.length = 16) : y.cn (slotsAs u s hs) = y.cn u := rfl
set_option maxRecDepth 8000 in
theorem named_set (hj : j < os.length) (hu : os[j] = u) (s : List Ky) (hs : s.length = 16) (y : Ky) : named (os.set j (slotsAs u s hs)) y = if y.o.toNat = j then (named os y).map (fun _ => slotsAs u s hs) else named os y := by
  by_cases hy : y.of
  · rw [named_is hy, named_is hy]
    by_cases e : y.o.toNat = j
    · subst e
      rw [if_pos rfl, List.getElem?_set_self hj, List.getElem?_eq_getElem hj, hu]
      have hcs := cn_slots y u s hs
      simp only [Option.filter_some]
      by_cases hc : y.cn u = true
      · rw [if_pos hc, if_pos (hcs.trans hc)]
        rfl
      · rw [if_neg hc, if_neg (fun h => hc (hcs.symm.trans h))]
        rfl
    · rw [if_neg e, List.getElem?_set_ne (fun h => e h.symm)]
  · rw [named_not hy, named_not hy]
    split <;> rfl
theorem AskD.set {x : Ky} (d : AskD os x j u) (s : List Ky) (hs : s.length = 16) : AskD (os.set j (slotsAs u s hs)) x j (slotsAs u s hs) :=
  ⟨by rw [named_set d.lt d.at_, if_pos d.jn, d.nm]; rfl, d.k, d.ok, d.o, by rw [List.length_set]; exact d.lt, by rw [List.getElem_set_self], d.uk⟩
end
/-- a node that was given once, its key, and a number -/
def kn9 : Oj := ⟨1, 1, 0, zks, zbs, rfl, rfl⟩
set_option maxRecDepth 8000 in
theorem built9 : Tryd.prog.built 33 [(0, .int .i64 1), (1, .int .i64 1)] = some kn9.cells.toArray := by kernel_rfl
set_option maxRecDepth 8000 in
theorem prepd_zk (os : List Oj) : prepd os zk = zk := by
  unfold prepd
  split <;> rfl
end Go.Proofs.YtjolojomgfcfbaaDoor
namespace Go.Proofs.YtjolojomgfcfbaaDoor
open Go.RowKit
section
variable {ops : Array Oper} {o : Oper} {a : Act} {S : World → Prop} {rest : List Oper} {Q : Exit → Act → World → Prop}
theorem y_build2 {t : TypeId} {i j : Nat} {x y : Value} {cs : Array Value} (hw : Region.wanted o (yielded ops a.tmps) = true) (ho : o.op = .build t #[(i, .const x), (j, .const y)]) (hb : Tryd.prog.built t [(i, x), (j, y)] = some cs) : YieldsIf Tryd.prog ops S o (.agg cs) a := .inl ⟨hw, fun w _ => by
  unfold execOp
  simp only [ho, Sem.run_bind]
  have := run_build w t #[(i, x), (j, y)] _ hb
  simp only [List.map_toArray, List.map_cons, List.map_nil, Act.eval, this, Result.andThen_ok, Sem.run_pure]⟩
set_option maxRecDepth 8000 in
theorem run_buildSlice34 (w : World) (u : Oj) :
    (Instr.buildSlice 34 1 #[(0, u.val)]).run Tryd.prog w = .ok (.slice (some ⟨w.heap.size, 0, none⟩) 1 1) (w.alloc (.cells u.cells.toArray 33)) := by
  have hz := z34 w
  have hs := run_sizeOf (P := Tryd.prog) size34 w
  have hol := oz_len
  have c1 : ∀ cs : Array Value, cs.size = 163 → Instr.fill (fun i => some (i * 163, 163)) cs [(0, u.val)] = some u.cells.toArray := by
    intro cs hcs
    have e2 : u.val.cells.size = 163 := by show u.cells.toArray.size = 163; rw [List.size_toArray, u.len]
    rw [fill_one _ _ 0 u.val _ 0 (by rw [e2]) (by rw [e2, hcs]; omega)]
    simp only [Instr.fill, e2]
    have e : cs.toList.take 0 ++ u.cells ++ cs.toList.drop (0 + 163) = u.cells := by
      rw [List.drop_eq_nil_of_le (by rw [Array.length_toList, hcs]; omega), List.append_nil]
      rfl
    exact congrArg (fun x : List Value => some x.toArray) e
  have h2 := c1 ((Array.range (1 * 163)).map (oz.val.cells[· % oz.val.cells.size]!)) (by simp)
  simp only [Instr.buildSlice, Sem.run_bind, run_underlying Tryd.underlying34, Result.andThen_ok, hs]
  rw [if_neg (by decide), if_neg (by decide)]
  simp only [Sem.run_bind, hz, Result.andThen_ok, Sem.run_pure, h2]
  simp [newRow, Result.andThen]
set_option maxRecDepth 8000 in
theorem wpList_buildSlice34 {w : World} (hgd : o.guard = none) (x : Operand) (ho : o.op = .buildSlice 34 1 #[(0, x)]) (u : Oj) (hx : a.eval x = u.val)
    (h : wpList Tryd.prog ops Q rest (a.put o.dst (.slice (some ⟨w.heap.size, 0, none⟩) 1 1)) (w.alloc (.cells u.cells.toArray 33))) : wpList Tryd.prog ops Q (o :: rest) a w := by
  refine wpList_plain hgd fun K hK => ?_
  unfold Oper.wp
  simp [execOp, ho, hx, run_buildSlice34 w u, Result.andThen]
  exact hK _ _ h
end
set_option maxRecDepth 8000 in
theorem rdo_one {w : World} {g : Nat} {t : TypeId} {u : Oj} (h : Blk w g t u.cells.toArray) : RdO w (some ⟨g, 0, none⟩) [u] := fun i hi => by
  obtain rfl : i = 0 := by simpa using hi
  exact ⟨g, 0, rfl, h.ob⟩
/-- may the law go on with these objects -/
def madeP (l : List Oj) : Prop := l.length ≤ 20 ∧ rightP l
end Go.Proofs.YtjolojomgfcfbaaDoor

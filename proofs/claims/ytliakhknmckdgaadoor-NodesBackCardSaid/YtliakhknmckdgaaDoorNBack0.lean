/- law 9: NodesBack: what it comes to, plain; its words. -/
import Derived.Test.YtliakhknmckdgaaDoorNWays
import Derived.Test.YtliakhknmckdgaaDoorR09
import Derived.Test.YtliakhknmckdgaaDoorR05
namespace Go.Proofs.YtliakhknmckdgaaDoor
open Go.RowKit
set_option maxRecDepth 8000 in
theorem gotK_full {l : List Oj} {k y : Ky} (hr : k.r % 4 = 0) : gotK l k y = prepd l y := by
  unfold gotK
  rw [if_neg (by omega)]
set_option maxRecDepth 8000 in
theorem putA_okN {os : List Oj} {x v : Ky} {i : Int} (h : (putA os x i v).2.2 = 0) : ∃ (j : Nat) (u : Oj) (k : Nat), AskD os x j u ∧ x.r % 4 = 0 ∧ i = (k : Int) ∧ k < 16 ∧ v.may os.length := by
  unfold putA at h
  split at h
  · next ha =>
    obtain ⟨j, u, d⟩ := askN_d ha
    split at h
    · next hr =>
      split at h
      · next hi =>
        split at h
        · next hv =>
          obtain ⟨k, rfl⟩ := Int.eq_ofNat_of_zero_le hi.1
          exact ⟨j, u, k, d, hr, rfl, by omega, hv⟩
        · simp at h
      · simp at h
    · simp at h
  · simp at h
set_option maxRecDepth 8000 in
theorem back_is {l : List Oj} {k A B : Ky} {s : Int} (ho : okAll l.length l) (h : (putA l k s A).2.2 = 0) (hB : B.may l.length) :
    ∃ (i j : Nat) (r1 a b : Ky) (l1 l2 : List Oj) (M N : List Ky) (u1 u2 : Oj), s = (i : Int) ∧ i < 16 ∧ k.o = (j : Int) ∧ j < l.length ∧ prepd l A = a ∧ prepd l B = b ∧
      putA l k s A = (l1, r1, 0) ∧ okAll l1.length l1 ∧ l1.length = l.length ∧ (AskD l1 k j u1 ∧ gots l1 k u1 = M) ∧ getA l1 k s = (a, 0) ∧ putA l1 k s B = (l2, a, 0) ∧ l2.length = l.length ∧ (AskD l2 k j u2 ∧ gots l2 k u2 = N) ∧ prepd l2 a = a ∧
      (∀ t, t < 16 → t ≠ i → ∃ z, M[t]? = some z ∧ N[t]? = some z) ∧ N[i]? = some b ∧ (∀ t, t < l.length → t ≠ j → l2[t]? = l[t]?) := by
  obtain ⟨j, u, i, d, hr, hsi, hi, hA⟩ := putA_okN h
  subst hsi
  have hus : i < u.s.length := by rw [u.hs]; exact hi
  have p1 := putA_d d hr hi hA
  have d1 := d.set (u.s.set i (prepd l A)) (by rw [List.length_set]; exact u.hs)
  rw [← slotAs_as] at d1
  have hl1 : (l.set j (slotAs u i (prepd l A))).length = l.length := List.length_set ..
  have q1 : ∀ y, prepd (l.set j (slotAs u i (prepd l A))) y = prepd l y := fun y => prepd_set d.lt d.at_ _ (by rw [List.length_set]; exact u.hs) y
  have s1 : (slotAs u i (prepd l A)).s = u.s.set i (prepd l A) := rfl
  have hus1 : i < (slotAs u i (prepd l A)).s.length := by rw [s1, List.length_set]; exact hus
  have e1 : (slotAs u i (prepd l A)).s[i]'hus1 = prepd l A := by simp [s1]
  have ga : gotK (l.set j (slotAs u i (prepd l A))) k (prepd l A) = prepd l A := by rw [gotK_full hr, q1, prepd_idem]
  have g1 := getA_d d1 hi
  rw [e1, ga] at g1
  have p2 := putA_d (v := B) d1 hr hi (by rw [hl1]; exact hB)
  rw [e1, ga, q1 B] at p2
  have d2 := d1.set ((slotAs u i (prepd l A)).s.set i (prepd l B)) (by rw [List.length_set]; exact (slotAs u i (prepd l A)).hs)
  rw [← slotAs_as] at d2
  have q2 : ∀ y, prepd ((l.set j (slotAs u i (prepd l A))).set j (slotAs (slotAs u i (prepd l A)) i (prepd l B))) y = prepd l y := fun y => (prepd_set d1.lt d1.at_ _ (by rw [List.length_set]; exact (slotAs u i (prepd l A)).hs) y).trans (q1 y)
  have o1 : okAll (l.set j (slotAs u i (prepd l A))).length (l.set j (slotAs u i (prepd l A))) := by rw [hl1]; exact okAll_set ho _ (put_oku d ho _ _)
  refine ⟨i, j, _, _, _, _, _, _, _, _, _, rfl, hi, d.o, d.lt, rfl, rfl, p1, o1, hl1, ⟨d1, rfl⟩, g1, p2, by rw [List.length_set, List.length_set], ⟨d2, rfl⟩, by rw [q2, prepd_idem], ?_, ?_, ?_⟩
  · intro t ht hne
    have htu : t < u.s.length := by rw [u.hs]; exact ht
    refine ⟨prepd l u.s[t], ?_, ?_⟩
    · rw [gots, List.getElem?_map, s1, List.getElem?_set_ne (fun e => hne e.symm), List.getElem?_eq_getElem htu, Option.map_some, gotK_full hr, q1]
    · have s2 : (slotAs (slotAs u i (prepd l A)) i (prepd l B)).s = (u.s.set i (prepd l A)).set i (prepd l B) := rfl
      rw [gots, List.getElem?_map, s2, List.getElem?_set_ne (fun e => hne e.symm), List.getElem?_set_ne (fun e => hne e.symm), List.getElem?_eq_getElem htu, Option.map_some, gotK_full hr, q2]
  · have s2 : (slotAs (slotAs u i (prepd l A)) i (prepd l B)).s = (u.s.set i (prepd l A)).set i (prepd l B) := rfl
    rw [gots, List.getElem?_map, s2, List.getElem?_set_self (by rw [List.length_set]; exact hus), Option.map_some, gotK_full hr, q2, prepd_idem]
  · intro t _ hne
    rw [List.getElem?_set_ne (fun e => hne e.symm), List.getElem?_set_ne (fun e => hne e.symm)]
/-- a drawn region that makes two blocks: what follows is said once -/
theorem region_two {P : Program} {id : Nat} {ops : Array Oper} {Q : Exit → Act → World → Prop} {a : Act} {w : World} (F : Act → Nat → Nat → Act) (Fx : Nat → Nat → World → Prop) (H : (Code.region id ops true).wp P (fun e a' w' => ∃ g h, e = .normal ∧ a' = F a g h ∧ Fx g h w') a w) (K : ∀ g h W, Fx g h W → Q .normal (F a g h) W) : (Code.region id ops true).wp P Q a w :=
  Code.wp_mono (fun e a' w' ⟨g, h, e1, e2, e3⟩ => by subst e1 e2; exact K g h w' e3) H
set_option maxRecDepth 8000 in
theorem step_alloc34 {ops : Array Oper} {o : Oper} {a : Act} {w : World} {K : Act → World → Prop} {Q : Exit → Act → World → Prop} {E : Prop} (hgd : o.guard = none) (ho : o.op = .alloc 60)
    (h : ∀ g w', g = w.heap.size → w' = w.alloc (.cells oz.cells.toArray 60) → K (a.put o.dst (.pointer (some ⟨g, 0, none⟩))) w') :
    if Region.wanted o (yielded ops a.tmps) = true then Oper.wp Tryd.prog o a w K Q else E := by
  have hw : Region.wanted o (yielded ops a.tmps) = true := by simp [Region.wanted, hgd]
  rw [if_pos hw]
  unfold Oper.wp
  simp [execOp, ho, Result.andThen]
  exact h _ _ rfl rfl
/-- how the law stands: the store has L -/
structure Wb (w W : World) (q : Nat) (A' : Option Addr) (cap' : Nat) (ps : List Nat) (L : List Oj) (k : Ky) (s : Int) (x y : Ky) (N1 : Nat) : Prop where
  bel : Below w.heap.size w W
  st : StAt W q q A' cap' ps L
  ge : w.heap.size + 1 < q
  n1 : ∀ i, stHas q A' ps i → i < N1
  n2 : q < N1
  sz : N1 ≤ W.heap.size
  kk : Blk W w.heap.size 32 (kl k).toArray
  tw : Blk W (w.heap.size + 1) 50 (twc s x y)
/-- a block made later -/
structure Nb (N1 : Nat) (W : World) (g : Nat) (t : TypeId) (c : Array Value) : Prop where
  ge : N1 ≤ g
  blk : Blk W g t c
section
variable {w W W' W0 : World} {q : Nat} {A' : Option Addr} {cap' : Nat} {ps : List Nat} {L L' : List Oj} {k : Ky} {s : Int} {x y : Ky} {N1 g g' : Nat} {t : TypeId} {c : Array Value}
theorem Wb.below (h : Wb w W q A' cap' ps L k s x y N1) (hb : Below W.heap.size W W') : Wb w W' q A' cap' ps L k s x y N1 := ⟨h.bel.trans (hb.mono h.bel.size), h.st.below hb, h.ge, h.n1, h.n2, Nat.le_trans h.sz hb.size, h.kk.keep hb, h.tw.keep hb⟩
theorem Wb.alloc (h : Wb w W q A' cap' ps L k s x y N1) (o : Obj) : Wb w (W.alloc o) q A' cap' ps L k s x y N1 := h.below ((Below.refl _ _).alloc (Nat.le_refl _) _)
theorem Wb.drew (h : Wb w W q A' cap' ps L k s x y N1) : Wb w W.drew q A' cap' ps L k s x y N1 := h.below (below_drew (Below.refl _ _))
theorem Wb.set (h : Wb w W q A' cap' ps L k s x y N1) (hg : N1 ≤ g) (c : Array Value) : Wb w (W.setRow g c) q A' cap' ps L k s x y N1 :=
  ⟨below_setRow h.bel (by have h1 := h.ge; have h2 := h.n2; omega) c, h.st.keep fun i hi => setRow_other W g i c (by have := h.n1 i hi; omega), h.ge, h.n1, h.n2, by have := h.sz; simpa [World.setRow] using this, Blk.row_far h.kk (by have h1 := h.ge; have h2 := h.n2; omega) c, Blk.row_far h.tw (by have h1 := h.ge; have h2 := h.n2; omega) c⟩
theorem Wb.fr (h : Wb w W q A' cap' ps L k s x y N1) (hs : StAt W' q q A' cap' ps L') (hf : Fr (fun i => i ∈ ps) W W') : Wb w W' q A' cap' ps L' k s x y N1 :=
  ⟨h.bel.trans (hf.to_below (fun i hi => by have h1 := (h.st.pps i hi).1; have h2 := h.ge; omega) h.bel.size), hs, h.ge, h.n1, h.n2, Nat.le_trans h.sz hf.size, (hf.block _ h.kk.lt (fun hm => by have h1 := (h.st.pps _ hm).1; have h2 := h.ge; omega)).trans h.kk, (hf.block _ h.tw.lt (fun hm => by have h1 := (h.st.pps _ hm).1; have h2 := h.ge; omega)).trans h.tw⟩
theorem Nb.below (h : Nb N1 W g t c) (hb : Below W.heap.size W W') : Nb N1 W' g t c := ⟨h.ge, h.blk.keep hb⟩
theorem Nb.alloc (h : Nb N1 W g t c) (o : Obj) : Nb N1 (W.alloc o) g t c := ⟨h.ge, h.blk.alloc o⟩
theorem Nb.drew (h : Nb N1 W g t c) : Nb N1 W.drew g t c := h.below (below_drew (Below.refl _ _))
theorem Nb.set (h : Nb N1 W g t c) (hg : g ≠ g') (c' : Array Value) : Nb N1 (W.setRow g' c') g t c := ⟨h.ge, Blk.row_far h.blk hg c'⟩
theorem Nb.put {c' : Array Value} (h : Nb N1 W g t c') (c : Array Value) : Nb N1 (W.setRow g c) g t c := ⟨h.ge, h.blk.setRow c⟩
theorem Nb.fr (h : Nb N1 W g t c) (hw : Wb w W q A' cap' ps L k s x y N1) (hf : Fr (fun i => i ∈ ps) W W') : Nb N1 W' g t c := ⟨h.ge, (hf.block g h.blk.lt (fun hm => by have h1 := hw.n1 g (.inr (.inr hm)); have h2 := h.ge; omega)).trans h.blk⟩
theorem Nb.kat (h : Nb N1 W g t (kl x).toArray) : KeyAt W g 0 x := Blk.kat h.blk
set_option maxRecDepth 8000 in
theorem Nb.row {l : List Ky} (h : Nb N1 W g t (kcs l).toArray) {i : Nat} {z : Ky} (hz : l[i]? = some z) : KeyAt W g (i * 6) z := by
  obtain ⟨hi, rfl⟩ := List.getElem?_eq_some_iff.1 hz
  have := key_of_range h.blk.range i hi
  rwa [Nat.zero_add] at this
end
end Go.Proofs.YtliakhknmckdgaaDoor

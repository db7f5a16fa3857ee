/- law 11, SpacesTree: how all stands behind made: the law's own blocks beside a store. -/
import Derived.Test.YtjolojomgfcfbaaDoorWTb
import Derived.Test.YtjolojomgfcfbaaDoorWKn
import Derived.Test.YtjolojomgfcfbaaDoorWSa
namespace Go.Proofs.YtjolojomgfcfbaaDoor
open Go.RowKit
theorem Tt.below {s : Nat} {w W W' : World} {cx : Array Value} {l : List Oj} (h : Tt s w W cx l) (hs : s ≤ W.heap.size) (hb : Below W.heap.size W W') : Tt s w W' cx l := ⟨h.be.trans (hb.mono hs), h.bx.below hb h.bx.lt, h.bg.below hb h.bg.lt⟩
/-- blocks of the law, apart from one another and from the store -/
structure Tq (s : Nat) (w W : World) (E : List (Nat × TypeId × Array Value)) (q : Nat) (A : Option Addr) (cap : Nat) (ps : List Nat) (l : List Oj) : Prop where
  bl : ∀ e ∈ E, Blk W e.1 e.2.1 e.2.2
  ap : ∀ e ∈ E, ¬ stHas q A ps e.1
  nd : (E.map Prod.fst).Nodup
  be : Below s w W
  st : StAt W q q A cap ps l
  sq : s ≤ q
  sz : s ≤ W.heap.size
section
variable {s : Nat} {w W W' : World} {E : List (Nat × TypeId × Array Value)} {q : Nat} {A : Option Addr} {cap : Nat} {ps : List Nat} {l : List Oj}
theorem Tq.at_ (h : Tq s w W E q A cap ps l) (i : Nat) {g : Nat} {t : TypeId} {c : Array Value} (he : E[i]? = some (g, t, c)) : Blk W g t c := h.bl _ (List.mem_of_getElem? he)
theorem Tq.below (h : Tq s w W E q A cap ps l) (hb : Below W.heap.size W W') : Tq s w W' E q A cap ps l where
  bl := fun e he => (h.bl e he).below hb (h.bl e he).lt
  ap := h.ap
  nd := h.nd
  be := h.be.trans (hb.mono h.sz)
  st := h.st.below hb
  sq := h.sq
  sz := Nat.le_trans h.sz hb.size
set_option maxRecDepth 8000 in
theorem Tq.push (h : Tq s w W E q A cap ps l) (t : TypeId) (c : Array Value) : Tq s w (W.alloc (.cells c t)) ((W.heap.size, t, c) :: E) q A cap ps l where
  bl := fun e he => by
    rcases List.mem_cons.1 he with rfl | he
    · exact Blk.new W t c
    · exact (h.bl e he).alloc _
  ap := fun e he hk => by
    rcases List.mem_cons.1 he with rfl | he
    · exact absurd (h.st.lt _ hk).2 (Nat.lt_irrefl _)
    · exact h.ap e he hk
  nd := by
    rw [List.map_cons, List.nodup_cons]
    refine ⟨fun hm => ?_, h.nd⟩
    obtain ⟨e, he, hh⟩ := List.mem_map.1 hm
    have := (h.bl e he).lt
    simp only at hh
    omega
  be := h.be.alloc h.sz _
  st := h.st.alloc _
  sq := h.sq
  sz := by have := h.sz; simp; omega
set_option maxRecDepth 8000 in
theorem Tq.push2 (h : Tq s w W E q A cap ps l) (t t' : TypeId) (c c' : Array Value) : Tq s w ((W.alloc (.cells c t)).alloc (.cells c' t')) ((W.heap.size + 1, t', c') :: (W.heap.size, t, c) :: E) q A cap ps l := by
  have h2 := (h.push t c).push t' c'
  rwa [show (W.alloc (.cells c t)).heap.size = W.heap.size + 1 by simp] at h2
set_option maxRecDepth 8000 in
theorem Tq.row (h : Tq s w W E q A cap ps l) (i : Nat) {g : Nat} {t : TypeId} {c : Array Value} (he : E[i]? = some (g, t, c)) (hg : s ≤ g) (c' : Array Value) : Tq s w (W.setRow g c') (E.set i (g, t, c')) q A cap ps l where
  bl := fun e hm => by
    obtain ⟨j, hj⟩ := List.mem_iff_getElem?.1 hm
    rw [List.getElem?_set] at hj
    by_cases hij : i = j
    · rw [if_pos hij] at hj
      split at hj
      · injection hj with hj
        subst hj
        exact (h.at_ i he).setRow c'
      · cases hj
    · rw [if_neg hij] at hj
      refine Blk.row_far (h.bl e (List.mem_of_getElem? hj)) (fun hh => hij ?_) c'
      have h1 : (E.map Prod.fst)[j]? = some g := by rw [List.getElem?_map, hj, ← hh]; rfl
      have h2 : (E.map Prod.fst)[i]? = some g := by rw [List.getElem?_map, he]; rfl
      obtain ⟨l1, e1⟩ := List.getElem?_eq_some_iff.1 h1
      obtain ⟨l2, e2⟩ := List.getElem?_eq_some_iff.1 h2
      have hp := List.pairwise_iff_getElem.1 h.nd
      rcases Nat.lt_trichotomy i j with hlt | rfl | hlt
      · exact absurd (e2.trans e1.symm) (hp i j l2 l1 hlt)
      · rfl
      · exact absurd (e1.trans e2.symm) (hp j i l1 l2 hlt)
  ap := fun e hm hk => by
    obtain ⟨j, hj⟩ := List.mem_iff_getElem?.1 hm
    rw [List.getElem?_set] at hj
    by_cases hij : i = j
    · rw [if_pos hij] at hj
      split at hj
      · injection hj with hj
        subst hj
        exact h.ap _ (List.mem_of_getElem? he) hk
      · cases hj
    · rw [if_neg hij] at hj
      exact h.ap e (List.mem_of_getElem? hj) hk
  nd := by
    have h2 : (E.map Prod.fst)[i]? = some g := by rw [List.getElem?_map, he]; rfl
    obtain ⟨l2, e2⟩ := List.getElem?_eq_some_iff.1 h2
    rw [List.map_set, show (E.map Prod.fst).set i g = E.map Prod.fst by rw [← e2]; exact List.set_getElem_self l2]
    exact h.nd
  be := below_setRow h.be hg c'
  st := h.st.keep fun k hk => setRow_other W g k c' (fun e => h.ap _ (List.mem_of_getElem? he) (e ▸ hk))
  sq := h.sq
  sz := by have := h.sz; simpa [World.setRow] using this
/-- a store into the space -/
theorem Tq.wrote {l' : List Oj} (h : Tq s w W E q A cap ps l) (hs : StAt W' q q A cap ps l') (hf : Fr (fun k => k ∈ ps) W W') : Tq s w W' E q A cap ps l' where
  bl := fun e he => (hf.block e.1 (h.bl e he).lt (fun hm => h.ap e he (.inr (.inr hm)))).trans (h.bl e he)
  ap := h.ap
  nd := h.nd
  be := h.be.trans (hf.to_below (fun k hk => by have := (h.st.pps k hk).1; have := h.sq; omega) h.sz)
  st := hs
  sq := h.sq
  sz := Nat.le_trans h.sz hf.size
theorem wpList_store_tq {ops : Array Oper} {op : Oper} {a : Act} {Q : Exit → Act → World → Prop} {rest : List Oper} (T : Tq s w W E q A cap ps l) (i : Nat) {g : Nat} {t ty : TypeId} {l0 l1 : List Value} (he : E[i]? = some (g, t, l0.toArray)) (hg : s ≤ g) (hgd : op.guard = none) (x y : Operand) (ho : op.op = .store ty x y) (hx : a.eval x = .pointer (some ⟨g, 0, none⟩)) (hy : a.eval y = .agg l1.toArray)
    (hs : (Tryd.prog.info? ty).map (·.size) = some l1.length) (hl : l0.length = l1.length) (h1 : ∀ u ∈ l1, u.oneCell' = true) (h : ∀ W', Tq s w W' (E.set i (g, t, l1.toArray)) q A cap ps l → wpList Tryd.prog ops Q rest (a.put op.dst undef) W') : wpList Tryd.prog ops Q (op :: rest) a W :=
  wpList_store_big (T.at_ i he) hgd x y ho hx hy hs hl h1 (h _ (T.row i he hg _))
set_option maxRecDepth 8000 in
theorem tq_made {q : Nat} {cx : Array Value} {L : List Oj} (T : Tt s w W cx L) (hs : s ≤ W.heap.size) (hq : W.heap.size ≤ q) (hst : StAt W' q q A cap ps l) (hb : Below W.heap.size W W') : Tq s w W' [(s, 24, cx)] q A cap ps l where
  bl := fun e he => by
    rw [List.mem_singleton.1 he]
    exact T.bx.below hb T.bx.lt
  ap := fun e he hk => by
    rw [List.mem_singleton.1 he] at hk
    have h1 := (hst.lt _ hk).1
    have h2 := T.bx.lt
    simp only at h1
    omega
  nd := by simp
  be := T.be.trans (hb.mono hs)
  st := hst
  sq := by omega
  sz := Nat.le_trans hs hb.size
end
end Go.Proofs.YtjolojomgfcfbaaDoor

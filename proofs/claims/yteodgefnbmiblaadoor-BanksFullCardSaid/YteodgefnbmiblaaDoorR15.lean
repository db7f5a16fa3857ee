/- The document's answers: Got, May. -/
import Derived.Test.YteodgefnbmiblaaDoorR14
import Derived.Test.YteodgefnbmiblaaDoorR08
import Derived.Test.YteodgefnbmiblaaDoorR07
import Derived.Test.YteodgefnbmiblaaDoorR13
namespace Go.Proofs.YteodgefnbmiblaaDoor
open Go.RowKit
section
variable {w : World} {A : Option Addr} {l : List Oj} {n cap : Nat}
theorem cell_eq {w : World} {p : Addr} {a b : Int} (h : w.cell? p = some (.int .i64 a)) (e : a = b) : w.cell? p = some (.int .i64 b) := e ▸ h
end
end Go.Proofs.YteodgefnbmiblaaDoor
namespace Go.Proofs.YteodgefnbmiblaaDoor
open Go.RowKit
set_option maxRecDepth 8000 in
theorem built30 : Tryd.prog.built 33 [] = some (kl zk).toArray := by kernel_rfl
section
variable {w : World} {A : Option Addr} {l : List Oj} {n cap : Nat}
theorem obj_at (hr : RdO w A l) (j : Nat) (hj : j < l.length) : ∃ b off, A = some ⟨b, off, none⟩ ∧ ObAt w b (off + j * 163) l[j] := hr j hj
theorem RdO.far {g : Nat} {b : Nat} (h : RdO w (some ⟨g, 0, none⟩) l) (hb : b ≠ g) (c : Array Value) : RdO (w.setRow b c) (some ⟨g, 0, none⟩) l := fun i hi => by
  obtain ⟨b', off, e, ho⟩ := h i hi
  injection e with e
  injection e with e1 e2
  subst e1 e2
  exact ⟨_, _, rfl, ho.keep (setRow_other w b _ c (Ne.symm hb))⟩
end
end Go.Proofs.YteodgefnbmiblaaDoor
namespace Go.Proofs.YteodgefnbmiblaaDoor
open Go.RowKit
section
variable {w : World} {A : Option Addr} {l : List Oj} {n cap : Nat}
set_option maxRecDepth 8000 in
theorem slots_fit (o : Oj) (s : List Ky) (hs : s.length = 16) : (o.cells.take 3 ++ kcs s ++ o.cells.drop (3 + (kcs s).length)) = (slotsAs o s hs).cells := by
  have h1 : (kcs o.s).length = 96 := kcs_len o.hs
  have h2 : (kcs s).length = 96 := kcs_len hs
  unfold Oj.cells slotsAs
  simp [h1, h2]
set_option maxRecDepth 8000 in
theorem zks_sz : (Tryd.prog.info? 44).map (·.size) = some (kcs zks).length := by rw [zks_len]; exact size31
set_option maxRecDepth 8000 in
theorem gots_cut (os : List Oj) (y : Ky) (t u : Oj) (i : Nat) (hi : i < 16) : ((t.s.take i).map (gotK os y) ++ u.s.drop i).set i (gotK os y (t.s[i]'(by rw [t.hs]; exact hi))) = (t.s.take (i + 1)).map (gotK os y) ++ u.s.drop (i + 1) := by
  have ht : (t.s.take i).length = i := by rw [List.length_take, t.hs]; omega
  rw [List.set_append_right _ _ (by rw [List.length_map, ht]; exact Nat.le_refl _), List.length_map, ht, Nat.sub_self, List.drop_eq_getElem_cons (by rw [u.hs]; exact hi), List.set_cons_zero, List.take_succ_eq_append_getElem (by rw [t.hs]; exact hi), List.map_append]
  simp
set_option maxRecDepth 8000 in
theorem gots_cut_len (os : List Oj) (y : Ky) (t u : Oj) (i : Nat) (hi : i ≤ 16) : ((t.s.take i).map (gotK os y) ++ u.s.drop i).length = 16 := by
  rw [List.length_append, List.length_map, List.length_take, List.length_drop, t.hs, u.hs]; omega
/-- the object that is made by Clone, with i of its slots -/
noncomputable def cutO (os : List Oj) (y : Ky) (t u : Oj) (i : Nat) (hi : i ≤ 16) : Oj := slotsAs u ((t.s.take i).map (gotK os y) ++ u.s.drop i) (gots_cut_len os y t u i hi)
set_option maxRecDepth 8000 in
theorem cutO_zero (os : List Oj) (y : Ky) (t u : Oj) : cutO os y t u 0 (by omega) = u := by
  unfold cutO slotsAs
  simp
set_option maxRecDepth 8000 in
theorem cutO_all (os : List Oj) (y : Ky) (t u : Oj) : cutO os y t u 16 (by omega) = slotsAs u (gots os y t) (gots_len os y t) := by
  have h1 : (t.s.take 16) = t.s := List.take_of_length_le (by rw [t.hs]; omega)
  have h2 : (u.s.drop 16) = [] := List.drop_of_length_le (by rw [u.hs]; omega)
  unfold cutO slotsAs gots
  simp [h1, h2]
set_option maxRecDepth 8000 in
theorem cutO_succ (os : List Oj) (y : Ky) (t u : Oj) (i : Nat) (hi : i < 16) (z : Ky) (hz : t.s[i]? = some z) : slotAs (cutO os y t u i (by omega)) i (gotK os y z) = cutO os y t u (i + 1) hi := by
  have ht : i < t.s.length := by rw [t.hs]; exact hi
  rw [List.getElem?_eq_getElem ht] at hz
  injection hz with hz
  subst hz
  have := gots_cut os y t u i hi
  unfold cutO slotsAs slotAs
  simp only [this]
structure Clw (w wr : World) (g : Nat) (x v : Ky) (l : List Oj) (u t : Oj) (A : Option Addr) (n : Nat) : Prop where
  bel : Below w.heap.size w wr
  kx : Blk wr w.heap.size 33 (kc x.k x.o x.c x.l x.r x.v)
  kv : Blk wr (w.heap.size + 1) 33 (kc v.k v.o v.c v.l v.r v.v)
  ro : RdO wr A l
  ob : ∃ h : n ≤ 16, Blk wr g 47 (cutO l v t u n h).cells.toArray
end
end Go.Proofs.YteodgefnbmiblaaDoor
namespace Go.Proofs.YteodgefnbmiblaaDoor
open Go.RowKit
section
variable {w : World} {base p : Nat} {A : Option Addr} {cap : Nat} {ps : List Nat} {os : List Oj} {kt it pt : TypeId} {S K I V : Nat}
theorem Blk.one {g : Nat} {t : TypeId} {v : Value} (h : Blk w g t #[v]) : w.cell? ⟨g, 0, none⟩ = some v := h.cell 0
set_option maxRecDepth 8000 in
theorem asks_nil (P : Value) (x : Ky) (hP : P = .pointer none ∨ ∃ q base A cap ps, P = pv q ∧ StAt w base q A cap ps []) : Calls Tryd.prog 86 #[P, x.val] w fun e w' => e = .panicked (erc 1) ∧ Below w.heap.size w w' := by
  rcases hP with rfl | ⟨q, base, A, cap, ps, rfl, h⟩
  · exact ask_nil x
  · exact ask_none h x
set_option maxRecDepth 8000 in
theorem opens_nil (P : Value) (x : Ky) (hP : P = .pointer none ∨ ∃ q base A cap ps, P = pv q ∧ StAt w base q A cap ps []) : Calls Tryd.prog 79 #[P, x.val] w fun e w' => e = .panicked (erc 1) ∧ Below w.heap.size w w' := by
  rcases hP with rfl | ⟨q, base, A, cap, ps, rfl, h⟩
  · exact open_nil x
  · exact open_none h x
set_option maxRecDepth 8000 in
theorem nost_below {P : Value} {w' : World} (hP : P = .pointer none ∨ ∃ q base A cap ps, P = pv q ∧ StAt w base q A cap ps []) (hb : Below w.heap.size w w') : P = .pointer none ∨ ∃ q base A cap ps, P = pv q ∧ StAt w' base q A cap ps [] := by
  rcases hP with rfl | ⟨q, base, A, cap, ps, rfl, h⟩
  · exact .inl rfl
  · exact .inr ⟨q, base, A, cap, ps, rfl, h.below hb⟩
end
end Go.Proofs.YteodgefnbmiblaaDoor

/- The document's answers: Got, May. -/
import Derived.Test.YtaoailohihoclaaDoorR14
import Derived.Test.YtaoailohihoclaaDoorR08
import Derived.Test.YtaoailohihoclaaDoorR07
import Derived.Test.YtaoailohihoclaaDoorR13
namespace Go.Proofs.YtaoailohihoclaaDoor
open Go.RowKit
section
variable {w : World} {A : Option Addr} {l : List Oj} {n cap : Nat}
theorem cell_eq {w : World} {p : Addr} {a b : Int} (h : w.cell? p = some (.int .i64 a)) (e : a = b) : w.cell? p = some (.int .i64 b) := e ▸ h
set_option maxRecDepth 100000 in
set_option maxHeartbeats 2000000 in
theorem rmay_bad (n cap : Nat) (A : Option Addr) (v : Ky) (hv : ¬ v.ok) (w : World) :
    Calls Tryd.prog 66 #[.slice A n cap, v.val] w fun e w' => e = .returned (.bool false) ∧ Below w.heap.size w w' := by
  have HB0 := Lib.hid ((Below.refl w.heap.size w).alloc (Nat.le_refl _) (.cells (kc v.k v.o v.c v.l v.r v.v) 33))
  have HK0 := Lib.hid (Blk.new w 33 (kc v.k v.o v.c v.l v.r v.v))
  obtain ⟨c0, c1, c2, c3, c4, c5⟩ := HK0.out.six
  have HV := Lib.hid hv
  clear hv
  go_enter Tryd.func66, Tryd.ntmps66
  go_wp2_with (first
    | (go_at_call 21; refine (Ky.chk_no HV.out ▸ rchk_any v _).mono ?_; rintro e w1 ⟨rfl, b1⟩; have HB1 := Lib.hid (HB0.out.trans (b1.mono HB0.out.size)); have HK1 := Lib.hid (HK0.out.keep b1); clear c0 c1 c2 c3 c4 c5; obtain ⟨c0, c1, c2, c3, c4, c5⟩ := HK1.out.six; clear b1))
  go_ret
  exact ⟨rfl, HB1.out⟩
set_option maxRecDepth 100000 in
set_option maxHeartbeats 2000000 in
theorem rmay_of (n cap : Nat) (A : Option Addr) (v : Ky) (hv : v.of) (w : World) :
    Calls Tryd.prog 66 #[.slice A n cap, v.val] w fun e w' => e = .returned (.bool (decide (v.o < (n : Int)))) ∧ Below w.heap.size w w' := by
  have HB0 := Lib.hid ((Below.refl w.heap.size w).alloc (Nat.le_refl _) (.cells (kc v.k v.o v.c v.l v.r v.v) 33))
  have HK0 := Lib.hid (Blk.new w 33 (kc v.k v.o v.c v.l v.r v.v))
  obtain ⟨c0, c1, c2, c3, c4, c5⟩ := HK0.out.six
  have HV := Lib.hid hv
  clear hv
  go_enter Tryd.func66, Tryd.ntmps66
  go_wp2_with (first
    | (go_at_call 21; refine (Ky.chk_yes HV.out.1 ▸ rchk_any v _).mono ?_; rintro e w1 ⟨rfl, b1⟩; have HB1 := Lib.hid (HB0.out.trans (b1.mono HB0.out.size)); have HK1 := Lib.hid (HK0.out.keep b1); clear c0 c1 c2 c3 c4 c5; obtain ⟨c0, c1, c2, c3, c4, c5⟩ := HK1.out.six; clear b1)
    | (go_at_call 84; refine (rname_yes v _ HV.out).mono ?_; rintro e w2 ⟨rfl, b2⟩; have HB2 := Lib.hid (HB1.out.trans (b2.mono HB1.out.size)); clear b2))
  go_ret
  exact ⟨rfl, HB2.out⟩
set_option maxRecDepth 100000 in
set_option maxHeartbeats 2000000 in
theorem rmay_not (n cap : Nat) (A : Option Addr) (v : Ky) (hv : v.ok) (hf : ¬ v.of) (w : World) :
    Calls Tryd.prog 66 #[.slice A n cap, v.val] w fun e w' => e = .returned (.bool true) ∧ Below w.heap.size w w' := by
  have HB0 := Lib.hid ((Below.refl w.heap.size w).alloc (Nat.le_refl _) (.cells (kc v.k v.o v.c v.l v.r v.v) 33))
  have HK0 := Lib.hid (Blk.new w 33 (kc v.k v.o v.c v.l v.r v.v))
  obtain ⟨c0, c1, c2, c3, c4, c5⟩ := HK0.out.six
  have HV := Lib.hid hv
  have HF := Lib.hid hf
  have dn : decide ((-1 : Int) < (n : Int)) = true := decide_eq_true (by omega)
  clear hv hf
  go_enter Tryd.func66, Tryd.ntmps66
  go_wp2_with (first
    | (go_at_call 21; refine (Ky.chk_yes HV.out ▸ rchk_any v _).mono ?_; rintro e w1 ⟨rfl, b1⟩; have HB1 := Lib.hid (HB0.out.trans (b1.mono HB0.out.size)); have HK1 := Lib.hid (HK0.out.keep b1); clear c0 c1 c2 c3 c4 c5; obtain ⟨c0, c1, c2, c3, c4, c5⟩ := HK1.out.six; clear b1)
    | (go_at_call 84; refine (rname_no v _ HF.out).mono ?_; rintro e w2 ⟨rfl, b2⟩; have HB2 := Lib.hid (HB1.out.trans (b2.mono HB1.out.size)); clear b2))
  go_ret
  exact ⟨rfl, HB2.out⟩
set_option maxRecDepth 8000 in
theorem rmay_y (n cap : Nat) (A : Option Addr) (v : Ky) (hv : v.may n) (w : World) :
    Calls Tryd.prog 66 #[.slice A n cap, v.val] w fun e w' => e = .returned (.bool true) ∧ Below w.heap.size w w' := by
  by_cases hf : v.of
  · have := rmay_of n cap A v hf w
    rwa [show decide (v.o < (n : Int)) = true by simpa using hv.2 hf] at this
  · exact rmay_not n cap A v hv.1 hf w
set_option maxRecDepth 8000 in
theorem rmay_n (n cap : Nat) (A : Option Addr) (v : Ky) (hv : ¬ v.may n) (w : World) :
    Calls Tryd.prog 66 #[.slice A n cap, v.val] w fun e w' => e = .returned (.bool false) ∧ Below w.heap.size w w' := by
  by_cases hk : v.ok
  · by_cases hf : v.of
    · have := rmay_of n cap A v hf w
      rwa [show decide (v.o < (n : Int)) = false by simp; by_cases h : v.o < (n : Int); exact absurd ⟨hk, fun _ => h⟩ hv; omega] at this
    · exact absurd ⟨hk, fun h => absurd h hf⟩ hv
  · exact rmay_bad n cap A v hk w
end
end Go.Proofs.YtaoailohihoclaaDoor
namespace Go.Proofs.YtaoailohihoclaaDoor
open Go.RowKit
set_option maxRecDepth 8000 in
theorem built30 : Tryd.prog.built 33 [] = some (kl zk).toArray := by kernel_rfl
section
variable {w : World} {A : Option Addr} {l : List Oj} {n cap : Nat}
theorem obj_at (hr : RdO w A l) (j : Nat) (hj : j < l.length) : ∃ b off, A = some ⟨b, off, none⟩ ∧ ObAt w b (off + j * 163) l[j] := hr j hj
theorem RdO.far {g : Nat} {b : Nat} (h : RdO w (some ⟨g, 0, none⟩) l) (hb : b ≠ g) (c : Array Value) : RdO (w.setRow b c) (some ⟨g, 0, none⟩) l := fun i hi => by
  obtain ⟨b', off, e, ho⟩ := h i hi
  injection e with e
  injection e with e1 e2
  subst e1 e2
  exact ⟨_, _, rfl, ho.keep (setRow_other w b _ c (Ne.symm hb))⟩
end
end Go.Proofs.YtaoailohihoclaaDoor
namespace Go.Proofs.YtaoailohihoclaaDoor
open Go.RowKit
section
variable {w : World} {A : Option Addr} {l : List Oj} {n cap : Nat}
set_option maxRecDepth 8000 in
theorem slots_fit (o : Oj) (s : List Ky) (hs : s.length = 16) : (o.cells.take 3 ++ kcs s ++ o.cells.drop (3 + (kcs s).length)) = (slotsAs o s hs).cells := by
  have h1 : (kcs o.s).length = 96 := kcs_len o.hs
  have h2 : (kcs s).length = 96 := kcs_len hs
  unfold Oj.cells slotsAs
  simp [h1, h2]
set_option maxRecDepth 8000 in
theorem zks_sz : (Tryd.prog.info? 53).map (·.size) = some (kcs zks).length := by rw [zks_len]; exact size31
set_option maxRecDepth 8000 in
theorem gots_cut (os : List Oj) (y : Ky) (t u : Oj) (i : Nat) (hi : i < 16) : ((t.s.take i).map (gotK os y) ++ u.s.drop i).set i (gotK os y (t.s[i]'(by rw [t.hs]; exact hi))) = (t.s.take (i + 1)).map (gotK os y) ++ u.s.drop (i + 1) := by
  have ht : (t.s.take i).length = i := by rw [List.length_take, t.hs]; omega
  rw [List.set_append_right _ _ (by rw [List.length_map, ht]; exact Nat.le_refl _), List.length_map, ht, Nat.sub_self, List.drop_eq_getElem_cons (by rw [u.hs]; exact hi), List.set_cons_zero, List.take_succ_eq_append_getElem (by rw [t.hs]; exact hi), List.map_append]
  simp
set_option maxRecDepth 8000 in
theorem gots_cut_len (os : List Oj) (y : Ky) (t u : Oj) (i : Nat) (hi : i ≤ 16) : ((t.s.take i).map (gotK os y) ++ u.s.drop i).length = 16 := by
  rw [List.length_append, List.length_map, List.length_take, List.length_drop, t.hs, u.hs]; omega
/-- the object that is made by Clone, with i of its slots -/
noncomputable def cutO (os : List Oj) (y : Ky) (t u : Oj) (i : Nat) (hi : i ≤ 16) : Oj := slotsAs u ((t.s.take i).map (gotK os y) ++ u.s.drop i) (gots_cut_len os y t u i hi)
set_option maxRecDepth 8000 in
theorem cutO_zero (os : List Oj) (y : Ky) (t u : Oj) : cutO os y t u 0 (by omega) = u := by
  unfold cutO slotsAs
  simp
set_option maxRecDepth 8000 in
theorem cutO_all (os : List Oj) (y : Ky) (t u : Oj) : cutO os y t u 16 (by omega) = slotsAs u (gots os y t) (gots_len os y t) := by
  have h1 : (t.s.take 16) = t.s := List.take_of_length_le (by rw [t.hs]; omega)
  have h2 : (u.s.drop 16) = [] := List.drop_of_length_le (by rw [u.hs]; omega)
  unfold cutO slotsAs gots
  simp [h1, h2]
set_option maxRecDepth 8000 in
theorem cutO_succ (os : List Oj) (y : Ky) (t u : Oj) (i : Nat) (hi : i < 16) (z : Ky) (hz : t.s[i]? = some z) : slotAs (cutO os y t u i (by omega)) i (gotK os y z) = cutO os y t u (i + 1) hi := by
  have ht : i < t.s.length := by rw [t.hs]; exact hi
  rw [List.getElem?_eq_getElem ht] at hz
  injection hz with hz
  subst hz
  have := gots_cut os y t u i hi
  unfold cutO slotsAs slotAs
  simp only [this]
structure Clw (w wr : World) (g : Nat) (x v : Ky) (l : List Oj) (u t : Oj) (A : Option Addr) (n : Nat) : Prop where
  bel : Below w.heap.size w wr
  kx : Blk wr w.heap.size 33 (kc x.k x.o x.c x.l x.r x.v)
  kv : Blk wr (w.heap.size + 1) 33 (kc v.k v.o v.c v.l v.r v.v)
  ro : RdO wr A l
  ob : ∃ h : n ≤ 16, Blk wr g 56 (cutO l v t u n h).cells.toArray
end
end Go.Proofs.YtaoailohihoclaaDoor
namespace Go.Proofs.YtaoailohihoclaaDoor
open Go.RowKit
section
variable {w : World} {base p : Nat} {A : Option Addr} {cap : Nat} {ps : List Nat} {os : List Oj} {kt it pt : TypeId} {S K I V : Nat}
theorem Blk.one {g : Nat} {t : TypeId} {v : Value} (h : Blk w g t #[v]) : w.cell? ⟨g, 0, none⟩ = some v := h.cell 0
set_option maxRecDepth 8000 in
theorem nost_below {P : Value} {w' : World} (hP : P = .pointer none ∨ ∃ q base A cap ps, P = pv q ∧ StAt w base q A cap ps []) (hb : Below w.heap.size w w') : P = .pointer none ∨ ∃ q base A cap ps, P = pv q ∧ StAt w' base q A cap ps [] := by
  rcases hP with rfl | ⟨q, base, A, cap, ps, rfl, h⟩
  · exact .inl rfl
  · exact .inr ⟨q, base, A, cap, ps, rfl, h.below hb⟩
end
end Go.Proofs.YtaoailohihoclaaDoor

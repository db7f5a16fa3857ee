/- nodes: what each call answers, of any store: plain. -/
import Derived.Test.YtfckdbennjkgoaaDoorR18
import Derived.Test.YtfckdbennjkgoaaDoorR20
namespace Go.Proofs.YtfckdbennjkgoaaDoor
open Go.RowKit
/-- it is the key of a node that counts -/
def askN (os : List Oj) (x : Ky) : Prop := (named os x).isSome = true ∧ x.k = 2
structure AskD (os : List Oj) (x : Ky) (j : Nat) (u : Oj) : Prop where
  nm : named os x = some u
  k : x.k = 2
  ok : x.ok
  o : x.o = (j : Int)
  lt : j < os.length
  at_ : os[j] = u
  uk : u.k = 1
set_option maxRecDepth 8000 in
theorem askN_d {os : List Oj} {x : Ky} (h : askN os x) : ∃ j u, AskD os x j u := by
  obtain ⟨h1, h2⟩ := h
  have hof := named_of h1
  have hok := hof.1
  have h3 := named_is (os := os) hof
  obtain ⟨u, hu⟩ := Option.isSome_iff_exists.1 h1
  rw [hu] at h3
  have h4 := Option.filter_eq_some_iff.1 h3.symm
  obtain ⟨h5, h6⟩ := h4
  obtain ⟨hlt, hat⟩ := List.getElem?_eq_some_iff.1 h5
  have ho : 0 ≤ x.o := by
    obtain ⟨n, hk, hn, o0, _⟩ := hok
    exact o0
  refine ⟨x.o.toNat, u, hu, h2, hok, by omega, hlt, hat, ?_⟩
  have h7 : x.ok ∧ (x.of → x.want = u.k ∧ x.c = u.c ∧ (x.k ≠ 7 ∨ x.l = u.l)) := by
    have : x.cnt u.k u.c u.l = true := h6
    unfold Ky.cnt at this
    simpa using this
  have h8 := (h7.2 hof).1
  unfold Ky.want at h8
  rw [if_pos hof, if_neg (by omega)] at h8
  exact h8.symm
theorem AskD.is {os : List Oj} {x : Ky} {j : Nat} {u : Oj} (h : AskD os x j u) : askN os x := ⟨by rw [h.nm]; rfl, h.k⟩
set_option maxRecDepth 8000 in
theorem AskD.eq {os : List Oj} {x : Ky} {j : Nat} {u : Oj} (h : AskD os x j u) : (named os x).getD oz = u := by rw [h.nm]; rfl
set_option maxRecDepth 8000 in
theorem AskD.jn {os : List Oj} {x : Ky} {j : Nat} {u : Oj} (h : AskD os x j u) : x.o.toNat = j := by have := h.o; omega
set_option maxRecDepth 8000 in
-- what is put may be there
theorem prepd_may (os : List Oj) (v : Ky) : (prepd os v).may os.length := by
  unfold prepd
  by_cases h : ((named os v).isSome || v.cn oz) = true
  · rw [if_pos h]
    by_cases h1 : (named os v).isSome = true
    · have hof := named_of h1
      refine ⟨hof.1, fun _ => ?_⟩
      have h3 := named_is (os := os) hof
      obtain ⟨u, hu⟩ := Option.isSome_iff_exists.1 h1
      rw [hu] at h3
      obtain ⟨hlt, _⟩ := List.getElem?_eq_some_iff.1 (Option.filter_eq_some_iff.1 h3.symm).1
      have ho : 0 ≤ v.o := by
        obtain ⟨n, hk, hn, o0, _⟩ := hof.1
        exact o0
      omega
    · have h2 : v.cn oz = true := by
        rcases Bool.or_eq_true_iff.1 h with h' | h'
        · exact absurd h' h1
        · exact h'
      obtain ⟨h3, h4⟩ := cn_oz.1 h2
      exact ⟨h3, fun hf => absurd hf h4⟩
  · rw [if_neg h]
    exact zk_may _
set_option maxRecDepth 8000 in
theorem weak_may {n : Int} {x : Ky} (h : x.may n) : x.weak.may n := by
  refine ⟨weak_ok h.1, fun hf => ?_⟩
  by_cases h1 : x.k = 0 ∨ x.k = 1 ∨ x.k = 8
  · rw [weak_self h1] at hf ⊢
    exact h.2 hf
  · by_cases h2 : x.k = 2 ∨ x.k = 3
    · rw [weak_less h2] at hf ⊢
      exact h.2 ⟨h.1, hf.2⟩
    · rw [weak_void (by omega)] at hf
      exact absurd hf.2.1 (by simp)
set_option maxRecDepth 8000 in
theorem gotK_may (os : List Oj) (x y : Ky) : (gotK os x y).may os.length := by
  unfold gotK
  by_cases h : x.r / 2 % 2 = 1
  · rw [if_pos h]
    exact weak_may (prepd_may os y)
  · rw [if_neg h]
    exact prepd_may os y
set_option maxRecDepth 8000 in
theorem gots_may (os : List Oj) (x : Ky) (u : Oj) : mayS os.length (gots os x u) := by
  intro y hy
  obtain ⟨z, _, rfl⟩ := List.mem_map.1 hy
  exact gotK_may os x z
theorem zks_may (n : Int) : mayS n zks := fun y hy => by
  rw [List.eq_of_mem_replicate (show y ∈ List.replicate 16 zk from hy)]
  exact zk_may n
set_option maxRecDepth 8000 in
theorem node_may {n : Int} {u : Oj} (h : u.ok n) (hk : u.k = 1) : mayS n u.s := by
  rcases h.2.2.2 with h1 | h1 | h1
  · exact h1.2
  · have := h1.1; omega
  · have := h1.1; omega
theorem slotsAs_ok {n : Int} {u : Oj} (h : u.ok n) (hk : u.k = 1) (s : List Ky) (hs : s.length = 16) (hm : mayS n s) : (slotsAs u s hs).ok n := ⟨h.1, h.2.1, h.2.2.1, .inl ⟨hk, hm⟩⟩
theorem set_may {n : Int} {s : List Ky} (h : mayS n s) (i : Nat) {v : Ky} (hv : v.may n) : mayS n (s.set i v) := fun y hy => by
  rcases List.mem_or_eq_of_mem_set hy with h' | rfl
  · exact h y h'
  · exact hv
theorem okAll_set {n : Int} {os : List Oj} (h : okAll n os) (j : Nat) {o : Oj} (ho : o.ok n) : okAll n (os.set j o) := fun y hy => by
  rcases List.mem_or_eq_of_mem_set hy with h' | rfl
  · exact h y h'
  · exact ho
theorem AskD.okU {os : List Oj} {x : Ky} {j : Nat} {u : Oj} (h : AskD os x j u) (ho : okAll os.length os) : u.ok os.length := ho u (h.at_ ▸ List.getElem_mem h.lt)
theorem put_oku {os : List Oj} {x : Ky} {j : Nat} {u : Oj} (h : AskD os x j u) (ho : okAll os.length os) (i : Nat) (v : Ky) : (slotAs u i (prepd os v)).ok os.length := slotsAs_ok (h.okU ho) h.uk (u.s.set i (prepd os v)) (by rw [List.length_set]; exact u.hs) (set_may (node_may (h.okU ho) h.uk) i (prepd_may os v))
-- the answers
open Classical in
noncomputable def askA (os : List Oj) (x : Ky) : Int := if askN os x then 0 else 190
open Classical in
noncomputable def opnA (os : List Oj) (x : Ky) : Int := if askN os x then (if x.r % 4 = 0 then 0 else 191) else 190
open Classical in
noncomputable def getA (os : List Oj) (x : Ky) (i : Int) : Ky × Int := if askN os x then (if 0 ≤ i ∧ i < 16 then (gotK os x ((((named os x).getD oz).s[i.toNat]?).getD zk), 0) else (zk, 4)) else (zk, 190)
open Classical in
noncomputable def putA (os : List Oj) (x : Ky) (i : Int) (v : Ky) : List Oj × Ky × Int :=
  if askN os x then (if x.r % 4 = 0 then (if 0 ≤ i ∧ i < 16 then (if v.may os.length then (os.set x.o.toNat (slotAs ((named os x).getD oz) i.toNat (prepd os v)), gotK os x ((((named os x).getD oz).s[i.toNat]?).getD zk), 0) else (os, zk, 2)) else (os, zk, 4)) else (os, zk, 191)) else (os, zk, 190)
open Classical in
noncomputable def cleA (os : List Oj) (x : Ky) : List Oj × Int := if askN os x then (if x.r % 4 = 0 then (os.set x.o.toNat (slotsAs ((named os x).getD oz) zks rfl), 0) else (os, 191)) else (os, 190)
open Classical in
noncomputable def cloA (os : List Oj) (x y : Ky) : List Oj × Int := if askN os x then (if x.r % 4 = 0 then (if askN os y then (os.set x.o.toNat (slotsAs ((named os x).getD oz) (gots os y ((named os y).getD oz)) (gots_len _ _ _)), 0) else (os, 190)) else (os, 191)) else (os, 190)
set_option maxRecDepth 8000 in
theorem putA_len (os : List Oj) (x : Ky) (i : Int) (v : Ky) : (putA os x i v).1.length = os.length := by
  unfold putA
  split <;> (try split) <;> (try split) <;> (try split) <;> simp
set_option maxRecDepth 8000 in
theorem cleA_len (os : List Oj) (x : Ky) : (cleA os x).1.length = os.length := by
  unfold cleA
  split <;> (try split) <;> simp
set_option maxRecDepth 8000 in
theorem cloA_len (os : List Oj) (x y : Ky) : (cloA os x y).1.length = os.length := by
  unfold cloA
  split <;> (try split) <;> (try split) <;> simp
set_option maxRecDepth 8000 in
theorem putA_ok {os : List Oj} (ho : okAll os.length os) (x : Ky) (i : Int) (v : Ky) : okAll os.length (putA os x i v).1 := by
  unfold putA
  split
  · next h =>
    split
    · split
      · split
        · obtain ⟨j, u, d⟩ := askN_d h
          rw [d.eq]
          exact okAll_set ho _ (put_oku d ho _ _)
        · exact ho
      · exact ho
    · exact ho
  · exact ho
set_option maxRecDepth 8000 in
theorem cleA_ok {os : List Oj} (ho : okAll os.length os) (x : Ky) : okAll os.length (cleA os x).1 := by
  unfold cleA
  split
  · next h =>
    split
    · obtain ⟨j, u, d⟩ := askN_d h
      rw [d.eq]
      exact okAll_set ho _ (slotsAs_ok (d.okU ho) d.uk _ _ (zks_may _))
    · exact ho
  · exact ho
set_option maxRecDepth 8000 in
theorem cloA_ok {os : List Oj} (ho : okAll os.length os) (x y : Ky) : okAll os.length (cloA os x y).1 := by
  unfold cloA
  split
  · next h =>
    split
    · split
      · obtain ⟨j, u, d⟩ := askN_d h
        simp only [d.eq]
        exact okAll_set ho _ (slotsAs_ok (d.okU ho) d.uk _ _ (gots_may _ _ _))
      · exact ho
    · exact ho
  · exact ho
end Go.Proofs.YtfckdbennjkgoaaDoor
namespace Go.Proofs.YtfckdbennjkgoaaDoor
open Go.RowKit
section
variable {w : World} {base p : Nat} {A : Option Addr} {cap : Nat} {ps : List Nat} {os : List Oj}
theorem askN_no {os : List Oj} {x : Ky} (h : ¬ askN os x) : ¬ ((named os x).isSome = true ∧ x.k = 2) := h
set_option maxRecDepth 8000 in
theorem AskD.slot {os : List Oj} {x : Ky} {j : Nat} {u : Oj} (_ : AskD os x j u) {i : Nat} (hi : i < 16) : u.s[i]? = some ((u.s[i]?).getD zk) := by
  rw [List.getElem?_eq_getElem (by rw [u.hs]; exact hi)]
  rfl
set_option maxRecDepth 8000 in
theorem get_all (h : StAt w base p A cap ps os) (hn : 0 < os.length) (hT : Tab w) (x : Ky) (i : Int) :
    Calls Tryd.prog 105 #[pv p, x.val, .int .i64 i] w fun e w' => e = .returned (.tuple #[(getA os x i).1.val, .int .i64 (getA os x i).2]) ∧ Below w.heap.size w w' := by
  unfold getA
  split
  · next ha =>
    obtain ⟨j, u, d⟩ := askN_d ha
    split
    · next hi =>
      obtain ⟨k, rfl⟩ := Int.eq_ofNat_of_zero_le hi.1
      have hk : k < 16 := by omega
      rw [d.eq, Int.toNat_natCast]
      exact nget_yes x k _ fun W S K I hW hS hK hI => get1_yes (h.below hW) hn (hT.below hW) x u d.nm d.k d.ok k hk _ (d.slot hk) hS hK hI
    · next hi => exact nget_no (pv p) (.inr ⟨_, rfl⟩) x i 4 fun W S K I hW hS hK hI => get1_slot (h.below hW) hn (hT.below hW) x u d.nm d.k i hi hS hK hI
  · next ha => exact nget_no (pv p) (.inr ⟨_, rfl⟩) x i 190 fun W S K I hW hS hK hI => get1_no (h.below hW) hn (hT.below hW) x (askN_no ha) i hS hK hI
set_option maxRecDepth 8000 in
theorem put_all (h : StAt w base p A cap ps os) (ho : okAll os.length os) (hn : 0 < os.length) (hT : Tab w) (x : Ky) (i : Int) (v : Ky) :
    Calls Tryd.prog 42 #[pv p, x.val, .int .i64 i, v.val] w fun e w' => e = .returned (.tuple #[(putA os x i v).2.1.val, .int .i64 (putA os x i v).2.2]) ∧ StAt w' base p A cap ps (putA os x i v).1 ∧ Fr (fun k => k ∈ ps) w w' := by
  have fin : ∀ {n : Int}, Calls Tryd.prog 42 #[pv p, x.val, .int .i64 i, v.val] w (fun e w' => e = .returned (.tuple #[zk.val, .int .i64 n]) ∧ Below w.heap.size w w') → Calls Tryd.prog 42 #[pv p, x.val, .int .i64 i, v.val] w fun e w' => e = .returned (.tuple #[zk.val, .int .i64 n]) ∧ StAt w' base p A cap ps os ∧ Fr (fun k => k ∈ ps) w w' :=
    fun hc => hc.mono fun e w' hb => ⟨hb.1, h.below hb.2, Fr.of_below hb.2⟩
  unfold putA
  split
  · next ha =>
    obtain ⟨j, u, d⟩ := askN_d ha
    split
    · next hr =>
      split
      · next hi =>
        obtain ⟨k, rfl⟩ := Int.eq_ofNat_of_zero_le hi.1
        have hk : k < 16 := by omega
        split
        · next hv =>
          rw [d.eq, Int.toNat_natCast, d.jn]
          exact nput_yes x k v _ _ (fun q hq => (h.lt q hq).2) fun W S K I V hW hS hK hI hV => put1_yes (h.below hW) hn (hT.below hW) x v u d.nm d.k d.ok hr k hk _ (d.slot hk) hv j d.lt d.o (put_oku d ho k v) hS hK hI hV
        · next hv => exact fin (nput_no (pv p) (.inr ⟨_, rfl⟩) x k v 2 fun W S K I V hW hS hK hI hV => put1_arg (h.below hW) hn (hT.below hW) x v u d.nm d.k d.ok hr k hk hv hS hK hI hV)
      · next hi => exact fin (nput_no (pv p) (.inr ⟨_, rfl⟩) x i v 4 fun W S K I V hW hS hK hI hV => put1_slot (h.below hW) hn (hT.below hW) x v u d.nm d.k d.ok hr i hi hS hK hI hV)
    · next hr => exact fin (nput_no (pv p) (.inr ⟨_, rfl⟩) x i v 191 fun W S K I V hW hS hK hI hV => put1_right (h.below hW) hn (hT.below hW) x v u d.nm d.k d.ok hr i hS hK hI hV)
  · next ha => exact fin (nput_no (pv p) (.inr ⟨_, rfl⟩) x i v 190 fun W S K I V hW hS hK hI hV => put1_no (h.below hW) hn (hT.below hW) x v (askN_no ha) i hS hK hI hV)
end
section
variable {w : World} {A : Option Addr} {l : List Oj} {n cap : Nat}
set_option maxRecDepth 8000 in
theorem rask_f (hr : RdO w A l) (hn : l.length = n) (hl : n ≤ 1000) (h0 : 0 < n) (x : Ky) :
    Calls Tryd.prog 88 #[.slice A n cap, x.val, .int .i64 2, .bool false] w fun e w' => e = .returned (.int .i64 (askA l x)) ∧ Below w.heap.size w w' := by
  unfold askA
  split
  · next ha => exact rask_yes_f hr hn hl h0 x ha.1 ha.2
  · next ha =>
    by_cases hs : (named l x).isSome = true
    · exact rask_kind_f hr hn hl h0 x hs fun hk => ha ⟨hs, hk⟩
    · exact rask_un_f hr hn hl h0 x (by simpa using hs)
set_option maxRecDepth 8000 in
theorem rask_t (hr : RdO w A l) (hn : l.length = n) (hl : n ≤ 1000) (h0 : 0 < n) (x : Ky) :
    Calls Tryd.prog 88 #[.slice A n cap, x.val, .int .i64 2, .bool true] w fun e w' => e = .returned (.int .i64 (opnA l x)) ∧ Below w.heap.size w w' := by
  unfold opnA
  split
  · next ha =>
    obtain ⟨j, u, d⟩ := askN_d ha
    split
    · next h4 => exact rask_yes_t hr hn hl h0 x ha.1 ha.2 d.ok h4
    · next h4 => exact rask_right_t hr hn hl h0 x ha.1 ha.2 d.ok _ rfl h4
  · next ha =>
    by_cases hs : (named l x).isSome = true
    · exact rask_kind_t hr hn hl h0 x hs fun hk => ha ⟨hs, hk⟩
    · exact rask_un_t hr hn hl h0 x (by simpa using hs)
theorem askA_no {os : List Oj} {x : Ky} (h : ¬ askN os x) : askA os x = 190 := if_neg h
theorem opnA_no {os : List Oj} {x : Ky} (h : ¬ askN os x) : opnA os x = 190 := if_neg h
set_option maxRecDepth 8000 in
theorem opnA_r {os : List Oj} {x : Ky} (h : askN os x) (hr : ¬ x.r % 4 = 0) : opnA os x = 191 := by unfold opnA; rw [if_pos h, if_neg hr]
end
end Go.Proofs.YtfckdbennjkgoaaDoor
namespace Go.Proofs.YtfckdbennjkgoaaDoor
open Go.RowKit
section
variable {os : List Oj} {j : Nat} {u : Oj}
theorem cn_slots (y : Ky) (u : Oj) (s : List Ky) (hs : s.length = 16) : y.cn (slotsAs u s hs) = y.cn u := rfl
set_option maxRecDepth 8000 in
theorem named_set (hj : j < os.length) (hu : os[j] = u) (s : List Ky) (hs : s.length = 16) (y : Ky) : named (os.set j (slotsAs u s hs)) y = if y.o.toNat = j then (named os y).map (fun _ => slotsAs u s hs) else named os y := by
  by_cases hy : y.of
  · rw [named_is hy, named_is hy]
    by_cases e : y.o.toNat = j
    · subst e
      rw [if_pos rfl, List.getElem?_set_self hj, List.getElem?_eq_getElem hj, hu]
      have hcs := cn_slots y u s hs
      simp only [Option.filter_some]
      by_cases hc : y.cn u = true
      · rw [if_pos hc, if_pos (hcs.trans hc)]
        rfl
      · rw [if_neg hc, if_neg (fun h => hc (hcs.symm.trans h))]
        rfl
    · rw [if_neg e, List.getElem?_set_ne (fun h => e h.symm)]
  · rw [named_not hy, named_not hy]
    split <;> rfl
set_option maxRecDepth 8000 in
theorem named_some (hj : j < os.length) (hu : os[j] = u) (s : List Ky) (hs : s.length = 16) (y : Ky) : (named (os.set j (slotsAs u s hs)) y).isSome = (named os y).isSome := by
  rw [named_set hj hu]
  split
  · rw [Option.isSome_map]
  · rfl
set_option maxRecDepth 8000 in
theorem prepd_set (hj : j < os.length) (hu : os[j] = u) (s : List Ky) (hs : s.length = 16) (y : Ky) : prepd (os.set j (slotsAs u s hs)) y = prepd os y := by
  unfold prepd
  rw [named_some hj hu]
set_option maxRecDepth 8000 in
theorem gotK_set (hj : j < os.length) (hu : os[j] = u) (s : List Ky) (hs : s.length = 16) (x y : Ky) : gotK (os.set j (slotsAs u s hs)) x y = gotK os x y := by
  unfold gotK
  rw [prepd_set hj hu]
theorem AskD.set {x : Ky} (d : AskD os x j u) (s : List Ky) (hs : s.length = 16) : AskD (os.set j (slotsAs u s hs)) x j (slotsAs u s hs) :=
  ⟨by rw [named_set d.lt d.at_, if_pos d.jn, d.nm]; rfl, d.k, d.ok, d.o, by rw [List.length_set]; exact d.lt, by rw [List.getElem_set_self], d.uk⟩
theorem slotAs_as (u : Oj) (i : Nat) (v : Ky) : slotAs u i v = slotsAs u (u.s.set i v) (by rw [List.length_set]; exact u.hs) := rfl
set_option maxRecDepth 8000 in
theorem getA_d {x : Ky} (d : AskD os x j u) {i : Nat} (hi : i < 16) : getA os x (i : Int) = (gotK os x (u.s[i]'(by rw [u.hs]; exact hi)), 0) := by
  unfold getA
  rw [if_pos d.is, if_pos (by omega), d.eq, Int.toNat_natCast, List.getElem?_eq_getElem (by rw [u.hs]; exact hi)]
  rfl
set_option maxRecDepth 8000 in
theorem putA_d {x v : Ky} (d : AskD os x j u) (hr : x.r % 4 = 0) {i : Nat} (hi : i < 16) (hv : v.may os.length) : putA os x (i : Int) v = (os.set j (slotAs u i (prepd os v)), gotK os x (u.s[i]'(by rw [u.hs]; exact hi)), 0) := by
  unfold putA
  rw [if_pos d.is, if_pos hr, if_pos (by omega), if_pos hv, d.eq, Int.toNat_natCast, List.getElem?_eq_getElem (by rw [u.hs]; exact hi), d.jn]
  rfl
set_option maxRecDepth 8000 in
/-- it was put: so it may be -/
theorem putA_ok0 {x v : Ky} {i : Int} (h : (putA os x i v).2.2 = 0) : ∃ j u k, AskD os x j u ∧ x.r % 4 = 0 ∧ i = (k : Int) ∧ k < 16 ∧ v.may os.length := by
  unfold putA at h
  split at h
  · next ha =>
    obtain ⟨j, u, d⟩ := askN_d ha
    split at h
    · next hr =>
      split at h
      · next hi =>
        split at h
        · next hv =>
          obtain ⟨k, rfl⟩ := Int.eq_ofNat_of_zero_le hi.1
          exact ⟨j, u, k, d, hr, rfl, by omega, hv⟩
        · simp at h
      · simp at h
    · simp at h
  · simp at h
set_option maxRecDepth 8000 in
theorem putA_bad {x v : Ky} {i : Int} (h : (putA os x i v).2.2 ≠ 0) : (putA os x i v).1 = os := by
  unfold putA at h ⊢
  split
  · next ha =>
    split
    · next hr =>
      split
      · next hi =>
        split
        · next hv => rw [if_pos ha, if_pos hr, if_pos hi, if_pos hv] at h; exact absurd rfl h
        · rfl
      · rfl
    · rfl
  · rfl
end
/-- a node that was given once, its key, and a number -/
def kn9 : Oj := ⟨1, 1, 0, zks, zbs, rfl, rfl⟩
def knk9 : Ky := ⟨2, 0, 1, 0, 0, 0⟩
def knv9 : Ky := ⟨1, 0, 0, 0, 0, 7⟩
set_option maxRecDepth 8000 in
theorem built9 : Tryd.prog.built 52 [(0, .int .i64 1), (1, .int .i64 1)] = some kn9.cells.toArray := by kernel_rfl
set_option maxRecDepth 8000 in
theorem builtK9 : Tryd.prog.built 31 [(0, .int .i64 2), (2, .int .i64 1)] = some (kl knk9).toArray := by kernel_rfl
set_option maxRecDepth 8000 in
theorem builtV9 : Tryd.prog.built 31 [(0, .int .i64 1), (5, .int .i64 7)] = some (kl knv9).toArray := by kernel_rfl
theorem kn9_ok : kn9.ok 1 := ⟨by decide, by decide, by decide, .inl ⟨rfl, zks_may 1⟩⟩
theorem knk9_ok : knk9.ok := ⟨2, rfl, by decide, by decide, by decide, by decide, by decide, by decide, by decide, by decide, by decide, .inl rfl⟩
theorem knk9_of : knk9.of := ⟨knk9_ok, by decide, by decide⟩
theorem knv9_ok : knv9.ok := ⟨1, rfl, by decide, by decide, by decide, by decide, by decide, by decide, by decide, by decide, by decide, .inr rfl⟩
theorem knv9_not : ¬ knv9.of := fun h => absurd h.2.1 (by decide)
theorem knv9_may : knv9.may 1 := ⟨knv9_ok, fun h => absurd h knv9_not⟩
set_option maxRecDepth 8000 in
theorem knk9_cn : knk9.cn kn9 = true := by
  unfold Ky.cn
  refine cnt_yes ⟨knk9_ok, fun h => ⟨?_, rfl, .inl (by decide)⟩⟩
  unfold Ky.want
  rw [if_pos h]
  rfl
theorem kn9_d : AskD [kn9] knk9 0 kn9 := ⟨by
  rw [named_is knk9_of]
  have e : ([kn9] : List Oj)[knk9.o.toNat]? = some kn9 := rfl
  rw [e, Option.filter_some, knk9_cn]
  rfl, rfl, knk9_ok, rfl, by decide, rfl, rfl⟩
set_option maxRecDepth 8000 in
theorem prepd_knv (os : List Oj) : prepd os knv9 = knv9 := by
  unfold prepd
  rw [cn_oz.2 ⟨knv9_ok, knv9_not⟩, Bool.or_true, if_pos rfl]
set_option maxRecDepth 8000 in
theorem prepd_zk (os : List Oj) : prepd os zk = zk := by
  unfold prepd
  split <;> rfl
theorem kn9_all : okAll ([kn9] : List Oj).length [kn9] := fun x hx => by
  rw [List.mem_singleton.1 hx]
  exact kn9_ok
theorem kn9_right : rightP [kn9] := ⟨by decide, by decide, kn9_all⟩
def kn9' : Oj := slotAs kn9 3 knv9
set_option maxRecDepth 8000 in
theorem kn9_put : putA [kn9] knk9 3 knv9 = ([kn9'], zk, 0) := by
  have := putA_d (v := knv9) kn9_d (by decide) (i := 3) (by decide) knv9_may
  rw [prepd_knv] at this
  have e : gotK [kn9] knk9 zk = zk := by unfold gotK; rw [if_neg (by decide), prepd_zk]
  exact this.trans (congrArg (fun z => ([kn9'], z, (0 : Int))) e)
set_option maxRecDepth 8000 in
theorem kn9_get : getA [kn9'] knk9 3 = (knv9, 0) := by
  have d := kn9_d.set (kn9.s.set 3 knv9) (by rw [List.length_set]; exact kn9.hs)
  have := getA_d d (i := 3) (by decide)
  have e : gotK [kn9'] knk9 knv9 = knv9 := by unfold gotK; rw [if_neg (by decide), prepd_knv]
  exact this.trans (congrArg (fun z => (z, (0 : Int))) e)
end Go.Proofs.YtfckdbennjkgoaaDoor
namespace Go.Proofs.YtfckdbennjkgoaaDoor
open Go.RowKit
section
variable {ops : Array Oper} {o : Oper} {a : Act} {S : World → Prop} {rest : List Oper} {Q : Exit → Act → World → Prop}
theorem y_build2 {t : TypeId} {i j : Nat} {x y : Value} {cs : Array Value} (hw : Region.wanted o (yielded ops a.tmps) = true) (ho : o.op = .build t #[(i, .const x), (j, .const y)]) (hb : Tryd.prog.built t [(i, x), (j, y)] = some cs) : YieldsIf Tryd.prog ops S o (.agg cs) a := .inl ⟨hw, fun w _ => by
  unfold execOp
  simp only [ho, Sem.run_bind]
  have := run_build w t #[(i, x), (j, y)] _ hb
  simp only [List.map_toArray, List.map_cons, List.map_nil, Act.eval, this, Result.andThen_ok, Sem.run_pure]⟩
set_option maxRecDepth 8000 in
theorem run_buildSlice34 (w : World) (u : Oj) :
    (Instr.buildSlice 22 1 #[(0, u.val)]).run Tryd.prog w = .ok (.slice (some ⟨w.heap.size, 0, none⟩) 1 1) (w.alloc (.cells u.cells.toArray 52)) := by
  have hz := z34 w
  have hs := run_sizeOf (P := Tryd.prog) size34 w
  have hol := oz_len
  have c1 : ∀ cs : Array Value, cs.size = 163 → Instr.fill (fun i => some (i * 163, 163)) cs [(0, u.val)] = some u.cells.toArray := by
    intro cs hcs
    have e2 : u.val.cells.size = 163 := by show u.cells.toArray.size = 163; rw [List.size_toArray, u.len]
    rw [fill_one _ _ 0 u.val _ 0 (by rw [e2]) (by rw [e2, hcs]; omega)]
    simp only [Instr.fill, e2]
    have e : cs.toList.take 0 ++ u.cells ++ cs.toList.drop (0 + 163) = u.cells := by
      rw [List.drop_eq_nil_of_le (by rw [Array.length_toList, hcs]; omega), List.append_nil]
      rfl
    exact congrArg (fun x : List Value => some x.toArray) e
  have h2 := c1 ((Array.range (1 * 163)).map (oz.val.cells[· % oz.val.cells.size]!)) (by simp)
  simp only [Instr.buildSlice, Sem.run_bind, run_underlying Tryd.underlying22, Result.andThen_ok, hs]
  rw [if_neg (by decide), if_neg (by decide)]
  simp only [Sem.run_bind, hz, Result.andThen_ok, Sem.run_pure, h2]
  simp [newRow, Result.andThen]
set_option maxRecDepth 8000 in
theorem wpList_buildSlice34 {w : World} (hgd : o.guard = none) (x : Operand) (ho : o.op = .buildSlice 22 1 #[(0, x)]) (u : Oj) (hx : a.eval x = u.val)
    (h : wpList Tryd.prog ops Q rest (a.put o.dst (.slice (some ⟨w.heap.size, 0, none⟩) 1 1)) (w.alloc (.cells u.cells.toArray 52))) : wpList Tryd.prog ops Q (o :: rest) a w := by
  refine wpList_plain hgd fun K hK => ?_
  unfold Oper.wp
  simp [execOp, ho, hx, run_buildSlice34 w u, Result.andThen]
  exact hK _ _ h
end
set_option maxRecDepth 8000 in
theorem rdo_one {w : World} {g : Nat} {t : TypeId} {u : Oj} (h : Blk w g t u.cells.toArray) : RdO w (some ⟨g, 0, none⟩) [u] := fun i hi => by
  obtain rfl : i = 0 := by simpa using hi
  exact ⟨g, 0, rfl, h.ob⟩
/-- may the law go on with these objects -/
def madeP (l : List Oj) : Prop := l.length ≤ 20 ∧ rightP l
end Go.Proofs.YtfckdbennjkgoaaDoor

/- Maps whose keys are ints: what is found in the entries, behind an update, a delete; over any program. -/
import Derived.Test.YtokbghpddgfnpaaRd
import Derived.MapKept
namespace Go.Proofs.Ytokbghpddgfnpaa
open Go.RowKit
open Go.MapKept (run_getObj_map run_setObj_map run_findKey)
/-- each key is an int -/
def IKeys (l : List MapEntry) : Prop := ∀ x ∈ l, ∃ n : Int, x.key = .int .i64 n
/-- the first entry of a key: its place, its value -/
def fnd : List MapEntry → Int → Nat → Option (Nat × Value)
  | [], _, _ => none
  | e :: l, n, i => match e.key with
    | .int .i64 k => if n = k then some (i, e.val) else fnd l n (i + 1)
    | _ => fnd l n (i + 1)
set_option maxRecDepth 8000 in
theorem fnd_cons {e : MapEntry} {k : Int} (h : e.key = .int .i64 k) (l : List MapEntry) (n : Int) (i : Nat) : fnd (e :: l) n i = if n = k then some (i, e.val) else fnd l n (i + 1) := by
  simp only [fnd, h]
set_option maxRecDepth 8000 in
theorem findNow_eq (n : Int) : ∀ (l : List MapEntry) (i : Nat), IKeys l → Instr.findNow (.int .i64) (.int .i64 n) l i = some (fnd l n i)
  | [], _, _ => rfl
  | e :: l, i, h => by
    obtain ⟨k, hk⟩ := h e (by simp)
    rw [fnd_cons hk]
    by_cases hn : n = k
    · subst hn
      simp [Instr.findNow, hk, Instr.sameNow]
    · have hb : (n == k) = false := by simpa using hn
      rw [if_neg hn]
      simp only [Instr.findNow, hk, Instr.sameNow, if_true, hb]
      exact findNow_eq n l (i + 1) (fun x hx => h x (by simp [hx]))
set_option maxRecDepth 8000 in
theorem fnd_ge (n : Int) : ∀ (l : List MapEntry) (i j : Nat) (v : Value), fnd l n i = some (j, v) → i ≤ j ∧ j - i < l.length ∧ (l[j - i]?).map (·.val) = some v ∧ (l[j - i]?).map (·.key) = some (.int .i64 n)
  | [], _, _, _, h => by cases h
  | e :: l, i, j, v, h => by
    have go : fnd l n (i + 1) = some (j, v) → i ≤ j ∧ j - i < (e :: l).length ∧ ((e :: l)[j - i]?).map (·.val) = some v ∧ ((e :: l)[j - i]?).map (·.key) = some (.int .i64 n) := fun h => by
      obtain ⟨h1, h2, h3, h4⟩ := fnd_ge n l (i + 1) j v h
      have e1 : j - i = (j - (i + 1)) + 1 := by omega
      rw [e1, List.getElem?_cons_succ]
      exact ⟨by omega, by simp; omega, h3, h4⟩
    simp only [fnd] at h
    split at h
    · rename_i k hk
      split at h
      · rename_i hn
        subst hn
        injection h with h
        injection h with h1 h2
        subst h1; subst h2
        rw [Nat.sub_self]
        exact ⟨Nat.le_refl _, by simp, by simp, by simp [hk]⟩
      · exact go h
    · exact go h
/-- an update in place of the entry that is found -/
theorem fnd_modify (n : Int) (val : Value) : ∀ (l : List MapEntry) (i j : Nat) (v : Value), IKeys l → fnd l n i = some (j, v) → ∀ k, fnd (l.modify (j - i) fun e => { e with key := .int .i64 n, val := val }) k i = if k = n then some (j, val) else fnd l k i
  | [], _, _, _, _, h => by cases h
  | e :: l, i, j, v, hk, h => fun k => by
    obtain ⟨q, hq⟩ := hk e (by simp)
    rw [fnd_cons hq] at h
    by_cases hn : n = q
    · subst hn
      rw [if_pos rfl] at h
      injection h with h
      injection h with h1 h2
      subst h1; subst h2
      rw [Nat.sub_self, List.modify_zero_cons, fnd_cons (k := n) rfl, fnd_cons hq]
      split <;> rfl
    · rw [if_neg hn] at h
      have h1 := (fnd_ge n l (i + 1) j v h).1
      rw [show j - i = (j - (i + 1)) + 1 by omega, List.modify_succ_cons, fnd_cons hq, fnd_cons hq, fnd_modify n val l (i + 1) j v (fun x hx => hk x (by simp [hx])) h k]
      by_cases hkn : k = n
      · subst hkn
        rw [if_neg hn, if_pos rfl, if_pos rfl]
      · rw [if_neg hkn, if_neg hkn]
set_option maxRecDepth 8000 in
theorem ikeys_modify {l : List MapEntry} (h : IKeys l) (i : Nat) (n : Int) (val : Value) : IKeys (l.modify i fun e => { e with key := .int .i64 n, val := val }) := by
  intro x hx
  obtain ⟨j, hj⟩ := List.mem_iff_getElem?.1 hx
  rw [List.getElem?_modify] at hj
  cases hl : l[j]? with
  | none => simp [hl] at hj
  | some y =>
    rw [hl] at hj
    by_cases hij : i = j
    · simp [hij] at hj
      subst hj; exact ⟨n, rfl⟩
    · simp [hij] at hj
      subst hj; exact h _ (List.mem_of_getElem? hl)
/-- an entry more -/
theorem fnd_push (n : Int) (val : Value) (born : Nat) : ∀ (l : List MapEntry) (i : Nat), IKeys l → fnd l n i = none → ∀ k, fnd (l ++ [{ key := .int .i64 n, val := val, born := born }]) k i = if k = n then some (i + l.length, val) else fnd l k i
  | [], i, _, _ => fun k => by
    rw [List.nil_append, fnd_cons (k := n) rfl]
    split <;> simp [fnd]
  | e :: l, i, hk, h => fun k => by
    obtain ⟨q, hq⟩ := hk e (by simp)
    rw [fnd_cons hq] at h
    by_cases hn : n = q
    · rw [if_pos hn] at h
      cases h
    · rw [if_neg hn] at h
      rw [List.cons_append, fnd_cons hq, fnd_cons hq, fnd_push n val born l (i + 1) (fun x hx => hk x (by simp [hx])) h k]
      by_cases hkn : k = n
      · subst hkn
        rw [if_neg hn, if_pos rfl, if_pos rfl]
        rw [List.length_cons, show i + 1 + l.length = i + (l.length + 1) by omega]
      · rw [if_neg hkn, if_neg hkn]
set_option maxRecDepth 8000 in
theorem ikeys_push {l : List MapEntry} (h : IKeys l) (n : Int) (val : Value) (born : Nat) : IKeys (l ++ [{ key := .int .i64 n, val := val, born := born }]) := by
  intro x hx
  rcases List.mem_append.1 hx with hx | hx
  · exact h x hx
  · rw [List.mem_singleton] at hx
    subst hx
    exact ⟨n, rfl⟩
/-- no key twice -/
def Once (l : List MapEntry) : Prop := l.Pairwise fun x y => x.key ≠ y.key
theorem fnd_none_of {n : Int} : ∀ (l : List MapEntry) (i : Nat), IKeys l → (∀ x ∈ l, x.key ≠ .int .i64 n) → fnd l n i = none
  | [], _, _, _ => rfl
  | e :: l, i, hk, h => by
    obtain ⟨q, hq⟩ := hk e (by simp)
    rw [fnd_cons hq, if_neg (by rintro rfl; exact h e (by simp) hq)]
    exact fnd_none_of l (i + 1) (fun x hx => hk x (by simp [hx])) (fun x hx => h x (by simp [hx]))
theorem fnd_none {n : Int} : ∀ (l : List MapEntry) (i : Nat), IKeys l → fnd l n i = none → ∀ x ∈ l, x.key ≠ .int .i64 n
  | [], _, _, _ => by simp
  | e :: l, i, hk, h => by
    obtain ⟨q, hq⟩ := hk e (by simp)
    rw [fnd_cons hq] at h
    by_cases hn : n = q
    · rw [if_pos hn] at h; cases h
    · rw [if_neg hn] at h
      intro x hx
      rcases List.mem_cons.1 hx with rfl | hx
      · rw [hq]; intro e; injection e with _ e; exact hn e.symm
      · exact fnd_none l (i + 1) (fun x hx => hk x (by simp [hx])) h x hx
theorem fnd_isSome_shift (n : Int) : ∀ (l : List MapEntry) (i j : Nat), (fnd l n i).isSome = (fnd l n j).isSome
  | [], _, _ => rfl
  | e :: l, i, j => by
    simp only [fnd]
    split
    · split
      · rfl
      · exact fnd_isSome_shift n l _ _
    · exact fnd_isSome_shift n l _ _
theorem fnd_erase {n : Int} : ∀ (l : List MapEntry) (i j : Nat) (v : Value), IKeys l → Once l → fnd l n i = some (j, v) → ∀ (k : Int) (q : Nat), (fnd (l.eraseIdx (j - i)) k q).isSome = if k = n then false else (fnd l k q).isSome
  | [], _, _, _, _, _, h => by cases h
  | e :: l, i, j, v, hk, ho, h => fun k q => by
    obtain ⟨t, ht⟩ := hk e (by simp)
    have hk' : IKeys l := fun x hx => hk x (by simp [hx])
    have ho' := List.pairwise_cons.1 ho
    rw [fnd_cons ht] at h
    by_cases hn : n = t
    · subst hn
      rw [if_pos rfl] at h
      injection h with h
      injection h with h1 h2
      subst h1
      rw [Nat.sub_self, List.eraseIdx_zero, List.tail_cons, fnd_cons ht]
      by_cases hkn : k = n
      · subst hkn
        rw [if_pos rfl, fnd_none_of l q hk' (fun x hx => by rw [← ht]; exact (ho'.1 x hx).symm)]
        rfl
      · rw [if_neg hkn, if_neg hkn]
        exact fnd_isSome_shift k l _ _
    · rw [if_neg hn] at h
      have h1 := (fnd_ge n l (i + 1) j v h).1
      rw [show j - i = (j - (i + 1)) + 1 by omega, List.eraseIdx_cons_succ, fnd_cons ht, fnd_cons ht]
      by_cases hkt : k = t
      · rw [if_pos hkt, if_pos hkt, if_neg (by rintro rfl; exact hn hkt)]
      · rw [if_neg hkt, if_neg hkt]
        exact fnd_erase l (i + 1) j v hk' ho'.2 h k (q + 1)
set_option maxRecDepth 8000 in
theorem run_check_int {P : Program} {k : TypeId} {q : IntKind} (hk : P.underlying k = some (.int q)) (W : World) (b : Bool) (n : Int) : (Instr.checkKey b 10000 k (.int q n)).run P W = .ok () W := by
  have h : ∀ d, (Instr.checkKey b (d + 1) k (.int q n)).run P W = .ok () W := fun d => by simp [Instr.checkKey, run_underlying hk]
  exact h 9999
set_option maxRecDepth 8000 in
theorem run_stays_int {P : Program} (W : World) (n : Int) : (Instr.keyThatStays (.int .i64 n) (.int .i64 n)).run P W = .ok (.int .i64 n) W := by
  have : Instr.sameBits 10000 (.int .i64 n) (.int .i64 n) = true := by
    show (IntKind.i64 == IntKind.i64 && n == n) = true
    simp
  simp [Instr.keyThatStays, this]
section
variable {P : Program} {t k e : TypeId} (w : World) {b : Nat} {es : Array MapEntry} {clock : Nat}
set_option maxRecDepth 8000 in
/-- a lookup -/
theorem run_look_i (ht : P.underlying t = some (.map k e)) (hk : P.underlying k = some (.int .i64)) (hb : w.heap[b]? = some (.map es clock)) (hi : IKeys es.toList) (z : Value) (hz : (zeroValue e).run P w = .ok z w) (n : Int) (ok : Bool) :
    (Instr.lookup t (.map (some b)) (.int .i64 n) ok).run P w = .ok (if ok then .tuple #[((fnd es.toList n 0).map (·.2)).getD z, .bool (fnd es.toList n 0).isSome] else ((fnd es.toList n 0).map (·.2)).getD z) w := by
  have hf := run_findKey (P := P) (w := w) hk (findNow_eq n es.toList 0 hi)
  have hck := fun x => run_check_int hk w x n
  cases hfn : fnd es.toList n 0 with
  | none =>
    rw [hfn] at hf
    cases ok <;> simp [Instr.lookup, run_underlying ht, Go.MapKept.run_getObj_map hb, hf, hck, hz, Result.andThen]
  | some p =>
    rw [hfn] at hf
    cases ok <;> simp [Instr.lookup, run_underlying ht, Go.MapKept.run_getObj_map hb, hf, hck, Result.andThen]
set_option maxRecDepth 8000 in
theorem run_look_none (ht : P.underlying t = some (.map k e)) (hk : P.underlying k = some (.int .i64)) (z : Value) (hz : (zeroValue e).run P w = .ok z w) (n : Int) :
    (Instr.lookup t (.map none) (.int .i64 n) true).run P w = .ok (.tuple #[z, .bool false]) w := by
  have hck := fun x => run_check_int hk w x n
  have hf : (Instr.findKey k (.int .i64 n) []).run P w = .ok none w := run_findKey (P := P) (w := w) hk (findNow_eq n [] 0 (by simp [IKeys]))
  simp [Instr.lookup, run_underlying ht, hf, hck, hz, Result.andThen]
/-- what entries are behind an update -/
def updE (es : Array MapEntry) (clock : Nat) (n : Int) (v : Value) : Array MapEntry :=
  match fnd es.toList n 0 with
  | some (i, _) => es.modify i fun e => { e with key := .int .i64 n, val := v }
  | none => es.push { key := .int .i64 n, val := v, born := clock }
set_option maxRecDepth 8000 in
theorem fnd_updE (hi : IKeys es.toList) (n : Int) (v : Value) (q : Int) : (fnd (updE es clock n v).toList q 0).map (·.2) = if q = n then some v else (fnd es.toList q 0).map (·.2) := by
  unfold updE
  cases hfn : fnd es.toList n 0 with
  | none =>
    simp only [Array.toList_push]
    rw [fnd_push n v clock es.toList 0 hi hfn]
    split <;> rfl
  | some p =>
    obtain ⟨i, u⟩ := p
    simp only [Array.toList_modify]
    have := fnd_modify n v es.toList 0 i u hi hfn q
    rw [Nat.sub_zero] at this
    rw [this]
    split <;> rfl
set_option maxRecDepth 8000 in
theorem fnd_updE_some (hi : IKeys es.toList) (n : Int) (v : Value) (q : Int) : (fnd (updE es clock n v).toList q 0).isSome = (decide (q = n) || (fnd es.toList q 0).isSome) := by
  have h := fnd_updE (clock := clock) hi n v q
  have h2 := congrArg Option.isSome h
  rw [Option.isSome_map] at h2
  rw [h2]
  by_cases hq : q = n
  · rw [if_pos hq]
    simp [hq]
  · rw [if_neg hq, Option.isSome_map]
    simp [hq]
set_option maxRecDepth 8000 in
theorem ikeys_updE (hi : IKeys es.toList) (n : Int) (v : Value) : IKeys (updE es clock n v).toList := by
  unfold updE
  split
  · rw [Array.toList_modify]; exact ikeys_modify hi _ _ _
  · rw [Array.toList_push]; exact ikeys_push hi _ _ _
set_option maxRecDepth 8000 in
theorem once_updE (hi : IKeys es.toList) (ho : Once es.toList) (n : Int) (v : Value) : Once (updE es clock n v).toList := by
  unfold updE
  cases hfn : fnd es.toList n 0 with
  | none =>
    simp only [Array.toList_push]
    refine List.pairwise_append.2 ⟨ho, by simp, fun x hx y hy => ?_⟩
    rw [List.mem_singleton] at hy
    subst hy
    exact fnd_none es.toList 0 hi hfn x hx
  | some p =>
    obtain ⟨i, u⟩ := p
    simp only [Array.toList_modify]
    have hge := fnd_ge n es.toList 0 i u hfn
    rw [Nat.sub_zero] at hge
    have he : (es.toList.modify i fun e => { e with key := .int .i64 n, val := v }).map (·.key) = es.toList.map (·.key) := by
      apply List.ext_getElem?
      intro j
      rw [List.getElem?_map, List.getElem?_map, List.getElem?_modify]
      by_cases hj : i = j
      · subst hj
        cases hl : es.toList[i]? with
        | none => rfl
        | some y =>
          have h4 := hge.2.2.2
          rw [hl] at h4
          simp only [Option.map_some, Option.some.injEq] at h4
          simp [h4]
      · simp [hj]
    have h2 := List.pairwise_map.2 (show List.Pairwise (fun x y : MapEntry => x.key ≠ y.key) es.toList from ho)
    rw [← he] at h2
    exact List.pairwise_map.1 h2
set_option maxRecDepth 8000 in
theorem run_upd_i (ht : P.underlying t = some (.map k e)) (hk : P.underlying k = some (.int .i64)) (hb : w.heap[b]? = some (.map es clock)) (hi : IKeys es.toList) (n : Int) (v : Value) :
    ∃ clock' w', (Instr.mapUpdate t (.map (some b)) (.int .i64 n) v).run P w = .ok () w' ∧ w'.heap[b]? = some (.map (updE es clock n v) clock') ∧ w.grownBy w' (some b) ∧ w' = { w with heap := w.heap.setIfInBounds b (.map (updE es clock n v) clock') } := by
  have hf := run_findKey (P := P) (w := w) hk (findNow_eq n es.toList 0 hi)
  have hck := fun x => run_check_int hk w x n
  have hlt : b < w.heap.size := (Array.getElem?_eq_some_iff.1 hb).1
  have fin : ∀ (o : Obj), ({ w with heap := w.heap.setIfInBounds b o } : World).heap[b]? = some o ∧ w.grownBy { w with heap := w.heap.setIfInBounds b o } (some b) := fun o =>
    ⟨by simp [hlt], ⟨rfl, rfl, rfl, by simp, fun j _ hj => by
      show (w.heap.setIfInBounds b o)[j]? = w.heap[j]?
      rw [Array.getElem?_setIfInBounds_ne (fun e => hj (by rw [e]))]⟩⟩
  cases hfn : fnd es.toList n 0 with
  | none =>
    rw [hfn] at hf
    refine ⟨clock + 1, _, ?_, (fin _).1, (fin _).2, rfl⟩
    simp [Instr.mapUpdate, run_underlying ht, Go.MapKept.run_getObj_map hb, hf, hck, Go.MapKept.run_setObj_map _ hb, Result.andThen, updE, hfn]
  | some p =>
    obtain ⟨i, u⟩ := p
    rw [hfn] at hf
    have hge := fnd_ge n es.toList 0 i u hfn
    rw [Nat.sub_zero] at hge
    have hkey : ((es[i]?).map (·.key)).getD (.int .i64 n) = .int .i64 n := by
      have := hge.2.2.2
      rw [Array.getElem?_toList] at this
      rw [this]
      rfl
    refine ⟨clock, _, ?_, (fin _).1, (fin _).2, rfl⟩
    simp only [Instr.mapUpdate, Sem.run_bind, run_underlying ht, Result.andThen_ok, Go.MapKept.run_getObj_map hb, hck, hf, hkey, run_stays_int, Go.MapKept.run_setObj_map _ hb, updE, hfn]
/-- a delete -/
def delE (es : Array MapEntry) (n : Int) : Array MapEntry :=
  match fnd es.toList n 0 with
  | some (i, _) => es.eraseIdxIfInBounds i
  | none => es
set_option maxRecDepth 8000 in
theorem toList_eraseIdxIf (es : Array MapEntry) (i : Nat) : (es.eraseIdxIfInBounds i).toList = es.toList.eraseIdx i := by
  unfold Array.eraseIdxIfInBounds
  split
  · simp
  · rename_i h
    rw [List.eraseIdx_of_length_le (by simpa using h)]
set_option maxRecDepth 8000 in
theorem fnd_delE (hi : IKeys es.toList) (ho : Once es.toList) (n : Int) (q : Int) : (fnd (delE es n).toList q 0).isSome = if q = n then false else (fnd es.toList q 0).isSome := by
  unfold delE
  cases hfn : fnd es.toList n 0 with
  | none =>
    by_cases hq : q = n
    · subst hq; rw [if_pos rfl]; simp [hfn]
    · rw [if_neg hq]
  | some p =>
    obtain ⟨i, u⟩ := p
    have := fnd_erase es.toList 0 i u hi ho hfn q 0
    rw [Nat.sub_zero] at this
    simp only [toList_eraseIdxIf]
    exact this
set_option maxRecDepth 8000 in
theorem sub_delE (n : Int) : (delE es n).toList.Sublist es.toList := by
  unfold delE
  split
  · rw [toList_eraseIdxIf]; exact List.eraseIdx_sublist _ _
  · exact List.Sublist.refl _
theorem ikeys_delE (hi : IKeys es.toList) (n : Int) : IKeys (delE es n).toList := fun x hx => hi x ((sub_delE n).subset hx)
theorem once_delE (ho : Once es.toList) (n : Int) : Once (delE es n).toList := ho.sublist (sub_delE n)
set_option maxRecDepth 8000 in
theorem run_del_i {ty : TypeId} (ht : P.underlying t = some (.map k e)) (hk : P.underlying k = some (.int .i64)) (hb : w.heap[b]? = some (.map es clock)) (hi : IKeys es.toList) (n : Int) :
    ∃ w', (Builtin.delete_ #[t, k] ty #[.map (some b), .int .i64 n]).run P w = .ok (.tuple #[]) w' ∧ w'.heap[b]? = some (.map (delE es n) clock) ∧ w.grownBy w' (some b) := by
  have hf := run_findKey (P := P) (w := w) hk (findNow_eq n es.toList 0 hi)
  have hck := fun x => run_check_int hk w x n
  have hlt : b < w.heap.size := (Array.getElem?_eq_some_iff.1 hb).1
  have fin : ∀ (o : Obj), ({ w with heap := w.heap.setIfInBounds b o } : World).heap[b]? = some o ∧ w.grownBy { w with heap := w.heap.setIfInBounds b o } (some b) := fun o =>
    ⟨by simp [hlt], ⟨rfl, rfl, rfl, by simp, fun j _ hj => by
      show (w.heap.setIfInBounds b o)[j]? = w.heap[j]?
      rw [Array.getElem?_setIfInBounds_ne (fun e => hj (by rw [e]))]⟩⟩
  cases hfn : fnd es.toList n 0 with
  | none =>
    rw [hfn] at hf
    refine ⟨_, ?_, (fin _).1, (fin _).2⟩
    simp [Builtin.delete_, run_underlying ht, Go.MapKept.run_getObj_map hb, hf, hck, Go.MapKept.run_setObj_map _ hb, Result.andThen, delE, hfn]
  | some p =>
    obtain ⟨i, u⟩ := p
    rw [hfn] at hf
    refine ⟨_, ?_, (fin _).1, (fin _).2⟩
    simp [Builtin.delete_, run_underlying ht, Go.MapKept.run_getObj_map hb, hf, hck, Go.MapKept.run_setObj_map _ hb, Result.andThen, delE, hfn]
set_option maxRecDepth 8000 in
theorem run_del_none {ty : TypeId} (ht : P.underlying t = some (.map k e)) (hk : P.underlying k = some (.int .i64)) (n : Int) :
    (Builtin.delete_ #[t, k] ty #[.map none, .int .i64 n]).run P w = .ok (.tuple #[]) w := by
  have hck := fun x => run_check_int hk w x n
  simp [Builtin.delete_, run_underlying ht, hck, Result.andThen]
end
end Go.Proofs.Ytokbghpddgfnpaa

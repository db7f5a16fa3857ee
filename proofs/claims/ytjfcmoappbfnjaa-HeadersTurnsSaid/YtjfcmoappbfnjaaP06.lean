/- A frame: all blocks but those of S lie as they lay; over any world. -/
import Derived.Test.YtjfcmoappbfnjaaP01
import Derived.OwnWalk
import Derived.MapKept
import Derived.Test.YtjfcmoappbfnjaaP05
namespace Go.Proofs.Ytjfcmoappbfnjaa
open Go.RowKit
/-- every block of w that is not in S lies in w' as it lay -/
structure Fr (S : Nat → Prop) (w w' : World) : Prop where
  os : w'.os = w.os
  tape : w'.tape = w.tape
  output : w'.output = w.output
  size : w.heap.size ≤ w'.heap.size
  block : ∀ k, k < w.heap.size → ¬ S k → w'.heap[k]? = w.heap[k]?
section
variable {S : Nat → Prop} {a b c w w' : World}
theorem Fr.refl (S : Nat → Prop) (w : World) : Fr S w w := ⟨rfl, rfl, rfl, Nat.le_refl _, fun _ _ _ => rfl⟩
theorem Fr.trans (h : Fr S a b) (k : Fr S b c) : Fr S a c :=
  ⟨k.os.trans h.os, k.tape.trans h.tape, k.output.trans h.output, Nat.le_trans h.size k.size, fun i hi hn => (k.block i (Nat.lt_of_lt_of_le hi h.size) hn).trans (h.block i hi hn)⟩
theorem Fr.then_ {T : Nat → Prop} (h : Fr S a b) (k : Fr T b c) (hT : ∀ i, i < a.heap.size → T i → S i) : Fr S a c :=
  ⟨k.os.trans h.os, k.tape.trans h.tape, k.output.trans h.output, Nat.le_trans h.size k.size, fun i hi hn => (k.block i (Nat.lt_of_lt_of_le hi h.size) (fun ht => hn (hT i hi ht))).trans (h.block i hi hn)⟩
theorem Fr.mono {T : Nat → Prop} (h : Fr S a b) (hT : ∀ i, i < a.heap.size → S i → T i) : Fr T a b := ⟨h.os, h.tape, h.output, h.size, fun i hi hn => h.block i hi (fun hs => hn (hT i hi hs))⟩
theorem Fr.of_below (h : Below w.heap.size w w') : Fr S w w' := ⟨h.os, h.tape, h.output, h.size, fun i hi _ => h.block i hi⟩
theorem Fr.below (h : Fr S a b) (k : Below b.heap.size b c) : Fr S a c := h.trans (Fr.of_below k)
theorem Fr.of_grown {row : Option Nat} (h : w.grownBy w' row) (hr : ∀ k, row = some k → S k) : Fr S w w' := ⟨h.os, h.tape, h.output, h.size, fun i hi hn => h.block i hi (fun e => hn (hr i e.symm))⟩
theorem Fr.grown {row : Option Nat} (h : Fr S a b) (k : b.grownBy c row) (hr : ∀ i, row = some i → i < a.heap.size → S i) : Fr S a c :=
  ⟨k.os.trans h.os, k.tape.trans h.tape, k.output.trans h.output, Nat.le_trans h.size k.size, fun i hi hn => (k.block i (Nat.lt_of_lt_of_le hi h.size) (fun e => hn (hr i e.symm hi))).trans (h.block i hi hn)⟩
theorem Fr.alloc (h : Fr S a b) (o : Obj) : Fr S a (b.alloc o) := h.grown (World.grownBy_alloc b o none) (fun _ e => by cases e)
theorem Fr.setCell (h : Fr S a b) {p : Addr} (hp : p.block < a.heap.size → S p.block) (u : Value) : Fr S a (b.setCell p u) :=
  ⟨h.os, h.tape, h.output, by simpa [World.setCell] using h.size, fun i hi hn => (Below.heap_setCell b p u i (by rintro rfl; exact hn (hp hi))).trans (h.block i hi hn)⟩
theorem Fr.drew (h : Fr S a b) : Fr S a b.drew := ⟨h.os, h.tape, h.output, h.size, h.block⟩
theorem Fr.drewN (h : Fr S a b) (n : Nat) : Fr S a (b.drewN n) := ⟨h.os, h.tape, h.output, h.size, h.block⟩
theorem Fr.to_below {B : Nat} (h : Fr S a b) (hS : ∀ k, S k → B ≤ k) (hB : B ≤ a.heap.size) : Below B a b := ⟨h.os, h.tape, h.output, h.size, fun k hk => h.block k (Nat.lt_of_lt_of_le hk hB) (fun hs => by have := hS k hs; omega)⟩
theorem Fr.cell (h : Fr S a b) {p : Addr} (hp : p.block < a.heap.size) (hn : ¬ S p.block) : b.cell? p = a.cell? p := World.cell?_of_block (h.block p.block hp hn)
end
end Go.Proofs.Ytjfcmoappbfnjaa
namespace Go.Proofs.Ytjfcmoappbfnjaa
open Go.RowKit
open Go.MapKept (run_getObj_map run_setObj_map run_findKey)
/-- each key is an int -/
def IKeys (l : List MapEntry) : Prop := ∀ x ∈ l, ∃ n : Int, x.key = .int .i64 n
/-- the first entry of a key: its place, its value -/
def fnd : List MapEntry → Int → Nat → Option (Nat × Value)
  | [], _, _ => none
  | e :: l, n, i => match e.key with
    | .int .i64 k => if n = k then some (i, e.val) else fnd l n (i + 1)
    | _ => fnd l n (i + 1)
set_option maxRecDepth 8000 in
theorem fnd_cons {e : MapEntry} {k : Int} (h : e.key = .int .i64 k) (l : List MapEntry) (n : Int) (i : Nat) : fnd (e :: l) n i = if n = k then some (i, e.val) else fnd l n (i + 1) := by
  simp only [fnd, h]
set_option maxRecDepth 8000 in
theorem findNow_eq (n : Int) : ∀ (l : List MapEntry) (i : Nat), IKeys l → Instr.findNow (.int .i64) (.int .i64 n) l i = some (fnd l n i)
  | [], _, _ => rfl
  | e :: l, i, h => by
    obtain ⟨k, hk⟩ := h e (by simp)
    rw [fnd_cons hk]
    by_cases hn : n = k
    · subst hn
      simp [Instr.findNow, hk, Instr.sameNow]
    · have hb : (n == k) = false := by simpa using hn
      rw [if_neg hn]
      simp only [Instr.findNow, hk, Instr.sameNow, if_true, hb]
      exact findNow_eq n l (i + 1) (fun x hx => h x (by simp [hx]))
set_option maxRecDepth 8000 in
theorem fnd_ge (n : Int) : ∀ (l : List MapEntry) (i j : Nat) (v : Value), fnd l n i = some (j, v) → i ≤ j ∧ j - i < l.length ∧ (l[j - i]?).map (·.val) = some v ∧ (l[j - i]?).map (·.key) = some (.int .i64 n)
  | [], _, _, _, h => by cases h
  | e :: l, i, j, v, h => by
    have go : fnd l n (i + 1) = some (j, v) → i ≤ j ∧ j - i < (e :: l).length ∧ ((e :: l)[j - i]?).map (·.val) = some v ∧ ((e :: l)[j - i]?).map (·.key) = some (.int .i64 n) := fun h => by
      obtain ⟨h1, h2, h3, h4⟩ := fnd_ge n l (i + 1) j v h
      have e1 : j - i = (j - (i + 1)) + 1 := by omega
      rw [e1, List.getElem?_cons_succ]
      exact ⟨by omega, by simp; omega, h3, h4⟩
    simp only [fnd] at h
    split at h
    · rename_i k hk
      split at h
      · rename_i hn
        subst hn
        injection h with h
        injection h with h1 h2
        subst h1; subst h2
        rw [Nat.sub_self]
        exact ⟨Nat.le_refl _, by simp, by simp, by simp [hk]⟩
      · exact go h
    · exact go h
/-- an update in place of the entry that is found -/
theorem fnd_modify (n : Int) (val : Value) : ∀ (l : List MapEntry) (i j : Nat) (v : Value), IKeys l → fnd l n i = some (j, v) → ∀ k, fnd (l.modify (j - i) fun e => { e with key := .int .i64 n, val := val }) k i = if k = n then some (j, val) else fnd l k i
  | [], _, _, _, _, h => by cases h
  | e :: l, i, j, v, hk, h => fun k => by
    obtain ⟨q, hq⟩ := hk e (by simp)
    rw [fnd_cons hq] at h
    by_cases hn : n = q
    · subst hn
      rw [if_pos rfl] at h
      injection h with h
      injection h with h1 h2
      subst h1; subst h2
      rw [Nat.sub_self, List.modify_zero_cons, fnd_cons (k := n) rfl, fnd_cons hq]
      split <;> rfl
    · rw [if_neg hn] at h
      have h1 := (fnd_ge n l (i + 1) j v h).1
      rw [show j - i = (j - (i + 1)) + 1 by omega, List.modify_succ_cons, fnd_cons hq, fnd_cons hq, fnd_modify n val l (i + 1) j v (fun x hx => hk x (by simp [hx])) h k]
      by_cases hkn : k = n
      · subst hkn
        rw [if_neg hn, if_pos rfl, if_pos rfl]
      · rw [if_neg hkn, if_neg hkn]
set_option maxRecDepth 8000 in
theorem ikeys_modify {l : List MapEntry} (h : IKeys l) (i : Nat) (n : Int) (val : Value) : IKeys (l.modify i fun e => { e with key := .int .i64 n, val := val }) := by
  intro x hx
  obtain ⟨j, hj⟩ := List.mem_iff_getElem?.1 hx
  rw [List.getElem?_modify] at hj
  cases hl : l[j]? with
  | none => simp [hl] at hj
  | some y =>
    rw [hl] at hj
    by_cases hij : i = j
    · simp [hij] at hj
      subst hj; exact ⟨n, rfl⟩
    · simp [hij] at hj
      subst hj; exact h _ (List.mem_of_getElem? hl)
/-- an entry more -/
theorem fnd_push (n : Int) (val : Value) (born : Nat) : ∀ (l : List MapEntry) (i : Nat), IKeys l → fnd l n i = none → ∀ k, fnd (l ++ [{ key := .int .i64 n, val := val, born := born }]) k i = if k = n then some (i + l.length, val) else fnd l k i
  | [], i, _, _ => fun k => by
    rw [List.nil_append, fnd_cons (k := n) rfl]
    split <;> simp [fnd]
  | e :: l, i, hk, h => fun k => by
    obtain ⟨q, hq⟩ := hk e (by simp)
    rw [fnd_cons hq] at h
    by_cases hn : n = q
    · rw [if_pos hn] at h
      cases h
    · rw [if_neg hn] at h
      rw [List.cons_append, fnd_cons hq, fnd_cons hq, fnd_push n val born l (i + 1) (fun x hx => hk x (by simp [hx])) h k]
      by_cases hkn : k = n
      · subst hkn
        rw [if_neg hn, if_pos rfl, if_pos rfl]
        rw [List.length_cons, show i + 1 + l.length = i + (l.length + 1) by omega]
      · rw [if_neg hkn, if_neg hkn]
set_option maxRecDepth 8000 in
theorem ikeys_push {l : List MapEntry} (h : IKeys l) (n : Int) (val : Value) (born : Nat) : IKeys (l ++ [{ key := .int .i64 n, val := val, born := born }]) := by
  intro x hx
  rcases List.mem_append.1 hx with hx | hx
  · exact h x hx
  · rw [List.mem_singleton] at hx
    subst hx
    exact ⟨n, rfl⟩
/-- no key twice -/
def Once (l : List MapEntry) : Prop := l.Pairwise fun x y => x.key ≠ y.key
theorem fnd_none_of {n : Int} : ∀ (l : List MapEntry) (i : Nat), IKeys l → (∀ x ∈ l, x.key ≠ .int .i64 n) → fnd l n i = none
  | [], _, _, _ => rfl
  | e :: l, i, hk, h => by
    obtain ⟨q, hq⟩ := hk e (by simp)
    rw [fnd_cons hq, if_neg (by rintro rfl; exact h e (by simp) hq)]
    exact fnd_none_of l (i + 1) (fun x hx => hk x (by simp [hx])) (fun x hx => h x (by simp [hx]))
theorem fnd_none {n : Int} : ∀ (l : List MapEntry) (i : Nat), IKeys l → fnd l n i = none → ∀ x ∈ l, x.key ≠ .int .i64 n
  | [], _, _, _ => by simp
  | e :: l, i, hk, h => by
    obtain ⟨q, hq⟩ := hk e (by simp)
    rw [fnd_cons hq] at h
    by_cases hn : n = q
    · rw [if_pos hn] at h; cases h
    · rw [if_neg hn] at h
      intro x hx
      rcases List.mem_cons.1 hx with rfl | hx
      · rw [hq]; intro e; injection e with _ e; exact hn e.symm
      · exact fnd_none l (i + 1) (fun x hx => hk x (by simp [hx])) h x hx
theorem fnd_isSome_shift (n : Int) : ∀ (l : List MapEntry) (i j : Nat), (fnd l n i).isSome = (fnd l n j).isSome
  | [], _, _ => rfl
  | e :: l, i, j => by
    simp only [fnd]
    split
    · split
      · rfl
      · exact fnd_isSome_shift n l _ _
    · exact fnd_isSome_shift n l _ _
theorem fnd_erase {n : Int} : ∀ (l : List MapEntry) (i j : Nat) (v : Value), IKeys l → Once l → fnd l n i = some (j, v) → ∀ (k : Int) (q : Nat), (fnd (l.eraseIdx (j - i)) k q).isSome = if k = n then false else (fnd l k q).isSome
  | [], _, _, _, _, _, h => by cases h
  | e :: l, i, j, v, hk, ho, h => fun k q => by
    obtain ⟨t, ht⟩ := hk e (by simp)
    have hk' : IKeys l := fun x hx => hk x (by simp [hx])
    have ho' := List.pairwise_cons.1 ho
    rw [fnd_cons ht] at h
    by_cases hn : n = t
    · subst hn
      rw [if_pos rfl] at h
      injection h with h
      injection h with h1 h2
      subst h1
      rw [Nat.sub_self, List.eraseIdx_zero, List.tail_cons, fnd_cons ht]
      by_cases hkn : k = n
      · subst hkn
        rw [if_pos rfl, fnd_none_of l q hk' (fun x hx => by rw [← ht]; exact (ho'.1 x hx).symm)]
        rfl
      · rw [if_neg hkn, if_neg hkn]
        exact fnd_isSome_shift k l _ _
    · rw [if_neg hn] at h
      have h1 := (fnd_ge n l (i + 1) j v h).1
      rw [show j - i = (j - (i + 1)) + 1 by omega, List.eraseIdx_cons_succ, fnd_cons ht, fnd_cons ht]
      by_cases hkt : k = t
      · rw [if_pos hkt, if_pos hkt, if_neg (by rintro rfl; exact hn hkt)]
      · rw [if_neg hkt, if_neg hkt]
        exact fnd_erase l (i + 1) j v hk' ho'.2 h k (q + 1)
set_option maxRecDepth 8000 in
theorem run_check_int {P : Program} {k : TypeId} {q : IntKind} (hk : P.underlying k = some (.int q)) (W : World) (b : Bool) (n : Int) : (Instr.checkKey b 10000 k (.int q n)).run P W = .ok () W := by
  have h : ∀ d, (Instr.checkKey b (d + 1) k (.int q n)).run P W = .ok () W := fun d => by simp [Instr.checkKey, run_underlying hk]
  exact h 9999
set_option maxRecDepth 8000 in
theorem run_stays_int {P : Program} (W : World) (n : Int) : (Instr.keyThatStays (.int .i64 n) (.int .i64 n)).run P W = .ok (.int .i64 n) W := by
  have : Instr.sameBits 10000 (.int .i64 n) (.int .i64 n) = true := by
    show (IntKind.i64 == IntKind.i64 && n == n) = true
    simp
  simp [Instr.keyThatStays, this]
section
variable {P : Program} {t k e : TypeId} (w : World) {b : Nat} {es : Array MapEntry} {clock : Nat}
set_option maxRecDepth 8000 in
/-- a lookup -/
theorem run_look_i (ht : P.underlying t = some (.map k e)) (hk : P.underlying k = some (.int .i64)) (hb : w.heap[b]? = some (.map es clock)) (hi : IKeys es.toList) (z : Value) (hz : (zeroValue e).run P w = .ok z w) (n : Int) (ok : Bool) :
    (Instr.lookup t (.map (some b)) (.int .i64 n) ok).run P w = .ok (if ok then .tuple #[((fnd es.toList n 0).map (·.2)).getD z, .bool (fnd es.toList n 0).isSome] else ((fnd es.toList n 0).map (·.2)).getD z) w := by
  have hf := run_findKey (P := P) (w := w) hk (findNow_eq n es.toList 0 hi)
  have hck := fun x => run_check_int hk w x n
  cases hfn : fnd es.toList n 0 with
  | none =>
    rw [hfn] at hf
    cases ok <;> simp [Instr.lookup, run_underlying ht, Go.MapKept.run_getObj_map hb, hf, hck, hz, Result.andThen]
  | some p =>
    rw [hfn] at hf
    cases ok <;> simp [Instr.lookup, run_underlying ht, Go.MapKept.run_getObj_map hb, hf, hck, Result.andThen]
set_option maxRecDepth 8000 in
theorem run_look_none (ht : P.underlying t = some (.map k e)) (hk : P.underlying k = some (.int .i64)) (z : Value) (hz : (zeroValue e).run P w = .ok z w) (n : Int) :
    (Instr.lookup t (.map none) (.int .i64 n) true).run P w = .ok (.tuple #[z, .bool false]) w := by
  have hck := fun x => run_check_int hk w x n
  have hf : (Instr.findKey k (.int .i64 n) []).run P w = .ok none w := run_findKey (P := P) (w := w) hk (findNow_eq n [] 0 (by simp [IKeys]))
  simp [Instr.lookup, run_underlying ht, hf, hck, hz, Result.andThen]
/-- what entries are behind an update -/
def updE (es : Array MapEntry) (clock : Nat) (n : Int) (v : Value) : Array MapEntry :=
  match fnd es.toList n 0 with
  | some (i, _) => es.modify i fun e => { e with key := .int .i64 n, val := v }
  | none => es.push { key := .int .i64 n, val := v, born := clock }
set_option maxRecDepth 8000 in
theorem fnd_updE (hi : IKeys es.toList) (n : Int) (v : Value) (q : Int) : (fnd (updE es clock n v).toList q 0).map (·.2) = if q = n then some v else (fnd es.toList q 0).map (·.2) := by
  unfold updE
  cases hfn : fnd es.toList n 0 with
  | none =>
    simp only [Array.toList_push]
    rw [fnd_push n v clock es.toList 0 hi hfn]
    split <;> rfl
  | some p =>
    obtain ⟨i, u⟩ := p
    simp only [Array.toList_modify]
    have := fnd_modify n v es.toList 0 i u hi hfn q
    rw [Nat.sub_zero] at this
    rw [this]
    split <;> rfl
set_option maxRecDepth 8000 in
theorem fnd_updE_some (hi : IKeys es.toList) (n : Int) (v : Value) (q : Int) : (fnd (updE es clock n v).toList q 0).isSome = (decide (q = n) || (fnd es.toList q 0).isSome) := by
  have h := fnd_updE (clock := clock) hi n v q
  have h2 := congrArg Option.isSome h
  rw [Option.isSome_map] at h2
  rw [h2]
  by_cases hq : q = n
  · rw [if_pos hq]
    simp [hq]
  · rw [if_neg hq, Option.isSome_map]
    simp [hq]
set_option maxRecDepth 8000 in
theorem ikeys_updE (hi : IKeys es.toList) (n : Int) (v : Value) : IKeys (updE es clock n v).toList := by
  unfold updE
  split
  · rw [Array.toList_modify]; exact ikeys_modify hi _ _ _
  · rw [Array.toList_push]; exact ikeys_push hi _ _ _
set_option maxRecDepth 8000 in
theorem once_updE (hi : IKeys es.toList) (ho : Once es.toList) (n : Int) (v : Value) : Once (updE es clock n v).toList := by
  unfold updE
  cases hfn : fnd es.toList n 0 with
  | none =>
    simp only [Array.toList_push]
    refine List.pairwise_append.2 ⟨ho, by simp, fun x hx y hy => ?_⟩
    rw [List.mem_singleton] at hy
    subst hy
    exact fnd_none es.toList 0 hi hfn x hx
  | some p =>
    obtain ⟨i, u⟩ := p
    simp only [Array.toList_modify]
    have hge := fnd_ge n es.toList 0 i u hfn
    rw [Nat.sub_zero] at hge
    have he : (es.toList.modify i fun e => { e with key := .int .i64 n, val := v }).map (·.key) = es.toList.map (·.key) := by
      apply List.ext_getElem?
      intro j
      rw [List.getElem?_map, List.getElem?_map, List.getElem?_modify]
      by_cases hj : i = j
      · subst hj
        cases hl : es.toList[i]? with
        | none => rfl
        | some y =>
          have h4 := hge.2.2.2
          rw [hl] at h4
          simp only [Option.map_some, Option.some.injEq] at h4
          simp [h4]
      · simp [hj]
    have h2 := List.pairwise_map.2 (show List.Pairwise (fun x y : MapEntry => x.key ≠ y.key) es.toList from ho)
    rw [← he] at h2
    exact List.pairwise_map.1 h2
set_option maxRecDepth 8000 in
theorem run_upd_i (ht : P.underlying t = some (.map k e)) (hk : P.underlying k = some (.int .i64)) (hb : w.heap[b]? = some (.map es clock)) (hi : IKeys es.toList) (n : Int) (v : Value) :
    ∃ clock' w', (Instr.mapUpdate t (.map (some b)) (.int .i64 n) v).run P w = .ok () w' ∧ w'.heap[b]? = some (.map (updE es clock n v) clock') ∧ w.grownBy w' (some b) ∧ w' = { w with heap := w.heap.setIfInBounds b (.map (updE es clock n v) clock') } := by
  have hf := run_findKey (P := P) (w := w) hk (findNow_eq n es.toList 0 hi)
  have hck := fun x => run_check_int hk w x n
  have hlt : b < w.heap.size := (Array.getElem?_eq_some_iff.1 hb).1
  have fin : ∀ (o : Obj), ({ w with heap := w.heap.setIfInBounds b o } : World).heap[b]? = some o ∧ w.grownBy { w with heap := w.heap.setIfInBounds b o } (some b) := fun o =>
    ⟨by simp [hlt], ⟨rfl, rfl, rfl, by simp, fun j _ hj => by
      show (w.heap.setIfInBounds b o)[j]? = w.heap[j]?
      rw [Array.getElem?_setIfInBounds_ne (fun e => hj (by rw [e]))]⟩⟩
  cases hfn : fnd es.toList n 0 with
  | none =>
    rw [hfn] at hf
    refine ⟨clock + 1, _, ?_, (fin _).1, (fin _).2, rfl⟩
    simp [Instr.mapUpdate, run_underlying ht, Go.MapKept.run_getObj_map hb, hf, hck, Go.MapKept.run_setObj_map _ hb, Result.andThen, updE, hfn]
  | some p =>
    obtain ⟨i, u⟩ := p
    rw [hfn] at hf
    have hge := fnd_ge n es.toList 0 i u hfn
    rw [Nat.sub_zero] at hge
    have hkey : ((es[i]?).map (·.key)).getD (.int .i64 n) = .int .i64 n := by
      have := hge.2.2.2
      rw [Array.getElem?_toList] at this
      rw [this]
      rfl
    refine ⟨clock, _, ?_, (fin _).1, (fin _).2, rfl⟩
    simp only [Instr.mapUpdate, Sem.run_bind, run_underlying ht, Result.andThen_ok, Go.MapKept.run_getObj_map hb, hck, hf, hkey, run_stays_int, Go.MapKept.run_setObj_map _ hb, updE, hfn]
/-- a delete -/
def delE (es : Array MapEntry) (n : Int) : Array MapEntry :=
  match fnd es.toList n 0 with
  | some (i, _) => es.eraseIdxIfInBounds i
  | none => es
set_option maxRecDepth 8000 in
theorem toList_eraseIdxIf (es : Array MapEntry) (i : Nat) : (es.eraseIdxIfInBounds i).toList = es.toList.eraseIdx i := by
  unfold Array.eraseIdxIfInBounds
  split
  · simp
  · rename_i h
    rw [List.eraseIdx_of_length_le (by simpa using h)]
set_option maxRecDepth 8000 in
theorem fnd_delE (hi : IKeys es.toList) (ho : Once es.toList) (n : Int) (q : Int) : (fnd (delE es n).toList q 0).isSome = if q = n then false else (fnd es.toList q 0).isSome := by
  unfold delE
  cases hfn : fnd es.toList n 0 with
  | none =>
    by_cases hq : q = n
    · subst hq; rw [if_pos rfl]; simp [hfn]
    · rw [if_neg hq]
  | some p =>
    obtain ⟨i, u⟩ := p
    have := fnd_erase es.toList 0 i u hi ho hfn q 0
    rw [Nat.sub_zero] at this
    simp only [toList_eraseIdxIf]
    exact this
set_option maxRecDepth 8000 in
theorem sub_delE (n : Int) : (delE es n).toList.Sublist es.toList := by
  unfold delE
  split
  · rw [toList_eraseIdxIf]; exact List.eraseIdx_sublist _ _
  · exact List.Sublist.refl _
theorem ikeys_delE (hi : IKeys es.toList) (n : Int) : IKeys (delE es n).toList := fun x hx => hi x ((sub_delE n).subset hx)
theorem once_delE (ho : Once es.toList) (n : Int) : Once (delE es n).toList := ho.sublist (sub_delE n)
set_option maxRecDepth 8000 in
theorem run_del_i {ty : TypeId} (ht : P.underlying t = some (.map k e)) (hk : P.underlying k = some (.int .i64)) (hb : w.heap[b]? = some (.map es clock)) (hi : IKeys es.toList) (n : Int) :
    ∃ w', (Builtin.delete_ #[t, k] ty #[.map (some b), .int .i64 n]).run P w = .ok (.tuple #[]) w' ∧ w'.heap[b]? = some (.map (delE es n) clock) ∧ w.grownBy w' (some b) := by
  have hf := run_findKey (P := P) (w := w) hk (findNow_eq n es.toList 0 hi)
  have hck := fun x => run_check_int hk w x n
  have hlt : b < w.heap.size := (Array.getElem?_eq_some_iff.1 hb).1
  have fin : ∀ (o : Obj), ({ w with heap := w.heap.setIfInBounds b o } : World).heap[b]? = some o ∧ w.grownBy { w with heap := w.heap.setIfInBounds b o } (some b) := fun o =>
    ⟨by simp [hlt], ⟨rfl, rfl, rfl, by simp, fun j _ hj => by
      show (w.heap.setIfInBounds b o)[j]? = w.heap[j]?
      rw [Array.getElem?_setIfInBounds_ne (fun e => hj (by rw [e]))]⟩⟩
  cases hfn : fnd es.toList n 0 with
  | none =>
    rw [hfn] at hf
    refine ⟨_, ?_, (fin _).1, (fin _).2⟩
    simp [Builtin.delete_, run_underlying ht, Go.MapKept.run_getObj_map hb, hf, hck, Go.MapKept.run_setObj_map _ hb, Result.andThen, delE, hfn]
  | some p =>
    obtain ⟨i, u⟩ := p
    rw [hfn] at hf
    refine ⟨_, ?_, (fin _).1, (fin _).2⟩
    simp [Builtin.delete_, run_underlying ht, Go.MapKept.run_getObj_map hb, hf, hck, Go.MapKept.run_setObj_map _ hb, Result.andThen, delE, hfn]
set_option maxRecDepth 8000 in
theorem run_del_none {ty : TypeId} (ht : P.underlying t = some (.map k e)) (hk : P.underlying k = some (.int .i64)) (n : Int) :
    (Builtin.delete_ #[t, k] ty #[.map none, .int .i64 n]).run P w = .ok (.tuple #[]) w := by
  have hck := fun x => run_check_int hk w x n
  simp [Builtin.delete_, run_underlying ht, hck, Result.andThen]
end
end Go.Proofs.Ytjfcmoappbfnjaa
namespace Go.Proofs.Ytjfcmoappbfnjaa
open Go.RowKit
set_option maxRecDepth 8000 in
theorem zero99 : (Try.prog.info? 118).map (fun i => (i.zero, i.size)) = some (some (.agg #[]), 0) := by kernel_rfl
theorem z99 (w : World) : (zeroValue 118).run Try.prog w = .ok (.agg #[]) w := (zero_of_info zero99).1 w
/-- a disk, as it is told by plain data -/
structure Dk where
  size : Nat
  lasts : Nat → List UInt8
  waits : List (Nat × List UInt8)
  steps : Nat
  frm : Nat
  fails : Int → Bool
/-- where its parts lie -/
structure Pl where
  m : Nat
  wv : Value
  f : Option Nat
/-- block b is a map of sectors that reads as L, noughts where there is none -/
def SecMap (w : World) (b : Nat) (L : Nat → List UInt8) : Prop :=
  ∃ es clock, w.heap[b]? = some (.map es clock) ∧ IKeys es.toList ∧ ∀ n : Nat, ((fnd es.toList n 0).map (·.2)).getD (sec zs) = sec (L n)
/-- a nil map, or a block that is a map to empty structs, with just these keys -/
def SetMap (w : World) (f : Option Nat) (S : Int → Bool) : Prop :=
  match f with
  | none => ∀ n, S n = false
  | some b => ∃ es clock, w.heap[b]? = some (.map es clock) ∧ IKeys es.toList ∧ Once es.toList ∧ (∀ n, (fnd es.toList n 0).isSome = S n) ∧ ∀ x ∈ es.toList, x.val = .agg #[]
def upL (L : Nat → List UInt8) (n : Nat) (l : List UInt8) : Nat → List UInt8 := fun k => if k = n then l else L k
section
variable {w w' : World} {b : Nat} {L : Nat → List UInt8}
set_option maxRecDepth 8000 in
theorem SecMap.lt (h : SecMap w b L) : b < w.heap.size := by
  obtain ⟨es, clock, hb, _⟩ := h
  exact (Array.getElem?_eq_some_iff.1 hb).1
set_option maxRecDepth 8000 in
theorem SecMap.keep (h : SecMap w b L) (hb : w'.heap[b]? = w.heap[b]?) : SecMap w' b L := by
  obtain ⟨es, clock, h1, h2⟩ := h
  exact ⟨es, clock, hb.trans h1, h2⟩
set_option maxRecDepth 8000 in
theorem SecMap.congr {L' : Nat → List UInt8} (h : SecMap w b L) (e : ∀ n, L n = L' n) : SecMap w b L' := by
  obtain ⟨es, clock, h1, h2, h3⟩ := h
  exact ⟨es, clock, h1, h2, fun n => by rw [h3, e]⟩
set_option maxRecDepth 8000 in
theorem SecMap.look (h : SecMap w b L) (n : Nat) : (Instr.lookup 85 (.map (some b)) (.int .i64 (n : Int)) false).run Try.prog w = .ok (sec (L n)) w := by
  obtain ⟨es, clock, h1, h2, h3⟩ := h
  rw [run_look_i w Try.underlying85 Try.underlying3 h1 h2 (sec zs) (z47 w) n false, ← h3]
  rfl
set_option maxRecDepth 8000 in
theorem SecMap.update (h : SecMap w b L) (n : Nat) (l : List UInt8) :
    ∃ w', (Instr.mapUpdate 85 (.map (some b)) (.int .i64 (n : Int)) (sec l)).run Try.prog w = .ok () w' ∧ SecMap w' b (upL L n l) ∧ w.grownBy w' (some b) ∧ w'.heap.size = w.heap.size := by
  obtain ⟨es, clock, h1, h2, h3⟩ := h
  obtain ⟨c', w', hr, hb, hg, he⟩ := run_upd_i w Try.underlying85 Try.underlying3 h1 h2 n (sec l)
  refine ⟨w', hr, ⟨_, c', hb, ikeys_updE h2 _ _, fun k => ?_⟩, hg, by rw [he]; simp⟩
  rw [fnd_updE h2, upL]
  by_cases hk : k = n
  · subst hk
    simp
  · rw [if_neg (by omega), if_neg hk, h3]
theorem SecMap.made (w : World) : SecMap (w.alloc (.map #[] 0)) w.heap.size (fun _ => zs) :=
  ⟨#[], 0, heap_alloc_new w _, by simp [IKeys], fun n => rfl⟩
set_option maxRecDepth 8000 in
theorem SecMap.clone {w0 : World} (h : SecMap w0 b L) : ∃ es clock, w0.heap[b]? = some (.map es clock) ∧ ∀ w : World, SecMap (w.alloc (.map es clock)) w.heap.size L := by
  obtain ⟨es, clock, h1, h2, h3⟩ := h
  exact ⟨es, clock, h1, fun w => ⟨es, clock, heap_alloc_new w _, h2, h3⟩⟩
end
section
variable {w w' : World} {f : Option Nat} {S : Int → Bool}
set_option maxRecDepth 8000 in
theorem SetMap.lt (h : SetMap w f S) : ∀ b, f = some b → b < w.heap.size := by
  rintro b rfl
  obtain ⟨es, clock, hb, _⟩ := h
  exact (Array.getElem?_eq_some_iff.1 hb).1
set_option maxRecDepth 8000 in
theorem SetMap.keep (h : SetMap w f S) (hb : ∀ b, f = some b → w'.heap[b]? = w.heap[b]?) : SetMap w' f S := by
  cases f with
  | none => exact h
  | some b =>
    obtain ⟨es, clock, h1, h2⟩ := h
    exact ⟨es, clock, (hb b rfl).trans h1, h2⟩
set_option maxRecDepth 8000 in
theorem fnd_empty (es : List MapEntry) (hv : ∀ x ∈ es, x.val = .agg #[]) (n : Int) (i : Nat) : ((fnd es n i).map (·.2)).getD (.agg #[]) = .agg #[] := by
  cases hf : fnd es n i with
  | none => rfl
  | some p =>
    obtain ⟨j, v⟩ := p
    obtain ⟨_, _, h3, _⟩ := fnd_ge n es i j v hf
    cases hl : es[j - i]? with
    | none => rw [hl] at h3; cases h3
    | some y =>
      rw [hl] at h3
      simp only [Option.map_some, Option.some.injEq] at h3
      simp only [Option.map_some, Option.getD_some]
      rw [← h3]
      exact hv y (List.mem_of_getElem? hl)
set_option maxRecDepth 8000 in
theorem SetMap.look (h : SetMap w f S) (n : Int) : (Instr.lookup 88 (.map f) (.int .i64 n) true).run Try.prog w = .ok (.tuple #[.agg #[], .bool (S n)]) w := by
  cases f with
  | none =>
    rw [run_look_none w Try.underlying88 Try.underlying3 _ (z99 w) n, h n]
  | some b =>
    obtain ⟨es, clock, h1, h2, h3, h4, h5⟩ := h
    rw [run_look_i w Try.underlying88 Try.underlying3 h1 h2 _ (z99 w) n true, fnd_empty _ h5, h4]
    rfl
def delS (S : Int → Bool) (n : Int) : Int → Bool := fun k => if k = n then false else S k
def addS (S : Int → Bool) (n : Int) : Int → Bool := fun k => decide (k = n) || S k
set_option maxRecDepth 8000 in
theorem SetMap.delete {ty : TypeId} (h : SetMap w f S) (n : Int) :
    ∃ w', (Builtin.delete_ #[88, 3] ty #[.map f, .int .i64 n]).run Try.prog w = .ok (.tuple #[]) w' ∧ SetMap w' f (delS S n) ∧ w.grownBy w' f := by
  cases f with
  | none =>
    refine ⟨w, run_del_none w Try.underlying88 Try.underlying3 n, fun k => ?_, World.grownBy.refl w _⟩
    unfold delS
    split
    · rfl
    · exact h k
  | some b =>
    obtain ⟨es, clock, h1, h2, h3, h4, h5⟩ := h
    obtain ⟨w', hr, hb, hg⟩ := run_del_i w (ty := ty) Try.underlying88 Try.underlying3 h1 h2 n
    refine ⟨w', hr, ⟨_, _, hb, ikeys_delE h2 n, once_delE h3 n, fun k => ?_, fun x hx => h5 x ((sub_delE n).subset hx)⟩, hg⟩
    rw [fnd_delE h2 h3, delS, h4]
set_option maxRecDepth 8000 in
theorem SetMap.add {b : Nat} (h : SetMap w (some b) S) (n : Int) :
    ∃ w', (Instr.mapUpdate 88 (.map (some b)) (.int .i64 n) (.agg #[])).run Try.prog w = .ok () w' ∧ SetMap w' (some b) (addS S n) ∧ w.grownBy w' (some b) := by
  obtain ⟨es, clock, h1, h2, h3, h4, h5⟩ := h
  obtain ⟨c', w', hr, hb, hg, _⟩ := run_upd_i w Try.underlying88 Try.underlying3 h1 h2 n (.agg #[])
  refine ⟨w', hr, ⟨_, c', hb, ikeys_updE h2 _ _, once_updE h2 h3 _ _, fun k => ?_, fun x hx => ?_⟩, hg⟩
  · rw [fnd_updE_some h2, addS, h4]
  · unfold updE at hx
    split at hx
    · rw [Array.toList_modify] at hx
      obtain ⟨j, hj⟩ := List.mem_iff_getElem?.1 hx
      rw [List.getElem?_modify] at hj
      cases hl : es.toList[j]? with
      | none => simp [hl] at hj
      | some y =>
        rw [hl] at hj
        split at hj
        · simp at hj; subst hj; rfl
        · simp at hj; subst hj; exact h5 _ (List.mem_of_getElem? hl)
    · rw [Array.toList_push] at hx
      rcases List.mem_append.1 hx with hx | hx
      · exact h5 x hx
      · rw [List.mem_singleton] at hx; subst hx; rfl
theorem SetMap.made (w : World) : SetMap (w.alloc (.map #[] 0)) (some w.heap.size) (fun _ => false) :=
  ⟨#[], 0, heap_alloc_new w _, by simp [IKeys], List.Pairwise.nil, fun n => rfl, by simp⟩
set_option maxRecDepth 8000 in
theorem SetMap.clone {w0 : World} {b : Nat} (h : SetMap w0 (some b) S) : ∃ es clock, w0.heap[b]? = some (.map es clock) ∧ ∀ w : World, SetMap (w.alloc (.map es clock)) (some w.heap.size) S := by
  obtain ⟨es, clock, h1, h2⟩ := h
  exact ⟨es, clock, h1, fun w => ⟨es, clock, heap_alloc_new w _, h2⟩⟩
end
/-- the blocks of a disk -/
def Pl.has (pl : Pl) (p : Nat) : Nat → Prop := fun k => k = p ∨ k = pl.m ∨ pl.wv.ownBlock = some k ∨ pl.f = some k
/-- the cells of the disk's own block -/
def dcells (pl : Pl) (D : Dk) : Array Value := #[.int .i64 (D.size : Int), .map (some pl.m), pl.wv, .int .i64 (D.steps : Int), .int .i64 (D.frm : Int), .map pl.f]
/-- in w a disk D lies at p -/
structure DiskAt (w : World) (base p : Nat) (pl : Pl) (D : Dk) : Prop where
  blk : Blk w p 90 (dcells pl D)
  map : SecMap w pl.m D.lasts
  row : w.ownsRow base 95 513 pl.wv D.waits.length (D.waits.flatMap wc)
  set : SetMap w pl.f D.fails
  bp : base ≤ p
  bm : base ≤ pl.m
  bf : ∀ b, pl.f = some b → base ≤ b
  ne : pl.f ≠ some pl.m
  size1 : 1 ≤ D.size
  size2 : D.size ≤ 4096
  lens : ∀ n, (D.lasts n).length = 512
  wlens : ∀ x ∈ D.waits, x.2.length = 512 ∧ x.1 < D.size
  frm : D.frm ≤ D.steps
set_option maxRecDepth 8000 in
theorem DiskAt.lt {w : World} {base p : Nat} {pl : Pl} {D : Dk} (h : DiskAt w base p pl D) : ∀ k, pl.has p k → k < w.heap.size ∧ base ≤ k := by
  rintro k (rfl | rfl | hk | hk)
  · exact ⟨h.blk.lt, h.bp⟩
  · exact ⟨h.map.lt, h.bm⟩
  · exact ⟨(h.row.lt k hk).2, (h.row.lt k hk).1⟩
  · exact ⟨h.set.lt k hk, h.bf k hk⟩
set_option maxRecDepth 8000 in
theorem DiskAt.keep {w w' : World} {base p : Nat} {pl : Pl} {D : Dk} (h : DiskAt w base p pl D) (hk : ∀ k, pl.has p k → w'.heap[k]? = w.heap[k]?) : DiskAt w' base p pl D :=
  { h with
    blk := (hk p (.inl rfl)).trans h.blk
    map := h.map.keep (hk _ (.inr (.inl rfl)))
    row := by
      refine ⟨h.row.1, ?_⟩
      rcases h.row.2 with h' | ⟨g, cap, cur, hv, hb, hg, rest⟩
      · exact .inl h'
      · exact .inr ⟨g, cap, cur, hv, hb, (hk g (.inr (.inr (.inl (by rw [hv]; rfl))))).trans hg, rest⟩
    set := h.set.keep (fun b hb => hk b (.inr (.inr (.inr hb)))) }
theorem DiskAt.fr {w w' : World} {base p : Nat} {pl : Pl} {D : Dk} {S : Nat → Prop} (h : DiskAt w base p pl D) (hf : Fr S w w') (hS : ∀ k, pl.has p k → ¬ S k) : DiskAt w' base p pl D :=
  h.keep fun k hk => hf.block k (h.lt k hk).1 (hS k hk)
theorem DiskAt.below {w w' : World} {base p : Nat} {pl : Pl} {D : Dk} (h : DiskAt w base p pl D) (hb : Below w.heap.size w w') : DiskAt w' base p pl D :=
  h.keep fun k hk => hb.block k (h.lt k hk).1
theorem DiskAt.drewN {w : World} {base p : Nat} {pl : Pl} {D : Dk} (h : DiskAt w base p pl D) (n : Nat) : DiskAt (w.drewN n) base p pl D := h.keep fun _ _ => rfl
theorem DiskAt.drew {w : World} {base p : Nat} {pl : Pl} {D : Dk} (h : DiskAt w base p pl D) : DiskAt w.drew base p pl D := h.keep fun _ _ => rfl
theorem DiskAt.alloc {w : World} {base p : Nat} {pl : Pl} {D : Dk} (h : DiskAt w base p pl D) (o : Obj) : DiskAt (w.alloc o) base p pl D := h.keep fun k hk => Below.heap_alloc w o k (h.lt k hk).1
section
variable {w w' : World} {base p : Nat} {pl : Pl} {D : Dk}
set_option maxRecDepth 8000 in
theorem DiskAt.ne_pm (h : DiskAt w base p pl D) : pl.m ≠ p := by
  intro e
  obtain ⟨es, clock, hb, _⟩ := h.map
  have := h.blk
  unfold Blk at this
  rw [← e, hb] at this
  cases this
set_option maxRecDepth 8000 in
theorem DiskAt.ne_pf (h : DiskAt w base p pl D) : pl.f ≠ some p := by
  intro e
  have hs := h.set
  rw [e] at hs
  obtain ⟨es, clock, hb, _⟩ := hs
  have := h.blk
  unfold Blk at this
  rw [hb] at this
  cases this
set_option maxRecDepth 8000 in
theorem DiskAt.row_block (h : DiskAt w base p pl D) {g : Nat} (hg : pl.wv.ownBlock = some g) : ∃ cur, Blk w g 95 cur := by
  rcases h.row.2 with ⟨hv, _⟩ | ⟨g', cap, cur, hv, _, hb, _⟩
  · rw [hv] at hg; cases hg
  · rw [hv] at hg
    injection hg with hg
    subst hg
    exact ⟨cur, hb⟩
set_option maxRecDepth 8000 in
theorem DiskAt.ne_pw (h : DiskAt w base p pl D) : pl.wv.ownBlock ≠ some p := by
  intro e
  obtain ⟨cur, hb⟩ := h.row_block e
  have := h.blk
  unfold Blk at this hb
  rw [hb] at this
  injection this with this
  injection this with _ ht
  cases ht
set_option maxRecDepth 8000 in
theorem DiskAt.ne_mw (h : DiskAt w base p pl D) : pl.wv.ownBlock ≠ some pl.m := by
  intro e
  obtain ⟨cur, hb⟩ := h.row_block e
  obtain ⟨es, clock, hm, _⟩ := h.map
  unfold Blk at hb
  rw [hb] at hm
  cases hm
set_option maxRecDepth 8000 in
theorem DiskAt.ne_fw (h : DiskAt w base p pl D) : pl.f = none ∨ pl.wv.ownBlock ≠ pl.f := by
  cases hf : pl.f with
  | none => exact .inl rfl
  | some b =>
    refine .inr fun e => ?_
    obtain ⟨cur, hb⟩ := h.row_block e
    have hs := h.set
    rw [hf] at hs
    obtain ⟨es, clock, hm, _⟩ := hs
    unfold Blk at hb
    rw [hb] at hm
    cases hm
set_option maxRecDepth 8000 in
theorem DiskAt.keepRow (h : DiskAt w base p pl D) (hb : ∀ g, pl.wv.ownBlock = some g → w'.heap[g]? = w.heap[g]?) : w'.ownsRow base 95 513 pl.wv D.waits.length (D.waits.flatMap wc) := by
  refine ⟨h.row.1, ?_⟩
  rcases h.row.2 with h' | ⟨g, cap, cur, hv, hbs, hg, rest⟩
  · exact .inl h'
  · exact .inr ⟨g, cap, cur, hv, hbs, (hb g (by rw [hv]; rfl)).trans hg, rest⟩
/-- behind a delete in the map of those that fail -/
theorem DiskAt.deleted {S : Int → Bool} (h : DiskAt w base p pl D) (hs : SetMap w' pl.f S) (hg : w.grownBy w' pl.f) : DiskAt w' base p pl { D with fails := S } :=
  { h with
    blk := (hg.block p h.blk.lt (fun e => h.ne_pf e.symm)).trans h.blk
    map := h.map.keep (hg.block _ h.map.lt (fun e => h.ne e.symm))
    row := h.keepRow (fun g hv => hg.block g (h.row.lt g hv).2 (fun e => by
      rcases h.ne_fw with hn | hn
      · rw [hn] at e; cases e
      · exact hn (hv.trans e)))
    set := hs }
/-- behind a store of the number of steps -/
theorem DiskAt.counted (h : DiskAt w base p pl D) (n : Nat) (hn : D.frm ≤ n) : DiskAt (w.setCell ⟨p, 3, none⟩ (.int .i64 (n : Int))) base p pl { D with steps := n } :=
  { h with
    blk := h.blk.set_ 3 _
    map := h.map.keep (Below.heap_setCell _ _ _ _ h.ne_pm)
    row := h.keepRow (fun g hv => Below.heap_setCell _ _ _ _ (fun e => h.ne_pw (by rw [hv, e])))
    set := h.set.keep (fun b hb => Below.heap_setCell _ _ _ _ (fun e => h.ne_pf (by rw [hb, e])))
    frm := hn }
end
end Go.Proofs.Ytjfcmoappbfnjaa
namespace Go.Proofs.Ytjfcmoappbfnjaa
open Go.RowKit
section
variable {w : World} {base p : Nat} {pl : Pl} {D : Dk}
theorem DiskAt.c0 (h : DiskAt w base p pl D) : w.cell? ⟨p, 0, none⟩ = some (.int .i64 (D.size : Int)) := (h.blk.cell 0).trans rfl
theorem DiskAt.c1 (h : DiskAt w base p pl D) : w.cell? ⟨p, 1, none⟩ = some (.map (some pl.m)) := (h.blk.cell 1).trans rfl
theorem DiskAt.c2 (h : DiskAt w base p pl D) : w.cell? ⟨p, 2, none⟩ = some pl.wv := (h.blk.cell 2).trans rfl
theorem DiskAt.c3 (h : DiskAt w base p pl D) : w.cell? ⟨p, 3, none⟩ = some (.int .i64 (D.steps : Int)) := (h.blk.cell 3).trans rfl
theorem DiskAt.c4 (h : DiskAt w base p pl D) : w.cell? ⟨p, 4, none⟩ = some (.int .i64 (D.frm : Int)) := (h.blk.cell 4).trans rfl
theorem DiskAt.c5 (h : DiskAt w base p pl D) : w.cell? ⟨p, 5, none⟩ = some (.map pl.f) := (h.blk.cell 5).trans rfl
end
set_option maxRecDepth 8000 in
set_option maxHeartbeats 400000 in
theorem there_yes (p n : Nat) (w : World) (hc : w.cell? ⟨p, 0, none⟩ = some (.int .i64 (n : Int))) (hn : 1 ≤ n) :
    Calls Try.prog 39 #[.pointer (some ⟨p, 0, none⟩)] w fun e w' => e = .returned (.bool true) ∧ w = w' := by
  have h1 : decide (0 < n) = true := by simp; omega
  go_enter Try.func39, Try.ntmps39
  go_wp2
  go_ret
  exact ⟨rfl, rfl⟩
theorem there_at {w : World} {base p : Nat} {pl : Pl} {D : Dk} (h : DiskAt w base p pl D) :
    Calls Try.prog 39 #[.pointer (some ⟨p, 0, none⟩)] w fun e w' => e = .returned (.bool true) ∧ w = w' := there_yes p D.size w h.c0 h.size1
set_option maxRecDepth 8000 in
set_option maxHeartbeats 400000 in
theorem size_at {w : World} {base p : Nat} {pl : Pl} {D : Dk} (h : DiskAt w base p pl D) :
    Calls Try.prog 35 #[.pointer (some ⟨p, 0, none⟩)] w fun e w' => e = .returned (.int .i64 (D.size : Int)) ∧ w = w' := by
  have hc := h.c0
  have HT := Lib.hid (there_at h)
  clear h
  go_enter Try.func35, Try.ntmps35
  go_wp2_with (go_at_call 39; refine HT.out.mono ?_; rintro e w' ⟨rfl, rfl⟩)
  go_ret
  exact ⟨rfl, rfl⟩
set_option maxRecDepth 8000 in
set_option maxHeartbeats 400000 in
theorem asked_ok {w : World} {base p : Nat} {pl : Pl} {D : Dk} (h : DiskAt w base p pl D) (n : Nat) (hn : n < D.size) :
    Calls Try.prog 56 #[.pointer (some ⟨p, 0, none⟩), .int .i64 (n : Int)] w fun e w' => e = .returned (.int .i64 0) ∧ w = w' := by
  have hc := h.c0
  have HT := Lib.hid (there_at h)
  have h1 : decide ((n : Int) < 0) = false := by simp
  have h2 : decide ((D.size : Int) ≤ (n : Int)) = false := by simp; omega
  have h2' : decide (D.size ≤ n) = false := by simp; omega
  clear h
  go_enter Try.func56, Try.ntmps56
  go_wp2_with (go_at_call 39; refine HT.out.mono ?_; rintro e w' ⟨rfl, rfl⟩)
  go_ret
  exact ⟨rfl, rfl⟩
def newPl (m : Nat) : Pl := { m := m, wv := .slice none 0 0, f := none }
def newDk (n : Nat) : Dk := { size := n, lasts := fun _ => zs, waits := [], steps := 0, frm := 0, fails := fun _ => false }
set_option maxRecDepth 8000 in
theorem new_at (w : World) (n : Nat) (h1 : 1 ≤ n) (h2 : n ≤ 4096) : DiskAt ((w.alloc (.map #[] 0)).alloc (.cells (dcells (newPl w.heap.size) (newDk n)) 90)) w.heap.size (w.heap.size + 1) (newPl w.heap.size) (newDk n) where
  blk := heap_alloc2_new w _ _
  map := (SecMap.made w).keep (Below.heap_alloc _ _ _ (by simp))
  row := World.ownsRow_nil _ _ _ _
  set := fun _ => rfl
  bp := by omega
  bm := Nat.le_refl _
  bf := by simp [newPl]
  ne := by simp [newPl]
  size1 := h1
  size2 := h2
  lens := fun _ => zs_length
  wlens := by simp [newDk]
  frm := Nat.le_refl _
set_option maxRecDepth 8000 in
set_option maxHeartbeats 400000 in
theorem new_yes (w : World) (n : Nat) (h1 : 1 ≤ n) (h2 : n ≤ 4096) : Calls Try.prog 22 #[.int .i64 (n : Int)] w fun e w' =>
    e = .returned (.tuple #[.pointer (some ⟨w.heap.size + 1, 0, none⟩), .int .i64 0]) ∧ (w.alloc (.map #[] 0)).alloc (.cells (dcells (newPl w.heap.size) (newDk n)) 90) = w' := by
  have h1' : decide ((n : Int) < 1) = false := by simp; omega
  have h2' : decide (4096 < (n : Int)) = false := by simp; omega
  have hmm := @run_makeMap Try.prog
  go_enter Try.func22, Try.ntmps22
  go_wp2
  go_ret2
  exact ⟨rfl, rfl⟩
set_option maxRecDepth 8000 in
set_option maxHeartbeats 400000 in
theorem waiting_any (p : Option Addr) (w : World) : Calls Try.prog 41 #[.pointer p] w fun e w' =>
    e = .returned (.func (.func 63) #[] #[.pointer (some ⟨w.heap.size, 0, none⟩)]) ∧ w.alloc (.cells #[.pointer p] 30) = w' := by
  go_enter Try.func41, Try.ntmps41
  go_wp2
  go_ret
  exact ⟨rfl, rfl⟩
end Go.Proofs.Ytjfcmoappbfnjaa

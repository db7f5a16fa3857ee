/- disk: what a disk in memory is. -/
import Derived.Test.YtokbghpddgfnpaaDef
import Derived.Test.YtokbghpddgfnpaaFr
import Derived.Test.YtokbghpddgfnpaaIMap
namespace Go.Proofs.Ytokbghpddgfnpaa
open Go.RowKit
set_option maxRecDepth 8000 in
theorem zero99 : (Try.prog.info? 91).map (fun i => (i.zero, i.size)) = some (some (.agg #[]), 0) := by kernel_rfl
theorem z99 (w : World) : (zeroValue 91).run Try.prog w = .ok (.agg #[]) w := (zero_of_info zero99).1 w
/-- a disk, as it is told by plain data -/
structure Dk where
  size : Nat
  lasts : Nat → List UInt8
  waits : List (Nat × List UInt8)
  steps : Nat
  frm : Nat
  fails : Int → Bool
/-- where its parts lie -/
structure Pl where
  m : Nat
  wv : Value
  f : Option Nat
/-- block b is a map of sectors that reads as L, noughts where there is none -/
def SecMap (w : World) (b : Nat) (L : Nat → List UInt8) : Prop :=
  ∃ es clock, w.heap[b]? = some (.map es clock) ∧ IKeys es.toList ∧ ∀ n : Nat, ((fnd es.toList n 0).map (·.2)).getD (sec zs) = sec (L n)
/-- a nil map, or a block that is a map to empty structs, with just these keys -/
def SetMap (w : World) (f : Option Nat) (S : Int → Bool) : Prop :=
  match f with
  | none => ∀ n, S n = false
  | some b => ∃ es clock, w.heap[b]? = some (.map es clock) ∧ IKeys es.toList ∧ Once es.toList ∧ (∀ n, (fnd es.toList n 0).isSome = S n) ∧ ∀ x ∈ es.toList, x.val = .agg #[]
def upL (L : Nat → List UInt8) (n : Nat) (l : List UInt8) : Nat → List UInt8 := fun k => if k = n then l else L k
section
variable {w w' : World} {b : Nat} {L : Nat → List UInt8}
set_option maxRecDepth 8000 in
theorem SecMap.lt (h : SecMap w b L) : b < w.heap.size := by
  obtain ⟨es, clock, hb, _⟩ := h
  exact (Array.getElem?_eq_some_iff.1 hb).1
set_option maxRecDepth 8000 in
theorem SecMap.keep (h : SecMap w b L) (hb : w'.heap[b]? = w.heap[b]?) : SecMap w' b L := by
  obtain ⟨es, clock, h1, h2⟩ := h
  exact ⟨es, clock, hb.trans h1, h2⟩
set_option maxRecDepth 8000 in
theorem SecMap.congr {L' : Nat → List UInt8} (h : SecMap w b L) (e : ∀ n, L n = L' n) : SecMap w b L' := by
  obtain ⟨es, clock, h1, h2, h3⟩ := h
  exact ⟨es, clock, h1, h2, fun n => by rw [h3, e]⟩
set_option maxRecDepth 8000 in
theorem SecMap.look (h : SecMap w b L) (n : Nat) : (Instr.lookup 81 (.map (some b)) (.int .i64 (n : Int)) false).run Try.prog w = .ok (sec (L n)) w := by
  obtain ⟨es, clock, h1, h2, h3⟩ := h
  rw [run_look_i w Try.underlying81 Try.underlying3 h1 h2 (sec zs) (z47 w) n false, ← h3]
  rfl
set_option maxRecDepth 8000 in
theorem SecMap.update (h : SecMap w b L) (n : Nat) (l : List UInt8) :
    ∃ w', (Instr.mapUpdate 81 (.map (some b)) (.int .i64 (n : Int)) (sec l)).run Try.prog w = .ok () w' ∧ SecMap w' b (upL L n l) ∧ w.grownBy w' (some b) ∧ w'.heap.size = w.heap.size := by
  obtain ⟨es, clock, h1, h2, h3⟩ := h
  obtain ⟨c', w', hr, hb, hg, he⟩ := run_upd_i w Try.underlying81 Try.underlying3 h1 h2 n (sec l)
  refine ⟨w', hr, ⟨_, c', hb, ikeys_updE h2 _ _, fun k => ?_⟩, hg, by rw [he]; simp⟩
  rw [fnd_updE h2, upL]
  by_cases hk : k = n
  · subst hk
    simp
  · rw [if_neg (by omega), if_neg hk, h3]
theorem SecMap.made (w : World) : SecMap (w.alloc (.map #[] 0)) w.heap.size (fun _ => zs) :=
  ⟨#[], 0, heap_alloc_new w _, by simp [IKeys], fun n => rfl⟩
set_option maxRecDepth 8000 in
theorem SecMap.clone {w0 : World} (h : SecMap w0 b L) : ∃ es clock, w0.heap[b]? = some (.map es clock) ∧ ∀ w : World, SecMap (w.alloc (.map es clock)) w.heap.size L := by
  obtain ⟨es, clock, h1, h2, h3⟩ := h
  exact ⟨es, clock, h1, fun w => ⟨es, clock, heap_alloc_new w _, h2, h3⟩⟩
end
section
variable {w w' : World} {f : Option Nat} {S : Int → Bool}
set_option maxRecDepth 8000 in
theorem SetMap.lt (h : SetMap w f S) : ∀ b, f = some b → b < w.heap.size := by
  rintro b rfl
  obtain ⟨es, clock, hb, _⟩ := h
  exact (Array.getElem?_eq_some_iff.1 hb).1
set_option maxRecDepth 8000 in
theorem SetMap.keep (h : SetMap w f S) (hb : ∀ b, f = some b → w'.heap[b]? = w.heap[b]?) : SetMap w' f S := by
  cases f with
  | none => exact h
  | some b =>
    obtain ⟨es, clock, h1, h2⟩ := h
    exact ⟨es, clock, (hb b rfl).trans h1, h2⟩
set_option maxRecDepth 8000 in
theorem fnd_empty (es : List MapEntry) (hv : ∀ x ∈ es, x.val = .agg #[]) (n : Int) (i : Nat) : ((fnd es n i).map (·.2)).getD (.agg #[]) = .agg #[] := by
  cases hf : fnd es n i with
  | none => rfl
  | some p =>
    obtain ⟨j, v⟩ := p
    obtain ⟨_, _, h3, _⟩ := fnd_ge n es i j v hf
    cases hl : es[j - i]? with
    | none => rw [hl] at h3; cases h3
    | some y =>
      rw [hl] at h3
      simp only [Option.map_some, Option.some.injEq] at h3
      simp only [Option.map_some, Option.getD_some]
      rw [← h3]
      exact hv y (List.mem_of_getElem? hl)
set_option maxRecDepth 8000 in
theorem SetMap.look (h : SetMap w f S) (n : Int) : (Instr.lookup 83 (.map f) (.int .i64 n) true).run Try.prog w = .ok (.tuple #[.agg #[], .bool (S n)]) w := by
  cases f with
  | none =>
    rw [run_look_none w Try.underlying83 Try.underlying3 _ (z99 w) n, h n]
  | some b =>
    obtain ⟨es, clock, h1, h2, h3, h4, h5⟩ := h
    rw [run_look_i w Try.underlying83 Try.underlying3 h1 h2 _ (z99 w) n true, fnd_empty _ h5, h4]
    rfl
def delS (S : Int → Bool) (n : Int) : Int → Bool := fun k => if k = n then false else S k
def addS (S : Int → Bool) (n : Int) : Int → Bool := fun k => decide (k = n) || S k
set_option maxRecDepth 8000 in
theorem SetMap.delete {ty : TypeId} (h : SetMap w f S) (n : Int) :
    ∃ w', (Builtin.delete_ #[83, 3] ty #[.map f, .int .i64 n]).run Try.prog w = .ok (.tuple #[]) w' ∧ SetMap w' f (delS S n) ∧ w.grownBy w' f := by
  cases f with
  | none =>
    refine ⟨w, run_del_none w Try.underlying83 Try.underlying3 n, fun k => ?_, World.grownBy.refl w _⟩
    unfold delS
    split
    · rfl
    · exact h k
  | some b =>
    obtain ⟨es, clock, h1, h2, h3, h4, h5⟩ := h
    obtain ⟨w', hr, hb, hg⟩ := run_del_i w (ty := ty) Try.underlying83 Try.underlying3 h1 h2 n
    refine ⟨w', hr, ⟨_, _, hb, ikeys_delE h2 n, once_delE h3 n, fun k => ?_, fun x hx => h5 x ((sub_delE n).subset hx)⟩, hg⟩
    rw [fnd_delE h2 h3, delS, h4]
set_option maxRecDepth 8000 in
theorem SetMap.add {b : Nat} (h : SetMap w (some b) S) (n : Int) :
    ∃ w', (Instr.mapUpdate 83 (.map (some b)) (.int .i64 n) (.agg #[])).run Try.prog w = .ok () w' ∧ SetMap w' (some b) (addS S n) ∧ w.grownBy w' (some b) := by
  obtain ⟨es, clock, h1, h2, h3, h4, h5⟩ := h
  obtain ⟨c', w', hr, hb, hg, _⟩ := run_upd_i w Try.underlying83 Try.underlying3 h1 h2 n (.agg #[])
  refine ⟨w', hr, ⟨_, c', hb, ikeys_updE h2 _ _, once_updE h2 h3 _ _, fun k => ?_, fun x hx => ?_⟩, hg⟩
  · rw [fnd_updE_some h2, addS, h4]
  · unfold updE at hx
    split at hx
    · rw [Array.toList_modify] at hx
      obtain ⟨j, hj⟩ := List.mem_iff_getElem?.1 hx
      rw [List.getElem?_modify] at hj
      cases hl : es.toList[j]? with
      | none => simp [hl] at hj
      | some y =>
        rw [hl] at hj
        split at hj
        · simp at hj; subst hj; rfl
        · simp at hj; subst hj; exact h5 _ (List.mem_of_getElem? hl)
    · rw [Array.toList_push] at hx
      rcases List.mem_append.1 hx with hx | hx
      · exact h5 x hx
      · rw [List.mem_singleton] at hx; subst hx; rfl
theorem SetMap.made (w : World) : SetMap (w.alloc (.map #[] 0)) (some w.heap.size) (fun _ => false) :=
  ⟨#[], 0, heap_alloc_new w _, by simp [IKeys], List.Pairwise.nil, fun n => rfl, by simp⟩
set_option maxRecDepth 8000 in
theorem SetMap.clone {w0 : World} {b : Nat} (h : SetMap w0 (some b) S) : ∃ es clock, w0.heap[b]? = some (.map es clock) ∧ ∀ w : World, SetMap (w.alloc (.map es clock)) (some w.heap.size) S := by
  obtain ⟨es, clock, h1, h2⟩ := h
  exact ⟨es, clock, h1, fun w => ⟨es, clock, heap_alloc_new w _, h2⟩⟩
end
/-- the blocks of a disk -/
def Pl.has (pl : Pl) (p : Nat) : Nat → Prop := fun k => k = p ∨ k = pl.m ∨ pl.wv.ownBlock = some k ∨ pl.f = some k
/-- the cells of the disk's own block -/
def dcells (pl : Pl) (D : Dk) : Array Value := #[.int .i64 (D.size : Int), .map (some pl.m), pl.wv, .int .i64 (D.steps : Int), .int .i64 (D.frm : Int), .map pl.f]
/-- in w a disk D lies at p -/
structure DiskAt (w : World) (base p : Nat) (pl : Pl) (D : Dk) : Prop where
  blk : Blk w p 85 (dcells pl D)
  map : SecMap w pl.m D.lasts
  row : w.ownsRow base 89 513 pl.wv D.waits.length (D.waits.flatMap wc)
  set : SetMap w pl.f D.fails
  bp : base ≤ p
  bm : base ≤ pl.m
  bf : ∀ b, pl.f = some b → base ≤ b
  ne : pl.f ≠ some pl.m
  size1 : 1 ≤ D.size
  size2 : D.size ≤ 4096
  lens : ∀ n, (D.lasts n).length = 512
  wlens : ∀ x ∈ D.waits, x.2.length = 512 ∧ x.1 < D.size
  frm : D.frm ≤ D.steps
set_option maxRecDepth 8000 in
theorem DiskAt.lt {w : World} {base p : Nat} {pl : Pl} {D : Dk} (h : DiskAt w base p pl D) : ∀ k, pl.has p k → k < w.heap.size ∧ base ≤ k := by
  rintro k (rfl | rfl | hk | hk)
  · exact ⟨h.blk.lt, h.bp⟩
  · exact ⟨h.map.lt, h.bm⟩
  · exact ⟨(h.row.lt k hk).2, (h.row.lt k hk).1⟩
  · exact ⟨h.set.lt k hk, h.bf k hk⟩
set_option maxRecDepth 8000 in
theorem DiskAt.keep {w w' : World} {base p : Nat} {pl : Pl} {D : Dk} (h : DiskAt w base p pl D) (hk : ∀ k, pl.has p k → w'.heap[k]? = w.heap[k]?) : DiskAt w' base p pl D :=
  { h with
    blk := (hk p (.inl rfl)).trans h.blk
    map := h.map.keep (hk _ (.inr (.inl rfl)))
    row := by
      refine ⟨h.row.1, ?_⟩
      rcases h.row.2 with h' | ⟨g, cap, cur, hv, hb, hg, rest⟩
      · exact .inl h'
      · exact .inr ⟨g, cap, cur, hv, hb, (hk g (.inr (.inr (.inl (by rw [hv]; rfl))))).trans hg, rest⟩
    set := h.set.keep (fun b hb => hk b (.inr (.inr (.inr hb)))) }
theorem DiskAt.fr {w w' : World} {base p : Nat} {pl : Pl} {D : Dk} {S : Nat → Prop} (h : DiskAt w base p pl D) (hf : Fr S w w') (hS : ∀ k, pl.has p k → ¬ S k) : DiskAt w' base p pl D :=
  h.keep fun k hk => hf.block k (h.lt k hk).1 (hS k hk)
theorem DiskAt.below {w w' : World} {base p : Nat} {pl : Pl} {D : Dk} (h : DiskAt w base p pl D) (hb : Below w.heap.size w w') : DiskAt w' base p pl D :=
  h.keep fun k hk => hb.block k (h.lt k hk).1
theorem DiskAt.drewN {w : World} {base p : Nat} {pl : Pl} {D : Dk} (h : DiskAt w base p pl D) (n : Nat) : DiskAt (w.drewN n) base p pl D := h.keep fun _ _ => rfl
theorem DiskAt.drew {w : World} {base p : Nat} {pl : Pl} {D : Dk} (h : DiskAt w base p pl D) : DiskAt w.drew base p pl D := h.keep fun _ _ => rfl
theorem DiskAt.alloc {w : World} {base p : Nat} {pl : Pl} {D : Dk} (h : DiskAt w base p pl D) (o : Obj) : DiskAt (w.alloc o) base p pl D := h.keep fun k hk => Below.heap_alloc w o k (h.lt k hk).1
section
variable {w w' : World} {base p : Nat} {pl : Pl} {D : Dk}
set_option maxRecDepth 8000 in
theorem DiskAt.ne_pm (h : DiskAt w base p pl D) : pl.m ≠ p := by
  intro e
  obtain ⟨es, clock, hb, _⟩ := h.map
  have := h.blk
  unfold Blk at this
  rw [← e, hb] at this
  cases this
set_option maxRecDepth 8000 in
theorem DiskAt.ne_pf (h : DiskAt w base p pl D) : pl.f ≠ some p := by
  intro e
  have hs := h.set
  rw [e] at hs
  obtain ⟨es, clock, hb, _⟩ := hs
  have := h.blk
  unfold Blk at this
  rw [hb] at this
  cases this
set_option maxRecDepth 8000 in
theorem DiskAt.row_block (h : DiskAt w base p pl D) {g : Nat} (hg : pl.wv.ownBlock = some g) : ∃ cur, Blk w g 89 cur := by
  rcases h.row.2 with ⟨hv, _⟩ | ⟨g', cap, cur, hv, _, hb, _⟩
  · rw [hv] at hg; cases hg
  · rw [hv] at hg
    injection hg with hg
    subst hg
    exact ⟨cur, hb⟩
set_option maxRecDepth 8000 in
theorem DiskAt.ne_pw (h : DiskAt w base p pl D) : pl.wv.ownBlock ≠ some p := by
  intro e
  obtain ⟨cur, hb⟩ := h.row_block e
  have := h.blk
  unfold Blk at this hb
  rw [hb] at this
  injection this with this
  injection this with _ ht
  cases ht
set_option maxRecDepth 8000 in
theorem DiskAt.ne_mw (h : DiskAt w base p pl D) : pl.wv.ownBlock ≠ some pl.m := by
  intro e
  obtain ⟨cur, hb⟩ := h.row_block e
  obtain ⟨es, clock, hm, _⟩ := h.map
  unfold Blk at hb
  rw [hb] at hm
  cases hm
set_option maxRecDepth 8000 in
theorem DiskAt.ne_fw (h : DiskAt w base p pl D) : pl.f = none ∨ pl.wv.ownBlock ≠ pl.f := by
  cases hf : pl.f with
  | none => exact .inl rfl
  | some b =>
    refine .inr fun e => ?_
    obtain ⟨cur, hb⟩ := h.row_block e
    have hs := h.set
    rw [hf] at hs
    obtain ⟨es, clock, hm, _⟩ := hs
    unfold Blk at hb
    rw [hb] at hm
    cases hm
set_option maxRecDepth 8000 in
theorem DiskAt.keepRow (h : DiskAt w base p pl D) (hb : ∀ g, pl.wv.ownBlock = some g → w'.heap[g]? = w.heap[g]?) : w'.ownsRow base 89 513 pl.wv D.waits.length (D.waits.flatMap wc) := by
  refine ⟨h.row.1, ?_⟩
  rcases h.row.2 with h' | ⟨g, cap, cur, hv, hbs, hg, rest⟩
  · exact .inl h'
  · exact .inr ⟨g, cap, cur, hv, hbs, (hb g (by rw [hv]; rfl)).trans hg, rest⟩
/-- behind a delete in the map of those that fail -/
theorem DiskAt.deleted {S : Int → Bool} (h : DiskAt w base p pl D) (hs : SetMap w' pl.f S) (hg : w.grownBy w' pl.f) : DiskAt w' base p pl { D with fails := S } :=
  { h with
    blk := (hg.block p h.blk.lt (fun e => h.ne_pf e.symm)).trans h.blk
    map := h.map.keep (hg.block _ h.map.lt (fun e => h.ne e.symm))
    row := h.keepRow (fun g hv => hg.block g (h.row.lt g hv).2 (fun e => by
      rcases h.ne_fw with hn | hn
      · rw [hn] at e; cases e
      · exact hn (hv.trans e)))
    set := hs }
/-- behind a store of the number of steps -/
theorem DiskAt.counted (h : DiskAt w base p pl D) (n : Nat) (hn : D.frm ≤ n) : DiskAt (w.setCell ⟨p, 3, none⟩ (.int .i64 (n : Int))) base p pl { D with steps := n } :=
  { h with
    blk := h.blk.set_ 3 _
    map := h.map.keep (Below.heap_setCell _ _ _ _ h.ne_pm)
    row := h.keepRow (fun g hv => Below.heap_setCell _ _ _ _ (fun e => h.ne_pw (by rw [hv, e])))
    set := h.set.keep (fun b hb => Below.heap_setCell _ _ _ _ (fun e => h.ne_pf (by rw [hb, e])))
    frm := hn }
end
end Go.Proofs.Ytokbghpddgfnpaa

/- objects: storing into the midst of a block that is known whole: words. -/
import Derived.Test.YtljfddeolapeaaaDoorR09
import Derived.Laws.CopyRow
import Derived.Test.YtljfddeolapeaaaDoorR11
import Derived.Test.YtljfddeolapeaaaDoorR08
import Derived.Test.YtljfddeolapeaaaDoorR07
namespace Go.Proofs.YtljfddeolapeaaaDoor
open List renaming getElem_toArray → zq1, getElem_cons_succ → zq2, getElem_cons_zero → zq3, setIfInBounds_toArray → zq4, set_cons_zero → zq5, set_cons_succ → zq6
open Go.RowKit
section
variable {P : Program} {w : World} {b off : Nat} {t : TypeId} {l ys : List Value}
set_option maxRecDepth 8000 in
theorem run_storeVar_part (ty : TypeId) (hb : Blk w b t l.toArray) (hfit : off + ys.length ≤ l.length) (hi : (P.info? ty).map (·.size) = some ys.length) (h1 : ∀ u ∈ ys, u.oneCell' = true) :
    (storeVar ty ⟨b, off, none⟩ (.agg ys.toArray)).run P w = .ok () (w.setRow b (l.take off ++ ys ++ l.drop (off + ys.length)).toArray) := by
  have := run_storeCells_at P b off t ys 0 l.toArray w hb (by simpa using hfit) h1
  cases hq : P.info? ty with
  | none => simp [hq] at hi
  | some i =>
    have hs : ys.length = i.size := by simp [hq] at hi; omega
    simp only [Nat.add_zero] at this
    simp [storeVar, sizeOf, typeInfo, hq, Value.cells, hs, this]
set_option maxRecDepth 8000 in
theorem wp_store_part {o : Oper} {a : Act} {K : Act → World → Prop} {Q : Exit → Act → World → Prop} (ty : TypeId) (x y : Operand) (ho : o.op = .store ty x y) (hb : Blk w b t l.toArray) (hx : a.eval x = .pointer (some ⟨b, off, none⟩)) (hy : a.eval y = .agg ys.toArray)
    (hfit : off + ys.length ≤ l.length) (hi : (P.info? ty).map (·.size) = some ys.length) (h1 : ∀ u ∈ ys, u.oneCell' = true) (h : K (a.put o.dst undef) (w.setRow b (l.take off ++ ys ++ l.drop (off + ys.length)).toArray)) : o.wp P a w K Q := by
  unfold Oper.wp execOp
  simp only [ho, hx, hy, Instr.storeAt, Instr.sureAddr, Sem.run_bind, Sem.run_pure, Result.andThen_ok, run_storeVar_part ty hb hfit hi h1]
  exact h
end
set_option maxRecDepth 8000 in
theorem kl_one (y : Ky) : ∀ u ∈ kl y, u.oneCell' = true := by
  intro u h
  simp only [kl, List.mem_cons, List.not_mem_nil, or_false] at h
  rcases h with rfl | rfl | rfl | rfl | rfl | rfl <;> rfl
set_option maxRecDepth 8000 in
theorem kcs_set : ∀ (l : List Ky) (i : Nat) (_ : i < l.length) (y : Ky), (kcs l).take (i * 6) ++ kl y ++ (kcs l).drop (i * 6 + 6) = kcs (l.set i y)
  | x :: l, 0, _, y => by simp [kcs, kl]
  | x :: l, i + 1, h, y => by
    have := kcs_set l i (by simpa using h) y
    have e : (i + 1) * 6 = (kl x).length + i * 6 := by simp [kl]; omega
    rw [e, kcs, List.set_cons_succ, kcs, ← this, List.take_length_add_append, show (kl x).length + i * 6 + 6 = (kl x).length + (i * 6 + 6) by omega, List.drop_length_add_append]
    simp only [List.append_assoc]
/-- with another slot -/
def slotAs (o : Oj) (i : Nat) (y : Ky) : Oj := { o with s := o.s.set i y, hs := by rw [List.length_set]; exact o.hs }
def callsAs (o : Oj) (q : Int) : Oj := { o with l := q }
theorem calls_set (o : Oj) (q : Int) : o.cells.set 2 (.int .i64 q) = (callsAs o q).cells := rfl
set_option maxRecDepth 8000 in
theorem slot_set (o : Oj) (i : Nat) (hi : i < 16) (y : Ky) : (o.cells.take (3 + i * 6) ++ kl y ++ o.cells.drop (3 + i * 6 + (kl y).length)) = (slotAs o i y).cells := by
  have hl : (kcs o.s).length = 96 := by rw [kcs_length, o.hs]
  have := kcs_set o.s i (by rw [o.hs]; exact hi) y
  have h6 : (kl y).length = 6 := rfl
  unfold Oj.cells slotAs
  rw [h6, show 3 + i * 6 + 6 = (i * 6 + 6) + 3 by omega, show 3 + i * 6 = i * 6 + 3 by omega]
  simp only [List.take_succ_cons, List.drop_succ_cons, List.cons_append, List.cons.injEq, true_and]
  rw [List.take_append_of_le_length (by omega), List.drop_append_of_le_length (by omega), ← this]
  simp only [List.append_assoc]
end Go.Proofs.YtljfddeolapeaaaDoor
namespace Go.Proofs.YtljfddeolapeaaaDoor
open List renaming getElem_toArray → zq1, getElem_cons_succ → zq2, getElem_cons_zero → zq3, setIfInBounds_toArray → zq4, set_cons_zero → zq5, set_cons_succ → zq6
open Go.RowKit
abbrev erc (n : Int) : List PanicEntry := [{ v := .iface 46 (.int .i64 n), recovered := false }]
/-- a node as it is come to: its store, the key, the node -/
def akc (p : Nat) (x : Ky) (o : Oj) : List Value := pv p :: (kl x ++ o.cells)
abbrev akv (p : Nat) (x : Ky) (o : Oj) : Value := .agg (akc p x o).toArray
def zakc : List Value := .pointer none :: (kl zk ++ oz.cells)
theorem kl_len (x : Ky) : (kl x).length = 6 := rfl
set_option maxRecDepth 8000 in
theorem akc_len (p : Nat) (x : Ky) (o : Oj) : (akc p x o).length = 170 := by simp [akc, kl_len, o.len]
set_option maxRecDepth 8000 in
theorem zakc_len : zakc.length = 170 := by simp [zakc, kl_len, oz.len]
set_option maxRecDepth 8000 in
theorem akc_one (p : Nat) (x : Ky) (o : Oj) : ∀ u ∈ akc p x o, u.oneCell' = true := by
  intro u h
  simp only [akc, List.mem_cons, List.mem_append] at h
  rcases h with rfl | h | h
  · rfl
  · exact kl_one x u h
  · exact o.one u h
section
variable {w w' : World} {g off p : Nat} {x : Ky} {o : Oj}
theorem range_mid {a m b : List Value} (h : w.rangeAt g off (a ++ m ++ b)) : w.rangeAt g (off + a.length) m := fun j v hv => by
  have hj := (List.getElem?_eq_some_iff.1 hv).1
  rw [Nat.add_assoc]
  refine h _ _ ?_
  rw [List.append_assoc, List.getElem?_append_right (by omega), Nat.add_sub_cancel_left, List.getElem?_append_left hj, hv]
/-- it lies in a block from off on -/
def AkAt (w : World) (g off p : Nat) (x : Ky) (o : Oj) : Prop := w.rangeAt g off (akc p x o)
theorem AkAt.keep (h : AkAt w g off p x o) (hk : w'.heap[g]? = w.heap[g]?) : AkAt w' g off p x o := fun j v hv => (World.cell?_of_block (a := ⟨g, off + j, none⟩) hk).trans (h j v hv)
theorem AkAt.p0 (h : AkAt w g off p x o) : w.cell? ⟨g, off, none⟩ = some (pv p) := h 0 _ rfl
set_option maxRecDepth 8000 in
theorem AkAt.key (h : AkAt w g off p x o) : KeyAt w g (off + 1) x := by
  have h1 : w.rangeAt g (off + 1) (kl x) := range_mid (a := [pv p]) (b := o.cells) h
  exact ⟨h1 0 _ rfl, h1 1 _ rfl, h1 2 _ rfl, h1 3 _ rfl, h1 4 _ rfl, h1 5 _ rfl⟩
theorem AkAt.node (h : AkAt w g off p x o) : ObAt w g (off + 7) o := range_mid (a := pv p :: kl x) (b := []) (by rw [List.append_nil]; exact h)
theorem Blk.ak {t : TypeId} (h : Blk w g t (akc p x o).toArray) : AkAt w g 0 p x o := h.range
theorem ObAt.slot (h : ObAt w g off o) {i : Nat} (hi : i < 16) : ∃ y, o.s[i]? = some y ∧ KeyAt w g (off + 3 + i * 6) y :=
  ⟨_, List.getElem?_eq_getElem (by rw [o.hs]; exact hi), key_of_range h.slots i (by rw [o.hs]; exact hi)⟩
end
set_option maxRecDepth 8000 in
theorem kcs_len {l : List Ky} (h : l.length = 16) : (kcs l).length = 96 := by rw [kcs_length, h]
set_option maxRecDepth 8000 in
theorem zks_len : (kcs zks).length = 96 := by rw [kcs_length]; rfl
-- what is built of its parts
theorem fold_set (off : Nat) : ∀ (vs : List Value) (k : Nat) (cs : Array Value), off + k + vs.length ≤ cs.size →
    (vs.zipIdx k).foldl (fun (cs : Array Value) (p : Value × Nat) => cs.setIfInBounds (off + p.2) p.1) cs = (cs.toList.take (off + k) ++ vs ++ cs.toList.drop (off + k + vs.length)).toArray
  | [], k, cs, _ => by simp
  | v :: vs, k, cs, h => by
    simp only [List.length_cons] at h
    rw [List.zipIdx_cons, List.foldl_cons, fold_set off vs (k + 1) _ (by simp; omega)]
    have e := list_seg_step cs.toList (off + k) v vs (by simp; omega)
    congr 1
    simp only [Array.toList_setIfInBounds, List.length_cons]
    rw [← e, Nat.add_assoc off k 1, ← Nat.add_assoc]
set_option maxRecDepth 8000 in
theorem fold_cells (off : Nat) (v : Value) (cs : Array Value) (h : off + v.cells.size ≤ cs.size) :
    (v.cells.zipIdx.foldl (fun (cs : Array Value) (p : Value × Nat) => cs.setIfInBounds (off + p.2) p.1) cs) = (cs.toList.take off ++ v.cells.toList ++ cs.toList.drop (off + v.cells.size)).toArray := by
  rw [← Array.foldl_toList, Array.toList_zipIdx, fold_set off v.cells.toList 0 cs (by simpa using h)]
  simp
set_option maxRecDepth 8000 in
theorem fill_one (place : Nat → Option (Nat × Nat)) (cs : Array Value) (i : Nat) (v : Value) (rest : List (Nat × Value)) (off : Nat) (hp : place i = some (off, v.cells.size)) (h : off + v.cells.size ≤ cs.size) :
    Instr.fill place cs ((i, v) :: rest) = Instr.fill place (cs.toList.take off ++ v.cells.toList ++ cs.toList.drop (off + v.cells.size)).toArray rest := by
  have := fold_cells off v cs h
  simp only [Instr.fill, hp]
  rw [if_neg (by simp; omega)]
  congr 1
set_option maxRecDepth 8000 in
theorem run_sizeOf {P : Program} {t : TypeId} {n : Nat} (h : (P.info? t).map (·.size) = some n) (w : World) : (sizeOf t).run P w = .ok n w := by
  cases hq : P.info? t with
  | none => simp [hq] at h
  | some i =>
    simp [hq] at h
    simp [sizeOf, typeInfo, hq, h]
set_option maxRecDepth 8000 in
theorem fill87 (p : Nat) (x : Ky) (o : Oj) (zs : List Value) (hz : zs.length = 170) : Instr.fill (([(0, 1), (1, 6), (7, 163)] : List (Nat × Nat)).toArray[·]?) zs.toArray [(0, pv p), (1, x.val), (2, o.val)] = some (akc p x o).toArray := by
  have e6 : x.val.cells.size = 6 := rfl
  have e163 : o.val.cells.size = 163 := by show o.cells.toArray.size = 163; rw [List.size_toArray, o.len]
  rw [fill_one _ _ 0 (pv p) _ 0 rfl (by simp [Value.cells]; omega)]
  rw [fill_one _ _ 1 x.val _ 1 (by rw [e6]; rfl) (by rw [e6]; simp [Value.cells]; omega)]
  rw [fill_one _ _ 2 o.val _ 7 (by rw [e163]; rfl) (by rw [e163]; simp [Value.cells]; omega)]
  simp only [Instr.fill, e6, e163]
  obtain ⟨z0, zs, rfl⟩ : ∃ a l, zs = a :: l := by cases zs with | nil => simp at hz | cons a l => exact ⟨a, l, rfl⟩
  simp only [List.length_cons] at hz
  have c0 : (pv p).cells = #[pv p] := rfl
  have c1 : x.val.cells = (kl x).toArray := rfl
  have c2 : o.val.cells = o.cells.toArray := rfl
  rw [c0, c1, c2]
  simp only [List.size_toArray, List.length_cons, List.length_nil, List.take_zero, List.nil_append, List.drop_succ_cons, List.drop_zero]
  have d1 : ([pv p] ++ zs).take 1 = [pv p] := rfl
  have hkl : (kl x).length = 6 := rfl
  simp only [List.take_succ_cons, List.take_zero, List.drop_succ_cons, akc, kl, List.cons_append, List.nil_append]
  simp
  omega
section
variable {ops : Array Oper} {o : Oper} {a : Act} {S : World → Prop}
end
section
variable {P : Program} {ops : Array Oper} {rest : List Oper} {o : Oper} {a : Act} {Q : Exit → Act → World → Prop}
theorem all_one {l : List Value} (h : ∀ u ∈ l, u.oneCell' = true) : l.toArray.all (·.oneCell') = true := all_oneCell_toArray h
/-- a block known whole is stored whole -/
theorem wpList_store_big {w : World} {t ty : TypeId} {b : Nat} {l0 l : List Value} (hb : Blk w b t l0.toArray) (hgd : o.guard = none) (x y : Operand) (ho : o.op = .store ty x y) (hx : a.eval x = .pointer (some ⟨b, 0, none⟩)) (hy : a.eval y = .agg l.toArray) (hs : (P.info? ty).map (·.size) = some l.length) (hl : l0.length = l.length) (h1 : ∀ u ∈ l, u.oneCell' = true)
    (h : wpList P ops Q rest (a.put o.dst undef) (w.setRow b l.toArray)) : wpList P ops Q (o :: rest) a w :=
  wpList_store_row hgd ty x y ho b l.toArray hx hy t l0.toArray hb (by rw [List.size_toArray]; exact hs) (by rw [List.size_toArray, List.size_toArray, hl]) (all_one h1) h
set_option maxRecDepth 8000 in
/-- the newest block is stored whole -/
theorem wpList_store_new {W : World} {t ty : TypeId} {l0 l : List Value} (hgd : o.guard = none) (x y : Operand) (ho : o.op = .store ty x y) (b : Nat) (hb : b = W.heap.size) (hx : a.eval x = .pointer (some ⟨b, 0, none⟩)) (hy : a.eval y = .agg l.toArray) (hs : (P.info? ty).map (·.size) = some l.length) (hl : l0.length = l.length) (h1 : ∀ u ∈ l, u.oneCell' = true)
    (h : wpList P ops Q rest (a.put o.dst undef) (W.alloc (.cells l.toArray t))) : wpList P ops Q (o :: rest) a (W.alloc (.cells l0.toArray t)) := by
  subst hb
  refine wpList_store_big (Blk.new W t l0.toArray) hgd x y ho hx hy hs hl h1 ?_
  rw [World.setRow_alloc_new]
  exact h
set_option maxRecDepth 8000 in
/-- a part of a block known whole is stored -/
theorem wpList_store_in {w : World} {t ty : TypeId} {l0 l l1 : List Value} {b off : Nat} (hb : Blk w b t l0.toArray) (hgd : o.guard = none) (x y : Operand) (ho : o.op = .store ty x y) (hx : a.eval x = .pointer (some ⟨b, off, none⟩)) (hy : a.eval y = .agg l.toArray) (hs : (P.info? ty).map (·.size) = some l.length) (hfit : off + l.length ≤ l0.length) (h1 : ∀ u ∈ l, u.oneCell' = true) (he : l0.take off ++ l ++ l0.drop (off + l.length) = l1)
    (h : wpList P ops Q rest (a.put o.dst undef) (w.setRow b l1.toArray)) : wpList P ops Q (o :: rest) a w := by
  refine wpList_plain hgd fun K hK => ?_
  refine wp_store_part ty x y ho hb hx hy hfit hs h1 ?_
  rw [he]
  exact hK _ _ h
end
section
variable {P : Program}
set_option maxRecDepth 8000 in
theorem res_1 {fn : Func} {p : Tmp} {t : TypeId} (h : fn.results = #[.cell p t]) (tmps : Array Value) (w : World) (g : Nat) (v : Value) (hp : tmps.getD p undef = .pointer (some ⟨g, 0, none⟩)) (hl : (loadVar t ⟨g, 0, none⟩).run P w = .ok v w) : (results fn tmps).run P w = .ok v w := by
  have hp' : tmps[p]?.getD undef = .pointer (some ⟨g, 0, none⟩) := by simpa using hp
  simp [results, h, hp', asAddr, hl]
set_option maxRecDepth 8000 in
theorem res_1t {fn : Func} {p q : Tmp} {t : TypeId} (h : fn.results = #[.cell p t, .tmp q]) (tmps : Array Value) (w : World) (g : Nat) (v u : Value) (hp : tmps.getD p undef = .pointer (some ⟨g, 0, none⟩)) (hq : tmps.getD q undef = u) (hl : (loadVar t ⟨g, 0, none⟩).run P w = .ok v w) : (results fn tmps).run P w = .ok (.tuple #[v, u]) w := by
  have hp' : tmps[p]?.getD undef = .pointer (some ⟨g, 0, none⟩) := by simpa using hp
  have hq' : tmps[q]?.getD undef = u := by simpa using hq
  simp [results, h, hp', hq', asAddr, hl]
set_option maxRecDepth 8000 in
theorem res_2 {fn : Func} {p q : Tmp} {t t' : TypeId} (h : fn.results = #[.cell p t, .cell q t']) (tmps : Array Value) (w : World) (g g' : Nat) (v v' : Value) (hp : tmps.getD p undef = .pointer (some ⟨g, 0, none⟩)) (hq : tmps.getD q undef = .pointer (some ⟨g', 0, none⟩)) (hl : (loadVar t ⟨g, 0, none⟩).run P w = .ok v w) (hl' : (loadVar t' ⟨g', 0, none⟩).run P w = .ok v' w) : (results fn tmps).run P w = .ok (.tuple #[v, v']) w := by
  have hp' : tmps[p]?.getD undef = .pointer (some ⟨g, 0, none⟩) := by simpa using hp
  have hq' : tmps[q]?.getD undef = .pointer (some ⟨g', 0, none⟩) := by simpa using hq
  simp [results, h, hp', hq', asAddr, hl, hl']
end
section
variable {w : World} {g : Nat} {t : TypeId}
theorem load_key (x : Ky) (h : Blk w g t (kl x).toArray) : (loadVar 33 ⟨g, 0, none⟩).run Tryd.prog w = .ok x.val w :=
  run_loadVar_row w g t 33 (kl x).toArray (0, 0) _ h Tryd.underlying33 rfl size30
theorem Blk.new_of (w : World) (t : TypeId) (cs : Array Value) {g : Nat} (h : g = w.heap.size) : Blk (w.alloc (.cells cs t)) g t cs := h ▸ Blk.new w t cs
theorem Blk.row_far {b : Nat} {cs : Array Value} (h : Blk w g t cs) (hne : g ≠ b) (c : Array Value) : Blk (w.setRow b c) g t cs := (setRow_other w b g c hne).trans h
end
theorem fr_below {S : Nat → Prop} {B : Nat} {a b : World} (h : Fr S a b) (hB : B ≤ a.heap.size) (hk : ∀ j, j < B → S j → b.heap[j]? = a.heap[j]?) : Below B a b :=
  ⟨h.os, h.tape, h.output, h.size, fun j hj => by
    by_cases hs : S j
    · exact hk j hj hs
    · exact h.block j (Nat.lt_of_lt_of_le hj hB) hs⟩
set_option maxRecDepth 8000 in
-- rights
theorem and2 {r : Int} (n : Nat) (hr : r = n) (hn : n < 8) : bits .and .i64 r 2 = (((n / 2 % 2 * 2 : Nat)) : Int) := by
  subst hr
  rw [show ((2 : Int)) = ((2 : Nat) : Int) from rfl, and_n n 2 hn (by decide)]
  have : ∀ n, n < 8 → n &&& 2 = n / 2 % 2 * 2 := by decide
  rw [this n hn]
set_option maxRecDepth 8000 in
theorem and3 {r : Int} (n : Nat) (hr : r = n) (hn : n < 8) : bits .and .i64 r 3 = (((n % 4 : Nat)) : Int) := by
  subst hr
  rw [show ((3 : Int)) = ((3 : Nat) : Int) from rfl, and_n n 3 hn (by decide)]
  have : ∀ n, n < 8 → n &&& 3 = n % 4 := by decide
  rw [this n hn]
end Go.Proofs.YtljfddeolapeaaaDoor
namespace Go.Proofs.YtljfddeolapeaaaDoor
open List renaming getElem_toArray → zq1, getElem_cons_succ → zq2, getElem_cons_zero → zq3, setIfInBounds_toArray → zq4, set_cons_zero → zq5, set_cons_succ → zq6
open Go.RowKit
section
variable {w : World} {base p : Nat} {A : Option Addr} {cap : Nat} {ps : List Nat} {os : List Oj}
set_option maxRecDepth 8000 in
theorem nm_some (h : StAt w base p A cap ps os) (hn : 0 < os.length) (hT : Tab w) {x : Ky} {o : Oj} (hx : named os x = some o) :
    Calls Tryd.prog 18 #[pv p, x.val] w fun e w' => e = .returned (.tuple #[o.val, .bool true]) ∧ Below w.heap.size w w' := by
  have := named_at h hn hT x
  rwa [hx] at this
set_option maxRecDepth 8000 in
theorem nm_none (h : StAt w base p A cap ps os) (hn : 0 < os.length) (hT : Tab w) {x : Ky} (hx : named os x = none) :
    Calls Tryd.prog 18 #[pv p, x.val] w fun e w' => e = .returned (.tuple #[oz.val, .bool false]) ∧ Below w.heap.size w w' := by
  have := named_at h hn hT x
  rwa [hx] at this
theorem size_m (h : StAt w base p A cap ps os) (hn : 0 < os.length) {m : Int} (hm : m = (os.length : Int)) : Calls Tryd.prog 42 #[pv p] w fun e w' => e = .returned (.int .i64 m) ∧ w = w' := hm ▸ size_at h hn
end
end Go.Proofs.YtljfddeolapeaaaDoor
namespace Go.Proofs.YtljfddeolapeaaaDoor
open List renaming getElem_toArray → zq1, getElem_cons_succ → zq2, getElem_cons_zero → zq3, setIfInBounds_toArray → zq4, set_cons_zero → zq5, set_cons_succ → zq6
open Go.RowKit
set_option maxRecDepth 8000 in
theorem named_of {os : List Oj} {x : Ky} (h : (named os x).isSome = true) : x.of := by
  by_cases hf : x.of
  · exact hf
  · rw [named_not hf] at h
    cases h
set_option maxRecDepth 8000 in
theorem cn_ok {x : Ky} {o : Oj} (h : x.cn o = true) : x.ok := by
  unfold Ky.cn Ky.cnt at h
  simp only [decide_eq_true_eq] at h
  exact h.1
set_option maxRecDepth 8000 in
theorem prepd_ok (os : List Oj) (y : Ky) : (prepd os y).ok := by
  unfold prepd
  by_cases h : ((named os y).isSome || y.cn oz) = true
  · rw [if_pos h]
    simp only [Bool.or_eq_true] at h
    rcases h with h | h
    · exact (named_of h).1
    · exact cn_ok h
  · rw [if_neg h]
    exact zk_ok
/-- what is got by a key of what a slot has -/
noncomputable def gotK (os : List Oj) (x y : Ky) : Ky := if x.r / 2 % 2 = 1 then (prepd os y).weak else prepd os y
section
variable {ops : Array Oper} {o : Oper} {a : Act} {w : World} {K : Act → World → Prop} {Q : Exit → Act → World → Prop} {E : Prop} {P : Program}
set_option maxRecDepth 8000 in
theorem step_alloc30 (hgd : o.guard = none) (ho : o.op = .alloc 33)
    (h : ∀ g w', g = w.heap.size → w' = w.alloc (.cells (kl zk).toArray 33) → K (a.put o.dst (.pointer (some ⟨g, 0, none⟩))) w') :
    if Region.wanted o (yielded ops a.tmps) = true then Oper.wp Tryd.prog o a w K Q else E := by
  have hw : Region.wanted o (yielded ops a.tmps) = true := by simp [Region.wanted, hgd]
  rw [if_pos hw]
  unfold Oper.wp
  simp [execOp, ho, Result.andThen]
  exact h _ _ rfl rfl
set_option maxRecDepth 8000 in
theorem step_store_big {t ty : TypeId} {b : Nat} {l0 l : List Value} (hb : Blk w b t l0.toArray) (hgd : o.guard = none) (x y : Operand) (ho : o.op = .store ty x y) (hx : a.eval x = .pointer (some ⟨b, 0, none⟩)) (hy : a.eval y = .agg l.toArray) (hs : (P.info? ty).map (·.size) = some l.length) (hl : l0.length = l.length) (h1 : ∀ u ∈ l, u.oneCell' = true)
    (h : K (a.put o.dst undef) (w.setRow b l.toArray)) : if Region.wanted o (yielded ops a.tmps) = true then Oper.wp P o a w K Q else E := by
  rw [if_pos (by simp [Region.wanted, hgd])]
  exact wp_store_row ty x y ho b l.toArray hx hy t l0.toArray hb (by rw [List.size_toArray]; exact hs) (by rw [List.size_toArray, List.size_toArray, hl]) (all_one h1) h
end
section
variable {w : World} {base p : Nat} {A : Option Addr} {cap : Nat} {ps : List Nat} {os : List Oj}
set_option maxRecDepth 8000 in
theorem KeyAt.at_heap {w w' : World} {b o : Nat} {x : Ky} (h : KeyAt w b o x) (hk : w'.heap[b]? = w.heap[b]?) : KeyAt w' b o x := by
  obtain ⟨h0, h1, h2, h3, h4, h5⟩ := h
  exact ⟨(World.cell?_of_block (a := ⟨b, o, none⟩) hk).trans h0, (World.cell?_of_block (a := ⟨b, o + 1, none⟩) hk).trans h1, (World.cell?_of_block (a := ⟨b, o + 2, none⟩) hk).trans h2, (World.cell?_of_block (a := ⟨b, o + 3, none⟩) hk).trans h3, (World.cell?_of_block (a := ⟨b, o + 4, none⟩) hk).trans h4, (World.cell?_of_block (a := ⟨b, o + 5, none⟩) hk).trans h5⟩
set_option maxRecDepth 8000 in
theorem slot6 {g off i : Nat} {y : Ky} (h : KeyAt w g (off + 7 + 3 + i * 6) y) : KeyAt w g (off + 10 + i * 6) y := by
  rw [show off + 10 + i * 6 = off + 7 + 3 + i * 6 by omega]
  exact h
end
end Go.Proofs.YtljfddeolapeaaaDoor

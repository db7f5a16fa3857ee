/- keys: a key made weak, by the program and by the definition: words. -/
import Derived.Test.YtjolojomgfcfbaaDoorR04
import Derived.Test.YtjolojomgfcfbaaDoorR05
import Derived.Test.YtjolojomgfcfbaaDoorR06
import Derived.Test.YtjolojomgfcfbaaDoorR12
import Derived.Test.YtjolojomgfcfbaaDoorR10
import Derived.Laws.CopyRow
import Derived.Test.YtjolojomgfcfbaaDoorR09
namespace Go.Proofs.YtjolojomgfcfbaaDoor
open Go.RowKit
/-- weak -/
def Ky.weak (x : Ky) : Ky := if x.k = 0 ∨ x.k = 1 ∨ x.k = 8 then x else if x.k = 2 ∨ x.k = 3 then { x with r := (lsN x.r.toNat 3 (rm x.k) : Nat) } else ⟨0, 0, 0, 0, 0, 0⟩
theorem weak_self {x : Ky} (h : x.k = 0 ∨ x.k = 1 ∨ x.k = 8) : x.weak = x := if_pos h
set_option maxRecDepth 8000 in
theorem weak_less {x : Ky} (h : x.k = 2 ∨ x.k = 3) : x.weak = { x with r := (lsN x.r.toNat 3 (rm x.k) : Nat) } := by
  unfold Ky.weak
  rw [if_neg (by omega), if_pos h]
set_option maxRecDepth 8000 in
theorem weak_void {x : Ky} (h : x.k ≠ 0 ∧ x.k ≠ 1 ∧ x.k ≠ 8 ∧ x.k ≠ 2 ∧ x.k ≠ 3) : x.weak = ⟨0, 0, 0, 0, 0, 0⟩ := by
  unfold Ky.weak
  rw [if_neg (by omega), if_neg (by omega)]
set_option maxRecDepth 8000 in
theorem weaken_ok (x : Ky) (w : World) (hT : Tab w) (h : x.ok) :
    Calls Tryd.prog 66 #[x.val] w fun e w' => e = .returned (.tuple #[x.weak.val, .int .i64 0]) ∧ Below w.heap.size w w' := by
  obtain ⟨k, o, c, l, r, v⟩ := x
  by_cases h1 : k = 0 ∨ k = 1 ∨ k = 8
  · rw [weak_self h1]
    exact weaken_self k o c l r v w hT h h1
  · by_cases h2 : k = 2 ∨ k = 3
    · rw [weak_less h2]
      obtain ⟨_, n, hn, _, h8⟩ := ok_of h
      simp only at hn
      subst hn
      exact weaken_less k o c l v n w hT h h2 h8
    · rw [weak_void (by simp; omega)]
      exact weaken_void k o c l r v w hT h (by omega)
end Go.Proofs.YtjolojomgfcfbaaDoor
namespace Go.Proofs.YtjolojomgfcfbaaDoor
open Go.RowKit
abbrev erc (n : Int) : List PanicEntry := [{ v := .iface 42 (.int .i64 n), recovered := false }]
/-- a node as it is come to: its store, the key, the node -/
def akc (p : Nat) (x : Ky) (o : Oj) : List Value := pv p :: (kl x ++ o.cells)
abbrev akv (p : Nat) (x : Ky) (o : Oj) : Value := .agg (akc p x o).toArray
def zakc : List Value := .pointer none :: (kl zk ++ oz.cells)
theorem kl_len (x : Ky) : (kl x).length = 6 := rfl
set_option maxRecDepth 8000 in
theorem akc_len (p : Nat) (x : Ky) (o : Oj) : (akc p x o).length = 170 := by simp [akc, kl_len, o.len]
set_option maxRecDepth 8000 in
theorem zakc_len : zakc.length = 170 := by simp [zakc, kl_len, oz.len]
set_option maxRecDepth 8000 in
theorem akc_one (p : Nat) (x : Ky) (o : Oj) : ∀ u ∈ akc p x o, u.oneCell' = true := by
  intro u h
  simp only [akc, List.mem_cons, List.mem_append] at h
  rcases h with rfl | h | h
  · rfl
  · exact kl_one x u h
  · exact o.one u h
section
variable {w w' : World} {g off p : Nat} {x : Ky} {o : Oj}
theorem range_mid {a m b : List Value} (h : w.rangeAt g off (a ++ m ++ b)) : w.rangeAt g (off + a.length) m := fun j v hv => by
  have hj := (List.getElem?_eq_some_iff.1 hv).1
  rw [Nat.add_assoc]
  refine h _ _ ?_
  rw [List.append_assoc, List.getElem?_append_right (by omega), Nat.add_sub_cancel_left, List.getElem?_append_left hj, hv]
/-- it lies in a block from off on -/
def AkAt (w : World) (g off p : Nat) (x : Ky) (o : Oj) : Prop := w.rangeAt g off (akc p x o)
theorem AkAt.keep (h : AkAt w g off p x o) (hk : w'.heap[g]? = w.heap[g]?) : AkAt w' g off p x o := fun j v hv => (World.cell?_of_block (a := ⟨g, off + j, none⟩) hk).trans (h j v hv)
theorem AkAt.p0 (h : AkAt w g off p x o) : w.cell? ⟨g, off, none⟩ = some (pv p) := h 0 _ rfl
set_option maxRecDepth 8000 in
theorem AkAt.key (h : AkAt w g off p x o) : KeyAt w g (off + 1) x := by
  have h1 : w.rangeAt g (off + 1) (kl x) := range_mid (a := [pv p]) (b := o.cells) h
  exact ⟨h1 0 _ rfl, h1 1 _ rfl, h1 2 _ rfl, h1 3 _ rfl, h1 4 _ rfl, h1 5 _ rfl⟩
theorem AkAt.node (h : AkAt w g off p x o) : ObAt w g (off + 7) o := range_mid (a := pv p :: kl x) (b := []) (by rw [List.append_nil]; exact h)
theorem Blk.ak {t : TypeId} (h : Blk w g t (akc p x o).toArray) : AkAt w g 0 p x o := h.range
theorem ObAt.slot (h : ObAt w g off o) {i : Nat} (hi : i < 16) : ∃ y, o.s[i]? = some y ∧ KeyAt w g (off + 3 + i * 6) y :=
  ⟨_, List.getElem?_eq_getElem (by rw [o.hs]; exact hi), key_of_range h.slots i (by rw [o.hs]; exact hi)⟩
end
set_option maxRecDepth 8000 in
theorem size87 : (Tryd.prog.info? 118).map (·.size) = some 170 := by kernel_rfl
set_option maxRecDepth 8000 in
theorem zero87 : (Tryd.prog.info? 118).map (fun i => (i.zero, i.size)) = some (some (.agg zakc.toArray), 170) := by kernel_rfl
set_option maxRecDepth 8000 in
theorem zero95 : (Tryd.prog.info? 143).map (fun i => (i.zero, i.size)) = some (some (.agg (kcs zks).toArray), 96) := by kernel_rfl
theorem z87 (w : World) : (zeroValue 118).run Tryd.prog w = .ok (.agg zakc.toArray) w := (zero_of_info zero87).1 w
theorem z95 (w : World) : (zeroValue 143).run Tryd.prog w = .ok (.agg (kcs zks).toArray) w := (zero_of_info zero95).1 w
set_option maxRecDepth 8000 in
theorem zks_len : (kcs zks).length = 96 := by rw [kcs_length]; rfl
-- what is built of its parts
theorem fold_set (off : Nat) : ∀ (vs : List Value) (k : Nat) (cs : Array Value), off + k + vs.length ≤ cs.size →
    (vs.zipIdx k).foldl (fun (cs : Array Value) (p : Value × Nat) => cs.setIfInBounds (off + p.2) p.1) cs = (cs.toList.take (off + k) ++ vs ++ cs.toList.drop (off + k + vs.length)).toArray
  | [], k, cs, _ => by simp
  | v :: vs, k, cs, h => by
    simp only [List.length_cons] at h
    rw [List.zipIdx_cons, List.foldl_cons, fold_set off vs (k + 1) _ (by simp; omega)]
    have e := list_seg_step cs.toList (off + k) v vs (by simp; omega)
    congr 1
    simp only [Array.toList_setIfInBounds, List.length_cons]
    rw [← e, Nat.add_assoc off k 1, ← Nat.add_assoc]
set_option maxRecDepth 8000 in
theorem fold_cells (off : Nat) (v : Value) (cs : Array Value) (h : off + v.cells.size ≤ cs.size) :
    (v.cells.zipIdx.foldl (fun (cs : Array Value) (p : Value × Nat) => cs.setIfInBounds (off + p.2) p.1) cs) = (cs.toList.take off ++ v.cells.toList ++ cs.toList.drop (off + v.cells.size)).toArray := by
  rw [← Array.foldl_toList, Array.toList_zipIdx, fold_set off v.cells.toList 0 cs (by simpa using h)]
  simp
set_option maxRecDepth 8000 in
theorem fill_one (place : Nat → Option (Nat × Nat)) (cs : Array Value) (i : Nat) (v : Value) (rest : List (Nat × Value)) (off : Nat) (hp : place i = some (off, v.cells.size)) (h : off + v.cells.size ≤ cs.size) :
    Instr.fill place cs ((i, v) :: rest) = Instr.fill place (cs.toList.take off ++ v.cells.toList ++ cs.toList.drop (off + v.cells.size)).toArray rest := by
  have := fold_cells off v cs h
  simp only [Instr.fill, hp]
  rw [if_neg (by simp; omega)]
  congr 1
set_option maxRecDepth 8000 in
theorem run_sizeOf {P : Program} {t : TypeId} {n : Nat} (h : (P.info? t).map (·.size) = some n) (w : World) : (sizeOf t).run P w = .ok n w := by
  cases hq : P.info? t with
  | none => simp [hq] at h
  | some i =>
    simp [hq] at h
    simp [sizeOf, typeInfo, hq, h]
set_option maxRecDepth 8000 in
theorem place87 : ((Tryd.prog.fieldsOf 118).toList.mapM fun f => (Tryd.prog.info? f.type).map fun i => (f.offset, i.size)) = some [(0, 1), (1, 6), (7, 163)] := by kernel_rfl
set_option maxRecDepth 8000 in
theorem und87 : Tryd.prog.underlying 118 = some (.struct (Tryd.prog.fieldsOf 118)) := by kernel_rfl
set_option maxRecDepth 8000 in
theorem fill87 (p : Nat) (x : Ky) (o : Oj) (zs : List Value) (hz : zs.length = 170) : Instr.fill (([(0, 1), (1, 6), (7, 163)] : List (Nat × Nat)).toArray[·]?) zs.toArray [(0, pv p), (1, x.val), (2, o.val)] = some (akc p x o).toArray := by
  have e6 : x.val.cells.size = 6 := rfl
  have e163 : o.val.cells.size = 163 := by show o.cells.toArray.size = 163; rw [List.size_toArray, o.len]
  rw [fill_one _ _ 0 (pv p) _ 0 rfl (by simp [Value.cells]; omega)]
  rw [fill_one _ _ 1 x.val _ 1 (by rw [e6]; rfl) (by rw [e6]; simp [Value.cells]; omega)]
  rw [fill_one _ _ 2 o.val _ 7 (by rw [e163]; rfl) (by rw [e163]; simp [Value.cells]; omega)]
  simp only [Instr.fill, e6, e163]
  obtain ⟨z0, zs, rfl⟩ : ∃ a l, zs = a :: l := by cases zs with | nil => simp at hz | cons a l => exact ⟨a, l, rfl⟩
  simp only [List.length_cons] at hz
  have c0 : (pv p).cells = #[pv p] := rfl
  have c1 : x.val.cells = (kl x).toArray := rfl
  have c2 : o.val.cells = o.cells.toArray := rfl
  rw [c0, c1, c2]
  simp only [List.size_toArray, List.length_cons, List.length_nil, List.take_zero, List.nil_append, List.drop_succ_cons, List.drop_zero]
  have d1 : ([pv p] ++ zs).take 1 = [pv p] := rfl
  have hkl : (kl x).length = 6 := rfl
  simp only [List.take_succ_cons, List.take_zero, List.drop_succ_cons, akc, kl, List.cons_append, List.nil_append]
  simp
  omega
set_option maxRecDepth 8000 in
theorem built87 (p : Nat) (x : Ky) (o : Oj) : Tryd.prog.built 118 [(0, pv p), (1, x.val), (2, o.val)] = some (akc p x o).toArray := by
  unfold Program.built
  cases hi : Tryd.prog.info? 118 with
  | none => have := size87; simp [hi] at this
  | some it =>
    have hz := zero87
    simp only [hi, Option.map_some, Option.some.injEq, Prod.mk.injEq] at hz
    simp only [und87, hz.1, place87]
    exact fill87 p x o zakc zakc_len
section
variable {ops : Array Oper} {o : Oper} {a : Act} {S : World → Prop}
theorem y_ak (hw : Region.wanted o (yielded ops a.tmps) = true) (x : Operand) (ho : o.op = .load 118 x) (g off : Nat) (hx : a.eval x = .pointer (some ⟨g, off, none⟩)) (p : Nat) (k : Ky) (u : Oj) (hS : ∀ w, S w → AkAt w g off p k u) : YieldsIf Tryd.prog ops S o (akv p k u) a :=
  yieldsIf_load_mid hw 118 x ho g off hx (akc p k u) _ hS Tryd.underlying118 rfl (by rw [akc_len]; exact size87)
theorem y_build87 (hw : Region.wanted o (yielded ops a.tmps) = true) (q r s : Operand) (ho : o.op = .build 118 #[(0, q), (1, r), (2, s)]) (p : Nat) (x : Ky) (u : Oj) (hq : a.eval q = pv p) (hr : a.eval r = x.val) (hs : a.eval s = u.val) : YieldsIf Tryd.prog ops S o (akv p x u) a := .inl ⟨hw, fun w _ => by
  have := run_build w 118 #[(0, pv p), (1, x.val), (2, u.val)] (akc p x u).toArray (built87 p x u)
  unfold execOp
  simp only [ho, Sem.run_bind, List.map_toArray, List.map_cons, List.map_nil, hq, hr, hs, this, Result.andThen_ok, Sem.run_pure]⟩
end
section
variable {P : Program} {ops : Array Oper} {rest : List Oper} {o : Oper} {a : Act} {Q : Exit → Act → World → Prop}
theorem all_one {l : List Value} (h : ∀ u ∈ l, u.oneCell' = true) : l.toArray.all (·.oneCell') = true := all_oneCell_toArray h
/-- a block known whole is stored whole -/
theorem wpList_store_big {w : World} {t ty : TypeId} {b : Nat} {l0 l : List Value} (hb : Blk w b t l0.toArray) (hgd : o.guard = none) (x y : Operand) (ho : o.op = .store ty x y) (hx : a.eval x = .pointer (some ⟨b, 0, none⟩)) (hy : a.eval y = .agg l.toArray) (hs : (P.info? ty).map (·.size) = some l.length) (hl : l0.length = l.length) (h1 : ∀ u ∈ l, u.oneCell' = true)
    (h : wpList P ops Q rest (a.put o.dst undef) (w.setRow b l.toArray)) : wpList P ops Q (o :: rest) a w :=
  wpList_store_row hgd ty x y ho b l.toArray hx hy t l0.toArray hb (by rw [List.size_toArray]; exact hs) (by rw [List.size_toArray, List.size_toArray, hl]) (all_one h1) h
set_option maxRecDepth 8000 in
/-- the newest block is stored whole -/
theorem wpList_store_new {W : World} {t ty : TypeId} {l0 l : List Value} (hgd : o.guard = none) (x y : Operand) (ho : o.op = .store ty x y) (b : Nat) (hb : b = W.heap.size) (hx : a.eval x = .pointer (some ⟨b, 0, none⟩)) (hy : a.eval y = .agg l.toArray) (hs : (P.info? ty).map (·.size) = some l.length) (hl : l0.length = l.length) (h1 : ∀ u ∈ l, u.oneCell' = true)
    (h : wpList P ops Q rest (a.put o.dst undef) (W.alloc (.cells l.toArray t))) : wpList P ops Q (o :: rest) a (W.alloc (.cells l0.toArray t)) := by
  subst hb
  refine wpList_store_big (Blk.new W t l0.toArray) hgd x y ho hx hy hs hl h1 ?_
  rw [World.setRow_alloc_new]
  exact h
set_option maxRecDepth 8000 in
/-- a part of a block known whole is stored -/
theorem wpList_store_in {w : World} {t ty : TypeId} {l0 l l1 : List Value} {b off : Nat} (hb : Blk w b t l0.toArray) (hgd : o.guard = none) (x y : Operand) (ho : o.op = .store ty x y) (hx : a.eval x = .pointer (some ⟨b, off, none⟩)) (hy : a.eval y = .agg l.toArray) (hs : (P.info? ty).map (·.size) = some l.length) (hfit : off + l.length ≤ l0.length) (h1 : ∀ u ∈ l, u.oneCell' = true) (he : l0.take off ++ l ++ l0.drop (off + l.length) = l1)
    (h : wpList P ops Q rest (a.put o.dst undef) (w.setRow b l1.toArray)) : wpList P ops Q (o :: rest) a w := by
  refine wpList_plain hgd fun K hK => ?_
  refine wp_store_part ty x y ho hb hx hy hfit hs h1 ?_
  rw [he]
  exact hK _ _ h
end
section
variable {P : Program}
set_option maxRecDepth 8000 in
theorem res_1 {fn : Func} {p : Tmp} {t : TypeId} (h : fn.results = #[.cell p t]) (tmps : Array Value) (w : World) (g : Nat) (v : Value) (hp : tmps.getD p undef = .pointer (some ⟨g, 0, none⟩)) (hl : (loadVar t ⟨g, 0, none⟩).run P w = .ok v w) : (results fn tmps).run P w = .ok v w := by
  have hp' : tmps[p]?.getD undef = .pointer (some ⟨g, 0, none⟩) := by simpa using hp
  simp [results, h, hp', asAddr, hl]
set_option maxRecDepth 8000 in
theorem res_1t {fn : Func} {p q : Tmp} {t : TypeId} (h : fn.results = #[.cell p t, .tmp q]) (tmps : Array Value) (w : World) (g : Nat) (v u : Value) (hp : tmps.getD p undef = .pointer (some ⟨g, 0, none⟩)) (hq : tmps.getD q undef = u) (hl : (loadVar t ⟨g, 0, none⟩).run P w = .ok v w) : (results fn tmps).run P w = .ok (.tuple #[v, u]) w := by
  have hp' : tmps[p]?.getD undef = .pointer (some ⟨g, 0, none⟩) := by simpa using hp
  have hq' : tmps[q]?.getD undef = u := by simpa using hq
  simp [results, h, hp', hq', asAddr, hl]
set_option maxRecDepth 8000 in
theorem res_2 {fn : Func} {p q : Tmp} {t t' : TypeId} (h : fn.results = #[.cell p t, .cell q t']) (tmps : Array Value) (w : World) (g g' : Nat) (v v' : Value) (hp : tmps.getD p undef = .pointer (some ⟨g, 0, none⟩)) (hq : tmps.getD q undef = .pointer (some ⟨g', 0, none⟩)) (hl : (loadVar t ⟨g, 0, none⟩).run P w = .ok v w) (hl' : (loadVar t' ⟨g', 0, none⟩).run P w = .ok v' w) : (results fn tmps).run P w = .ok (.tuple #[v, v']) w := by
  have hp' : tmps[p]?.getD undef = .pointer (some ⟨g, 0, none⟩) := by simpa using hp
  have hq' : tmps[q]?.getD undef = .pointer (some ⟨g', 0, none⟩) := by simpa using hq
  simp [results, h, hp', hq', asAddr, hl, hl']
end
section
variable {w : World} {g : Nat} {t : TypeId}
theorem load_key (x : Ky) (h : Blk w g t (kl x).toArray) : (loadVar 29 ⟨g, 0, none⟩).run Tryd.prog w = .ok x.val w :=
  run_loadVar_row w g t 29 (kl x).toArray (0, 0) _ h Tryd.underlying29 rfl size30
theorem load_ak (p : Nat) (x : Ky) (o : Oj) (h : Blk w g t (akc p x o).toArray) : (loadVar 118 ⟨g, 0, none⟩).run Tryd.prog w = .ok (akv p x o) w :=
  run_loadVar_row w g t 118 (akc p x o).toArray (0, 0) _ h Tryd.underlying118 rfl (by rw [List.size_toArray, akc_len]; exact size87)
theorem Blk.new_of (w : World) (t : TypeId) (cs : Array Value) {g : Nat} (h : g = w.heap.size) : Blk (w.alloc (.cells cs t)) g t cs := h ▸ Blk.new w t cs
theorem Blk.row_far {b : Nat} {cs : Array Value} (h : Blk w g t cs) (hne : g ≠ b) (c : Array Value) : Blk (w.setRow b c) g t cs := (setRow_other w b g c hne).trans h
end
set_option maxRecDepth 8000 in
-- rights
theorem and2 {r : Int} (n : Nat) (hr : r = n) (hn : n < 8) : bits .and .i64 r 2 = (((n / 2 % 2 * 2 : Nat)) : Int) := by
  subst hr
  rw [show ((2 : Int)) = ((2 : Nat) : Int) from rfl, and_n n 2 hn (by decide)]
  have : ∀ n, n < 8 → n &&& 2 = n / 2 % 2 * 2 := by decide
  rw [this n hn]
end Go.Proofs.YtjolojomgfcfbaaDoor
namespace Go.Proofs.YtjolojomgfcfbaaDoor
open Go.RowKit
section
variable {w : World} {base p : Nat} {A : Option Addr} {cap : Nat} {ps : List Nat} {os : List Oj}
set_option maxRecDepth 8000 in
theorem nm_some (h : StAt w base p A cap ps os) (hn : 0 < os.length) (hT : Tab w) {x : Ky} {o : Oj} (hx : named os x = some o) :
    Calls Tryd.prog 39 #[pv p, x.val] w fun e w' => e = .returned (.tuple #[o.val, .bool true]) ∧ Below w.heap.size w w' := by
  have := named_at h hn hT x
  rwa [hx] at this
set_option maxRecDepth 8000 in
theorem nm_none (h : StAt w base p A cap ps os) (hn : 0 < os.length) (hT : Tab w) {x : Ky} (hx : named os x = none) :
    Calls Tryd.prog 39 #[pv p, x.val] w fun e w' => e = .returned (.tuple #[oz.val, .bool false]) ∧ Below w.heap.size w w' := by
  have := named_at h hn hT x
  rwa [hx] at this
theorem size_m (h : StAt w base p A cap ps os) (hn : 0 < os.length) {m : Int} (hm : m = (os.length : Int)) : Calls Tryd.prog 35 #[pv p] w fun e w' => e = .returned (.int .i64 m) ∧ w = w' := hm ▸ size_at h hn
set_option maxRecDepth 8000 in
theorem slot_ok (i : Nat) (hi : i < 16) (w : World) : Calls Tryd.prog 63 #[.int .i64 (i : Int)] w fun e w' => e = .returned (.tuple #[]) ∧ w = w' := by
  have d0 : decide ((i : Int) < 0) = false := decide_eq_false (by omega)
  have d1 : decide ((16 : Int) ≤ (i : Int)) = false := decide_eq_false (by omega)
  have d2 : decide (16 ≤ i) = false := decide_eq_false (by omega)
  go_enter Tryd.func63, Tryd.ntmps63
  go_wp2
  go_end0
  exact ⟨rfl, rfl⟩
set_option maxRecDepth 8000 in
theorem slot_no (i : Int) (hi : ¬ (0 ≤ i ∧ i < 16)) (w : World) : Calls Tryd.prog 63 #[.int .i64 i] w fun e w' => e = .panicked (erc 4) ∧ w = w' := by
  by_cases h : i < 0
  · have d0 : decide (i < 0) = true := decide_eq_true h
    go_enter Tryd.func63, Tryd.ntmps63
    go_wp2
    exact ⟨rfl, rfl, rfl⟩
  · have d0 : decide (i < 0) = false := decide_eq_false h
    have d1 : decide ((16 : Int) ≤ i) = true := decide_eq_true (by omega)
    go_enter Tryd.func63, Tryd.ntmps63
    go_wp2
    exact ⟨rfl, rfl, rfl⟩
set_option maxRecDepth 100000 in
set_option maxHeartbeats 2000000 in
theorem ask_un (h : StAt w base p A cap ps os) (hn : 0 < os.length) (hT : Tab w) (x : Ky) (hx : named os x = none) :
    Calls Tryd.prog 62 #[pv p, x.val] w fun e w' => e = .panicked (erc 190) ∧ Below w.heap.size w w' := by
  have HX := Lib.hid hx
  clear hx
  have hz := z34
  have hz2 := z87
  have hbl := oz_len
  have hbl2 := zakc_len
  obtain ⟨m, hm⟩ : ∃ m : Int, m = (os.length : Int) := ⟨_, rfl⟩
  have dm : (m == 0) = false := by simp; omega
  have HM := Lib.hid hm
  clear hm
  have HN := Lib.hid hn
  have HT0 := Lib.hid ((hT.alloc (.cells (kc x.k x.o x.c x.l x.r x.v) 29)).alloc (.cells zakc.toArray 118))
  have HS0 := Lib.hid ((h.alloc (.cells (kc x.k x.o x.c x.l x.r x.v) 29)).alloc (.cells zakc.toArray 118))
  clear hT h hn
  have HB0 := Lib.hid (((Below.refl w.heap.size w).alloc (Nat.le_refl _) (.cells (kc x.k x.o x.c x.l x.r x.v) 29)).alloc (by simp) (.cells zakc.toArray 118))
  have HK0 := Lib.hid ((Blk.new w 29 (kc x.k x.o x.c x.l x.r x.v)).alloc (.cells zakc.toArray 118))
  have HA0 := Lib.hid (Blk.new_of (w.alloc (.cells (kc x.k x.o x.c x.l x.r x.v) 29)) 118 zakc.toArray (g := w.heap.size + 1) (by simp))
  go_enter Tryd.func62, Tryd.ntmps62
  go_wp2_with (first
    | (go_at_call 35; refine (size_m HS0.out HN.out HM.out).mono ?_; rintro e w1 ⟨rfl, rfl⟩)
    | (go_at_call 39; refine (nm_none HS0.out HN.out HT0.out HX.out).mono ?_; rintro e w2 ⟨rfl, b2⟩; have HB2 := Lib.hid ((HB0.out.trans (b2.mono HB0.out.size)).alloc (Nat.le_trans HB0.out.size b2.size) (.cells (oz).cells.toArray 33)); have HK2 := Lib.hid ((HK0.out.keep b2).alloc (.cells (oz).cells.toArray 33)); have HA2 := Lib.hid ((HA0.out.keep b2).alloc (.cells (oz).cells.toArray 33)); have HG2 := Lib.hid (Blk.new w2 33 (oz).cells.toArray); obtain ⟨c0, c1, c2, c3, c4, c5⟩ := HK2.out.six; clear b2)
    | (refine wpList_store_last rfl (.tmp 5) (.tmp 15) rfl _ rfl rfl (oz) oz rfl ?_))
  exact ⟨rfl, rfl, HB2.out⟩
set_option maxRecDepth 100000 in
set_option maxHeartbeats 2000000 in
theorem ask_kind (h : StAt w base p A cap ps os) (hn : 0 < os.length) (hT : Tab w) (x : Ky) (u : Oj) (hx : named os x = some u) (hk : x.k ≠ 2) :
    Calls Tryd.prog 62 #[pv p, x.val] w fun e w' => e = .panicked (erc 190) ∧ Below w.heap.size w w' := by
  have HX := Lib.hid hx
  have dk : (x.k != 2) = true := by simpa using hk
  clear hx hk
  have hz := z34
  have hz2 := z87
  have hbl := oz_len
  have hbl2 := zakc_len
  obtain ⟨m, hm⟩ : ∃ m : Int, m = (os.length : Int) := ⟨_, rfl⟩
  have dm : (m == 0) = false := by simp; omega
  have HM := Lib.hid hm
  clear hm
  have HN := Lib.hid hn
  have HT0 := Lib.hid ((hT.alloc (.cells (kc x.k x.o x.c x.l x.r x.v) 29)).alloc (.cells zakc.toArray 118))
  have HS0 := Lib.hid ((h.alloc (.cells (kc x.k x.o x.c x.l x.r x.v) 29)).alloc (.cells zakc.toArray 118))
  clear hT h hn
  have HB0 := Lib.hid (((Below.refl w.heap.size w).alloc (Nat.le_refl _) (.cells (kc x.k x.o x.c x.l x.r x.v) 29)).alloc (by simp) (.cells zakc.toArray 118))
  have HK0 := Lib.hid ((Blk.new w 29 (kc x.k x.o x.c x.l x.r x.v)).alloc (.cells zakc.toArray 118))
  have HA0 := Lib.hid (Blk.new_of (w.alloc (.cells (kc x.k x.o x.c x.l x.r x.v) 29)) 118 zakc.toArray (g := w.heap.size + 1) (by simp))
  go_enter Tryd.func62, Tryd.ntmps62
  go_wp2_with (first
    | (go_at_call 35; refine (size_m HS0.out HN.out HM.out).mono ?_; rintro e w1 ⟨rfl, rfl⟩)
    | (go_at_call 39; refine (nm_some HS0.out HN.out HT0.out HX.out).mono ?_; rintro e w2 ⟨rfl, b2⟩; have HB2 := Lib.hid ((HB0.out.trans (b2.mono HB0.out.size)).alloc (Nat.le_trans HB0.out.size b2.size) (.cells (u).cells.toArray 33)); have HK2 := Lib.hid ((HK0.out.keep b2).alloc (.cells (u).cells.toArray 33)); have HA2 := Lib.hid ((HA0.out.keep b2).alloc (.cells (u).cells.toArray 33)); have HG2 := Lib.hid (Blk.new w2 33 (u).cells.toArray); obtain ⟨c0, c1, c2, c3, c4, c5⟩ := HK2.out.six; clear b2)
    | (refine wpList_store_last rfl (.tmp 5) (.tmp 15) rfl _ rfl rfl (u) oz rfl ?_))
  exact ⟨rfl, rfl, HB2.out⟩
set_option maxRecDepth 100000 in
set_option maxHeartbeats 2000000 in
theorem ask_yes (h : StAt w base p A cap ps os) (hn : 0 < os.length) (hT : Tab w) (x : Ky) (u : Oj) (hx : named os x = some u) (hk : x.k = 2) :
    Calls Tryd.prog 62 #[pv p, x.val] w fun e w' => e = .returned (akv p x u) ∧ Below w.heap.size w w' := by
  have HX := Lib.hid hx
  have dk : (x.k != 2) = false := by simpa using hk
  clear hx hk
  have hz := z34
  have hz2 := z87
  have hbl := oz_len
  have hbl2 := zakc_len
  obtain ⟨m, hm⟩ : ∃ m : Int, m = (os.length : Int) := ⟨_, rfl⟩
  have dm : (m == 0) = false := by simp; omega
  have HM := Lib.hid hm
  clear hm
  have HN := Lib.hid hn
  have HT0 := Lib.hid ((hT.alloc (.cells (kc x.k x.o x.c x.l x.r x.v) 29)).alloc (.cells zakc.toArray 118))
  have HS0 := Lib.hid ((h.alloc (.cells (kc x.k x.o x.c x.l x.r x.v) 29)).alloc (.cells zakc.toArray 118))
  clear hT h hn
  have HB0 := Lib.hid (((Below.refl w.heap.size w).alloc (Nat.le_refl _) (.cells (kc x.k x.o x.c x.l x.r x.v) 29)).alloc (by simp) (.cells zakc.toArray 118))
  have HK0 := Lib.hid ((Blk.new w 29 (kc x.k x.o x.c x.l x.r x.v)).alloc (.cells zakc.toArray 118))
  have HA0 := Lib.hid (Blk.new_of (w.alloc (.cells (kc x.k x.o x.c x.l x.r x.v) 29)) 118 zakc.toArray (g := w.heap.size + 1) (by simp))
  go_enter Tryd.func62, Tryd.ntmps62
  go_wp2_with (first
    | (go_at_call 35; refine (size_m HS0.out HN.out HM.out).mono ?_; rintro e w1 ⟨rfl, rfl⟩)
    | (go_at_call 39; refine (nm_some HS0.out HN.out HT0.out HX.out).mono ?_; rintro e w2 ⟨rfl, b2⟩; have HB2 := Lib.hid ((HB0.out.trans (b2.mono HB0.out.size)).alloc (Nat.le_trans HB0.out.size b2.size) (.cells (u).cells.toArray 33)); have HK2 := Lib.hid ((HK0.out.keep b2).alloc (.cells (u).cells.toArray 33)); have HA2 := Lib.hid ((HA0.out.keep b2).alloc (.cells (u).cells.toArray 33)); have HG2 := Lib.hid (Blk.new w2 33 (u).cells.toArray); obtain ⟨c0, c1, c2, c3, c4, c5⟩ := HK2.out.six; clear b2)
    | (refine wpList_store_last rfl (.tmp 5) (.tmp 15) rfl _ rfl rfl (u) oz rfl ?_)
    | (refine wpList_yields (S := fun w' => ObAt w' w2.heap.size 0 u) (y_ob (by rfl) (.tmp 5) (by rfl) w2.heap.size 0 (by rfl) u (fun _ h => h)) HG2.out.ob ?_)
    | (refine wpList_yields (S := fun _ => True) (y_build87 (by rfl) (.tmp 25) (.tmp 26) (.tmp 27) (by rfl) p x u (by rfl) (by rfl) (by rfl)) trivial ?_)
    | (refine wpList_store_big HA2.out rfl (.tmp 4) (.tmp 28) (ty := 118) (l := akc p x u) rfl (by rfl) (by rfl) (by rw [akc_len]; exact size87) (by rw [akc_len, zakc_len]) (akc_one _ _ _) ?_))
  exact bodyPost_ret (res_1 rfl _ _ (w.heap.size + 1) _ rfl (load_ak p x u (HA2.out.setRow _))) rfl ⟨rfl, below_setRow HB2.out (by omega) _⟩
set_option maxRecDepth 8000 in
theorem ask_no (h : StAt w base p A cap ps os) (hn : 0 < os.length) (hT : Tab w) (x : Ky) (hx : ¬ ((named os x).isSome = true ∧ x.k = 2)) : Calls Tryd.prog 62 #[pv p, x.val] w fun e w' => e = .panicked (erc 190) ∧ Below w.heap.size w w' := by
  cases hq : named os x with
  | none => exact ask_un h hn hT x hq
  | some u => exact ask_kind h hn hT x u hq (fun hk => hx ⟨by rw [hq]; rfl, hk⟩)
end
end Go.Proofs.YtjolojomgfcfbaaDoor
namespace Go.Proofs.YtjolojomgfcfbaaDoor
open Go.RowKit
set_option maxRecDepth 8000 in
theorem named_of {os : List Oj} {x : Ky} (h : (named os x).isSome = true) : x.of := by
  by_cases hf : x.of
  · exact hf
  · rw [named_not hf] at h
    cases h
set_option maxRecDepth 8000 in
theorem cn_ok {x : Ky} {o : Oj} (h : x.cn o = true) : x.ok := by
  unfold Ky.cn Ky.cnt at h
  simp only [decide_eq_true_eq] at h
  exact h.1
set_option maxRecDepth 8000 in
theorem prepd_ok (os : List Oj) (y : Ky) : (prepd os y).ok := by
  unfold prepd
  by_cases h : ((named os y).isSome || y.cn oz) = true
  · rw [if_pos h]
    simp only [Bool.or_eq_true] at h
    rcases h with h | h
    · exact (named_of h).1
    · exact cn_ok h
  · rw [if_neg h]
    exact zk_ok
/-- what is got by a key of what a slot has -/
noncomputable def gotK (os : List Oj) (x y : Ky) : Ky := if x.r / 2 % 2 = 1 then (prepd os y).weak else prepd os y
section
variable {ops : Array Oper} {o : Oper} {a : Act} {w : World} {K : Act → World → Prop} {Q : Exit → Act → World → Prop} {E : Prop} {P : Program}
set_option maxRecDepth 8000 in
theorem step_alloc30 (hgd : o.guard = none) (ho : o.op = .alloc 29)
    (h : ∀ g w', g = w.heap.size → w' = w.alloc (.cells (kl zk).toArray 29) → K (a.put o.dst (.pointer (some ⟨g, 0, none⟩))) w') :
    if Region.wanted o (yielded ops a.tmps) = true then Oper.wp Tryd.prog o a w K Q else E := by
  have hw : Region.wanted o (yielded ops a.tmps) = true := by simp [Region.wanted, hgd]
  rw [if_pos hw]
  unfold Oper.wp
  simp [execOp, ho, Result.andThen]
  exact h _ _ rfl rfl
set_option maxRecDepth 8000 in
theorem step_store_big {t ty : TypeId} {b : Nat} {l0 l : List Value} (hb : Blk w b t l0.toArray) (hgd : o.guard = none) (x y : Operand) (ho : o.op = .store ty x y) (hx : a.eval x = .pointer (some ⟨b, 0, none⟩)) (hy : a.eval y = .agg l.toArray) (hs : (P.info? ty).map (·.size) = some l.length) (hl : l0.length = l.length) (h1 : ∀ u ∈ l, u.oneCell' = true)
    (h : K (a.put o.dst undef) (w.setRow b l.toArray)) : if Region.wanted o (yielded ops a.tmps) = true then Oper.wp P o a w K Q else E := by
  rw [if_pos (by simp [Region.wanted, hgd])]
  exact wp_store_row ty x y ho b l.toArray hx hy t l0.toArray hb (by rw [List.size_toArray]; exact hs) (by rw [List.size_toArray, List.size_toArray, hl]) (all_one h1) h
end
section
variable {w : World} {base p : Nat} {A : Option Addr} {cap : Nat} {ps : List Nat} {os : List Oj}
set_option maxRecDepth 8000 in
theorem KeyAt.at_heap {w w' : World} {b o : Nat} {x : Ky} (h : KeyAt w b o x) (hk : w'.heap[b]? = w.heap[b]?) : KeyAt w' b o x := by
  obtain ⟨h0, h1, h2, h3, h4, h5⟩ := h
  exact ⟨(World.cell?_of_block (a := ⟨b, o, none⟩) hk).trans h0, (World.cell?_of_block (a := ⟨b, o + 1, none⟩) hk).trans h1, (World.cell?_of_block (a := ⟨b, o + 2, none⟩) hk).trans h2, (World.cell?_of_block (a := ⟨b, o + 3, none⟩) hk).trans h3, (World.cell?_of_block (a := ⟨b, o + 4, none⟩) hk).trans h4, (World.cell?_of_block (a := ⟨b, o + 5, none⟩) hk).trans h5⟩
set_option maxRecDepth 8000 in
theorem slot6 {g off i : Nat} {y : Ky} (h : KeyAt w g (off + 7 + 3 + i * 6) y) : KeyAt w g (off + 10 + i * 6) y := by
  rw [show off + 10 + i * 6 = off + 7 + 3 + i * 6 by omega]
  exact h
set_option maxRecDepth 100000 in
set_option maxHeartbeats 4000000 in
theorem got_plain (h : StAt w base p A cap ps os) (hn : 0 < os.length) (hT : Tab w) (x : Ky) (u : Oj) (i : Nat) (hi : i < 16) (y : Ky) (hy : u.s[i]? = some y) (hok : x.ok) (hr : x.r / 2 % 2 ≠ 1) :
    Calls Tryd.prog 64 #[akv p x u, .int .i64 (i : Int)] w fun e w' => e = .returned (prepd os y).val ∧ Below w.heap.size w w' := by
  obtain ⟨_, r, hr', _, hr8⟩ := ok_of hok
  have ha := and2 r hr' hr8
  have hd : (((r / 2 % 2 * 2 : Nat) : Int) == 0) = true := by rw [hr'] at hr; simp; omega
  obtain ⟨v, hv⟩ : ∃ v, prepd os y = v := ⟨_, rfl⟩
  have HV := Lib.hid hv
  have HVO := Lib.hid (show v.ok from hv ▸ prepd_ok os y)
  rw [hv]
  have hbl := akc_len p x u
  have HN := Lib.hid hn
  have HT0 := Lib.hid ((hT.alloc (.cells (akc p x u).toArray 118)).alloc (.cells (kl zk).toArray 29))
  have HS0 := Lib.hid ((h.alloc (.cells (akc p x u).toArray 118)).alloc (.cells (kl zk).toArray 29))
  have HB0 := Lib.hid (((Below.refl w.heap.size w).alloc (Nat.le_refl _) (.cells (akc p x u).toArray 118)).alloc (by simp) (.cells (kl zk).toArray 29))
  have HK0 := Lib.hid ((Blk.new w 118 (akc p x u).toArray).alloc (.cells (kl zk).toArray 29))
  have HA0 := Lib.hid (Blk.new_of (w.alloc (.cells (akc p x u).toArray 118)) 29 (kl zk).toArray (g := w.heap.size + 1) (by simp))
  have HY0 : Hid (KeyAt ((w.alloc (.cells (akc p x u).toArray 118)).alloc (.cells (kl zk).toArray 29)) w.heap.size (10 + i * 6) y) := Lib.hid (by
    obtain ⟨y', hy', hk⟩ := HK0.out.ak.node.slot hi
    rw [hy] at hy'
    injection hy' with hy'
    subst hy'
    have := slot6 hk
    rwa [Nat.zero_add] at this)
  have d16 : (i : Int) < 16 := by omega
  have HI := Lib.hid hi
  clear hT h hn hv hy hok hr hr'
  go_enter Tryd.func64, Tryd.ntmps64
  go_wp2_with fail
  refine wp_region_only (S := fun w' => w'.cell? ⟨w.heap.size, 0, none⟩ = some (pv p) ∧ w'.cell? ⟨w.heap.size, 10 + i * 6, none⟩ = some (.int .i64 y.k) ∧ w'.cell? ⟨w.heap.size, 10 + i * 6 + 1, none⟩ = some (.int .i64 y.o) ∧ w'.cell? ⟨w.heap.size, 10 + i * 6 + 2, none⟩ = some (.int .i64 y.c) ∧ w'.cell? ⟨w.heap.size, 10 + i * 6 + 3, none⟩ = some (.int .i64 y.l) ∧ w'.cell? ⟨w.heap.size, 10 + i * 6 + 4, none⟩ = some (.int .i64 y.r) ∧ w'.cell? ⟨w.heap.size, 10 + i * 6 + 5, none⟩ = some (.int .i64 y.v)) (by kernel_rfl) ⟨HK0.out.drew.ak.p0, HY0.out.drew.six⟩ (fun hHeld => ?_)
  refine wpAnyH_take (i := 0) (v := ?v1) rfl (by kernel_rfl) (by kernel_rfl) (by kernel_rfl) (fun _ _ _ h => h) (Or.inl ⟨by rfl, ?hy1⟩) hHeld ?rest1
  case hy1 =>
    intro w' hSw
    try dsimp only at hSw
    go_simp
    first | done | with_reducible rfl
  try simp only [Act.put, List.getElem_toArray, List.getElem_cons_zero, List.setIfInBounds_toArray, List.set_cons_zero, List.set_cons_succ]
  refine wpAnyH_take (i := 1) (v := ?v2) rfl (by kernel_rfl) (by kernel_rfl) (by kernel_rfl) (fun _ _ _ h => h) (Or.inl ⟨by rfl, ?hy2⟩) hHeld ?rest2
  case hy2 =>
    intro w' hSw
    try dsimp only at hSw
    go_simp
    first | done | with_reducible rfl
  try simp only [Act.put, List.getElem_toArray, List.getElem_cons_succ, List.getElem_cons_zero, List.setIfInBounds_toArray, List.set_cons_zero, List.set_cons_succ]
  refine wpAnyH_take (i := 2) (v := ?v3) rfl (by kernel_rfl) (by kernel_rfl) (by kernel_rfl) (fun _ _ _ h => h) (Or.inl ⟨by rfl, ?hy3⟩) hHeld ?rest3
  case hy3 =>
    intro w' hSw
    try dsimp only at hSw
    go_simp
    first | done | with_reducible rfl
  try simp only [Act.put, List.getElem_toArray, List.getElem_cons_succ, List.getElem_cons_zero, List.setIfInBounds_toArray, List.set_cons_zero, List.set_cons_succ]
  refine wpAnyH_take (i := 3) (v := ?v4) rfl (by kernel_rfl) (by kernel_rfl) (by kernel_rfl) (fun _ _ _ h => h) (Or.inl ⟨by rfl, ?hy4⟩) hHeld ?rest4
  case hy4 =>
    intro w' hSw
    try dsimp only at hSw
    go_simp
    first | done | with_reducible rfl
  try simp only [Act.put, List.getElem_toArray, List.getElem_cons_succ, List.getElem_cons_zero, List.setIfInBounds_toArray, List.set_cons_zero, List.set_cons_succ]
  refine wpAnyH_take (i := 4) (v := ?v5) rfl (by kernel_rfl) (by kernel_rfl) (by kernel_rfl) (fun _ _ _ h => h) (Or.inl ⟨by rfl, ?hy5⟩) hHeld ?rest5
  case hy5 =>
    intro w' hSw
    try dsimp only at hSw
    go_simp
    first | done | with_reducible rfl
  try simp only [Act.put, List.getElem_toArray, List.getElem_cons_succ, List.getElem_cons_zero, List.setIfInBounds_toArray, List.set_cons_zero, List.set_cons_succ]
  refine wpAnyH_take (i := 5) (v := ?v6) rfl (by kernel_rfl) (by kernel_rfl) (by kernel_rfl) (fun _ _ _ h => h) (Or.inl ⟨by rfl, ?hy6⟩) hHeld ?rest6
  case hy6 =>
    intro w' hSw
    try dsimp only at hSw
    go_simp
    first | done | with_reducible rfl
  try simp only [Act.put, List.getElem_toArray, List.getElem_cons_succ, List.getElem_cons_zero, List.setIfInBounds_toArray, List.set_cons_zero, List.set_cons_succ]
  refine wpAnyH_take (i := 6) (v := ?v7) rfl (by kernel_rfl) (by kernel_rfl) (by kernel_rfl) (fun _ _ _ h => h) (Or.inl ⟨by rfl, ?hy7⟩) hHeld ?rest7
  case hy7 =>
    intro w' hSw
    try dsimp only at hSw
    go_simp
    first | done | with_reducible rfl
  try simp only [Act.put, List.getElem_toArray, List.getElem_cons_succ, List.getElem_cons_zero, List.setIfInBounds_toArray, List.set_cons_zero, List.set_cons_succ]
  refine wpAnyH_ready (rs := [7, 8]) (by kernel_rfl) (by simp) ?_
  refine AllReadyH.cons (by rfl) (fun K hK => ?_) (AllReadyH.cons (by rfl) (fun K hK => ?_) AllReadyH.nil)
  · go_simp
    refine (HV.out ▸ prep_at (HS0.out.drew) HN.out (HT0.out.drew) y).mono ?_
    rintro e w2 ⟨rfl, b2⟩
    have HB2 := Lib.hid ((below_drew HB0.out).trans (b2.mono (below_drew HB0.out).size))
    have HK2 := Lib.hid ((HK0.out.drew).keep b2)
    have HA2 := Lib.hid ((HA0.out.drew).keep b2)
    have HY2 := Lib.hid ((HY0.out.drew).keep b2)
    clear b2 hHeld
    go_wp2_with fail
    refine hK.out _ _ ⟨HK2.out.ak.p0, HY2.out.six⟩ (fun hHeld => ?_)
    clear hK K
    try simp only [Act.put, List.getElem_toArray, List.getElem_cons_succ, List.getElem_cons_zero, List.setIfInBounds_toArray, List.set_cons_zero, List.set_cons_succ]
    refine wpAnyH_ready (rs := [8]) (by kernel_rfl) (by simp) ?_
    refine AllReadyH.cons (by rfl) (fun K hK => ?_) AllReadyH.nil
    refine step_alloc30 rfl (by rfl) ?_
    intro g3 w3 hg hw
    have HGE3 := Lib.hid (show w.heap.size + 2 ≤ g3 by have h1 := HB2.out.size; have h2 := HB0.out.size; have h3 := HA2.out.lt; subst hg; simp at h3 ⊢; try omega)
    have HB3 := Lib.hid (show Below w.heap.size w w3 by subst hw; exact HB2.out.alloc HB2.out.size _)
    have HK3 := Lib.hid (show Blk w3 w.heap.size _ _ by subst hw; exact (HK2.out).alloc _)
    have HA3 := Lib.hid (show Blk w3 (w.heap.size + 1) _ _ by subst hw; exact (HA2.out).alloc _)
    have HY3 := Lib.hid (show KeyAt w3 w.heap.size (10 + i * 6) y by subst hw; exact (HY2.out).alloc _)
    have HG3 := Lib.hid (show Blk w3 g3 29 (kl zk).toArray by subst hw hg; exact Blk.new _ _ _)
    clear hg hw hHeld
    refine hK.out _ _ ⟨HK3.out.ak.p0, HY3.out.six⟩ (fun hHeld => ?_)
    clear hK K
    try simp only [Act.put, List.getElem_toArray, List.getElem_cons_succ, List.getElem_cons_zero, List.setIfInBounds_toArray, List.set_cons_zero, List.set_cons_succ]
    refine wpAnyH_ready (rs := [9]) (by kernel_rfl) (by simp) ?_
    refine AllReadyH.cons (by rfl) (fun K hK => ?_) AllReadyH.nil
    refine step_store_big HG3.out rfl (.tmp 5) (.tmp 15) (ty := 29) (l := kl v) rfl (by rfl) (by rfl) size30 rfl (kl_one v) ?_
    have HB9 := Lib.hid (below_setRow HB3.out (show w.heap.size ≤ g3 by have := HGE3.out; omega) (kl v).toArray)
    have HK9 := Lib.hid (Blk.row_far HK3.out (show w.heap.size ≠ g3 by have := HGE3.out; omega) (kl v).toArray)
    have HA9 := Lib.hid (Blk.row_far HA3.out (show w.heap.size + 1 ≠ g3 by have := HGE3.out; omega) (kl v).toArray)
    have HY9 : Hid (KeyAt (w3.setRow g3 (kl v).toArray) w.heap.size (10 + i * 6) y) := Lib.hid (HY3.out.at_heap (setRow_other _ _ _ _ (by have := HGE3.out; omega)))
    have HG9 := Lib.hid (HG3.out.setRow (kl v).toArray)
    generalize w3.setRow g3 (kl v).toArray = W at HB9 HK9 HA9 HY9 HG9 ⊢
    refine hK.out _ _ ⟨HK9.out.ak.p0, HY9.out.six⟩ (fun hHeld => ?_)
    clear hK K
    try simp only [Act.put, List.getElem_toArray, List.getElem_cons_succ, List.getElem_cons_zero]
    refine wpAnyH_done (by kernel_rfl) ?_ _
    refine OnlyN.normal ?_
    clear hHeld
    obtain ⟨k0, k1, k2, k3, k4, k5⟩ := HK9.out.ak.key.six
    obtain ⟨g0, g1, g2, g3, g4, g5⟩ := HG9.out.six
    go_wp2_with (first
      | (refine wpList_store_ky (y := zk) HA9.out rfl (.tmp 4) (.tmp 21) rfl (by rfl) v (by rfl) ?_))
    exact bodyPost_ret (results_key rfl _ _ (w.heap.size + 1) v rfl (HA9.out.setRow _)) rfl ⟨rfl, below_setRow HB9.out (by omega) _⟩
  · refine step_alloc30 rfl (by rfl) ?_
    intro g1 w1 hg hw
    have HGE1 := Lib.hid (show w.heap.size + 2 ≤ g1 by have h1 := (below_drew HB0.out).size; have h2 := HB0.out.size; have h3 := HA0.out.lt; subst hg; simp at h3 ⊢; try omega)
    have HB1 := Lib.hid (show Below w.heap.size w w1 by subst hw; exact (below_drew HB0.out).alloc (below_drew HB0.out).size _)
    have HK1 := Lib.hid (show Blk w1 w.heap.size _ _ by subst hw; exact (HK0.out.drew).alloc _)
    have HA1 := Lib.hid (show Blk w1 (w.heap.size + 1) _ _ by subst hw; exact (HA0.out.drew).alloc _)
    have HY1 := Lib.hid (show KeyAt w1 w.heap.size (10 + i * 6) y by subst hw; exact (HY0.out.drew).alloc _)
    have HG1 := Lib.hid (show Blk w1 g1 29 (kl zk).toArray by subst hw hg; exact Blk.new _ _ _)
    have HS1 := Lib.hid (show StAt w1 base p A cap ps os by subst hw; exact (HS0.out.drew).alloc _)
    have HT1 := Lib.hid (show Tab w1 by subst hw; exact (HT0.out.drew).alloc _)
    clear hg hw hHeld
    refine hK.out _ _ ⟨HK1.out.ak.p0, HY1.out.six⟩ (fun hHeld => ?_)
    clear hK K
    try simp only [Act.put, List.getElem_toArray, List.getElem_cons_succ, List.getElem_cons_zero, List.setIfInBounds_toArray, List.set_cons_zero, List.set_cons_succ]
    refine wpAnyH_ready (rs := [7]) (by kernel_rfl) (by simp) ?_
    refine AllReadyH.cons (by rfl) (fun K hK => ?_) AllReadyH.nil
    go_simp
    refine (HV.out ▸ prep_at (HS1.out) HN.out (HT1.out) y).mono ?_
    rintro e w3 ⟨rfl, b3⟩
    have HB3 := Lib.hid (HB1.out.trans (b3.mono HB1.out.size))
    have HK3 := Lib.hid ((HK1.out).keep b3)
    have HA3 := Lib.hid ((HA1.out).keep b3)
    have HY3 := Lib.hid ((HY1.out).keep b3)
    have HG3 := Lib.hid (HG1.out.keep b3)
    clear b3 hHeld
    go_wp2_with fail
    refine hK.out _ _ ⟨HK3.out.ak.p0, HY3.out.six⟩ (fun hHeld => ?_)
    clear hK K
    try simp only [Act.put, List.getElem_toArray, List.getElem_cons_succ, List.getElem_cons_zero, List.setIfInBounds_toArray, List.set_cons_zero, List.set_cons_succ]
    refine wpAnyH_ready (rs := [9]) (by kernel_rfl) (by simp) ?_
    refine AllReadyH.cons (by rfl) (fun K hK => ?_) AllReadyH.nil
    refine step_store_big HG3.out rfl (.tmp 5) (.tmp 15) (ty := 29) (l := kl v) rfl (by rfl) (by rfl) size30 rfl (kl_one v) ?_
    have HB9 := Lib.hid (below_setRow HB3.out (show w.heap.size ≤ g1 by have := HGE1.out; omega) (kl v).toArray)
    have HK9 := Lib.hid (Blk.row_far HK3.out (show w.heap.size ≠ g1 by have := HGE1.out; omega) (kl v).toArray)
    have HA9 := Lib.hid (Blk.row_far HA3.out (show w.heap.size + 1 ≠ g1 by have := HGE1.out; omega) (kl v).toArray)
    have HY9 : Hid (KeyAt (w3.setRow g1 (kl v).toArray) w.heap.size (10 + i * 6) y) := Lib.hid (HY3.out.at_heap (setRow_other _ _ _ _ (by have := HGE1.out; omega)))
    have HG9 := Lib.hid (HG3.out.setRow (kl v).toArray)
    generalize w3.setRow g1 (kl v).toArray = W at HB9 HK9 HA9 HY9 HG9 ⊢
    refine hK.out _ _ ⟨HK9.out.ak.p0, HY9.out.six⟩ (fun hHeld => ?_)
    clear hK K
    try simp only [Act.put, List.getElem_toArray, List.getElem_cons_succ, List.getElem_cons_zero]
    refine wpAnyH_done (by kernel_rfl) ?_ _
    refine OnlyN.normal ?_
    clear hHeld
    obtain ⟨k0, k1, k2, k3, k4, k5⟩ := HK9.out.ak.key.six
    obtain ⟨g0, g1, g2, g3, g4, g5⟩ := HG9.out.six
    go_wp2_with (first
      | (refine wpList_store_ky (y := zk) HA9.out rfl (.tmp 4) (.tmp 21) rfl (by rfl) v (by rfl) ?_))
    exact bodyPost_ret (results_key rfl _ _ (w.heap.size + 1) v rfl (HA9.out.setRow _)) rfl ⟨rfl, below_setRow HB9.out (by omega) _⟩
set_option maxRecDepth 100000 in
set_option maxHeartbeats 4000000 in
theorem got_weak (h : StAt w base p A cap ps os) (hn : 0 < os.length) (hT : Tab w) (x : Ky) (u : Oj) (i : Nat) (hi : i < 16) (y : Ky) (hy : u.s[i]? = some y) (hok : x.ok) (hr : x.r / 2 % 2 = 1) :
    Calls Tryd.prog 64 #[akv p x u, .int .i64 (i : Int)] w fun e w' => e = .returned (prepd os y).weak.val ∧ Below w.heap.size w w' := by
  obtain ⟨_, r, hr', _, hr8⟩ := ok_of hok
  have ha := and2 r hr' hr8
  have hd : (((r / 2 % 2 * 2 : Nat) : Int) == 0) = false := by rw [hr'] at hr; simp; omega
  obtain ⟨v, hv⟩ : ∃ v, prepd os y = v := ⟨_, rfl⟩
  have HV := Lib.hid hv
  have HVO := Lib.hid (show v.ok from hv ▸ prepd_ok os y)
  rw [hv]
  have hbl := akc_len p x u
  have HN := Lib.hid hn
  have HT0 := Lib.hid ((hT.alloc (.cells (akc p x u).toArray 118)).alloc (.cells (kl zk).toArray 29))
  have HS0 := Lib.hid ((h.alloc (.cells (akc p x u).toArray 118)).alloc (.cells (kl zk).toArray 29))
  have HB0 := Lib.hid (((Below.refl w.heap.size w).alloc (Nat.le_refl _) (.cells (akc p x u).toArray 118)).alloc (by simp) (.cells (kl zk).toArray 29))
  have HK0 := Lib.hid ((Blk.new w 118 (akc p x u).toArray).alloc (.cells (kl zk).toArray 29))
  have HA0 := Lib.hid (Blk.new_of (w.alloc (.cells (akc p x u).toArray 118)) 29 (kl zk).toArray (g := w.heap.size + 1) (by simp))
  have HY0 : Hid (KeyAt ((w.alloc (.cells (akc p x u).toArray 118)).alloc (.cells (kl zk).toArray 29)) w.heap.size (10 + i * 6) y) := Lib.hid (by
    obtain ⟨y', hy', hk⟩ := HK0.out.ak.node.slot hi
    rw [hy] at hy'
    injection hy' with hy'
    subst hy'
    have := slot6 hk
    rwa [Nat.zero_add] at this)
  have d16 : (i : Int) < 16 := by omega
  have HI := Lib.hid hi
  have HTab := Lib.hid hT
  clear hT h hn hv hy hok hr hr'
  go_enter Tryd.func64, Tryd.ntmps64
  go_wp2_with fail
  refine wp_region_only (S := fun w' => w'.cell? ⟨w.heap.size, 0, none⟩ = some (pv p) ∧ w'.cell? ⟨w.heap.size, 10 + i * 6, none⟩ = some (.int .i64 y.k) ∧ w'.cell? ⟨w.heap.size, 10 + i * 6 + 1, none⟩ = some (.int .i64 y.o) ∧ w'.cell? ⟨w.heap.size, 10 + i * 6 + 2, none⟩ = some (.int .i64 y.c) ∧ w'.cell? ⟨w.heap.size, 10 + i * 6 + 3, none⟩ = some (.int .i64 y.l) ∧ w'.cell? ⟨w.heap.size, 10 + i * 6 + 4, none⟩ = some (.int .i64 y.r) ∧ w'.cell? ⟨w.heap.size, 10 + i * 6 + 5, none⟩ = some (.int .i64 y.v)) (by kernel_rfl) ⟨HK0.out.drew.ak.p0, HY0.out.drew.six⟩ (fun hHeld => ?_)
  refine wpAnyH_take (i := 0) (v := ?v8) rfl (by kernel_rfl) (by kernel_rfl) (by kernel_rfl) (fun _ _ _ h => h) (Or.inl ⟨by rfl, ?hy8⟩) hHeld ?rest8
  case hy8 =>
    intro w' hSw
    try dsimp only at hSw
    go_simp
    first | done | with_reducible rfl
  try simp only [Act.put, List.getElem_toArray, List.getElem_cons_zero, List.setIfInBounds_toArray, List.set_cons_zero, List.set_cons_succ]
  refine wpAnyH_take (i := 1) (v := ?v9) rfl (by kernel_rfl) (by kernel_rfl) (by kernel_rfl) (fun _ _ _ h => h) (Or.inl ⟨by rfl, ?hy9⟩) hHeld ?rest9
  case hy9 =>
    intro w' hSw
    try dsimp only at hSw
    go_simp
    first | done | with_reducible rfl
  try simp only [Act.put, List.getElem_toArray, List.getElem_cons_succ, List.getElem_cons_zero, List.setIfInBounds_toArray, List.set_cons_zero, List.set_cons_succ]
  refine wpAnyH_take (i := 2) (v := ?v10) rfl (by kernel_rfl) (by kernel_rfl) (by kernel_rfl) (fun _ _ _ h => h) (Or.inl ⟨by rfl, ?hy10⟩) hHeld ?rest10
  case hy10 =>
    intro w' hSw
    try dsimp only at hSw
    go_simp
    first | done | with_reducible rfl
  try simp only [Act.put, List.getElem_toArray, List.getElem_cons_succ, List.getElem_cons_zero, List.setIfInBounds_toArray, List.set_cons_zero, List.set_cons_succ]
  refine wpAnyH_take (i := 3) (v := ?v11) rfl (by kernel_rfl) (by kernel_rfl) (by kernel_rfl) (fun _ _ _ h => h) (Or.inl ⟨by rfl, ?hy11⟩) hHeld ?rest11
  case hy11 =>
    intro w' hSw
    try dsimp only at hSw
    go_simp
    first | done | with_reducible rfl
  try simp only [Act.put, List.getElem_toArray, List.getElem_cons_succ, List.getElem_cons_zero, List.setIfInBounds_toArray, List.set_cons_zero, List.set_cons_succ]
  refine wpAnyH_take (i := 4) (v := ?v12) rfl (by kernel_rfl) (by kernel_rfl) (by kernel_rfl) (fun _ _ _ h => h) (Or.inl ⟨by rfl, ?hy12⟩) hHeld ?rest12
  case hy12 =>
    intro w' hSw
    try dsimp only at hSw
    go_simp
    first | done | with_reducible rfl
  try simp only [Act.put, List.getElem_toArray, List.getElem_cons_succ, List.getElem_cons_zero, List.setIfInBounds_toArray, List.set_cons_zero, List.set_cons_succ]
  refine wpAnyH_take (i := 5) (v := ?v13) rfl (by kernel_rfl) (by kernel_rfl) (by kernel_rfl) (fun _ _ _ h => h) (Or.inl ⟨by rfl, ?hy13⟩) hHeld ?rest13
  case hy13 =>
    intro w' hSw
    try dsimp only at hSw
    go_simp
    first | done | with_reducible rfl
  try simp only [Act.put, List.getElem_toArray, List.getElem_cons_succ, List.getElem_cons_zero, List.setIfInBounds_toArray, List.set_cons_zero, List.set_cons_succ]
  refine wpAnyH_take (i := 6) (v := ?v14) rfl (by kernel_rfl) (by kernel_rfl) (by kernel_rfl) (fun _ _ _ h => h) (Or.inl ⟨by rfl, ?hy14⟩) hHeld ?rest14
  case hy14 =>
    intro w' hSw
    try dsimp only at hSw
    go_simp
    first | done | with_reducible rfl
  try simp only [Act.put, List.getElem_toArray, List.getElem_cons_succ, List.getElem_cons_zero, List.setIfInBounds_toArray, List.set_cons_zero, List.set_cons_succ]
  refine wpAnyH_ready (rs := [7, 8]) (by kernel_rfl) (by simp) ?_
  refine AllReadyH.cons (by rfl) (fun K hK => ?_) (AllReadyH.cons (by rfl) (fun K hK => ?_) AllReadyH.nil)
  · go_simp
    refine (HV.out ▸ prep_at (HS0.out.drew) HN.out (HT0.out.drew) y).mono ?_
    rintro e w2 ⟨rfl, b2⟩
    have HB2 := Lib.hid ((below_drew HB0.out).trans (b2.mono (below_drew HB0.out).size))
    have HK2 := Lib.hid ((HK0.out.drew).keep b2)
    have HA2 := Lib.hid ((HA0.out.drew).keep b2)
    have HY2 := Lib.hid ((HY0.out.drew).keep b2)
    clear b2 hHeld
    go_wp2_with fail
    refine hK.out _ _ ⟨HK2.out.ak.p0, HY2.out.six⟩ (fun hHeld => ?_)
    clear hK K
    try simp only [Act.put, List.getElem_toArray, List.getElem_cons_succ, List.getElem_cons_zero, List.setIfInBounds_toArray, List.set_cons_zero, List.set_cons_succ]
    refine wpAnyH_ready (rs := [8]) (by kernel_rfl) (by simp) ?_
    refine AllReadyH.cons (by rfl) (fun K hK => ?_) AllReadyH.nil
    refine step_alloc30 rfl (by rfl) ?_
    intro g3 w3 hg hw
    have HGE3 := Lib.hid (show w.heap.size + 2 ≤ g3 by have h1 := HB2.out.size; have h2 := HB0.out.size; have h3 := HA2.out.lt; subst hg; simp at h3 ⊢; try omega)
    have HB3 := Lib.hid (show Below w.heap.size w w3 by subst hw; exact HB2.out.alloc HB2.out.size _)
    have HK3 := Lib.hid (show Blk w3 w.heap.size _ _ by subst hw; exact (HK2.out).alloc _)
    have HA3 := Lib.hid (show Blk w3 (w.heap.size + 1) _ _ by subst hw; exact (HA2.out).alloc _)
    have HY3 := Lib.hid (show KeyAt w3 w.heap.size (10 + i * 6) y by subst hw; exact (HY2.out).alloc _)
    have HG3 := Lib.hid (show Blk w3 g3 29 (kl zk).toArray by subst hw hg; exact Blk.new _ _ _)
    clear hg hw hHeld
    refine hK.out _ _ ⟨HK3.out.ak.p0, HY3.out.six⟩ (fun hHeld => ?_)
    clear hK K
    try simp only [Act.put, List.getElem_toArray, List.getElem_cons_succ, List.getElem_cons_zero, List.setIfInBounds_toArray, List.set_cons_zero, List.set_cons_succ]
    refine wpAnyH_ready (rs := [9]) (by kernel_rfl) (by simp) ?_
    refine AllReadyH.cons (by rfl) (fun K hK => ?_) AllReadyH.nil
    refine step_store_big HG3.out rfl (.tmp 5) (.tmp 15) (ty := 29) (l := kl v) rfl (by rfl) (by rfl) size30 rfl (kl_one v) ?_
    have HB9 := Lib.hid (below_setRow HB3.out (show w.heap.size ≤ g3 by have := HGE3.out; omega) (kl v).toArray)
    have HK9 := Lib.hid (Blk.row_far HK3.out (show w.heap.size ≠ g3 by have := HGE3.out; omega) (kl v).toArray)
    have HA9 := Lib.hid (Blk.row_far HA3.out (show w.heap.size + 1 ≠ g3 by have := HGE3.out; omega) (kl v).toArray)
    have HY9 : Hid (KeyAt (w3.setRow g3 (kl v).toArray) w.heap.size (10 + i * 6) y) := Lib.hid (HY3.out.at_heap (setRow_other _ _ _ _ (by have := HGE3.out; omega)))
    have HG9 := Lib.hid (HG3.out.setRow (kl v).toArray)
    generalize w3.setRow g3 (kl v).toArray = W at HB9 HK9 HA9 HY9 HG9 ⊢
    refine hK.out _ _ ⟨HK9.out.ak.p0, HY9.out.six⟩ (fun hHeld => ?_)
    clear hK K
    try simp only [Act.put, List.getElem_toArray, List.getElem_cons_succ, List.getElem_cons_zero]
    refine wpAnyH_done (by kernel_rfl) ?_ _
    refine OnlyN.normal ?_
    clear hHeld
    obtain ⟨k0, k1, k2, k3, k4, k5⟩ := HK9.out.ak.key.six
    obtain ⟨g0, g1, g2, g3, g4, g5⟩ := HG9.out.six
    go_wp2_with (first
      | (go_at_call 66; refine (weaken_ok v _ (HTab.out.below HB9.out) HVO.out).mono ?_; rintro e z ⟨rfl, bz⟩; have HBz := Lib.hid ((HB9.out.trans (bz.mono HB9.out.size)).alloc (Nat.le_trans HB9.out.size bz.size) (.cells (kl v.weak).toArray 29)); have HAz := Lib.hid ((HA9.out.keep bz).alloc (.cells (kl v.weak).toArray 29)); obtain ⟨z0, z1, z2, z3, z4, z5⟩ := (Blk.new z 29 (kl v.weak).toArray).six; clear bz g0 g1 g2 g3 g4 g5 k0 k1 k2 k3 k4 k5)
      | (refine wpList_store_new (l := kl v.weak) (l0 := kl zk) (ty := 29) rfl (.tmp 6) (.tmp 25) (by rfl) _ rfl (by rfl) (by rfl) size30 rfl (kl_one _) ?_)
      | (refine wpList_store_ky (y := zk) HAz.out rfl (.tmp 4) (.tmp 27) rfl (by rfl) v.weak (by rfl) ?_))
    exact bodyPost_ret (results_key rfl _ _ (w.heap.size + 1) v.weak rfl (HAz.out.setRow _)) rfl ⟨rfl, below_setRow HBz.out (by omega) _⟩
  · refine step_alloc30 rfl (by rfl) ?_
    intro g1 w1 hg hw
    have HGE1 := Lib.hid (show w.heap.size + 2 ≤ g1 by have h1 := (below_drew HB0.out).size; have h2 := HB0.out.size; have h3 := HA0.out.lt; subst hg; simp at h3 ⊢; try omega)
    have HB1 := Lib.hid (show Below w.heap.size w w1 by subst hw; exact (below_drew HB0.out).alloc (below_drew HB0.out).size _)
    have HK1 := Lib.hid (show Blk w1 w.heap.size _ _ by subst hw; exact (HK0.out.drew).alloc _)
    have HA1 := Lib.hid (show Blk w1 (w.heap.size + 1) _ _ by subst hw; exact (HA0.out.drew).alloc _)
    have HY1 := Lib.hid (show KeyAt w1 w.heap.size (10 + i * 6) y by subst hw; exact (HY0.out.drew).alloc _)
    have HG1 := Lib.hid (show Blk w1 g1 29 (kl zk).toArray by subst hw hg; exact Blk.new _ _ _)
    have HS1 := Lib.hid (show StAt w1 base p A cap ps os by subst hw; exact (HS0.out.drew).alloc _)
    have HT1 := Lib.hid (show Tab w1 by subst hw; exact (HT0.out.drew).alloc _)
    clear hg hw hHeld
    refine hK.out _ _ ⟨HK1.out.ak.p0, HY1.out.six⟩ (fun hHeld => ?_)
    clear hK K
    try simp only [Act.put, List.getElem_toArray, List.getElem_cons_succ, List.getElem_cons_zero, List.setIfInBounds_toArray, List.set_cons_zero, List.set_cons_succ]
    refine wpAnyH_ready (rs := [7]) (by kernel_rfl) (by simp) ?_
    refine AllReadyH.cons (by rfl) (fun K hK => ?_) AllReadyH.nil
    go_simp
    refine (HV.out ▸ prep_at (HS1.out) HN.out (HT1.out) y).mono ?_
    rintro e w3 ⟨rfl, b3⟩
    have HB3 := Lib.hid (HB1.out.trans (b3.mono HB1.out.size))
    have HK3 := Lib.hid ((HK1.out).keep b3)
    have HA3 := Lib.hid ((HA1.out).keep b3)
    have HY3 := Lib.hid ((HY1.out).keep b3)
    have HG3 := Lib.hid (HG1.out.keep b3)
    clear b3 hHeld
    go_wp2_with fail
    refine hK.out _ _ ⟨HK3.out.ak.p0, HY3.out.six⟩ (fun hHeld => ?_)
    clear hK K
    try simp only [Act.put, List.getElem_toArray, List.getElem_cons_succ, List.getElem_cons_zero, List.setIfInBounds_toArray, List.set_cons_zero, List.set_cons_succ]
    refine wpAnyH_ready (rs := [9]) (by kernel_rfl) (by simp) ?_
    refine AllReadyH.cons (by rfl) (fun K hK => ?_) AllReadyH.nil
    refine step_store_big HG3.out rfl (.tmp 5) (.tmp 15) (ty := 29) (l := kl v) rfl (by rfl) (by rfl) size30 rfl (kl_one v) ?_
    have HB9 := Lib.hid (below_setRow HB3.out (show w.heap.size ≤ g1 by have := HGE1.out; omega) (kl v).toArray)
    have HK9 := Lib.hid (Blk.row_far HK3.out (show w.heap.size ≠ g1 by have := HGE1.out; omega) (kl v).toArray)
    have HA9 := Lib.hid (Blk.row_far HA3.out (show w.heap.size + 1 ≠ g1 by have := HGE1.out; omega) (kl v).toArray)
    have HY9 : Hid (KeyAt (w3.setRow g1 (kl v).toArray) w.heap.size (10 + i * 6) y) := Lib.hid (HY3.out.at_heap (setRow_other _ _ _ _ (by have := HGE1.out; omega)))
    have HG9 := Lib.hid (HG3.out.setRow (kl v).toArray)
    generalize w3.setRow g1 (kl v).toArray = W at HB9 HK9 HA9 HY9 HG9 ⊢
    refine hK.out _ _ ⟨HK9.out.ak.p0, HY9.out.six⟩ (fun hHeld => ?_)
    clear hK K
    try simp only [Act.put, List.getElem_toArray, List.getElem_cons_succ, List.getElem_cons_zero]
    refine wpAnyH_done (by kernel_rfl) ?_ _
    refine OnlyN.normal ?_
    clear hHeld
    obtain ⟨k0, k1, k2, k3, k4, k5⟩ := HK9.out.ak.key.six
    obtain ⟨g0, g1, g2, g3, g4, g5⟩ := HG9.out.six
    go_wp2_with (first
      | (go_at_call 66; refine (weaken_ok v _ (HTab.out.below HB9.out) HVO.out).mono ?_; rintro e z ⟨rfl, bz⟩; have HBz := Lib.hid ((HB9.out.trans (bz.mono HB9.out.size)).alloc (Nat.le_trans HB9.out.size bz.size) (.cells (kl v.weak).toArray 29)); have HAz := Lib.hid ((HA9.out.keep bz).alloc (.cells (kl v.weak).toArray 29)); obtain ⟨z0, z1, z2, z3, z4, z5⟩ := (Blk.new z 29 (kl v.weak).toArray).six; clear bz g0 g1 g2 g3 g4 g5 k0 k1 k2 k3 k4 k5)
      | (refine wpList_store_new (l := kl v.weak) (l0 := kl zk) (ty := 29) rfl (.tmp 6) (.tmp 25) (by rfl) _ rfl (by rfl) (by rfl) size30 rfl (kl_one _) ?_)
      | (refine wpList_store_ky (y := zk) HAz.out rfl (.tmp 4) (.tmp 27) rfl (by rfl) v.weak (by rfl) ?_))
    exact bodyPost_ret (results_key rfl _ _ (w.heap.size + 1) v.weak rfl (HAz.out.setRow _)) rfl ⟨rfl, below_setRow HBz.out (by omega) _⟩
set_option maxRecDepth 8000 in
theorem got_any (h : StAt w base p A cap ps os) (hn : 0 < os.length) (hT : Tab w) (x : Ky) (u : Oj) (i : Nat) (hi : i < 16) (y : Ky) (hy : u.s[i]? = some y) (hok : x.ok) :
    Calls Tryd.prog 64 #[akv p x u, .int .i64 (i : Int)] w fun e w' => e = .returned (gotK os x y).val ∧ Below w.heap.size w w' := by
  unfold gotK
  by_cases hr : x.r / 2 % 2 = 1
  · rw [if_pos hr]
    exact got_weak h hn hT x u i hi y hy hok hr
  · rw [if_neg hr]
    exact got_plain h hn hT x u i hi y hy hok hr
end
end Go.Proofs.YtjolojomgfcfbaaDoor

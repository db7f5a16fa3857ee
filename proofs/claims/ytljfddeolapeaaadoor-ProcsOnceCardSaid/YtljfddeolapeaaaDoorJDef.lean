/- procs: a node that is come to, a message, an invocation, as they lie: words. -/
import Derived.Test.YtljfddeolapeaaaDoorGCut
import Derived.Test.YtljfddeolapeaaaDoorR17
namespace Go.Proofs.YtljfddeolapeaaaDoor
open Go.RowKit
/-- a node that is come to: its object, its Oid, its store -/
def jc (p : Option Addr) (x : Int) (o : Oj) : List Value := o.cells ++ [.int .i64 x, .pointer p]
abbrev jv (p : Option Addr) (x : Int) (o : Oj) : Value := .agg (jc p x o).toArray
set_option maxRecDepth 8000 in
theorem jc_len (p : Option Addr) (x : Int) (o : Oj) : (jc p x o).length = 165 := by simp [jc, o.len]
set_option maxRecDepth 8000 in
theorem jc_one (p : Option Addr) (x : Int) (o : Oj) : ∀ v ∈ jc p x o, v.oneCell' = true := by
  intro v h
  simp only [jc, List.mem_cons, List.mem_append, List.not_mem_nil, or_false] at h
  rcases h with h | rfl | rfl
  · exact o.one v h
  · rfl
  · rfl
section
variable {w w' : World} {g off : Nat} {p : Option Addr} {x : Int} {o : Oj}
/-- it lies in a block from off on -/
def JAt (w : World) (g off : Nat) (p : Option Addr) (x : Int) (o : Oj) : Prop := w.rangeAt g off (jc p x o)
theorem JAt.keep (h : JAt w g off p x o) (hk : w'.heap[g]? = w.heap[g]?) : JAt w' g off p x o := fun j v hv => (World.cell?_of_block (a := ⟨g, off + j, none⟩) hk).trans (h j v hv)
set_option maxRecDepth 8000 in
theorem JAt.node (h : JAt w g off p x o) : ObAt w g off o := by
  have := range_mid (a := []) (m := o.cells) (b := [.int .i64 x, .pointer p]) (w := w) (g := g) (off := off) (by rw [List.nil_append]; exact h)
  have h2 : w.rangeAt g off o.cells := by simpa using this
  exact h2
theorem JAt.oid (h : JAt w g off p x o) : w.cell? ⟨g, off + 163, none⟩ = some (.int .i64 x) := h 163 _ (by
  unfold jc
  rw [List.getElem?_append_right (by rw [o.len]; omega), o.len]
  rfl)
theorem JAt.st (h : JAt w g off p x o) : w.cell? ⟨g, off + 164, none⟩ = some (.pointer p) := h 164 _ (by
  unfold jc
  rw [List.getElem?_append_right (by rw [o.len]; omega), o.len]
  rfl)
theorem Blk.jx {t : TypeId} (h : Blk w g t (jc p x o).toArray) : JAt w g 0 p x o := h.range
end
set_option maxRecDepth 8000 in
theorem fill_mid (place : Nat → Option (Nat × Nat)) (X B Y : List Value) (i : Nat) (v : Value) (vs : List Value) (rest : List (Nat × Value)) (off n : Nat) (hv : v.cells = vs.toArray) (hp : place i = some (off, n)) (hn : vs.length = n) (hX : X.length = off) (hB : B.length = n) : Instr.fill place (X ++ B ++ Y).toArray ((i, v) :: rest) = Instr.fill place (X ++ vs ++ Y).toArray rest := by
  subst hX hn
  rw [fill_one place _ i v rest X.length (by rw [hp, hv]; rfl) (by rw [hv]; simp; omega), hv]
  congr 2
  simp only [List.size_toArray]
  rw [List.append_assoc X B Y, List.take_left' rfl, ← hB, List.drop_length_add_append, List.drop_left' rfl]
set_option maxRecDepth 8000 in
theorem fillJ (p : Option Addr) (x : Int) (o : Oj) : Instr.fill (([(0, 163), (163, 1), (164, 1)] : List (Nat × Nat)).toArray[·]?) (jc none 0 oz).toArray [(0, o.val), (1, .int .i64 x), (2, .pointer p)] = some (jc p x o).toArray := by
  rw [show jc none 0 oz = [] ++ oz.cells ++ [.int .i64 0, .pointer none] by simp [jc]]
  rw [fill_mid _ [] oz.cells _ 0 o.val o.cells _ 0 163 rfl rfl o.len rfl oz.len]
  rw [show [] ++ o.cells ++ [Value.int .i64 0, .pointer none] = o.cells ++ [.int .i64 0] ++ [.pointer none] by simp]
  rw [fill_mid _ o.cells [.int .i64 0] _ 1 (.int .i64 x) [.int .i64 x] _ 163 1 rfl rfl rfl o.len rfl]
  rw [show o.cells ++ [Value.int .i64 x] ++ [.pointer none] = (o.cells ++ [.int .i64 x]) ++ [.pointer none] ++ [] by simp]
  refine (fill_mid (([(0, 163), (163, 1), (164, 1)] : List (Nat × Nat)).toArray[·]?) (o.cells ++ [.int .i64 x]) [.pointer none] [] 2 (.pointer p) [.pointer p] [] 164 1 rfl rfl rfl (by simp [o.len]) rfl).trans ?_
  simp [jc, Instr.fill]
set_option maxRecDepth 8000 in
theorem sizeJ : (Tryd.prog.info? 93).map (·.size) = some 165 := by kernel_rfl
set_option maxRecDepth 8000 in
theorem zeroJ : (Tryd.prog.info? 93).map (fun i => (i.zero, i.size)) = some (some (.agg (jc none 0 oz).toArray), 165) := by kernel_rfl
theorem zJ (w : World) : (zeroValue 93).run Tryd.prog w = .ok (.agg (jc none 0 oz).toArray) w := (zero_of_info zeroJ).1 w
set_option maxRecDepth 8000 in
theorem placeJ : ((Tryd.prog.fieldsOf 93).toList.mapM fun f => (Tryd.prog.info? f.type).map fun i => (f.offset, i.size)) = some [(0, 163), (163, 1), (164, 1)] := by kernel_rfl
set_option maxRecDepth 8000 in
theorem undJ : Tryd.prog.underlying 93 = some (.struct (Tryd.prog.fieldsOf 93)) := by kernel_rfl
set_option maxRecDepth 8000 in
theorem builtJ (p : Option Addr) (x : Int) (o : Oj) : Tryd.prog.built 93 [(0, o.val), (1, .int .i64 x), (2, .pointer p)] = some (jc p x o).toArray := by
  unfold Program.built
  cases hi : Tryd.prog.info? 93 with
  | none => have := sizeJ; simp [hi] at this
  | some it =>
    have hz := zeroJ
    simp only [hi, Option.map_some, Option.some.injEq, Prod.mk.injEq] at hz
    simp only [undJ, hz.1, placeJ]
    exact fillJ p x o
section
variable {ops : Array Oper} {o : Oper} {a : Act} {S : World → Prop}
theorem y_nd (hw : Region.wanted o (yielded ops a.tmps) = true) (x : Operand) (ho : o.op = .load 93 x) (g off : Nat) (hx : a.eval x = .pointer (some ⟨g, off, none⟩)) (p : Option Addr) (k : Int) (u : Oj) (hS : ∀ w, S w → JAt w g off p k u) : YieldsIf Tryd.prog ops S o (jv p k u) a :=
  yieldsIf_load_mid hw 93 x ho g off hx (jc p k u) _ hS Tryd.underlying93 rfl (by rw [jc_len]; exact sizeJ)
theorem y_buildJ (hw : Region.wanted o (yielded ops a.tmps) = true) (q r s : Operand) (ho : o.op = .build 93 #[(0, q), (1, r), (2, s)]) (p : Option Addr) (x : Int) (u : Oj) (hq : a.eval q = u.val) (hr : a.eval r = .int .i64 x) (hs : a.eval s = .pointer p) : YieldsIf Tryd.prog ops S o (jv p x u) a := .inl ⟨hw, fun w _ => by
  have := run_build w 93 #[(0, u.val), (1, .int .i64 x), (2, .pointer p)] (jc p x u).toArray (builtJ p x u)
  unfold execOp
  simp only [ho, Sem.run_bind, List.map_toArray, List.map_cons, List.map_nil, hq, hr, hs, this, Result.andThen_ok, Sem.run_pure]⟩
end
theorem load_nd {w : World} {g : Nat} {t : TypeId} (p : Option Addr) (x : Int) (o : Oj) (h : Blk w g t (jc p x o).toArray) : (loadVar 93 ⟨g, 0, none⟩).run Tryd.prog w = .ok (jv p x o) w :=
  run_loadVar_row w g t 93 (jc p x o).toArray (0, 0) _ h Tryd.underlying93 rfl (by rw [List.size_toArray, jc_len]; exact sizeJ)
/-- a number key -/
abbrev nmk (n : Int) : Ky := ⟨1, 0, 0, 0, 0, n⟩
/-- an object's slot -/
def slt (u : Oj) (i : Nat) : Ky := (u.s[i]?).getD zk
-- a node within a block
/-- a node lies in a block from off on, X ahead of it and Y behind it -/
structure NdB (w : World) (g off : Nat) (t : TypeId) (X Y : List Value) (p : Option Addr) (x : Int) (u : Oj) : Prop where
  len : X.length = off
  blk : Blk w g t (X ++ jc p x u ++ Y).toArray
set_option maxRecDepth 8000 in
theorem mid_fit {X M Y l : List Value} {off k : Nat} (hX : X.length = off) (hf : k + l.length ≤ M.length) : (X ++ M ++ Y).take (off + k) ++ l ++ (X ++ M ++ Y).drop (off + k + l.length) = X ++ (M.take k ++ l ++ M.drop (k + l.length)) ++ Y := by
  subst hX
  rw [List.append_assoc X M Y, List.take_length_add_append, List.take_append_of_le_length (by omega), show X.length + k + l.length = X.length + (k + l.length) by omega, List.drop_length_add_append, List.drop_append_of_le_length hf]
  simp
set_option maxRecDepth 8000 in
theorem bk_mid {p : Option Addr} {x : Int} {u v : Oj} {k : Nat} {l : List Value} (hf : k + l.length ≤ 163) (he : u.cells.take k ++ l ++ u.cells.drop (k + l.length) = v.cells) : (jc p x u).take k ++ l ++ (jc p x u).drop (k + l.length) = jc p x v := by
  unfold jc
  have hl := u.len
  rw [List.take_append_of_le_length (by omega), List.drop_append_of_le_length (by omega), ← he]
  simp
section
variable {w w' : World} {g off : Nat} {p : Option Addr} {t : TypeId} {X Y : List Value} {x : Int} {u : Oj}
theorem NdB.keep (h : NdB w g off t X Y p x u) (hk : w'.heap[g]? = w.heap[g]?) : NdB w' g off t X Y p x u := ⟨h.len, hk.trans h.blk⟩
theorem NdB.lt (h : NdB w g off t X Y p x u) : g < w.heap.size := h.blk.lt
theorem NdB.below (h : NdB w g off t X Y p x u) (hb : Below w.heap.size w w') : NdB w' g off t X Y p x u := h.keep (hb.block g h.lt)
theorem NdB.alloc (h : NdB w g off t X Y p x u) (o : Obj) : NdB (w.alloc o) g off t X Y p x u := h.below ((Below.refl _ _).alloc (Nat.le_refl _) _)
set_option maxRecDepth 8000 in
theorem NdB.at_ (h : NdB w g off t X Y p x u) : JAt w g off p x u := by
  have := range_mid (w := w) (g := g) (off := 0) (a := X) (m := jc p x u) (b := Y) h.blk.range
  rw [Nat.zero_add, h.len] at this
  exact this
theorem NdB.ob (h : NdB w g off t X Y p x u) : ObAt w g off u := h.at_.node
set_option maxRecDepth 8000 in
theorem NdB.slot (h : NdB w g off t X Y p x u) {i : Nat} (hi : i < 16) : KeyAt w g (off + 3 + i * 6) (slt u i) := by
  obtain ⟨y, hy, hk⟩ := h.ob.slot hi
  unfold slt
  rw [hy]
  exact hk
theorem NdB.own (h : Blk w g t (jc p x u).toArray) : NdB w g 0 t [] [] p x u := ⟨rfl, by simpa using h⟩
set_option maxRecDepth 8000 in
theorem NdB.fit {v : Oj} {k : Nat} {l : List Value} (h : NdB w g off t X Y p x u) (hf : k + l.length ≤ 163) (he : u.cells.take k ++ l ++ u.cells.drop (k + l.length) = v.cells) : (X ++ jc p x u ++ Y).take (off + k) ++ l ++ (X ++ jc p x u ++ Y).drop (off + k + l.length) = X ++ jc p x v ++ Y := by
  rw [mid_fit h.len (by rw [jc_len]; omega), bk_mid hf he]
set_option maxRecDepth 8000 in
theorem NdB.room (h : NdB w g off t X Y p x u) {k n : Nat} (hf : k + n ≤ 163) : off + k + n ≤ (X ++ jc p x u ++ Y).length := by
  have := h.len
  have := jc_len p x u
  simp only [List.length_append]
  omega
theorem NdB.setRow (h : NdB w g off t X Y p x u) (v : Oj) : NdB (w.setRow g (X ++ jc p x v ++ Y).toArray) g off t X Y p x v := ⟨h.len, h.blk.setRow _⟩
end
theorem slot_fit (u : Oj) (i : Nat) (hi : i < 16) (y : Ky) : u.cells.take (3 + i * 6) ++ kl y ++ u.cells.drop (3 + i * 6 + (kl y).length) = (slotAs u i y).cells := slot_set u i hi y
set_option maxRecDepth 8000 in
theorem slt_as (u : Oj) (i : Nat) (hi : i < 16) (y : Ky) (j : Nat) : slt (slotAs u i y) j = if i = j then y else slt u j := by
  unfold slt slotAs
  by_cases h : i = j
  · subst h
    rw [if_pos rfl, List.getElem?_set_self (by rw [u.hs]; exact hi)]
    rfl
  · rw [if_neg h, List.getElem?_set_ne h]
-- messages
structure Mg where
  c : Int
  d : List UInt8
  k : List Ky
  hk : k.length = 3
instance : DecidableEq Mg := fun a b => decidable_of_iff (a.c = b.c ∧ a.d = b.d ∧ a.k = b.k) ⟨fun ⟨h0, h1, h2⟩ => by
  obtain ⟨c, d, k, _⟩ := a
  obtain ⟨c', d', k', _⟩ := b
  simp only at h0 h1 h2
  subst h0 h1 h2
  rfl, fun h => by subst h; exact ⟨rfl, rfl, rfl⟩⟩
def Mg.cells (m : Mg) : List Value := .int .i64 m.c :: .string (st m.d) :: kcs m.k
abbrev Mg.val (m : Mg) : Value := .agg m.cells.toArray
set_option maxRecDepth 8000 in
theorem Mg.len (m : Mg) : m.cells.length = 20 := by simp [Mg.cells, kcs_length, m.hk]
set_option maxRecDepth 8000 in
theorem Mg.one (m : Mg) : ∀ u ∈ m.cells, u.oneCell' = true := by
  intro u hu
  simp only [Mg.cells, List.mem_cons] at hu
  rcases hu with rfl | rfl | h
  · rfl
  · rfl
  · exact kcs_one _ u h
def mz : Mg := ⟨0, [], [zk, zk, zk], rfl⟩
set_option maxRecDepth 8000 in
theorem sizeM : (Tryd.prog.info? 38).map (·.size) = some 20 := by kernel_rfl
set_option maxRecDepth 8000 in
theorem zeroM : (Tryd.prog.info? 38).map (fun i => (i.zero, i.size)) = some (some mz.val, 20) := by kernel_rfl
theorem zM (w : World) : (zeroValue 38).run Tryd.prog w = .ok mz.val w := (zero_of_info zeroM).1 w
set_option maxRecDepth 8000 in
theorem builtM : Tryd.prog.built 38 [] = some mz.cells.toArray := by kernel_rfl
set_option maxRecDepth 8000 in
theorem size3k : (Tryd.prog.info? 36).map (·.size) = some 18 := by kernel_rfl
set_option maxRecDepth 8000 in
theorem kcs3 {l : List Ky} (h : l.length = 3) : (kcs l).length = 18 := by rw [kcs_length, h]
/-- a message lies in a block from off on -/
def MgAt (w : World) (g off : Nat) (m : Mg) : Prop := w.rangeAt g off m.cells
section
variable {w w' : World} {g off : Nat} {m : Mg}
theorem MgAt.keep (h : MgAt w g off m) (hk : w'.heap[g]? = w.heap[g]?) : MgAt w' g off m := fun j v hv => (World.cell?_of_block (a := ⟨g, off + j, none⟩) hk).trans (h j v hv)
theorem MgAt.lt (h : MgAt w g off m) : g < w.heap.size := cell_lt (h 0 _ rfl)
theorem MgAt.below (h : MgAt w g off m) (hb : Below w.heap.size w w') : MgAt w' g off m := h.keep (hb.block g h.lt)
theorem MgAt.alloc (h : MgAt w g off m) (u : Obj) : MgAt (w.alloc u) g off m := h.below ((Below.refl _ _).alloc (Nat.le_refl _) _)
theorem MgAt.drew (h : MgAt w g off m) : MgAt w.drew g off m := h
theorem MgAt.code (h : MgAt w g off m) : w.cell? ⟨g, off, none⟩ = some (.int .i64 m.c) := h 0 _ rfl
theorem MgAt.data (h : MgAt w g off m) : w.cell? ⟨g, off + 1, none⟩ = some (.string (st m.d)) := h 1 _ rfl
theorem MgAt.keys (h : MgAt w g off m) : w.rangeAt g (off + 2) (kcs m.k) := fun j v hv => by
  have := h (j + 2) v hv
  rw [show off + 2 + j = off + (j + 2) by omega]
  exact this
set_option maxRecDepth 8000 in
theorem MgAt.key (h : MgAt w g off m) {i : Nat} (hi : i < 3) {y : Ky} (hy : m.k[i]? = some y) : KeyAt w g (off + 2 + i * 6) y := by
  have hl : i < m.k.length := by rw [m.hk]; exact hi
  have := key_of_range h.keys i hl
  rw [List.getElem?_eq_getElem hl] at hy
  injection hy with hy
  rwa [hy] at this
theorem Blk.mg {t : TypeId} (h : Blk w g t m.cells.toArray) : MgAt w g 0 m := h.range
theorem load_mg {t : TypeId} (h : Blk w g t m.cells.toArray) : (loadVar 38 ⟨g, 0, none⟩).run Tryd.prog w = .ok m.val w :=
  run_loadVar_row w g t 38 m.cells.toArray (0, 0) _ h Tryd.underlying38 rfl (by rw [List.size_toArray, m.len]; exact sizeM)
end
section
variable {ops : Array Oper} {o : Oper} {a : Act} {S : World → Prop}
theorem y_mg (hw : Region.wanted o (yielded ops a.tmps) = true) (x : Operand) (ho : o.op = .load 38 x) (g off : Nat) (hx : a.eval x = .pointer (some ⟨g, off, none⟩)) (m : Mg) (hS : ∀ w, S w → MgAt w g off m) : YieldsIf Tryd.prog ops S o m.val a :=
  yieldsIf_load_mid hw 38 x ho g off hx m.cells _ hS Tryd.underlying38 rfl (by rw [m.len]; exact sizeM)
theorem y_k3 (hw : Region.wanted o (yielded ops a.tmps) = true) (x : Operand) (ho : o.op = .load 36 x) (g off : Nat) (hx : a.eval x = .pointer (some ⟨g, off, none⟩)) (l : List Ky) (hl : l.length = 3) (hS : ∀ w, S w → w.rangeAt g off (kcs l)) : YieldsIf Tryd.prog ops S o (.agg (kcs l).toArray) a :=
  yieldsIf_load_mid hw 36 x ho g off hx (kcs l) _ hS Tryd.underlying36 rfl (by rw [kcs3 hl]; exact size3k)
end
/-- a message with other keys -/
def Mg.ksAs (m : Mg) (l : List Ky) (h : l.length = 3) : Mg := { m with k := l, hk := h }
set_option maxRecDepth 8000 in
theorem mg_key (m : Mg) (i : Nat) (hi : i < 3) (y : Ky) : m.cells.take (2 + i * 6) ++ kl y ++ m.cells.drop (2 + i * 6 + (kl y).length) = (m.ksAs (m.k.set i y) (by rw [List.length_set]; exact m.hk)).cells := by
  have hc : m.cells = [.int .i64 m.c, .string (st m.d)] ++ kcs m.k := rfl
  have hl : (kcs m.k).length = 18 := kcs3 m.hk
  have h6 : (kl y).length = 6 := kl_len y
  rw [hc, show 2 + i * 6 = [Value.int .i64 m.c, .string (st m.d)].length + i * 6 from rfl, List.take_length_add_append, show [Value.int .i64 m.c, .string (st m.d)].length + i * 6 + (kl y).length = [Value.int .i64 m.c, .string (st m.d)].length + (i * 6 + (kl y).length) by omega, List.drop_length_add_append, h6]
  have := kcs_set m.k i (by rw [m.hk]; exact hi) y
  show _ = [Value.int .i64 m.c, .string (st m.d)] ++ kcs (m.k.set i y)
  rw [← this]
  simp
-- an invocation
def ivc (m : Mg) (md : Int) (p : Option Addr) (a : Int) (u : Oj) (b : Int) (v : Oj) (k : Ky) : List Value := m.cells ++ [.int .i64 md] ++ jc p a u ++ jc p b v ++ kl k
def zivc : List Value := mz.cells ++ [.int .i64 0] ++ (jc none 0 oz) ++ (jc none 0 oz) ++ kl zk
set_option maxRecDepth 8000 in
theorem ivc_len (m : Mg) (md : Int) (p : Option Addr) (a : Int) (u : Oj) (b : Int) (v : Oj) (k : Ky) : (ivc m md p a u b v k).length = 357 := by simp [ivc, m.len, jc_len, kl_len]
set_option maxRecDepth 8000 in
theorem sizeI : (Tryd.prog.info? 99).map (·.size) = some 357 := by kernel_rfl
set_option maxRecDepth 8000 in
theorem zeroI : (Tryd.prog.info? 99).map (fun i => (i.zero, i.size)) = some (some (.agg zivc.toArray), 357) := by kernel_rfl
set_option maxRecDepth 8000 in
theorem placeI : ((Tryd.prog.fieldsOf 99).toList.mapM fun f => (Tryd.prog.info? f.type).map fun i => (f.offset, i.size)) = some [(0, 20), (20, 1), (21, 165), (186, 165), (351, 6)] := by kernel_rfl
set_option maxRecDepth 8000 in
theorem undI : Tryd.prog.underlying 99 = some (.struct (Tryd.prog.fieldsOf 99)) := by kernel_rfl
set_option maxRecDepth 8000 in
theorem fillI (m : Mg) (md : Int) (p : Option Addr) (a : Int) (u : Oj) (b : Int) (v : Oj) : Instr.fill (([(0, 20), (20, 1), (21, 165), (186, 165), (351, 6)] : List (Nat × Nat)).toArray[·]?) zivc.toArray [(0, m.val), (1, .int .i64 md), (2, jv p a u), (3, jv p b v)] = some (ivc m md p a u b v zk).toArray := by
  have e0 : zivc = [] ++ mz.cells ++ ([.int .i64 0] ++ (jc none 0 oz) ++ (jc none 0 oz) ++ kl zk) := by simp [zivc]
  rw [e0, fill_mid _ [] mz.cells _ 0 m.val m.cells _ 0 20 rfl rfl m.len rfl mz.len]
  rw [show [] ++ m.cells ++ ([Value.int .i64 0] ++ (jc none 0 oz) ++ (jc none 0 oz) ++ kl zk) = m.cells ++ [.int .i64 0] ++ ((jc none 0 oz) ++ (jc none 0 oz) ++ kl zk) by simp]
  rw [fill_mid _ m.cells [.int .i64 0] _ 1 (.int .i64 md) [.int .i64 md] _ 20 1 rfl rfl rfl m.len rfl]
  rw [show m.cells ++ [Value.int .i64 md] ++ ((jc none 0 oz) ++ (jc none 0 oz) ++ kl zk) = (m.cells ++ [.int .i64 md]) ++ (jc none 0 oz) ++ ((jc none 0 oz) ++ kl zk) by simp]
  rw [fill_mid (([(0, 20), (20, 1), (21, 165), (186, 165), (351, 6)] : List (Nat × Nat)).toArray[·]?) (m.cells ++ [Value.int .i64 md]) (jc none 0 oz) _ 2 (jv p a u) (jc p a u) _ 21 165 rfl rfl (jc_len _ _ _) (by simp [m.len]) (jc_len none 0 oz)]
  rw [show (m.cells ++ [Value.int .i64 md]) ++ jc p a u ++ ((jc none 0 oz) ++ kl zk) = (m.cells ++ [.int .i64 md] ++ jc p a u) ++ (jc none 0 oz) ++ kl zk by simp]
  rw [fill_mid (([(0, 20), (20, 1), (21, 165), (186, 165), (351, 6)] : List (Nat × Nat)).toArray[·]?) (m.cells ++ [Value.int .i64 md] ++ jc p a u) (jc none 0 oz) _ 3 (jv p b v) (jc p b v) _ 186 165 rfl rfl (jc_len _ _ _) (by simp [m.len, jc_len]) (jc_len none 0 oz)]
  rfl
set_option maxRecDepth 8000 in
theorem builtI (m : Mg) (md : Int) (p : Option Addr) (a : Int) (u : Oj) (b : Int) (v : Oj) : Tryd.prog.built 99 [(0, m.val), (1, .int .i64 md), (2, jv p a u), (3, jv p b v)] = some (ivc m md p a u b v zk).toArray := by
  unfold Program.built
  cases hi : Tryd.prog.info? 99 with
  | none => have := sizeI; simp [hi] at this
  | some it =>
    have hz := zeroI
    simp only [hi, Option.map_some, Option.some.injEq, Prod.mk.injEq] at hz
    simp only [undI, hz.1, placeI]
    exact fillI m md p a u b v
/-- an invocation lies in a block of its own -/
abbrev IvB (w : World) (g : Nat) (m : Mg) (md : Int) (p : Option Addr) (a : Int) (u : Oj) (b : Int) (v : Oj) (k : Ky) : Prop := Blk w g 99 (ivc m md p a u b v k).toArray
section
variable {w w' : World} {g : Nat} {m : Mg} {md : Int} {p : Option Addr} {a : Int} {u : Oj} {b : Int} {v : Oj} {k : Ky}
set_option maxRecDepth 8000 in
theorem iv_from (h : IvB w g m md p a u b v k) : NdB w g 21 99 (m.cells ++ [.int .i64 md]) (jc p b v ++ kl k) p a u := ⟨by simp [m.len], by
  have e : ivc m md p a u b v k = m.cells ++ [.int .i64 md] ++ jc p a u ++ (jc p b v ++ kl k) := by simp [ivc]
  rw [← e]
  exact h⟩
theorem iv_to (h : IvB w g m md p a u b v k) : NdB w g 186 99 (m.cells ++ [.int .i64 md] ++ jc p a u) (kl k) p b v := ⟨by simp [m.len, jc_len], h⟩
set_option maxRecDepth 8000 in
theorem of_from (h : NdB w g 21 99 (m.cells ++ [.int .i64 md]) (jc p b v ++ kl k) p a u) : IvB w g m md p a u b v k := by
  have e : ivc m md p a u b v k = m.cells ++ [.int .i64 md] ++ jc p a u ++ (jc p b v ++ kl k) := by simp [ivc]
  unfold IvB
  rw [e]
  exact h.blk
theorem of_to (h : NdB w g 186 99 (m.cells ++ [.int .i64 md] ++ jc p a u) (kl k) p b v) : IvB w g m md p a u b v k := h.blk
set_option maxRecDepth 8000 in
theorem iv_msg (h : IvB w g m md p a u b v k) : MgAt w g 0 m := by
  have e : ivc m md p a u b v k = [] ++ m.cells ++ ([.int .i64 md] ++ jc p a u ++ jc p b v ++ kl k) := by simp [ivc]
  have hr := Blk.range h
  rw [e] at hr
  exact range_mid hr
set_option maxRecDepth 8000 in
theorem iv_mode (h : IvB w g m md p a u b v k) : w.cell? ⟨g, 20, none⟩ = some (.int .i64 md) := by
  have e : ivc m md p a u b v k = m.cells ++ [.int .i64 md] ++ (jc p a u ++ jc p b v ++ kl k) := by simp [ivc]
  have hr := Blk.range h
  rw [e] at hr
  have := range_mid hr
  rw [m.len] at this
  exact this 0 _ rfl
set_option maxRecDepth 8000 in
theorem iv_ans (h : IvB w g m md p a u b v k) : KeyAt w g 351 k := by
  have e : ivc m md p a u b v k = (m.cells ++ [.int .i64 md] ++ jc p a u ++ jc p b v) ++ kl k ++ [] := by simp [ivc]
  have hr := Blk.range h
  rw [e] at hr
  have := range_mid hr
  have hl : 0 + (m.cells ++ [Value.int .i64 md] ++ jc p a u ++ jc p b v).length = 351 := by simp [m.len, jc_len]
  rw [hl] at this
  exact ⟨this 0 _ rfl, this 1 _ rfl, this 2 _ rfl, this 3 _ rfl, this 4 _ rfl, this 5 _ rfl⟩
set_option maxRecDepth 8000 in
theorem iv_ans_fit (m : Mg) (md : Int) (p : Option Addr) (a : Int) (u : Oj) (b : Int) (v : Oj) (k k' : Ky) : (ivc m md p a u b v k).take 351 ++ kl k' ++ (ivc m md p a u b v k).drop (351 + (kl k').length) = ivc m md p a u b v k' := by
  have hl : (m.cells ++ [Value.int .i64 md] ++ jc p a u ++ jc p b v).length = 351 := by simp [m.len, jc_len]
  unfold ivc
  rw [← hl, List.take_left' rfl, List.drop_eq_nil_of_le (by simp [kl_len]; omega)]
  simp
end
end Go.Proofs.YtljfddeolapeaaaDoor

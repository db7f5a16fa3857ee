/- pages: a page as it lies, a span, bytes that are cut and laid: words. -/
import Derived.Test.YtjolojomgfcfbaaDoorR17
import Derived.ScopeJumps
import Derived.WalkMore
import Derived.Test.YtjolojomgfcfbaaDoorR01
namespace Go.Proofs.YtjolojomgfcfbaaDoor
open Go.RowKit
theorem wp_scope_once {P : Program} {a : Act} {w : World} {Q : Exit → Act → World → Prop} {c rest : Code} (l : Nat) (hf : findLabel c l = some rest)
    (first : c.wp P (Exit.jump l (fun a' w' => rest.wp P (Exit.jump l (fun _ _ => False) Q) a' w') Q) a w) : (Code.scope c).wp P Q a w :=
  wp_scope_jumps l (fun a' w' => rest.wp P (Exit.jump l (fun _ _ => False) Q) a' w') (fun _ _ => 0) hf first fun _ _ h => wp_mono h fun e _ _ q => by
    cases e <;> first | exact q | exact ⟨q.1, q.2.elim, q.2.elim⟩
/-- a page as it is come to: its object, its store, its number -/
def pgc (p : Nat) (n : Int) (o : Oj) : List Value := o.cells ++ [pv p, .int .i64 n]
abbrev pgv (p : Nat) (n : Int) (o : Oj) : Value := .agg (pgc p n o).toArray
def zpgc : List Value := oz.cells ++ [.pointer none, .int .i64 0]
set_option maxRecDepth 8000 in
theorem pgc_len (p : Nat) (n : Int) (o : Oj) : (pgc p n o).length = 165 := by simp [pgc, o.len]
set_option maxRecDepth 8000 in
theorem zpgc_len : zpgc.length = 165 := by simp [zpgc, oz.len]
set_option maxRecDepth 8000 in
theorem two_one {o : Oj} {x y : Value} (hx : x.oneCell' = true) (hy : y.oneCell' = true) : ∀ u ∈ o.cells ++ [x, y], u.oneCell' = true := by
  intro u h
  simp only [List.mem_append, List.mem_cons, List.not_mem_nil, or_false] at h
  rcases h with h | rfl | rfl
  · exact o.one u h
  · exact hx
  · exact hy
theorem pgc_one (p : Nat) (n : Int) (o : Oj) : ∀ u ∈ pgc p n o, u.oneCell' = true := two_one rfl rfl
theorem zpgc_one : ∀ u ∈ zpgc, u.oneCell' = true := two_one rfl rfl
abbrev spn (a n : Int) : Array Value := #[.int .i64 a, .int .i64 n]
set_option maxRecDepth 8000 in
theorem size72 : (Tryd.prog.info? 71).map (·.size) = some 165 := by kernel_rfl
set_option maxRecDepth 8000 in
theorem zero72 : (Tryd.prog.info? 71).map (fun i => (i.zero, i.size)) = some (some (.agg zpgc.toArray), 165) := by kernel_rfl
theorem z72 (w : World) : (zeroValue 71).run Tryd.prog w = .ok (.agg zpgc.toArray) w := (zero_of_info zero72).1 w
set_option maxRecDepth 8000 in
theorem place72 : ((Tryd.prog.fieldsOf 71).toList.mapM fun f => (Tryd.prog.info? f.type).map fun i => (f.offset, i.size)) = some [(0, 163), (163, 1), (164, 1)] := by kernel_rfl
set_option maxRecDepth 8000 in
theorem und72 : Tryd.prog.underlying 71 = some (.struct (Tryd.prog.fieldsOf 71)) := by kernel_rfl
set_option maxRecDepth 8000 in
theorem built72z : Tryd.prog.built 71 [] = some zpgc.toArray := by kernel_rfl
set_option maxRecDepth 8000 in
theorem fill72 (p : Nat) (n : Int) (o : Oj) (zs : List Value) (hz : zs.length = 165) : Instr.fill (([(0, 163), (163, 1), (164, 1)] : List (Nat × Nat)).toArray[·]?) zs.toArray [(0, o.val), (1, pv p), (2, .int .i64 n)] = some (pgc p n o).toArray := by
  have e163 : o.val.cells.size = 163 := by show o.cells.toArray.size = 163; rw [List.size_toArray, o.len]
  rw [fill_one _ _ 0 o.val _ 0 (by rw [e163]; rfl) (by rw [e163]; simp; omega)]
  rw [fill_one _ _ 1 (pv p) _ 163 rfl (by simp [Value.cells, o.len]; omega)]
  rw [fill_one _ _ 2 (.int .i64 n) _ 164 rfl (by simp [Value.cells, o.len]; omega)]
  have c0 : o.val.cells = o.cells.toArray := rfl
  have c1 : (pv p).cells = #[pv p] := rfl
  have c2 : (Value.int .i64 n).cells = #[.int .i64 n] := rfl
  have ol := o.len
  obtain ⟨l, hl⟩ : ∃ l, l = o.cells := ⟨_, rfl⟩
  simp only [Instr.fill, c0, c1, c2, pgc, List.size_toArray]
  rw [← hl] at ol ⊢
  congr 2
  simp only [List.length_cons, List.length_nil, List.take_zero, List.nil_append, ol]
  have t1 : (l ++ zs.drop (0 + 163)).take 163 = l := by rw [← ol, List.take_left]
  have d1 : ((l ++ zs.drop (0 + 163)).drop (163 + (0 + 1))) = zs.drop 164 := by
    rw [List.drop_append, List.drop_eq_nil_of_le (by omega), ol, List.nil_append, List.drop_drop]
  rw [t1, d1]
  have h2 : (l ++ [pv p] ++ zs.drop 164).take 164 = l ++ [pv p] := by
    rw [List.take_append_of_le_length (by simp [ol]), List.take_of_length_le (by simp [ol])]
  have d2 : (l ++ [pv p] ++ zs.drop 164).drop (164 + (0 + 1)) = [] := by
    rw [List.drop_eq_nil_of_le]
    simp [ol, hz]
  rw [h2, d2]
  simp
set_option maxRecDepth 8000 in
theorem built72 (p : Nat) (n : Int) (o : Oj) : Tryd.prog.built 71 [(0, o.val), (1, pv p), (2, .int .i64 n)] = some (pgc p n o).toArray := by
  unfold Program.built
  cases hi : Tryd.prog.info? 71 with
  | none => have := size72; simp [hi] at this
  | some it =>
    have hz := zero72
    simp only [hi, Option.map_some, Option.some.injEq, Prod.mk.injEq] at hz
    simp only [und72, hz.1, place72]
    exact fill72 p n o zpgc zpgc_len
section
variable {ops : Array Oper} {o : Oper} {a : Act} {S : World → Prop}
theorem y_build72 (hw : Region.wanted o (yielded ops a.tmps) = true) (q r s : Operand) (ho : o.op = .build 71 #[(0, q), (1, r), (2, s)]) (p : Nat) (n : Int) (u : Oj) (hq : a.eval q = u.val) (hr : a.eval r = pv p) (hs : a.eval s = .int .i64 n) : YieldsIf Tryd.prog ops S o (pgv p n u) a := .inl ⟨hw, fun w _ => by
  have := run_build w 71 #[(0, u.val), (1, pv p), (2, .int .i64 n)] (pgc p n u).toArray (built72 p n u)
  unfold execOp
  simp only [ho, Sem.run_bind, List.map_toArray, List.map_cons, List.map_nil, hq, hr, hs, this, Result.andThen_ok, Sem.run_pure]⟩
end
section
variable {w : World} {g : Nat} {t : TypeId} {p : Nat} {n : Int} {o : Oj}
theorem load_pg (h : Blk w g t (pgc p n o).toArray) : (loadVar 71 ⟨g, 0, none⟩).run Tryd.prog w = .ok (pgv p n o) w :=
  run_loadVar_row w g t 71 (pgc p n o).toArray (0, 0) _ h Tryd.underlying71 rfl (by rw [List.size_toArray, pgc_len]; exact size72)
theorem load_zpg (h : Blk w g t zpgc.toArray) : (loadVar 71 ⟨g, 0, none⟩).run Tryd.prog w = .ok (.agg zpgc.toArray) w :=
  run_loadVar_row w g t 71 zpgc.toArray (0, 0) _ h Tryd.underlying71 rfl (by rw [List.size_toArray, zpgc_len]; exact size72)
set_option maxRecDepth 8000 in
theorem Blk.pgo (h : Blk w g t (pgc p n o).toArray) : ObAt w g 0 o := by
  have := range_mid (a := []) (m := o.cells) (b := [pv p, .int .i64 n]) (w := w) (g := g) (off := 0) h.range
  exact this
theorem Blk.pgs (h : Blk w g t (pgc p n o).toArray) : w.cell? ⟨g, 163, none⟩ = some (pv p) := (h.range 163 (pv p) (by rw [pgc, List.getElem?_append_right (by rw [o.len]; exact Nat.le_refl _), o.len]; rfl)).symm ▸ rfl
theorem Blk.pgn (h : Blk w g t (pgc p n o).toArray) : w.cell? ⟨g, 164, none⟩ = some (.int .i64 n) := (h.range 164 (.int .i64 n) (by rw [pgc, List.getElem?_append_right (by rw [o.len]; decide), o.len]; rfl)).symm ▸ rfl
end
-- bytes of a page that are others
/-- an object with other bytes -/
def bAs (o : Oj) (l : List UInt8) (h : l.length = 64) : Oj := { o with b := l, hb := h }
/-- bytes with others over them from a place on -/
def lay (b : List UInt8) (a : Nat) (l : List UInt8) : List UInt8 := b.take a ++ l ++ b.drop (a + l.length)
set_option maxRecDepth 8000 in
theorem lay_len {b : List UInt8} {a : Nat} {l : List UInt8} (h : a + l.length ≤ b.length) : (lay b a l).length = b.length := by
  simp [lay]
  omega
theorem bAs_ok {m : Int} {u : Oj} (h : u.ok m) (hk : u.k = 2) (l : List UInt8) (hl : l.length = 64) : (bAs u l hl).ok m := ⟨h.1, h.2.1, h.2.2.1, by
  rcases h.2.2.2 with h1 | h1 | h1
  · have := h1.1; omega
  · exact .inr (.inl ⟨h1.1, h1.2⟩)
  · have := h1.1; omega⟩
set_option maxRecDepth 8000 in
/-- the cells of a page whose object has other bytes -/
theorem pgc_bytes (p : Nat) (n : Int) (u : Oj) (a : Nat) (l : List UInt8) (h : a + l.length ≤ 64) (hl : (lay u.b a l).length = 64) :
    (pgc p n u).take (99 + a) ++ bv l ++ (pgc p n u).drop (99 + a + l.length) = pgc p n (bAs u (lay u.b a l) hl) := by
  have e : pgc p n u = [.int .i64 u.k, .int .i64 u.c, .int .i64 u.l] ++ kcs u.s ++ (bv u.b ++ [pv p, .int .i64 n]) := by simp [pgc, Oj.cells]
  have e2 : pgc p n (bAs u (lay u.b a l) hl) = [.int .i64 u.k, .int .i64 u.c, .int .i64 u.l] ++ kcs u.s ++ (bv (lay u.b a l) ++ [pv p, .int .i64 n]) := by simp [pgc, Oj.cells, bAs]
  rw [e, e2]
  obtain ⟨H, hH⟩ : ∃ H, H = [Value.int .i64 u.k, .int .i64 u.c, .int .i64 u.l] ++ kcs u.s := ⟨_, rfl⟩
  have hHl : H.length = 99 := by rw [hH, List.length_append, kcs_length, u.hs]; rfl
  have hbl : (bv u.b).length = 64 := by rw [bv_length, u.hb]
  rw [← hH, show 99 + a + l.length = 99 + (a + l.length) by omega, ← hHl, List.take_length_add_append, List.drop_length_add_append,
    List.take_append_of_le_length (by omega), List.drop_append_of_le_length (by omega)]
  simp [lay, bv]
end Go.Proofs.YtjolojomgfcfbaaDoor
namespace Go.Proofs.YtjolojomgfcfbaaDoor
open Go.RowKit
/-- where a page's bytes lie from a place on (at the end: where they begin) -/
abbrev cutP (g off a : Nat) : Addr := if 64 = a then ⟨g, off, none⟩ else ⟨g, off + a, none⟩
set_option maxRecDepth 8000 in
theorem und47 : Tryd.prog.underlying 31 = some (.array (Tryd.prog.arrayLen 31) (Tryd.prog.elem 31)) := by kernel_rfl
set_option maxRecDepth 8000 in
theorem alen47 : Tryd.prog.arrayLen 31 = 64 := by kernel_rfl
theorem run_size5 (W : World) : (sizeOf (Tryd.prog.elem 31)).run Tryd.prog W = .ok 1 W := run_sizeOf (by kernel_rfl) W
set_option maxRecDepth 8000 in
theorem run_cut_lo (g off a : Nat) (h : a ≤ 64) (W : World) : (Instr.sliceAt 31 (.pointer (some ⟨g, off, none⟩)) (some (.int .i64 (a : Int))) none none).run Tryd.prog W = .ok (.slice (some (cutP g off a)) (64 - a) (64 - a)) W := by
  rw [run_sliceAt_array_l W 31 ⟨g, off, none⟩ und47 .i64 (a : Int) (by omega) (by rw [alen47]; omega), run_size5]
  simp only [Result.andThen_ok, slicedAt, alen47]
  have e2 : (a : Int).toNat = a := by omega
  rw [e2]
  by_cases ha : 64 = a
  · simp [cutP, ha]
  · simp [cutP, ha, Addr.add]
set_option maxRecDepth 8000 in
theorem st_size (l : List UInt8) : (st l).size = l.length := by simp [st, ByteArray.size]
theorem st_of (s : ByteArray) : ∃ l, s = st l := ⟨s.data.toList, by simp [st]⟩
set_option maxRecDepth 8000 in
theorem size5 : (Tryd.prog.info? 5).map (·.size) = some 1 := by kernel_rfl
section
variable {w : World} {g p : Nat} {n : Int} {u : Oj} {t : TypeId}
set_option maxRecDepth 8000 in
theorem run_copy_pg (ty : TypeId) (a : Nat) (l : List UInt8) (h : a + l.length ≤ 64) (hl : (lay u.b a l).length = 64) (hg : Blk w g t (pgc p n u).toArray) :
    (Builtin.copy_ #[77, 9] ty #[.slice (some (cutP g 99 a)) (64 - a) (64 - a), .string (st l)]).run Tryd.prog w = .ok (.int .i64 (l.length : Int)) (w.setRow g (pgc p n (bAs u (lay u.b a l) hl)).toArray) := by
  have hmin : Nat.min l.length (64 - a) = l.length := Nat.min_eq_left (by omega)
  have key : ∀ o, o + l.length ≤ 165 → (storeCells ⟨g, o, none⟩ (bv l)).run Tryd.prog w = .ok () (w.setRow g ((pgc p n u).take o ++ bv l ++ (pgc p n u).drop (o + l.length)).toArray) := fun o ho => by
    have := run_storeCells_at Tryd.prog g o t (bv l) 0 (pgc p n u).toArray w hg (by rw [bv_length, List.size_toArray, pgc_len]; omega) (bv_one l)
    simpa [bv_length] using this
  have hst : (storeCells (cutP g 99 a) (bv l)).run Tryd.prog w = .ok () (w.setRow g (pgc p n (bAs u (lay u.b a l) hl)).toArray) := by
    rw [← pgc_bytes p n u a l h hl]
    by_cases ha : 64 = a
    · have hnil : l = [] := List.eq_nil_of_length_eq_zero (by omega)
      subst hnil
      rw [show cutP g 99 a = ⟨g, 99, none⟩ by simp [cutP, ha], key 99 (by simp)]
      simp [bv]
    · rw [show cutP g 99 a = ⟨g, 99 + a, none⟩ by simp [cutP, ha], key (99 + a) (by omega)]
  obtain ⟨i, hi⟩ : ∃ i, Tryd.prog.info? 5 = some i := by
    have := size5
    cases hq : Tryd.prog.info? 5 with
    | none => simp [hq] at this
    | some i => exact ⟨i, rfl⟩
  have hs1 : i.size = 1 := by have := size5; simpa [hi] using this
  have hcells : List.take l.length (List.map (fun b => Value.int .u8 (b.toNat : Int)) (st l).data.toList) = bv l := by
    rw [List.take_of_length_le (by simp [st])]
    simp [st, bv]
  have hmin2 : min (st l).size (64 - a) = l.length := by rw [st_size]; exact hmin
  simp [Builtin.copy_, Builtin.lenOf, Builtin.firstCells, sizeOf, typeInfo, hi, run_underlying Tryd.underlying77, hmin2, hcells, hst, goInt]
end
end Go.Proofs.YtjolojomgfcfbaaDoor
namespace Go.Proofs.YtjolojomgfcfbaaDoor
open Go.RowKit
/-- so many bytes at a place lie in a page -/
def inB (a n : Int) : Prop := 0 ≤ a ∧ 0 ≤ n ∧ n ≤ 64 - a
instance (a n : Int) : Decidable (inB a n) := by unfold inB; infer_instance
set_option maxRecDepth 8000 in
set_option maxHeartbeats 1000000 in
theorem lies_any (a n : Int) (ha : a ≤ 9223372036854775807) {b : Bool} (hb : decide (inB a n) = b) (w : World) :
    Calls Tryd.prog 40 #[.agg (spn a n)] w fun e w' => e = .returned (.bool b) ∧ Below w.heap.size w w' := by
  subst hb
  have HB0 := Lib.hid ((Below.refl w.heap.size w).alloc (Nat.le_refl _) (.cells (spn a n) 75))
  by_cases h0 : 0 ≤ a
  · by_cases h1 : 0 ≤ n
    · have e0 : decide (0 ≤ a) = true := decide_eq_true h0
      have e1 : decide (0 ≤ n) = true := decide_eq_true h1
      have e2 : -9223372036854775808 ≤ 64 - a := by omega
      have e3 : 64 - a ≤ 9223372036854775807 := by omega
      have e4 : decide (inB a n) = decide (n ≤ 64 - a) := decide_eq_decide.2 ⟨fun h => h.2.2, fun h => ⟨h0, h1, h⟩⟩
      rw [e4]
      obtain ⟨m, hm⟩ : ∃ m : Int, m = 64 - a := ⟨_, rfl⟩
      rw [← hm] at e2 e3 ⊢
      have e5 : 64 - a = m := hm.symm
      clear h0 h1 e4 ha hm
      go_enter Tryd.func40, Tryd.ntmps40
      go_wp2_with fail
      go_ret
      exact ⟨rfl, HB0.out⟩
    · have e0 : decide (0 ≤ a) = true := decide_eq_true h0
      have e1 : decide (0 ≤ n) = false := decide_eq_false h1
      have e4 : decide (inB a n) = false := decide_eq_false fun h => h1 h.2.1
      rw [e4]
      clear h0 h1 e4 ha
      go_enter Tryd.func40, Tryd.ntmps40
      go_wp2_with fail
      go_ret
      exact ⟨rfl, HB0.out⟩
  · have e0 : decide (0 ≤ a) = false := decide_eq_false h0
    have e4 : decide (inB a n) = false := decide_eq_false fun h => h0 h.1
    rw [e4]
    clear h0 e4 ha
    go_enter Tryd.func40, Tryd.ntmps40
    go_wp2_with fail
    go_ret
    exact ⟨rfl, HB0.out⟩
section
variable {w : World} {P : Value} {u : Oj}
set_option maxRecDepth 100000 in
set_option maxHeartbeats 2000000 in
theorem ask_unG (x : Ky) (ch : Bool) (a n : Int) (m : Int) (hm : m ≠ 0) 
    (hnm : ∀ W, Below w.heap.size w W → Calls Tryd.prog 39 #[P, x.val] W fun e w' => e = .returned (.tuple #[u.val, .bool false]) ∧ Below W.heap.size W w')
    (hsz : ∀ W, Below w.heap.size w W → Calls Tryd.prog 35 #[P] W fun e w' => e = .returned (.int .i64 m) ∧ W = w') :
    Calls Tryd.prog 27 #[P, x.val, .bool ch, .agg (spn a n)] w fun e w' => e = .returned (.tuple #[.agg zpgc.toArray, .int .i64 190]) ∧ Below w.heap.size w w' := by
  have HNM := Lib.hid hnm
  have HSZ := Lib.hid hsz
  clear hnm hsz
  have dm : (m == 0) = false := by simpa using hm
  clear hm
  have hz := z34
  have hz2 := z72
  have hbl := oz_len
  have hbl2 := zpgc_len
  have HB0 := Lib.hid ((((Below.refl w.heap.size w).alloc (Nat.le_refl _) (.cells (kc x.k x.o x.c x.l x.r x.v) 29)).alloc (by simp) (.cells (spn a n) 75)).alloc (by simp; omega) (.cells zpgc.toArray 71))
  have HK0 := Lib.hid (((Blk.new w 29 (kc x.k x.o x.c x.l x.r x.v)).alloc (.cells (spn a n) 75)).alloc (.cells zpgc.toArray 71))
  have HP0 := Lib.hid ((Blk.new_of (w.alloc (.cells (kc x.k x.o x.c x.l x.r x.v) 29)) 75 (spn a n) (g := w.heap.size + 1) (by simp)).alloc (.cells zpgc.toArray 71))
  have HA0 := Lib.hid (Blk.new_of ((w.alloc (.cells (kc x.k x.o x.c x.l x.r x.v) 29)).alloc (.cells (spn a n) 75)) 71 zpgc.toArray (g := w.heap.size + 1 + 1) (by simp))
  go_enter Tryd.func27, Tryd.ntmps27
  go_wp2_with fail
  refine wp_scope_once 0 (by rfl) ?_
  go_wp2_with (first
    | (show wpList _ _ _ ({ dst := none, op := .store _ (.tmp 10) (.tmp 17), type := _, pos := _, after := _, guard := _ } :: _) _ _; refine wpList_store_last rfl (.tmp 10) (.tmp 17) rfl _ rfl rfl u oz rfl ?_)
    | (go_at_call 39; refine (HNM.out _ HB0.out).mono ?_; rintro e w2 ⟨rfl, b2⟩; have HB2 := Lib.hid ((HB0.out.trans (b2.mono HB0.out.size)).alloc (Nat.le_trans HB0.out.size b2.size) (.cells u.cells.toArray 33)); have HK2 := Lib.hid ((HK0.out.keep b2).alloc (.cells u.cells.toArray 33)); have HP2 := Lib.hid ((HP0.out.keep b2).alloc (.cells u.cells.toArray 33)); have HA2 := Lib.hid ((HA0.out.keep b2).alloc (.cells u.cells.toArray 33)); have HG2 := Lib.hid (Blk.new w2 33 u.cells.toArray); obtain ⟨c0, c1, c2, c3, c4, c5⟩ := HK2.out.six; have s0 := HP2.out.cell 0; have s1 := HP2.out.cell 1; clear b2)
    | (go_at_call 35; refine (HSZ.out _ HB2.out).mono ?_; rintro e w1 ⟨rfl, rfl⟩))
  go_step3
  refine ⟨rfl, ?_⟩
  go_wp2_with (first
    | (show wpList _ _ _ ({ dst := some 44, op := .build _ _, type := _, pos := _, after := _, guard := _ } :: _) _ _; refine wpList_yields (S := fun _ => True) (y_build (by rfl) (by rfl) built72z) trivial ?_)
    | (show wpList _ _ _ ({ dst := none, op := .store _ (.tmp 8) (.tmp 44), type := _, pos := _, after := _, guard := _ } :: _) _ _; refine wpList_store_big HA2.out rfl (.tmp 8) (.tmp 44) (ty := 71) (l := zpgc) rfl (by rfl) (by rfl) (by rw [zpgc_len]; exact size72) rfl zpgc_one ?_))
  simp only [Exit.jump]
  exact bodyPost_ret (res_1t rfl _ _ (w.heap.size + 1 + 1) _ _ rfl rfl (load_zpg (HA2.out.setRow _))) rfl ⟨rfl, below_setRow HB2.out (by omega) _⟩
set_option maxRecDepth 100000 in
set_option maxHeartbeats 2000000 in
theorem ask_kindG (x : Ky) (ch : Bool) (a n : Int) (m : Int) (hm : m ≠ 0) (hk : x.k ≠ 3)
    (hnm : ∀ W, Below w.heap.size w W → Calls Tryd.prog 39 #[P, x.val] W fun e w' => e = .returned (.tuple #[u.val, .bool true]) ∧ Below W.heap.size W w')
    (hsz : ∀ W, Below w.heap.size w W → Calls Tryd.prog 35 #[P] W fun e w' => e = .returned (.int .i64 m) ∧ W = w') :
    Calls Tryd.prog 27 #[P, x.val, .bool ch, .agg (spn a n)] w fun e w' => e = .returned (.tuple #[.agg zpgc.toArray, .int .i64 190]) ∧ Below w.heap.size w w' := by
  have HNM := Lib.hid hnm
  have HSZ := Lib.hid hsz
  clear hnm hsz
  have dm : (m == 0) = false := by simpa using hm
  clear hm
  have dk : (x.k != 3) = true := by simpa using hk
  clear hk
  have hz := z34
  have hz2 := z72
  have hbl := oz_len
  have hbl2 := zpgc_len
  have HB0 := Lib.hid ((((Below.refl w.heap.size w).alloc (Nat.le_refl _) (.cells (kc x.k x.o x.c x.l x.r x.v) 29)).alloc (by simp) (.cells (spn a n) 75)).alloc (by simp; omega) (.cells zpgc.toArray 71))
  have HK0 := Lib.hid (((Blk.new w 29 (kc x.k x.o x.c x.l x.r x.v)).alloc (.cells (spn a n) 75)).alloc (.cells zpgc.toArray 71))
  have HP0 := Lib.hid ((Blk.new_of (w.alloc (.cells (kc x.k x.o x.c x.l x.r x.v) 29)) 75 (spn a n) (g := w.heap.size + 1) (by simp)).alloc (.cells zpgc.toArray 71))
  have HA0 := Lib.hid (Blk.new_of ((w.alloc (.cells (kc x.k x.o x.c x.l x.r x.v) 29)).alloc (.cells (spn a n) 75)) 71 zpgc.toArray (g := w.heap.size + 1 + 1) (by simp))
  go_enter Tryd.func27, Tryd.ntmps27
  go_wp2_with fail
  refine wp_scope_once 0 (by rfl) ?_
  go_wp2_with (first
    | (show wpList _ _ _ ({ dst := none, op := .store _ (.tmp 10) (.tmp 17), type := _, pos := _, after := _, guard := _ } :: _) _ _; refine wpList_store_last rfl (.tmp 10) (.tmp 17) rfl _ rfl rfl u oz rfl ?_)
    | (go_at_call 39; refine (HNM.out _ HB0.out).mono ?_; rintro e w2 ⟨rfl, b2⟩; have HB2 := Lib.hid ((HB0.out.trans (b2.mono HB0.out.size)).alloc (Nat.le_trans HB0.out.size b2.size) (.cells u.cells.toArray 33)); have HK2 := Lib.hid ((HK0.out.keep b2).alloc (.cells u.cells.toArray 33)); have HP2 := Lib.hid ((HP0.out.keep b2).alloc (.cells u.cells.toArray 33)); have HA2 := Lib.hid ((HA0.out.keep b2).alloc (.cells u.cells.toArray 33)); have HG2 := Lib.hid (Blk.new w2 33 u.cells.toArray); obtain ⟨c0, c1, c2, c3, c4, c5⟩ := HK2.out.six; have s0 := HP2.out.cell 0; have s1 := HP2.out.cell 1; clear b2)
    | (go_at_call 35; refine (HSZ.out _ HB2.out).mono ?_; rintro e w1 ⟨rfl, rfl⟩))
  go_step3
  refine ⟨rfl, ?_⟩
  go_wp2_with (first
    | (show wpList _ _ _ ({ dst := some 44, op := .build _ _, type := _, pos := _, after := _, guard := _ } :: _) _ _; refine wpList_yields (S := fun _ => True) (y_build (by rfl) (by rfl) built72z) trivial ?_)
    | (show wpList _ _ _ ({ dst := none, op := .store _ (.tmp 8) (.tmp 44), type := _, pos := _, after := _, guard := _ } :: _) _ _; refine wpList_store_big HA2.out rfl (.tmp 8) (.tmp 44) (ty := 71) (l := zpgc) rfl (by rfl) (by rfl) (by rw [zpgc_len]; exact size72) rfl zpgc_one ?_))
  simp only [Exit.jump]
  exact bodyPost_ret (res_1t rfl _ _ (w.heap.size + 1 + 1) _ _ rfl rfl (load_zpg (HA2.out.setRow _))) rfl ⟨rfl, below_setRow HB2.out (by omega) _⟩
set_option maxRecDepth 100000 in
set_option maxHeartbeats 2000000 in
theorem ask_right (x : Ky) (ch : Bool) (a n : Int) (m : Int) (hm : m ≠ 0) (hk : x.k = 3) (hc : ch = true) (hr : x.r = 1)
    (hnm : ∀ W, Below w.heap.size w W → Calls Tryd.prog 39 #[P, x.val] W fun e w' => e = .returned (.tuple #[u.val, .bool true]) ∧ Below W.heap.size W w')
    (hsz : ∀ W, Below w.heap.size w W → Calls Tryd.prog 35 #[P] W fun e w' => e = .returned (.int .i64 m) ∧ W = w') :
    Calls Tryd.prog 27 #[P, x.val, .bool ch, .agg (spn a n)] w fun e w' => e = .returned (.tuple #[.agg zpgc.toArray, .int .i64 191]) ∧ Below w.heap.size w w' := by
  have HNM := Lib.hid hnm
  have HSZ := Lib.hid hsz
  clear hnm hsz
  have dm : (m == 0) = false := by simpa using hm
  clear hm
  have dk : (x.k != 3) = false := by simpa using hk
  clear hk
  subst hc
  have HRR := Lib.hid hr
  have dr : (bits .and .i64 x.r 1 != 0) = true := by rw [HRR.out]; rfl
  clear hr
  have hz := z34
  have hz2 := z72
  have hbl := oz_len
  have hbl2 := zpgc_len
  have HB0 := Lib.hid ((((Below.refl w.heap.size w).alloc (Nat.le_refl _) (.cells (kc x.k x.o x.c x.l x.r x.v) 29)).alloc (by simp) (.cells (spn a n) 75)).alloc (by simp; omega) (.cells zpgc.toArray 71))
  have HK0 := Lib.hid (((Blk.new w 29 (kc x.k x.o x.c x.l x.r x.v)).alloc (.cells (spn a n) 75)).alloc (.cells zpgc.toArray 71))
  have HP0 := Lib.hid ((Blk.new_of (w.alloc (.cells (kc x.k x.o x.c x.l x.r x.v) 29)) 75 (spn a n) (g := w.heap.size + 1) (by simp)).alloc (.cells zpgc.toArray 71))
  have HA0 := Lib.hid (Blk.new_of ((w.alloc (.cells (kc x.k x.o x.c x.l x.r x.v) 29)).alloc (.cells (spn a n) 75)) 71 zpgc.toArray (g := w.heap.size + 1 + 1) (by simp))
  go_enter Tryd.func27, Tryd.ntmps27
  go_wp2_with fail
  refine wp_scope_once 0 (by rfl) ?_
  go_wp2_with (first
    | (show wpList _ _ _ ({ dst := none, op := .store _ (.tmp 10) (.tmp 17), type := _, pos := _, after := _, guard := _ } :: _) _ _; refine wpList_store_last rfl (.tmp 10) (.tmp 17) rfl _ rfl rfl u oz rfl ?_)
    | (go_at_call 39; refine (HNM.out _ HB0.out).mono ?_; rintro e w2 ⟨rfl, b2⟩; have HB2 := Lib.hid ((HB0.out.trans (b2.mono HB0.out.size)).alloc (Nat.le_trans HB0.out.size b2.size) (.cells u.cells.toArray 33)); have HK2 := Lib.hid ((HK0.out.keep b2).alloc (.cells u.cells.toArray 33)); have HP2 := Lib.hid ((HP0.out.keep b2).alloc (.cells u.cells.toArray 33)); have HA2 := Lib.hid ((HA0.out.keep b2).alloc (.cells u.cells.toArray 33)); have HG2 := Lib.hid (Blk.new w2 33 u.cells.toArray); obtain ⟨c0, c1, c2, c3, c4, c5⟩ := HK2.out.six; have s0 := HP2.out.cell 0; have s1 := HP2.out.cell 1; clear b2)
    | (go_at_call 35; refine (HSZ.out _ HB2.out).mono ?_; rintro e w1 ⟨rfl, rfl⟩))
  go_step3
  refine ⟨rfl, ?_⟩
  go_wp2_with (first
    | (show wpList _ _ _ ({ dst := some 44, op := .build _ _, type := _, pos := _, after := _, guard := _ } :: _) _ _; refine wpList_yields (S := fun _ => True) (y_build (by rfl) (by rfl) built72z) trivial ?_)
    | (show wpList _ _ _ ({ dst := none, op := .store _ (.tmp 8) (.tmp 44), type := _, pos := _, after := _, guard := _ } :: _) _ _; refine wpList_store_big HA2.out rfl (.tmp 8) (.tmp 44) (ty := 71) (l := zpgc) rfl (by rfl) (by rfl) (by rw [zpgc_len]; exact size72) rfl zpgc_one ?_))
  simp only [Exit.jump]
  exact bodyPost_ret (res_1t rfl _ _ (w.heap.size + 1 + 1) _ _ rfl rfl (load_zpg (HA2.out.setRow _))) rfl ⟨rfl, below_setRow HB2.out (by omega) _⟩
set_option maxRecDepth 100000 in
set_option maxHeartbeats 2000000 in
theorem ask_range_t (x : Ky) (ch : Bool) (a n : Int) (m : Int) (hm : m ≠ 0) (hk : x.k = 3) (hc : ch = true) (hr : x.r = 0) (ha : a ≤ 9223372036854775807) (hi : ¬ inB a n)
    (hnm : ∀ W, Below w.heap.size w W → Calls Tryd.prog 39 #[P, x.val] W fun e w' => e = .returned (.tuple #[u.val, .bool true]) ∧ Below W.heap.size W w')
    (hsz : ∀ W, Below w.heap.size w W → Calls Tryd.prog 35 #[P] W fun e w' => e = .returned (.int .i64 m) ∧ W = w') :
    Calls Tryd.prog 27 #[P, x.val, .bool ch, .agg (spn a n)] w fun e w' => e = .returned (.tuple #[.agg zpgc.toArray, .int .i64 4]) ∧ Below w.heap.size w w' := by
  have HNM := Lib.hid hnm
  have HSZ := Lib.hid hsz
  clear hnm hsz
  have dm : (m == 0) = false := by simpa using hm
  clear hm
  have dk : (x.k != 3) = false := by simpa using hk
  clear hk
  subst hc
  have HRR := Lib.hid hr
  have dr : (bits .and .i64 x.r 1 != 0) = false := by rw [HRR.out]; rfl
  clear hr
  have HAN := Lib.hid ha
  have HLI := Lib.hid (show decide (inB a n) = false by simpa using hi)
  clear ha hi
  have hz := z34
  have hz2 := z72
  have hbl := oz_len
  have hbl2 := zpgc_len
  have HB0 := Lib.hid ((((Below.refl w.heap.size w).alloc (Nat.le_refl _) (.cells (kc x.k x.o x.c x.l x.r x.v) 29)).alloc (by simp) (.cells (spn a n) 75)).alloc (by simp; omega) (.cells zpgc.toArray 71))
  have HK0 := Lib.hid (((Blk.new w 29 (kc x.k x.o x.c x.l x.r x.v)).alloc (.cells (spn a n) 75)).alloc (.cells zpgc.toArray 71))
  have HP0 := Lib.hid ((Blk.new_of (w.alloc (.cells (kc x.k x.o x.c x.l x.r x.v) 29)) 75 (spn a n) (g := w.heap.size + 1) (by simp)).alloc (.cells zpgc.toArray 71))
  have HA0 := Lib.hid (Blk.new_of ((w.alloc (.cells (kc x.k x.o x.c x.l x.r x.v) 29)).alloc (.cells (spn a n) 75)) 71 zpgc.toArray (g := w.heap.size + 1 + 1) (by simp))
  go_enter Tryd.func27, Tryd.ntmps27
  go_wp2_with fail
  refine wp_scope_once 0 (by rfl) ?_
  go_wp2_with (first
    | (show wpList _ _ _ ({ dst := none, op := .store _ (.tmp 10) (.tmp 17), type := _, pos := _, after := _, guard := _ } :: _) _ _; refine wpList_store_last rfl (.tmp 10) (.tmp 17) rfl _ rfl rfl u oz rfl ?_)
    | (go_at_call 39; refine (HNM.out _ HB0.out).mono ?_; rintro e w2 ⟨rfl, b2⟩; have HB2 := Lib.hid ((HB0.out.trans (b2.mono HB0.out.size)).alloc (Nat.le_trans HB0.out.size b2.size) (.cells u.cells.toArray 33)); have HK2 := Lib.hid ((HK0.out.keep b2).alloc (.cells u.cells.toArray 33)); have HP2 := Lib.hid ((HP0.out.keep b2).alloc (.cells u.cells.toArray 33)); have HA2 := Lib.hid ((HA0.out.keep b2).alloc (.cells u.cells.toArray 33)); have HG2 := Lib.hid (Blk.new w2 33 u.cells.toArray); obtain ⟨c0, c1, c2, c3, c4, c5⟩ := HK2.out.six; have s0 := HP2.out.cell 0; have s1 := HP2.out.cell 1; clear b2)
    | (go_at_call 35; refine (HSZ.out _ HB2.out).mono ?_; rintro e w1 ⟨rfl, rfl⟩)
    | (go_at_call 40; refine (lies_any a n HAN.out HLI.out _).mono ?_; rintro e w3 ⟨rfl, b3⟩; have HB3 := Lib.hid (HB2.out.trans (b3.mono HB2.out.size)); have HA3 := Lib.hid (HA2.out.keep b3); have HG3 := Lib.hid (HG2.out.keep b3); have HK3 := Lib.hid (HK2.out.keep b3); clear b3 c0 c1 c2 c3 c4 c5 s0 s1; obtain ⟨c0, c1, c2, c3, c4, c5⟩ := HK3.out.six))
  go_step3
  refine ⟨rfl, ?_⟩
  go_wp2_with (first
    | (show wpList _ _ _ ({ dst := some 44, op := .build _ _, type := _, pos := _, after := _, guard := _ } :: _) _ _; refine wpList_yields (S := fun _ => True) (y_build (by rfl) (by rfl) built72z) trivial ?_)
    | (show wpList _ _ _ ({ dst := none, op := .store _ (.tmp 8) (.tmp 44), type := _, pos := _, after := _, guard := _ } :: _) _ _; refine wpList_store_big HA3.out rfl (.tmp 8) (.tmp 44) (ty := 71) (l := zpgc) rfl (by rfl) (by rfl) (by rw [zpgc_len]; exact size72) rfl zpgc_one ?_))
  simp only [Exit.jump]
  exact bodyPost_ret (res_1t rfl _ _ (w.heap.size + 1 + 1) _ _ rfl rfl (load_zpg (HA3.out.setRow _))) rfl ⟨rfl, below_setRow HB3.out (by omega) _⟩
set_option maxRecDepth 100000 in
set_option maxHeartbeats 2000000 in
theorem ask_range_f (x : Ky) (ch : Bool) (a n : Int) (m : Int) (hm : m ≠ 0) (hk : x.k = 3) (hc : ch = false) (ha : a ≤ 9223372036854775807) (hi : ¬ inB a n)
    (hnm : ∀ W, Below w.heap.size w W → Calls Tryd.prog 39 #[P, x.val] W fun e w' => e = .returned (.tuple #[u.val, .bool true]) ∧ Below W.heap.size W w')
    (hsz : ∀ W, Below w.heap.size w W → Calls Tryd.prog 35 #[P] W fun e w' => e = .returned (.int .i64 m) ∧ W = w') :
    Calls Tryd.prog 27 #[P, x.val, .bool ch, .agg (spn a n)] w fun e w' => e = .returned (.tuple #[.agg zpgc.toArray, .int .i64 4]) ∧ Below w.heap.size w w' := by
  have HNM := Lib.hid hnm
  have HSZ := Lib.hid hsz
  clear hnm hsz
  have dm : (m == 0) = false := by simpa using hm
  clear hm
  have dk : (x.k != 3) = false := by simpa using hk
  clear hk
  subst hc
  have HAN := Lib.hid ha
  have HLI := Lib.hid (show decide (inB a n) = false by simpa using hi)
  clear ha hi
  have hz := z34
  have hz2 := z72
  have hbl := oz_len
  have hbl2 := zpgc_len
  have HB0 := Lib.hid ((((Below.refl w.heap.size w).alloc (Nat.le_refl _) (.cells (kc x.k x.o x.c x.l x.r x.v) 29)).alloc (by simp) (.cells (spn a n) 75)).alloc (by simp; omega) (.cells zpgc.toArray 71))
  have HK0 := Lib.hid (((Blk.new w 29 (kc x.k x.o x.c x.l x.r x.v)).alloc (.cells (spn a n) 75)).alloc (.cells zpgc.toArray 71))
  have HP0 := Lib.hid ((Blk.new_of (w.alloc (.cells (kc x.k x.o x.c x.l x.r x.v) 29)) 75 (spn a n) (g := w.heap.size + 1) (by simp)).alloc (.cells zpgc.toArray 71))
  have HA0 := Lib.hid (Blk.new_of ((w.alloc (.cells (kc x.k x.o x.c x.l x.r x.v) 29)).alloc (.cells (spn a n) 75)) 71 zpgc.toArray (g := w.heap.size + 1 + 1) (by simp))
  go_enter Tryd.func27, Tryd.ntmps27
  go_wp2_with fail
  refine wp_scope_once 0 (by rfl) ?_
  go_wp2_with (first
    | (show wpList _ _ _ ({ dst := none, op := .store _ (.tmp 10) (.tmp 17), type := _, pos := _, after := _, guard := _ } :: _) _ _; refine wpList_store_last rfl (.tmp 10) (.tmp 17) rfl _ rfl rfl u oz rfl ?_)
    | (go_at_call 39; refine (HNM.out _ HB0.out).mono ?_; rintro e w2 ⟨rfl, b2⟩; have HB2 := Lib.hid ((HB0.out.trans (b2.mono HB0.out.size)).alloc (Nat.le_trans HB0.out.size b2.size) (.cells u.cells.toArray 33)); have HK2 := Lib.hid ((HK0.out.keep b2).alloc (.cells u.cells.toArray 33)); have HP2 := Lib.hid ((HP0.out.keep b2).alloc (.cells u.cells.toArray 33)); have HA2 := Lib.hid ((HA0.out.keep b2).alloc (.cells u.cells.toArray 33)); have HG2 := Lib.hid (Blk.new w2 33 u.cells.toArray); obtain ⟨c0, c1, c2, c3, c4, c5⟩ := HK2.out.six; have s0 := HP2.out.cell 0; have s1 := HP2.out.cell 1; clear b2)
    | (go_at_call 35; refine (HSZ.out _ HB2.out).mono ?_; rintro e w1 ⟨rfl, rfl⟩)
    | (go_at_call 40; refine (lies_any a n HAN.out HLI.out _).mono ?_; rintro e w3 ⟨rfl, b3⟩; have HB3 := Lib.hid (HB2.out.trans (b3.mono HB2.out.size)); have HA3 := Lib.hid (HA2.out.keep b3); have HG3 := Lib.hid (HG2.out.keep b3); have HK3 := Lib.hid (HK2.out.keep b3); clear b3 c0 c1 c2 c3 c4 c5 s0 s1; obtain ⟨c0, c1, c2, c3, c4, c5⟩ := HK3.out.six))
  go_step3
  refine ⟨rfl, ?_⟩
  go_wp2_with (first
    | (show wpList _ _ _ ({ dst := some 44, op := .build _ _, type := _, pos := _, after := _, guard := _ } :: _) _ _; refine wpList_yields (S := fun _ => True) (y_build (by rfl) (by rfl) built72z) trivial ?_)
    | (show wpList _ _ _ ({ dst := none, op := .store _ (.tmp 8) (.tmp 44), type := _, pos := _, after := _, guard := _ } :: _) _ _; refine wpList_store_big HA3.out rfl (.tmp 8) (.tmp 44) (ty := 71) (l := zpgc) rfl (by rfl) (by rfl) (by rw [zpgc_len]; exact size72) rfl zpgc_one ?_))
  simp only [Exit.jump]
  exact bodyPost_ret (res_1t rfl _ _ (w.heap.size + 1 + 1) _ _ rfl rfl (load_zpg (HA3.out.setRow _))) rfl ⟨rfl, below_setRow HB3.out (by omega) _⟩
set_option maxRecDepth 100000 in
set_option maxHeartbeats 2000000 in
theorem ask_yes_t {p : Nat} (x : Ky) (ch : Bool) (a n : Int) (m : Int) (hm : m ≠ 0) (hk : x.k = 3) (hc : ch = true) (hr : x.r = 0) (ha : a ≤ 9223372036854775807) (hi : inB a n)
    (hnm : ∀ W, Below w.heap.size w W → Calls Tryd.prog 39 #[pv p, x.val] W fun e w' => e = .returned (.tuple #[u.val, .bool true]) ∧ Below W.heap.size W w')
    (hsz : ∀ W, Below w.heap.size w W → Calls Tryd.prog 35 #[pv p] W fun e w' => e = .returned (.int .i64 m) ∧ W = w') :
    Calls Tryd.prog 27 #[pv p, x.val, .bool ch, .agg (spn a n)] w fun e w' => e = .returned (.tuple #[pgv p x.o u, .int .i64 0]) ∧ Below w.heap.size w w' := by
  have HNM := Lib.hid hnm
  have HSZ := Lib.hid hsz
  clear hnm hsz
  have dm : (m == 0) = false := by simpa using hm
  clear hm
  have dk : (x.k != 3) = false := by simpa using hk
  clear hk
  subst hc
  have HRR := Lib.hid hr
  have dr : (bits .and .i64 x.r 1 != 0) = false := by rw [HRR.out]; rfl
  clear hr
  have HAN := Lib.hid ha
  have HLI := Lib.hid (show decide (inB a n) = true by simpa using hi)
  clear ha hi
  have hz := z34
  have hz2 := z72
  have hbl := oz_len
  have hbl2 := zpgc_len
  have HB0 := Lib.hid ((((Below.refl w.heap.size w).alloc (Nat.le_refl _) (.cells (kc x.k x.o x.c x.l x.r x.v) 29)).alloc (by simp) (.cells (spn a n) 75)).alloc (by simp; omega) (.cells zpgc.toArray 71))
  have HK0 := Lib.hid (((Blk.new w 29 (kc x.k x.o x.c x.l x.r x.v)).alloc (.cells (spn a n) 75)).alloc (.cells zpgc.toArray 71))
  have HP0 := Lib.hid ((Blk.new_of (w.alloc (.cells (kc x.k x.o x.c x.l x.r x.v) 29)) 75 (spn a n) (g := w.heap.size + 1) (by simp)).alloc (.cells zpgc.toArray 71))
  have HA0 := Lib.hid (Blk.new_of ((w.alloc (.cells (kc x.k x.o x.c x.l x.r x.v) 29)).alloc (.cells (spn a n) 75)) 71 zpgc.toArray (g := w.heap.size + 1 + 1) (by simp))
  go_enter Tryd.func27, Tryd.ntmps27
  go_wp2_with fail
  refine wp_scope_once 0 (by rfl) ?_
  go_wp2_with (first
    | (show wpList _ _ _ ({ dst := none, op := .store _ (.tmp 10) (.tmp 17), type := _, pos := _, after := _, guard := _ } :: _) _ _; refine wpList_store_last rfl (.tmp 10) (.tmp 17) rfl _ rfl rfl u oz rfl ?_)
    | (go_at_call 39; refine (HNM.out _ HB0.out).mono ?_; rintro e w2 ⟨rfl, b2⟩; have HB2 := Lib.hid ((HB0.out.trans (b2.mono HB0.out.size)).alloc (Nat.le_trans HB0.out.size b2.size) (.cells u.cells.toArray 33)); have HK2 := Lib.hid ((HK0.out.keep b2).alloc (.cells u.cells.toArray 33)); have HP2 := Lib.hid ((HP0.out.keep b2).alloc (.cells u.cells.toArray 33)); have HA2 := Lib.hid ((HA0.out.keep b2).alloc (.cells u.cells.toArray 33)); have HG2 := Lib.hid (Blk.new w2 33 u.cells.toArray); obtain ⟨c0, c1, c2, c3, c4, c5⟩ := HK2.out.six; have s0 := HP2.out.cell 0; have s1 := HP2.out.cell 1; clear b2)
    | (go_at_call 35; refine (HSZ.out _ HB2.out).mono ?_; rintro e w1 ⟨rfl, rfl⟩)
    | (go_at_call 40; refine (lies_any a n HAN.out HLI.out _).mono ?_; rintro e w3 ⟨rfl, b3⟩; have HB3 := Lib.hid (HB2.out.trans (b3.mono HB2.out.size)); have HA3 := Lib.hid (HA2.out.keep b3); have HG3 := Lib.hid (HG2.out.keep b3); have HK3 := Lib.hid (HK2.out.keep b3); clear b3 c0 c1 c2 c3 c4 c5 s0 s1; obtain ⟨c0, c1, c2, c3, c4, c5⟩ := HK3.out.six)
    | (refine wpList_yields (S := fun w' => ObAt w' w2.heap.size 0 u) (y_ob (by rfl) (.tmp 10) (by rfl) w2.heap.size 0 (by rfl) u (fun _ h => h)) HG3.out.ob ?_)
    | (show wpList _ _ _ ({ dst := some 43, op := .build _ _, type := _, pos := _, after := _, guard := _ } :: _) _ _; refine wpList_yields (S := fun _ => True) (y_build72 (by rfl) (.tmp 39) (.tmp 40) (.tmp 42) (by rfl) p x.o u (by rfl) (by rfl) (by rfl)) trivial ?_)
    | (show wpList _ _ _ ({ dst := none, op := .store _ (.tmp 8) (.tmp 43), type := _, pos := _, after := _, guard := _ } :: _) _ _; refine wpList_store_big HA3.out rfl (.tmp 8) (.tmp 43) (ty := 71) (l := pgc p x.o u) rfl (by rfl) (by rfl) (by rw [pgc_len]; exact size72) (by rw [pgc_len, zpgc_len]) (pgc_one _ _ _) ?_))
  simp only [Exit.jump]
  exact bodyPost_ret (res_1t rfl _ _ (w.heap.size + 1 + 1) _ _ rfl rfl (load_pg (HA3.out.setRow _))) rfl ⟨rfl, below_setRow HB3.out (by omega) _⟩
set_option maxRecDepth 100000 in
set_option maxHeartbeats 2000000 in
theorem ask_yes_f {p : Nat} (x : Ky) (ch : Bool) (a n : Int) (m : Int) (hm : m ≠ 0) (hk : x.k = 3) (hc : ch = false) (ha : a ≤ 9223372036854775807) (hi : inB a n)
    (hnm : ∀ W, Below w.heap.size w W → Calls Tryd.prog 39 #[pv p, x.val] W fun e w' => e = .returned (.tuple #[u.val, .bool true]) ∧ Below W.heap.size W w')
    (hsz : ∀ W, Below w.heap.size w W → Calls Tryd.prog 35 #[pv p] W fun e w' => e = .returned (.int .i64 m) ∧ W = w') :
    Calls Tryd.prog 27 #[pv p, x.val, .bool ch, .agg (spn a n)] w fun e w' => e = .returned (.tuple #[pgv p x.o u, .int .i64 0]) ∧ Below w.heap.size w w' := by
  have HNM := Lib.hid hnm
  have HSZ := Lib.hid hsz
  clear hnm hsz
  have dm : (m == 0) = false := by simpa using hm
  clear hm
  have dk : (x.k != 3) = false := by simpa using hk
  clear hk
  subst hc
  have HAN := Lib.hid ha
  have HLI := Lib.hid (show decide (inB a n) = true by simpa using hi)
  clear ha hi
  have hz := z34
  have hz2 := z72
  have hbl := oz_len
  have hbl2 := zpgc_len
  have HB0 := Lib.hid ((((Below.refl w.heap.size w).alloc (Nat.le_refl _) (.cells (kc x.k x.o x.c x.l x.r x.v) 29)).alloc (by simp) (.cells (spn a n) 75)).alloc (by simp; omega) (.cells zpgc.toArray 71))
  have HK0 := Lib.hid (((Blk.new w 29 (kc x.k x.o x.c x.l x.r x.v)).alloc (.cells (spn a n) 75)).alloc (.cells zpgc.toArray 71))
  have HP0 := Lib.hid ((Blk.new_of (w.alloc (.cells (kc x.k x.o x.c x.l x.r x.v) 29)) 75 (spn a n) (g := w.heap.size + 1) (by simp)).alloc (.cells zpgc.toArray 71))
  have HA0 := Lib.hid (Blk.new_of ((w.alloc (.cells (kc x.k x.o x.c x.l x.r x.v) 29)).alloc (.cells (spn a n) 75)) 71 zpgc.toArray (g := w.heap.size + 1 + 1) (by simp))
  go_enter Tryd.func27, Tryd.ntmps27
  go_wp2_with fail
  refine wp_scope_once 0 (by rfl) ?_
  go_wp2_with (first
    | (show wpList _ _ _ ({ dst := none, op := .store _ (.tmp 10) (.tmp 17), type := _, pos := _, after := _, guard := _ } :: _) _ _; refine wpList_store_last rfl (.tmp 10) (.tmp 17) rfl _ rfl rfl u oz rfl ?_)
    | (go_at_call 39; refine (HNM.out _ HB0.out).mono ?_; rintro e w2 ⟨rfl, b2⟩; have HB2 := Lib.hid ((HB0.out.trans (b2.mono HB0.out.size)).alloc (Nat.le_trans HB0.out.size b2.size) (.cells u.cells.toArray 33)); have HK2 := Lib.hid ((HK0.out.keep b2).alloc (.cells u.cells.toArray 33)); have HP2 := Lib.hid ((HP0.out.keep b2).alloc (.cells u.cells.toArray 33)); have HA2 := Lib.hid ((HA0.out.keep b2).alloc (.cells u.cells.toArray 33)); have HG2 := Lib.hid (Blk.new w2 33 u.cells.toArray); obtain ⟨c0, c1, c2, c3, c4, c5⟩ := HK2.out.six; have s0 := HP2.out.cell 0; have s1 := HP2.out.cell 1; clear b2)
    | (go_at_call 35; refine (HSZ.out _ HB2.out).mono ?_; rintro e w1 ⟨rfl, rfl⟩)
    | (go_at_call 40; refine (lies_any a n HAN.out HLI.out _).mono ?_; rintro e w3 ⟨rfl, b3⟩; have HB3 := Lib.hid (HB2.out.trans (b3.mono HB2.out.size)); have HA3 := Lib.hid (HA2.out.keep b3); have HG3 := Lib.hid (HG2.out.keep b3); have HK3 := Lib.hid (HK2.out.keep b3); clear b3 c0 c1 c2 c3 c4 c5 s0 s1; obtain ⟨c0, c1, c2, c3, c4, c5⟩ := HK3.out.six)
    | (refine wpList_yields (S := fun w' => ObAt w' w2.heap.size 0 u) (y_ob (by rfl) (.tmp 10) (by rfl) w2.heap.size 0 (by rfl) u (fun _ h => h)) HG3.out.ob ?_)
    | (show wpList _ _ _ ({ dst := some 43, op := .build _ _, type := _, pos := _, after := _, guard := _ } :: _) _ _; refine wpList_yields (S := fun _ => True) (y_build72 (by rfl) (.tmp 39) (.tmp 40) (.tmp 42) (by rfl) p x.o u (by rfl) (by rfl) (by rfl)) trivial ?_)
    | (show wpList _ _ _ ({ dst := none, op := .store _ (.tmp 8) (.tmp 43), type := _, pos := _, after := _, guard := _ } :: _) _ _; refine wpList_store_big HA3.out rfl (.tmp 8) (.tmp 43) (ty := 71) (l := pgc p x.o u) rfl (by rfl) (by rfl) (by rw [pgc_len]; exact size72) (by rw [pgc_len, zpgc_len]) (pgc_one _ _ _) ?_))
  simp only [Exit.jump]
  exact bodyPost_ret (res_1t rfl _ _ (w.heap.size + 1 + 1) _ _ rfl rfl (load_pg (HA3.out.setRow _))) rfl ⟨rfl, below_setRow HB3.out (by omega) _⟩
end
end Go.Proofs.YtjolojomgfcfbaaDoor

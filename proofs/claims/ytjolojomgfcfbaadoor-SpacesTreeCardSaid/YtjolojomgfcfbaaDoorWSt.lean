/- spaces: how a walk stands beside its store: words. -/
import Derived.Test.YtjolojomgfcfbaaDoorWBlk
import Derived.Test.YtjolojomgfcfbaaDoorWMap
namespace Go.Proofs.YtjolojomgfcfbaaDoor
open Go.RowKit
/-- a walk lies at g, and its store at q -/
structure WkS (w : World) (g base q : Nat) (A : Option Addr) (cap : Nat) (ps : List Nat) (os : List Oj) (ad : Int) (s : Ws) (y : Ky) (a : Int) : Prop where
  st : StAt w base q A cap ps os
  n : 0 < os.length
  okl : okAll os.length os
  tab : Tab w
  far : ∀ b, stHas q A ps b → b ≠ g
  gT : 0 ≠ g
  blk : Blk w g 55 (wkc q ad s.x s.left s.high s.r y a s.kp s.d)
  r8 : s.r < 8
  l0 : s.left ≤ 9223372036854775807
  d8 : s.d ≤ 8
section
variable {w w' : World} {g base q : Nat} {A : Option Addr} {cap : Nat} {ps : List Nat} {os : List Oj} {ad : Int} {s : Ws} {y : Ky} {a : Int}
theorem WkS.below (h : WkS w g base q A cap ps os ad s y a) (hb : Below w.heap.size w w') : WkS w' g base q A cap ps os ad s y a :=
  ⟨h.st.below hb, h.n, h.okl, h.tab.below hb, h.far, h.gT, h.blk.keep hb, h.r8, h.l0, h.d8⟩
theorem WkS.drew (h : WkS w g base q A cap ps os ad s y a) : WkS w.drew g base q A cap ps os ad s y a := h.below (below_drew (Below.refl _ _))
theorem WkS.alloc (h : WkS w g base q A cap ps os ad s y a) (o : Obj) : WkS (w.alloc o) g base q A cap ps os ad s y a := h.below ((Below.refl _ _).alloc (Nat.le_refl _) _)
theorem WkS.lt (h : WkS w g base q A cap ps os ad s y a) : g < w.heap.size := h.blk.lt
theorem WkS.chg (h : WkS w g base q A cap ps os ad s y a) {s' : Ws} {y' : Ky} {a' : Int} (hf : Fr (fun k => k = g) w w') (hb : Blk w' g 55 (wkc q ad s'.x s'.left s'.high s'.r y' a' s'.kp s'.d)) (hr : s'.r < 8) (hl : s'.left ≤ 9223372036854775807) (hd : s'.d ≤ 8) : WkS w' g base q A cap ps os ad s' y' a' :=
  ⟨h.st.fr hf (fun k hk e => h.far k hk e), h.n, h.okl, h.tab.fr1 h.gT hf, h.far, h.gT, hb, hr, hl, hd⟩
theorem WkS.row0 (h0 : WkS w g base q A cap ps os ad s y a) (h : WkS w' g base q A cap ps os ad s y a) {b : Nat} (hb : w.heap.size ≤ b) (c : Array Value) : WkS (w'.setRow b c) g base q A cap ps os ad s y a :=
  ⟨h.st.fr (setRow_fr w' b c) (fun k hk e => by have := (h0.st.lt k hk).2; omega), h.n, h.okl, h.tab.fr1 (by have := h0.tab.lt; omega) (setRow_fr w' b c), h.far, h.gT, h.blk.row_far (by have := h0.lt; omega) c, h.r8, h.l0, h.d8⟩
theorem WkS.c0 (h : WkS w g base q A cap ps os ad s y a) : w.cell? ⟨g, 0, none⟩ = some (pv q) := h.blk.cell 0
theorem WkS.key (h : WkS w g base q A cap ps os ad s y a) : KeyAt w g 2 s.x := ⟨h.blk.cell 2, h.blk.cell 3, h.blk.cell 4, h.blk.cell 5, h.blk.cell 6, h.blk.cell 7⟩
theorem WkS.c10 (h : WkS w g base q A cap ps os ad s y a) : w.cell? ⟨g, 10, none⟩ = some (.int .i64 (s.r : Int)) := h.blk.cell 10
theorem WkS.c6 (h : WkS w g base q A cap ps os ad s y a) : w.cell? ⟨g, 6, none⟩ = some (.int .i64 s.x.r) := h.blk.cell 6
end
theorem below_of_drew {B : Nat} {a w : World} (h : Below B a.drew w) : Below B a w := ⟨h.os, h.tape, h.output, h.size, h.block⟩
set_option maxRecDepth 8000 in
theorem y_field0 {ops : Array Oper} {o : Oper} {a : Act} {S : World → Prop} (hw : Region.wanted o (yielded ops a.tmps) = true) (p : Operand) (ho : o.op = .field 29 p 0) (x : Ky) (hx : a.eval p = x.val) : YieldsIf Tryd.prog ops S o (.int .i64 x.k) a := .inl ⟨hw, fun w _ => by
  have h : (Instr.field 29 x.val 0).run Tryd.prog w = .ok (.int .i64 x.k) w := by kernel_rfl
  unfold execOp
  simp only [ho, hx, Sem.run_bind, Sem.run_pure, Result.andThen_ok, h]⟩
theorem fr_set (w : World) (g i : Nat) (v : Value) : Fr (fun k => k = g) w (w.setCell ⟨g, i, none⟩ v) := Fr.setCell (S := fun k => k = g) (Fr.refl _ w) (p := ⟨g, i, none⟩) (fun _ => rfl) v
theorem fr_row (w : World) (g : Nat) (c : Array Value) : Fr (fun k => k = g) w (w.setRow g c) := setRow_fr w g c
theorem run_succ (os : List Oj) (n : Nat) (s : Ws) : runW os (n + 1) s = match stepW os s with | .inl o => o | .inr t => runW os n t := rfl
set_option maxRecDepth 8000 in
theorem run_inl {os : List Oj} {s : Ws} {o : Wo} (hd : s.d ≤ 8) (h : stepW os s = .inl o) : runW os (9 - s.d) s = o := by
  obtain ⟨k, hk⟩ : ∃ k, 9 - s.d = k + 1 := ⟨8 - s.d, by omega⟩
  rw [hk, run_succ, h]
set_option maxRecDepth 8000 in
theorem run_inr {os : List Oj} {s t : Ws} (hd : s.d ≤ 8) (h : stepW os s = .inr t) (ht : t.d = s.d + 1) : runW os (9 - s.d) s = runW os (9 - t.d) t := by
  obtain ⟨k, hk⟩ : ∃ k, 9 - s.d = k + 1 := ⟨8 - s.d, by omega⟩
  rw [hk, run_succ, h, ht, show 9 - (s.d + 1) = k by omega]
-- laws of a region that draws
section
variable {ops : Array Oper} {o : Oper} {a : Act} {S : World → Prop}
theorem y_cell (hw : Region.wanted o (yielded ops a.tmps) = true) (t : TypeId) (x : Operand) (ho : o.op = .load t x) (b off : Nat) (hx : a.eval x = .pointer (some ⟨b, off, none⟩)) (v : Value) (hl : ∀ w : World, w.cell? ⟨b, off, none⟩ = some v → (loadVar t ⟨b, off, none⟩).run Tryd.prog w = .ok v w) (hS : ∀ w, S w → w.cell? ⟨b, off, none⟩ = some v) : YieldsIf Tryd.prog ops S o v a := .inl ⟨hw, fun w h => by
  unfold execOp
  simp only [ho, hx, Instr.loadAt, Instr.sureAddr, Sem.run_bind, Sem.run_pure, Result.andThen_ok, hl w (hS w h)]⟩
theorem y_slook (hw : Region.wanted o (yielded ops a.tmps) = true) (m k : Operand) (ho : o.op = .lookup 85 m k true) (b : Nat) (n : Int) (r : Option (Nat × Value)) (hm : a.eval m = .map (some b)) (hk : a.eval k = .int .i64 n) (hfind : Instr.findNow (.int .i64) (.int .i64 n) sE2.toList 0 = some r) (hS : ∀ w, S w → w.heap[b]? = some (.map sE2 2)) : YieldsIf Tryd.prog ops S o (.tuple #[(r.map (·.2)).getD .nilFunc, .bool r.isSome]) a := .inl ⟨hw, fun w h => by
  have := slook w b n r (hS w h) hfind
  unfold execOp
  simp only [ho, hm, hk, Sem.run_bind, Sem.run_pure, Result.andThen_ok, this]⟩
end
set_option maxRecDepth 8000 in
theorem ld_ptr (b off q : Nat) (w : World) (h : w.cell? ⟨b, off, none⟩ = some (pv q)) : (loadVar 35 ⟨b, off, none⟩).run Tryd.prog w = .ok (pv q) w := by simp [go_sem, h]
set_option maxRecDepth 8000 in
theorem ld_int (b off : Nat) (n : Int) (w : World) (h : w.cell? ⟨b, off, none⟩ = some (.int .i64 n)) : (loadVar 2 ⟨b, off, none⟩).run Tryd.prog w = .ok (.int .i64 n) w := by simp [go_sem, h]
set_option maxRecDepth 8000 in
theorem ld_in (b off : Nat) (n : Int) (w : World) (h : w.cell? ⟨b, off, none⟩ = some (.int .i64 n)) : (loadVar 3 ⟨b, off, none⟩).run Tryd.prog w = .ok (.int .i64 n) w := by simp [go_sem, h]
set_option maxRecDepth 8000 in
theorem ld_rt (b off : Nat) (n : Int) (w : World) (h : w.cell? ⟨b, off, none⟩ = some (.int .i64 n)) : (loadVar 22 ⟨b, off, none⟩).run Tryd.prog w = .ok (.int .i64 n) w := by simp [go_sem, h]
section
variable {P : Program} {ops : Array Oper} {o : Oper} {a : Act} {w : World} {K : Act → World → Prop} {Q : Exit → Act → World → Prop} {E : Prop}
set_option maxRecDepth 8000 in
/-- a part of a block is stored, in a region that draws -/
theorem step_store_in {t ty : TypeId} {l0 l l1 : List Value} {b off : Nat} (hb : Blk w b t l0.toArray) (hgd : o.guard = none) (x y : Operand) (ho : o.op = .store ty x y) (hx : a.eval x = .pointer (some ⟨b, off, none⟩)) (hy : a.eval y = .agg l.toArray) (hs : (P.info? ty).map (·.size) = some l.length) (hfit : off + l.length ≤ l0.length) (h1 : ∀ u ∈ l, u.oneCell' = true) (he : l0.take off ++ l ++ l0.drop (off + l.length) = l1)
    (h : K (a.put o.dst undef) (w.setRow b l1.toArray)) : if Region.wanted o (yielded ops a.tmps) = true then Oper.wp P o a w K Q else E := by
  rw [if_pos (by simp [Region.wanted, hgd])]
  refine wp_store_part ty x y ho hb hx hy hfit hs h1 ?_
  rw [he]
  exact h
theorem key_range {w : World} {b off : Nat} {k : Ky} (h : KeyAt w b off k) : w.rangeAt b off (kl k) := fun j v hj => by
  obtain ⟨h0, h1, h2, h3, h4, h5⟩ := h
  match j, hj with
  | 0, hj => rw [← Option.some.inj hj]; exact h0
  | 1, hj => rw [← Option.some.inj hj]; exact h1
  | 2, hj => rw [← Option.some.inj hj]; exact h2
  | 3, hj => rw [← Option.some.inj hj]; exact h3
  | 4, hj => rw [← Option.some.inj hj]; exact h4
  | 5, hj => rw [← Option.some.inj hj]; exact h5
set_option maxRecDepth 8000 in
theorem step_load_ky {b off : Nat} (hgd : o.guard = none) (x : Operand) (ho : o.op = .load 29 x) (hx : a.eval x = .pointer (some ⟨b, off, none⟩)) (k : Ky) (hk : KeyAt w b off k) (h : K (a.put o.dst k.val) w) : if Region.wanted o (yielded ops a.tmps) = true then Oper.wp Tryd.prog o a w K Q else E := by
  rw [if_pos (by simp [Region.wanted, hgd])]
  exact wp_load_mid _ x ho b off hx (kl k) _ (key_range hk) Tryd.underlying29 rfl size30 h
set_option maxRecDepth 8000 in
theorem step_alloc57 (hgd : o.guard = none) (ho : o.op = .alloc 33)
    (h : ∀ g w', g = w.heap.size → w' = w.alloc (.cells oz.cells.toArray 33) → K (a.put o.dst (.pointer (some ⟨g, 0, none⟩))) w') :
    if Region.wanted o (yielded ops a.tmps) = true then Oper.wp Tryd.prog o a w K Q else E := by
  have hw : Region.wanted o (yielded ops a.tmps) = true := by simp [Region.wanted, hgd]
  have hz := z34
  rw [if_pos hw]
  unfold Oper.wp
  simp [execOp, ho, Instr.alloc, hz, Result.andThen]
  exact h _ _ rfl rfl
end
set_option maxRecDepth 8000 in
theorem slot_key {w : World} {g : Nat} {u : Oj} (h : Blk w g 33 u.cells.toArray) {i : Nat} (hi : i < 16) : KeyAt w g (3 + i * 6) (sl u i) := by
  have h1 := key_of_range h.ob.slots i (by rw [u.hs]; exact hi)
  have e : sl u i = u.s[i]'(by rw [u.hs]; exact hi) := by
    unfold sl
    rw [List.getElem?_eq_getElem (by rw [u.hs]; exact hi)]
    rfl
  rw [e]
  rw [Nat.zero_add] at h1
  exact h1
theorem slot15 {w : World} {g : Nat} {u : Oj} (h : Blk w g 33 u.cells.toArray) : w.cell? ⟨g, 93, none⟩ = some (.int .i64 (sl u 15).k) ∧ w.cell? ⟨g, 94, none⟩ = some (.int .i64 (sl u 15).o) ∧ w.cell? ⟨g, 95, none⟩ = some (.int .i64 (sl u 15).c) ∧ w.cell? ⟨g, 96, none⟩ = some (.int .i64 (sl u 15).l) ∧ w.cell? ⟨g, 97, none⟩ = some (.int .i64 (sl u 15).r) ∧ w.cell? ⟨g, 98, none⟩ = some (.int .i64 (sl u 15).v) := slot_key h (i := 15) (by decide)
theorem slot14 {w : World} {g : Nat} {u : Oj} (h : Blk w g 33 u.cells.toArray) : w.cell? ⟨g, 87, none⟩ = some (.int .i64 (sl u 14).k) ∧ w.cell? ⟨g, 88, none⟩ = some (.int .i64 (sl u 14).o) ∧ w.cell? ⟨g, 89, none⟩ = some (.int .i64 (sl u 14).c) ∧ w.cell? ⟨g, 90, none⟩ = some (.int .i64 (sl u 14).l) ∧ w.cell? ⟨g, 91, none⟩ = some (.int .i64 (sl u 14).r) ∧ w.cell? ⟨g, 92, none⟩ = some (.int .i64 (sl u 14).v) := slot_key h (i := 14) (by decide)
-- what the rights do
theorem or8 {a b : Nat} (ha : a < 8) (hb : b < 8) : a ||| b < 8 := Nat.or_lt_two_pow (n := 3) ha hb
theorem bor8 {a b : Nat} (ha : a < 8) (hb : b < 8) : bits .or .i64 (a : Int) (b : Int) = ((a ||| b : Nat) : Int) := or_n _ _ ha hb
set_option maxRecDepth 8000 in
theorem and4 {r : Nat} (hr : r < 8) : bits .and .i64 (r : Int) 4 = ((r / 4 % 2 * 4 : Nat) : Int) := by
  rw [show ((4 : Int)) = ((4 : Nat) : Int) from rfl, and_n r 4 hr (by decide)]
  have : ∀ n, n < 8 → n &&& 4 = n / 4 % 2 * 4 := by decide
  rw [this r hr]
set_option maxRecDepth 8000 in
-- what a key leads to
theorem prepd_named {os : List Oj} {x : Ky} (h : (named os x).isSome = true) : prepd os x = x := by unfold prepd; rw [h]; rfl
set_option maxRecDepth 8000 in
theorem prepd_else {os : List Oj} {x : Ky} (h1 : ¬ pgN os x) (h2 : ¬ askN os x) : (prepd os x).k ≠ 2 ∧ (prepd os x).k ≠ 3 := by
  by_cases h : (named os x).isSome = true
  · rw [prepd_named h]
    exact ⟨fun e => h2 ⟨h, e⟩, fun e => h1 ⟨h, e⟩⟩
  · unfold prepd
    by_cases hc : x.cn oz = true
    · rw [hc, Bool.or_true, if_pos rfl]
      obtain ⟨h3, h4⟩ := cn_oz.1 hc
      exact ⟨fun e => h4 ⟨h3, by omega, by omega⟩, fun e => h4 ⟨h3, by omega, by omega⟩⟩
    · rw [if_neg (by simp [h, hc])]
      exact ⟨by decide, by decide⟩
end Go.Proofs.YtjolojomgfcfbaaDoor

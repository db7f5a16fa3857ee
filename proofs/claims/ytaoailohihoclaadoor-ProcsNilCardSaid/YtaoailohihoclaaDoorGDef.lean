/- pages: a page as it lies, a span, bytes that are cut and laid: words. -/
import Derived.Test.YtaoailohihoclaaDoorR14
import Derived.Test.YtaoailohihoclaaDoorR17
import Derived.ScopeJumps
import Derived.WalkMore
namespace Go.Proofs.YtaoailohihoclaaDoor
open Go.RowKit
theorem wp_scope_once {P : Program} {a : Act} {w : World} {Q : Exit → Act → World → Prop} {c rest : Code} (l : Nat) (hf : findLabel c l = some rest)
    (first : c.wp P (Exit.jump l (fun a' w' => rest.wp P (Exit.jump l (fun _ _ => False) Q) a' w') Q) a w) : (Code.scope c).wp P Q a w :=
  wp_scope_jumps l (fun a' w' => rest.wp P (Exit.jump l (fun _ _ => False) Q) a' w') (fun _ _ => 0) hf first fun _ _ h => wp_mono h fun e _ _ q => by
    cases e <;> first | exact q | exact ⟨q.1, q.2.elim, q.2.elim⟩
/-- a page as it is come to: its object, its store, its number -/
def pgc (p : Nat) (n : Int) (o : Oj) : List Value := o.cells ++ [pv p, .int .i64 n]
abbrev pgv (p : Nat) (n : Int) (o : Oj) : Value := .agg (pgc p n o).toArray
def zpgc : List Value := oz.cells ++ [.pointer none, .int .i64 0]
set_option maxRecDepth 8000 in
theorem pgc_len (p : Nat) (n : Int) (o : Oj) : (pgc p n o).length = 165 := by simp [pgc, o.len]
set_option maxRecDepth 8000 in
theorem zpgc_len : zpgc.length = 165 := by simp [zpgc, oz.len]
set_option maxRecDepth 8000 in
theorem two_one {o : Oj} {x y : Value} (hx : x.oneCell' = true) (hy : y.oneCell' = true) : ∀ u ∈ o.cells ++ [x, y], u.oneCell' = true := by
  intro u h
  simp only [List.mem_append, List.mem_cons, List.not_mem_nil, or_false] at h
  rcases h with h | rfl | rfl
  · exact o.one u h
  · exact hx
  · exact hy
theorem pgc_one (p : Nat) (n : Int) (o : Oj) : ∀ u ∈ pgc p n o, u.oneCell' = true := two_one rfl rfl
theorem zpgc_one : ∀ u ∈ zpgc, u.oneCell' = true := two_one rfl rfl
abbrev spn (a n : Int) : Array Value := #[.int .i64 a, .int .i64 n]
set_option maxRecDepth 8000 in
theorem fill72 (p : Nat) (n : Int) (o : Oj) (zs : List Value) (hz : zs.length = 165) : Instr.fill (([(0, 163), (163, 1), (164, 1)] : List (Nat × Nat)).toArray[·]?) zs.toArray [(0, o.val), (1, pv p), (2, .int .i64 n)] = some (pgc p n o).toArray := by
  have e163 : o.val.cells.size = 163 := by show o.cells.toArray.size = 163; rw [List.size_toArray, o.len]
  rw [fill_one _ _ 0 o.val _ 0 (by rw [e163]; rfl) (by rw [e163]; simp; omega)]
  rw [fill_one _ _ 1 (pv p) _ 163 rfl (by simp [Value.cells, o.len]; omega)]
  rw [fill_one _ _ 2 (.int .i64 n) _ 164 rfl (by simp [Value.cells, o.len]; omega)]
  have c0 : o.val.cells = o.cells.toArray := rfl
  have c1 : (pv p).cells = #[pv p] := rfl
  have c2 : (Value.int .i64 n).cells = #[.int .i64 n] := rfl
  have ol := o.len
  obtain ⟨l, hl⟩ : ∃ l, l = o.cells := ⟨_, rfl⟩
  simp only [Instr.fill, c0, c1, c2, pgc, List.size_toArray]
  rw [← hl] at ol ⊢
  congr 2
  simp only [List.length_cons, List.length_nil, List.take_zero, List.nil_append, ol]
  have t1 : (l ++ zs.drop (0 + 163)).take 163 = l := by rw [← ol, List.take_left]
  have d1 : ((l ++ zs.drop (0 + 163)).drop (163 + (0 + 1))) = zs.drop 164 := by
    rw [List.drop_append, List.drop_eq_nil_of_le (by omega), ol, List.nil_append, List.drop_drop]
  rw [t1, d1]
  have h2 : (l ++ [pv p] ++ zs.drop 164).take 164 = l ++ [pv p] := by
    rw [List.take_append_of_le_length (by simp [ol]), List.take_of_length_le (by simp [ol])]
  have d2 : (l ++ [pv p] ++ zs.drop 164).drop (164 + (0 + 1)) = [] := by
    rw [List.drop_eq_nil_of_le]
    simp [ol, hz]
  rw [h2, d2]
  simp
section
variable {ops : Array Oper} {o : Oper} {a : Act} {S : World → Prop}
end
section
variable {w : World} {g : Nat} {t : TypeId} {p : Nat} {n : Int} {o : Oj}
set_option maxRecDepth 8000 in
theorem Blk.pgo (h : Blk w g t (pgc p n o).toArray) : ObAt w g 0 o := by
  have := range_mid (a := []) (m := o.cells) (b := [pv p, .int .i64 n]) (w := w) (g := g) (off := 0) h.range
  exact this
theorem Blk.pgs (h : Blk w g t (pgc p n o).toArray) : w.cell? ⟨g, 163, none⟩ = some (pv p) := (h.range 163 (pv p) (by rw [pgc, List.getElem?_append_right (by rw [o.len]; exact Nat.le_refl _), o.len]; rfl)).symm ▸ rfl
theorem Blk.pgn (h : Blk w g t (pgc p n o).toArray) : w.cell? ⟨g, 164, none⟩ = some (.int .i64 n) := (h.range 164 (.int .i64 n) (by rw [pgc, List.getElem?_append_right (by rw [o.len]; decide), o.len]; rfl)).symm ▸ rfl
end
-- bytes of a page that are others
/-- an object with other bytes -/
def bAs (o : Oj) (l : List UInt8) (h : l.length = 64) : Oj := { o with b := l, hb := h }
/-- bytes with others over them from a place on -/
def lay (b : List UInt8) (a : Nat) (l : List UInt8) : List UInt8 := b.take a ++ l ++ b.drop (a + l.length)
set_option maxRecDepth 8000 in
theorem lay_len {b : List UInt8} {a : Nat} {l : List UInt8} (h : a + l.length ≤ b.length) : (lay b a l).length = b.length := by
  simp [lay]
  omega
theorem bAs_ok {m : Int} {u : Oj} (h : u.ok m) (hk : u.k = 2) (l : List UInt8) (hl : l.length = 64) : (bAs u l hl).ok m := ⟨h.1, h.2.1, h.2.2.1, by
  rcases h.2.2.2 with h1 | h1 | h1
  · have := h1.1; omega
  · exact .inr (.inl ⟨h1.1, h1.2⟩)
  · have := h1.1; omega⟩
set_option maxRecDepth 8000 in
/-- the cells of a page whose object has other bytes -/
theorem pgc_bytes (p : Nat) (n : Int) (u : Oj) (a : Nat) (l : List UInt8) (h : a + l.length ≤ 64) (hl : (lay u.b a l).length = 64) :
    (pgc p n u).take (99 + a) ++ bv l ++ (pgc p n u).drop (99 + a + l.length) = pgc p n (bAs u (lay u.b a l) hl) := by
  have e : pgc p n u = [.int .i64 u.k, .int .i64 u.c, .int .i64 u.l] ++ kcs u.s ++ (bv u.b ++ [pv p, .int .i64 n]) := by simp [pgc, Oj.cells]
  have e2 : pgc p n (bAs u (lay u.b a l) hl) = [.int .i64 u.k, .int .i64 u.c, .int .i64 u.l] ++ kcs u.s ++ (bv (lay u.b a l) ++ [pv p, .int .i64 n]) := by simp [pgc, Oj.cells, bAs]
  rw [e, e2]
  obtain ⟨H, hH⟩ : ∃ H, H = [Value.int .i64 u.k, .int .i64 u.c, .int .i64 u.l] ++ kcs u.s := ⟨_, rfl⟩
  have hHl : H.length = 99 := by rw [hH, List.length_append, kcs_length, u.hs]; rfl
  have hbl : (bv u.b).length = 64 := by rw [bv_length, u.hb]
  rw [← hH, show 99 + a + l.length = 99 + (a + l.length) by omega, ← hHl, List.take_length_add_append, List.drop_length_add_append,
    List.take_append_of_le_length (by omega), List.drop_append_of_le_length (by omega)]
  simp [lay, bv]
end Go.Proofs.YtaoailohihoclaaDoor

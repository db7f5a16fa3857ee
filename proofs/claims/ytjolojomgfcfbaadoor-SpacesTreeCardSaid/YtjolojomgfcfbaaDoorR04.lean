/- keys.less, the definition's with: Rights with others besides. -/
import Derived.Test.YtjolojomgfcfbaaDoorR02
import Derived.RegionTactic
import Derived.ChangeAlike
import Derived.IntWalk
import Derived.Laws.BitsAllLaws
import Derived.Laws.BitsLemmas
import Derived.Test.YtjolojomgfcfbaaDoorR03
import Derived.ChangeKeysEq
import Derived.Laws.StructEq
namespace Go.Proofs.YtjolojomgfcfbaaDoor
open Go.RowKit
set_option maxRecDepth 8000 in
theorem bits_n (a : Nat) (h : a < 9223372036854775808) : (BitVec.ofInt 64 (a : Int)).toNat = a := by
  rw [BitVec.ofInt_natCast, BitVec.toNat_ofNat]; exact Nat.mod_eq_of_lt (by omega)
set_option maxRecDepth 8000 in
theorem and_n (a b : Nat) (ha : a < 8) (hb : b < 8) : bits .and .i64 (a : Int) (b : Int) = ((a &&& b : Nat) : Int) := by
  have hx : a &&& b < 2 ^ 3 := Nat.and_lt_two_pow _ hb
  show IntKind.i64.wrap ((BitVec.ofInt 64 (a : Int) &&& BitVec.ofInt 64 (b : Int)).toNat : Int) = _
  rw [BitVec.toNat_and, bits_n a (by omega), bits_n b (by omega), IntKind.wrap_i64]
  omega
set_option maxRecDepth 8000 in
theorem or_n (a b : Nat) (ha : a < 8) (hb : b < 8) : bits .or .i64 (a : Int) (b : Int) = ((a ||| b : Nat) : Int) := by
  have hx : a ||| b < 2 ^ 3 := Nat.or_lt_two_pow ha hb
  show IntKind.i64.wrap ((BitVec.ofInt 64 (a : Int) ||| BitVec.ofInt 64 (b : Int)).toNat : Int) = _
  rw [BitVec.toNat_or, bits_n a (by omega), bits_n b (by omega), IntKind.wrap_i64]
  omega
theorem below_drew {B : Nat} {a b : World} (h : Below B a b) : Below B a b.drew := ⟨h.os, h.tape, h.output, h.size, h.block⟩
def lsN (r q m : Nat) : Nat := r ||| (q &&& m)
set_option maxRecDepth 8000 in
theorem lsN_bits (r q m : Nat) (hr : r < 8) (hq : q < 8) (hm : m < 8) : bits .or .i64 (r : Int) (bits .and .i64 (q : Int) (m : Int)) = (lsN r q m : Int) := by
  rw [and_n q m hq hm, or_n _ _ hr (Nat.and_lt_two_pow _ (show m < 2 ^ 3 from hm))]
  rfl
set_option maxRecDepth 8000 in
set_option maxHeartbeats 1000000 in
theorem less_row (k : Nat) (o c l v : Int) (r q m : Nat) (w : World) (hk : k ≤ 10) (hr : r < 8) (hq : q < 8) (hm : m < 8) (z5 : w.cell? ⟨0, k * 7 + 5, none⟩ = some (.int .i64 m)) (hg : 0 < w.heap.size)  :
    Calls Tryd.prog 59 #[.agg #[.int .i64 k, .int .i64 o, .int .i64 c, .int .i64 l, .int .i64 r, .int .i64 v], .int .i64 q] w fun e w' => e = .returned (.agg #[.int .i64 k, .int .i64 o, .int .i64 c, .int .i64 l, .int .i64 (lsN r q m : Nat), .int .i64 v]) ∧ Below w.heap.size w w' := by
  have HB := Lib.hid (lsN_bits r q m hr hq hm)
  go_enter Tryd.func59, Tryd.ntmps59
  go_wp2
  go_region
  go_wp2
  refine bodyPost_ret (v := .agg #[.int .i64 k, .int .i64 o, .int .i64 c, .int .i64 l, .int .i64 (bits .or .i64 (r : Int) (bits .and .i64 (q : Int) (m : Int))), .int .i64 v]) (by simp [results, Tryd.results59, go_sem]) rfl ⟨by rw [HB.out], ?_⟩
  exact below_drew (((Below.refl _ _).alloc (Nat.le_refl _) _).alloc (by simp) _)
end Go.Proofs.YtjolojomgfcfbaaDoor
namespace Go.Proofs.YtjolojomgfcfbaaDoor
open Go.RowKit
/-- a block that is known whole -/
def Blk (w : World) (g : Nat) (t : TypeId) (cs : Array Value) : Prop := w.heap[g]? = some (.cells cs t (0, 0))
section
variable {w w' w1 : World} {g : Nat} {t u : TypeId} {cs ds es : Array Value}
theorem Blk.lt (h : Blk w g t cs) : g < w.heap.size := (Array.getElem?_eq_some_iff.1 h).1
theorem Blk.cell (h : Blk w g t cs) (i : Nat) : w.cell? ⟨g, i, none⟩ = cs[i]? := cell_of_row w g i cs t (0, 0) h
theorem Blk.frozen (h : Blk w g t cs) (i : Nat) : w.frozen? ⟨g, i, none⟩ = false := frozen_of_row w g i cs t h
theorem Blk.new (w : World) (t : TypeId) (cs : Array Value) : Blk (w.alloc (.cells cs t)) w.heap.size t cs := heap_alloc_new w _
theorem Blk.alloc (h : Blk w g t cs) (o : Obj) : Blk (w.alloc o) g t cs := (Below.heap_alloc w o g h.lt).trans h
theorem Blk.drew (h : Blk w g t cs) : Blk w.drew g t cs := h
theorem Blk.set_ (h : Blk w g t cs) (i : Nat) (u : Value) : Blk (w.setCell ⟨g, i, none⟩ u) g t (cs.setIfInBounds i u) := heap_setCell_same w g i cs t u h
theorem Blk.far (h : Blk w g t cs) {p : Addr} (hp : g ≠ p.block) (u : Value) : Blk (w.setCell p u) g t cs := (Below.heap_setCell w p u g hp).trans h
theorem Blk.below {B : Nat} (h : Blk w g t cs) (hb : Below B w w') (hg : g < B) : Blk w' g t cs := (hb.block g hg).trans h
theorem Blk.keep (h : Blk w g t cs) (hb : Below w.heap.size w w') : Blk w' g t cs := h.below hb h.lt
theorem Blk.two {a b : Value} (h : Blk w g t #[a, b]) : w.cell? ⟨g, 0, none⟩ = some a ∧ w.cell? ⟨g, 1, none⟩ = some b := ⟨h.cell 0, h.cell 1⟩
theorem Blk.six {a b c d e f : Value} (h : Blk w g t #[a, b, c, d, e, f]) :
    w.cell? ⟨g, 0, none⟩ = some a ∧ w.cell? ⟨g, 1, none⟩ = some b ∧ w.cell? ⟨g, 2, none⟩ = some c ∧ w.cell? ⟨g, 3, none⟩ = some d ∧ w.cell? ⟨g, 4, none⟩ = some e ∧ w.cell? ⟨g, 5, none⟩ = some f :=
  ⟨h.cell 0, h.cell 1, h.cell 2, h.cell 3, h.cell 4, h.cell 5⟩
theorem box1 (b1 : Below (w.alloc (.cells cs t)).heap.size (w.alloc (.cells cs t)) w1) : Blk w1 w.heap.size t cs ∧ Below w.heap.size w w1 :=
  ⟨(Blk.new w t cs).keep b1, below_box b1⟩
theorem box2 (b1 : Below ((w.alloc (.cells cs t)).alloc (.cells ds u)).heap.size ((w.alloc (.cells cs t)).alloc (.cells ds u)) w1) :
    Blk w1 w.heap.size t cs ∧ Blk w1 (w.heap.size + 1) u ds ∧ Below w.heap.size w w1 :=
  ⟨((Blk.new w t cs).alloc _).keep b1, by have := (Blk.new (w.alloc (.cells cs t)) u ds).keep b1; simpa using this, below_box ((below_box b1))⟩
/-- six cells stored into a block of the call's own -/
abbrev set6 (w : World) (g : Nat) (a b c d e f : Value) : World := (((((w.setCell ⟨g, 0, none⟩ a).setCell ⟨g, 1, none⟩ b).setCell ⟨g, 2, none⟩ c).setCell ⟨g, 3, none⟩ d).setCell ⟨g, 4, none⟩ e).setCell ⟨g, 5, none⟩ f
theorem below_set6 {B : Nat} {a : World} (h : Below B a w) (hg : B ≤ g) (v0 v1 v2 v3 v4 v5 : Value) : Below B a (set6 w g v0 v1 v2 v3 v4 v5) :=
  (((((h.setCell (p := ⟨g, 0, none⟩) hg v0).setCell (p := ⟨g, 1, none⟩) hg v1).setCell (p := ⟨g, 2, none⟩) hg v2).setCell (p := ⟨g, 3, none⟩) hg v3).setCell (p := ⟨g, 4, none⟩) hg v4).setCell (p := ⟨g, 5, none⟩) hg v5
end
/-- a key as it lies -/
abbrev kc (k o c l r v : Int) : Array Value := #[.int .i64 k, .int .i64 o, .int .i64 c, .int .i64 l, .int .i64 r, .int .i64 v]
/-- the greatest sum of Rights of a kind -/
def rm (k : Int) : Nat := (kRts k.toNat).toNat
set_option maxRecDepth 8000 in
theorem rm_lt (k : Int) : rm k < 8 := by
  unfold rm kRts
  split
  · decide
  · split <;> decide
set_option maxRecDepth 8000 in
theorem rm_eq (k : Nat) : kRts k = (rm k : Int) := by
  unfold rm kRts
  simp only [Int.toNat_natCast]
  split
  · rfl
  · split <;> rfl
set_option maxRecDepth 8000 in
/-- the Rights of a key that may be -/
theorem okK_r {k o c l r v : Int} (h : OkK k o c l r v) : ∃ n : Nat, r = n ∧ n ≤ rm k ∧ n < 8 := by
  have := rm_lt k
  obtain ⟨n, rfl, _, _, _, _, _, _, _, h1, h2, _⟩ := h
  rw [rm_eq] at h2
  exact ⟨r.toNat, by omega, by omega, by omega⟩
set_option maxRecDepth 8000 in
/-- less by Rights, over a kind's own row -/
theorem less_any (k o c l v : Int) (r q : Nat) (w : World) (hT : Tab w) (k0 : 0 ≤ k) (k1 : k ≤ 10) (hr : r < 8) (hq : q < 8) :
    Calls Tryd.prog 59 #[.agg (kc k o c l r v), .int .i64 q] w fun e w' => e = .returned (.agg (kc k o c l (lsN r q (rm k) : Nat) v)) ∧ Below w.heap.size w w' := by
  obtain ⟨n, rfl⟩ := Int.eq_ofNat_of_zero_le k0
  have hn : n ≤ 10 := by omega
  exact less_row n o c l v r q (rm n) w hn hr hq (rm_lt _) ((rm_eq n) ▸ (hT.row hn).z5) hT.lt
end Go.Proofs.YtjolojomgfcfbaaDoor
namespace Go.Proofs.YtjolojomgfcfbaaDoor
open Go.RowKit
set_option maxRecDepth 8000 in
theorem fields25 : (Tryd.prog.fieldsOf 29).toList.map (fun f => (f.name == "_", f.type, f.offset)) = [(false, 27, 0), (false, 3, 1), (false, 2, 2), (false, 2, 3), (false, 22, 4), (false, 2, 5)] := by kernel_rfl
set_option maxRecDepth 8000 in
theorem eq_head {d : Nat} {xs ys : Array Value} {t : TypeId} {i : Nat} {q : IntKind} {a b : Int} (w : World) (f : Field) (fs : List Field) (hn : (f.name == "_") = false) (ht : f.type = t) (ho : f.offset = i) (hu : Tryd.prog.underlying t = some (.int q))
    (hp : ∀ w, (part t xs i).run Tryd.prog w = .ok (.int q a) w) (hq : ∀ w, (part t ys i).run Tryd.prog w = .ok (.int q b) w) (b' : Bool) (hr : a = b → (Op.eqFields (d + 1) xs ys fs).run Tryd.prog w = .ok b' w) :
    (Op.eqFields (d + 1) xs ys (f :: fs)).run Tryd.prog w = .ok (decide (a = b) && b') w := by
  have hn' : f.name ≠ "_" := by simpa using hn
  subst ht ho
  simp only [Op.eqFields, hn', ne_eq, not_false_eq_true, if_true, Sem.run_bind, hp, hq, Result.andThen_ok, run_equalIn_int _ d f.type q q a b hu]
  by_cases h : a = b
  · subst h
    simp [hr rfl]
  · simp [h]
set_option maxRecDepth 8000 in
theorem eqFields_nil (d : Nat) (xs ys : Array Value) (w : World) : (Op.eqFields d xs ys []).run Tryd.prog w = .ok true w := by simp [Op.eqFields]
end Go.Proofs.YtjolojomgfcfbaaDoor
namespace Go.Proofs.YtjolojomgfcfbaaDoor
open Go.RowKit
structure Ky where
  (k o c l r v : Int)
abbrev Ky.val (x : Ky) : Value := .agg (kc x.k x.o x.c x.l x.r x.v)
def Ky.ok (x : Ky) : Prop := OkK x.k x.o x.c x.l x.r x.v
theorem ok_of {x : Ky} (h : x.ok) : (0 ≤ x.k ∧ x.k ≤ 10) ∧ ∃ n : Nat, x.r = n ∧ n ≤ rm x.k ∧ n < 8 := ⟨okK_in h, okK_r h⟩
end Go.Proofs.YtjolojomgfcfbaaDoor

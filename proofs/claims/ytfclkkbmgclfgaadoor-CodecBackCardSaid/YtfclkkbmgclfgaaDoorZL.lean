/- the definition's Check: for every key. -/
import Derived.Test.YtfclkkbmgclfgaaDoorKRa
import Derived.Test.YtfclkkbmgclfgaaDoorKRb
import Derived.Test.YtfclkkbmgclfgaaDoorKRc
import Derived.ChangeKeysEq
import Derived.Laws.StructEq
import Derived.Test.YtfclkkbmgclfgaaDoorChecked
import Derived.Test.YtfclkkbmgclfgaaDoorRows
import Derived.Test.YtfclkkbmgclfgaaDoorTie
import Derived.Test.YtfclkkbmgclfgaaDoorCards
import Derived.ProofKit
import Derived.LaidMore
import Derived.OpenShut
import Derived.ChangeOld
import Derived.Deep.Slices
import Derived.Stop.Joined
import Derived.SevenTiedAt
namespace Go.Proofs.YtfclkkbmgclfgaaDoor
open Go.RowKit
set_option maxRecDepth 8000 in
/-- what a kind's row says of a key, and what the definition says of it, are the same -/
theorem okK_iff {k o c l r v : Int} (k0 : 0 ≤ k) (k1 : k ≤ 10) (A B C D : Bool) (m : Int) (ha : nA k = A) (hb : nB k = B) (hc : nC k = C) (hd : nD k = D) (hm : B = true → kRts k.toNat = m) : OkK k o c l r v ↔ Keeps A B C D m o c l r v := by
  subst ha hb hc hd
  obtain ⟨n, rfl⟩ := Int.eq_ofNat_of_zero_le k0
  have e : OkK (n : Int) o c l r v ↔ (0 ≤ o ∧ o ≤ kOid n ∧ 0 ≤ c ∧ c ≤ kCnt n ∧ 0 ≤ l ∧ l ≤ kCall n ∧ 0 ≤ r ∧ r ≤ kRts n ∧ (v = 0 ∨ kVal n = true)) := by
    constructor
    · rintro ⟨n', h, h0, h'⟩
      have : n' = n := by omega
      subst this
      exact h'
    · intro h
      exact ⟨n, rfl, by omega, h⟩
  rw [e]
  have hn : n ≤ 10 := by omega
  have hcase : n = 0 ∨ n = 1 ∨ n = 2 ∨ n = 3 ∨ n = 4 ∨ n = 5 ∨ n = 6 ∨ n = 7 ∨ n = 8 ∨ n = 9 ∨ n = 10 := by omega
  unfold Keeps
  rcases hcase with rfl | rfl | rfl | rfl | rfl | rfl | rfl | rfl | rfl | rfl | rfl <;> simp [nA, nB, nC, nD, kOid, kCnt, kCall, kRts, kVal] at hm ⊢ <;> omega
set_option maxRecDepth 8000 in
theorem okK_in {k o c l r v : Int} (h : OkK k o c l r v) : 0 ≤ k ∧ k ≤ 10 := by
  obtain ⟨n, rfl, h, _⟩ := h
  omega
end Go.Proofs.YtfclkkbmgclfgaaDoor
namespace Go.Proofs.YtfclkkbmgclfgaaDoor
open Go.RowKit
/-- what the walk wants behind a call that makes memory -/
theorem bcell {W w1 : World} (hb : Below W.heap.size W w1) : (∀ b o, b < W.heap.size → w1.cell? ⟨b, o, none⟩ = W.cell? ⟨b, o, none⟩) ∧ (∀ b o, b < W.heap.size → w1.frozen? ⟨b, o, none⟩ = W.frozen? ⟨b, o, none⟩) :=
  ⟨fun b o h => hb.cell (p := ⟨b, o, none⟩) h, fun b o h => hb.frozen (p := ⟨b, o, none⟩) h⟩
theorem below_box {w w1 : World} {x : Obj} (hb : Below (w.alloc x).heap.size (w.alloc x) w1) : Below w.heap.size w w1 := ((Below.refl _ _).alloc (Nat.le_refl _) _).trans (hb.mono (by simp))
set_option maxRecDepth 8000 in
theorem nA_wants {n : Nat} (h : n ≤ 10) : kWants n = if nA n then (if n = 3 then 2 else 1) else 0 := by
  have hcase : n = 0 ∨ n = 1 ∨ n = 2 ∨ n = 3 ∨ n = 4 ∨ n = 5 ∨ n = 6 ∨ n = 7 ∨ n = 8 ∨ n = 9 ∨ n = 10 := by omega
  rcases hcase with rfl | rfl | rfl | rfl | rfl | rfl | rfl | rfl | rfl | rfl | rfl <;> rfl
set_option maxRecDepth 8000 in
set_option maxHeartbeats 1000000 in
theorem wants_no (k o c l r v : Int) (w : World) (hT : Tab w) (h : ¬ OkK k o c l r v) :
    Calls Tryd.prog 71 #[.agg #[.int .i64 k, .int .i64 o, .int .i64 c, .int .i64 l, .int .i64 r, .int .i64 v]] w fun e w' => e = .returned (.int .i64 0) ∧ Below w.heap.size w w' := by
  have HK := Lib.hid h
  have HT := Lib.hid hT
  clear h hT
  go_enter Tryd.func71, Tryd.ntmps71
  go_wp2_with (go_at_call 13; refine (chk_no _ _ _ _ _ _ _ (HT.out.alloc _) HK.out).mono ?_; rintro e w1 ⟨rfl, b1⟩; have HB := Lib.hid b1; clear b1)
  go_ret
  exact ⟨rfl, below_box HB.out⟩
set_option maxRecDepth 8000 in
set_option maxHeartbeats 1000000 in
theorem wants_ok (k : Nat) (o c l r v : Int) (w : World) (hT : Tab w) (h : OkK k o c l r v) :
    Calls Tryd.prog 71 #[.agg #[.int .i64 k, .int .i64 o, .int .i64 c, .int .i64 l, .int .i64 r, .int .i64 v]] w fun e w' => e = .returned (.int .i64 (kWants k)) ∧ Below w.heap.size w w' := by
  have hk : k ≤ 10 := by have := okK_in h; omega
  have z1 := (hT.row hk).z1
  have hg := hT.lt
  have HK := Lib.hid h
  have HT := Lib.hid hT
  clear h hT
  go_enter Tryd.func71, Tryd.ntmps71
  go_wp2_with (go_at_call 13; refine (chk_ok _ _ _ _ _ _ _ (HT.out.alloc _) HK.out).mono ?_; rintro e w1 ⟨rfl, b1⟩; obtain ⟨hc, hf⟩ := bcell b1; have HB := Lib.hid b1; clear b1)
  go_ret
  exact ⟨rfl, below_box HB.out⟩
set_option maxRecDepth 8000 in
theorem wants_any (k o c l r v : Int) (w : World) (hT : Tab w) (h : OkK k o c l r v) :
    Calls Tryd.prog 71 #[.agg #[.int .i64 k, .int .i64 o, .int .i64 c, .int .i64 l, .int .i64 r, .int .i64 v]] w fun e w' => e = .returned (.int .i64 (kWants k.toNat)) ∧ Below w.heap.size w w' := by
  obtain ⟨n, rfl⟩ := Int.eq_ofNat_of_zero_le (okK_in h).1
  exact wants_ok n o c l r v w hT h
set_option maxRecDepth 8000 in
set_option maxHeartbeats 1000000 in
theorem kn_no (k o c l r v : Int) (w : World) (hT : Tab w) (h : ¬ OkK k o c l r v) :
    Calls Tryd.prog 67 #[.agg #[.int .i64 k, .int .i64 o, .int .i64 c, .int .i64 l, .int .i64 r, .int .i64 v]] w fun e w' => e = .returned (.tuple #[.int .i64 0, .bool false]) ∧ Below w.heap.size w w' := by
  have HK := Lib.hid h
  have HT := Lib.hid hT
  clear h hT
  go_enter Tryd.func67, Tryd.ntmps67
  go_wp2_with (go_at_call 71; refine (wants_no _ _ _ _ _ _ _ (HT.out.alloc _) HK.out).mono ?_; rintro e w1 ⟨rfl, b1⟩; have HB := Lib.hid b1; clear b1)
  go_ret2
  exact ⟨rfl, below_box HB.out⟩
set_option maxRecDepth 8000 in
set_option maxHeartbeats 1000000 in
theorem kn_none (k o c l r v : Int) (w : World) (hT : Tab w) (h : OkK k o c l r v) (ha : kWants k.toNat = 0) :
    Calls Tryd.prog 67 #[.agg #[.int .i64 k, .int .i64 o, .int .i64 c, .int .i64 l, .int .i64 r, .int .i64 v]] w fun e w' => e = .returned (.tuple #[.int .i64 0, .bool false]) ∧ Below w.heap.size w w' := by
  have HK := Lib.hid h
  have HT := Lib.hid hT
  have HA := Lib.hid ha
  clear h hT ha
  go_enter Tryd.func67, Tryd.ntmps67
  go_wp2_with (go_at_call 71; refine (wants_any _ _ _ _ _ _ _ (HT.out.alloc _) HK.out).mono ?_; rw [HA.out]; rintro e w1 ⟨rfl, b1⟩; have HB := Lib.hid b1; clear b1)
  go_ret2
  exact ⟨rfl, below_box HB.out⟩
set_option maxRecDepth 8000 in
set_option maxHeartbeats 1000000 in
theorem kn_some (k o c l r v : Int) (w : World) (hT : Tab w) (h : OkK k o c l r v) (ha : kWants k.toNat ≠ 0) :
    Calls Tryd.prog 67 #[.agg #[.int .i64 k, .int .i64 o, .int .i64 c, .int .i64 l, .int .i64 r, .int .i64 v]] w fun e w' => e = .returned (.tuple #[.int .i64 o, .bool true]) ∧ Below w.heap.size w w' := by
  have HK := Lib.hid h
  have HT := Lib.hid hT
  obtain ⟨n, hn⟩ : ∃ n, n = kWants k.toNat := ⟨_, rfl⟩
  have d1 : (n == 0) = false := by rw [hn]; simpa using ha
  have HA := Lib.hid hn
  clear h hT ha hn
  go_enter Tryd.func67, Tryd.ntmps67
  go_wp2_with (go_at_call 71; refine (wants_any _ _ _ _ _ _ _ (HT.out.alloc _) HK.out).mono ?_; rw [← HA.out]; rintro e w1 ⟨rfl, b1⟩; obtain ⟨hc, hf⟩ := bcell b1; have HB := Lib.hid b1; clear b1)
  go_ret2
  exact ⟨rfl, below_box HB.out⟩
end Go.Proofs.YtfclkkbmgclfgaaDoor
namespace Go.Proofs.YtfclkkbmgclfgaaDoor
open Go.RowKit
/-- a block that is known whole -/
def Blk (w : World) (g : Nat) (t : TypeId) (cs : Array Value) : Prop := w.heap[g]? = some (.cells cs t (0, 0))
section
variable {w w' w1 : World} {g : Nat} {t u : TypeId} {cs ds es : Array Value}
theorem Blk.lt (h : Blk w g t cs) : g < w.heap.size := (Array.getElem?_eq_some_iff.1 h).1
theorem Blk.cell (h : Blk w g t cs) (i : Nat) : w.cell? ⟨g, i, none⟩ = cs[i]? := cell_of_row w g i cs t (0, 0) h
theorem Blk.frozen (h : Blk w g t cs) (i : Nat) : w.frozen? ⟨g, i, none⟩ = false := frozen_of_row w g i cs t h
theorem Blk.new (w : World) (t : TypeId) (cs : Array Value) : Blk (w.alloc (.cells cs t)) w.heap.size t cs := heap_alloc_new w _
theorem Blk.alloc (h : Blk w g t cs) (o : Obj) : Blk (w.alloc o) g t cs := (Below.heap_alloc w o g h.lt).trans h
theorem Blk.drew (h : Blk w g t cs) : Blk w.drew g t cs := h
theorem Blk.drewN (h : Blk w g t cs) (n : Nat) : Blk (w.drewN n) g t cs := h
theorem Blk.set_ (h : Blk w g t cs) (i : Nat) (u : Value) : Blk (w.setCell ⟨g, i, none⟩ u) g t (cs.setIfInBounds i u) := heap_setCell_same w g i cs t u h
theorem Blk.far (h : Blk w g t cs) {p : Addr} (hp : g ≠ p.block) (u : Value) : Blk (w.setCell p u) g t cs := (Below.heap_setCell w p u g hp).trans h
theorem Blk.below {B : Nat} (h : Blk w g t cs) (hb : Below B w w') (hg : g < B) : Blk w' g t cs := (hb.block g hg).trans h
theorem Blk.keep (h : Blk w g t cs) (hb : Below w.heap.size w w') : Blk w' g t cs := h.below hb h.lt
theorem Blk.two {a b : Value} (h : Blk w g t #[a, b]) : w.cell? ⟨g, 0, none⟩ = some a ∧ w.cell? ⟨g, 1, none⟩ = some b := ⟨h.cell 0, h.cell 1⟩
theorem Blk.six {a b c d e f : Value} (h : Blk w g t #[a, b, c, d, e, f]) :
    w.cell? ⟨g, 0, none⟩ = some a ∧ w.cell? ⟨g, 1, none⟩ = some b ∧ w.cell? ⟨g, 2, none⟩ = some c ∧ w.cell? ⟨g, 3, none⟩ = some d ∧ w.cell? ⟨g, 4, none⟩ = some e ∧ w.cell? ⟨g, 5, none⟩ = some f :=
  ⟨h.cell 0, h.cell 1, h.cell 2, h.cell 3, h.cell 4, h.cell 5⟩
theorem box1 (b1 : Below (w.alloc (.cells cs t)).heap.size (w.alloc (.cells cs t)) w1) : Blk w1 w.heap.size t cs ∧ Below w.heap.size w w1 :=
  ⟨(Blk.new w t cs).keep b1, below_box b1⟩
theorem box2 (b1 : Below ((w.alloc (.cells cs t)).alloc (.cells ds u)).heap.size ((w.alloc (.cells cs t)).alloc (.cells ds u)) w1) :
    Blk w1 w.heap.size t cs ∧ Blk w1 (w.heap.size + 1) u ds ∧ Below w.heap.size w w1 :=
  ⟨((Blk.new w t cs).alloc _).keep b1, by have := (Blk.new (w.alloc (.cells cs t)) u ds).keep b1; simpa using this, below_box ((below_box b1))⟩
/-- six cells stored into a block of the call's own -/
abbrev set6 (w : World) (g : Nat) (a b c d e f : Value) : World := (((((w.setCell ⟨g, 0, none⟩ a).setCell ⟨g, 1, none⟩ b).setCell ⟨g, 2, none⟩ c).setCell ⟨g, 3, none⟩ d).setCell ⟨g, 4, none⟩ e).setCell ⟨g, 5, none⟩ f
theorem below_set6 {B : Nat} {a : World} (h : Below B a w) (hg : B ≤ g) (v0 v1 v2 v3 v4 v5 : Value) : Below B a (set6 w g v0 v1 v2 v3 v4 v5) :=
  (((((h.setCell (p := ⟨g, 0, none⟩) hg v0).setCell (p := ⟨g, 1, none⟩) hg v1).setCell (p := ⟨g, 2, none⟩) hg v2).setCell (p := ⟨g, 3, none⟩) hg v3).setCell (p := ⟨g, 4, none⟩) hg v4).setCell (p := ⟨g, 5, none⟩) hg v5
end
/-- a key as it lies -/
abbrev kc (k o c l r v : Int) : Array Value := #[.int .i64 k, .int .i64 o, .int .i64 c, .int .i64 l, .int .i64 r, .int .i64 v]
/-- the greatest sum of Rights of a kind -/
def rm (k : Int) : Nat := (kRts k.toNat).toNat
set_option maxRecDepth 8000 in
theorem rm_lt (k : Int) : rm k < 8 := by
  unfold rm kRts
  split
  · decide
  · split <;> decide
set_option maxRecDepth 8000 in
theorem rm_eq (k : Nat) : kRts k = (rm k : Int) := by
  unfold rm kRts
  simp only [Int.toNat_natCast]
  split
  · rfl
  · split <;> rfl
set_option maxRecDepth 8000 in
/-- the Rights of a key that may be -/
theorem okK_r {k o c l r v : Int} (h : OkK k o c l r v) : ∃ n : Nat, r = n ∧ n ≤ rm k ∧ n < 8 := by
  have := rm_lt k
  obtain ⟨n, rfl, _, _, _, _, _, _, _, h1, h2, _⟩ := h
  rw [rm_eq] at h2
  exact ⟨r.toNat, by omega, by omega, by omega⟩
end Go.Proofs.YtfclkkbmgclfgaaDoor
namespace Go.Proofs.YtfclkkbmgclfgaaDoor
open Go.RowKit
set_option maxRecDepth 8000 in
theorem fields25 : (Tryd.prog.fieldsOf 26).toList.map (fun f => (f.name == "_", f.type, f.offset)) = [(false, 23, 0), (false, 3, 1), (false, 2, 2), (false, 2, 3), (false, 24, 4), (false, 2, 5)] := by kernel_rfl
set_option maxRecDepth 8000 in
theorem eq_head {d : Nat} {xs ys : Array Value} {t : TypeId} {i : Nat} {q : IntKind} {a b : Int} (w : World) (f : Field) (fs : List Field) (hn : (f.name == "_") = false) (ht : f.type = t) (ho : f.offset = i) (hu : Tryd.prog.underlying t = some (.int q))
    (hp : ∀ w, (part t xs i).run Tryd.prog w = .ok (.int q a) w) (hq : ∀ w, (part t ys i).run Tryd.prog w = .ok (.int q b) w) (b' : Bool) (hr : a = b → (Op.eqFields (d + 1) xs ys fs).run Tryd.prog w = .ok b' w) :
    (Op.eqFields (d + 1) xs ys (f :: fs)).run Tryd.prog w = .ok (decide (a = b) && b') w := by
  have hn' : f.name ≠ "_" := by simpa using hn
  subst ht ho
  simp only [Op.eqFields, hn', ne_eq, not_false_eq_true, if_true, Sem.run_bind, hp, hq, Result.andThen_ok, run_equalIn_int _ d f.type q q a b hu]
  by_cases h : a = b
  · subst h
    simp [hr rfl]
  · simp [h]
set_option maxRecDepth 8000 in
theorem eqFields_nil (d : Nat) (xs ys : Array Value) (w : World) : (Op.eqFields d xs ys []).run Tryd.prog w = .ok true w := by simp [Op.eqFields]
set_option maxRecDepth 8000 in
theorem key_eqFields (k o c l r v k' o' c' l' r' v' : Int) (w : World) :
    (Op.eqFields 9999 (kc k o c l r v) (kc k' o' c' l' r' v') (Tryd.prog.fieldsOf 26).toList).run Tryd.prog w =
      .ok (decide (k = k') && (decide (o = o') && (decide (c = c') && (decide (l = l') && (decide (r = r') && (decide (v = v') && true)))))) w := by
  have hf := fields25
  generalize (Tryd.prog.fieldsOf 26).toList = fs at hf ⊢
  have hl : fs.length = 6 := by have := congrArg List.length hf; simpa using this
  match fs, hl, hf with
  | [f0, f1, f2, f3, f4, f5], _, hf =>
    simp only [List.map_cons, List.map_nil, List.cons.injEq, Prod.mk.injEq, and_true] at hf
    obtain ⟨⟨n0, t0, o0⟩, ⟨n1, t1, o1⟩, ⟨n2, t2, o2⟩, ⟨n3, t3, o3⟩, ⟨n4, t4, o4⟩, ⟨n5, t5, o5⟩⟩ := hf
    exact eq_head w f0 _ n0 t0 o0 Tryd.underlying23 (fun w => run_part_plain w (by kernel_rfl) rfl) (fun w => run_part_plain w (by kernel_rfl) rfl) _ fun _ =>
      eq_head w f1 _ n1 t1 o1 Tryd.underlying3 (fun w => run_part_plain w (by kernel_rfl) rfl) (fun w => run_part_plain w (by kernel_rfl) rfl) _ fun _ =>
      eq_head w f2 _ n2 t2 o2 Tryd.underlying2 (fun w => run_part_plain w (by kernel_rfl) rfl) (fun w => run_part_plain w (by kernel_rfl) rfl) _ fun _ =>
      eq_head w f3 _ n3 t3 o3 Tryd.underlying2 (fun w => run_part_plain w (by kernel_rfl) rfl) (fun w => run_part_plain w (by kernel_rfl) rfl) _ fun _ =>
      eq_head w f4 _ n4 t4 o4 Tryd.underlying24 (fun w => run_part_plain w (by kernel_rfl) rfl) (fun w => run_part_plain w (by kernel_rfl) rfl) _ fun _ =>
      eq_head w f5 _ n5 t5 o5 Tryd.underlying2 (fun w => run_part_plain w (by kernel_rfl) rfl) (fun w => run_part_plain w (by kernel_rfl) rfl) _ fun _ => eqFields_nil _ _ _ w
/-- are two keys the same -/
def sameK (k o c l r v k' o' c' l' r' v' : Int) : Bool := decide (k = k' ∧ o = o' ∧ c = c' ∧ l = l' ∧ r = r' ∧ v = v')
set_option maxRecDepth 8000 in
theorem sameK_eq (k o c l r v k' o' c' l' r' v' : Int) : (decide (k = k') && (decide (o = o') && (decide (c = c') && (decide (l = l') && (decide (r = r') && (decide (v = v') && true)))))) = sameK k o c l r v k' o' c' l' r' v' := by
  unfold sameK
  rw [Bool.eq_iff_iff]
  simp
set_option maxRecDepth 8000 in
theorem key_eql (w : World) (k o c l r v k' o' c' l' r' v' : Int) : (binOp .eql 26 (.agg (kc k o c l r v)) (.agg (kc k' o' c' l' r' v'))).run Tryd.prog w = .ok (.bool (sameK k o c l r v k' o' c' l' r' v')) w := by
  rw [run_eql_struct, run_equalIn_agg w 9999 26 _ _ (by kernel_rfl) (by kernel_rfl), key_eqFields, sameK_eq]
  rfl
set_option maxRecDepth 8000 in
theorem key_neq (w : World) (k o c l r v k' o' c' l' r' v' : Int) : (binOp .neq 26 (.agg (kc k o c l r v)) (.agg (kc k' o' c' l' r' v'))).run Tryd.prog w = .ok (.bool (!sameK k o c l r v k' o' c' l' r' v')) w := by
  rw [run_neq_struct, run_equalIn_agg w 9999 26 _ _ (by kernel_rfl) (by kernel_rfl), key_eqFields, sameK_eq]
  rfl
end Go.Proofs.YtfclkkbmgclfgaaDoor
namespace Go.Proofs.YtfclkkbmgclfgaaDoor
open Go.RowKit
structure Ky where
  (k o c l r v : Int)
abbrev Ky.val (x : Ky) : Value := .agg (kc x.k x.o x.c x.l x.r x.v)
def Ky.ok (x : Ky) : Prop := OkK x.k x.o x.c x.l x.r x.v
noncomputable def Ky.okB (x : Ky) : Bool := @decide x.ok (Classical.propDecidable _)
set_option maxRecDepth 8000 in
theorem Ky.okB_yes {x : Ky} (h : x.ok) : x.okB = true := by unfold Ky.okB; simpa using h
set_option maxRecDepth 8000 in
theorem Ky.okB_no {x : Ky} (h : ¬ x.ok) : x.okB = false := by unfold Ky.okB; simpa using h
theorem ok_of {x : Ky} (h : x.ok) : (0 ≤ x.k ∧ x.k ≤ 10) ∧ ∃ n : Nat, x.r = n ∧ n ≤ rm x.k ∧ n < 8 := ⟨okK_in h, okK_r h⟩
set_option maxRecDepth 8000 in
/-- a void key -/
theorem void_all {o c l r v : Int} (h : OkK 0 o c l r v) : o = 0 ∧ c = 0 ∧ l = 0 ∧ r = 0 ∧ v = 0 := by
  obtain ⟨n, h0, _, h1, h2, h3, h4, h5, h6, h7, h8, h9⟩ := h
  obtain rfl : n = 0 := by omega
  simp [kOid, kCnt, kCall, kRts, kVal] at h2 h4 h6 h8 h9
  omega
end Go.Proofs.YtfclkkbmgclfgaaDoor
namespace Go.Proofs.YtfclkkbmgclfgaaDoor
open Go.RowKit
/-- 0 of a key that may be, 2 of others -/
noncomputable def Ky.chk (x : Ky) : Int := @ite Int x.ok (Classical.propDecidable _) 0 2
theorem Ky.chk_yes {x : Ky} (h : x.ok) : x.chk = 0 := if_pos h
theorem Ky.chk_no {x : Ky} (h : ¬ x.ok) : x.chk = 2 := if_neg h
set_option maxRecDepth 8000 in
theorem kchk_any (x : Ky) (w : World) (hT : Tab w) : Calls Tryd.prog 13 #[x.val] w fun e w' => e = .returned (.int .i64 x.chk) ∧ Below w.heap.size w w' := by
  by_cases h : x.ok
  · rw [Ky.chk_yes h]; exact chk_ok _ _ _ _ _ _ w hT h
  · rw [Ky.chk_no h]; exact chk_no _ _ _ _ _ _ w hT h
/-- is a key of an object -/
def Ky.of (x : Ky) : Prop := x.ok ∧ 2 ≤ x.k ∧ x.k ≤ 7
set_option maxRecDepth 8000 in
theorem nA_of {x : Ky} (h : x.of) : nA x.k = true := by unfold nA; simpa using h.2
set_option maxRecDepth 8000 in
theorem nA_not {x : Ky} (h : ¬ x.of) (ho : x.ok) : nA x.k = false := by
  unfold nA
  simp only [decide_eq_false_iff_not]
  exact fun h' => h ⟨ho, h'⟩
set_option maxRecDepth 8000 in
theorem wants_of {x : Ky} (h : x.of) : kWants x.k.toNat = if x.k = 3 then 2 else 1 := by
  obtain ⟨k, o, c, l, r, v⟩ := x
  obtain ⟨_, h2, h7⟩ := h
  simp only at h2 h7 ⊢
  have hcase : k = 2 ∨ k = 3 ∨ k = 4 ∨ k = 5 ∨ k = 6 ∨ k = 7 := by omega
  rcases hcase with rfl | rfl | rfl | rfl | rfl | rfl <;> rfl
set_option maxRecDepth 8000 in
theorem wants_not {x : Ky} (h : ¬ x.of) (ho : x.ok) : kWants x.k.toNat = 0 := by
  have hk := okK_in ho
  have h' : ¬ (2 ≤ x.k ∧ x.k ≤ 7) := fun h' => h ⟨ho, h'⟩
  obtain ⟨k, o, c, l, r, v⟩ := x
  simp only at h' hk ⊢
  have hcase : k = 0 ∨ k = 1 ∨ k = 8 ∨ k = 9 ∨ k = 10 := by omega
  rcases hcase with rfl | rfl | rfl | rfl | rfl <;> rfl
/-- what a key wants -/
noncomputable def Ky.want (x : Ky) : Int := @ite Int x.of (Classical.propDecidable _) (if x.k = 3 then 2 else 1) 0
set_option maxRecDepth 8000 in
theorem kwant_any (x : Ky) (w : World) (hT : Tab w) : Calls Tryd.prog 71 #[x.val] w fun e w' => e = .returned (.int .i64 x.want) ∧ Below w.heap.size w w' := by
  unfold Ky.want
  by_cases h : x.of
  · rw [if_pos h, ← wants_of h]; exact wants_any _ _ _ _ _ _ w hT h.1
  · rw [if_neg h]
    by_cases ho : x.ok
    · rw [← wants_not h ho]; exact wants_any _ _ _ _ _ _ w hT ho
    · exact wants_no _ _ _ _ _ _ w hT ho
theorem kname_yes (x : Ky) (w : World) (hT : Tab w) (h : x.of) : Calls Tryd.prog 67 #[x.val] w fun e w' => e = .returned (.tuple #[.int .i64 x.o, .bool true]) ∧ Below w.heap.size w w' :=
  kn_some _ _ _ _ _ _ w hT h.1 (by rw [wants_of h]; split <;> decide)
set_option maxRecDepth 8000 in
theorem kname_no (x : Ky) (w : World) (hT : Tab w) (h : ¬ x.of) : Calls Tryd.prog 67 #[x.val] w fun e w' => e = .returned (.tuple #[.int .i64 0, .bool false]) ∧ Below w.heap.size w w' := by
  by_cases ho : x.ok
  · exact kn_none _ _ _ _ _ _ w hT ho (wants_not h ho)
  · exact kn_no _ _ _ _ _ _ w hT ho
set_option maxRecDepth 8000 in
theorem of_o {x : Ky} (h : x.of) : 0 ≤ x.o := by
  obtain ⟨⟨n, _, _, h0, _⟩, _⟩ := h
  exact h0
theorem kchk_yes (x : Ky) (w : World) (hT : Tab w) (h : x.ok) : Calls Tryd.prog 13 #[x.val] w fun e w' => e = .returned (.int .i64 0) ∧ Below w.heap.size w w' := chk_ok _ _ _ _ _ _ w hT h
theorem kchk_no (x : Ky) (w : World) (hT : Tab w) (h : ¬ x.ok) : Calls Tryd.prog 13 #[x.val] w fun e w' => e = .returned (.int .i64 2) ∧ Below w.heap.size w w' := chk_no _ _ _ _ _ _ w hT h
end Go.Proofs.YtfclkkbmgclfgaaDoor
namespace Go.Proofs.YtfclkkbmgclfgaaDoor
open Go.ChangeShapes Go.WideShapes Go.ChangeAt Go.RowKit
set_option maxRecDepth 8000 in
theorem own : ownKnob Tryd.prog.godebug = none := by kernel_rfl
set_option maxRecDepth 8000 in
theorem laidOut : laidOutB Tryd.prog = true := by kernel_rfl
set_option maxRecDepth 8000 in
theorem gKinds : Tryd.prog.globalNamed "chatelaine/keys.kinds" = some 0 := by kernel_rfl
set_option maxRecDepth 8000 in
theorem tKinds : (Tryd.prog.globals[0]?).map (·.type) = some 79 := by kernel_rfl
abbrev laidK : List (String × DataW Unit) := [("chatelaine/keys.kinds", Rows.laid_chatelaine_keys_kinds)]
set_option maxRecDepth 100000 in
theorem door_met (os : Os) (args : Array Value) : laidMetH Tryd.prog laidK ((World.doorLaid Tryd.prog 40 os).forCall (fun _ _ => 0) ⟨#[], args, []⟩).memory :=
  laidMetH_of_parts3 (fuel := 8) (laidMet_of_run' 8 (by kernel_rfl) (by kernel_rfl)) (by kernel_rfl) (by kernel_rfl)
section
variable {H : Type} {enc : TypeId × Value → H} {W : World} {base : Nat} {spare : Nat → Bool} {held : Bool} {fuel : Nat}
set_option maxRecDepth 8000 in
theorem bool_of {cs : List Value} {x : DataW H × List MemPlace} {n : Nat} (h : DataW.trod enc Tryd.prog W base spare held n 4 cs = some x) : ∃ b : Bool, cs = [.bool b] ∧ x.1 = .lit (.bool b) := by
  obtain ⟨b, h1, h2⟩ := DataW.trod_bool Tryd.underlying4 h
  exact ⟨b, h1, by rw [h2]⟩
set_option maxRecDepth 100000 in
/-- one kind's row of the table, off its datum -/
theorem kind_cells {cs : List Value} {x : DataW H × List MemPlace} (h : DataW.trod enc Tryd.prog W base spare held fuel 78 cs = some x) (nm : List UInt8) (a b c d e : Int) (q : Bool)
    (hx : x.1 = .agg [.lit (.string nm), .lit (.int .i64 a), .lit (.int .i64 b), .lit (.int .i64 c), .lit (.int .i64 d), .lit (.int .i64 e), .lit (.bool q)]) :
    cs = [.string (st nm), .int .i64 a, .int .i64 b, .int .i64 c, .int .i64 d, .int .i64 e, .bool q] := by
  obtain ⟨xs, n, _, hx1, hl, hn, hel⟩ := DataW.trod_struct Tryd.underlying78 h
  have hl7 : cs.length = 7 := hl.trans (by kernel_rfl)
  match cs, hl7 with
  | [c0, c1, c2, c3, c4, c5, c6], _ =>
    match xs, hn with
    | [y0, y1, y2, y3, y4, y5, y6], _ =>
      rw [hx1] at hx
      simp only [List.map_cons, List.map_nil, DataW.agg.injEq, List.cons.injEq, and_true] at hx
      obtain ⟨e0, e1, e2, e3, e4, e5, e6⟩ := hx
      obtain ⟨s, r0, q0, _⟩ := DataW.trod_string Tryd.underlying9 (show DataW.trod enc Tryd.prog W base spare held n 9 [c0] = some y0 from hel 0 _ rfl)
      obtain ⟨n1, r1, q1, _⟩ := DataW.trod_int Tryd.underlying22 (show DataW.trod enc Tryd.prog W base spare held n 22 [c1] = some y1 from hel 1 _ rfl)
      obtain ⟨n2, r2, q2, _⟩ := DataW.trod_int Tryd.underlying3 (show DataW.trod enc Tryd.prog W base spare held n 3 [c2] = some y2 from hel 2 _ rfl)
      obtain ⟨n3, r3, q3, _⟩ := DataW.trod_int Tryd.underlying2 (show DataW.trod enc Tryd.prog W base spare held n 2 [c3] = some y3 from hel 3 _ rfl)
      obtain ⟨n4, r4, q4, _⟩ := DataW.trod_int Tryd.underlying2 (show DataW.trod enc Tryd.prog W base spare held n 2 [c4] = some y4 from hel 4 _ rfl)
      obtain ⟨n5, r5, q5, _⟩ := DataW.trod_int Tryd.underlying24 (show DataW.trod enc Tryd.prog W base spare held n 24 [c5] = some y5 from hel 5 _ rfl)
      obtain ⟨n6, r6, q6⟩ := bool_of (show DataW.trod enc Tryd.prog W base spare held n 4 [c6] = some y6 from hel 6 _ rfl)
      simp only [List.cons.injEq, and_true] at r0 r1 r2 r3 r4 r5 r6
      subst r0 r1 r2 r3 r4 r5 r6
      rw [q0] at e0; rw [q1] at e1; rw [q2] at e2; rw [q3] at e3; rw [q4] at e4; rw [q5] at e5; rw [q6] at e6
      simp only [DataW.lit.injEq, Lit.string.injEq, Lit.int.injEq, Lit.bool.injEq, true_and] at e0 e1 e2 e3 e4 e5 e6
      subst e1 e2 e3 e4 e5 e6
      have : s = st nm := by
        unfold st
        rw [← e0]
      rw [this]
set_option maxRecDepth 100000 in
/-- a key, off its cells -/
theorem key_cells {cs : List Value} {x : DataW H × List MemPlace} (h : DataW.trod enc Tryd.prog W base spare held fuel 26 cs = some x) : ∃ y : Ky, cs = [.int .i64 y.k, .int .i64 y.o, .int .i64 y.c, .int .i64 y.l, .int .i64 y.r, .int .i64 y.v] := by
  obtain ⟨xs, n, _, hx1, hl, hn, hel⟩ := DataW.trod_struct Tryd.underlying26 h
  have hl6 : cs.length = 6 := hl.trans (by kernel_rfl)
  match cs, hl6 with
  | [c0, c1, c2, c3, c4, c5], _ =>
    match xs, hn with
    | [y0, y1, y2, y3, y4, y5], _ =>
      obtain ⟨n0, r0, _, _⟩ := DataW.trod_int Tryd.underlying23 (show DataW.trod enc Tryd.prog W base spare held n 23 [c0] = some y0 from hel 0 _ rfl)
      obtain ⟨n1, r1, _, _⟩ := DataW.trod_int Tryd.underlying3 (show DataW.trod enc Tryd.prog W base spare held n 3 [c1] = some y1 from hel 1 _ rfl)
      obtain ⟨n2, r2, _, _⟩ := DataW.trod_int Tryd.underlying2 (show DataW.trod enc Tryd.prog W base spare held n 2 [c2] = some y2 from hel 2 _ rfl)
      obtain ⟨n3, r3, _, _⟩ := DataW.trod_int Tryd.underlying2 (show DataW.trod enc Tryd.prog W base spare held n 2 [c3] = some y3 from hel 3 _ rfl)
      obtain ⟨n4, r4, _, _⟩ := DataW.trod_int Tryd.underlying24 (show DataW.trod enc Tryd.prog W base spare held n 24 [c4] = some y4 from hel 4 _ rfl)
      obtain ⟨n5, r5, _, _⟩ := DataW.trod_int Tryd.underlying2 (show DataW.trod enc Tryd.prog W base spare held n 2 [c5] = some y5 from hel 5 _ rfl)
      simp only [List.cons.injEq, and_true] at r0 r1 r2 r3 r4 r5
      subst r0 r1 r2 r3 r4 r5
      exact ⟨⟨n0, n1, n2, n3, n4, n5⟩, rfl⟩
set_option maxRecDepth 8000 in
/-- a key that came in -/
theorem open_key {r : Reach} {b0 : Nat} {v : Value} {d : DataW H} {p : List MemPlace} (hv : Value.okWide Tryd.prog W r b0 26 v) (h : DataW.Trod enc Tryd.prog W base spare held 26 v d p) : ∃ y : Ky, v = y.val := by
  obtain ⟨cs, rfl, _⟩ := okWide_struct Tryd.underlying26 hv
  obtain ⟨f, hf⟩ := h
  obtain ⟨y, hy⟩ := key_cells hf
  refine ⟨y, ?_⟩
  obtain ⟨l⟩ := cs
  simp only [Value.cells] at hy
  subst hy
  rfl
end
set_option maxRecDepth 8000 in
/-- the condition gives the table -/
theorem tab_of {W : World} (h : laidMetH Tryd.prog laidK W) : Tab W := by
  rw [MakeChecks.laidMetH_plain _ _ _ (by kernel_rfl)] at h
  obtain ⟨ps, ⟨g0, t0, cs0, f0, p0, q0, hg0, ht0, hv0, hd0, _, _⟩, _, _⟩ := h
  obtain rfl := Option.some.inj (gKinds.symm.trans hg0)
  obtain rfl := Option.some.inj (tKinds.symm.trans ht0)
  obtain ⟨xs, m, _, hx, hl, hn, hel⟩ := DataW.trod_array Tryd.underlying79 hd0
  have c7 : Tryd.prog.cellsOf 78 = 7 := by kernel_rfl
  simp only [c7] at hel
  simp only [Prod.mk.injEq] at hx
  have hx1 := hx.1
  have row : ∀ k, k ≤ 10 → (cs0.toList.drop (k * 7)).take 7 = kCells k := by
    match xs, hn with
    | [x0, x1, x2, x3, x4, x5, x6, x7, x8, x9, x10], _ =>
      unfold Rows.laid_chatelaine_keys_kinds at hx1
      simp only [List.map_cons, List.map_nil, DataW.agg.injEq, List.cons.injEq, and_true] at hx1
      obtain ⟨e0, e1, e2, e3, e4, e5, e6, e7, e8, e9, e10⟩ := hx1
      intro k hk
      have hcase : k = 0 ∨ k = 1 ∨ k = 2 ∨ k = 3 ∨ k = 4 ∨ k = 5 ∨ k = 6 ∨ k = 7 ∨ k = 8 ∨ k = 9 ∨ k = 10 := by omega
      rcases hcase with rfl | rfl | rfl | rfl | rfl | rfl | rfl | rfl | rfl | rfl | rfl
      · exact kind_cells (hel 0 (by decide)) _ _ _ _ _ _ _ e0.symm
      · exact kind_cells (hel 1 (by decide)) _ _ _ _ _ _ _ e1.symm
      · exact kind_cells (hel 2 (by decide)) _ _ _ _ _ _ _ e2.symm
      · exact kind_cells (hel 3 (by decide)) _ _ _ _ _ _ _ e3.symm
      · exact kind_cells (hel 4 (by decide)) _ _ _ _ _ _ _ e4.symm
      · exact kind_cells (hel 5 (by decide)) _ _ _ _ _ _ _ e5.symm
      · exact kind_cells (hel 6 (by decide)) _ _ _ _ _ _ _ e6.symm
      · exact kind_cells (hel 7 (by decide)) _ _ _ _ _ _ _ e7.symm
      · exact kind_cells (hel 8 (by decide)) _ _ _ _ _ _ _ e8.symm
      · exact kind_cells (hel 9 (by decide)) _ _ _ _ _ _ _ e9.symm
      · exact kind_cells (hel 10 (by decide)) _ _ _ _ _ _ _ e10.symm
  intro k hk j u hu
  rw [World.var?_cell hg0 hv0]
  have hj : j < 7 := by
    have := (List.getElem?_eq_some_iff.1 hu).1
    simpa [kCells] using this
  rw [← row k hk, List.getElem?_take, if_pos hj, List.getElem?_drop] at hu
  simpa using hu
end Go.Proofs.YtfclkkbmgclfgaaDoor
namespace Go.Proofs.YtfclkkbmgclfgaaDoor
open Go.ChangeShapes Go.WideShapes Go.ChangeAt Go.RowKit
/-- the six cells of a key -/
def KeyAt (w : World) (b o : Nat) (x : Ky) : Prop :=
  w.cell? ⟨b, o, none⟩ = some (.int .i64 x.k) ∧ w.cell? ⟨b, o + 1, none⟩ = some (.int .i64 x.o) ∧ w.cell? ⟨b, o + 2, none⟩ = some (.int .i64 x.c) ∧ w.cell? ⟨b, o + 3, none⟩ = some (.int .i64 x.l) ∧ w.cell? ⟨b, o + 4, none⟩ = some (.int .i64 x.r) ∧ w.cell? ⟨b, o + 5, none⟩ = some (.int .i64 x.v)
theorem KeyAt.lt {w : World} {b o : Nat} {x : Ky} (h : KeyAt w b o x) : b < w.heap.size := cell_lt h.1
set_option maxRecDepth 8000 in
theorem KeyAt.keep {w w' : World} {b o : Nat} {x : Ky} (h : KeyAt w b o x) (hb : Below w.heap.size w w') : KeyAt w' b o x := by
  have hl := h.lt
  obtain ⟨h0, h1, h2, h3, h4, h5⟩ := h
  exact ⟨(hb.cell (p := ⟨b, o, none⟩) hl).trans h0, (hb.cell (p := ⟨b, o + 1, none⟩) hl).trans h1, (hb.cell (p := ⟨b, o + 2, none⟩) hl).trans h2, (hb.cell (p := ⟨b, o + 3, none⟩) hl).trans h3, (hb.cell (p := ⟨b, o + 4, none⟩) hl).trans h4, (hb.cell (p := ⟨b, o + 5, none⟩) hl).trans h5⟩
theorem KeyAt.drew {w : World} {b o : Nat} {x : Ky} (h : KeyAt w b o x) : KeyAt w.drew b o x := h
theorem KeyAt.six {w : World} {b o : Nat} {x : Ky} (h : KeyAt w b o x) :
    w.cell? ⟨b, o, none⟩ = some (.int .i64 x.k) ∧ w.cell? ⟨b, o + 1, none⟩ = some (.int .i64 x.o) ∧ w.cell? ⟨b, o + 2, none⟩ = some (.int .i64 x.c) ∧ w.cell? ⟨b, o + 3, none⟩ = some (.int .i64 x.l) ∧ w.cell? ⟨b, o + 4, none⟩ = some (.int .i64 x.r) ∧ w.cell? ⟨b, o + 5, none⟩ = some (.int .i64 x.v) := h
/-- the cells from A on read as the keys l -/
def RdK (w : World) (A : Option Addr) (l : List Ky) : Prop := ∀ i (h : i < l.length), ∃ b o, A = some ⟨b, o, none⟩ ∧ KeyAt w b (o + i * 6) l[i]
theorem RdK.drew {w : World} {A : Option Addr} {l : List Ky} (h : RdK w A l) : RdK w.drew A l := h
theorem RdK.keep {w w' : World} {A : Option Addr} {l : List Ky} (h : RdK w A l) (hb : Below w.heap.size w w') : RdK w' A l := fun i hi => by
  obtain ⟨b, o, e, hk⟩ := h i hi
  exact ⟨b, o, e, hk.keep hb⟩
theorem KeyAt.alloc {w : World} {b o : Nat} {x : Ky} (h : KeyAt w b o x) (u : Obj) : KeyAt (w.alloc u) b o x := h.keep ((Below.refl _ _).alloc (Nat.le_refl _) _)
theorem RdK.alloc {w : World} {A : Option Addr} {l : List Ky} (h : RdK w A l) (u : Obj) : RdK (w.alloc u) A l := h.keep ((Below.refl _ _).alloc (Nat.le_refl _) _)
section
variable {H : Type} {enc : TypeId × Value → H} {W : World} {base : Nat} {spare : Nat → Bool} {held : Bool}
set_option maxRecDepth 8000 in
theorem add_add_flat {a : Addr} (h : a.spot = none) (n : Nat) : (a.add n) = ⟨a.block, a.off + n, none⟩ := by
  obtain ⟨b, o, s⟩ := a
  simp only at h
  subst h
  exact add_flat b o n
end
end Go.Proofs.YtfclkkbmgclfgaaDoor

/- spaces, the document's: how its walk stands: words; Each. -/
import Derived.Test.YtfckdbennjkgoaaDoorWSt
import Derived.Test.YtfckdbennjkgoaaDoorWSm
import Derived.Test.YtfckdbennjkgoaaDoorR18
namespace Go.Proofs.YtfckdbennjkgoaaDoor
open Go.RowKit
theorem part0 : part 0 = 64 := rfl
set_option maxRecDepth 8000 in
set_option maxHeartbeats 1000000 in
theorem each_any (m : Nat) (h9 : m ≤ 9) (w : World) : Calls Tryd.prog 29 #[.int .i64 (m : Int)] w fun e w' => e = .returned (.int .i64 (part m : Int)) ∧ w = w' := by
  go_enter Tryd.func29, Tryd.ntmps29
  go_wp2
  go_loopw [3, 4] (fun q3 q4 wr => ∃ i : Nat, 1 ≤ i ∧ (i ≤ m ∨ i = 1) ∧ q3 = .int .i64 (part i : Int) ∧ q4 = .int .i64 i ∧ w = wr) (fun _ q4 _ => m - (intOf q4).toNat)
  case atStart => exact ⟨1, Nat.le_refl _, .inr rfl, rfl, rfl, rfl⟩
  case round =>
    obtain ⟨i, h1, hi, rfl, rfl, rfl⟩ := hrel
    by_cases hlt : i < m
    · have hp : part (i + 1) = part i * 16 := by
        obtain ⟨k, rfl⟩ : ∃ k, i = k + 1 := ⟨i - 1, by omega⟩
        exact part_next k
      have hle : part i ≤ 17179869184 := part_le (by omega)
      obtain ⟨q, hq⟩ : ∃ q, q = part i := ⟨_, rfl⟩
      obtain ⟨q2, hq2⟩ : ∃ q2, q2 = part (i + 1) := ⟨_, rfl⟩
      rw [← hq] at hp hle ⊢
      rw [← hq2] at hp
      have hq2' := Lib.hid hq2
      have e0 : decide ((i : Int) < (m : Int)) = true := decide_eq_true (by omega)
      have e1 : decide (i < m) = true := decide_eq_true hlt
      have s2 : (q : Int) * 16 = (q2 : Int) := by omega
      have s3 : (q2 : Int) ≤ 274877906944 := by omega
      have s4 : (0 : Int) ≤ (q2 : Int) := by omega
      clear hp hq hq2
      go_wp2
      go_roundw
      case rel => exact ⟨i + 1, by omega, .inl (by omega), by rw [hq2'.out], by go_num, by first | rfl | trivial⟩
      case measure => simp [intOf]; omega
    · have e0 : decide ((i : Int) < (m : Int)) = false := decide_eq_false (by omega)
      have e1 : decide (i < m) = false := decide_eq_false hlt
      have hpi : part i = part m := by
        rcases hi with h2 | h2
        · rw [show i = m by omega]
        · subst h2
          rcases Nat.lt_or_ge m 1 with h3 | h3
          · rw [show m = 0 by omega]; rfl
          · rw [show m = 1 by omega]
      clear hi hlt
      go_wp2
      go_ret
      exact ⟨by rw [hpi]; rfl, by first | rfl | trivial⟩
/-- how the document's walk stands: what it tells at w.heap.size + 1 and + 2, its key at g9, its keeper at g13 -/
structure Rq (w W : World) (A : Option Addr) (l : List Oj) (g9 g13 : Nat) (s : Ws) : Prop where
  bel : Below w.heap.size w W
  f6 : Blk W (w.heap.size + 1) 33 zfo.cells.toArray
  f7 : Blk W (w.heap.size + 2) 36 zfa.cells.toArray
  k9 : Blk W g9 31 (kc s.x.k s.x.o s.x.c s.x.l s.x.r s.x.v)
  k13 : Blk W g13 31 (kc s.kp.k s.kp.o s.kp.c s.kp.l s.kp.r s.kp.v)
  row : RdO W A l
  o9 : w.heap.size + 2 < g9
  o13 : g9 < g13
  rlt : ∀ a, A = some a → a.block < w.heap.size
/-- the same within a round: a fault at g15, and blocks made behind it -/
structure Rw (w W : World) (A : Option Addr) (l : List Oj) (g9 g13 : Nat) (s : Ws) (g15 : Nat) (fa : Fa) (bs : List (Nat × TypeId × Array Value)) : Prop where
  q : Rq w W A l g9 g13 s
  a15 : Blk W g15 36 fa.cells.toArray
  o15 : g13 < g15
  blk : ∀ b ∈ bs, g15 < b.1 ∧ Blk W b.1 b.2.1 b.2.2
section
variable {w W W' : World} {A : Option Addr} {l : List Oj} {g9 g13 g15 : Nat} {s : Ws} {fa : Fa} {bs : List (Nat × TypeId × Array Value)} {t : TypeId} {c : Array Value} {g : Nat}
theorem Rq.below (h : Rq w W A l g9 g13 s) (hb : Below W.heap.size W W') : Rq w W' A l g9 g13 s :=
  ⟨h.bel.trans (hb.mono h.bel.size), h.f6.keep hb, h.f7.keep hb, h.k9.keep hb, h.k13.keep hb, h.row.below hb, h.o9, h.o13, h.rlt⟩
theorem Rq.alloc (h : Rq w W A l g9 g13 s) (o : Obj) : Rq w (W.alloc o) A l g9 g13 s := h.below ((Below.refl _ _).alloc (Nat.le_refl _) _)
theorem RdO.far_row {b : Nat} (h : RdO W A l) (hr : ∀ a, A = some a → a.block ≠ b) (c : Array Value) : RdO (W.setRow b c) A l := fun i hi => by
  obtain ⟨b', off, e, ho⟩ := h i hi
  exact ⟨b', off, e, ho.keep (setRow_other W b b' c (hr _ e))⟩
/-- a block behind the keeper is another one -/
theorem Rq.row_far (h : Rq w W A l g9 g13 s) (hg : g13 < g) (c : Array Value) : Rq w (W.setRow g c) A l g9 g13 s :=
  have h1 := h.o9
  have h2 := h.o13
  ⟨below_setRow h.bel (by omega) c, h.f6.row_far (by omega) c, h.f7.row_far (by omega) c, h.k9.row_far (by omega) c, h.k13.row_far (by omega) c, h.row.far_row (fun a e => by have := h.rlt a e; omega) c, h.o9, h.o13, h.rlt⟩
theorem Rq.cell_far (h : Rq w W A l g9 g13 s) (hg : g13 < g) (i : Nat) (v : Value) : Rq w (W.setCell ⟨g, i, none⟩ v) A l g9 g13 s :=
  have h1 := h.o9
  have h2 := h.o13
  ⟨h.bel.setCell (by show w.heap.size ≤ g; omega) v, h.f6.far (p := ⟨g, i, none⟩) (by show _ ≠ g; omega) v, h.f7.far (p := ⟨g, i, none⟩) (by show _ ≠ g; omega) v, h.k9.far (p := ⟨g, i, none⟩) (by show _ ≠ g; omega) v, h.k13.far (p := ⟨g, i, none⟩) (by show _ ≠ g; omega) v,
    fun j hj => by
      obtain ⟨b', off, e, ho⟩ := h.row j hj
      exact ⟨b', off, e, ho.keep (Below.heap_setCell W _ _ _ (by have := h.rlt _ e; show b' ≠ g; simp only at this; omega))⟩, h.o9, h.o13, h.rlt⟩
theorem Rq.rights (h : Rq w W A l g9 g13 s) (r : Int) : Rq w (W.setCell ⟨g9, 4, none⟩ (.int .i64 r)) A l g9 g13 { s with x := { s.x with r := r } } :=
  have h1 := h.o9
  have h2 := h.o13
  ⟨h.bel.setCell (by show w.heap.size ≤ g9; omega) _, h.f6.far (p := ⟨g9, 4, none⟩) (by show _ ≠ g9; omega) _, h.f7.far (p := ⟨g9, 4, none⟩) (by show _ ≠ g9; omega) _, h.k9.set_ 4 (.int .i64 r), h.k13.far (p := ⟨g9, 4, none⟩) (by show _ ≠ g9; omega) _,
    fun j hj => by
      obtain ⟨b', off, e, ho⟩ := h.row j hj
      exact ⟨b', off, e, ho.keep (Below.heap_setCell W _ _ _ (by have := h.rlt _ e; show b' ≠ g9; simp only at this; omega))⟩, h.o9, h.o13, h.rlt⟩
theorem Rw.below (h : Rw w W A l g9 g13 s g15 fa bs) (hb : Below W.heap.size W W') : Rw w W' A l g9 g13 s g15 fa bs :=
  ⟨h.q.below hb, h.a15.keep hb, h.o15, fun b hm => ⟨(h.blk b hm).1, (h.blk b hm).2.keep hb⟩⟩
theorem Rw.alloc (h : Rw w W A l g9 g13 s g15 fa bs) (o : Obj) : Rw w (W.alloc o) A l g9 g13 s g15 fa bs := h.below ((Below.refl _ _).alloc (Nat.le_refl _) _)
theorem Rw.drew (h : Rw w W A l g9 g13 s g15 fa bs) : Rw w W.drew A l g9 g13 s g15 fa bs := h.below (below_drew (Below.refl _ _))
theorem Rw.more (h : Rw w W A l g9 g13 s g15 fa bs) (c : Array Value) (t : TypeId) {g : Nat} (hg : g = W.heap.size) : Rw w (W.alloc (.cells c t)) A l g9 g13 s g15 fa ((g, t, c) :: bs) :=
  ⟨h.q.alloc _, h.a15.alloc _, h.o15, fun b hm => by
    rcases List.mem_cons.1 hm with rfl | hm
    · exact ⟨by have := h.a15.lt; show g15 < g; omega, Blk.new_of W t c hg⟩
    · exact ⟨(h.blk b hm).1, (h.blk b hm).2.alloc _⟩⟩
theorem Rw.bare (h : Rw w W A l g9 g13 s g15 fa bs) : Rw w W A l g9 g13 s g15 fa [] := ⟨h.q, h.a15, h.o15, fun _ hm => by cases hm⟩
theorem Rw.new (h : Rq w W A l g9 g13 s) (fa : Fa) {g : Nat} (hg : g = W.heap.size) : Rw w (W.alloc (.cells fa.cells.toArray 36)) A l g9 g13 s g fa [] :=
  ⟨h.alloc _, Blk.new_of W _ _ hg, by have := h.k13.lt; omega, fun _ hm => by cases hm⟩
theorem Rw.kind (h : Rw w W A l g9 g13 s g15 fa bs) (k : Int) : Rw w (W.setCell ⟨g15, 0, none⟩ (.int .i64 k)) A l g9 g13 s g15 { fa with k := k } bs :=
  ⟨h.q.cell_far h.o15 0 _, h.a15.set_ 0 (.int .i64 k), h.o15, fun b hm => ⟨(h.blk b hm).1, (h.blk b hm).2.far (p := ⟨g15, 0, none⟩) (by have := (h.blk b hm).1; show b.1 ≠ g15; omega) _⟩⟩
theorem Rw.held (h : Rw w W A l g9 g13 s g15 fa bs) (k : Ky) : Rw w (W.setRow g15 (Fa.cells { fa with kp := k }).toArray) A l g9 g13 s g15 { fa with kp := k } bs :=
  ⟨h.q.row_far h.o15 _, h.a15.setRow _, h.o15, fun b hm => ⟨(h.blk b hm).1, (h.blk b hm).2.row_far (by have := (h.blk b hm).1; omega) _⟩⟩
theorem Rw.keeper (h : Rw w W A l g9 g13 s g15 fa bs) (k : Ky) : Rw w (W.setRow g13 (kl k).toArray) A l g9 g13 { s with kp := k } g15 fa bs :=
  have h1 := h.q.o9
  have h2 := h.q.o13
  ⟨⟨below_setRow h.q.bel (by omega) _, h.q.f6.row_far (by omega) _, h.q.f7.row_far (by omega) _, h.q.k9.row_far (by omega) _, h.q.k13.setRow _, h.q.row.far_row (fun a e => by have := h.q.rlt a e; omega) _, h.q.o9, h.q.o13, h.q.rlt⟩,
    h.a15.row_far (by have := h.o15; omega) _, h.o15, fun b hm => ⟨(h.blk b hm).1, (h.blk b hm).2.row_far (by have := (h.blk b hm).1; have := h.o15; omega) _⟩⟩
theorem Rw.at_ (h : Rw w W A l g9 g13 s g15 fa bs) (k : Ky) : Rq w (W.setRow g9 (kl k).toArray) A l g9 g13 { s with x := k } :=
  have h1 := h.q.o9
  have h2 := h.q.o13
  ⟨below_setRow h.q.bel (by omega) _, h.q.f6.row_far (by omega) _, h.q.f7.row_far (by omega) _, h.q.k9.setRow _, h.q.k13.row_far (by omega) _, h.q.row.far_row (fun a e => by have := h.q.rlt a e; omega) _, h.q.o9, h.q.o13, h.q.rlt⟩
/-- only the key, the keeper count of how a walk stands -/
theorem Rw.as (h : Rw w W A l g9 g13 s g15 fa bs) (s' : Ws) (h1 : s'.x = s.x) (h2 : s'.kp = s.kp) : Rw w W A l g9 g13 s' g15 fa bs :=
  ⟨⟨h.q.bel, h.q.f6, h.q.f7, by rw [h1]; exact h.q.k9, by rw [h2]; exact h.q.k13, h.q.row, h.q.o9, h.q.o13, h.q.rlt⟩, h.a15, h.o15, h.blk⟩
theorem Rq.as (h : Rq w W A l g9 g13 s) (s' : Ws) (h1 : s'.x = s.x) (h2 : s'.kp = s.kp) : Rq w W A l g9 g13 s' :=
  ⟨h.bel, h.f6, h.f7, by rw [h1]; exact h.k9, by rw [h2]; exact h.k13, h.row, h.o9, h.o13, h.rlt⟩
/-- what is told at the end -/
theorem Rq.told (h : Rq w W A l g9 g13 s) (fo : Fo) (f : Fa) : Below w.heap.size w ((W.setRow (w.heap.size + 1) fo.cells.toArray).setRow (w.heap.size + 2) f.cells.toArray) ∧ Blk ((W.setRow (w.heap.size + 1) fo.cells.toArray).setRow (w.heap.size + 2) f.cells.toArray) (w.heap.size + 1) 33 fo.cells.toArray ∧ Blk ((W.setRow (w.heap.size + 1) fo.cells.toArray).setRow (w.heap.size + 2) f.cells.toArray) (w.heap.size + 2) 36 f.cells.toArray :=
  ⟨below_setRow (below_setRow h.bel (by omega) _) (by omega) _, (h.f6.setRow _).row_far (by omega) _, (h.f7.row_far (by omega) _).setRow _⟩
end
theorem z59 (w : World) : (zeroValue 33).run Tryd.prog w = .ok (.agg zfo.cells.toArray) w := (zero_of_info zeroFo).1 w
theorem z35 (w : World) : (zeroValue 36).run Tryd.prog w = .ok (.agg zfa.cells.toArray) w := (zero_of_info zeroFa).1 w
set_option maxRecDepth 8000 in
theorem res_2t {P : Program} {fn : Func} {p q r : Tmp} {t t' : TypeId} (h : fn.results = #[.cell p t, .cell q t', .tmp r]) (tmps : Array Value) (w : World) (g g' : Nat) (v v' u : Value) (hp : tmps.getD p undef = .pointer (some ⟨g, 0, none⟩)) (hq : tmps.getD q undef = .pointer (some ⟨g', 0, none⟩)) (hr : tmps.getD r undef = u) (hl : (loadVar t ⟨g, 0, none⟩).run P w = .ok v w) (hl' : (loadVar t' ⟨g', 0, none⟩).run P w = .ok v' w) : (results fn tmps).run P w = .ok (.tuple #[v, v', u]) w := by
  have hp' : tmps[p]?.getD undef = .pointer (some ⟨g, 0, none⟩) := by simpa using hp
  have hq' : tmps[q]?.getD undef = .pointer (some ⟨g', 0, none⟩) := by simpa using hq
  have hr' : tmps[r]?.getD undef = u := by simpa using hr
  simp [results, h, hp', hq', hr', asAddr, hl, hl']
/-- the rights that are gathered bit by bit -/
def rBit (r x i : Nat) : Nat := r ||| x % 2 ^ i
def rOk (i r x : Nat) : Bool := (if x / 2 ^ i % 2 == 1 && rBit r x i / 2 ^ i % 2 == 0 then rBit r x i + 2 ^ i == rBit r x (i + 1) else rBit r x i == rBit r x (i + 1)) && decide (rBit r x i < 8)
set_option maxRecDepth 8000 in
theorem rOk_all : ∀ i, i < 3 → ∀ r, r < 8 → ∀ x, x < 8 → rOk i r x = true := by decide +kernel
set_option maxRecDepth 8000 in
theorem rBit_yes (i : Nat) (hi : i < 3) (r : Nat) (hr : r < 8) (x : Nat) (hx : x < 8) : (x / 2 ^ i % 2 = 1 ∧ rBit r x i / 2 ^ i % 2 = 0 → rBit r x i + 2 ^ i = rBit r x (i + 1)) ∧ (¬ (x / 2 ^ i % 2 = 1 ∧ rBit r x i / 2 ^ i % 2 = 0) → rBit r x i = rBit r x (i + 1)) ∧ rBit r x i < 8 := by
  have h := rOk_all i hi r hr x hx
  unfold rOk at h
  rw [Bool.and_eq_true, decide_eq_true_eq] at h
  refine ⟨fun hh => ?_, fun hh => ?_, h.2⟩
  · have h1 := h.1
    rw [if_pos (by simpa using hh)] at h1
    simpa using h1
  · have h1 := h.1
    rw [if_neg (by simpa using hh)] at h1
    simpa using h1
set_option maxRecDepth 8000 in
theorem rBit_0 (r x : Nat) : rBit r x 0 = r := by unfold rBit; rw [Nat.pow_zero, Nat.mod_one, Nat.or_zero]
set_option maxRecDepth 8000 in
theorem rBit_3 (r x : Nat) (hx : x < 8) : rBit r x 3 = r ||| x := by unfold rBit; rw [show 2 ^ 3 = 8 from rfl, Nat.mod_eq_of_lt hx]
end Go.Proofs.YtfckdbennjkgoaaDoor

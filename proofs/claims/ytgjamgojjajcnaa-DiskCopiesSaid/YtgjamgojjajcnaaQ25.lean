/- law 2: DiskFails, how both stand. -/
import Derived.Test.YtgjamgojjajcnaaQ13
namespace Go.Proofs.Ytgjamgojjajcnaa.diskFails
open Go.RowKit
attribute [local go_sem] Oper.semAt_some
set_option maxRecDepth 8000 in
theorem small_yes (w : World) (n : Nat) (h1 : 1 ≤ n) (h2 : n ≤ 12) : Calls Try.prog 8 #[.int .i64 (n : Int)] w fun e w' => e = .returned (.bool true) ∧ w = w' := by
  have := small_any w (n : Int)
  rw [show (decide (1 ≤ (n : Int)) && decide ((n : Int) ≤ 12)) = true by simp; omega] at this
  exact this
set_option maxRecDepth 8000 in
theorem small_no (w : World) (n : Int) (h : n < 1 ∨ 12 < n) : Calls Try.prog 8 #[.int .i64 n] w fun e w' => e = .returned (.bool false) ∧ w = w' := by
  have := small_any w n
  rw [show (decide (1 ≤ n) && decide (n ≤ 12)) = false by simp; omega] at this
  exact this
/-- which steps fail is the same by both -/
def Rel (D : Dk) (s : Nat) (fl : List Int) : Prop := D.steps = s ∧ D.waits = [] ∧ ∀ n : Int, (s : Int) ≤ n → n ≤ 9223372036854775807 → D.fails (n - (D.frm : Int)) = decide (n ∈ fl)
set_option maxRecDepth 8000 in
theorem Rel.next {D : Dk} {s : Nat} {fl : List Int} (h : Rel D s fl) (hs : s ≤ 1000000) : D.next = decide ((s : Int) ∈ fl) := by
  unfold Dk.next
  rw [h.1]
  exact h.2.2 s (Int.le_refl _) (by omega)
set_option maxRecDepth 8000 in
theorem Rel.stepped {D : Dk} {s : Nat} {fl : List Int} (h : Rel D s fl) : Rel D.stepped (s + 1) fl := by
  refine ⟨by show D.steps + 1 = s + 1; rw [h.1], h.2.1, fun n h1 h2 => ?_⟩
  show (if n - (D.frm : Int) = (D.steps : Int) - (D.frm : Int) then false else D.fails (n - (D.frm : Int))) = _
  rw [if_neg (by rw [h.1]; omega)]
  exact h.2.2 n (by omega) h2
theorem Rel.flushed {D : Dk} {s : Nat} {fl : List Int} (h : Rel D s fl) : Rel D.flushed s fl := ⟨h.1, rfl, h.2.2⟩
set_option maxRecDepth 8000 in
theorem Rel.failing {D : Dk} {s : Nat} {fl : List Int} (h : Rel D s fl) (l : List Int) : Rel (D.failing l) s (failR s l) := by
  refine ⟨h.1, h.2.1, fun n h1 h2 => ?_⟩
  show l.contains (n - (D.steps : Int)) = _
  rw [h.1, List.contains_eq_mem]
  congr 1
  unfold failR
  simp only [List.mem_map, List.mem_filter, decide_eq_true_eq, eq_iff_iff]
  constructor
  · intro hm
    exact ⟨_, ⟨hm, by omega⟩, by omega⟩
  · rintro ⟨x, ⟨hx, _⟩, rfl⟩
    rw [show (s : Int) + x - (s : Int) = x by omega]
    exact hx
theorem RdI.fr {S : Nat → Prop} {w w' : World} {A : Option Addr} {l : List Int} (h : RdI w A l) (hf : Fr S w w') (hn : ∀ b off, A = some ⟨b, off, none⟩ → ¬ S b) : RdI w' A l := fun j hj => by
  obtain ⟨b, off, e, hc⟩ := h j hj
  exact ⟨b, off, e, (hf.cell (p := ⟨b, off + j, none⟩) (cell_lt hc) (hn b off e)).trans hc⟩
/-- how both stand in a world -/
structure St (w W : World) (p b8 : Nat) (pl : Pl) (D : Dk) (r : Rp) (s : Nat) (fl : List Int) : Prop where
  da : DiskAt W w.heap.size p pl D
  be : Below w.heap.size w W
  p8 : Blk W b8 34 (r.cells s)
  h8 : ¬ pl.has p b8
  ge : w.heap.size ≤ b8
  ri : RdI W r.A3 fl
  n3 : fl.length = r.n3
  hd : ∀ b off, r.A3 = some ⟨b, off, none⟩ → ¬ pl.has p b ∧ b ≠ b8 ∧ b < W.heap.size
  h2 : r.A2 = none ∧ r.n2 = 0 ∧ r.c2 = 0
  sm : r.n3 ≤ 1000
section
variable {w W W' : World} {p b8 : Nat} {pl pl' : Pl} {D D' : Dk} {r : Rp} {s : Nat} {fl : List Int}
theorem St.below (h : St w W p b8 pl D r s fl) (hb : Below W.heap.size W W') : St w W' p b8 pl D r s fl :=
  { h with
    da := h.da.below hb
    be := h.be.trans (hb.mono h.be.size)
    p8 := h.p8.below hb h.p8.lt
    ri := h.ri.below hb
    hd := fun b off e => ⟨(h.hd b off e).1, (h.hd b off e).2.1, Nat.lt_of_lt_of_le (h.hd b off e).2.2 hb.size⟩ }
theorem St.alloc (h : St w W p b8 pl D r s fl) (o : Obj) : St w (W.alloc o) p b8 pl D r s fl := h.below ((Below.refl _ W).alloc (Nat.le_refl _) o)
theorem St.drew (h : St w W p b8 pl D r s fl) : St w W.drew p b8 pl D r s fl := { h with da := h.da.drew, be := h.be.drew, p8 := drew_blk h.p8, ri := h.ri }
/-- a call of the disk -/
theorem St.disk (h : St w W p b8 pl D r s fl) (hd : DiskAt W' w.heap.size p pl' D') (hf : Fr (pl.has p) W W') (hs : ∀ k, pl'.has p k → pl.has p k ∨ W.heap.size ≤ k) : St w W' p b8 pl' D' r s fl :=
  { h with
    da := hd
    be := h.be.trans (hf.to_below (fun k hk => (h.da.lt k hk).2) h.be.size)
    p8 := hf.keepBlk h.p8 h.h8
    h8 := fun hk => (hs _ hk).elim h.h8 (fun hk => by have := h.p8.lt; omega)
    ri := RdI.fr h.ri hf (fun b off e => (h.hd b off e).1)
    hd := fun b off e => ⟨fun hk => (hs _ hk).elim (h.hd b off e).1 (fun h1 => by have := (h.hd b off e).2.2; omega), (h.hd b off e).2.1, Nat.lt_of_lt_of_le (h.hd b off e).2.2 hf.size⟩ }
set_option maxRecDepth 8000 in
theorem has_empty (pl : Pl) (p k : Nat) (h : ({ pl with wv := .slice none 0 0 } : Pl).has p k) : pl.has p k := by
  rcases h with h | h | h | h
  · exact .inl h
  · exact .inr (.inl h)
  · cases h
  · exact .inr (.inr (.inr h))
set_option maxRecDepth 8000 in
theorem has_fails (pl : Pl) (p k f : Nat) (h : ({ pl with f := some f } : Pl).has p k) : pl.has p k ∨ k = f := by
  rcases h with h | h | h | h
  · exact .inl (.inl h)
  · exact .inl (.inr (.inl h))
  · exact .inl (.inr (.inr (.inl h)))
  · exact .inr (by injection h with h; exact h.symm)
set_option maxRecDepth 8000 in
theorem st_flush {s0 : Nat} (h : St w W p b8 pl D r s fl) (hr : Rel D s0 fl) (hs : s0 ≤ 1000) (no : Int) (hno : ((s0 : Int) ∈ fl ∧ no = 120) ∨ (¬ ((s0 : Int) ∈ fl) ∧ no = 0)) :
    Calls Try.prog 24 #[.pointer (some ⟨p, 0, none⟩)] W fun e W' => e = .returned (.int .i64 no) ∧ ∃ pl' D', St w W' p b8 pl' D' r s fl ∧ Rel D' (s0 + 1) fl := by
  have hn := hr.next (by omega)
  have hw : D.waits.length ≤ 1000000 := by rw [hr.2.1]; exact Nat.zero_le _
  have hst : D.steps < 1000000 := by rw [hr.1]; omega
  rcases hno with ⟨hm, rfl⟩ | ⟨hm, rfl⟩
  · refine (flush_fails h.da hst (by rw [hn]; simpa using hm)).mono ?_
    rintro e W' ⟨rfl, hd, hf⟩
    exact ⟨rfl, _, _, h.disk hd hf (fun k hk => .inl hk), hr.stepped⟩
  · refine (flush_goes h.da hw hst (by rw [hn]; simpa using hm)).mono ?_
    rintro e W' ⟨rfl, hd, hf⟩
    exact ⟨rfl, _, _, h.disk hd hf (fun k hk => .inl (has_empty _ _ _ hk)), hr.stepped.flushed⟩
/-- want is stored anew -/
theorem St.store (h : St w W p b8 pl D r s fl) {r' : Rp} {s' : Nat} {fl' : List Int} (hri : RdI W r'.A3 fl') (n3 : fl'.length = r'.n3) (hd : ∀ b off, r'.A3 = some ⟨b, off, none⟩ → ¬ pl.has p b ∧ b ≠ b8 ∧ b < W.heap.size) (h2 : r'.A2 = none ∧ r'.n2 = 0 ∧ r'.c2 = 0) (sm : r'.n3 ≤ 1000) :
    St w ((((W.setCell ⟨b8, 0, none⟩ (.slice r'.A1 r'.n1 r'.c1)).setCell ⟨b8, 1, none⟩ (.slice r'.A2 r'.n2 r'.c2)).setCell ⟨b8, 2, none⟩ (.int .i64 (s' : Int))).setCell ⟨b8, 3, none⟩ (.slice r'.A3 r'.n3 r'.c3)) p b8 pl D r' s' fl' where
  da := h.da.keep (fun k hk => by
    have hne : k ≠ b8 := fun e => h.h8 (e ▸ hk)
    rw [Below.heap_setCell _ _ _ k hne, Below.heap_setCell _ _ _ k hne, Below.heap_setCell _ _ _ k hne, Below.heap_setCell _ _ _ k hne])
  be := four_below h.be h.ge _ _ _ _
  p8 := four_set h.p8 _ _ _ _
  h8 := h.h8
  ge := h.ge
  ri := fun j hj => by
    obtain ⟨b, off, e, hc⟩ := hri j hj
    have hne := (hd b off e).2.1
    refine ⟨b, off, e, ?_⟩
    rw [World.cell?_setCell_far _ _ _ _ (Ne.symm hne), World.cell?_setCell_far _ _ _ _ (Ne.symm hne), World.cell?_setCell_far _ _ _ _ (Ne.symm hne), World.cell?_setCell_far _ _ _ _ (Ne.symm hne)]
    exact hc
  n3 := n3
  hd := fun b off e => ⟨(hd b off e).1, (hd b off e).2.1, by simpa [World.setCell] using (hd b off e).2.2⟩
  h2 := h2
  sm := sm
set_option maxRecDepth 8000 in
theorem st_fail_pos (h : St w W p b8 pl D r s fl) (hr : Rel D s fl) (A : Option Addr) (cap : Nat) (l : List Int) (hl : l.length ≤ 1000) (ri : RdI W A l) (hp : ∀ x ∈ l, 0 ≤ x) :
    Calls Try.prog 20 #[.pointer (some ⟨p, 0, none⟩), .slice A l.length cap] W fun e W' => e = .returned (.int .i64 0) ∧ ∃ pl' D', St w W' p b8 pl' D' r s fl ∧ Rel D' s (failR s l) := by
  refine (fail_any h.da h.be.size A cap l (by omega) ri).mono ?_
  rintro e W' (⟨_, rfl, ⟨f, hd, hf⟩, hfr⟩ | ⟨⟨x, hx, hx0⟩, _⟩)
  · exact ⟨rfl, _, _, h.disk hd hfr (fun k hk => (has_fails _ _ _ _ hk).elim .inl (fun e => .inr (by omega))), hr.failing l⟩
  · have := hp x hx
    omega
set_option maxRecDepth 8000 in
theorem st_fail_neg (h : St w W p b8 pl D r s fl) (A : Option Addr) (cap : Nat) (l : List Int) (hl : l.length ≤ 1000) (ri : RdI W A l) (hp : ∃ x ∈ l, x < 0) :
    Calls Try.prog 20 #[.pointer (some ⟨p, 0, none⟩), .slice A l.length cap] W fun e W' => e = .returned (.int .i64 2) ∧ St w W' p b8 pl D r s fl := by
  refine (fail_any h.da h.be.size A cap l (by omega) ri).mono ?_
  rintro e W' (⟨hpos, _⟩ | ⟨_, rfl, hb⟩)
  · obtain ⟨x, hx, hx0⟩ := hp
    have := hpos x hx
    omega
  · exact ⟨rfl, h.below hb⟩
set_option maxRecDepth 8000 in
theorem st_rfail_pos (h : St w W p b8 pl D r s fl) (hs : s ≤ 1000) (A : Option Addr) (cap : Nat) (l : List Int) (hl : l.length ≤ 1000) (ri : RdI W A l) (hwf : ∀ x ∈ l, x ≤ 9223372036854775807) (hp : ∀ x ∈ l, 0 ≤ x) :
    Calls Try.prog 34 #[r.val s, .slice A l.length cap] W fun e W' => ∃ A3 c3, e = .returned (.tuple #[Rp.val { r with A3 := A3, n3 := (failR s l).length, c3 := c3 } s, .int .i64 0]) ∧ St w W' p b8 pl D r s fl ∧ RdI W' A3 (failR s l) ∧
      ∀ b off, A3 = some ⟨b, off, none⟩ → ¬ pl.has p b ∧ b ≠ b8 ∧ b < W'.heap.size := by
  refine (rfail_any W r s (by omega) A cap l (by omega) ri hwf).mono ?_
  rintro e W' (⟨_, A3, c3, rfl, hri, hb, hbl⟩ | ⟨⟨x, hx, hx0⟩, _⟩)
  · refine ⟨A3, c3, rfl, h.below hbl, hri, fun b off e => ⟨fun hk => ?_, fun e2 => ?_, (hb b off e).2⟩⟩
    · have := (h.da.lt b hk).1
      have := (hb b off e).1
      omega
    · have := h.p8.lt
      have := (hb b off e).1
      omega
  · have := hp x hx
    omega
set_option maxRecDepth 8000 in
theorem st_rfail_neg (h : St w W p b8 pl D r s fl) (hs : s ≤ 1000) (A : Option Addr) (cap : Nat) (l : List Int) (hl : l.length ≤ 1000) (ri : RdI W A l) (hwf : ∀ x ∈ l, x ≤ 9223372036854775807) (hp : ∃ x ∈ l, x < 0) :
    Calls Try.prog 34 #[r.val s, .slice A l.length cap] W fun e W' => e = .returned (.tuple #[r.val s, .int .i64 2]) ∧ St w W' p b8 pl D r s fl := by
  refine (rfail_any W r s (by omega) A cap l (by omega) ri hwf).mono ?_
  rintro e W' (⟨hpos, _⟩ | ⟨_, rfl, hb⟩)
  · obtain ⟨x, hx, hx0⟩ := hp
    have := hpos x hx
    omega
  · exact ⟨rfl, h.below hb⟩
theorem rdI3 (W : World) : RdI (W.alloc (.cells #[.int .i64 1, .int .i64 3, .int .i64 4] 3)) (some ⟨W.heap.size, 0, none⟩) [1, 3, 4] := fun j hj => by
  refine ⟨_, 0, rfl, ?_⟩
  rw [Nat.zero_add, (Blk.new W 3 #[.int .i64 1, .int .i64 3, .int .i64 4]).cell]
  match j, hj with
  | 0, _ => rfl
  | 1, _ => rfl
  | 2, _ => rfl
set_option maxRecDepth 8000 in
theorem rdI3' (W : World) (n : Nat) (h : n = W.heap.size) : RdI (W.alloc (.cells #[.int .i64 1, .int .i64 3, .int .i64 4] 3)) (some ⟨n, 0, none⟩) [1, 3, 4] := by
  subst h
  exact rdI3 W
theorem st_begin {w W1 : World} {p : Nat} {pl : Pl} {D : Dk} {A1 : Option Addr} {n1 c1 : Nat} (da : DiskAt W1 w.heap.size p pl D) (hb : Below w.heap.size w W1) :
    St w (W1.alloc (.cells #[.slice A1 n1 c1, .slice none 0 0, .int .i64 0, .slice none 0 0] 34)) p W1.heap.size pl D ⟨A1, n1, c1, none, 0, 0, none, 0, 0⟩ 0 [] where
  da := da.alloc _
  be := hb.alloc hb.size _
  p8 := Blk.new W1 _ _
  h8 := fun hk => by have := (da.lt _ hk).1; omega
  ge := hb.size
  ri := fun j hj => absurd hj (by simp)
  n3 := rfl
  hd := fun b off e => nomatch e
  h2 := ⟨rfl, rfl, rfl⟩
  sm := Nat.zero_le _
end
end Go.Proofs.Ytgjamgojjajcnaa.diskFails

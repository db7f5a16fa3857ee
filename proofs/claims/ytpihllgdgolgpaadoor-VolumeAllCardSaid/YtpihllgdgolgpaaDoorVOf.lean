/- volume: which part a sector is of; the place. -/
import Derived.Test.YtpihllgdgolgpaaDoorVFit
import Derived.WalkMore
namespace Go.Proofs.YtpihllgdgolgpaaDoor
open Go.RowKit
attribute [local go_sem] Oper.semAt_some
/-- the part that a sector is of -/
def pofF : List Pt → Int → Option Pt
  | [], _ => none
  | r :: l, s => if s < r.f then none else if s < r.t then some r else pofF l s
set_option maxRecDepth 8000 in
theorem drop_at {α : Type} {l : List α} {k : Nat} {x : α} (h : l[k]? = some x) : l.drop k = x :: l.drop (k + 1) := by
  obtain ⟨hk, rfl⟩ := List.getElem?_eq_some_iff.1 h
  exact List.drop_eq_getElem_cons hk
set_option maxRecDepth 8000 in
theorem pspot_any (r : Pt) (s : Int) (w : World) (hf : 0 ≤ r.f ∧ r.f ≤ 100000) (hs : 0 ≤ s ∧ s ≤ 100000) : Calls Tryd.prog 18 #[r.val, .int .i64 s] w fun e w' => e = .returned (Sp.val ⟨r.k, r.a, s - r.f⟩) ∧ Below w.heap.size w w' := by
  have HB0 := Lib.hid ((Below.refl w.heap.size w).alloc (Nat.le_refl _) (.cells r.cs.toArray 40))
  obtain ⟨k, a, f, t⟩ := r
  simp only at hf
  go_enter Tryd.func18, Tryd.ntmps18
  go_wp2
  refine bodyPost_ret (v := Sp.val ⟨k, a, s - f⟩) (by simp [results, Tryd.results18, go_sem]) rfl ?_
  exact ⟨rfl, (HB0.out.alloc HB0.out.size _)⟩
/-- four cells stored into a block of the call's own -/
abbrev set4 (w : World) (g : Nat) (a b c d : Value) : World := (((w.setCell ⟨g, 0, none⟩ a).setCell ⟨g, 1, none⟩ b).setCell ⟨g, 2, none⟩ c).setCell ⟨g, 3, none⟩ d
theorem below_set4 {w : World} {B : Nat} {a : World} {g : Nat} (h : Below B a w) (hg : B ≤ g) (v0 v1 v2 v3 : Value) : Below B a (set4 w g v0 v1 v2 v3) :=
  (((h.setCell (p := ⟨g, 0, none⟩) hg v0).setCell (p := ⟨g, 1, none⟩) hg v1).setCell (p := ⟨g, 2, none⟩) hg v2).setCell (p := ⟨g, 3, none⟩) hg v3
set_option maxRecDepth 8000 in
theorem Blk.set4 {w : World} {g : Nat} {t : TypeId} {a b c d a' b' c' d' : Value} (h : Blk w g t #[a, b, c, d]) : Blk (set4 w g a' b' c' d') g t #[a', b', c', d'] := by
  have := (((h.set_ 0 a').set_ 1 b').set_ 2 c').set_ 3 d'
  simpa using this
/-- what partOf answers -/
def pofV (l : List Pt) (s : Int) : Value := match pofF l s with
  | none => .tuple #[Pt.val ⟨0, 0, 0, 0⟩, .bool false]
  | some r => .tuple #[r.val, .bool true]
set_option maxRecDepth 8000 in
set_option maxHeartbeats 4000000 in
theorem partof_any (l : List Pt) (n : Nat) (hn : l.length = n) (hl : n ≤ 1000) (g c : Nat) (s : Int) (w : World) (hr : RdP w g l) :
    Calls Tryd.prog 21 #[.slice (some ⟨g, 0, none⟩) n c, .int .i64 s] w fun e w' => e = .returned (pofV l s) ∧ Below w.heap.size w w' := by
  have HB := Lib.hid ((Below.refl w.heap.size w).alloc (Nat.le_refl _) (.cells (Pt.cs ⟨0, 0, 0, 0⟩).toArray 40))
  have HG := Lib.hid (Blk.new w 40 (Pt.cs ⟨0, 0, 0, 0⟩).toArray)
  have HR := Lib.hid hr
  have HN := Lib.hid hn
  clear hr hn
  go_enter Tryd.func21, Tryd.ntmps21
  go_wp2
  go_step3
  go_wp2
  go_step3
  go_wp2
  go_loopw [5, 10] (fun ok i wr => ∃ k : Nat, k ≤ n ∧ ok = .bool false ∧ i = .int .i64 k ∧ Below w.heap.size w wr ∧ Blk wr w.heap.size 40 (Pt.cs ⟨0, 0, 0, 0⟩).toArray ∧ pofF (l.drop k) s = pofF l s) (fun _ i _ => n + 1 - (intOf i).toNat)
  case atStart => exact ⟨0, by omega, rfl, rfl, HB.out, HG.out, rfl⟩
  case round =>
    clear HB HG
    obtain ⟨k, hk, rfl, rfl, hb, hg, hp⟩ := hrel
    by_cases hlt : k < n
    · obtain ⟨x, hx⟩ : ∃ x, l[k]? = some x := ⟨_, List.getElem?_eq_getElem (by rw [HN.out]; exact hlt)⟩
      rw [drop_at hx] at hp
      obtain ⟨xk, xa, xf, xt⟩ := x
      obtain ⟨c0, c1, c2, c3⟩ := (HR.out.keep hb).at_ hx
      have i2 : (k : Int) < (n : Int) := by omega
      have HB := Lib.hid hb
      have HG := Lib.hid (hg.alloc (.cells (Pt.cs ⟨xk, xa, xf, xt⟩).toArray 40))
      have HX := Lib.hid hx
      clear hb hg hx
      obtain ⟨z0, z1, z2, z3⟩ := HG.out.four
      have f0 := HG.out.frozen 0
      have f1 := HG.out.frozen 1
      have f2 := HG.out.frozen 2
      have f3 := HG.out.frozen 3
      by_cases h1 : s < xf
      · rw [pofF, if_pos h1] at hp
        have HP := Lib.hid hp
        have d1 : decide (s < xf) = true := decide_eq_true h1
        clear hp h1
        go_wp2
        obtain ⟨y0, y1, y2, y3⟩ := (HG.out.set4 (a' := .int .i64 0) (b' := .int .i64 0) (c' := .int .i64 0) (d' := .int .i64 0)).four
        refine bodyPost_ret (v := .tuple #[Pt.val ⟨0, 0, 0, 0⟩, .bool false]) (by simp [results, Tryd.results21, go_sem, y0, y1, y2, y3]) rfl ?_
        exact ⟨by unfold pofV; rw [← HP.out], below_set4 (HB.out.alloc HB.out.size _) (Nat.le_refl _) _ _ _ _⟩
      · have d1 : decide (s < xf) = false := decide_eq_false h1
        by_cases h2 : s < xt
        · rw [pofF, if_neg h1, if_pos h2] at hp
          have HP := Lib.hid hp
          have d2 : decide (s < xt) = true := decide_eq_true h2
          clear hp h1 h2
          have HG2 := Lib.hid (HG.out.set4 (a' := .int .i64 xk) (b' := .int .i64 xa) (c' := .int .i64 xf) (d' := .int .i64 xt))
          obtain ⟨y0, y1, y2, y3⟩ := HG2.out.four
          have e0 := HG2.out.frozen 0
          have e1 := HG2.out.frozen 1
          have e2 := HG2.out.frozen 2
          have e3 := HG2.out.frozen 3
          go_wp2
          obtain ⟨y0, y1, y2, y3⟩ := (HG2.out.set4 (a' := .int .i64 xk) (b' := .int .i64 xa) (c' := .int .i64 xf) (d' := .int .i64 xt)).four
          refine bodyPost_ret (v := .tuple #[Pt.val ⟨xk, xa, xf, xt⟩, .bool true]) (by simp [results, Tryd.results21, go_sem, y0, y1, y2, y3]) rfl ?_
          exact ⟨by unfold pofV; rw [← HP.out], below_set4 (below_set4 (HB.out.alloc HB.out.size _) (Nat.le_refl _) _ _ _ _) (Nat.le_refl _) _ _ _ _⟩
        · rw [pofF, if_neg h1, if_neg h2] at hp
          have HP := Lib.hid hp
          have d2 : decide (s < xt) = false := decide_eq_false h2
          clear hp h1 h2
          go_wp2
          go_roundw
          case rel => exact ⟨k + 1, by omega, rfl, by go_num, HB.out.alloc HB.out.size _, HG.out, HP.out⟩
          case measure => simp [intOf]; omega
    · obtain rfl : k = n := by omega
      rw [List.drop_of_length_le (by rw [HN.out]; exact Nat.le_refl _)] at hp
      have HP := Lib.hid hp
      have HB := Lib.hid hb
      have HG := Lib.hid hg
      obtain ⟨z0, z1, z2, z3⟩ := HG.out.four
      have f0 := HG.out.frozen 0
      have f1 := HG.out.frozen 1
      have f2 := HG.out.frozen 2
      have f3 := HG.out.frozen 3
      clear hp hb hg
      go_wp2
      obtain ⟨y0, y1, y2, y3⟩ := (HG.out.set4 (a' := .int .i64 0) (b' := .int .i64 0) (c' := .int .i64 0) (d' := .int .i64 0)).four
      refine bodyPost_ret (v := .tuple #[Pt.val ⟨0, 0, 0, 0⟩, .bool false]) (by simp [results, Tryd.results21, go_sem, y0, y1, y2, y3]) rfl ?_
      exact ⟨by unfold pofV; rw [← HP.out]; rfl, below_set4 HB.out (Nat.le_refl _) _ _ _ _⟩
end Go.Proofs.YtpihllgdgolgpaaDoor

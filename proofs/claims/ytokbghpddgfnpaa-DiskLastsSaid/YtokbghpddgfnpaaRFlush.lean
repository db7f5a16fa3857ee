/- the document's answer for layer 2: Flush where nothing waits. -/
import Derived.Test.YtokbghpddgfnpaaRef
namespace Go.Proofs.Ytokbghpddgfnpaa
open Go.RowKit
theorem four_below {B : Nat} {w W : World} (h : Below B w W) {b : Nat} (hb : B ≤ b) (u0 u1 u2 u3 : Value) :
    Below B w ((((W.setCell ⟨b, 0, none⟩ u0).setCell ⟨b, 1, none⟩ u1).setCell ⟨b, 2, none⟩ u2).setCell ⟨b, 3, none⟩ u3) := (((h.setCell hb _).setCell hb _).setCell hb _).setCell hb _
set_option maxRecDepth 100000 in
set_option maxHeartbeats 1600000 in
theorem rflush_none (w : World) (r : Rp) (s : Nat) (l : List Int) (hl : l.length = r.n3) (hn : r.n3 ≤ 1000000) (hs : s ≤ 1000000) (hr : RdI w r.A3 l) (h2 : r.A2 = none ∧ r.n2 = 0 ∧ r.c2 = 0) (no : Int) (hno : ((s : Int) ∈ l ∧ no = 120) ∨ (¬ ((s : Int) ∈ l) ∧ no = 0)) :
    Calls Try.prog 34 #[r.val s] w fun e w' => e = .returned (.tuple #[r.val (s + 1), .int .i64 no]) ∧ Below w.heap.size w w' := by
  obtain ⟨A1, n1, c1, A2, n2, c2, A3, n3, c3⟩ := r
  simp only at hl hn hr h2
  obtain ⟨rfl, rfl, rfl⟩ := h2
  have hz := z43
  have HR := Lib.hid hr
  have HL := Lib.hid hl
  clear hr hl
  have P1 := Lib.hid ((Blk.new w 34 #[.slice A1 n1 c1, .slice none 0 0, .int .i64 (s : Int), .slice A3 n3 c3]).alloc (.cells #[.slice none 0 0, .slice none 0 0, .int .i64 0, .slice none 0 0] 34))
  have P2 := Blk.new (w.alloc (.cells #[.slice A1 n1 c1, .slice none 0 0, .int .i64 (s : Int), .slice A3 n3 c3] 34)) 34 #[.slice none 0 0, .slice none 0 0, .int .i64 0, .slice none 0 0]
  simp only [World.size_alloc] at P2
  have BL := Lib.hid (((Below.refl w.heap.size w).alloc (Nat.le_refl _) (.cells #[.slice A1 n1 c1, .slice none 0 0, .int .i64 (s : Int), .slice A3 n3 c3] 34)).alloc (by simp) (.cells #[.slice none 0 0, .slice none 0 0, .int .i64 0, .slice none 0 0] 34))
  have PP2 := Lib.hid P2
  clear P2
  go_enter Try.func34, Try.ntmps34
  go_wp2_with fail
  have CT := fun (b : Bool) (hb : (!(decide ((s : Int) ∈ l))) = b) (W : World) (hw : RdI W A3 l) => (show Calls Try.prog 43 #[.agg #[.slice A1 n1 c1, .slice none 0 0, .int .i64 (s : Int), .slice A3 n3 c3]] W
    fun e w' => e = .returned (.tuple #[.agg #[.slice A1 n1 c1, .slice none 0 0, .int .i64 ((s : Int) + 1), .slice A3 n3 c3], .bool b]) ∧ Below W.heap.size W w' from hb ▸ rstep_any W ⟨A1, n1, c1, none, 0, 0, A3, n3, c3⟩ s l HL.out hn hs hw)
  rcases hno with ⟨hm, rfl⟩ | ⟨hm, rfl⟩
  · refine (CT false (by simp [hm]) _ (HR.out.below BL.out)).mono ?_
    rintro e w3 ⟨rfl, b3⟩
    have P1b := Lib.hid (P1.out.below b3 P1.out.lt)
    have P2b := Lib.hid ((PP2.out.below b3 PP2.out.lt).alloc (.cells #[.slice A1 n1 c1, .slice none 0 0, .int .i64 ((s : Int) + 1), .slice A3 n3 c3] 34))
    have B3 := Lib.hid ((BL.out.trans (b3.mono BL.out.size)).alloc (Nat.le_trans BL.out.size b3.size) (.cells #[.slice A1 n1 c1, .slice none 0 0, .int .i64 ((s : Int) + 1), .slice A3 n3 c3] 34))
    have g0 := P2b.out.frozen 0
    have g1 := P2b.out.frozen 1
    have g2 := P2b.out.frozen 2
    have g3 := P2b.out.frozen 3
    have q0 := (P2b.out.cell 0).trans (show _ = some (.slice none 0 0) from rfl)
    have q1 := (P2b.out.cell 1).trans (show _ = some (.slice none 0 0) from rfl)
    have q2 := (P2b.out.cell 2).trans (show _ = some (.int .i64 0) from rfl)
    have q3 := (P2b.out.cell 3).trans (show _ = some (.slice none 0 0) from rfl)
    clear b3 hm
    go_wp2
    exact bodyPost_ret (results_ref rfl _ _ (w.heap.size + 1) (Rp.cells ⟨A1, n1, c1, none, 0, 0, A3, n3, c3⟩ (s + 1)) rfl rfl (four_set P2b.out (.slice A1 n1 c1) (.slice none 0 0) (.int .i64 ((s : Int) + 1)) (.slice A3 n3 c3))) rfl ⟨rfl, four_below B3.out (by simp) _ _ _ _⟩
  · refine (CT true (by simp [hm]) _ (HR.out.below BL.out)).mono ?_
    rintro e w3 ⟨rfl, b3⟩
    have P1b := Lib.hid ((P1.out.below b3 P1.out.lt).alloc (.cells #[.slice A1 n1 c1, .slice none 0 0, .int .i64 ((s : Int) + 1), .slice A3 n3 c3] 34))
    have P2b := Lib.hid ((PP2.out.below b3 PP2.out.lt).alloc (.cells #[.slice A1 n1 c1, .slice none 0 0, .int .i64 ((s : Int) + 1), .slice A3 n3 c3] 34))
    have B3 := Lib.hid ((BL.out.trans (b3.mono BL.out.size)).alloc (Nat.le_trans BL.out.size b3.size) (.cells #[.slice A1 n1 c1, .slice none 0 0, .int .i64 ((s : Int) + 1), .slice A3 n3 c3] 34))
    have g0 := P2b.out.frozen 0
    have g1 := P2b.out.frozen 1
    have g2 := P2b.out.frozen 2
    have g3 := P2b.out.frozen 3
    have q0 := (P2b.out.cell 0).trans (show _ = some (.slice none 0 0) from rfl)
    have q1 := (P2b.out.cell 1).trans (show _ = some (.slice none 0 0) from rfl)
    have q2 := (P2b.out.cell 2).trans (show _ = some (.int .i64 0) from rfl)
    have q3 := (P2b.out.cell 3).trans (show _ = some (.slice none 0 0) from rfl)
    have S3 := Lib.hid b3.size
    have a1 := (P1b.out.cell 1).trans (show _ = some (.slice none 0 0) from rfl)
    clear b3 hm
    have P4 := Lib.hid (Blk.new w3 34 #[.slice A1 n1 c1, .slice none 0 0, .int .i64 ((s : Int) + 1), .slice A3 n3 c3])
    have hbw : w.heap.size + 1 ≠ w3.heap.size := by have := B3.out.size; have := P2b.out.lt; have h1 := PP2.out.lt; have h2 := S3.out; omega
    go_wp2
    go_loop [6] (fun i => i = .int .i64 0) (fun _ => 0)
    case atStart => rfl
    case round =>
      subst hrel
      go_wp2
      exact bodyPost_ret (results_ref rfl _ _ (w.heap.size + 1) (Rp.cells ⟨A1, n1, c1, none, 0, 0, A3, n3, c3⟩ (s + 1)) rfl rfl (four_set P2b.out (.slice A1 n1 c1) (.slice none 0 0) (.int .i64 ((s : Int) + 1)) (.slice A3 n3 c3))) rfl ⟨rfl, four_below B3.out (by simp) _ _ _ _⟩
end Go.Proofs.Ytokbghpddgfnpaa

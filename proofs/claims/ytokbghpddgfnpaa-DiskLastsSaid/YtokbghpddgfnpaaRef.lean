/- the document's answer for layer 2: its disk's value; step. -/
import Derived.Test.YtokbghpddgfnpaaFail
namespace Go.Proofs.Ytokbghpddgfnpaa
open Go.RowKit
/-- where a disk of the document's answer has its lists -/
structure Rp where
  A1 : Option Addr
  n1 : Nat
  c1 : Nat
  A2 : Option Addr
  n2 : Nat
  c2 : Nat
  A3 : Option Addr
  n3 : Nat
  c3 : Nat
abbrev Rp.cells (r : Rp) (s : Nat) : Array Value := #[.slice r.A1 r.n1 r.c1, .slice r.A2 r.n2 r.c2, .int .i64 (s : Int), .slice r.A3 r.n3 r.c3]
abbrev Rp.val (r : Rp) (s : Nat) : Value := .agg (r.cells s)
set_option maxRecDepth 8000 in
theorem zero43 : (Try.prog.info? 34).map (fun i => (i.zero, i.size)) = some (some (.agg #[.slice none 0 0, .slice none 0 0, .int .i64 0, .slice none 0 0]), 4) := by kernel_rfl
theorem z43 (w : World) : (zeroValue 34).run Try.prog w = .ok (.agg #[.slice none 0 0, .slice none 0 0, .int .i64 0, .slice none 0 0]) w := (zero_of_info zero43).1 w
set_option maxRecDepth 8000 in
theorem size43 : (Try.prog.info? 34).map (·.size) = some 4 := by kernel_rfl
set_option maxRecDepth 8000 in
theorem results_ref {fn : Func} {p q : Tmp} (h : fn.results = #[.cell p 34, .tmp q]) (tmps : Array Value) (w : World) (g : Nat) (cs : Array Value) (hl : cs.size = 4)
    (hp : tmps.getD p undef = .pointer (some ⟨g, 0, none⟩)) (hg : Blk w g 34 cs) : (results fn tmps).run Try.prog w = .ok (.tuple #[.agg cs, tmps.getD q undef]) w := by
  have hp' : tmps[p]?.getD undef = .pointer (some ⟨g, 0, none⟩) := by simpa using hp
  have hl := run_loadVar_row (P := Try.prog) w g 34 34 cs (0, 0) _ hg Try.underlying34 rfl (by rw [hl]; exact size43)
  simp [results, h, hp', asAddr, hl]
theorem four_set {W : World} {b : Nat} {t : TypeId} {v0 v1 v2 v3 : Value} (h : Blk W b t #[v0, v1, v2, v3]) (u0 u1 u2 u3 : Value) :
    Blk ((((W.setCell ⟨b, 0, none⟩ u0).setCell ⟨b, 1, none⟩ u1).setCell ⟨b, 2, none⟩ u2).setCell ⟨b, 3, none⟩ u3) b t #[u0, u1, u2, u3] := (((h.set_ 0 u0).set_ 1 u1).set_ 2 u2).set_ 3 u3
set_option maxRecDepth 100000 in
set_option maxHeartbeats 1600000 in
theorem rstep_any (w : World) (r : Rp) (s : Nat) (l : List Int) (hl : l.length = r.n3) (hn : r.n3 ≤ 1000000) (hs : s ≤ 1000000) (hr : RdI w r.A3 l) :
    Calls Try.prog 43 #[r.val s] w fun e w' => e = .returned (.tuple #[r.val (s + 1), .bool (!(decide ((s : Int) ∈ l)))]) ∧ Below w.heap.size w w' := by
  have hz := z43
  have HR := Lib.hid hr
  have HL := Lib.hid hl
  clear hr hl
  go_enter Try.func43, Try.ntmps43
  go_wp2
  have P1 := Lib.hid ((Blk.new w 34 #[.slice r.A1 r.n1 r.c1, .slice r.A2 r.n2 r.c2, .int .i64 ((s : Int) + 1), .slice r.A3 r.n3 r.c3]).alloc (.cells #[.slice none 0 0, .slice none 0 0, .int .i64 0, .slice none 0 0] 34))
  have P2 := Blk.new (w.alloc (.cells #[.slice r.A1 r.n1 r.c1, .slice r.A2 r.n2 r.c2, .int .i64 ((s : Int) + 1), .slice r.A3 r.n3 r.c3] 34)) 34 #[.slice none 0 0, .slice none 0 0, .int .i64 0, .slice none 0 0]
  simp only [World.size_alloc] at P2
  have BL := Lib.hid (((Below.refl w.heap.size w).alloc (Nat.le_refl _) (.cells #[.slice r.A1 r.n1 r.c1, .slice r.A2 r.n2 r.c2, .int .i64 ((s : Int) + 1), .slice r.A3 r.n3 r.c3] 34)).alloc (by simp) (.cells #[.slice none 0 0, .slice none 0 0, .int .i64 0, .slice none 0 0] 34))
  have R2 := Lib.hid (HR.out.below BL.out)
  have PP2 := Lib.hid P2
  generalize (w.alloc (.cells #[.slice r.A1 r.n1 r.c1, .slice r.A2 r.n2 r.c2, .int .i64 ((s : Int) + 1), .slice r.A3 r.n3 r.c3] 34)).alloc (.cells #[.slice none 0 0, .slice none 0 0, .int .i64 0, .slice none 0 0] 34) = W at P1 PP2 BL R2 ⊢
  clear P2 hz
  have b3 := (P1.out.cell 3).trans (show _ = some (.slice r.A3 r.n3 r.c3) from rfl)
  have b0 := (P1.out.cell 0).trans (show _ = some (.slice r.A1 r.n1 r.c1) from rfl)
  have b1 := (P1.out.cell 1).trans (show _ = some (.slice r.A2 r.n2 r.c2) from rfl)
  have b2 := (P1.out.cell 2).trans (show _ = some (.int .i64 ((s : Int) + 1)) from rfl)
  have q0 := (PP2.out.cell 0).trans (show _ = some (.slice none 0 0) from rfl)
  have q1 := (PP2.out.cell 1).trans (show _ = some (.slice none 0 0) from rfl)
  have q2 := (PP2.out.cell 2).trans (show _ = some (.int .i64 0) from rfl)
  have q3 := (PP2.out.cell 3).trans (show _ = some (.slice none 0 0) from rfl)
  have g0 := PP2.out.frozen 0
  have g1 := PP2.out.frozen 1
  have g2 := PP2.out.frozen 2
  have g3 := PP2.out.frozen 3
  have i0 : (0 : Int) ≤ (r.n3 : Int) := Int.natCast_nonneg _
  go_loop [5] (fun i => ∃ k : Nat, k ≤ r.n3 ∧ i = .int .i64 k ∧ ¬ ((s : Int) ∈ l.take k)) (fun i => r.n3 - (intOf i).toNat)
  case atStart => exact ⟨0, Nat.zero_le _, rfl, by simp⟩
  case round =>
    obtain ⟨k, hk, rfl, hno⟩ := hrel
    by_cases hlt : k < r.n3
    · have hkl : k < l.length := by rw [HL.out]; exact hlt
      obtain ⟨b, off, he, hc⟩ := R2.out k hkl
      rw [he] at b3
      obtain ⟨x, hx⟩ : ∃ x, x = l[k] := ⟨_, rfl⟩
      rw [← hx] at hc
      have HT := Lib.hid (show l.take (k + 1) = l.take k ++ [x] by rw [List.take_add_one, List.getElem?_eq_getElem hkl, hx]; rfl)
      have HC := Lib.hid (show x ∈ l by rw [hx]; exact List.getElem_mem _)
      have HNO := Lib.hid hno
      have HE := Lib.hid he
      clear hx hno he
      by_cases hxs : x = (s : Int)
      · have hb : (x == (s : Int)) = true := beq_iff_eq.2 hxs
        have HX := Lib.hid hxs
        clear hxs
        go_wp2
        have E1 : (s : Int) ∈ l := by rw [← HX.out]; exact HC.out
        refine bodyPost_ret (results_ref rfl _ _ (w.heap.size + 1) (r.cells (s + 1)) rfl rfl ?_) rfl ⟨?_, ?_⟩
        · have h4 := four_set PP2.out (.slice r.A1 r.n1 r.c1) (.slice r.A2 r.n2 r.c2) (.int .i64 ((s : Int) + 1)) (.slice r.A3 r.n3 r.c3)
          rw [HE.out] at h4
          unfold Rp.cells
          rw [HE.out]
          exact h4
        · rw [decide_eq_true E1]
          rfl
        · exact (((BL.out.setCell (by simp) _).setCell (by simp) _).setCell (by simp) _).setCell (by simp) _
      · have hb : (x == (s : Int)) = false := beq_eq_false_iff_ne.2 hxs
        have HX := Lib.hid hxs
        clear hxs
        go_wp2
        go_round
        case rel => exact ⟨k + 1, by omega, by go_num, by rw [HT.out, List.mem_append, List.mem_singleton]; exact fun h => h.elim HNO.out (fun e => HX.out e.symm)⟩
        case measure => simp [intOf]; omega
    · have hkn : k = r.n3 := by omega
      subst hkn
      rw [← HL.out, List.take_length] at hno
      have HNO := Lib.hid hno
      clear hno
      go_wp2
      refine bodyPost_ret (results_ref rfl _ _ (w.heap.size + 1) (r.cells (s + 1)) rfl rfl ?_) rfl ⟨?_, ?_⟩
      · exact four_set PP2.out (.slice r.A1 r.n1 r.c1) (.slice r.A2 r.n2 r.c2) (.int .i64 ((s : Int) + 1)) (.slice r.A3 r.n3 r.c3)
      · rw [decide_eq_false HNO.out]
        rfl
      · exact (((BL.out.setCell (by simp) _).setCell (by simp) _).setCell (by simp) _).setCell (by simp) _
end Go.Proofs.Ytokbghpddgfnpaa

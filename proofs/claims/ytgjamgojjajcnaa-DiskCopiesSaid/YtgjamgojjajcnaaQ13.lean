/- the document's answer for layer 2: Flush where nothing waits. -/
import Derived.Test.YtgjamgojjajcnaaQ12
import Derived.Test.YtgjamgojjajcnaaQ11
namespace Go.Proofs.Ytgjamgojjajcnaa
open Go.RowKit
theorem four_below {B : Nat} {w W : World} (h : Below B w W) {b : Nat} (hb : B ≤ b) (u0 u1 u2 u3 : Value) :
    Below B w ((((W.setCell ⟨b, 0, none⟩ u0).setCell ⟨b, 1, none⟩ u1).setCell ⟨b, 2, none⟩ u2).setCell ⟨b, 3, none⟩ u3) := (((h.setCell hb _).setCell hb _).setCell hb _).setCell hb _
set_option maxRecDepth 100000 in
set_option maxHeartbeats 1600000 in
theorem rflush_none (w : World) (r : Rp) (s : Nat) (l : List Int) (hl : l.length = r.n3) (hn : r.n3 ≤ 1000000) (hs : s ≤ 1000000) (hr : RdI w r.A3 l) (h2 : r.A2 = none ∧ r.n2 = 0 ∧ r.c2 = 0) (no : Int) (hno : ((s : Int) ∈ l ∧ no = 120) ∨ (¬ ((s : Int) ∈ l) ∧ no = 0)) :
    Calls Try.prog 33 #[r.val s] w fun e w' => e = .returned (.tuple #[r.val (s + 1), .int .i64 no]) ∧ Below w.heap.size w w' := by
  obtain ⟨A1, n1, c1, A2, n2, c2, A3, n3, c3⟩ := r
  simp only at hl hn hr h2
  obtain ⟨rfl, rfl, rfl⟩ := h2
  have hz := z43
  have HR := Lib.hid hr
  have HL := Lib.hid hl
  clear hr hl
  have P1 := Lib.hid ((Blk.new w 34 #[.slice A1 n1 c1, .slice none 0 0, .int .i64 (s : Int), .slice A3 n3 c3]).alloc (.cells #[.slice none 0 0, .slice none 0 0, .int .i64 0, .slice none 0 0] 34))
  have P2 := Blk.new (w.alloc (.cells #[.slice A1 n1 c1, .slice none 0 0, .int .i64 (s : Int), .slice A3 n3 c3] 34)) 34 #[.slice none 0 0, .slice none 0 0, .int .i64 0, .slice none 0 0]
  simp only [World.size_alloc] at P2
  have BL := Lib.hid (((Below.refl w.heap.size w).alloc (Nat.le_refl _) (.cells #[.slice A1 n1 c1, .slice none 0 0, .int .i64 (s : Int), .slice A3 n3 c3] 34)).alloc (by simp) (.cells #[.slice none 0 0, .slice none 0 0, .int .i64 0, .slice none 0 0] 34))
  have PP2 := Lib.hid P2
  clear P2
  go_enter Try.func33, Try.ntmps33
  go_wp2_with fail
  have CT := fun (b : Bool) (hb : (!(decide ((s : Int) ∈ l))) = b) (W : World) (hw : RdI W A3 l) => (show Calls Try.prog 42 #[.agg #[.slice A1 n1 c1, .slice none 0 0, .int .i64 (s : Int), .slice A3 n3 c3]] W
    fun e w' => e = .returned (.tuple #[.agg #[.slice A1 n1 c1, .slice none 0 0, .int .i64 ((s : Int) + 1), .slice A3 n3 c3], .bool b]) ∧ Below W.heap.size W w' from hb ▸ rstep_any W ⟨A1, n1, c1, none, 0, 0, A3, n3, c3⟩ s l HL.out hn hs hw)
  rcases hno with ⟨hm, rfl⟩ | ⟨hm, rfl⟩
  · refine (CT false (by simp [hm]) _ (HR.out.below BL.out)).mono ?_
    rintro e w3 ⟨rfl, b3⟩
    have P1b := Lib.hid (P1.out.below b3 P1.out.lt)
    have P2b := Lib.hid ((PP2.out.below b3 PP2.out.lt).alloc (.cells #[.slice A1 n1 c1, .slice none 0 0, .int .i64 ((s : Int) + 1), .slice A3 n3 c3] 34))
    have B3 := Lib.hid ((BL.out.trans (b3.mono BL.out.size)).alloc (Nat.le_trans BL.out.size b3.size) (.cells #[.slice A1 n1 c1, .slice none 0 0, .int .i64 ((s : Int) + 1), .slice A3 n3 c3] 34))
    have g0 := P2b.out.frozen 0
    have g1 := P2b.out.frozen 1
    have g2 := P2b.out.frozen 2
    have g3 := P2b.out.frozen 3
    have q0 := (P2b.out.cell 0).trans (show _ = some (.slice none 0 0) from rfl)
    have q1 := (P2b.out.cell 1).trans (show _ = some (.slice none 0 0) from rfl)
    have q2 := (P2b.out.cell 2).trans (show _ = some (.int .i64 0) from rfl)
    have q3 := (P2b.out.cell 3).trans (show _ = some (.slice none 0 0) from rfl)
    clear b3 hm
    go_wp2
    exact bodyPost_ret (results_ref rfl _ _ (w.heap.size + 1) (Rp.cells ⟨A1, n1, c1, none, 0, 0, A3, n3, c3⟩ (s + 1)) rfl rfl (four_set P2b.out (.slice A1 n1 c1) (.slice none 0 0) (.int .i64 ((s : Int) + 1)) (.slice A3 n3 c3))) rfl ⟨rfl, four_below B3.out (by simp) _ _ _ _⟩
  · refine (CT true (by simp [hm]) _ (HR.out.below BL.out)).mono ?_
    rintro e w3 ⟨rfl, b3⟩
    have P1b := Lib.hid ((P1.out.below b3 P1.out.lt).alloc (.cells #[.slice A1 n1 c1, .slice none 0 0, .int .i64 ((s : Int) + 1), .slice A3 n3 c3] 34))
    have P2b := Lib.hid ((PP2.out.below b3 PP2.out.lt).alloc (.cells #[.slice A1 n1 c1, .slice none 0 0, .int .i64 ((s : Int) + 1), .slice A3 n3 c3] 34))
    have B3 := Lib.hid ((BL.out.trans (b3.mono BL.out.size)).alloc (Nat.le_trans BL.out.size b3.size) (.cells #[.slice A1 n1 c1, .slice none 0 0, .int .i64 ((s : Int) + 1), .slice A3 n3 c3] 34))
    have g0 := P2b.out.frozen 0
    have g1 := P2b.out.frozen 1
    have g2 := P2b.out.frozen 2
    have g3 := P2b.out.frozen 3
    have q0 := (P2b.out.cell 0).trans (show _ = some (.slice none 0 0) from rfl)
    have q1 := (P2b.out.cell 1).trans (show _ = some (.slice none 0 0) from rfl)
    have q2 := (P2b.out.cell 2).trans (show _ = some (.int .i64 0) from rfl)
    have q3 := (P2b.out.cell 3).trans (show _ = some (.slice none 0 0) from rfl)
    have S3 := Lib.hid b3.size
    have a1 := (P1b.out.cell 1).trans (show _ = some (.slice none 0 0) from rfl)
    clear b3 hm
    have P4 := Lib.hid (Blk.new w3 34 #[.slice A1 n1 c1, .slice none 0 0, .int .i64 ((s : Int) + 1), .slice A3 n3 c3])
    have hbw : w.heap.size + 1 ≠ w3.heap.size := by have := B3.out.size; have := P2b.out.lt; have h1 := PP2.out.lt; have h2 := S3.out; omega
    go_wp2
    go_loop [6] (fun i => i = .int .i64 0) (fun _ => 0)
    case atStart => rfl
    case round =>
      subst hrel
      go_wp2
      exact bodyPost_ret (results_ref rfl _ _ (w.heap.size + 1) (Rp.cells ⟨A1, n1, c1, none, 0, 0, A3, n3, c3⟩ (s + 1)) rfl rfl (four_set P2b.out (.slice A1 n1 c1) (.slice none 0 0) (.int .i64 ((s : Int) + 1)) (.slice A3 n3 c3))) rfl ⟨rfl, four_below B3.out (by simp) _ _ _ _⟩
end Go.Proofs.Ytgjamgojjajcnaa
namespace Go.Proofs.Ytgjamgojjajcnaa
open Go.RowKit
attribute [local go_sem] Oper.semAt_some
/-- ints as values -/
def ic (l : List Int) : List Value := l.map fun x => .int .i64 x
/-- the numbers of the steps that fail -/
def failR (s : Nat) (l : List Int) : List Int := (l.filter fun x => decide (x ≤ 9223372036854775807 - (s : Int))).map fun x => (s : Int) + x
set_option maxRecDepth 8000 in
theorem failR_snoc (s : Nat) (l : List Int) (x : Int) : failR s (l ++ [x]) = if x ≤ 9223372036854775807 - (s : Int) then failR s l ++ [(s : Int) + x] else failR s l := by
  unfold failR
  rw [List.filter_append, List.map_append]
  by_cases h : x ≤ 9223372036854775807 - (s : Int) <;> simp [h]
set_option maxRecDepth 8000 in
theorem failR_len (s : Nat) (l : List Int) : (failR s l).length ≤ l.length := by
  unfold failR
  rw [List.length_map]
  exact List.length_filter_le _ _
set_option maxRecDepth 8000 in
theorem rdI_of_own {w : World} {base n c : Nat} {A : Option Addr} {l : List Int} (h : w.ownsRow base 3 1 (.slice A n c) n (ic l)) : RdI w A l := by
  intro j hj
  have hl : l.length = n := by have := h.1; simpa [ic] using this
  obtain ⟨g, cap, hv, _, _⟩ := h.form (by omega)
  injection hv with hA _ _
  subst hA
  refine ⟨g, 0, rfl, ?_⟩
  have := h.cellAt j (by omega)
  rw [Nat.zero_add, this]
  simp [ic, hj]
theorem cell_one {w : World} {g : Nat} {u : Value} (h : w.cell? ⟨g, 0, none⟩ = some u) : ∀ j v, ([u] : List Value)[j]? = some v → w.cell? ((⟨g, 0, none⟩ : Addr).add j) = some v := fun j v hv => by
  cases j with
  | zero => rw [add_lit0]; simpa using h.trans hv
  | succ j => simp at hv
set_option maxRecDepth 8000 in
theorem step_append_i {ops : Array Oper} {o : Oper} {a : Act} {w : World} {K : Act → World → Prop} {Q : Exit → Act → World → Prop} {E : Prop} (hgd : o.guard = none) (s x : Operand)
    (ho : o.op = .call { callee := .builtin .append, args := #[s, x], argTypes := #[23, 23] }) (base : Nat) (v : Value) (n : Nat) (xs : List Value) (hs : a.eval s = v) (hown : w.ownsRow base 3 1 v n xs)
    (g0 c : Nat) (e : Int) (hx : a.eval x = .slice (some ⟨g0, 0, none⟩) 1 c) (hb : w.cell? ⟨g0, 0, none⟩ = some (.int .i64 e)) (hn : n ≤ 1000000) (hbase : base ≤ w.heap.size)
    (h : ∀ g cap w', w'.ownsRow base 3 1 (.slice (some ⟨g, 0, none⟩) (n + 1) cap) (n + 1) (xs ++ [.int .i64 e]) → w.grownBy w' v.ownBlock → K (a.put o.dst (.slice (some ⟨g, 0, none⟩) (n + 1) cap)) w') :
    if Region.wanted o (yielded ops a.tmps) = true then Oper.wp Try.prog o a w K Q else E := by
  obtain ⟨i0, hi, hz0, hz1, hz2⟩ := info_parts infoI64
  exact step_append_lies w hgd s x 23 ho base 3 i0 _ 1 8 Try.underlying23 hi hz0 hz1 hz2 rfl (by omega) v n xs hs hown ⟨g0, 0, none⟩ 1 c [.int .i64 e] hx rfl (cell_one hb) (by simp [Value.oneCell'])
    (by omega) (by simp only [maxLen]; omega) (by omega) hbase _ rfl (fun g cap w' h1 h2 _ _ => h g cap w' h1 h2)
set_option maxRecDepth 100000 in
set_option maxHeartbeats 1600000 in
theorem rfail_any (w : World) (r : Rp) (s : Nat) (hs : s ≤ 1000000) (A : Option Addr) (cap : Nat) (l : List Int) (hl : l.length ≤ 1000000) (hr : RdI w A l) (hwf : ∀ x ∈ l, x ≤ 9223372036854775807) :
    Calls Try.prog 34 #[r.val s, .slice A l.length cap] w fun e w' =>
      ((∀ x ∈ l, 0 ≤ x) ∧ ∃ A3 c3, e = .returned (.tuple #[Rp.val { r with A3 := A3, n3 := (failR s l).length, c3 := c3 } s, .int .i64 0]) ∧ RdI w' A3 (failR s l) ∧ (∀ b off, A3 = some ⟨b, off, none⟩ → w.heap.size ≤ b ∧ b < w'.heap.size) ∧ Below w.heap.size w w') ∨
      ((∃ x ∈ l, x < 0) ∧ e = .returned (.tuple #[r.val s, .int .i64 2]) ∧ Below w.heap.size w w') := by
  obtain ⟨A1, n1, c1, A2, n2, c2, A3, n3, c3⟩ := r
  have hz := z43
  have HR := Lib.hid hr
  have HWF := Lib.hid hwf
  clear hr hwf
  have P1 := (Blk.new w 34 #[.slice A1 n1 c1, .slice A2 n2 c2, .int .i64 (s : Int), .slice A3 n3 c3]).alloc (.cells #[.slice none 0 0, .slice none 0 0, .int .i64 0, .slice none 0 0] 34)
  have P2 := Blk.new (w.alloc (.cells #[.slice A1 n1 c1, .slice A2 n2 c2, .int .i64 (s : Int), .slice A3 n3 c3] 34)) 34 #[.slice none 0 0, .slice none 0 0, .int .i64 0, .slice none 0 0]
  simp only [World.size_alloc] at P2
  have BL := (((Below.refl w.heap.size w).alloc (Nat.le_refl _) (.cells #[.slice A1 n1 c1, .slice A2 n2 c2, .int .i64 (s : Int), .slice A3 n3 c3] 34)).alloc (by simp) (.cells #[.slice none 0 0, .slice none 0 0, .int .i64 0, .slice none 0 0] 34))
  obtain ⟨W, hW⟩ : ∃ W, W = (w.alloc (.cells #[.slice A1 n1 c1, .slice A2 n2 c2, .int .i64 (s : Int), .slice A3 n3 c3] 34)).alloc (.cells #[.slice none 0 0, .slice none 0 0, .int .i64 0, .slice none 0 0] 34) := ⟨_, rfl⟩
  rw [← hW] at P1 P2 BL
  have HP1 := Lib.hid P1
  have HP2 := Lib.hid P2
  have HBL := Lib.hid BL
  have HW := Lib.hid hW
  clear P1 P2 BL hW
  go_enter Try.func34, Try.ntmps34
  go_wp2
  rw [show ((w.alloc (.cells (Rp.cells ⟨A1, n1, c1, A2, n2, c2, A3, n3, c3⟩ s) 34)).alloc (.cells #[.slice none 0 0, .slice none 0 0, .int .i64 0, .slice none 0 0] 34)) = W from HW.out.symm]
  clear hz HW
  go_loopw [6, 7] (fun v i wr => ∃ k : Nat, k ≤ l.length ∧ i = .int .i64 k ∧ (∀ x ∈ l.take k, 0 ≤ x) ∧ wr.ownsRow W.heap.size 3 1 v (failR s (l.take k)).length (ic (failR s (l.take k))) ∧ Below W.heap.size W wr) (fun _ i _ => l.length - (intOf i).toNat)
  case atStart => exact ⟨0, Nat.zero_le _, rfl, by simp, World.ownsRow_nil _ _ _ _, Below.refl _ _⟩
  case round =>
    obtain ⟨k, hk, rfl, hpos, hown, hb⟩ := hrel
    have P1r := HP1.out.below hb HP1.out.lt
    have P2r := HP2.out.below hb HP2.out.lt
    have HB := Lib.hid hb
    have HO := Lib.hid hown
    have HPOS := Lib.hid hpos
    have HP1r := Lib.hid P1r
    have HP2r := Lib.hid P2r
    have BW := Lib.hid (HBL.out.trans (hb.mono HBL.out.size))
    by_cases hlt : k < l.length
    · obtain ⟨b, off, rfl, hc⟩ := (HR.out.below BW.out) k hlt
      obtain ⟨x, hx⟩ : ∃ x, x = l[k] := ⟨_, rfl⟩
      rw [← hx] at hc
      have hblt : b < w.heap.size := by
        obtain ⟨b', off', e', hc'⟩ := HR.out k hlt
        injection e' with e'
        injection e' with e1 e2
        subst e1
        exact cell_lt hc'
      have HX := Lib.hid (show l[k]? = some x by rw [List.getElem?_eq_getElem hlt, hx])
      have HT := Lib.hid (show l.take (k + 1) = l.take k ++ [x] by rw [List.take_add_one, HX.out]; rfl)
      have HXW := Lib.hid (HWF.out x (List.mem_of_getElem? HX.out))
      have HBLT := Lib.hid hblt
      have HC := Lib.hid hc
      have i1 : (0 : Int) ≤ (k : Int) := by omega
      have i2 : (k : Int) < (l.length : Int) := by omega
      clear hown hb hpos hx hblt
      by_cases hneg : x < 0
      · have h1 : decide (x < 0) = true := by simpa using hneg
        have HN := Lib.hid hneg
        clear hneg
        have q0 := (P2r.cell 0).trans (show _ = some (.slice none 0 0) from rfl)
        have q1 := (P2r.cell 1).trans (show _ = some (.slice none 0 0) from rfl)
        have q2 := (P2r.cell 2).trans (show _ = some (.int .i64 0) from rfl)
        have q3 := (P2r.cell 3).trans (show _ = some (.slice none 0 0) from rfl)
        have g0 := P2r.frozen 0
        have g1 := P2r.frozen 1
        have g2 := P2r.frozen 2
        have g3 := P2r.frozen 3
        have c0 := (P1r.cell 0).trans (show _ = some (.slice A1 n1 c1) from rfl)
        have c1' := (P1r.cell 1).trans (show _ = some (.slice A2 n2 c2) from rfl)
        have c2' := (P1r.cell 2).trans (show _ = some (.int .i64 (s : Int)) from rfl)
        have c3' := (P1r.cell 3).trans (show _ = some (.slice A3 n3 c3) from rfl)
        clear P1r P2r
        go_wp2
        exact bodyPost_ret (results_ref rfl _ _ (w.heap.size + 1) (Rp.cells ⟨A1, n1, c1, A2, n2, c2, A3, n3, c3⟩ s) rfl rfl (four_set HP2r.out (.slice A1 n1 c1) (.slice A2 n2 c2) (.int .i64 (s : Int)) (.slice A3 n3 c3))) rfl
          (.inr ⟨⟨x, List.mem_of_getElem? HX.out, HN.out⟩, rfl, four_below BW.out (by simp) _ _ _ _⟩)
      · have h1 : decide (x < 0) = false := by simpa using hneg
        have HN := Lib.hid (show 0 ≤ x by omega)
        have hw1 : IntKind.i64.wrap (9223372036854775807 - (s : Int)) = 9223372036854775807 - (s : Int) := IntWalk.i64_in _ (by omega)
        have HPOS2 := Lib.hid (mem_take_neg HPOS.out HX.out HN.out)
        clear hneg P1r P2r
        by_cases hle : x ≤ 9223372036854775807 - (s : Int)
        · have h2 : decide (x ≤ 9223372036854775807 - (s : Int)) = true := by simpa using hle
          have HLE := Lib.hid hle
          have hw2 : IntKind.i64.wrap ((s : Int) + x) = (s : Int) + x := IntWalk.i64_in _ (by have := HN.out; omega)
          clear hle
          go_wp2_with fail
          refine wp_region_only (S := fun w' => w'.cell? ⟨w.heap.size, 2, none⟩ = some (.int .i64 (s : Int)) ∧ w'.cell? ⟨b, off + k, none⟩ = some (.int .i64 x)) (by kernel_rfl) ⟨(Blk.cell (drew_blk HP1r.out) 2).trans rfl, HC.out⟩ (fun hHeld => ?_)
          refine wpAnyH_take (i := 0) (v := ?v1) rfl (by kernel_rfl) (by kernel_rfl) (by kernel_rfl) (fun _ _ _ h => h) (Or.inl ⟨by rfl, ?hy1⟩) hHeld ?rest1
          case hy1 =>
            intro w' hSw
            try dsimp only at hSw
            go_simp
            first | done | with_reducible rfl
          try simp only [Act.put, List.getElem_toArray, List.getElem_cons_zero, List.setIfInBounds_toArray, List.set_cons_zero, List.set_cons_succ]
          refine wpAnyH_take (i := 1) (v := ?v2) rfl (by kernel_rfl) (by kernel_rfl) (by kernel_rfl) (fun _ _ _ h => h) (Or.inl ⟨by rfl, ?hy2⟩) hHeld ?rest2
          case hy2 =>
            intro w' hSw
            try dsimp only at hSw
            go_simp
            first | done | with_reducible rfl
          try simp only [Act.put, List.getElem_toArray, List.getElem_cons_succ, List.getElem_cons_zero, List.setIfInBounds_toArray, List.set_cons_zero, List.set_cons_succ]
          refine wpAnyH_take (i := 2) (v := ?v3) rfl (by kernel_rfl) (by kernel_rfl) (by kernel_rfl) (fun _ _ _ h => h) (Or.inl ⟨by rfl, ?hy3⟩) hHeld ?rest3
          case hy3 =>
            intro w' hSw
            try dsimp only at hSw
            go_simp
            first | done | with_reducible rfl
          try simp only [Act.put, List.getElem_toArray, List.getElem_cons_succ, List.getElem_cons_zero, List.setIfInBounds_toArray, List.set_cons_zero, List.set_cons_succ]
          refine wpAnyH_take (i := 3) (v := ?v4) rfl (by kernel_rfl) (by kernel_rfl) (by kernel_rfl) (fun _ _ _ h => h) (Or.inl ⟨by rfl, ?hy4⟩) hHeld ?rest4
          case hy4 =>
            intro w' hSw
            try dsimp only at hSw
            go_simp
            first | done | with_reducible rfl
          try simp only [Act.put, List.getElem_toArray, List.getElem_cons_succ, List.getElem_cons_zero, List.setIfInBounds_toArray, List.set_cons_zero, List.set_cons_succ]
          refine wpAnyH_take (i := 4) (v := ?v5) rfl (by kernel_rfl) (by kernel_rfl) (by kernel_rfl) (fun _ _ _ h => h) (Or.inl ⟨by rfl, ?hy5⟩) hHeld ?rest5
          case hy5 =>
            intro w' hSw
            try dsimp only at hSw
            go_simp
            first | done | with_reducible rfl
          try simp only [Act.put, List.getElem_toArray, List.getElem_cons_succ, List.getElem_cons_zero, List.setIfInBounds_toArray, List.set_cons_zero, List.set_cons_succ]
          refine wpAnyH_take (i := 5) (v := ?v6) rfl (by kernel_rfl) (by kernel_rfl) (by kernel_rfl) (fun _ _ _ h => h) (Or.inl ⟨by rfl, ?hy6⟩) hHeld ?rest6
          case hy6 =>
            intro w' hSw
            try dsimp only at hSw
            go_simp
            first | done | with_reducible rfl
          try simp only [Act.put, List.getElem_toArray, List.getElem_cons_succ, List.getElem_cons_zero, List.setIfInBounds_toArray, List.set_cons_zero, List.set_cons_succ]
          refine wpAnyH_take (i := 6) (v := ?v7) rfl (by kernel_rfl) (by kernel_rfl) (by kernel_rfl) (fun _ _ _ h => h) (Or.inl ⟨by rfl, ?hy7⟩) hHeld ?rest7
          case hy7 =>
            intro w' hSw
            try dsimp only at hSw
            go_simp
            first | done | with_reducible rfl
          try simp only [Act.put, List.getElem_toArray, List.getElem_cons_succ, List.getElem_cons_zero, List.setIfInBounds_toArray, List.set_cons_zero, List.set_cons_succ]
          refine wpAnyH_take (i := 7) (v := ?v8) rfl (by kernel_rfl) (by kernel_rfl) (by kernel_rfl) (fun _ _ _ h => h) (Or.inl ⟨by rfl, ?hy8⟩) hHeld ?rest8
          case hy8 =>
            intro w' hSw
            try dsimp only at hSw
            go_simp
            first | done | with_reducible rfl
          try simp only [Act.put, List.getElem_toArray, List.getElem_cons_succ, List.getElem_cons_zero, List.setIfInBounds_toArray, List.set_cons_zero, List.set_cons_succ]
          refine wpAnyH_done (by kernel_rfl) ?_ _
          refine OnlyN.normal ?_
          clear hHeld
          go_wp2_with fail
          refine wp_region_only (S := fun w' => w'.cell? ⟨w.heap.size, 2, none⟩ = some (.int .i64 (s : Int)) ∧ w'.cell? ⟨b, off + k, none⟩ = some (.int .i64 x)) (by kernel_rfl) ⟨(Blk.cell (drew_blk (drew_blk HP1r.out)) 2).trans rfl, HC.out⟩ (fun hHeld => ?_)
          refine wpAnyH_take (i := 0) (v := ?v9) rfl (by kernel_rfl) (by kernel_rfl) (by kernel_rfl) (fun _ _ _ h => h) (Or.inl ⟨by rfl, ?hy9⟩) hHeld ?rest9
          case hy9 =>
            intro w' hSw
            try dsimp only at hSw
            go_simp
            first | done | with_reducible rfl
          try simp only [Act.put, List.getElem_toArray, List.getElem_cons_zero, List.setIfInBounds_toArray, List.set_cons_zero, List.set_cons_succ]
          refine wpAnyH_take (i := 1) (v := ?v10) rfl (by kernel_rfl) (by kernel_rfl) (by kernel_rfl) (fun _ _ _ h => h) (Or.inl ⟨by rfl, ?hy10⟩) hHeld ?rest10
          case hy10 =>
            intro w' hSw
            try dsimp only at hSw
            go_simp
            first | done | with_reducible rfl
          try simp only [Act.put, List.getElem_toArray, List.getElem_cons_succ, List.getElem_cons_zero, List.setIfInBounds_toArray, List.set_cons_zero, List.set_cons_succ]
          refine wpAnyH_take (i := 2) (v := ?v11) rfl (by kernel_rfl) (by kernel_rfl) (by kernel_rfl) (fun _ _ _ h => h) (Or.inl ⟨by rfl, ?hy11⟩) hHeld ?rest11
          case hy11 =>
            intro w' hSw
            try dsimp only at hSw
            go_simp
            first | done | with_reducible rfl
          try simp only [Act.put, List.getElem_toArray, List.getElem_cons_succ, List.getElem_cons_zero, List.setIfInBounds_toArray, List.set_cons_zero, List.set_cons_succ]
          refine wpAnyH_take (i := 3) (v := ?v12) rfl (by kernel_rfl) (by kernel_rfl) (by kernel_rfl) (fun _ _ _ h => h) (Or.inl ⟨by rfl, ?hy12⟩) hHeld ?rest12
          case hy12 =>
            intro w' hSw
            try dsimp only at hSw
            go_simp
            first | done | with_reducible rfl
          try simp only [Act.put, List.getElem_toArray, List.getElem_cons_succ, List.getElem_cons_zero, List.setIfInBounds_toArray, List.set_cons_zero, List.set_cons_succ]
          refine wpAnyH_take (i := 4) (v := ?v13) rfl (by kernel_rfl) (by kernel_rfl) (by kernel_rfl) (fun _ _ _ h => h) (Or.inl ⟨by rfl, ?hy13⟩) hHeld ?rest13
          case hy13 =>
            intro w' hSw
            try dsimp only at hSw
            go_simp
            first | done | with_reducible rfl
          try simp only [Act.put, List.getElem_toArray, List.getElem_cons_succ, List.getElem_cons_zero, List.setIfInBounds_toArray, List.set_cons_zero, List.set_cons_succ]
          refine wpAnyH_take (i := 5) (v := ?v14) rfl (by kernel_rfl) (by kernel_rfl) (by kernel_rfl) (fun _ _ _ h => h) (Or.inl ⟨by rfl, ?hy14⟩) hHeld ?rest14
          case hy14 =>
            intro w' hSw
            try dsimp only at hSw
            go_simp
            first | done | with_reducible rfl
          try simp only [Act.put, List.getElem_toArray, List.getElem_cons_succ, List.getElem_cons_zero, List.setIfInBounds_toArray, List.set_cons_zero, List.set_cons_succ]
          refine wpAnyH_take (i := 6) (v := ?v15) rfl (by kernel_rfl) (by kernel_rfl) (by kernel_rfl) (fun _ _ _ h => h) (Or.inl ⟨by rfl, ?hy15⟩) hHeld ?rest15
          case hy15 =>
            intro w' hSw
            try dsimp only at hSw
            go_simp
            first | done | with_reducible rfl
          try simp only [Act.put, List.getElem_toArray, List.getElem_cons_succ, List.getElem_cons_zero, List.setIfInBounds_toArray, List.set_cons_zero, List.set_cons_succ]
          refine wpAnyH_take (i := 7) (v := ?v16) rfl (by kernel_rfl) (by kernel_rfl) (by kernel_rfl) (fun _ _ _ h => h) (Or.inl ⟨by rfl, ?hy16⟩) hHeld ?rest16
          case hy16 =>
            intro w' hSw
            try dsimp only at hSw
            go_simp
            first | done | with_reducible rfl
          try simp only [Act.put, List.getElem_toArray, List.getElem_cons_succ, List.getElem_cons_zero, List.setIfInBounds_toArray, List.set_cons_zero, List.set_cons_succ]
          refine wpAnyH_ready (rs := [8]) (by kernel_rfl) (by simp) ?_
          refine AllReadyH.cons (by rfl) (fun K hK => ?_) AllReadyH.nil
          go_simp
          have HO1 := Lib.hid (World.ownsRow.drew (World.ownsRow.drew (World.ownsRow.alloc HO.out (.cells #[.int .i64 ((s : Int) + x)] 3))))
          have N1 := Lib.hid (drew_blk (drew_blk (Blk.new wr 3 #[.int .i64 ((s : Int) + x)])))
          have HB1 := Lib.hid (HB.out.alloc HB.out.size (.cells #[.int .i64 ((s : Int) + x)] 3)).drew.drew
          have HP1a := Lib.hid (drew_blk (drew_blk (HP1r.out.alloc (.cells #[.int .i64 ((s : Int) + x)] 3))))
          have HC1 := Lib.hid (show (wr.alloc (.cells #[.int .i64 ((s : Int) + x)] 3)).drew.drew.cell? ⟨b, off + k, none⟩ = some (.int .i64 x) from (World.cell?_alloc_lt wr (.cells #[.int .i64 ((s : Int) + x)] 3) ⟨b, off + k, none⟩ (cell_lt HC.out)).trans HC.out)
          generalize (wr.alloc (.cells #[.int .i64 ((s : Int) + x)] 3)).drew.drew = W1 at HO1 N1 HB1 HP1a HC1 ⊢
          refine hK.out _ _ ⟨(Blk.cell HP1a.out 2).trans rfl, HC1.out⟩ (fun hHeld => ?_)
          clear hK K
          try simp only [Act.put, List.getElem_toArray, List.getElem_cons_succ, List.getElem_cons_zero, List.setIfInBounds_toArray, List.set_cons_zero, List.set_cons_succ]
          refine wpAnyH_ready (rs := [9]) (by kernel_rfl) (by simp) ?_
          refine AllReadyH.cons (by rfl) (fun K hK => ?_) AllReadyH.nil
          refine step_append_i rfl (.tmp 28) (.tmp 36) (by rfl) W.heap.size u6 _ _ (by simp [Act.eval]) HO1.out wr.heap.size 1 ((s : Int) + x) (by simp [Act.eval]) ((Blk.cell N1.out 0).trans rfl) (by have := failR_len s (l.take k); rw [List.length_take] at this; omega) HB1.out.size ?_
          intro g' cap' w6 hown6 hg6
          have hne : ∀ q, q < W.heap.size → some q ≠ u6.ownBlock := fun q hq e => by have := (HO1.out.lt q e.symm).1; omega
          have HO6 := Lib.hid hown6
          have HB6 := Lib.hid (HB1.out.grown hg6 HB1.out.size (fun q e => (HO1.out.lt q e).1))
          have HP6 := Lib.hid (show Blk w6 w.heap.size _ _ from (hg6.block w.heap.size HP1a.out.lt (hne _ HP1.out.lt)).trans HP1a.out)
          have HC6 := Lib.hid ((World.cell?_of_block (a := ⟨b, off + k, none⟩) (hg6.block b (cell_lt HC1.out) (hne _ (by have := HBLT.out; have := HP1.out.lt; omega)))).trans HC1.out)
          clear hown6 hg6 hne
          refine hK.out _ _ ⟨(Blk.cell HP6.out 2).trans rfl, HC6.out⟩ (fun hHeld => ?_)
          clear hK K
          try simp only [Act.put, List.getElem_toArray, List.getElem_cons_succ, List.getElem_cons_zero, List.setIfInBounds_toArray, List.set_cons_zero, List.set_cons_succ]
          refine wpAnyH_take (i := 10) (v := ?v17) rfl (by kernel_rfl) (by kernel_rfl) (by kernel_rfl) (fun _ _ _ h => h) (Or.inl ⟨by rfl, ?hy17⟩) hHeld ?rest17
          case hy17 =>
            intro w' hSw
            try dsimp only at hSw
            go_simp
            first | done | with_reducible rfl
          try simp only [Act.put, List.getElem_toArray, List.getElem_cons_succ, List.getElem_cons_zero, List.setIfInBounds_toArray, List.set_cons_zero, List.set_cons_succ]
          refine wpAnyH_done (by kernel_rfl) ?_ _
          refine OnlyN.normal ?_
          clear hHeld
          go_wp2
          go_roundw
          case rel => exact ⟨k + 1, by omega, by go_num, HPOS2.out, by rw [HT.out, failR_snoc, if_pos (by have := HLE.out; omega), List.length_append, show ic (failR s (l.take k) ++ [(s : Int) + x]) = ic (failR s (l.take k)) ++ [.int .i64 ((s : Int) + x)] by simp [ic]]; exact HO6.out, HB6.out⟩
          case measure => simp [intOf]; omega
        · have h2 : decide (x ≤ 9223372036854775807 - (s : Int)) = false := by simpa using hle
          have HLE := Lib.hid hle
          clear hle
          go_wp2_with fail
          refine wp_region_only (S := fun w' => w'.cell? ⟨w.heap.size, 2, none⟩ = some (.int .i64 (s : Int)) ∧ w'.cell? ⟨b, off + k, none⟩ = some (.int .i64 x)) (by kernel_rfl) ⟨(Blk.cell (drew_blk HP1r.out) 2).trans rfl, HC.out⟩ (fun hHeld => ?_)
          refine wpAnyH_take (i := 0) (v := ?v18) rfl (by kernel_rfl) (by kernel_rfl) (by kernel_rfl) (fun _ _ _ h => h) (Or.inl ⟨by rfl, ?hy18⟩) hHeld ?rest18
          case hy18 =>
            intro w' hSw
            try dsimp only at hSw
            go_simp
            first | done | with_reducible rfl
          try simp only [Act.put, List.getElem_toArray, List.getElem_cons_zero, List.setIfInBounds_toArray, List.set_cons_zero, List.set_cons_succ]
          refine wpAnyH_take (i := 1) (v := ?v19) rfl (by kernel_rfl) (by kernel_rfl) (by kernel_rfl) (fun _ _ _ h => h) (Or.inl ⟨by rfl, ?hy19⟩) hHeld ?rest19
          case hy19 =>
            intro w' hSw
            try dsimp only at hSw
            go_simp
            first | done | with_reducible rfl
          try simp only [Act.put, List.getElem_toArray, List.getElem_cons_succ, List.getElem_cons_zero, List.setIfInBounds_toArray, List.set_cons_zero, List.set_cons_succ]
          refine wpAnyH_take (i := 2) (v := ?v20) rfl (by kernel_rfl) (by kernel_rfl) (by kernel_rfl) (fun _ _ _ h => h) (Or.inl ⟨by rfl, ?hy20⟩) hHeld ?rest20
          case hy20 =>
            intro w' hSw
            try dsimp only at hSw
            go_simp
            first | done | with_reducible rfl
          try simp only [Act.put, List.getElem_toArray, List.getElem_cons_succ, List.getElem_cons_zero, List.setIfInBounds_toArray, List.set_cons_zero, List.set_cons_succ]
          refine wpAnyH_take (i := 3) (v := ?v21) rfl (by kernel_rfl) (by kernel_rfl) (by kernel_rfl) (fun _ _ _ h => h) (Or.inl ⟨by rfl, ?hy21⟩) hHeld ?rest21
          case hy21 =>
            intro w' hSw
            try dsimp only at hSw
            go_simp
            first | done | with_reducible rfl
          try simp only [Act.put, List.getElem_toArray, List.getElem_cons_succ, List.getElem_cons_zero, List.setIfInBounds_toArray, List.set_cons_zero, List.set_cons_succ]
          refine wpAnyH_take (i := 4) (v := ?v22) rfl (by kernel_rfl) (by kernel_rfl) (by kernel_rfl) (fun _ _ _ h => h) (Or.inl ⟨by rfl, ?hy22⟩) hHeld ?rest22
          case hy22 =>
            intro w' hSw
            try dsimp only at hSw
            go_simp
            first | done | with_reducible rfl
          try simp only [Act.put, List.getElem_toArray, List.getElem_cons_succ, List.getElem_cons_zero, List.setIfInBounds_toArray, List.set_cons_zero, List.set_cons_succ]
          refine wpAnyH_take (i := 5) (v := ?v23) rfl (by kernel_rfl) (by kernel_rfl) (by kernel_rfl) (fun _ _ _ h => h) (Or.inl ⟨by rfl, ?hy23⟩) hHeld ?rest23
          case hy23 =>
            intro w' hSw
            try dsimp only at hSw
            go_simp
            first | done | with_reducible rfl
          try simp only [Act.put, List.getElem_toArray, List.getElem_cons_succ, List.getElem_cons_zero, List.setIfInBounds_toArray, List.set_cons_zero, List.set_cons_succ]
          refine wpAnyH_take (i := 6) (v := ?v24) rfl (by kernel_rfl) (by kernel_rfl) (by kernel_rfl) (fun _ _ _ h => h) (Or.inl ⟨by rfl, ?hy24⟩) hHeld ?rest24
          case hy24 =>
            intro w' hSw
            try dsimp only at hSw
            go_simp
            first | done | with_reducible rfl
          try simp only [Act.put, List.getElem_toArray, List.getElem_cons_succ, List.getElem_cons_zero, List.setIfInBounds_toArray, List.set_cons_zero, List.set_cons_succ]
          refine wpAnyH_take (i := 7) (v := ?v25) rfl (by kernel_rfl) (by kernel_rfl) (by kernel_rfl) (fun _ _ _ h => h) (Or.inl ⟨by rfl, ?hy25⟩) hHeld ?rest25
          case hy25 =>
            intro w' hSw
            try dsimp only at hSw
            go_simp
            first | done | with_reducible rfl
          try simp only [Act.put, List.getElem_toArray, List.getElem_cons_succ, List.getElem_cons_zero, List.setIfInBounds_toArray, List.set_cons_zero, List.set_cons_succ]
          refine wpAnyH_done (by kernel_rfl) ?_ _
          refine OnlyN.normal ?_
          clear hHeld
          go_wp2
          go_roundw
          case rel => exact ⟨k + 1, by omega, by go_num, HPOS2.out, by rw [HT.out, failR_snoc, if_neg (by have := HLE.out; omega)]; exact World.ownsRow.drew HO.out, HB.out.drew⟩
          case measure => simp [intOf]; omega
    · have hkl : k = l.length := by omega
      subst hkl
      rw [List.take_length] at hown hpos
      obtain ⟨A5, cap5, rfl⟩ := own_shape hown
      have HOF := Lib.hid hown
      have HPF := Lib.hid hpos
      clear HPOS HO
      have q0 := (P2r.cell 0).trans (show _ = some (.slice none 0 0) from rfl)
      have q1 := (P2r.cell 1).trans (show _ = some (.slice none 0 0) from rfl)
      have q2 := (P2r.cell 2).trans (show _ = some (.int .i64 0) from rfl)
      have q3 := (P2r.cell 3).trans (show _ = some (.slice none 0 0) from rfl)
      have g0 := P2r.frozen 0
      have g1 := P2r.frozen 1
      have g2 := P2r.frozen 2
      have g3 := P2r.frozen 3
      have c0 := (P1r.cell 0).trans (show _ = some (.slice A1 n1 c1) from rfl)
      have c1' := (P1r.cell 1).trans (show _ = some (.slice A2 n2 c2) from rfl)
      have c2' := (P1r.cell 2).trans (show _ = some (.int .i64 (s : Int)) from rfl)
      have c3' := (P1r.cell 3).trans (show _ = some (.slice A3 n3 c3) from rfl)
      have gg := P1r.frozen 3
      clear P1r P2r hown hpos hb
      go_wp2
      refine bodyPost_ret (results_ref rfl _ _ (w.heap.size + 1) (Rp.cells ⟨A1, n1, c1, A2, n2, c2, A5, (failR s l).length, cap5⟩ s) rfl rfl (four_set ((HP2r.out.far (p := ⟨w.heap.size, 3, none⟩) (by simp) _)) (.slice A1 n1 c1) (.slice A2 n2 c2) (.int .i64 (s : Int)) (.slice A5 (failR s l).length cap5))) rfl ?_
      have hnb : ∀ q, (Value.slice A5 (failR s l).length cap5).ownBlock = some q → W.heap.size ≤ q := fun q hq => (HOF.out.lt q hq).1
      have hwW : w.heap.size + 1 < W.heap.size := HP2.out.lt
      refine .inl ⟨HPF.out, A5, cap5, rfl, ?_, ?_, ?_⟩
      · exact rdI_of_own (own_set (own_set (own_set (own_set (own_set HOF.out _ _ (fun q hq => by have := hnb q hq; simp; omega)) _ _ (fun q hq => by have := hnb q hq; simp; omega)) _ _ (fun q hq => by have := hnb q hq; simp; omega)) _ _ (fun q hq => by have := hnb q hq; simp; omega)) _ _ (fun q hq => by have := hnb q hq; simp; omega))
      · rintro b off rfl
        have h1 := hnb b rfl
        have h2 := (HOF.out.lt b rfl).2
        exact ⟨by omega, by simpa [World.setCell] using h2⟩
      · exact four_below (BW.out.setCell (Nat.le_refl _) _) (by simp) _ _ _ _
end Go.Proofs.Ytgjamgojjajcnaa
namespace Go.Proofs.Ytgjamgojjajcnaa
open Go.RowKit
theorem DiskAt.base {w : World} {base base' p : Nat} {pl : Pl} {D : Dk} (h : DiskAt w base p pl D) (hb : base' ≤ base) : DiskAt w base' p pl D :=
  { h with
    row := own_base h.row hb
    bp := Nat.le_trans hb h.bp
    bm := Nat.le_trans hb h.bm
    bf := fun b e => Nat.le_trans hb (h.bf b e) }
set_option maxRecDepth 8000 in
set_option maxHeartbeats 400000 in
theorem small_any (w : World) (n : Int) : Calls Try.prog 8 #[.int .i64 n] w fun e w' => e = .returned (.bool (decide (1 ≤ n) && decide (n ≤ 12))) ∧ w = w' := by
  by_cases h : 1 ≤ n
  · have h1 : decide (1 ≤ n) = true := by simpa using h
    rw [h1, Bool.true_and]
    go_enter Try.func8, Try.ntmps8
    go_wp2
    go_ret
    exact ⟨rfl, rfl⟩
  · have h1 : decide (1 ≤ n) = false := by simpa using h
    rw [h1, Bool.false_and]
    go_enter Try.func8, Try.ntmps8
    go_wp2
    go_ret
    exact ⟨rfl, rfl⟩
set_option maxRecDepth 8000 in
theorem results_begun {fn : Func} {o p q : Tmp} (h : fn.results = #[.tmp o, .cell p 34, .tmp q]) (tmps : Array Value) (w : World) (g : Nat) (cs : Array Value) (hl : cs.size = 4)
    (hp : tmps.getD p undef = .pointer (some ⟨g, 0, none⟩)) (hg : Blk w g 34 cs) : (results fn tmps).run Try.prog w = .ok (.tuple #[tmps.getD o undef, .agg cs, tmps.getD q undef]) w := by
  have hp' : tmps[p]?.getD undef = .pointer (some ⟨g, 0, none⟩) := by simpa using hp
  have hl := run_loadVar_row (P := Try.prog) w g 34 34 cs (0, 0) _ hg Try.underlying34 rfl (by rw [hl]; exact size43)
  simp [results, h, hp', asAddr, hl]
set_option maxRecDepth 100000 in
set_option maxHeartbeats 1600000 in
theorem begun_nil (w : World) (s : Nat) (s1 : 1 ≤ s) (s2 : s ≤ 12) :
    Calls Try.prog 10 #[.int .i64 (s : Int), .slice none 0 0] w fun e w' => ∃ p pl A1 c1, e = .returned (.tuple #[.pointer (some ⟨p, 0, none⟩), Rp.val ⟨A1, s * 512, c1, none, 0, 0, none, 0, 0⟩ 0, .bool true]) ∧
      DiskAt w' w.heap.size p pl (ofD (List.replicate (s * 512) 0) s s) ∧ Below w.heap.size w w' := by
  have hz := z43
  obtain ⟨N, hN⟩ : ∃ N, N = s * 512 := ⟨_, rfl⟩
  have NE := Lib.hid hN
  have wr1 : IntKind.i64.wrap (512 * (s : Int)) = (N : Int) := by rw [show 512 * (s : Int) = (N : Int) by omega]; exact IntWalk.i64_in _ (by omega)
  have n1 : (N : Int) ≤ 3000000 := by omega
  have n0 : (0 : Int) ≤ (N : Int) := by omega
  have n2 : ((0 : Int) < (N : Int)) := by omega
  have hmk := fun W : World => run_make_row' (P := Try.prog) 22 5 (.int .u8 0) 1 Try.underlying22 infoU8 rfl .i64 .i64 N (by omega) (by omega) W
  clear hN
  go_enter Try.func10, Try.ntmps10
  go_wp2_with fail
  have R1 := Lib.hid (diskMakes.made_rd (w.alloc (.cells #[.slice none 0 0, .slice none 0 0, .int .i64 0, .slice none 0 0] 34)) N)
  have P1 := Lib.hid ((Blk.new w 34 #[.slice none 0 0, .slice none 0 0, .int .i64 0, .slice none 0 0]).alloc (.cells (madeCells #[.int .u8 0] N) 5))
  have B1 := Lib.hid (((Below.refl w.heap.size w).alloc (Nat.le_refl _) (.cells #[.slice none 0 0, .slice none 0 0, .int .i64 0, .slice none 0 0] 34)).alloc (by simp) (.cells (madeCells #[.int .u8 0] N) 5))
  generalize (w.alloc (.cells #[.slice none 0 0, .slice none 0 0, .int .i64 0, .slice none 0 0] 34)).alloc (.cells (madeCells #[.int .u8 0] N) 5) = W at R1 P1 B1 ⊢
  go_loop [8] (fun i => i = .int .i64 0) (fun _ => 0)
  case atStart => rfl
  case round =>
    subst hrel
    go_wp2_with fail
    simp only [World.size_alloc] at R1
    have OF := of_ok W (w.heap.size + 1) 0 N s (List.replicate N 0) (by rw [List.length_replicate]; exact NE.out) s1 (by omega) (by rw [List.length_replicate]; exact Nat.le_refl _) R1.out
    rw [List.length_replicate] at OF
    refine OF.mono ?_
    rintro e w3 ⟨p, pl, rfl, c3, b3⟩
    have C3 := Lib.hid c3
    have P3 := P1.out.below b3 P1.out.lt
    have HP3 := Lib.hid P3
    have B3 := Lib.hid (B1.out.trans (b3.mono B1.out.size))
    have q0 := (P3.cell 0).trans (show _ = some (.slice none 0 0) from rfl)
    have q1 := (P3.cell 1).trans (show _ = some (.slice none 0 0) from rfl)
    have q2 := (P3.cell 2).trans (show _ = some (.int .i64 0) from rfl)
    have q3 := (P3.cell 3).trans (show _ = some (.slice none 0 0) from rfl)
    have g0 := P3.frozen 0
    have g1 := P3.frozen 1
    have g2 := P3.frozen 2
    have g3 := P3.frozen 3
    clear c3 b3 P3 OF
    go_wp2_with (go_at_call 14; refine (num_any _ _).mono ?_; rintro e w' ⟨rfl, rfl⟩)
    refine bodyPost_ret (results_begun rfl _ _ w.heap.size #[.slice (some ⟨w.heap.size + 1, 0, none⟩) N N, .slice none 0 0, .int .i64 0, .slice none 0 0] rfl rfl (four_set HP3.out (.slice (some ⟨w.heap.size + 1, 0, none⟩) N N) (.slice none 0 0) (.int .i64 0) (.slice none 0 0))) rfl
      ⟨p, pl, some ⟨w.heap.size + 1, 0, none⟩, N, by rw [← NE.out]; rfl, ?_, four_below B3.out (Nat.le_refl _) _ _ _ _⟩
    rw [← NE.out]
    refine (C3.out.base B1.out.size).keep (fun k hk => ?_)
    have h1 := (C3.out.lt k hk).2
    have h2 := P1.out.lt
    rw [Below.heap_setCell _ _ _ k (by simp; omega), Below.heap_setCell _ _ _ k (by simp; omega), Below.heap_setCell _ _ _ k (by simp; omega), Below.heap_setCell _ _ _ k (by simp; omega)]
end Go.Proofs.Ytgjamgojjajcnaa

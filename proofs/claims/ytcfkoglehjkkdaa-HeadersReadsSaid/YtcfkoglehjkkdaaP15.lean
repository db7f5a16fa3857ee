/- the document's answer for layer 2: its disk's value; step. -/
import Derived.Test.YtcfkoglehjkkdaaP12
import Derived.Test.YtcfkoglehjkkdaaP10
namespace Go.Proofs.Ytcfkoglehjkkdaa
open Go.RowKit
/-- where a disk of the document's answer has its lists -/
structure Rp where
  A1 : Option Addr
  n1 : Nat
  c1 : Nat
  A2 : Option Addr
  n2 : Nat
  c2 : Nat
  A3 : Option Addr
  n3 : Nat
  c3 : Nat
abbrev Rp.cells (r : Rp) (s : Nat) : Array Value := #[.slice r.A1 r.n1 r.c1, .slice r.A2 r.n2 r.c2, .int .i64 (s : Int), .slice r.A3 r.n3 r.c3]
abbrev Rp.val (r : Rp) (s : Nat) : Value := .agg (r.cells s)
set_option maxRecDepth 8000 in
theorem zero43 : (Try.prog.info? 33).map (fun i => (i.zero, i.size)) = some (some (.agg #[.slice none 0 0, .slice none 0 0, .int .i64 0, .slice none 0 0]), 4) := by kernel_rfl
theorem z43 (w : World) : (zeroValue 33).run Try.prog w = .ok (.agg #[.slice none 0 0, .slice none 0 0, .int .i64 0, .slice none 0 0]) w := (zero_of_info zero43).1 w
set_option maxRecDepth 8000 in
theorem size43 : (Try.prog.info? 33).map (·.size) = some 4 := by kernel_rfl
set_option maxRecDepth 8000 in
theorem results_ref {fn : Func} {p q : Tmp} (h : fn.results = #[.cell p 33, .tmp q]) (tmps : Array Value) (w : World) (g : Nat) (cs : Array Value) (hl : cs.size = 4)
    (hp : tmps.getD p undef = .pointer (some ⟨g, 0, none⟩)) (hg : Blk w g 33 cs) : (results fn tmps).run Try.prog w = .ok (.tuple #[.agg cs, tmps.getD q undef]) w := by
  have hp' : tmps[p]?.getD undef = .pointer (some ⟨g, 0, none⟩) := by simpa using hp
  have hl := run_loadVar_row (P := Try.prog) w g 33 33 cs (0, 0) _ hg Try.underlying33 rfl (by rw [hl]; exact size43)
  simp [results, h, hp', asAddr, hl]
theorem four_set {W : World} {b : Nat} {t : TypeId} {v0 v1 v2 v3 : Value} (h : Blk W b t #[v0, v1, v2, v3]) (u0 u1 u2 u3 : Value) :
    Blk ((((W.setCell ⟨b, 0, none⟩ u0).setCell ⟨b, 1, none⟩ u1).setCell ⟨b, 2, none⟩ u2).setCell ⟨b, 3, none⟩ u3) b t #[u0, u1, u2, u3] := (((h.set_ 0 u0).set_ 1 u1).set_ 2 u2).set_ 3 u3
set_option maxRecDepth 100000 in
set_option maxHeartbeats 1600000 in
theorem rstep_any (w : World) (r : Rp) (s : Nat) (l : List Int) (hl : l.length = r.n3) (hn : r.n3 ≤ 1000000) (hs : s ≤ 1000000) (hr : RdI w r.A3 l) :
    Calls Try.prog 57 #[r.val s] w fun e w' => e = .returned (.tuple #[r.val (s + 1), .bool (!(decide ((s : Int) ∈ l)))]) ∧ Below w.heap.size w w' := by
  have hz := z43
  have HR := Lib.hid hr
  have HL := Lib.hid hl
  clear hr hl
  go_enter Try.func57, Try.ntmps57
  go_wp2
  have P1 := Lib.hid ((Blk.new w 33 #[.slice r.A1 r.n1 r.c1, .slice r.A2 r.n2 r.c2, .int .i64 ((s : Int) + 1), .slice r.A3 r.n3 r.c3]).alloc (.cells #[.slice none 0 0, .slice none 0 0, .int .i64 0, .slice none 0 0] 33))
  have P2 := Blk.new (w.alloc (.cells #[.slice r.A1 r.n1 r.c1, .slice r.A2 r.n2 r.c2, .int .i64 ((s : Int) + 1), .slice r.A3 r.n3 r.c3] 33)) 33 #[.slice none 0 0, .slice none 0 0, .int .i64 0, .slice none 0 0]
  simp only [World.size_alloc] at P2
  have BL := Lib.hid (((Below.refl w.heap.size w).alloc (Nat.le_refl _) (.cells #[.slice r.A1 r.n1 r.c1, .slice r.A2 r.n2 r.c2, .int .i64 ((s : Int) + 1), .slice r.A3 r.n3 r.c3] 33)).alloc (by simp) (.cells #[.slice none 0 0, .slice none 0 0, .int .i64 0, .slice none 0 0] 33))
  have R2 := Lib.hid (HR.out.below BL.out)
  have PP2 := Lib.hid P2
  generalize (w.alloc (.cells #[.slice r.A1 r.n1 r.c1, .slice r.A2 r.n2 r.c2, .int .i64 ((s : Int) + 1), .slice r.A3 r.n3 r.c3] 33)).alloc (.cells #[.slice none 0 0, .slice none 0 0, .int .i64 0, .slice none 0 0] 33) = W at P1 PP2 BL R2 ⊢
  clear P2 hz
  have b3 := (P1.out.cell 3).trans (show _ = some (.slice r.A3 r.n3 r.c3) from rfl)
  have b0 := (P1.out.cell 0).trans (show _ = some (.slice r.A1 r.n1 r.c1) from rfl)
  have b1 := (P1.out.cell 1).trans (show _ = some (.slice r.A2 r.n2 r.c2) from rfl)
  have b2 := (P1.out.cell 2).trans (show _ = some (.int .i64 ((s : Int) + 1)) from rfl)
  have q0 := (PP2.out.cell 0).trans (show _ = some (.slice none 0 0) from rfl)
  have q1 := (PP2.out.cell 1).trans (show _ = some (.slice none 0 0) from rfl)
  have q2 := (PP2.out.cell 2).trans (show _ = some (.int .i64 0) from rfl)
  have q3 := (PP2.out.cell 3).trans (show _ = some (.slice none 0 0) from rfl)
  have g0 := PP2.out.frozen 0
  have g1 := PP2.out.frozen 1
  have g2 := PP2.out.frozen 2
  have g3 := PP2.out.frozen 3
  have i0 : (0 : Int) ≤ (r.n3 : Int) := Int.natCast_nonneg _
  go_loop [5] (fun i => ∃ k : Nat, k ≤ r.n3 ∧ i = .int .i64 k ∧ ¬ ((s : Int) ∈ l.take k)) (fun i => r.n3 - (intOf i).toNat)
  case atStart => exact ⟨0, Nat.zero_le _, rfl, by simp⟩
  case round =>
    obtain ⟨k, hk, rfl, hno⟩ := hrel
    by_cases hlt : k < r.n3
    · have hkl : k < l.length := by rw [HL.out]; exact hlt
      obtain ⟨b, off, he, hc⟩ := R2.out k hkl
      rw [he] at b3
      obtain ⟨x, hx⟩ : ∃ x, x = l[k] := ⟨_, rfl⟩
      rw [← hx] at hc
      have HT := Lib.hid (show l.take (k + 1) = l.take k ++ [x] by rw [List.take_add_one, List.getElem?_eq_getElem hkl, hx]; rfl)
      have HC := Lib.hid (show x ∈ l by rw [hx]; exact List.getElem_mem _)
      have HNO := Lib.hid hno
      have HE := Lib.hid he
      clear hx hno he
      by_cases hxs : x = (s : Int)
      · have hb : (x == (s : Int)) = true := beq_iff_eq.2 hxs
        have HX := Lib.hid hxs
        clear hxs
        go_wp2
        have E1 : (s : Int) ∈ l := by rw [← HX.out]; exact HC.out
        refine bodyPost_ret (results_ref rfl _ _ (w.heap.size + 1) (r.cells (s + 1)) rfl rfl ?_) rfl ⟨?_, ?_⟩
        · have h4 := four_set PP2.out (.slice r.A1 r.n1 r.c1) (.slice r.A2 r.n2 r.c2) (.int .i64 ((s : Int) + 1)) (.slice r.A3 r.n3 r.c3)
          rw [HE.out] at h4
          unfold Rp.cells
          rw [HE.out]
          exact h4
        · rw [decide_eq_true E1]
          rfl
        · exact (((BL.out.setCell (by simp) _).setCell (by simp) _).setCell (by simp) _).setCell (by simp) _
      · have hb : (x == (s : Int)) = false := beq_eq_false_iff_ne.2 hxs
        have HX := Lib.hid hxs
        clear hxs
        go_wp2
        go_round
        case rel => exact ⟨k + 1, by omega, by go_num, by rw [HT.out, List.mem_append, List.mem_singleton]; exact fun h => h.elim HNO.out (fun e => HX.out e.symm)⟩
        case measure => simp [intOf]; omega
    · have hkn : k = r.n3 := by omega
      subst hkn
      rw [← HL.out, List.take_length] at hno
      have HNO := Lib.hid hno
      clear hno
      go_wp2
      refine bodyPost_ret (results_ref rfl _ _ (w.heap.size + 1) (r.cells (s + 1)) rfl rfl ?_) rfl ⟨?_, ?_⟩
      · exact four_set PP2.out (.slice r.A1 r.n1 r.c1) (.slice r.A2 r.n2 r.c2) (.int .i64 ((s : Int) + 1)) (.slice r.A3 r.n3 r.c3)
      · rw [decide_eq_false HNO.out]
        rfl
      · exact (((BL.out.setCell (by simp) _).setCell (by simp) _).setCell (by simp) _).setCell (by simp) _
end Go.Proofs.Ytcfkoglehjkkdaa
namespace Go.Proofs.Ytcfkoglehjkkdaa
open Go.RowKit
theorem four_below {B : Nat} {w W : World} (h : Below B w W) {b : Nat} (hb : B ≤ b) (u0 u1 u2 u3 : Value) :
    Below B w ((((W.setCell ⟨b, 0, none⟩ u0).setCell ⟨b, 1, none⟩ u1).setCell ⟨b, 2, none⟩ u2).setCell ⟨b, 3, none⟩ u3) := (((h.setCell hb _).setCell hb _).setCell hb _).setCell hb _
end Go.Proofs.Ytcfkoglehjkkdaa
namespace Go.Proofs.Ytcfkoglehjkkdaa
open Go.RowKit
section
variable {w : World} {base p : Nat} {pl : Pl} {D : Dk}
set_option maxRecDepth 8000 in
theorem own_below' {w w' : World} {base n size : Nat} {e : TypeId} {v : Value} {xs : List Value} (h : w.ownsRow base e size v n xs) (hb : Below w.heap.size w w') : w'.ownsRow base e size v n xs := by
  refine h.kept (row := none) ⟨hb.os, hb.tape, hb.output, hb.size, fun k hk _ => hb.block k hk⟩ ?_
  cases hv : v.ownBlock with
  | none => exact .inl rfl
  | some k => exact .inr (by simp)
set_option maxRecDepth 8000 in
theorem own_set {w : World} {base n size : Nat} {e : TypeId} {v : Value} {xs : List Value} (h : w.ownsRow base e size v n xs) (q : Addr) (u : Value) (hq : ∀ k, v.ownBlock = some k → k ≠ q.block) : (w.setCell q u).ownsRow base e size v n xs := by
  refine ⟨h.1, ?_⟩
  rcases h.2 with h' | ⟨g, cap, cur, hv, hb, hg, rest⟩
  · exact .inl h'
  · exact .inr ⟨g, cap, cur, hv, hb, (Below.heap_setCell w q u g (hq g (by rw [hv]; rfl))).trans hg, rest⟩
theorem SecMap.below {w w' : World} {m : Nat} {L : Nat → List UInt8} (h : SecMap w m L) (hb : Below w.heap.size w w') : SecMap w' m L := h.keep (hb.block m h.lt)
set_option maxRecDepth 8000 in
theorem clone73_any {m : Nat} {L : Nat → List UInt8} (h : SecMap w m L) : Calls Try.prog 40 #[.map (some m)] w fun e w' =>
    ∃ m', e = .returned (.map (some m')) ∧ SecMap w' m' L ∧ w.heap.size ≤ m' ∧ Below w.heap.size w w' := by
  have hc := h.clone
  obtain ⟨es, clock, he, hs⟩ := hc
  refine (clone73 m es clock w he).mono ?_
  rintro e w' ⟨rfl, rfl⟩
  exact ⟨_, rfl, hs w, Nat.le_refl _, (Below.refl _ w).alloc (Nat.le_refl _) _⟩
end
end Go.Proofs.Ytcfkoglehjkkdaa
namespace Go.Proofs.Ytcfkoglehjkkdaa
open Go.RowKit
attribute [local go_sem] Oper.semAt_some
/-- ints as values -/
def ic (l : List Int) : List Value := l.map fun x => .int .i64 x
/-- the numbers of the steps that fail -/
def failR (s : Nat) (l : List Int) : List Int := (l.filter fun x => decide (x ≤ 9223372036854775807 - (s : Int))).map fun x => (s : Int) + x
set_option maxRecDepth 8000 in
theorem failR_snoc (s : Nat) (l : List Int) (x : Int) : failR s (l ++ [x]) = if x ≤ 9223372036854775807 - (s : Int) then failR s l ++ [(s : Int) + x] else failR s l := by
  unfold failR
  rw [List.filter_append, List.map_append]
  by_cases h : x ≤ 9223372036854775807 - (s : Int) <;> simp [h]
set_option maxRecDepth 8000 in
theorem failR_len (s : Nat) (l : List Int) : (failR s l).length ≤ l.length := by
  unfold failR
  rw [List.length_map]
  exact List.length_filter_le _ _
set_option maxRecDepth 8000 in
theorem rdI_of_own {w : World} {base n c : Nat} {A : Option Addr} {l : List Int} (h : w.ownsRow base 3 1 (.slice A n c) n (ic l)) : RdI w A l := by
  intro j hj
  have hl : l.length = n := by have := h.1; simpa [ic] using this
  obtain ⟨g, cap, hv, _, _⟩ := h.form (by omega)
  injection hv with hA _ _
  subst hA
  refine ⟨g, 0, rfl, ?_⟩
  have := h.cellAt j (by omega)
  rw [Nat.zero_add, this]
  simp [ic, hj]
theorem cell_one {w : World} {g : Nat} {u : Value} (h : w.cell? ⟨g, 0, none⟩ = some u) : ∀ j v, ([u] : List Value)[j]? = some v → w.cell? ((⟨g, 0, none⟩ : Addr).add j) = some v := fun j v hv => by
  cases j with
  | zero => rw [add_lit0]; simpa using h.trans hv
  | succ j => simp at hv
set_option maxRecDepth 8000 in
theorem step_append_i {ops : Array Oper} {o : Oper} {a : Act} {w : World} {K : Act → World → Prop} {Q : Exit → Act → World → Prop} {E : Prop} (hgd : o.guard = none) (s x : Operand)
    (ho : o.op = .call { callee := .builtin .append, args := #[s, x], argTypes := #[24, 24] }) (base : Nat) (v : Value) (n : Nat) (xs : List Value) (hs : a.eval s = v) (hown : w.ownsRow base 3 1 v n xs)
    (g0 c : Nat) (e : Int) (hx : a.eval x = .slice (some ⟨g0, 0, none⟩) 1 c) (hb : w.cell? ⟨g0, 0, none⟩ = some (.int .i64 e)) (hn : n ≤ 1000000) (hbase : base ≤ w.heap.size)
    (h : ∀ g cap w', w'.ownsRow base 3 1 (.slice (some ⟨g, 0, none⟩) (n + 1) cap) (n + 1) (xs ++ [.int .i64 e]) → w.grownBy w' v.ownBlock → K (a.put o.dst (.slice (some ⟨g, 0, none⟩) (n + 1) cap)) w') :
    if Region.wanted o (yielded ops a.tmps) = true then Oper.wp Try.prog o a w K Q else E := by
  obtain ⟨i0, hi, hz0, hz1, hz2⟩ := info_parts infoI64
  exact step_append_lies w hgd s x 24 ho base 3 i0 _ 1 8 Try.underlying24 hi hz0 hz1 hz2 rfl (by omega) v n xs hs hown ⟨g0, 0, none⟩ 1 c [.int .i64 e] hx rfl (cell_one hb) (by simp [Value.oneCell'])
    (by omega) (by simp only [maxLen]; omega) (by omega) hbase _ rfl (fun g cap w' h1 h2 _ _ => h g cap w' h1 h2)
set_option maxRecDepth 100000 in
set_option maxHeartbeats 1600000 in
theorem rfail_any (w : World) (r : Rp) (s : Nat) (hs : s ≤ 1000000) (A : Option Addr) (cap : Nat) (l : List Int) (hl : l.length ≤ 1000000) (hr : RdI w A l) (hwf : ∀ x ∈ l, x ≤ 9223372036854775807) :
    Calls Try.prog 29 #[r.val s, .slice A l.length cap] w fun e w' =>
      ((∀ x ∈ l, 0 ≤ x) ∧ ∃ A3 c3, e = .returned (.tuple #[Rp.val { r with A3 := A3, n3 := (failR s l).length, c3 := c3 } s, .int .i64 0]) ∧ RdI w' A3 (failR s l) ∧ (∀ b off, A3 = some ⟨b, off, none⟩ → w.heap.size ≤ b ∧ b < w'.heap.size) ∧ Below w.heap.size w w') ∨
      ((∃ x ∈ l, x < 0) ∧ e = .returned (.tuple #[r.val s, .int .i64 2]) ∧ Below w.heap.size w w') := by
  obtain ⟨A1, n1, c1, A2, n2, c2, A3, n3, c3⟩ := r
  have hz := z43
  have HR := Lib.hid hr
  have HWF := Lib.hid hwf
  clear hr hwf
  have P1 := (Blk.new w 33 #[.slice A1 n1 c1, .slice A2 n2 c2, .int .i64 (s : Int), .slice A3 n3 c3]).alloc (.cells #[.slice none 0 0, .slice none 0 0, .int .i64 0, .slice none 0 0] 33)
  have P2 := Blk.new (w.alloc (.cells #[.slice A1 n1 c1, .slice A2 n2 c2, .int .i64 (s : Int), .slice A3 n3 c3] 33)) 33 #[.slice none 0 0, .slice none 0 0, .int .i64 0, .slice none 0 0]
  simp only [World.size_alloc] at P2
  have BL := (((Below.refl w.heap.size w).alloc (Nat.le_refl _) (.cells #[.slice A1 n1 c1, .slice A2 n2 c2, .int .i64 (s : Int), .slice A3 n3 c3] 33)).alloc (by simp) (.cells #[.slice none 0 0, .slice none 0 0, .int .i64 0, .slice none 0 0] 33))
  obtain ⟨W, hW⟩ : ∃ W, W = (w.alloc (.cells #[.slice A1 n1 c1, .slice A2 n2 c2, .int .i64 (s : Int), .slice A3 n3 c3] 33)).alloc (.cells #[.slice none 0 0, .slice none 0 0, .int .i64 0, .slice none 0 0] 33) := ⟨_, rfl⟩
  rw [← hW] at P1 P2 BL
  have HP1 := Lib.hid P1
  have HP2 := Lib.hid P2
  have HBL := Lib.hid BL
  have HW := Lib.hid hW
  clear P1 P2 BL hW
  go_enter Try.func29, Try.ntmps29
  go_wp2
  rw [show ((w.alloc (.cells (Rp.cells ⟨A1, n1, c1, A2, n2, c2, A3, n3, c3⟩ s) 33)).alloc (.cells #[.slice none 0 0, .slice none 0 0, .int .i64 0, .slice none 0 0] 33)) = W from HW.out.symm]
  clear hz HW
  go_loopw [6, 7] (fun v i wr => ∃ k : Nat, k ≤ l.length ∧ i = .int .i64 k ∧ (∀ x ∈ l.take k, 0 ≤ x) ∧ wr.ownsRow W.heap.size 3 1 v (failR s (l.take k)).length (ic (failR s (l.take k))) ∧ Below W.heap.size W wr) (fun _ i _ => l.length - (intOf i).toNat)
  case atStart => exact ⟨0, Nat.zero_le _, rfl, by simp, World.ownsRow_nil _ _ _ _, Below.refl _ _⟩
  case round =>
    obtain ⟨k, hk, rfl, hpos, hown, hb⟩ := hrel
    have P1r := HP1.out.below hb HP1.out.lt
    have P2r := HP2.out.below hb HP2.out.lt
    have HB := Lib.hid hb
    have HO := Lib.hid hown
    have HPOS := Lib.hid hpos
    have HP1r := Lib.hid P1r
    have HP2r := Lib.hid P2r
    have BW := Lib.hid (HBL.out.trans (hb.mono HBL.out.size))
    by_cases hlt : k < l.length
    · obtain ⟨b, off, rfl, hc⟩ := (HR.out.below BW.out) k hlt
      obtain ⟨x, hx⟩ : ∃ x, x = l[k] := ⟨_, rfl⟩
      rw [← hx] at hc
      have hblt : b < w.heap.size := by
        obtain ⟨b', off', e', hc'⟩ := HR.out k hlt
        injection e' with e'
        injection e' with e1 e2
        subst e1
        exact cell_lt hc'
      have HX := Lib.hid (show l[k]? = some x by rw [List.getElem?_eq_getElem hlt, hx])
      have HT := Lib.hid (show l.take (k + 1) = l.take k ++ [x] by rw [List.take_add_one, HX.out]; rfl)
      have HXW := Lib.hid (HWF.out x (List.mem_of_getElem? HX.out))
      have HBLT := Lib.hid hblt
      have HC := Lib.hid hc
      have i1 : (0 : Int) ≤ (k : Int) := by omega
      have i2 : (k : Int) < (l.length : Int) := by omega
      clear hown hb hpos hx hblt
      by_cases hneg : x < 0
      · have h1 : decide (x < 0) = true := by simpa using hneg
        have HN := Lib.hid hneg
        clear hneg
        have q0 := (P2r.cell 0).trans (show _ = some (.slice none 0 0) from rfl)
        have q1 := (P2r.cell 1).trans (show _ = some (.slice none 0 0) from rfl)
        have q2 := (P2r.cell 2).trans (show _ = some (.int .i64 0) from rfl)
        have q3 := (P2r.cell 3).trans (show _ = some (.slice none 0 0) from rfl)
        have g0 := P2r.frozen 0
        have g1 := P2r.frozen 1
        have g2 := P2r.frozen 2
        have g3 := P2r.frozen 3
        have c0 := (P1r.cell 0).trans (show _ = some (.slice A1 n1 c1) from rfl)
        have c1' := (P1r.cell 1).trans (show _ = some (.slice A2 n2 c2) from rfl)
        have c2' := (P1r.cell 2).trans (show _ = some (.int .i64 (s : Int)) from rfl)
        have c3' := (P1r.cell 3).trans (show _ = some (.slice A3 n3 c3) from rfl)
        clear P1r P2r
        go_wp2
        exact bodyPost_ret (results_ref rfl _ _ (w.heap.size + 1) (Rp.cells ⟨A1, n1, c1, A2, n2, c2, A3, n3, c3⟩ s) rfl rfl (four_set HP2r.out (.slice A1 n1 c1) (.slice A2 n2 c2) (.int .i64 (s : Int)) (.slice A3 n3 c3))) rfl
          (.inr ⟨⟨x, List.mem_of_getElem? HX.out, HN.out⟩, rfl, four_below BW.out (by simp) _ _ _ _⟩)
      · have h1 : decide (x < 0) = false := by simpa using hneg
        have HN := Lib.hid (show 0 ≤ x by omega)
        have hw1 : IntKind.i64.wrap (9223372036854775807 - (s : Int)) = 9223372036854775807 - (s : Int) := IntWalk.i64_in _ (by omega)
        have HPOS2 := Lib.hid (mem_take_neg HPOS.out HX.out HN.out)
        clear hneg P1r P2r
        by_cases hle : x ≤ 9223372036854775807 - (s : Int)
        · have h2 : decide (x ≤ 9223372036854775807 - (s : Int)) = true := by simpa using hle
          have HLE := Lib.hid hle
          have hw2 : IntKind.i64.wrap ((s : Int) + x) = (s : Int) + x := IntWalk.i64_in _ (by have := HN.out; omega)
          clear hle
          go_wp2_with fail
          refine wp_region_only (S := fun w' => w'.cell? ⟨w.heap.size, 2, none⟩ = some (.int .i64 (s : Int)) ∧ w'.cell? ⟨b, off + k, none⟩ = some (.int .i64 x)) (by kernel_rfl) ⟨(Blk.cell (drew_blk HP1r.out) 2).trans rfl, HC.out⟩ (fun hHeld => ?_)
          refine wpAnyH_take (i := 0) (v := ?v1) rfl (by kernel_rfl) (by kernel_rfl) (by kernel_rfl) (fun _ _ _ h => h) (Or.inl ⟨by rfl, ?hy1⟩) hHeld ?rest1
          case hy1 =>
            intro w' hSw
            try dsimp only at hSw
            go_simp
            first | done | with_reducible rfl
          try simp only [Act.put, List.getElem_toArray, List.getElem_cons_zero, List.setIfInBounds_toArray, List.set_cons_zero, List.set_cons_succ]
          refine wpAnyH_take (i := 1) (v := ?v2) rfl (by kernel_rfl) (by kernel_rfl) (by kernel_rfl) (fun _ _ _ h => h) (Or.inl ⟨by rfl, ?hy2⟩) hHeld ?rest2
          case hy2 =>
            intro w' hSw
            try dsimp only at hSw
            go_simp
            first | done | with_reducible rfl
          try simp only [Act.put, List.getElem_toArray, List.getElem_cons_succ, List.getElem_cons_zero, List.setIfInBounds_toArray, List.set_cons_zero, List.set_cons_succ]
          refine wpAnyH_take (i := 2) (v := ?v3) rfl (by kernel_rfl) (by kernel_rfl) (by kernel_rfl) (fun _ _ _ h => h) (Or.inl ⟨by rfl, ?hy3⟩) hHeld ?rest3
          case hy3 =>
            intro w' hSw
            try dsimp only at hSw
            go_simp
            first | done | with_reducible rfl
          try simp only [Act.put, List.getElem_toArray, List.getElem_cons_succ, List.getElem_cons_zero, List.setIfInBounds_toArray, List.set_cons_zero, List.set_cons_succ]
          refine wpAnyH_take (i := 3) (v := ?v4) rfl (by kernel_rfl) (by kernel_rfl) (by kernel_rfl) (fun _ _ _ h => h) (Or.inl ⟨by rfl, ?hy4⟩) hHeld ?rest4
          case hy4 =>
            intro w' hSw
            try dsimp only at hSw
            go_simp
            first | done | with_reducible rfl
          try simp only [Act.put, List.getElem_toArray, List.getElem_cons_succ, List.getElem_cons_zero, List.setIfInBounds_toArray, List.set_cons_zero, List.set_cons_succ]
          refine wpAnyH_take (i := 4) (v := ?v5) rfl (by kernel_rfl) (by kernel_rfl) (by kernel_rfl) (fun _ _ _ h => h) (Or.inl ⟨by rfl, ?hy5⟩) hHeld ?rest5
          case hy5 =>
            intro w' hSw
            try dsimp only at hSw
            go_simp
            first | done | with_reducible rfl
          try simp only [Act.put, List.getElem_toArray, List.getElem_cons_succ, List.getElem_cons_zero, List.setIfInBounds_toArray, List.set_cons_zero, List.set_cons_succ]
          refine wpAnyH_take (i := 5) (v := ?v6) rfl (by kernel_rfl) (by kernel_rfl) (by kernel_rfl) (fun _ _ _ h => h) (Or.inl ⟨by rfl, ?hy6⟩) hHeld ?rest6
          case hy6 =>
            intro w' hSw
            try dsimp only at hSw
            go_simp
            first | done | with_reducible rfl
          try simp only [Act.put, List.getElem_toArray, List.getElem_cons_succ, List.getElem_cons_zero, List.setIfInBounds_toArray, List.set_cons_zero, List.set_cons_succ]
          refine wpAnyH_take (i := 6) (v := ?v7) rfl (by kernel_rfl) (by kernel_rfl) (by kernel_rfl) (fun _ _ _ h => h) (Or.inl ⟨by rfl, ?hy7⟩) hHeld ?rest7
          case hy7 =>
            intro w' hSw
            try dsimp only at hSw
            go_simp
            first | done | with_reducible rfl
          try simp only [Act.put, List.getElem_toArray, List.getElem_cons_succ, List.getElem_cons_zero, List.setIfInBounds_toArray, List.set_cons_zero, List.set_cons_succ]
          refine wpAnyH_take (i := 7) (v := ?v8) rfl (by kernel_rfl) (by kernel_rfl) (by kernel_rfl) (fun _ _ _ h => h) (Or.inl ⟨by rfl, ?hy8⟩) hHeld ?rest8
          case hy8 =>
            intro w' hSw
            try dsimp only at hSw
            go_simp
            first | done | with_reducible rfl
          try simp only [Act.put, List.getElem_toArray, List.getElem_cons_succ, List.getElem_cons_zero, List.setIfInBounds_toArray, List.set_cons_zero, List.set_cons_succ]
          refine wpAnyH_done (by kernel_rfl) ?_ _
          refine OnlyN.normal ?_
          clear hHeld
          go_wp2_with fail
          refine wp_region_only (S := fun w' => w'.cell? ⟨w.heap.size, 2, none⟩ = some (.int .i64 (s : Int)) ∧ w'.cell? ⟨b, off + k, none⟩ = some (.int .i64 x)) (by kernel_rfl) ⟨(Blk.cell (drew_blk (drew_blk HP1r.out)) 2).trans rfl, HC.out⟩ (fun hHeld => ?_)
          refine wpAnyH_take (i := 0) (v := ?v9) rfl (by kernel_rfl) (by kernel_rfl) (by kernel_rfl) (fun _ _ _ h => h) (Or.inl ⟨by rfl, ?hy9⟩) hHeld ?rest9
          case hy9 =>
            intro w' hSw
            try dsimp only at hSw
            go_simp
            first | done | with_reducible rfl
          try simp only [Act.put, List.getElem_toArray, List.getElem_cons_zero, List.setIfInBounds_toArray, List.set_cons_zero, List.set_cons_succ]
          refine wpAnyH_take (i := 1) (v := ?v10) rfl (by kernel_rfl) (by kernel_rfl) (by kernel_rfl) (fun _ _ _ h => h) (Or.inl ⟨by rfl, ?hy10⟩) hHeld ?rest10
          case hy10 =>
            intro w' hSw
            try dsimp only at hSw
            go_simp
            first | done | with_reducible rfl
          try simp only [Act.put, List.getElem_toArray, List.getElem_cons_succ, List.getElem_cons_zero, List.setIfInBounds_toArray, List.set_cons_zero, List.set_cons_succ]
          refine wpAnyH_take (i := 2) (v := ?v11) rfl (by kernel_rfl) (by kernel_rfl) (by kernel_rfl) (fun _ _ _ h => h) (Or.inl ⟨by rfl, ?hy11⟩) hHeld ?rest11
          case hy11 =>
            intro w' hSw
            try dsimp only at hSw
            go_simp
            first | done | with_reducible rfl
          try simp only [Act.put, List.getElem_toArray, List.getElem_cons_succ, List.getElem_cons_zero, List.setIfInBounds_toArray, List.set_cons_zero, List.set_cons_succ]
          refine wpAnyH_take (i := 3) (v := ?v12) rfl (by kernel_rfl) (by kernel_rfl) (by kernel_rfl) (fun _ _ _ h => h) (Or.inl ⟨by rfl, ?hy12⟩) hHeld ?rest12
          case hy12 =>
            intro w' hSw
            try dsimp only at hSw
            go_simp
            first | done | with_reducible rfl
          try simp only [Act.put, List.getElem_toArray, List.getElem_cons_succ, List.getElem_cons_zero, List.setIfInBounds_toArray, List.set_cons_zero, List.set_cons_succ]
          refine wpAnyH_take (i := 4) (v := ?v13) rfl (by kernel_rfl) (by kernel_rfl) (by kernel_rfl) (fun _ _ _ h => h) (Or.inl ⟨by rfl, ?hy13⟩) hHeld ?rest13
          case hy13 =>
            intro w' hSw
            try dsimp only at hSw
            go_simp
            first | done | with_reducible rfl
          try simp only [Act.put, List.getElem_toArray, List.getElem_cons_succ, List.getElem_cons_zero, List.setIfInBounds_toArray, List.set_cons_zero, List.set_cons_succ]
          refine wpAnyH_take (i := 5) (v := ?v14) rfl (by kernel_rfl) (by kernel_rfl) (by kernel_rfl) (fun _ _ _ h => h) (Or.inl ⟨by rfl, ?hy14⟩) hHeld ?rest14
          case hy14 =>
            intro w' hSw
            try dsimp only at hSw
            go_simp
            first | done | with_reducible rfl
          try simp only [Act.put, List.getElem_toArray, List.getElem_cons_succ, List.getElem_cons_zero, List.setIfInBounds_toArray, List.set_cons_zero, List.set_cons_succ]
          refine wpAnyH_take (i := 6) (v := ?v15) rfl (by kernel_rfl) (by kernel_rfl) (by kernel_rfl) (fun _ _ _ h => h) (Or.inl ⟨by rfl, ?hy15⟩) hHeld ?rest15
          case hy15 =>
            intro w' hSw
            try dsimp only at hSw
            go_simp
            first | done | with_reducible rfl
          try simp only [Act.put, List.getElem_toArray, List.getElem_cons_succ, List.getElem_cons_zero, List.setIfInBounds_toArray, List.set_cons_zero, List.set_cons_succ]
          refine wpAnyH_take (i := 7) (v := ?v16) rfl (by kernel_rfl) (by kernel_rfl) (by kernel_rfl) (fun _ _ _ h => h) (Or.inl ⟨by rfl, ?hy16⟩) hHeld ?rest16
          case hy16 =>
            intro w' hSw
            try dsimp only at hSw
            go_simp
            first | done | with_reducible rfl
          try simp only [Act.put, List.getElem_toArray, List.getElem_cons_succ, List.getElem_cons_zero, List.setIfInBounds_toArray, List.set_cons_zero, List.set_cons_succ]
          refine wpAnyH_ready (rs := [8]) (by kernel_rfl) (by simp) ?_
          refine AllReadyH.cons (by rfl) (fun K hK => ?_) AllReadyH.nil
          go_simp
          have HO1 := Lib.hid (World.ownsRow.drew (World.ownsRow.drew (World.ownsRow.alloc HO.out (.cells #[.int .i64 ((s : Int) + x)] 3))))
          have N1 := Lib.hid (drew_blk (drew_blk (Blk.new wr 3 #[.int .i64 ((s : Int) + x)])))
          have HB1 := Lib.hid (HB.out.alloc HB.out.size (.cells #[.int .i64 ((s : Int) + x)] 3)).drew.drew
          have HP1a := Lib.hid (drew_blk (drew_blk (HP1r.out.alloc (.cells #[.int .i64 ((s : Int) + x)] 3))))
          have HC1 := Lib.hid (show (wr.alloc (.cells #[.int .i64 ((s : Int) + x)] 3)).drew.drew.cell? ⟨b, off + k, none⟩ = some (.int .i64 x) from (World.cell?_alloc_lt wr (.cells #[.int .i64 ((s : Int) + x)] 3) ⟨b, off + k, none⟩ (cell_lt HC.out)).trans HC.out)
          generalize (wr.alloc (.cells #[.int .i64 ((s : Int) + x)] 3)).drew.drew = W1 at HO1 N1 HB1 HP1a HC1 ⊢
          refine hK.out _ _ ⟨(Blk.cell HP1a.out 2).trans rfl, HC1.out⟩ (fun hHeld => ?_)
          clear hK K
          try simp only [Act.put, List.getElem_toArray, List.getElem_cons_succ, List.getElem_cons_zero, List.setIfInBounds_toArray, List.set_cons_zero, List.set_cons_succ]
          refine wpAnyH_ready (rs := [9]) (by kernel_rfl) (by simp) ?_
          refine AllReadyH.cons (by rfl) (fun K hK => ?_) AllReadyH.nil
          refine step_append_i rfl (.tmp 28) (.tmp 36) (by rfl) W.heap.size u6 _ _ (by simp [Act.eval]) HO1.out wr.heap.size 1 ((s : Int) + x) (by simp [Act.eval]) ((Blk.cell N1.out 0).trans rfl) (by have := failR_len s (l.take k); rw [List.length_take] at this; omega) HB1.out.size ?_
          intro g' cap' w6 hown6 hg6
          have hne : ∀ q, q < W.heap.size → some q ≠ u6.ownBlock := fun q hq e => by have := (HO1.out.lt q e.symm).1; omega
          have HO6 := Lib.hid hown6
          have HB6 := Lib.hid (HB1.out.grown hg6 HB1.out.size (fun q e => (HO1.out.lt q e).1))
          have HP6 := Lib.hid (show Blk w6 w.heap.size _ _ from (hg6.block w.heap.size HP1a.out.lt (hne _ HP1.out.lt)).trans HP1a.out)
          have HC6 := Lib.hid ((World.cell?_of_block (a := ⟨b, off + k, none⟩) (hg6.block b (cell_lt HC1.out) (hne _ (by have := HBLT.out; have := HP1.out.lt; omega)))).trans HC1.out)
          clear hown6 hg6 hne
          refine hK.out _ _ ⟨(Blk.cell HP6.out 2).trans rfl, HC6.out⟩ (fun hHeld => ?_)
          clear hK K
          try simp only [Act.put, List.getElem_toArray, List.getElem_cons_succ, List.getElem_cons_zero, List.setIfInBounds_toArray, List.set_cons_zero, List.set_cons_succ]
          refine wpAnyH_take (i := 10) (v := ?v17) rfl (by kernel_rfl) (by kernel_rfl) (by kernel_rfl) (fun _ _ _ h => h) (Or.inl ⟨by rfl, ?hy17⟩) hHeld ?rest17
          case hy17 =>
            intro w' hSw
            try dsimp only at hSw
            go_simp
            first | done | with_reducible rfl
          try simp only [Act.put, List.getElem_toArray, List.getElem_cons_succ, List.getElem_cons_zero, List.setIfInBounds_toArray, List.set_cons_zero, List.set_cons_succ]
          refine wpAnyH_done (by kernel_rfl) ?_ _
          refine OnlyN.normal ?_
          clear hHeld
          go_wp2
          go_roundw
          case rel => exact ⟨k + 1, by omega, by go_num, HPOS2.out, by rw [HT.out, failR_snoc, if_pos (by have := HLE.out; omega), List.length_append, show ic (failR s (l.take k) ++ [(s : Int) + x]) = ic (failR s (l.take k)) ++ [.int .i64 ((s : Int) + x)] by simp [ic]]; exact HO6.out, HB6.out⟩
          case measure => simp [intOf]; omega
        · have h2 : decide (x ≤ 9223372036854775807 - (s : Int)) = false := by simpa using hle
          have HLE := Lib.hid hle
          clear hle
          go_wp2_with fail
          refine wp_region_only (S := fun w' => w'.cell? ⟨w.heap.size, 2, none⟩ = some (.int .i64 (s : Int)) ∧ w'.cell? ⟨b, off + k, none⟩ = some (.int .i64 x)) (by kernel_rfl) ⟨(Blk.cell (drew_blk HP1r.out) 2).trans rfl, HC.out⟩ (fun hHeld => ?_)
          refine wpAnyH_take (i := 0) (v := ?v18) rfl (by kernel_rfl) (by kernel_rfl) (by kernel_rfl) (fun _ _ _ h => h) (Or.inl ⟨by rfl, ?hy18⟩) hHeld ?rest18
          case hy18 =>
            intro w' hSw
            try dsimp only at hSw
            go_simp
            first | done | with_reducible rfl
          try simp only [Act.put, List.getElem_toArray, List.getElem_cons_zero, List.setIfInBounds_toArray, List.set_cons_zero, List.set_cons_succ]
          refine wpAnyH_take (i := 1) (v := ?v19) rfl (by kernel_rfl) (by kernel_rfl) (by kernel_rfl) (fun _ _ _ h => h) (Or.inl ⟨by rfl, ?hy19⟩) hHeld ?rest19
          case hy19 =>
            intro w' hSw
            try dsimp only at hSw
            go_simp
            first | done | with_reducible rfl
          try simp only [Act.put, List.getElem_toArray, List.getElem_cons_succ, List.getElem_cons_zero, List.setIfInBounds_toArray, List.set_cons_zero, List.set_cons_succ]
          refine wpAnyH_take (i := 2) (v := ?v20) rfl (by kernel_rfl) (by kernel_rfl) (by kernel_rfl) (fun _ _ _ h => h) (Or.inl ⟨by rfl, ?hy20⟩) hHeld ?rest20
          case hy20 =>
            intro w' hSw
            try dsimp only at hSw
            go_simp
            first | done | with_reducible rfl
          try simp only [Act.put, List.getElem_toArray, List.getElem_cons_succ, List.getElem_cons_zero, List.setIfInBounds_toArray, List.set_cons_zero, List.set_cons_succ]
          refine wpAnyH_take (i := 3) (v := ?v21) rfl (by kernel_rfl) (by kernel_rfl) (by kernel_rfl) (fun _ _ _ h => h) (Or.inl ⟨by rfl, ?hy21⟩) hHeld ?rest21
          case hy21 =>
            intro w' hSw
            try dsimp only at hSw
            go_simp
            first | done | with_reducible rfl
          try simp only [Act.put, List.getElem_toArray, List.getElem_cons_succ, List.getElem_cons_zero, List.setIfInBounds_toArray, List.set_cons_zero, List.set_cons_succ]
          refine wpAnyH_take (i := 4) (v := ?v22) rfl (by kernel_rfl) (by kernel_rfl) (by kernel_rfl) (fun _ _ _ h => h) (Or.inl ⟨by rfl, ?hy22⟩) hHeld ?rest22
          case hy22 =>
            intro w' hSw
            try dsimp only at hSw
            go_simp
            first | done | with_reducible rfl
          try simp only [Act.put, List.getElem_toArray, List.getElem_cons_succ, List.getElem_cons_zero, List.setIfInBounds_toArray, List.set_cons_zero, List.set_cons_succ]
          refine wpAnyH_take (i := 5) (v := ?v23) rfl (by kernel_rfl) (by kernel_rfl) (by kernel_rfl) (fun _ _ _ h => h) (Or.inl ⟨by rfl, ?hy23⟩) hHeld ?rest23
          case hy23 =>
            intro w' hSw
            try dsimp only at hSw
            go_simp
            first | done | with_reducible rfl
          try simp only [Act.put, List.getElem_toArray, List.getElem_cons_succ, List.getElem_cons_zero, List.setIfInBounds_toArray, List.set_cons_zero, List.set_cons_succ]
          refine wpAnyH_take (i := 6) (v := ?v24) rfl (by kernel_rfl) (by kernel_rfl) (by kernel_rfl) (fun _ _ _ h => h) (Or.inl ⟨by rfl, ?hy24⟩) hHeld ?rest24
          case hy24 =>
            intro w' hSw
            try dsimp only at hSw
            go_simp
            first | done | with_reducible rfl
          try simp only [Act.put, List.getElem_toArray, List.getElem_cons_succ, List.getElem_cons_zero, List.setIfInBounds_toArray, List.set_cons_zero, List.set_cons_succ]
          refine wpAnyH_take (i := 7) (v := ?v25) rfl (by kernel_rfl) (by kernel_rfl) (by kernel_rfl) (fun _ _ _ h => h) (Or.inl ⟨by rfl, ?hy25⟩) hHeld ?rest25
          case hy25 =>
            intro w' hSw
            try dsimp only at hSw
            go_simp
            first | done | with_reducible rfl
          try simp only [Act.put, List.getElem_toArray, List.getElem_cons_succ, List.getElem_cons_zero, List.setIfInBounds_toArray, List.set_cons_zero, List.set_cons_succ]
          refine wpAnyH_done (by kernel_rfl) ?_ _
          refine OnlyN.normal ?_
          clear hHeld
          go_wp2
          go_roundw
          case rel => exact ⟨k + 1, by omega, by go_num, HPOS2.out, by rw [HT.out, failR_snoc, if_neg (by have := HLE.out; omega)]; exact World.ownsRow.drew HO.out, HB.out.drew⟩
          case measure => simp [intOf]; omega
    · have hkl : k = l.length := by omega
      subst hkl
      rw [List.take_length] at hown hpos
      obtain ⟨A5, cap5, rfl⟩ := own_shape hown
      have HOF := Lib.hid hown
      have HPF := Lib.hid hpos
      clear HPOS HO
      have q0 := (P2r.cell 0).trans (show _ = some (.slice none 0 0) from rfl)
      have q1 := (P2r.cell 1).trans (show _ = some (.slice none 0 0) from rfl)
      have q2 := (P2r.cell 2).trans (show _ = some (.int .i64 0) from rfl)
      have q3 := (P2r.cell 3).trans (show _ = some (.slice none 0 0) from rfl)
      have g0 := P2r.frozen 0
      have g1 := P2r.frozen 1
      have g2 := P2r.frozen 2
      have g3 := P2r.frozen 3
      have c0 := (P1r.cell 0).trans (show _ = some (.slice A1 n1 c1) from rfl)
      have c1' := (P1r.cell 1).trans (show _ = some (.slice A2 n2 c2) from rfl)
      have c2' := (P1r.cell 2).trans (show _ = some (.int .i64 (s : Int)) from rfl)
      have c3' := (P1r.cell 3).trans (show _ = some (.slice A3 n3 c3) from rfl)
      have gg := P1r.frozen 3
      clear P1r P2r hown hpos hb
      go_wp2
      refine bodyPost_ret (results_ref rfl _ _ (w.heap.size + 1) (Rp.cells ⟨A1, n1, c1, A2, n2, c2, A5, (failR s l).length, cap5⟩ s) rfl rfl (four_set ((HP2r.out.far (p := ⟨w.heap.size, 3, none⟩) (by simp) _)) (.slice A1 n1 c1) (.slice A2 n2 c2) (.int .i64 (s : Int)) (.slice A5 (failR s l).length cap5))) rfl ?_
      have hnb : ∀ q, (Value.slice A5 (failR s l).length cap5).ownBlock = some q → W.heap.size ≤ q := fun q hq => (HOF.out.lt q hq).1
      have hwW : w.heap.size + 1 < W.heap.size := HP2.out.lt
      refine .inl ⟨HPF.out, A5, cap5, rfl, ?_, ?_, ?_⟩
      · exact rdI_of_own (own_set (own_set (own_set (own_set (own_set HOF.out _ _ (fun q hq => by have := hnb q hq; simp; omega)) _ _ (fun q hq => by have := hnb q hq; simp; omega)) _ _ (fun q hq => by have := hnb q hq; simp; omega)) _ _ (fun q hq => by have := hnb q hq; simp; omega)) _ _ (fun q hq => by have := hnb q hq; simp; omega))
      · rintro b off rfl
        have h1 := hnb b rfl
        have h2 := (HOF.out.lt b rfl).2
        exact ⟨by omega, by simpa [World.setCell] using h2⟩
      · exact four_below (BW.out.setCell (Nat.le_refl _) _) (by simp) _ _ _ _
end Go.Proofs.Ytcfkoglehjkkdaa

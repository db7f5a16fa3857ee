/- law 2: DiskMakes, the walk: New that goes. -/
import Derived.Test.YtgjamgojjajcnaaQ12
import Derived.Test.YtgjamgojjajcnaaQ16
import Derived.Test.YtgjamgojjajcnaaQ13
import Derived.Test.YtgjamgojjajcnaaQ05
namespace Go.Proofs.Ytgjamgojjajcnaa.diskMakes
open Go.RowKit
attribute [local go_sem] Oper.semAt_some
end Go.Proofs.Ytgjamgojjajcnaa.diskMakes
namespace Go.Proofs.Ytgjamgojjajcnaa.diskMakes
open Go.RowKit
attribute [local go_sem] Oper.semAt_some
end Go.Proofs.Ytgjamgojjajcnaa.diskMakes
namespace Go.Proofs.Ytgjamgojjajcnaa
open Go.RowKit
attribute [local go_sem] Oper.semAt_some
set_option maxRecDepth 8000 in
/-- append of an int that was boxed last -/
theorem wpList_append_i {ops : Array Oper} {rest : List Oper} {o : Oper} {a : Act} {Q : Exit → Act → World → Prop} {W : World} (hgd : o.guard = none) (s x : Operand) (ho : o.op = .call { callee := .builtin .append, args := #[s, x], argTypes := #[23, 23] })
    {base n : Nat} {v : Value} {xs : List Value} (hs : a.eval s = v) (hown : W.ownsRow base 3 1 v n xs) (q : Int) (hx : a.eval x = .slice (some ⟨W.heap.size, 0, none⟩) 1 1) (hn : n ≤ 1000000) (hbase : base ≤ W.heap.size)
    (h : ∀ g c w', w'.ownsRow base 3 1 (.slice (some ⟨g, 0, none⟩) (n + 1) c) (n + 1) (xs ++ [.int .i64 q]) → Below base W w' → wpList Try.prog ops Q rest (a.put o.dst (.slice (some ⟨g, 0, none⟩) (n + 1) c)) w') : wpList Try.prog ops Q (o :: rest) a (W.alloc (.cells #[.int .i64 q] 3)) := by
  obtain ⟨i0, hi, hz0, hz1, hz2⟩ := info_parts infoI64
  have hown2 : (W.alloc (.cells #[.int .i64 q] 3)).ownsRow base 3 1 v n xs := own_below' hown ((Below.refl _ _).alloc (Nat.le_refl _) _)
  refine wpList_append_lies _ hgd s x 23 ho base 3 i0 (.int .i64 0) 1 8 Try.underlying23 hi hz0 hz1 hz2 rfl (by decide) v n xs hs hown2 ⟨W.heap.size, 0, none⟩ 1 1 [.int .i64 q] hx rfl ?_ (by simp [Value.oneCell']) (by decide) (by simp only [maxLen]; omega) (by omega) (by simp; omega) _ rfl ?_
  · intro j u hu
    rw [Addr.add_mid, Nat.zero_add]
    have := (Blk.new W 3 #[.int .i64 q]).cell j
    rw [this]
    simpa using hu
  · intro g c w' h1 h2 h3 _
    refine h g c w' h1 ?_
    have hb : Below base W (W.alloc (.cells #[.int .i64 q] 3)) := (Below.refl _ _).alloc hbase _
    exact hb.grown h2 (by simp; omega) fun k hk => (hown2.lt k hk).1
section
variable {w w' : World} {r : Rp} {R : Rf} {z : Nat}
set_option maxRecDepth 100000 in
set_option maxHeartbeats 1600000 in
theorem lwaits_any (h : RefAt w r R z) (s : Nat) : Calls Try.prog 46 #[r.val s] w fun e w' => ∃ v, e = .returned v ∧ w'.ownsRow w.heap.size 3 1 v R.ws.length (iv (R.ws.map (·.1))) ∧ Below w.heap.size w w' := by
  have H := Lib.hid h
  have HN2 := Lib.hid h.n2
  have hm := h.m2
  obtain ⟨DC, hDC⟩ : ∃ DC, DC = r.cells s := ⟨_, rfl⟩
  have k1 : DC[1]? = some (.slice r.A2 r.n2 r.c2) := by rw [hDC]; rfl
  have P0 := Lib.hid (Blk.new w 34 DC)
  have BL := Lib.hid ((Below.refl w.heap.size w).alloc (Nat.le_refl _) (.cells DC 34))
  have H1 := Lib.hid (h.alloc (.cells DC 34)).r2
  clear h
  go_enter Try.func46, Try.ntmps46
  go_wp2
  rw [← hDC]
  clear hDC
  generalize w.alloc (.cells DC 34) = W at P0 BL H1 ⊢
  go_loopw [3, 4] (fun v i wr => ∃ k : Nat, k ≤ R.ws.length ∧ i = .int .i64 (k : Int) ∧ wr.ownsRow (w.heap.size + 1) 3 1 v k (iv ((R.ws.take k).map (·.1))) ∧ Blk wr w.heap.size 34 DC ∧ Below w.heap.size w wr ∧ RdW wr r.A2 R.ws ∧ w.heap.size + 1 ≤ wr.heap.size) (fun _ i _ => R.ws.length - (intOf i).toNat)
  case atStart => exact ⟨0, Nat.zero_le _, rfl, World.ownsRow_nil _ _ _ _, P0.out, BL.out, H1.out, P0.out.lt⟩
  case round =>
    obtain ⟨k, hk, rfl, ho, h0, hb, hw, hsz⟩ := hrel
    clear P0 BL H1
    have QO := Lib.hid ho
    have Q0 := Lib.hid h0
    have QB := Lib.hid hb
    have QW := Lib.hid hw
    have QS := Lib.hid hsz
    have b1 := (h0.cell 1).trans k1
    clear ho h0 hb hw hsz
    by_cases hlt : k < R.ws.length
    · obtain ⟨x, hx⟩ : ∃ x, R.ws[k]? = some x := ⟨_, List.getElem?_eq_getElem hlt⟩
      obtain ⟨b, off, hA, hc, _⟩ := QW.out.parts hx
      rw [hA] at b1
      have HX := Lib.hid (show R.ws.take (k + 1) = R.ws.take k ++ [x] by rw [List.take_add_one, hx]; rfl)
      have HW0 := Lib.hid (H.out.r2)
      have i1 : (0 : Int) ≤ (k : Int) := by omega
      have i2 : (k : Int) < (r.n2 : Int) := by have := HN2.out; omega
      have kb : k ≤ 100000 := by omega
      clear hx
      go_wp2_with (refine wpList_append_i rfl (.tmp 12) (.tmp 19) rfl (base := w.heap.size + 1) (by rfl) QO.out (x.1 : Int) (by rfl) (by omega) QS.out ?_; intro g c' w5 ho hb5; have J := Lib.hid ho; have JB := Lib.hid hb5; clear ho hb5)
      go_roundw
      case rel => exact ⟨k + 1, by omega, by go_num, by rw [HX.out, List.map_append, List.map_singleton, iv_snoc]; exact J.out, (JB.out.block _ (by omega)).trans Q0.out, QB.out.trans (JB.out.mono (by omega)), HW0.out.below (QB.out.trans (JB.out.mono (by omega))), Nat.le_trans QS.out JB.out.size⟩
      case measure => simp [intOf]; omega
    · obtain rfl : k = R.ws.length := by omega
      have i2 : ¬ ((R.ws.length : Nat) : Int) < (r.n2 : Int) := by have := HN2.out; omega
      rw [List.take_length] at QO
      go_wp2
      go_ret
      exact ⟨_, rfl, own_base QO.out (by omega), QB.out⟩
set_option maxRecDepth 100000 in
set_option maxHeartbeats 800000 in
theorem ints_same (w : World) (A : Option Addr) (c : Nat) (B : Option Addr) (c' : Nat) (l : List Int) (hl : l.length ≤ 1000000) (h1 : RdI w A l) (h2 : RdI w B l) : Calls Try.prog 45 #[.slice A l.length c, .slice B l.length c'] w fun e w' => e = .returned (.bool true) ∧ Below w.heap.size w w' := by
  have HA := Lib.hid h1
  have HB := Lib.hid h2
  clear h1 h2
  go_enter Try.func45, Try.ntmps45
  go_wp2
  go_loopw [5] (fun i wr => ∃ k : Nat, k ≤ l.length ∧ i = .int .i64 (k : Int) ∧ Below w.heap.size w wr) (fun i _ => l.length - (intOf i).toNat)
  case atStart => exact ⟨0, Nat.zero_le _, rfl, Below.refl _ _⟩
  case round =>
    obtain ⟨k, hk, rfl, hb⟩ := hrel
    have QB := Lib.hid hb
    clear hb
    by_cases hlt : k < l.length
    · obtain ⟨g1, o1, rfl, c1⟩ := (HA.out.below QB.out) k hlt
      obtain ⟨g2, o2, rfl, c2⟩ := (HB.out.below QB.out) k hlt
      obtain ⟨x, hx⟩ : ∃ x, l[k] = x := ⟨_, rfl⟩
      rw [hx] at c1 c2
      have C1 := Lib.hid c1
      have C2 := Lib.hid c2
      have i1 : (0 : Int) ≤ (k : Int) := by omega
      have i2 : (k : Int) < (l.length : Int) := by omega
      clear c1 c2 hx
      go_wp2
      refine wp_region_only (S := fun w' => w'.cell? ⟨g1, o1 + k, none⟩ = some (.int .i64 x) ∧ w'.cell? ⟨g2, o2 + k, none⟩ = some (.int .i64 x)) (by kernel_rfl) ⟨C1.out, C2.out⟩ (fun hHeld => ?_)
      refine wpAnyH_take (i := 0) (v := ?v1) rfl (by kernel_rfl) (by kernel_rfl) (by kernel_rfl) (fun _ _ _ h => h) (Or.inl ⟨by rfl, ?hy1⟩) hHeld ?rest1
      case hy1 =>
        intro w' hSw
        try dsimp only at hSw
        go_simp
        first | done | with_reducible rfl
      try simp only [Act.put, List.getElem_toArray, List.getElem_cons_zero, List.setIfInBounds_toArray, List.set_cons_zero, List.set_cons_succ]
      refine wpAnyH_take (i := 1) (v := ?v2) rfl (by kernel_rfl) (by kernel_rfl) (by kernel_rfl) (fun _ _ _ h => h) (Or.inl ⟨by rfl, ?hy2⟩) hHeld ?rest2
      case hy2 =>
        intro w' hSw
        try dsimp only at hSw
        go_simp
        first | done | with_reducible rfl
      try simp only [Act.put, List.getElem_toArray, List.getElem_cons_succ, List.getElem_cons_zero, List.setIfInBounds_toArray, List.set_cons_zero, List.set_cons_succ]
      refine wpAnyH_take (i := 2) (v := ?v3) rfl (by kernel_rfl) (by kernel_rfl) (by kernel_rfl) (fun _ _ _ h => h) (Or.inl ⟨by rfl, ?hy3⟩) hHeld ?rest3
      case hy3 =>
        intro w' hSw
        try dsimp only at hSw
        go_simp
        first | done | with_reducible rfl
      try simp only [Act.put, List.getElem_toArray, List.getElem_cons_succ, List.getElem_cons_zero, List.setIfInBounds_toArray, List.set_cons_zero, List.set_cons_succ]
      refine wpAnyH_take (i := 3) (v := ?v4) rfl (by kernel_rfl) (by kernel_rfl) (by kernel_rfl) (fun _ _ _ h => h) (Or.inl ⟨by rfl, ?hy4⟩) hHeld ?rest4
      case hy4 =>
        intro w' hSw
        try dsimp only at hSw
        go_simp
        first | done | with_reducible rfl
      try simp only [Act.put, List.getElem_toArray, List.getElem_cons_succ, List.getElem_cons_zero, List.setIfInBounds_toArray, List.set_cons_zero, List.set_cons_succ]
      refine wpAnyH_take (i := 4) (v := ?v5) rfl (by kernel_rfl) (by kernel_rfl) (by kernel_rfl) (fun _ _ _ h => h) (Or.inl ⟨by rfl, ?hy5⟩) hHeld ?rest5
      case hy5 =>
        intro w' hSw
        try dsimp only at hSw
        go_simp
        first | done | with_reducible rfl
      try simp only [Act.put, List.getElem_toArray, List.getElem_cons_succ, List.getElem_cons_zero, List.setIfInBounds_toArray, List.set_cons_zero, List.set_cons_succ]
      refine wpAnyH_take (i := 5) (v := ?v6) rfl (by kernel_rfl) (by kernel_rfl) (by kernel_rfl) (fun _ _ _ h => h) (Or.inl ⟨by rfl, ?hy6⟩) hHeld ?rest6
      case hy6 =>
        intro w' hSw
        try dsimp only at hSw
        go_simp
        first | done | with_reducible rfl
      try simp only [Act.put, List.getElem_toArray, List.getElem_cons_succ, List.getElem_cons_zero, List.setIfInBounds_toArray, List.set_cons_zero, List.set_cons_succ]
      refine wpAnyH_take (i := 6) (v := ?v7) rfl (by kernel_rfl) (by kernel_rfl) (by kernel_rfl) (fun _ _ _ h => h) (Or.inl ⟨by rfl, ?hy7⟩) hHeld ?rest7
      case hy7 =>
        intro w' hSw
        try dsimp only at hSw
        go_simp
        first | done | with_reducible rfl
      try simp only [Act.put, List.getElem_toArray, List.getElem_cons_succ, List.getElem_cons_zero, List.setIfInBounds_toArray, List.set_cons_zero, List.set_cons_succ]
      refine wpAnyH_take (i := 7) (v := ?v8) rfl (by kernel_rfl) (by kernel_rfl) (by kernel_rfl) (fun _ _ _ h => h) (Or.inl ⟨by rfl, ?hy8⟩) hHeld ?rest8
      case hy8 =>
        intro w' hSw
        try dsimp only at hSw
        go_simp
        first | done | with_reducible rfl
      try simp only [Act.put, List.getElem_toArray, List.getElem_cons_succ, List.getElem_cons_zero, List.setIfInBounds_toArray, List.set_cons_zero, List.set_cons_succ]
      refine wpAnyH_take (i := 8) (v := ?v9) rfl (by kernel_rfl) (by kernel_rfl) (by kernel_rfl) (fun _ _ _ h => h) (Or.inl ⟨by rfl, ?hy9⟩) hHeld ?rest9
      case hy9 =>
        intro w' hSw
        try dsimp only at hSw
        go_simp
        first | done | with_reducible rfl
      try simp only [Act.put, List.getElem_toArray, List.getElem_cons_succ, List.getElem_cons_zero, List.setIfInBounds_toArray, List.set_cons_zero, List.set_cons_succ]
      refine wpAnyH_done (by kernel_rfl) ?_ _
      refine OnlyN.normal ?_
      clear hHeld
      go_wp2
      go_roundw
      case rel => exact ⟨k + 1, by omega, by go_num, Below.drew QB.out⟩
      case measure => simp [intOf]; omega
    · obtain rfl : k = l.length := by omega
      have i2 : ¬ (l.length : Int) < (l.length : Int) := by omega
      go_wp2
      go_ret
      exact ⟨rfl, QB.out⟩
end
end Go.Proofs.Ytgjamgojjajcnaa

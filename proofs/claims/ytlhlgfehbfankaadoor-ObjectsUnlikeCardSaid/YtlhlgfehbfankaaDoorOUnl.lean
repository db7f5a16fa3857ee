/- objects: where two stores are not the same. -/
import Derived.Test.YtlhlgfehbfankaaDoorONil
namespace Go.Proofs.YtlhlgfehbfankaaDoor
open Go.RowKit
attribute [local go_sem] Oper.semAt_some
theorem infoInt : (Tryd.prog.info? 3).map (fun i => (i.zero, i.size, i.bytes)) = some (some (.int .i64 0), 1, 8) := by kernel_rfl
/-- numbers' cells -/
def dv (l : List Nat) : List Value := l.map fun (i : Nat) => Value.int .i64 (i : Int)
theorem dv_length (l : List Nat) : (dv l).length = l.length := by simp [dv]
/-- where two lists are not the same, of the first k places -/
def diffs (a b : List Oj) (k : Nat) : List Nat := (List.range k).filter fun i => a[i]? != b[i]?
theorem diffs_zero (a b : List Oj) : diffs a b 0 = [] := rfl
theorem diffs_same {a b : List Oj} {k : Nat} (h : a[k]? = b[k]?) : diffs a b (k + 1) = diffs a b k := by simp [diffs, List.range_succ, h]
theorem diffs_other {a b : List Oj} {k : Nat} (h : a[k]? ≠ b[k]?) : diffs a b (k + 1) = diffs a b k ++ [k] := by simp [diffs, List.range_succ, h]
theorem diffs_le (a b : List Oj) (k : Nat) : (diffs a b k).length ≤ k := by
  have := List.length_filter_le (fun i => a[i]? != b[i]?) (List.range k)
  simpa [diffs] using this
theorem diffs_self (a : List Oj) (k : Nat) : diffs a a k = [] := by simp [diffs]
theorem diffs_nil {a b : List Oj} (hl : a.length = b.length) : diffs a b a.length = [] ↔ a = b := by
  constructor
  · intro h
    apply List.ext_getElem?
    intro i
    rcases Nat.lt_or_ge i a.length with hi | hi
    · have h1 : ∀ x ∈ List.range a.length, ¬ (a[x]? != b[x]?) = true := by
        intro x hx hh
        have : x ∈ diffs a b a.length := List.mem_filter.2 ⟨hx, hh⟩
        rw [h] at this
        cases this
      have := h1 i (List.mem_range.2 hi)
      simpa using this
    · rw [List.getElem?_eq_none hi, List.getElem?_eq_none (by omega)]
  · rintro rfl
    exact diffs_self _ _
/-- append of an int that was boxed last -/
theorem wpList_append_int {ops : Array Oper} {rest : List Oper} {o : Oper} {a : Act} {Q : Exit → Act → World → Prop} {W : World} (hgd : o.guard = none) (s x : Operand) (ho : o.op = .call { callee := .builtin .append, args := #[s, x], argTypes := #[58, 58] })
    {base n : Nat} {v : Value} {xs : List Value} (hs : a.eval s = v) (hown : W.ownsRow base 3 1 v n xs) (q : Int) (hx : a.eval x = .slice (some ⟨W.heap.size, 0, none⟩) 1 1) (hn : n ≤ 1000) (hbase : base ≤ W.heap.size)
    (h : ∀ g c w', w'.ownsRow base 3 1 (.slice (some ⟨g, 0, none⟩) (n + 1) c) (n + 1) (xs ++ [.int .i64 q]) → Below base W w' → wpList Tryd.prog ops Q rest (a.put o.dst (.slice (some ⟨g, 0, none⟩) (n + 1) c)) w') : wpList Tryd.prog ops Q (o :: rest) a (W.alloc (.cells #[.int .i64 q] 3)) := by
  obtain ⟨i0, hi, hz0, hz1, hz2⟩ := info_parts infoInt
  have hown2 : (W.alloc (.cells #[.int .i64 q] 3)).ownsRow base 3 1 v n xs := own_below hown ((Below.refl _ _).alloc (Nat.le_refl _) _)
  refine wpList_append_lies _ hgd s x 58 ho base 3 i0 (.int .i64 0) 1 8 Tryd.underlying58 hi hz0 hz1 hz2 rfl (by decide) v n xs hs hown2 ⟨W.heap.size, 0, none⟩ 1 1 [.int .i64 q] hx rfl ?_ (by simp [Value.oneCell']) (by decide) (by simp only [maxLen]; omega) (by omega) (by simp; omega) _ rfl ?_
  · intro j u hu
    rw [Addr.add_mid, Nat.zero_add]
    have := (Blk.new W 3 #[.int .i64 q]).cell j
    rw [this]
    simpa using hu
  · intro g c w' h1 h2 h3 _
    refine h g c w' h1 ?_
    have hb : Below base W (W.alloc (.cells #[.int .i64 q] 3)) := (Below.refl _ _).alloc hbase _
    exact hb.grown h2 (by simp; omega) fun k hk => (hown2.lt k hk).1
section
variable {w : World} {base p : Nat} {A : Option Addr} {cap : Nat} {ps : List Nat} {os : List Oj} {base2 p2 : Nat} {A2 : Option Addr} {cap2 : Nat} {ps2 : List Nat} {os2 : List Oj}
theorem y_obne_of {ops : Array Oper} {o : Oper} {a : Act} {S : World → Prop} {p q : Operand} (hw : Region.wanted o (yielded ops a.tmps) = true) (ho : o.op = .binOp .neq 34 p q 34) (x y : Oj) (b : Bool) (hb : (!decide (x = y)) = b) (hx : a.eval p = x.val) (hy : a.eval q = y.val) : YieldsIf Tryd.prog ops S o (.bool b) a := by
  have := y_obne (S := S) hw ho x y hx hy
  rwa [hb] at this
set_option maxRecDepth 100000 in
set_option maxHeartbeats 4000000 in
theorem unl_at (h : StAt w base p A cap ps os) (h2 : StAt w base2 p2 A2 cap2 ps2 os2) (hl : os2.length = os.length) (hN : os.length ≤ 1000) :
    Calls Tryd.prog 42 #[.slice A os.length cap, .slice A2 os.length cap2] w fun e w' => ∃ v, e = .returned v ∧ w'.ownsRow w.heap.size 3 1 v (diffs os os2 os.length).length (dv (diffs os os2 os.length)) ∧ Below w.heap.size w w' := by
  have HS := Lib.hid h
  have HS2 := Lib.hid h2
  have HL := Lib.hid hl
  clear h h2 hl
  go_enter Tryd.func42, Tryd.ntmps42
  go_wp2
  go_loopw [5, 6, 9] (fun v _ i wr => ∃ k : Nat, k ≤ os.length ∧ i = .int .i64 k ∧ Below w.heap.size w wr ∧ wr.ownsRow w.heap.size 3 1 v (diffs os os2 k).length (dv (diffs os os2 k))) (fun _ _ i _ => os.length + 1 - (intOf i).toNat)
  case atStart => exact ⟨0, by omega, rfl, Below.refl _ _, ⟨rfl, .inl ⟨rfl, rfl⟩⟩⟩
  case round =>
    obtain ⟨k, hk, rfl, hb, hown⟩ := hrel
    by_cases hlt : k < os.length
    · obtain ⟨g, b, x, hA, hc, hx, hox⟩ := (HS.out.below hb).at_ hlt
      obtain ⟨g2, b2, y, hA2, hc2, hy, hoy⟩ := (HS2.out.below hb).at_ (show k < os2.length by rw [HL.out]; exact hlt)
      subst hA hA2
      have HB := Lib.hid hb
      have HOW := Lib.hid hown
      have HC := Lib.hid hc
      have HC2 := Lib.hid hc2
      have HX := Lib.hid hox
      have HY := Lib.hid hoy
      have HD := Lib.hid (diffs_le os os2 k)
      have hil : (k : Int) < (os.length : Int) := by omega
      have e1 : os[k]? = some x := by rw [List.getElem?_eq_getElem hlt, hx]
      have e2 : os2[k]? = some y := by rw [List.getElem?_eq_getElem (by rw [HL.out]; exact hlt), hy]
      have HE := Lib.hid (show _ ∧ _ from ⟨e1, e2⟩)
      clear hb hown hc hc2 hox hoy hx hy e1 e2
      by_cases hxy : x = y
      · have HXY := Lib.hid (show (!decide (x = y)) = false by simpa using hxy)
        have HQ := Lib.hid hxy
        clear hxy
        go_wp2_with fail
        refine wp_region_only (S := fun w' => w'.cell? ⟨g, k, none⟩ = some (pv b) ∧ w'.cell? ⟨g2, k, none⟩ = some (pv b2) ∧ ObAt w' b 0 x ∧ ObAt w' b2 0 y) (by kernel_rfl) ⟨HC.out, HC2.out, HX.out.drew, HY.out.drew⟩ (fun hHeld => ?_)
        refine wpAnyH_take (i := 0) (v := ?v1) rfl (by kernel_rfl) (by kernel_rfl) (by kernel_rfl) (fun _ _ _ h => h) (Or.inl ⟨by rfl, ?hy1⟩) hHeld ?rest1
        case hy1 =>
          intro w' hSw
          try dsimp only at hSw
          go_simp
          first | done | with_reducible rfl
        try simp only [Act.put, List.getElem_toArray, List.getElem_cons_zero, List.setIfInBounds_toArray, List.set_cons_zero, List.set_cons_succ]
        refine wpAnyH_take (i := 1) (v := ?v2) rfl (by kernel_rfl) (by kernel_rfl) (by kernel_rfl) (fun _ _ _ h => h) (Or.inl ⟨by rfl, ?hy2⟩) hHeld ?rest2
        case hy2 =>
          intro w' hSw
          try dsimp only at hSw
          go_simp
          first | done | with_reducible rfl
        try simp only [Act.put, List.getElem_toArray, List.getElem_cons_succ, List.getElem_cons_zero, List.setIfInBounds_toArray, List.set_cons_zero, List.set_cons_succ]
        refine wpAnyH_take (i := 2) (v := ?v3) rfl (by kernel_rfl) (by kernel_rfl) (by kernel_rfl) (fun _ _ _ h => h) (Or.inl ⟨by rfl, ?hy3⟩) hHeld ?rest3
        case hy3 =>
          intro w' hSw
          try dsimp only at hSw
          go_simp
          first | done | with_reducible rfl
        try simp only [Act.put, List.getElem_toArray, List.getElem_cons_succ, List.getElem_cons_zero, List.setIfInBounds_toArray, List.set_cons_zero, List.set_cons_succ]
        refine wpAnyH_take (i := 3) (v := ?v4) rfl (by kernel_rfl) (by kernel_rfl) (by kernel_rfl) (fun _ _ _ h => h) (Or.inl ⟨by rfl, ?hy4⟩) hHeld ?rest4
        case hy4 =>
          intro w' hSw
          try dsimp only at hSw
          go_simp
          first | done | with_reducible rfl
        try simp only [Act.put, List.getElem_toArray, List.getElem_cons_succ, List.getElem_cons_zero, List.setIfInBounds_toArray, List.set_cons_zero, List.set_cons_succ]
        refine wpAnyH_take (i := 4) (v := ?v5) rfl (by kernel_rfl) (by kernel_rfl) (by kernel_rfl) (fun _ _ _ h => h) (Or.inl ⟨by rfl, ?hy5⟩) hHeld ?rest5
        case hy5 =>
          intro w' hSw
          try dsimp only at hSw
          go_simp
          first | done | with_reducible rfl
        try simp only [Act.put, List.getElem_toArray, List.getElem_cons_succ, List.getElem_cons_zero, List.setIfInBounds_toArray, List.set_cons_zero, List.set_cons_succ]
        refine wpAnyH_take (i := 5) rfl (by kernel_rfl) (by kernel_rfl) (by kernel_rfl) (fun _ _ _ h => h) (y_ob (by rfl) (.tmp 16) (by rfl) b 0 (by rfl) x (fun _ h => h.2.2.1)) hHeld ?_
        try simp only [Act.put, List.getElem_toArray, List.getElem_cons_succ, List.getElem_cons_zero, List.setIfInBounds_toArray, List.set_cons_zero, List.set_cons_succ]
        refine wpAnyH_take (i := 6) (v := ?v6) rfl (by kernel_rfl) (by kernel_rfl) (by kernel_rfl) (fun _ _ _ h => h) (Or.inl ⟨by rfl, ?hy6⟩) hHeld ?rest6
        case hy6 =>
          intro w' hSw
          try dsimp only at hSw
          go_simp
          first | done | with_reducible rfl
        try simp only [Act.put, List.getElem_toArray, List.getElem_cons_succ, List.getElem_cons_zero, List.setIfInBounds_toArray, List.set_cons_zero, List.set_cons_succ]
        refine wpAnyH_take (i := 7) (v := ?v7) rfl (by kernel_rfl) (by kernel_rfl) (by kernel_rfl) (fun _ _ _ h => h) (Or.inl ⟨by rfl, ?hy7⟩) hHeld ?rest7
        case hy7 =>
          intro w' hSw
          try dsimp only at hSw
          go_simp
          first | done | with_reducible rfl
        try simp only [Act.put, List.getElem_toArray, List.getElem_cons_succ, List.getElem_cons_zero, List.setIfInBounds_toArray, List.set_cons_zero, List.set_cons_succ]
        refine wpAnyH_take (i := 8) (v := ?v8) rfl (by kernel_rfl) (by kernel_rfl) (by kernel_rfl) (fun _ _ _ h => h) (Or.inl ⟨by rfl, ?hy8⟩) hHeld ?rest8
        case hy8 =>
          intro w' hSw
          try dsimp only at hSw
          go_simp
          first | done | with_reducible rfl
        try simp only [Act.put, List.getElem_toArray, List.getElem_cons_succ, List.getElem_cons_zero, List.setIfInBounds_toArray, List.set_cons_zero, List.set_cons_succ]
        refine wpAnyH_take (i := 9) (v := ?v9) rfl (by kernel_rfl) (by kernel_rfl) (by kernel_rfl) (fun _ _ _ h => h) (Or.inl ⟨by rfl, ?hy9⟩) hHeld ?rest9
        case hy9 =>
          intro w' hSw
          try dsimp only at hSw
          go_simp
          first | done | with_reducible rfl
        try simp only [Act.put, List.getElem_toArray, List.getElem_cons_succ, List.getElem_cons_zero, List.setIfInBounds_toArray, List.set_cons_zero, List.set_cons_succ]
        refine wpAnyH_take (i := 10) (v := ?v10) rfl (by kernel_rfl) (by kernel_rfl) (by kernel_rfl) (fun _ _ _ h => h) (Or.inl ⟨by rfl, ?hy10⟩) hHeld ?rest10
        case hy10 =>
          intro w' hSw
          try dsimp only at hSw
          go_simp
          first | done | with_reducible rfl
        try simp only [Act.put, List.getElem_toArray, List.getElem_cons_succ, List.getElem_cons_zero, List.setIfInBounds_toArray, List.set_cons_zero, List.set_cons_succ]
        refine wpAnyH_take (i := 11) rfl (by kernel_rfl) (by kernel_rfl) (by kernel_rfl) (fun _ _ _ h => h) (y_ob (by rfl) (.tmp 22) (by rfl) b2 0 (by rfl) y (fun _ h => h.2.2.2)) hHeld ?_
        try simp only [Act.put, List.getElem_toArray, List.getElem_cons_succ, List.getElem_cons_zero, List.setIfInBounds_toArray, List.set_cons_zero, List.set_cons_succ]
        refine wpAnyH_take (i := 12) rfl (by kernel_rfl) (by kernel_rfl) (by kernel_rfl) (fun _ _ _ h => h) (y_obne_of (by rfl) (by rfl) x y false HXY.out (by rfl) (by rfl)) hHeld ?_
        try simp only [Act.put, List.getElem_toArray, List.getElem_cons_succ, List.getElem_cons_zero, List.setIfInBounds_toArray, List.set_cons_zero, List.set_cons_succ]
        refine wpAnyH_done (by kernel_rfl) ?_ _
        refine OnlyN.normal ?_
        clear hHeld
        go_wp2
        go_roundw
        case rel => exact ⟨k + 1, by omega, by go_num, below_drew HB.out, by rw [diffs_same (by rw [HE.out.1, HE.out.2, HQ.out])]; exact own_below HOW.out (below_drew (Below.refl _ _))⟩
        case measure => simp [intOf]; omega
      · have HXY := Lib.hid (show (!decide (x = y)) = true by simpa using hxy)
        have HQ := Lib.hid hxy
        clear hxy
        go_wp2_with fail
        refine wp_region_only (S := fun w' => w'.cell? ⟨g, k, none⟩ = some (pv b) ∧ w'.cell? ⟨g2, k, none⟩ = some (pv b2) ∧ ObAt w' b 0 x ∧ ObAt w' b2 0 y) (by kernel_rfl) ⟨HC.out, HC2.out, HX.out.drew, HY.out.drew⟩ (fun hHeld => ?_)
        refine wpAnyH_take (i := 0) (v := ?v11) rfl (by kernel_rfl) (by kernel_rfl) (by kernel_rfl) (fun _ _ _ h => h) (Or.inl ⟨by rfl, ?hy11⟩) hHeld ?rest11
        case hy11 =>
          intro w' hSw
          try dsimp only at hSw
          go_simp
          first | done | with_reducible rfl
        try simp only [Act.put, List.getElem_toArray, List.getElem_cons_zero, List.setIfInBounds_toArray, List.set_cons_zero, List.set_cons_succ]
        refine wpAnyH_take (i := 1) (v := ?v12) rfl (by kernel_rfl) (by kernel_rfl) (by kernel_rfl) (fun _ _ _ h => h) (Or.inl ⟨by rfl, ?hy12⟩) hHeld ?rest12
        case hy12 =>
          intro w' hSw
          try dsimp only at hSw
          go_simp
          first | done | with_reducible rfl
        try simp only [Act.put, List.getElem_toArray, List.getElem_cons_succ, List.getElem_cons_zero, List.setIfInBounds_toArray, List.set_cons_zero, List.set_cons_succ]
        refine wpAnyH_take (i := 2) (v := ?v13) rfl (by kernel_rfl) (by kernel_rfl) (by kernel_rfl) (fun _ _ _ h => h) (Or.inl ⟨by rfl, ?hy13⟩) hHeld ?rest13
        case hy13 =>
          intro w' hSw
          try dsimp only at hSw
          go_simp
          first | done | with_reducible rfl
        try simp only [Act.put, List.getElem_toArray, List.getElem_cons_succ, List.getElem_cons_zero, List.setIfInBounds_toArray, List.set_cons_zero, List.set_cons_succ]
        refine wpAnyH_take (i := 3) (v := ?v14) rfl (by kernel_rfl) (by kernel_rfl) (by kernel_rfl) (fun _ _ _ h => h) (Or.inl ⟨by rfl, ?hy14⟩) hHeld ?rest14
        case hy14 =>
          intro w' hSw
          try dsimp only at hSw
          go_simp
          first | done | with_reducible rfl
        try simp only [Act.put, List.getElem_toArray, List.getElem_cons_succ, List.getElem_cons_zero, List.setIfInBounds_toArray, List.set_cons_zero, List.set_cons_succ]
        refine wpAnyH_take (i := 4) (v := ?v15) rfl (by kernel_rfl) (by kernel_rfl) (by kernel_rfl) (fun _ _ _ h => h) (Or.inl ⟨by rfl, ?hy15⟩) hHeld ?rest15
        case hy15 =>
          intro w' hSw
          try dsimp only at hSw
          go_simp
          first | done | with_reducible rfl
        try simp only [Act.put, List.getElem_toArray, List.getElem_cons_succ, List.getElem_cons_zero, List.setIfInBounds_toArray, List.set_cons_zero, List.set_cons_succ]
        refine wpAnyH_take (i := 5) rfl (by kernel_rfl) (by kernel_rfl) (by kernel_rfl) (fun _ _ _ h => h) (y_ob (by rfl) (.tmp 16) (by rfl) b 0 (by rfl) x (fun _ h => h.2.2.1)) hHeld ?_
        try simp only [Act.put, List.getElem_toArray, List.getElem_cons_succ, List.getElem_cons_zero, List.setIfInBounds_toArray, List.set_cons_zero, List.set_cons_succ]
        refine wpAnyH_take (i := 6) (v := ?v16) rfl (by kernel_rfl) (by kernel_rfl) (by kernel_rfl) (fun _ _ _ h => h) (Or.inl ⟨by rfl, ?hy16⟩) hHeld ?rest16
        case hy16 =>
          intro w' hSw
          try dsimp only at hSw
          go_simp
          first | done | with_reducible rfl
        try simp only [Act.put, List.getElem_toArray, List.getElem_cons_succ, List.getElem_cons_zero, List.setIfInBounds_toArray, List.set_cons_zero, List.set_cons_succ]
        refine wpAnyH_take (i := 7) (v := ?v17) rfl (by kernel_rfl) (by kernel_rfl) (by kernel_rfl) (fun _ _ _ h => h) (Or.inl ⟨by rfl, ?hy17⟩) hHeld ?rest17
        case hy17 =>
          intro w' hSw
          try dsimp only at hSw
          go_simp
          first | done | with_reducible rfl
        try simp only [Act.put, List.getElem_toArray, List.getElem_cons_succ, List.getElem_cons_zero, List.setIfInBounds_toArray, List.set_cons_zero, List.set_cons_succ]
        refine wpAnyH_take (i := 8) (v := ?v18) rfl (by kernel_rfl) (by kernel_rfl) (by kernel_rfl) (fun _ _ _ h => h) (Or.inl ⟨by rfl, ?hy18⟩) hHeld ?rest18
        case hy18 =>
          intro w' hSw
          try dsimp only at hSw
          go_simp
          first | done | with_reducible rfl
        try simp only [Act.put, List.getElem_toArray, List.getElem_cons_succ, List.getElem_cons_zero, List.setIfInBounds_toArray, List.set_cons_zero, List.set_cons_succ]
        refine wpAnyH_take (i := 9) (v := ?v19) rfl (by kernel_rfl) (by kernel_rfl) (by kernel_rfl) (fun _ _ _ h => h) (Or.inl ⟨by rfl, ?hy19⟩) hHeld ?rest19
        case hy19 =>
          intro w' hSw
          try dsimp only at hSw
          go_simp
          first | done | with_reducible rfl
        try simp only [Act.put, List.getElem_toArray, List.getElem_cons_succ, List.getElem_cons_zero, List.setIfInBounds_toArray, List.set_cons_zero, List.set_cons_succ]
        refine wpAnyH_take (i := 10) (v := ?v20) rfl (by kernel_rfl) (by kernel_rfl) (by kernel_rfl) (fun _ _ _ h => h) (Or.inl ⟨by rfl, ?hy20⟩) hHeld ?rest20
        case hy20 =>
          intro w' hSw
          try dsimp only at hSw
          go_simp
          first | done | with_reducible rfl
        try simp only [Act.put, List.getElem_toArray, List.getElem_cons_succ, List.getElem_cons_zero, List.setIfInBounds_toArray, List.set_cons_zero, List.set_cons_succ]
        refine wpAnyH_take (i := 11) rfl (by kernel_rfl) (by kernel_rfl) (by kernel_rfl) (fun _ _ _ h => h) (y_ob (by rfl) (.tmp 22) (by rfl) b2 0 (by rfl) y (fun _ h => h.2.2.2)) hHeld ?_
        try simp only [Act.put, List.getElem_toArray, List.getElem_cons_succ, List.getElem_cons_zero, List.setIfInBounds_toArray, List.set_cons_zero, List.set_cons_succ]
        refine wpAnyH_take (i := 12) rfl (by kernel_rfl) (by kernel_rfl) (by kernel_rfl) (fun _ _ _ h => h) (y_obne_of (by rfl) (by rfl) x y true HXY.out (by rfl) (by rfl)) hHeld ?_
        try simp only [Act.put, List.getElem_toArray, List.getElem_cons_succ, List.getElem_cons_zero, List.setIfInBounds_toArray, List.set_cons_zero, List.set_cons_succ]
        refine wpAnyH_done (by kernel_rfl) ?_ _
        refine OnlyN.normal ?_
        clear hHeld
        have HOW2 := Lib.hid (own_below HOW.out (below_drew (Below.refl wr.heap.size wr)))
        have HBD := Lib.hid (below_drew HB.out)
        have HSZ := Lib.hid (show w.heap.size ≤ wr.drew.heap.size from HB.out.size)
        clear HOW HB
        go_wp2_with (refine wpList_append_int rfl (.tmp 25) (.tmp 27) rfl (by rfl) HOW2.out (k : Int) (by first | rfl | simp) (by have := HD.out; omega) HSZ.out ?_; intro g' c' w' hw1 hw2)
        go_roundw
        case rel => exact ⟨k + 1, by omega, by go_num, HBD.out.trans hw2, by rw [diffs_other (by rw [HE.out.1, HE.out.2]; intro e; injection e with e; exact HQ.out e)]; simpa [dv] using hw1⟩
        case measure => simp [intOf]; omega
    · obtain rfl : k = os.length := by omega
      go_wp2
      go_ret
      exact ⟨_, rfl, hown, hb⟩
end
end Go.Proofs.YtlhlgfehbfankaaDoor

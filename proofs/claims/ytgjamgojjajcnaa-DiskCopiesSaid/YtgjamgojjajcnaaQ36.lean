/- disk: comparing of writes that wait. -/
import Derived.Test.YtgjamgojjajcnaaQ08
import Derived.Test.YtgjamgojjajcnaaQ17
import Derived.Test.YtgjamgojjajcnaaQ05
import Derived.Test.YtgjamgojjajcnaaQ31
import Derived.Test.YtgjamgojjajcnaaQ19
namespace Go.Proofs.Ytgjamgojjajcnaa
open Go.RowKit
section
variable (w : World)
set_option maxRecDepth 8000 in
theorem dk_eq_head {d : Nat} {xs ys : Array Value} {t : TypeId} {i : Nat} {a b : Value} (f : Field) (fs : List Field) (hn : (f.name == "_") = false) (ht : f.type = t) (ho : f.offset = i)
    (hp : (part t xs i).run Try.prog w = .ok a w) (hq : (part t ys i).run Try.prog w = .ok b w) {r : Bool} (he : (Op.equalIn d t a b).run Try.prog w = .ok r w) (b' : Bool) (hr : (Op.eqFields d xs ys fs).run Try.prog w = .ok b' w) :
    (Op.eqFields d xs ys (f :: fs)).run Try.prog w = .ok (r && b') w := by
  have hn' : f.name ≠ "_" := by simpa using hn
  subst ht ho
  simp only [Op.eqFields, hn', ne_eq, not_false_eq_true, if_true, Sem.run_bind, hp, hq, Result.andThen_ok, he]
  cases r
  · simp
  · simp [hr]
set_option maxRecDepth 8000 in
theorem dk_info {t : TypeId} {n : Nat} (h : (Try.prog.info? t).map (·.size) = some n) : ∃ i, Try.prog.info? t = some i := by
  cases h' : Try.prog.info? t with
  | none => simp [h'] at h
  | some i => exact ⟨i, rfl⟩
set_option maxRecDepth 8000 in
theorem dk_part {t : TypeId} {n i : Nat} {xs ys : List Value} {d : TypeDesc} (hu : Try.prog.underlying t = some d) (hd : d.isRow = true) (hs : (Try.prog.info? t).map (·.size) = some n) (he : (xs.drop i).take n = ys) : (part t xs.toArray i).run Try.prog w = .ok (.agg ys.toArray) w := by
  obtain ⟨inf, hq⟩ := dk_info hs
  have hsz : inf.size = n := by simpa [hq] using hs
  have e : xs.toArray.extract i (i + n) = ys.toArray := by
    rw [← he]
    simp [List.extract_toArray, List.extract]
  cases d <;> simp_all [part, isAgg, run_underlying hu, sizeOf, typeInfo]
set_option maxRecDepth 8000 in
theorem wc_part (x : Nat × List UInt8) (h : x.2.length = 512) : ((wc x).drop 1).take 512 = bv x.2 := by
  have hl : (bv x.2).length = 512 := by rw [bv_length, h]
  show (bv x.2).take 512 = _
  rw [← hl, List.take_length]
set_option maxRecDepth 8000 in
theorem dk_size47 : (Try.prog.info? 38).map (·.size) = some 512 := by kernel_rfl
set_option maxRecDepth 8000 in
theorem wv_fields {t : TypeId} (hf : (Try.prog.fieldsOf t).toList.map (fun f => (f.name == "_", f.type, f.offset)) = [(false, 3, 0), (false, 38, 1)]) (x y : Nat × List UInt8) (hx : x.2.length = 512) (hy : y.2.length = 512) :
    (Op.eqFields 9999 (wc x).toArray (wc y).toArray (Try.prog.fieldsOf t).toList).run Try.prog w = .ok (decide (x = y)) w := by
  generalize (Try.prog.fieldsOf t).toList = fs at hf ⊢
  have hl : fs.length = 2 := by have := congrArg List.length hf; simpa using this
  match fs, hl, hf with
  | [f0, f1], _, hf =>
    simp only [List.map_cons, List.map_nil, List.cons.injEq, Prod.mk.injEq, and_true] at hf
    obtain ⟨⟨n0, t0, o0⟩, ⟨n1, t1, o1⟩⟩ := hf
    have e : decide (x = y) = (decide ((x.1 : Int) = (y.1 : Int)) && ((x.2 == y.2) && true)) := by
      obtain ⟨a, l⟩ := x
      obtain ⟨b, m⟩ := y
      rw [Bool.eq_iff_iff]
      simp only [decide_eq_true_eq, Prod.mk.injEq, Bool.and_true, Bool.and_eq_true, beq_iff_eq]
      exact ⟨fun ⟨h1, h2⟩ => ⟨by rw [h1], h2⟩, fun ⟨h1, h2⟩ => ⟨Int.ofNat.inj h1, h2⟩⟩
    rw [e]
    have i0 : (Op.equalIn 9999 3 (.int .i64 (x.1 : Int)) (.int .i64 (y.1 : Int))).run Try.prog w = .ok (decide ((x.1 : Int) = (y.1 : Int))) w := by
      rw [run_equalIn_int w 9998 3 .i64 .i64 _ _ Try.underlying3]
      congr 1
    exact dk_eq_head w f0 _ n0 t0 o0 (run_part_plain w (by kernel_rfl) rfl) (run_part_plain w (by kernel_rfl) rfl) i0 _ <|
      dk_eq_head w f1 _ n1 t1 o1 (dk_part w Try.underlying38 rfl dk_size47 (wc_part x hx)) (dk_part w Try.underlying38 rfl dk_size47 (wc_part y hy)) (equalIn47 w 9997 _ _ hx hy) _ (by simp [Op.eqFields])
set_option maxRecDepth 8000 in
theorem fields_write : (Try.prog.fieldsOf 89).toList.map (fun f => (f.name == "_", f.type, f.offset)) = [(false, 3, 0), (false, 38, 1)] := by kernel_rfl
set_option maxRecDepth 8000 in
theorem fields_wait : (Try.prog.fieldsOf 94).toList.map (fun f => (f.name == "_", f.type, f.offset)) = [(false, 3, 0), (false, 38, 1)] := by kernel_rfl
set_option maxRecDepth 8000 in
theorem write_neq (x y : Nat × List UInt8) (hx : x.2.length = 512) (hy : y.2.length = 512) : (binOp .neq 89 (wv x) (wv y)).run Try.prog w = .ok (.bool (!decide (x = y))) w := by
  rw [run_neq_struct, run_equalIn_agg w 9999 89 _ _ (by kernel_rfl) (by kernel_rfl), wv_fields w fields_write x y hx hy]
  rfl
set_option maxRecDepth 8000 in
theorem wait_neq (x y : Nat × List UInt8) (hx : x.2.length = 512) (hy : y.2.length = 512) : (binOp .neq 94 (wv x) (wv y)).run Try.prog w = .ok (.bool (!decide (x = y))) w := by
  rw [run_neq_struct, run_equalIn_agg w 9999 94 _ _ (by kernel_rfl) (by kernel_rfl), wv_fields w fields_wait x y hx hy]
  rfl
end
section
variable {ops : Array Oper} {o : Oper} {a : Act} {S : World → Prop} {p q : Operand}
theorem dk_bin {t : TypeId} {bo : BinOp} {xs ys : Array Value} {v : Value} (hw : Region.wanted o (yielded ops a.tmps) = true) (ho : o.op = .binOp bo t p q t) (hx : a.eval p = .agg xs) (hy : a.eval q = .agg ys) (hm : Try.prog.eqGuardType Try.prog.depth t = false) (h : ∀ w, (binOp bo t (.agg xs) (.agg ys)).run Try.prog w = .ok v w) : YieldsIf Try.prog ops S o v a :=
  .inl ⟨hw, fun w _ => by
    unfold execOp
    simp only [ho, hx, hy, Sem.run_bind, run_eqGuard_agg (P := Try.prog) w bo t p q xs ys hm, h, Result.andThen_ok, Sem.run_pure]⟩
theorem y_writene (hw : Region.wanted o (yielded ops a.tmps) = true) (ho : o.op = .binOp .neq 89 p q 89) (x y : Nat × List UInt8) (hl : x.2.length = 512) (hl' : y.2.length = 512) (hx : a.eval p = wv x) (hy : a.eval q = wv y) {b : Bool} (hb : (!decide (x = y)) = b) : YieldsIf Try.prog ops S o (.bool b) a :=
  dk_bin hw ho hx hy (by kernel_rfl) (fun w => hb ▸ write_neq w x y hl hl')
theorem y_waitne (hw : Region.wanted o (yielded ops a.tmps) = true) (ho : o.op = .binOp .neq 94 p q 94) (x y : Nat × List UInt8) (hl : x.2.length = 512) (hl' : y.2.length = 512) (hx : a.eval p = wv x) (hy : a.eval q = wv y) {b : Bool} (hb : (!decide (x = y)) = b) : YieldsIf Try.prog ops S o (.bool b) a :=
  dk_bin hw ho hx hy (by kernel_rfl) (fun w => hb ▸ wait_neq w x y hl hl')
theorem y_neq47 (hw : Region.wanted o (yielded ops a.tmps) = true) (ho : o.op = .binOp .neq 38 p q 38) (x y : List UInt8) (hl : x.length = 512) (hl' : y.length = 512) (hx : a.eval p = sec x) (hy : a.eval q = sec y) {b : Bool} (hb : (!(x == y)) = b) : YieldsIf Try.prog ops S o (.bool b) a :=
  dk_bin hw ho hx hy (by kernel_rfl) (fun w => hb ▸ run_neq47 w x y hl hl')
end
set_option maxRecDepth 8000 in
/-- an owned row of writes, one by one -/
theorem rdW_row {t : TypeId} {w : World} {base n c : Nat} {A : Option Addr} {ws : List (Nat × List UInt8)} (hws : ∀ x ∈ ws, x.2.length = 512) (h : w.ownsRow base t 513 (.slice A n c) n (ws.flatMap wc)) : RdW w A ws := by

  intro i x hx
  have hi : i < ws.length := by
    rcases Nat.lt_or_ge i ws.length with h | h
    · exact h
    · rw [List.getElem?_eq_none h] at hx; cases hx
  rcases h.2 with ⟨e, e2⟩ | ⟨g, cap, cur, e, _⟩
  · injection e with e1 e2 e3
    have := h.1
    rw [flat_len94 ws hws] at this
    omega
  · injection e with e1 e2 e3
    subst e1
    refine ⟨g, 0, rfl, ?_⟩
    intro j v hv
    have hsp : ws.flatMap wc = (ws.take i).flatMap wc ++ (wc x ++ (ws.drop (i + 1)).flatMap wc) := by
      have e4 : ws = ws.take i ++ (x :: ws.drop (i + 1)) := by
        have e5 : ws[i] = x := by rw [List.getElem?_eq_getElem hi] at hx; exact Option.some.inj hx
        rw [← e5, ← List.drop_eq_getElem_cons hi, List.take_append_drop]
      conv => lhs; rw [e4]
      rw [List.flatMap_append, List.flatMap_cons]
    have hl1 : ((ws.take i).flatMap wc).length = i * 513 := by
      rw [flat_len94 _ fun y hy => hws y (List.mem_of_mem_take hy), List.length_take, Nat.min_eq_left (Nat.le_of_lt hi)]
    have hj : j < (wc x).length := by
      rcases Nat.lt_or_ge j (wc x).length with h | h
      · exact h
      · rw [List.getElem?_eq_none h] at hv; cases hv
    have := h.cells (g := g) rfl (i * 513 + j) v (by rw [hsp, List.getElem?_append_right (by omega), hl1, Nat.add_sub_cancel_left, List.getElem?_append_left hj]; exact hv)
    rw [add_flat94] at this
    rwa [show 0 + i * 513 + j = 0 + (i * 513 + j) by omega]
end Go.Proofs.Ytgjamgojjajcnaa
namespace Go.Proofs.Ytgjamgojjajcnaa
open Go.RowKit
attribute [local go_sem] Oper.semAt_some
set_option maxRecDepth 100000 in
set_option maxHeartbeats 4000000 in
theorem eqw_len (w : World) (A1 A2 : Option Addr) (n1 n2 c1 c2 : Nat) (h : n1 ≠ n2) :
    Calls Try.prog 52 #[.slice A1 n1 c1, .slice A2 n2 c2] w fun e w' => e = .returned (.bool false) ∧ Below w.heap.size w w' := by
  have h1 : ((n1 : Int) == (n2 : Int)) = false := beq_eq_false_iff_ne.2 (fun e => h (by omega))
  have h2 : (n1 == n2) = false := beq_eq_false_iff_ne.2 h
  clear h
  go_enter Try.func52, Try.ntmps52
  go_wp2
  go_ret
  exact ⟨rfl, Below.refl _ _⟩
set_option maxRecDepth 8000 in
theorem size89 : (Try.prog.info? 89).map (·.size) = some 513 := by kernel_rfl
set_option maxRecDepth 100000 in
set_option maxHeartbeats 4000000 in
theorem eqw_any (w : World) (A1 A2 : Option Addr) (n c1 c2 : Nat) (l1 l2 : List (Nat × List UInt8)) (e1 : l1.length = n) (e2 : l2.length = n) (hn : n ≤ 1000000) (h1 : RdW w A1 l1) (h2 : RdW w A2 l2) (m1 : ∀ x ∈ l1, x.2.length = 512) (m2 : ∀ x ∈ l2, x.2.length = 512) :
    Calls Try.prog 52 #[.slice A1 n c1, .slice A2 n c2] w fun e w' => e = .returned (.bool (decide (l1 = l2))) ∧ Below w.heap.size w w' := by
  have E1 := Lib.hid e1
  have E2 := Lib.hid e2
  have HN := Lib.hid hn
  have H1 := Lib.hid h1
  have H2 := Lib.hid h2
  have M1 := Lib.hid m1
  have M2 := Lib.hid m2
  clear e1 e2 hn h1 h2 m1 m2
  go_enter Try.func52, Try.ntmps52
  go_wp2
  go_loopw [13] (fun i wr => ∃ k : Nat, k ≤ n ∧ i = .int .i64 (k : Int) ∧ Below w.heap.size w wr ∧ ∀ j, j < k → l1[j]? = l2[j]?) (fun i _ => n - (intOf i).toNat)
  case atStart => exact ⟨0, Nat.zero_le _, rfl, Below.refl _ _, fun j hj => absurd hj (Nat.not_lt_zero _)⟩
  case round =>
    obtain ⟨k, hk, rfl, hb, hj⟩ := hrel
    have LB := Lib.hid (hb.drew)
    have HJ := Lib.hid hj
    clear hj
    by_cases hlt : k < n
    · have i1 : (0 : Int) ≤ (k : Int) := by omega
      have i2 : (k : Int) < (n : Int) := by omega
      have kb : k ≤ 1000000 := by have := HN.out; omega
      obtain ⟨x, hx⟩ : ∃ x, l1[k]? = some x := ⟨_, List.getElem?_eq_getElem (by rw [E1.out]; exact hlt)⟩
      obtain ⟨y, hy⟩ : ∃ y, l2[k]? = some y := ⟨_, List.getElem?_eq_getElem (by rw [E2.out]; exact hlt)⟩
      have HX := Lib.hid (M1.out x (List.mem_of_getElem? hx))
      have HY := Lib.hid (M2.out y (List.mem_of_getElem? hy))
      obtain ⟨b, o, rfl, hc⟩ := H1.out k x hx
      obtain ⟨b2, o2, rfl, hc2⟩ := H2.out k y hy
      by_cases he : x = y
      · have HQ := Lib.hid (show (!decide (x = y)) = false by simp [he])
        have HNX := Lib.hid (show ∀ j, j < k + 1 → l1[j]? = l2[j]? from fun j hj => by
          rcases Nat.lt_or_ge j k with h | h
          · exact HJ.out j h
          · rw [show j = k by omega, hx, hy, he])
        clear hx hy he hb
        go_wp2_with fail
        refine wp_region_only (S := fun w' => w'.rangeAt b (o + k * 513) (wc x) ∧ w'.rangeAt b2 (o2 + k * 513) (wc y)) (by kernel_rfl) ⟨fun j v hv => (LB.out.cell (cell_lt (hc j v hv))).trans (hc j v hv), fun j v hv => (LB.out.cell (cell_lt (hc2 j v hv))).trans (hc2 j v hv)⟩ (fun hHeld => ?_)
        refine wpAnyH_take (i := 0) (v := ?v1) rfl (by kernel_rfl) (by kernel_rfl) (by kernel_rfl) (fun _ _ _ h => h) (Or.inl ⟨by rfl, ?hy1⟩) hHeld ?rest1
        case hy1 =>
          intro w' hSw
          try dsimp only at hSw
          go_simp
          first | done | with_reducible rfl
        try simp only [Act.put, List.getElem_toArray, List.getElem_cons_zero, List.setIfInBounds_toArray, List.set_cons_zero, List.set_cons_succ]
        refine wpAnyH_take (i := 1) (v := ?v2) rfl (by kernel_rfl) (by kernel_rfl) (by kernel_rfl) (fun _ _ _ h => h) (Or.inl ⟨by rfl, ?hy2⟩) hHeld ?rest2
        case hy2 =>
          intro w' hSw
          try dsimp only at hSw
          go_simp
          first | done | with_reducible rfl
        try simp only [Act.put, List.getElem_toArray, List.getElem_cons_succ, List.getElem_cons_zero, List.setIfInBounds_toArray, List.set_cons_zero, List.set_cons_succ]
        refine wpAnyH_take (i := 2) (v := ?v3) rfl (by kernel_rfl) (by kernel_rfl) (by kernel_rfl) (fun _ _ _ h => h) (Or.inl ⟨by rfl, ?hy3⟩) hHeld ?rest3
        case hy3 =>
          intro w' hSw
          try dsimp only at hSw
          go_simp
          first | done | with_reducible rfl
        try simp only [Act.put, List.getElem_toArray, List.getElem_cons_succ, List.getElem_cons_zero, List.setIfInBounds_toArray, List.set_cons_zero, List.set_cons_succ]
        refine wpAnyH_take (i := 3) rfl (by kernel_rfl) (by kernel_rfl) (by kernel_rfl) (fun _ _ _ h => h) (yieldsIf_load_mid (by rfl) 89 (.tmp 18) (by rfl) b (o + k * 513) (by rfl) (wc x) _ (fun w' hSw => hSw.1) Try.underlying89 rfl (by rw [wc_length _ HX.out]; exact size89)) hHeld ?_
        try simp only [Act.put, List.getElem_toArray, List.getElem_cons_succ, List.getElem_cons_zero, List.setIfInBounds_toArray, List.set_cons_zero, List.set_cons_succ]
        refine wpAnyH_take (i := 4) (v := ?v4) rfl (by kernel_rfl) (by kernel_rfl) (by kernel_rfl) (fun _ _ _ h => h) (Or.inl ⟨by rfl, ?hy4⟩) hHeld ?rest4
        case hy4 =>
          intro w' hSw
          try dsimp only at hSw
          go_simp
          first | done | with_reducible rfl
        try simp only [Act.put, List.getElem_toArray, List.getElem_cons_succ, List.getElem_cons_zero, List.setIfInBounds_toArray, List.set_cons_zero, List.set_cons_succ]
        refine wpAnyH_take (i := 5) (v := ?v5) rfl (by kernel_rfl) (by kernel_rfl) (by kernel_rfl) (fun _ _ _ h => h) (Or.inl ⟨by rfl, ?hy5⟩) hHeld ?rest5
        case hy5 =>
          intro w' hSw
          try dsimp only at hSw
          go_simp
          first | done | with_reducible rfl
        try simp only [Act.put, List.getElem_toArray, List.getElem_cons_succ, List.getElem_cons_zero, List.setIfInBounds_toArray, List.set_cons_zero, List.set_cons_succ]
        refine wpAnyH_take (i := 6) (v := ?v6) rfl (by kernel_rfl) (by kernel_rfl) (by kernel_rfl) (fun _ _ _ h => h) (Or.inl ⟨by rfl, ?hy6⟩) hHeld ?rest6
        case hy6 =>
          intro w' hSw
          try dsimp only at hSw
          go_simp
          first | done | with_reducible rfl
        try simp only [Act.put, List.getElem_toArray, List.getElem_cons_succ, List.getElem_cons_zero, List.setIfInBounds_toArray, List.set_cons_zero, List.set_cons_succ]
        refine wpAnyH_take (i := 7) rfl (by kernel_rfl) (by kernel_rfl) (by kernel_rfl) (fun _ _ _ h => h) (yieldsIf_load_mid (by rfl) 89 (.tmp 22) (by rfl) b2 (o2 + k * 513) (by rfl) (wc y) _ (fun w' hSw => hSw.2) Try.underlying89 rfl (by rw [wc_length _ HY.out]; exact size89)) hHeld ?_
        try simp only [Act.put, List.getElem_toArray, List.getElem_cons_succ, List.getElem_cons_zero, List.setIfInBounds_toArray, List.set_cons_zero, List.set_cons_succ]
        refine wpAnyH_take (i := 8) rfl (by kernel_rfl) (by kernel_rfl) (by kernel_rfl) (fun _ _ _ h => h) (y_writene (by rfl) rfl x y HX.out HY.out (by rfl) (by rfl) HQ.out) hHeld ?_
        try simp only [Act.put, List.getElem_toArray, List.getElem_cons_succ, List.getElem_cons_zero, List.setIfInBounds_toArray, List.set_cons_zero, List.set_cons_succ]
        refine wpAnyH_done (by kernel_rfl) ?_ _
        refine OnlyN.normal ?_
        clear hHeld
        go_wp2
        go_roundw
        case rel => exact ⟨k + 1, by omega, by go_num, LB.out, HNX.out⟩
        case measure => simp [intOf]; omega
      · have HQ := Lib.hid (show (!decide (x = y)) = true by simp [he])
        have HNE := Lib.hid (show decide (l1 = l2) = false from decide_eq_false (fun e => he (by rw [e, hy] at hx; exact (Option.some.inj hx).symm)))
        clear hx hy he hb
        go_wp2_with fail
        refine wp_region_only (S := fun w' => w'.rangeAt b (o + k * 513) (wc x) ∧ w'.rangeAt b2 (o2 + k * 513) (wc y)) (by kernel_rfl) ⟨fun j v hv => (LB.out.cell (cell_lt (hc j v hv))).trans (hc j v hv), fun j v hv => (LB.out.cell (cell_lt (hc2 j v hv))).trans (hc2 j v hv)⟩ (fun hHeld => ?_)
        refine wpAnyH_take (i := 0) (v := ?v7) rfl (by kernel_rfl) (by kernel_rfl) (by kernel_rfl) (fun _ _ _ h => h) (Or.inl ⟨by rfl, ?hy7⟩) hHeld ?rest7
        case hy7 =>
          intro w' hSw
          try dsimp only at hSw
          go_simp
          first | done | with_reducible rfl
        try simp only [Act.put, List.getElem_toArray, List.getElem_cons_zero, List.setIfInBounds_toArray, List.set_cons_zero, List.set_cons_succ]
        refine wpAnyH_take (i := 1) (v := ?v8) rfl (by kernel_rfl) (by kernel_rfl) (by kernel_rfl) (fun _ _ _ h => h) (Or.inl ⟨by rfl, ?hy8⟩) hHeld ?rest8
        case hy8 =>
          intro w' hSw
          try dsimp only at hSw
          go_simp
          first | done | with_reducible rfl
        try simp only [Act.put, List.getElem_toArray, List.getElem_cons_succ, List.getElem_cons_zero, List.setIfInBounds_toArray, List.set_cons_zero, List.set_cons_succ]
        refine wpAnyH_take (i := 2) (v := ?v9) rfl (by kernel_rfl) (by kernel_rfl) (by kernel_rfl) (fun _ _ _ h => h) (Or.inl ⟨by rfl, ?hy9⟩) hHeld ?rest9
        case hy9 =>
          intro w' hSw
          try dsimp only at hSw
          go_simp
          first | done | with_reducible rfl
        try simp only [Act.put, List.getElem_toArray, List.getElem_cons_succ, List.getElem_cons_zero, List.setIfInBounds_toArray, List.set_cons_zero, List.set_cons_succ]
        refine wpAnyH_take (i := 3) rfl (by kernel_rfl) (by kernel_rfl) (by kernel_rfl) (fun _ _ _ h => h) (yieldsIf_load_mid (by rfl) 89 (.tmp 18) (by rfl) b (o + k * 513) (by rfl) (wc x) _ (fun w' hSw => hSw.1) Try.underlying89 rfl (by rw [wc_length _ HX.out]; exact size89)) hHeld ?_
        try simp only [Act.put, List.getElem_toArray, List.getElem_cons_succ, List.getElem_cons_zero, List.setIfInBounds_toArray, List.set_cons_zero, List.set_cons_succ]
        refine wpAnyH_take (i := 4) (v := ?v10) rfl (by kernel_rfl) (by kernel_rfl) (by kernel_rfl) (fun _ _ _ h => h) (Or.inl ⟨by rfl, ?hy10⟩) hHeld ?rest10
        case hy10 =>
          intro w' hSw
          try dsimp only at hSw
          go_simp
          first | done | with_reducible rfl
        try simp only [Act.put, List.getElem_toArray, List.getElem_cons_succ, List.getElem_cons_zero, List.setIfInBounds_toArray, List.set_cons_zero, List.set_cons_succ]
        refine wpAnyH_take (i := 5) (v := ?v11) rfl (by kernel_rfl) (by kernel_rfl) (by kernel_rfl) (fun _ _ _ h => h) (Or.inl ⟨by rfl, ?hy11⟩) hHeld ?rest11
        case hy11 =>
          intro w' hSw
          try dsimp only at hSw
          go_simp
          first | done | with_reducible rfl
        try simp only [Act.put, List.getElem_toArray, List.getElem_cons_succ, List.getElem_cons_zero, List.setIfInBounds_toArray, List.set_cons_zero, List.set_cons_succ]
        refine wpAnyH_take (i := 6) (v := ?v12) rfl (by kernel_rfl) (by kernel_rfl) (by kernel_rfl) (fun _ _ _ h => h) (Or.inl ⟨by rfl, ?hy12⟩) hHeld ?rest12
        case hy12 =>
          intro w' hSw
          try dsimp only at hSw
          go_simp
          first | done | with_reducible rfl
        try simp only [Act.put, List.getElem_toArray, List.getElem_cons_succ, List.getElem_cons_zero, List.setIfInBounds_toArray, List.set_cons_zero, List.set_cons_succ]
        refine wpAnyH_take (i := 7) rfl (by kernel_rfl) (by kernel_rfl) (by kernel_rfl) (fun _ _ _ h => h) (yieldsIf_load_mid (by rfl) 89 (.tmp 22) (by rfl) b2 (o2 + k * 513) (by rfl) (wc y) _ (fun w' hSw => hSw.2) Try.underlying89 rfl (by rw [wc_length _ HY.out]; exact size89)) hHeld ?_
        try simp only [Act.put, List.getElem_toArray, List.getElem_cons_succ, List.getElem_cons_zero, List.setIfInBounds_toArray, List.set_cons_zero, List.set_cons_succ]
        refine wpAnyH_take (i := 8) rfl (by kernel_rfl) (by kernel_rfl) (by kernel_rfl) (fun _ _ _ h => h) (y_writene (by rfl) rfl x y HX.out HY.out (by rfl) (by rfl) HQ.out) hHeld ?_
        try simp only [Act.put, List.getElem_toArray, List.getElem_cons_succ, List.getElem_cons_zero, List.setIfInBounds_toArray, List.set_cons_zero, List.set_cons_succ]
        refine wpAnyH_done (by kernel_rfl) ?_ _
        refine OnlyN.normal ?_
        clear hHeld
        go_wp2
        go_ret
        exact ⟨by rw [HNE.out]; rfl, LB.out⟩
    · obtain rfl : k = n := by omega
      have i2 : ¬ ((k : Nat) : Int) < (k : Int) := by omega
      have HQ := Lib.hid (show decide (l1 = l2) = true from decide_eq_true (List.ext_getElem? (fun j => by
        rcases Nat.lt_or_ge j k with h | h
        · exact HJ.out j h
        · rw [List.getElem?_eq_none (by have := E1.out; omega), List.getElem?_eq_none (by have := E2.out; omega)])))
      go_wp2
      go_ret
      exact ⟨by rw [HQ.out]; rfl, hb⟩
/-- the same lasting bytes -/
def sameL (D1 D2 : Dk) : Prop := ∀ n, n < D1.size → D1.lasts n = D2.lasts n
set_option maxRecDepth 100000 in
set_option maxHeartbeats 4000000 in
theorem samel_any {w : World} {B1 B2 p1 p2 : Nat} {pl1 pl2 : Pl} {D1 D2 : Dk} (h1 : DiskAt w B1 p1 pl1 D1) (h2 : DiskAt w B2 p2 pl2 D2) :
    Calls Try.prog 51 #[.pointer (some ⟨p1, 0, none⟩), .pointer (some ⟨p2, 0, none⟩)] w fun e w' => ((e = .returned (.bool true) ∧ sameL D1 D2) ∨ (e = .returned (.bool false) ∧ ¬ sameL D1 D2)) ∧ Below w.heap.size w w' := by
  have H1 := Lib.hid h1
  have H2 := Lib.hid h2
  have HN := Lib.hid h1.size2
  have c0 := h1.c0
  obtain ⟨n, hn⟩ : ∃ n, n = D1.size := ⟨_, rfl⟩
  have HE := Lib.hid hn
  rw [← hn] at c0 HN
  clear h1 h2 hn
  go_enter Try.func51, Try.ntmps51
  go_wp2
  go_loopw [10] (fun i wr => ∃ k : Nat, k ≤ n ∧ i = .int .i64 (k : Int) ∧ Below w.heap.size w wr ∧ ∀ j, j < k → D1.lasts j = D2.lasts j) (fun i _ => n - (intOf i).toNat)
  case atStart => exact ⟨0, Nat.zero_le _, rfl, Below.refl _ _, fun j hj => absurd hj (Nat.not_lt_zero _)⟩
  case round =>
    obtain ⟨k, hk, rfl, hb, hj⟩ := hrel
    clear c0
    have LB := Lib.hid (hb.drew)
    have HJ := Lib.hid hj
    clear hj
    by_cases hlt : k < n
    · have i1 : (0 : Int) ≤ (k : Int) := by omega
      have i2 : (k : Int) < (n : Int) := by omega
      have kb : k ≤ 4096 := by have := HN.out; omega
      have T1 := Lib.hid (H1.out.below LB.out)
      have T2 := Lib.hid (H2.out.below LB.out)
      have HX := Lib.hid (H1.out.lens k)
      have HY := Lib.hid (H2.out.lens k)
      by_cases he : D1.lasts k = D2.lasts k
      · have HQ := Lib.hid (show (!(D1.lasts k == D2.lasts k)) = false by simp [he])
        have HNX := Lib.hid (show ∀ j, j < k + 1 → D1.lasts j = D2.lasts j from fun j hj => by
          rcases Nat.lt_or_ge j k with h | h
          · exact HJ.out j h
          · rw [show j = k by omega, he])
        clear he hb
        go_wp2_with fail
        refine wp_region_only (S := fun w' => w'.cell? ⟨p1, 1, none⟩ = some (.map (some pl1.m)) ∧ w'.cell? ⟨p2, 1, none⟩ = some (.map (some pl2.m)) ∧ (Instr.lookup 81 (.map (some pl1.m)) (.int .i64 (k : Int)) false).run Try.prog w' = .ok (sec (D1.lasts k)) w' ∧ (Instr.lookup 81 (.map (some pl2.m)) (.int .i64 (k : Int)) false).run Try.prog w' = .ok (sec (D2.lasts k)) w') (by kernel_rfl) ⟨T1.out.c1, T2.out.c1, T1.out.map.look k, T2.out.map.look k⟩ (fun hHeld => ?_)
        refine wpAnyH_take (i := 0) (v := ?v13) rfl (by kernel_rfl) (by kernel_rfl) (by kernel_rfl) (fun _ _ _ h => h) (Or.inl ⟨by rfl, ?hy13⟩) hHeld ?rest13
        case hy13 =>
          intro w' hSw
          try dsimp only at hSw
          go_simp
          first | done | with_reducible rfl
        try simp only [Act.put, List.getElem_toArray, List.getElem_cons_zero, List.setIfInBounds_toArray, List.set_cons_zero, List.set_cons_succ]
        refine wpAnyH_take (i := 1) (v := ?v14) rfl (by kernel_rfl) (by kernel_rfl) (by kernel_rfl) (fun _ _ _ h => h) (Or.inl ⟨by rfl, ?hy14⟩) hHeld ?rest14
        case hy14 =>
          intro w' hSw
          try dsimp only at hSw
          go_simp
          first | done | with_reducible rfl
        try simp only [Act.put, List.getElem_toArray, List.getElem_cons_succ, List.getElem_cons_zero, List.setIfInBounds_toArray, List.set_cons_zero, List.set_cons_succ]
        refine wpAnyH_take (i := 2) (v := ?v15) rfl (by kernel_rfl) (by kernel_rfl) (by kernel_rfl) (fun _ _ _ h => h) (Or.inl ⟨by rfl, ?hy15⟩) hHeld ?rest15
        case hy15 =>
          intro w' hSw
          try dsimp only at hSw
          go_simp
          first | done | with_reducible rfl
        try simp only [Act.put, List.getElem_toArray, List.getElem_cons_succ, List.getElem_cons_zero, List.setIfInBounds_toArray, List.set_cons_zero, List.set_cons_succ]
        refine wpAnyH_take (i := 3) (v := ?v16) rfl (by kernel_rfl) (by kernel_rfl) (by kernel_rfl) (fun _ _ _ h => h) (Or.inl ⟨by rfl, ?hy16⟩) hHeld ?rest16
        case hy16 =>
          intro w' hSw
          try dsimp only at hSw
          go_simp
          first | done | with_reducible rfl
        try simp only [Act.put, List.getElem_toArray, List.getElem_cons_succ, List.getElem_cons_zero, List.setIfInBounds_toArray, List.set_cons_zero, List.set_cons_succ]
        refine wpAnyH_take (i := 4) (v := ?v17) rfl (by kernel_rfl) (by kernel_rfl) (by kernel_rfl) (fun _ _ _ h => h) (Or.inl ⟨by rfl, ?hy17⟩) hHeld ?rest17
        case hy17 =>
          intro w' hSw
          try dsimp only at hSw
          go_simp
          first | done | with_reducible rfl
        try simp only [Act.put, List.getElem_toArray, List.getElem_cons_succ, List.getElem_cons_zero, List.setIfInBounds_toArray, List.set_cons_zero, List.set_cons_succ]
        refine wpAnyH_take (i := 5) (v := ?v18) rfl (by kernel_rfl) (by kernel_rfl) (by kernel_rfl) (fun _ _ _ h => h) (Or.inl ⟨by rfl, ?hy18⟩) hHeld ?rest18
        case hy18 =>
          intro w' hSw
          try dsimp only at hSw
          go_simp
          first | done | with_reducible rfl
        try simp only [Act.put, List.getElem_toArray, List.getElem_cons_succ, List.getElem_cons_zero, List.setIfInBounds_toArray, List.set_cons_zero, List.set_cons_succ]
        refine wpAnyH_take (i := 6) (v := ?v19) rfl (by kernel_rfl) (by kernel_rfl) (by kernel_rfl) (fun _ _ _ h => h) (Or.inl ⟨by rfl, ?hy19⟩) hHeld ?rest19
        case hy19 =>
          intro w' hSw
          try dsimp only at hSw
          go_simp
          first | done | with_reducible rfl
        try simp only [Act.put, List.getElem_toArray, List.getElem_cons_succ, List.getElem_cons_zero, List.setIfInBounds_toArray, List.set_cons_zero, List.set_cons_succ]
        refine wpAnyH_take (i := 7) (v := ?v20) rfl (by kernel_rfl) (by kernel_rfl) (by kernel_rfl) (fun _ _ _ h => h) (Or.inl ⟨by rfl, ?hy20⟩) hHeld ?rest20
        case hy20 =>
          intro w' hSw
          try dsimp only at hSw
          go_simp
          first | done | with_reducible rfl
        try simp only [Act.put, List.getElem_toArray, List.getElem_cons_succ, List.getElem_cons_zero, List.setIfInBounds_toArray, List.set_cons_zero, List.set_cons_succ]
        refine wpAnyH_take (i := 8) (v := ?v21) rfl (by kernel_rfl) (by kernel_rfl) (by kernel_rfl) (fun _ _ _ h => h) (Or.inl ⟨by rfl, ?hy21⟩) hHeld ?rest21
        case hy21 =>
          intro w' hSw
          try dsimp only at hSw
          go_simp
          first | done | with_reducible rfl
        try simp only [Act.put, List.getElem_toArray, List.getElem_cons_succ, List.getElem_cons_zero, List.setIfInBounds_toArray, List.set_cons_zero, List.set_cons_succ]
        refine wpAnyH_take (i := 9) (v := ?v22) rfl (by kernel_rfl) (by kernel_rfl) (by kernel_rfl) (fun _ _ _ h => h) (Or.inl ⟨by rfl, ?hy22⟩) hHeld ?rest22
        case hy22 =>
          intro w' hSw
          try dsimp only at hSw
          go_simp
          first | done | with_reducible rfl
        try simp only [Act.put, List.getElem_toArray, List.getElem_cons_succ, List.getElem_cons_zero, List.setIfInBounds_toArray, List.set_cons_zero, List.set_cons_succ]
        refine wpAnyH_take (i := 10) (v := ?v23) rfl (by kernel_rfl) (by kernel_rfl) (by kernel_rfl) (fun _ _ _ h => h) (Or.inl ⟨by rfl, ?hy23⟩) hHeld ?rest23
        case hy23 =>
          intro w' hSw
          try dsimp only at hSw
          go_simp
          first | done | with_reducible rfl
        try simp only [Act.put, List.getElem_toArray, List.getElem_cons_succ, List.getElem_cons_zero, List.setIfInBounds_toArray, List.set_cons_zero, List.set_cons_succ]
        refine wpAnyH_take (i := 11) (v := ?v24) rfl (by kernel_rfl) (by kernel_rfl) (by kernel_rfl) (fun _ _ _ h => h) (Or.inl ⟨by rfl, ?hy24⟩) hHeld ?rest24
        case hy24 =>
          intro w' hSw
          try dsimp only at hSw
          go_simp
          first | done | with_reducible rfl
        try simp only [Act.put, List.getElem_toArray, List.getElem_cons_succ, List.getElem_cons_zero, List.setIfInBounds_toArray, List.set_cons_zero, List.set_cons_succ]
        refine wpAnyH_take (i := 12) rfl (by kernel_rfl) (by kernel_rfl) (by kernel_rfl) (fun _ _ _ h => h) (y_neq47 (by rfl) rfl (D1.lasts k) (D2.lasts k) HX.out HY.out (by rfl) (by rfl) HQ.out) hHeld ?_
        try simp only [Act.put, List.getElem_toArray, List.getElem_cons_succ, List.getElem_cons_zero, List.setIfInBounds_toArray, List.set_cons_zero, List.set_cons_succ]
        refine wpAnyH_done (by kernel_rfl) ?_ _
        refine OnlyN.normal ?_
        clear hHeld
        go_wp2
        go_roundw
        case rel => exact ⟨k + 1, by omega, by go_num, LB.out, HNX.out⟩
        case measure => simp [intOf]; omega
      · have HQ := Lib.hid (show (!(D1.lasts k == D2.lasts k)) = true by simp [he])
        have HNE := Lib.hid (show ¬ sameL D1 D2 from fun h => he (h k (by rw [← HE.out]; exact hlt)))
        clear he hb
        go_wp2_with fail
        refine wp_region_only (S := fun w' => w'.cell? ⟨p1, 1, none⟩ = some (.map (some pl1.m)) ∧ w'.cell? ⟨p2, 1, none⟩ = some (.map (some pl2.m)) ∧ (Instr.lookup 81 (.map (some pl1.m)) (.int .i64 (k : Int)) false).run Try.prog w' = .ok (sec (D1.lasts k)) w' ∧ (Instr.lookup 81 (.map (some pl2.m)) (.int .i64 (k : Int)) false).run Try.prog w' = .ok (sec (D2.lasts k)) w') (by kernel_rfl) ⟨T1.out.c1, T2.out.c1, T1.out.map.look k, T2.out.map.look k⟩ (fun hHeld => ?_)
        refine wpAnyH_take (i := 0) (v := ?v25) rfl (by kernel_rfl) (by kernel_rfl) (by kernel_rfl) (fun _ _ _ h => h) (Or.inl ⟨by rfl, ?hy25⟩) hHeld ?rest25
        case hy25 =>
          intro w' hSw
          try dsimp only at hSw
          go_simp
          first | done | with_reducible rfl
        try simp only [Act.put, List.getElem_toArray, List.getElem_cons_zero, List.setIfInBounds_toArray, List.set_cons_zero, List.set_cons_succ]
        refine wpAnyH_take (i := 1) (v := ?v26) rfl (by kernel_rfl) (by kernel_rfl) (by kernel_rfl) (fun _ _ _ h => h) (Or.inl ⟨by rfl, ?hy26⟩) hHeld ?rest26
        case hy26 =>
          intro w' hSw
          try dsimp only at hSw
          go_simp
          first | done | with_reducible rfl
        try simp only [Act.put, List.getElem_toArray, List.getElem_cons_succ, List.getElem_cons_zero, List.setIfInBounds_toArray, List.set_cons_zero, List.set_cons_succ]
        refine wpAnyH_take (i := 2) (v := ?v27) rfl (by kernel_rfl) (by kernel_rfl) (by kernel_rfl) (fun _ _ _ h => h) (Or.inl ⟨by rfl, ?hy27⟩) hHeld ?rest27
        case hy27 =>
          intro w' hSw
          try dsimp only at hSw
          go_simp
          first | done | with_reducible rfl
        try simp only [Act.put, List.getElem_toArray, List.getElem_cons_succ, List.getElem_cons_zero, List.setIfInBounds_toArray, List.set_cons_zero, List.set_cons_succ]
        refine wpAnyH_take (i := 3) (v := ?v28) rfl (by kernel_rfl) (by kernel_rfl) (by kernel_rfl) (fun _ _ _ h => h) (Or.inl ⟨by rfl, ?hy28⟩) hHeld ?rest28
        case hy28 =>
          intro w' hSw
          try dsimp only at hSw
          go_simp
          first | done | with_reducible rfl
        try simp only [Act.put, List.getElem_toArray, List.getElem_cons_succ, List.getElem_cons_zero, List.setIfInBounds_toArray, List.set_cons_zero, List.set_cons_succ]
        refine wpAnyH_take (i := 4) (v := ?v29) rfl (by kernel_rfl) (by kernel_rfl) (by kernel_rfl) (fun _ _ _ h => h) (Or.inl ⟨by rfl, ?hy29⟩) hHeld ?rest29
        case hy29 =>
          intro w' hSw
          try dsimp only at hSw
          go_simp
          first | done | with_reducible rfl
        try simp only [Act.put, List.getElem_toArray, List.getElem_cons_succ, List.getElem_cons_zero, List.setIfInBounds_toArray, List.set_cons_zero, List.set_cons_succ]
        refine wpAnyH_take (i := 5) (v := ?v30) rfl (by kernel_rfl) (by kernel_rfl) (by kernel_rfl) (fun _ _ _ h => h) (Or.inl ⟨by rfl, ?hy30⟩) hHeld ?rest30
        case hy30 =>
          intro w' hSw
          try dsimp only at hSw
          go_simp
          first | done | with_reducible rfl
        try simp only [Act.put, List.getElem_toArray, List.getElem_cons_succ, List.getElem_cons_zero, List.setIfInBounds_toArray, List.set_cons_zero, List.set_cons_succ]
        refine wpAnyH_take (i := 6) (v := ?v31) rfl (by kernel_rfl) (by kernel_rfl) (by kernel_rfl) (fun _ _ _ h => h) (Or.inl ⟨by rfl, ?hy31⟩) hHeld ?rest31
        case hy31 =>
          intro w' hSw
          try dsimp only at hSw
          go_simp
          first | done | with_reducible rfl
        try simp only [Act.put, List.getElem_toArray, List.getElem_cons_succ, List.getElem_cons_zero, List.setIfInBounds_toArray, List.set_cons_zero, List.set_cons_succ]
        refine wpAnyH_take (i := 7) (v := ?v32) rfl (by kernel_rfl) (by kernel_rfl) (by kernel_rfl) (fun _ _ _ h => h) (Or.inl ⟨by rfl, ?hy32⟩) hHeld ?rest32
        case hy32 =>
          intro w' hSw
          try dsimp only at hSw
          go_simp
          first | done | with_reducible rfl
        try simp only [Act.put, List.getElem_toArray, List.getElem_cons_succ, List.getElem_cons_zero, List.setIfInBounds_toArray, List.set_cons_zero, List.set_cons_succ]
        refine wpAnyH_take (i := 8) (v := ?v33) rfl (by kernel_rfl) (by kernel_rfl) (by kernel_rfl) (fun _ _ _ h => h) (Or.inl ⟨by rfl, ?hy33⟩) hHeld ?rest33
        case hy33 =>
          intro w' hSw
          try dsimp only at hSw
          go_simp
          first | done | with_reducible rfl
        try simp only [Act.put, List.getElem_toArray, List.getElem_cons_succ, List.getElem_cons_zero, List.setIfInBounds_toArray, List.set_cons_zero, List.set_cons_succ]
        refine wpAnyH_take (i := 9) (v := ?v34) rfl (by kernel_rfl) (by kernel_rfl) (by kernel_rfl) (fun _ _ _ h => h) (Or.inl ⟨by rfl, ?hy34⟩) hHeld ?rest34
        case hy34 =>
          intro w' hSw
          try dsimp only at hSw
          go_simp
          first | done | with_reducible rfl
        try simp only [Act.put, List.getElem_toArray, List.getElem_cons_succ, List.getElem_cons_zero, List.setIfInBounds_toArray, List.set_cons_zero, List.set_cons_succ]
        refine wpAnyH_take (i := 10) (v := ?v35) rfl (by kernel_rfl) (by kernel_rfl) (by kernel_rfl) (fun _ _ _ h => h) (Or.inl ⟨by rfl, ?hy35⟩) hHeld ?rest35
        case hy35 =>
          intro w' hSw
          try dsimp only at hSw
          go_simp
          first | done | with_reducible rfl
        try simp only [Act.put, List.getElem_toArray, List.getElem_cons_succ, List.getElem_cons_zero, List.setIfInBounds_toArray, List.set_cons_zero, List.set_cons_succ]
        refine wpAnyH_take (i := 11) (v := ?v36) rfl (by kernel_rfl) (by kernel_rfl) (by kernel_rfl) (fun _ _ _ h => h) (Or.inl ⟨by rfl, ?hy36⟩) hHeld ?rest36
        case hy36 =>
          intro w' hSw
          try dsimp only at hSw
          go_simp
          first | done | with_reducible rfl
        try simp only [Act.put, List.getElem_toArray, List.getElem_cons_succ, List.getElem_cons_zero, List.setIfInBounds_toArray, List.set_cons_zero, List.set_cons_succ]
        refine wpAnyH_take (i := 12) rfl (by kernel_rfl) (by kernel_rfl) (by kernel_rfl) (fun _ _ _ h => h) (y_neq47 (by rfl) rfl (D1.lasts k) (D2.lasts k) HX.out HY.out (by rfl) (by rfl) HQ.out) hHeld ?_
        try simp only [Act.put, List.getElem_toArray, List.getElem_cons_succ, List.getElem_cons_zero, List.setIfInBounds_toArray, List.set_cons_zero, List.set_cons_succ]
        refine wpAnyH_done (by kernel_rfl) ?_ _
        refine OnlyN.normal ?_
        clear hHeld
        go_wp2
        go_ret
        exact ⟨.inr ⟨rfl, HNE.out⟩, LB.out⟩
    · obtain rfl : k = n := by omega
      have i2 : ¬ ((k : Nat) : Int) < (k : Int) := by omega
      go_wp2
      go_ret
      exact ⟨.inl ⟨rfl, fun j hj => HJ.out j (by rw [HE.out]; exact hj)⟩, hb⟩
end Go.Proofs.Ytgjamgojjajcnaa
namespace Go.Proofs.Ytgjamgojjajcnaa
open Go.RowKit
attribute [local go_sem] Oper.semAt_some
/-- a bool is told, whether this is so -/
def Tells (e : Ending) (P : Prop) : Prop := ∃ u : Bool, e = .returned (.bool u) ∧ (u = true ↔ P)
set_option maxRecDepth 8000 in
theorem eqw_all (w : World) (A1 A2 : Option Addr) (c1 c2 n1 n2 : Nat) (l1 l2 : List (Nat × List UInt8)) (e1 : l1.length = n1) (e2 : l2.length = n2) (hn : n1 ≤ 1000000) (h1 : RdW w A1 l1) (h2 : RdW w A2 l2) (m1 : ∀ x ∈ l1, x.2.length = 512) (m2 : ∀ x ∈ l2, x.2.length = 512) :
    Calls Try.prog 52 #[.slice A1 n1 c1, .slice A2 n2 c2] w fun e w' => Tells e (l1 = l2) ∧ Below w.heap.size w w' := by
  by_cases h : n1 = n2
  · subst h
    refine (eqw_any w A1 A2 n1 c1 c2 l1 l2 e1 e2 hn h1 h2 m1 m2).mono ?_
    rintro e w' ⟨rfl, hb⟩
    exact ⟨⟨_, rfl, decide_eq_true_iff⟩, hb⟩
  · refine (eqw_len w A1 A2 n1 n2 c1 c2 h).mono ?_
    rintro e w' ⟨rfl, hb⟩
    exact ⟨⟨_, rfl, fun h => (nomatch h), fun e => absurd (by rw [← e1, ← e2, e]) h⟩, hb⟩
set_option maxRecDepth 8000 in
theorem dsame_nn (w : World) : Calls Try.prog 18 #[.pointer none, .pointer none] w fun e w' => e = .returned (.bool true) ∧ w = w' := by
  go_enter Try.func18, Try.ntmps18
  go_wp2_with (go_at_call 47; refine (there_nil _).mono ?_; rintro e w' ⟨rfl, rfl⟩)
  go_ret
  exact ⟨rfl, rfl⟩
set_option maxRecDepth 8000 in
set_option maxHeartbeats 1000000 in
theorem dsame_ns {w : World} {B p : Nat} {pl : Pl} {D : Dk} (h : DiskAt w B p pl D) : Calls Try.prog 18 #[.pointer none, .pointer (some ⟨p, 0, none⟩)] w fun e w' => e = .returned (.bool false) ∧ w = w' := by
  have H := Lib.hid h
  clear h
  go_enter Try.func18, Try.ntmps18
  go_wp2_with fail
  refine (there_nil _).mono ?_
  rintro e w' ⟨rfl, rfl⟩
  go_wp2_with fail
  refine (there_nil _).mono ?_
  rintro e w' ⟨rfl, rfl⟩
  go_wp2_with fail
  refine (there_at H.out).mono ?_
  rintro e w' ⟨rfl, rfl⟩
  go_wp2
  go_ret
  exact ⟨rfl, rfl⟩
set_option maxRecDepth 8000 in
set_option maxHeartbeats 1000000 in
theorem dsame_sn {w : World} {B p : Nat} {pl : Pl} {D : Dk} (h : DiskAt w B p pl D) : Calls Try.prog 18 #[.pointer (some ⟨p, 0, none⟩), .pointer none] w fun e w' => e = .returned (.bool false) ∧ w = w' := by
  have H := Lib.hid h
  clear h
  go_enter Try.func18, Try.ntmps18
  go_wp2_with fail
  refine (there_at H.out).mono ?_
  rintro e w' ⟨rfl, rfl⟩
  go_wp2_with fail
  refine (there_nil _).mono ?_
  rintro e w' ⟨rfl, rfl⟩
  go_wp2_with fail
  refine (there_at H.out).mono ?_
  rintro e w' ⟨rfl, rfl⟩
  go_wp2_with fail
  refine (there_nil _).mono ?_
  rintro e w' ⟨rfl, rfl⟩
  go_wp2
  go_ret
  exact ⟨rfl, rfl⟩
/-- the same lasting bytes, the same that waits -/
def sameD (D1 D2 : Dk) : Prop := sameL D1 D2 ∧ D1.waits = D2.waits
set_option maxRecDepth 100000 in
set_option maxHeartbeats 4000000 in
theorem dsame_at {w : World} {B1 B2 p1 p2 : Nat} {pl1 pl2 : Pl} {D1 D2 : Dk} (h1 : DiskAt w B1 p1 pl1 D1) (h2 : DiskAt w B2 p2 pl2 D2) (hs : D2.size = D1.size) (hn : D1.waits.length ≤ 1000000) :
    Calls Try.prog 18 #[.pointer (some ⟨p1, 0, none⟩), .pointer (some ⟨p2, 0, none⟩)] w fun e w' => Tells e (sameD D1 D2) ∧ Below w.heap.size w w' := by
  have H1 := Lib.hid h1
  have H2 := Lib.hid h2
  have HS := Lib.hid hs
  have HN := Lib.hid hn
  obtain ⟨A1, k1, hv1⟩ := own_shape h1.row
  obtain ⟨A2, k2, hv2⟩ := own_shape h2.row
  have V1 := Lib.hid hv1
  have V2 := Lib.hid hv2
  have W1 := Lib.hid (fun x hx => (h1.wlens x hx).1)
  have W2 := Lib.hid (fun x hx => (h2.wlens x hx).1)
  clear h1 h2 hs hn hv1 hv2
  go_enter Try.func18, Try.ntmps18
  go_wp2_with fail
  refine (there_at H1.out).mono ?_
  rintro e w' ⟨rfl, rfl⟩
  go_wp2_with fail
  refine (there_at H2.out).mono ?_
  rintro e w' ⟨rfl, rfl⟩
  go_wp2_with fail
  have T1 := Lib.hid H1.out.drew
  have T2 := Lib.hid H2.out.drew
  refine wp_region_only (S := fun w' => w'.cell? ⟨p1, 0, none⟩ = some (.int .i64 (D1.size : Int)) ∧ w'.cell? ⟨p2, 0, none⟩ = some (.int .i64 (D1.size : Int)) ∧ w'.cell? ⟨p1, 2, none⟩ = some (.slice A1 D1.waits.length k1) ∧ w'.cell? ⟨p2, 2, none⟩ = some (.slice A2 D2.waits.length k2)) (by kernel_rfl) ⟨T1.out.c0, HS.out ▸ T2.out.c0, V1.out ▸ T1.out.c2, V2.out ▸ T2.out.c2⟩ (fun hHeld => ?_)
  refine wpAnyH_take (i := 0) (v := ?v1) rfl (by kernel_rfl) (by kernel_rfl) (by kernel_rfl) (fun _ _ _ h => h) (Or.inl ⟨by rfl, ?hy1⟩) hHeld ?rest1
  case hy1 =>
    intro w' hSw
    try dsimp only at hSw
    go_simp
    first | done | with_reducible rfl
  try simp only [Act.put, List.getElem_toArray, List.getElem_cons_zero, List.setIfInBounds_toArray, List.set_cons_zero, List.set_cons_succ]
  refine wpAnyH_take (i := 1) (v := ?v2) rfl (by kernel_rfl) (by kernel_rfl) (by kernel_rfl) (fun _ _ _ h => h) (Or.inl ⟨by rfl, ?hy2⟩) hHeld ?rest2
  case hy2 =>
    intro w' hSw
    try dsimp only at hSw
    go_simp
    first | done | with_reducible rfl
  try simp only [Act.put, List.getElem_toArray, List.getElem_cons_succ, List.getElem_cons_zero, List.setIfInBounds_toArray, List.set_cons_zero, List.set_cons_succ]
  refine wpAnyH_take (i := 2) (v := ?v3) rfl (by kernel_rfl) (by kernel_rfl) (by kernel_rfl) (fun _ _ _ h => h) (Or.inl ⟨by rfl, ?hy3⟩) hHeld ?rest3
  case hy3 =>
    intro w' hSw
    try dsimp only at hSw
    go_simp
    first | done | with_reducible rfl
  try simp only [Act.put, List.getElem_toArray, List.getElem_cons_succ, List.getElem_cons_zero, List.setIfInBounds_toArray, List.set_cons_zero, List.set_cons_succ]
  refine wpAnyH_take (i := 3) (v := ?v4) rfl (by kernel_rfl) (by kernel_rfl) (by kernel_rfl) (fun _ _ _ h => h) (Or.inl ⟨by rfl, ?hy4⟩) hHeld ?rest4
  case hy4 =>
    intro w' hSw
    try dsimp only at hSw
    go_simp
    first | done | with_reducible rfl
  try simp only [Act.put, List.getElem_toArray, List.getElem_cons_succ, List.getElem_cons_zero, List.setIfInBounds_toArray, List.set_cons_zero, List.set_cons_succ]
  refine wpAnyH_take (i := 4) (v := ?v5) rfl (by kernel_rfl) (by kernel_rfl) (by kernel_rfl) (fun _ _ _ h => h) (Or.inl ⟨by rfl, ?hy5⟩) hHeld ?rest5
  case hy5 =>
    intro w' hSw
    try dsimp only at hSw
    go_simp
    first | done | with_reducible rfl
  try simp only [Act.put, List.getElem_toArray, List.getElem_cons_succ, List.getElem_cons_zero, List.setIfInBounds_toArray, List.set_cons_zero, List.set_cons_succ]
  refine wpAnyH_take (i := 5) (v := ?v6) rfl (by kernel_rfl) (by kernel_rfl) (by kernel_rfl) (fun _ _ _ h => h) (Or.inl ⟨by rfl, ?hy6⟩) hHeld ?rest6
  case hy6 =>
    intro w' hSw
    try dsimp only at hSw
    go_simp
    first | done | with_reducible rfl
  try simp only [Act.put, List.getElem_toArray, List.getElem_cons_succ, List.getElem_cons_zero, List.setIfInBounds_toArray, List.set_cons_zero, List.set_cons_succ]
  refine wpAnyH_take (i := 6) (v := ?v7) rfl (by kernel_rfl) (by kernel_rfl) (by kernel_rfl) (fun _ _ _ h => h) (Or.inl ⟨by rfl, ?hy7⟩) hHeld ?rest7
  case hy7 =>
    intro w' hSw
    try dsimp only at hSw
    go_simp
    first | done | with_reducible rfl
  try simp only [Act.put, List.getElem_toArray, List.getElem_cons_succ, List.getElem_cons_zero, List.setIfInBounds_toArray, List.set_cons_zero, List.set_cons_succ]
  refine wpAnyH_take (i := 7) (v := ?v8) rfl (by kernel_rfl) (by kernel_rfl) (by kernel_rfl) (fun _ _ _ h => h) (Or.inl ⟨by rfl, ?hy8⟩) hHeld ?rest8
  case hy8 =>
    intro w' hSw
    try dsimp only at hSw
    go_simp
    first | done | with_reducible rfl
  try simp only [Act.put, List.getElem_toArray, List.getElem_cons_succ, List.getElem_cons_zero, List.setIfInBounds_toArray, List.set_cons_zero, List.set_cons_succ]
  refine wpAnyH_take (i := 8) (v := ?v9) rfl (by kernel_rfl) (by kernel_rfl) (by kernel_rfl) (fun _ _ _ h => h) (Or.inl ⟨by rfl, ?hy9⟩) hHeld ?rest9
  case hy9 =>
    intro w' hSw
    try dsimp only at hSw
    go_simp
    first | done | with_reducible rfl
  try simp only [Act.put, List.getElem_toArray, List.getElem_cons_succ, List.getElem_cons_zero, List.setIfInBounds_toArray, List.set_cons_zero, List.set_cons_succ]
  refine wpAnyH_take (i := 9) (v := ?v10) rfl (by kernel_rfl) (by kernel_rfl) (by kernel_rfl) (fun _ _ _ h => h) (Or.inl ⟨by rfl, ?hy10⟩) hHeld ?rest10
  case hy10 =>
    intro w' hSw
    try dsimp only at hSw
    go_simp
    first | done | with_reducible rfl
  try simp only [Act.put, List.getElem_toArray, List.getElem_cons_succ, List.getElem_cons_zero, List.setIfInBounds_toArray, List.set_cons_zero, List.set_cons_succ]
  refine wpAnyH_take (i := 10) (v := ?v11) rfl (by kernel_rfl) (by kernel_rfl) (by kernel_rfl) (fun _ _ _ h => h) (Or.inl ⟨by rfl, ?hy11⟩) hHeld ?rest11
  case hy11 =>
    intro w' hSw
    try dsimp only at hSw
    go_simp
    first | done | with_reducible rfl
  try simp only [Act.put, List.getElem_toArray, List.getElem_cons_succ, List.getElem_cons_zero, List.setIfInBounds_toArray, List.set_cons_zero, List.set_cons_succ]
  refine wpAnyH_take (i := 11) (v := ?v12) rfl (by kernel_rfl) (by kernel_rfl) (by kernel_rfl) (fun _ _ _ h => h) (Or.inl ⟨by rfl, ?hy12⟩) hHeld ?rest12
  case hy12 =>
    intro w' hSw
    try dsimp only at hSw
    go_simp
    first | done | with_reducible rfl
  try simp only [Act.put, List.getElem_toArray, List.getElem_cons_succ, List.getElem_cons_zero, List.setIfInBounds_toArray, List.set_cons_zero, List.set_cons_succ]
  refine wpAnyH_ready (rs := [12]) (by kernel_rfl) (by simp) ?_
  refine AllReadyH.cons (by rfl) (fun K hK => ?_) AllReadyH.nil
  go_simp
  refine (samel_any T1.out T2.out).mono ?_
  rintro e m1 ⟨hd, hb⟩
  obtain ⟨u, rfl, HU⟩ : ∃ u : Bool, e = .returned (.bool u) ∧ ((u = true ∧ sameL D1 D2) ∨ (u = false ∧ ¬ sameL D1 D2)) := by
    rcases hd with ⟨rfl, h⟩ | ⟨rfl, h⟩
    · exact ⟨true, rfl, .inl ⟨rfl, h⟩⟩
    · exact ⟨false, rfl, .inr ⟨rfl, h⟩⟩
  have T3 := Lib.hid (T1.out.below hb)
  have T4 := Lib.hid (T2.out.below hb)
  have LB := Lib.hid ((Below.drew (Below.refl w.heap.size w)).trans (hb.mono (Nat.le_refl _)))
  have HUU := Lib.hid HU
  clear hd hb hHeld HU
  refine hK.out _ _ ⟨T3.out.c0, HS.out ▸ T4.out.c0, V1.out ▸ T3.out.c2, V2.out ▸ T4.out.c2⟩ (fun hHeld => ?_)
  clear hK K
  try simp only [Act.put, List.getElem_toArray, List.getElem_cons_succ, List.getElem_cons_zero, List.setIfInBounds_toArray, List.set_cons_zero, List.set_cons_succ]
  have R1 := Lib.hid (rdW_row W1.out (V1.out ▸ T3.out.row))
  have R2 := Lib.hid (rdW_row W2.out (V2.out ▸ T4.out.row))
  rcases HUU.out with ⟨rfl, hl⟩ | ⟨rfl, hl⟩
  · have HL := Lib.hid hl
    clear hl
    refine wpAnyH_take (i := 13) (v := ?v13) rfl (by kernel_rfl) (by kernel_rfl) (by kernel_rfl) (fun _ _ _ h => h) (Or.inl ⟨by rfl, ?hy13⟩) hHeld ?rest13
    case hy13 =>
      intro w' hSw
      try dsimp only at hSw
      go_simp
      first | done | with_reducible rfl
    try simp only [Act.put, List.getElem_toArray, List.getElem_cons_succ, List.getElem_cons_zero, List.setIfInBounds_toArray, List.set_cons_zero, List.set_cons_succ]
    refine wpAnyH_take (i := 14) (v := ?v14) rfl (by kernel_rfl) (by kernel_rfl) (by kernel_rfl) (fun _ _ _ h => h) (Or.inl ⟨by rfl, ?hy14⟩) hHeld ?rest14
    case hy14 =>
      intro w' hSw
      try dsimp only at hSw
      go_simp
      first | done | with_reducible rfl
    try simp only [Act.put, List.getElem_toArray, List.getElem_cons_succ, List.getElem_cons_zero, List.setIfInBounds_toArray, List.set_cons_zero, List.set_cons_succ]
    refine wpAnyH_take (i := 15) (v := ?v15) rfl (by kernel_rfl) (by kernel_rfl) (by kernel_rfl) (fun _ _ _ h => h) (Or.inl ⟨by rfl, ?hy15⟩) hHeld ?rest15
    case hy15 =>
      intro w' hSw
      try dsimp only at hSw
      go_simp
      first | done | with_reducible rfl
    try simp only [Act.put, List.getElem_toArray, List.getElem_cons_succ, List.getElem_cons_zero, List.setIfInBounds_toArray, List.set_cons_zero, List.set_cons_succ]
    refine wpAnyH_take (i := 16) (v := ?v16) rfl (by kernel_rfl) (by kernel_rfl) (by kernel_rfl) (fun _ _ _ h => h) (Or.inl ⟨by rfl, ?hy16⟩) hHeld ?rest16
    case hy16 =>
      intro w' hSw
      try dsimp only at hSw
      go_simp
      first | done | with_reducible rfl
    try simp only [Act.put, List.getElem_toArray, List.getElem_cons_succ, List.getElem_cons_zero, List.setIfInBounds_toArray, List.set_cons_zero, List.set_cons_succ]
    refine wpAnyH_take (i := 17) (v := ?v17) rfl (by kernel_rfl) (by kernel_rfl) (by kernel_rfl) (fun _ _ _ h => h) (Or.inl ⟨by rfl, ?hy17⟩) hHeld ?rest17
    case hy17 =>
      intro w' hSw
      try dsimp only at hSw
      go_simp
      first | done | with_reducible rfl
    try simp only [Act.put, List.getElem_toArray, List.getElem_cons_succ, List.getElem_cons_zero, List.setIfInBounds_toArray, List.set_cons_zero, List.set_cons_succ]
    refine wpAnyH_take (i := 18) (v := ?v18) rfl (by kernel_rfl) (by kernel_rfl) (by kernel_rfl) (fun _ _ _ h => h) (Or.inl ⟨by rfl, ?hy18⟩) hHeld ?rest18
    case hy18 =>
      intro w' hSw
      try dsimp only at hSw
      go_simp
      first | done | with_reducible rfl
    try simp only [Act.put, List.getElem_toArray, List.getElem_cons_succ, List.getElem_cons_zero, List.setIfInBounds_toArray, List.set_cons_zero, List.set_cons_succ]
    refine wpAnyH_take (i := 19) (v := ?v19) rfl (by kernel_rfl) (by kernel_rfl) (by kernel_rfl) (fun _ _ _ h => h) (Or.inl ⟨by rfl, ?hy19⟩) hHeld ?rest19
    case hy19 =>
      intro w' hSw
      try dsimp only at hSw
      go_simp
      first | done | with_reducible rfl
    try simp only [Act.put, List.getElem_toArray, List.getElem_cons_succ, List.getElem_cons_zero, List.setIfInBounds_toArray, List.set_cons_zero, List.set_cons_succ]
    refine wpAnyH_take (i := 20) (v := ?v20) rfl (by kernel_rfl) (by kernel_rfl) (by kernel_rfl) (fun _ _ _ h => h) (Or.inl ⟨by rfl, ?hy20⟩) hHeld ?rest20
    case hy20 =>
      intro w' hSw
      try dsimp only at hSw
      go_simp
      first | done | with_reducible rfl
    try simp only [Act.put, List.getElem_toArray, List.getElem_cons_succ, List.getElem_cons_zero, List.setIfInBounds_toArray, List.set_cons_zero, List.set_cons_succ]
    refine wpAnyH_take (i := 21) (v := ?v21) rfl (by kernel_rfl) (by kernel_rfl) (by kernel_rfl) (fun _ _ _ h => h) (Or.inl ⟨by rfl, ?hy21⟩) hHeld ?rest21
    case hy21 =>
      intro w' hSw
      try dsimp only at hSw
      go_simp
      first | done | with_reducible rfl
    try simp only [Act.put, List.getElem_toArray, List.getElem_cons_succ, List.getElem_cons_zero, List.setIfInBounds_toArray, List.set_cons_zero, List.set_cons_succ]
    refine wpAnyH_take (i := 22) (v := ?v22) rfl (by kernel_rfl) (by kernel_rfl) (by kernel_rfl) (fun _ _ _ h => h) (Or.inl ⟨by rfl, ?hy22⟩) hHeld ?rest22
    case hy22 =>
      intro w' hSw
      try dsimp only at hSw
      go_simp
      first | done | with_reducible rfl
    try simp only [Act.put, List.getElem_toArray, List.getElem_cons_succ, List.getElem_cons_zero, List.setIfInBounds_toArray, List.set_cons_zero, List.set_cons_succ]
    refine wpAnyH_ready (rs := [23]) (by kernel_rfl) (by simp) ?_
    refine AllReadyH.cons (by rfl) (fun K hK => ?_) AllReadyH.nil
    go_simp
    refine (eqw_all m1 A1 A2 k1 k2 _ _ D1.waits D2.waits rfl rfl HN.out R1.out R2.out W1.out W2.out).mono ?_
    rintro e m2 ⟨⟨u, rfl, hu⟩, hb⟩
    have HUE := Lib.hid hu
    have T5 := Lib.hid (T3.out.below hb)
    have T6 := Lib.hid (T4.out.below hb)
    have LC := Lib.hid (LB.out.trans (hb.mono LB.out.size))
    clear hb hHeld hu
    refine hK.out _ _ ⟨T5.out.c0, HS.out ▸ T6.out.c0, V1.out ▸ T5.out.c2, V2.out ▸ T6.out.c2⟩ (fun hHeld => ?_)
    clear hK K
    try simp only [Act.put, List.getElem_toArray, List.getElem_cons_succ, List.getElem_cons_zero, List.setIfInBounds_toArray, List.set_cons_zero, List.set_cons_succ]
    refine wpAnyH_take (i := 24) (v := ?v23) rfl (by kernel_rfl) (by kernel_rfl) (by kernel_rfl) (fun _ _ _ h => h) (Or.inl ⟨by rfl, ?hy23⟩) hHeld ?rest23
    case hy23 =>
      intro w' hSw
      try dsimp only at hSw
      go_simp
      first | done | with_reducible rfl
    try simp only [Act.put, List.getElem_toArray, List.getElem_cons_succ, List.getElem_cons_zero, List.setIfInBounds_toArray, List.set_cons_zero, List.set_cons_succ]
    refine wpAnyH_take (i := 25) (v := ?v24) rfl (by kernel_rfl) (by kernel_rfl) (by kernel_rfl) (fun _ _ _ h => h) (Or.inl ⟨by rfl, ?hy24⟩) hHeld ?rest24
    case hy24 =>
      intro w' hSw
      try dsimp only at hSw
      go_simp
      first | done | with_reducible rfl
    try simp only [Act.put, List.getElem_toArray, List.getElem_cons_succ, List.getElem_cons_zero, List.setIfInBounds_toArray, List.set_cons_zero, List.set_cons_succ]
    refine wpAnyH_done (by kernel_rfl) ?_ _
    refine OnlyN.normal ?_
    clear hHeld
    go_wp2
    go_ret
    exact ⟨⟨_, rfl, fun h => ⟨HL.out, HUE.out.1 h⟩, fun h => HUE.out.2 h.2⟩, LC.out⟩
  · have HL := Lib.hid hl
    clear hl
    refine wpAnyH_take (i := 13) (v := ?v25) rfl (by kernel_rfl) (by kernel_rfl) (by kernel_rfl) (fun _ _ _ h => h) (Or.inl ⟨by rfl, ?hy25⟩) hHeld ?rest25
    case hy25 =>
      intro w' hSw
      try dsimp only at hSw
      go_simp
      first | done | with_reducible rfl
    try simp only [Act.put, List.getElem_toArray, List.getElem_cons_succ, List.getElem_cons_zero, List.setIfInBounds_toArray, List.set_cons_zero, List.set_cons_succ]
    refine wpAnyH_take (i := 14) (v := ?v26) rfl (by kernel_rfl) (by kernel_rfl) (by kernel_rfl) (fun _ _ _ h => h) (Or.inl ⟨by rfl, ?hy26⟩) hHeld ?rest26
    case hy26 =>
      intro w' hSw
      try dsimp only at hSw
      go_simp
      first | done | with_reducible rfl
    try simp only [Act.put, List.getElem_toArray, List.getElem_cons_succ, List.getElem_cons_zero, List.setIfInBounds_toArray, List.set_cons_zero, List.set_cons_succ]
    refine wpAnyH_take (i := 15) (v := undef) rfl (by kernel_rfl) (by kernel_rfl) (by kernel_rfl) (fun _ _ _ h => h) (Or.inr ⟨by rfl, rfl⟩) hHeld ?_
    try simp only [Act.put, List.getElem_toArray, List.getElem_cons_succ, List.getElem_cons_zero, List.setIfInBounds_toArray, List.set_cons_zero, List.set_cons_succ]
    refine wpAnyH_take (i := 16) (v := undef) rfl (by kernel_rfl) (by kernel_rfl) (by kernel_rfl) (fun _ _ _ h => h) (Or.inr ⟨by rfl, rfl⟩) hHeld ?_
    try simp only [Act.put, List.getElem_toArray, List.getElem_cons_succ, List.getElem_cons_zero, List.setIfInBounds_toArray, List.set_cons_zero, List.set_cons_succ]
    refine wpAnyH_take (i := 17) (v := undef) rfl (by kernel_rfl) (by kernel_rfl) (by kernel_rfl) (fun _ _ _ h => h) (Or.inr ⟨by rfl, rfl⟩) hHeld ?_
    try simp only [Act.put, List.getElem_toArray, List.getElem_cons_succ, List.getElem_cons_zero, List.setIfInBounds_toArray, List.set_cons_zero, List.set_cons_succ]
    refine wpAnyH_take (i := 18) (v := undef) rfl (by kernel_rfl) (by kernel_rfl) (by kernel_rfl) (fun _ _ _ h => h) (Or.inr ⟨by rfl, rfl⟩) hHeld ?_
    try simp only [Act.put, List.getElem_toArray, List.getElem_cons_succ, List.getElem_cons_zero, List.setIfInBounds_toArray, List.set_cons_zero, List.set_cons_succ]
    refine wpAnyH_take (i := 19) (v := undef) rfl (by kernel_rfl) (by kernel_rfl) (by kernel_rfl) (fun _ _ _ h => h) (Or.inr ⟨by rfl, rfl⟩) hHeld ?_
    try simp only [Act.put, List.getElem_toArray, List.getElem_cons_succ, List.getElem_cons_zero, List.setIfInBounds_toArray, List.set_cons_zero, List.set_cons_succ]
    refine wpAnyH_take (i := 20) (v := undef) rfl (by kernel_rfl) (by kernel_rfl) (by kernel_rfl) (fun _ _ _ h => h) (Or.inr ⟨by rfl, rfl⟩) hHeld ?_
    try simp only [Act.put, List.getElem_toArray, List.getElem_cons_succ, List.getElem_cons_zero, List.setIfInBounds_toArray, List.set_cons_zero, List.set_cons_succ]
    refine wpAnyH_take (i := 21) (v := undef) rfl (by kernel_rfl) (by kernel_rfl) (by kernel_rfl) (fun _ _ _ h => h) (Or.inr ⟨by rfl, rfl⟩) hHeld ?_
    try simp only [Act.put, List.getElem_toArray, List.getElem_cons_succ, List.getElem_cons_zero, List.setIfInBounds_toArray, List.set_cons_zero, List.set_cons_succ]
    refine wpAnyH_take (i := 22) (v := undef) rfl (by kernel_rfl) (by kernel_rfl) (by kernel_rfl) (fun _ _ _ h => h) (Or.inr ⟨by rfl, rfl⟩) hHeld ?_
    try simp only [Act.put, List.getElem_toArray, List.getElem_cons_succ, List.getElem_cons_zero, List.setIfInBounds_toArray, List.set_cons_zero, List.set_cons_succ]
    refine wpAnyH_take (i := 23) (v := undef) rfl (by kernel_rfl) (by kernel_rfl) (by kernel_rfl) (fun _ _ _ h => h) (Or.inr ⟨by rfl, rfl⟩) hHeld ?_
    try simp only [Act.put, List.getElem_toArray, List.getElem_cons_succ, List.getElem_cons_zero, List.setIfInBounds_toArray, List.set_cons_zero, List.set_cons_succ]
    refine wpAnyH_take (i := 24) (v := ?v27) rfl (by kernel_rfl) (by kernel_rfl) (by kernel_rfl) (fun _ _ _ h => h) (Or.inl ⟨by rfl, ?hy27⟩) hHeld ?rest27
    case hy27 =>
      intro w' hSw
      try dsimp only at hSw
      go_simp
      first | done | with_reducible rfl
    try simp only [Act.put, List.getElem_toArray, List.getElem_cons_succ, List.getElem_cons_zero, List.setIfInBounds_toArray, List.set_cons_zero, List.set_cons_succ]
    refine wpAnyH_take (i := 25) (v := ?v28) rfl (by kernel_rfl) (by kernel_rfl) (by kernel_rfl) (fun _ _ _ h => h) (Or.inl ⟨by rfl, ?hy28⟩) hHeld ?rest28
    case hy28 =>
      intro w' hSw
      try dsimp only at hSw
      go_simp
      first | done | with_reducible rfl
    try simp only [Act.put, List.getElem_toArray, List.getElem_cons_succ, List.getElem_cons_zero, List.setIfInBounds_toArray, List.set_cons_zero, List.set_cons_succ]
    refine wpAnyH_done (by kernel_rfl) ?_ _
    refine OnlyN.normal ?_
    clear hHeld
    go_wp2
    go_ret
    exact ⟨⟨_, rfl, fun h => (nomatch h), fun h => absurd h.1 HL.out⟩, LB.out⟩
/-- the same, of the document's -/
def sameR (R1 R2 : Rf) : Prop := R1.lb = R2.lb ∧ R1.ws = R2.ws
set_option maxRecDepth 100000 in
set_option maxHeartbeats 4000000 in
theorem rsame_far {w : World} {r1 r2 : Rp} {R1 R2 : Rf} {z : Nat} (h1 : RefAt w r1 R1 z) (h2 : RefAt w r2 R2 z) (s1 s2 : Nat) (hh : R1.lb ≠ R2.lb ∨ (R1.lb = R2.lb ∧ R1.ws.length ≠ R2.ws.length)) :
    Calls Try.prog 19 #[r1.val s1, r2.val s2] w fun e w' => e = .returned (.bool false) ∧ Below w.heap.size w w' := by
  have hz := z43
  obtain ⟨N, hN⟩ : ∃ N, N = z * 512 := ⟨_, rfl⟩
  have n1 : r1.n1 = N := h1.n1.trans hN.symm
  have n2 : r2.n1 = N := h2.n1.trans hN.symm
  have L1 := Lib.hid (show R1.lb.length = N from h1.l1.trans hN.symm)
  have L2 := Lib.hid (show R2.lb.length = N from h2.l1.trans hN.symm)
  have B0 := Lib.hid (((Below.refl w.heap.size w).alloc (Nat.le_refl _) (.cells #[.slice r1.A1 N r1.c1, .slice r1.A2 r1.n2 r1.c2, .int .i64 (s1 : Int), .slice r1.A3 r1.n3 r1.c3] 34)).alloc (by simp) (.cells #[.slice r2.A1 N r2.c1, .slice r2.A2 r2.n2 r2.c2, .int .i64 (s2 : Int), .slice r2.A3 r2.n3 r2.c3] 34))
  have K1 := Lib.hid ((Blk.new w 34 #[.slice r1.A1 N r1.c1, .slice r1.A2 r1.n2 r1.c2, .int .i64 (s1 : Int), .slice r1.A3 r1.n3 r1.c3]).alloc (.cells #[.slice r2.A1 N r2.c1, .slice r2.A2 r2.n2 r2.c2, .int .i64 (s2 : Int), .slice r2.A3 r2.n3 r2.c3] 34))
  have K2 := Lib.hid (show Blk ((w.alloc (.cells #[.slice r1.A1 N r1.c1, .slice r1.A2 r1.n2 r1.c2, .int .i64 (s1 : Int), .slice r1.A3 r1.n3 r1.c3] 34)).alloc (.cells #[.slice r2.A1 N r2.c1, .slice r2.A2 r2.n2 r2.c2, .int .i64 (s2 : Int), .slice r2.A3 r2.n3 r2.c3] 34)) (w.heap.size + 1) 34 #[.slice r2.A1 N r2.c1, .slice r2.A2 r2.n2 r2.c2, .int .i64 (s2 : Int), .slice r2.A3 r2.n3 r2.c3] from by have := Blk.new (w.alloc (.cells #[.slice r1.A1 N r1.c1, .slice r1.A2 r1.n2 r1.c2, .int .i64 (s1 : Int), .slice r1.A3 r1.n3 r1.c3] 34)) 34 #[.slice r2.A1 N r2.c1, .slice r2.A2 r2.n2 r2.c2, .int .i64 (s2 : Int), .slice r2.A3 r2.n3 r2.c3]; simpa using this)
  have T1 := Lib.hid ((h1.alloc (.cells #[.slice r1.A1 N r1.c1, .slice r1.A2 r1.n2 r1.c2, .int .i64 (s1 : Int), .slice r1.A3 r1.n3 r1.c3] 34)).alloc (.cells #[.slice r2.A1 N r2.c1, .slice r2.A2 r2.n2 r2.c2, .int .i64 (s2 : Int), .slice r2.A3 r2.n3 r2.c3] 34))
  have T2 := Lib.hid ((h2.alloc (.cells #[.slice r1.A1 N r1.c1, .slice r1.A2 r1.n2 r1.c2, .int .i64 (s1 : Int), .slice r1.A3 r1.n3 r1.c3] 34)).alloc (.cells #[.slice r2.A1 N r2.c1, .slice r2.A2 r2.n2 r2.c2, .int .i64 (s2 : Int), .slice r2.A3 r2.n3 r2.c3] 34))
  rw [show r1.val s1 = .agg #[.slice r1.A1 N r1.c1, .slice r1.A2 r1.n2 r1.c2, .int .i64 (s1 : Int), .slice r1.A3 r1.n3 r1.c3] by show Value.agg (r1.cells s1) = _; rw [Rp.cells, n1], show r2.val s2 = .agg #[.slice r2.A1 N r2.c1, .slice r2.A2 r2.n2 r2.c2, .int .i64 (s2 : Int), .slice r2.A3 r2.n3 r2.c3] by show Value.agg (r2.cells s2) = _; rw [Rp.cells, n2]]
  have e1 := h1.n2
  have e2 := h2.n2
  clear h1 h2 hN n1 n2
  go_enter Try.func19, Try.ntmps19
  obtain ⟨a0, a1, a2, a3⟩ := cells4 K1.out
  obtain ⟨b0, b1, b2, b3⟩ := cells4 K2.out
  have t1 := str_run (c := r1.c1) L1.out T1.out.r1
  have t2 := str_run (c := r2.c1) L2.out T2.out.r1
  rcases hh with hh | ⟨hh, hw⟩
  · have hq := st_bne hh
    clear hh e1 e2
    go_wp2
    go_ret
    exact ⟨rfl, B0.out⟩
  · have hq : ((st R1.lb).toList == (st R2.lb).toList) = true := st_beq hh
    have hq2 : ((r1.n2 : Int) == (r2.n2 : Int)) = false := beq_eq_false_iff_ne.2 (fun e => hw (by omega))
    have hq3 : (r1.n2 == r2.n2) = false := beq_eq_false_iff_ne.2 (fun e => hw (by omega))
    clear hh hw e1 e2
    go_wp2
    go_ret
    exact ⟨rfl, B0.out⟩
set_option maxRecDepth 100000 in
set_option maxHeartbeats 4000000 in
theorem rsame_near {w : World} {r1 r2 : Rp} {R1 R2 : Rf} {z : Nat} (h1 : RefAt w r1 R1 z) (h2 : RefAt w r2 R2 z) (s1 s2 : Nat) (hh : R1.lb = R2.lb) (hw : R1.ws.length = R2.ws.length) :
    Calls Try.prog 19 #[r1.val s1, r2.val s2] w fun e w' => e = .returned (.bool (decide (R1.ws = R2.ws))) ∧ Below w.heap.size w w' := by
  have hz := z43
  obtain ⟨N, hN⟩ : ∃ N, N = z * 512 := ⟨_, rfl⟩
  have n1 : r1.n1 = N := h1.n1.trans hN.symm
  have n2 : r2.n1 = N := h2.n1.trans hN.symm
  have L1 := Lib.hid (show R1.lb.length = N from h1.l1.trans hN.symm)
  have L2 := Lib.hid (show R2.lb.length = N from h2.l1.trans hN.symm)
  have B0 := Lib.hid (((Below.refl w.heap.size w).alloc (Nat.le_refl _) (.cells #[.slice r1.A1 N r1.c1, .slice r1.A2 r1.n2 r1.c2, .int .i64 (s1 : Int), .slice r1.A3 r1.n3 r1.c3] 34)).alloc (by simp) (.cells #[.slice r2.A1 N r2.c1, .slice r2.A2 r2.n2 r2.c2, .int .i64 (s2 : Int), .slice r2.A3 r2.n3 r2.c3] 34))
  have K1 := Lib.hid ((Blk.new w 34 #[.slice r1.A1 N r1.c1, .slice r1.A2 r1.n2 r1.c2, .int .i64 (s1 : Int), .slice r1.A3 r1.n3 r1.c3]).alloc (.cells #[.slice r2.A1 N r2.c1, .slice r2.A2 r2.n2 r2.c2, .int .i64 (s2 : Int), .slice r2.A3 r2.n3 r2.c3] 34))
  have K2 := Lib.hid (show Blk ((w.alloc (.cells #[.slice r1.A1 N r1.c1, .slice r1.A2 r1.n2 r1.c2, .int .i64 (s1 : Int), .slice r1.A3 r1.n3 r1.c3] 34)).alloc (.cells #[.slice r2.A1 N r2.c1, .slice r2.A2 r2.n2 r2.c2, .int .i64 (s2 : Int), .slice r2.A3 r2.n3 r2.c3] 34)) (w.heap.size + 1) 34 #[.slice r2.A1 N r2.c1, .slice r2.A2 r2.n2 r2.c2, .int .i64 (s2 : Int), .slice r2.A3 r2.n3 r2.c3] from by have := Blk.new (w.alloc (.cells #[.slice r1.A1 N r1.c1, .slice r1.A2 r1.n2 r1.c2, .int .i64 (s1 : Int), .slice r1.A3 r1.n3 r1.c3] 34)) 34 #[.slice r2.A1 N r2.c1, .slice r2.A2 r2.n2 r2.c2, .int .i64 (s2 : Int), .slice r2.A3 r2.n3 r2.c3]; simpa using this)
  have T1 := Lib.hid ((h1.alloc (.cells #[.slice r1.A1 N r1.c1, .slice r1.A2 r1.n2 r1.c2, .int .i64 (s1 : Int), .slice r1.A3 r1.n3 r1.c3] 34)).alloc (.cells #[.slice r2.A1 N r2.c1, .slice r2.A2 r2.n2 r2.c2, .int .i64 (s2 : Int), .slice r2.A3 r2.n3 r2.c3] 34))
  have T2 := Lib.hid ((h2.alloc (.cells #[.slice r1.A1 N r1.c1, .slice r1.A2 r1.n2 r1.c2, .int .i64 (s1 : Int), .slice r1.A3 r1.n3 r1.c3] 34)).alloc (.cells #[.slice r2.A1 N r2.c1, .slice r2.A2 r2.n2 r2.c2, .int .i64 (s2 : Int), .slice r2.A3 r2.n3 r2.c3] 34))
  rw [show r1.val s1 = .agg #[.slice r1.A1 N r1.c1, .slice r1.A2 r1.n2 r1.c2, .int .i64 (s1 : Int), .slice r1.A3 r1.n3 r1.c3] by show Value.agg (r1.cells s1) = _; rw [Rp.cells, n1], show r2.val s2 = .agg #[.slice r2.A1 N r2.c1, .slice r2.A2 r2.n2 r2.c2, .int .i64 (s2 : Int), .slice r2.A3 r2.n3 r2.c3] by show Value.agg (r2.cells s2) = _; rw [Rp.cells, n2]]
  have E1 := Lib.hid (show R1.ws.length = r1.n2 by rw [h1.n2])
  have E2 := Lib.hid (show R2.ws.length = r1.n2 by rw [← hw, h1.n2])
  have E3 := Lib.hid (show r2.n2 = r1.n2 by rw [h2.n2, E2.out])
  have HN := Lib.hid (show r1.n2 ≤ 100000 by have := h1.m2; have := E1.out; omega)
  have M1 := Lib.hid (fun x hx => (h1.wl x hx).1)
  have M2 := Lib.hid (fun x hx => (h2.wl x hx).1)
  clear h1 h2 hN n1 n2 hw
  go_enter Try.func19, Try.ntmps19
  obtain ⟨a0, a1, a2, a3⟩ := cells4 K1.out
  obtain ⟨b0, b1, b2, b3⟩ := cells4 K2.out
  have t1 := str_run (c := r1.c1) L1.out T1.out.r1
  have t2 := str_run (c := r2.c1) L2.out T2.out.r1
  have hq : ((st R1.lb).toList == (st R2.lb).toList) = true := st_beq hh
  have hq2 : ((r1.n2 : Int) == (r2.n2 : Int)) = true := by rw [E3.out]; simp
  have hq3 : (r1.n2 == r2.n2) = true := by rw [E3.out]; simp
  clear hh
  go_wp2
  have HA1 := Lib.hid a1
  have HB1 := Lib.hid b1
  clear a0 a2 a3 b0 b2 b3 t1 t2 hq hz hq2 hq3
  generalize (w.alloc (.cells #[.slice r1.A1 N r1.c1, .slice r1.A2 r1.n2 r1.c2, .int .i64 (s1 : Int), .slice r1.A3 r1.n3 r1.c3] 34)).alloc (.cells #[.slice r2.A1 N r2.c1, .slice r2.A2 r2.n2 r2.c2, .int .i64 (s2 : Int), .slice r2.A3 r2.n3 r2.c3] 34) = W at B0 K1 K2 T1 T2 a1 b1 HA1 HB1 ⊢
  go_loopw [5] (fun i wr => ∃ k : Nat, k ≤ r1.n2 ∧ i = .int .i64 (k : Int) ∧ Below W.heap.size W wr ∧ ∀ j, j < k → R1.ws[j]? = R2.ws[j]?) (fun i _ => r1.n2 - (intOf i).toNat)
  case atStart => exact ⟨0, Nat.zero_le _, rfl, Below.refl _ _, fun j hj => absurd hj (Nat.not_lt_zero _)⟩
  case round =>
    obtain ⟨k, hk, rfl, hb, hj⟩ := hrel
    have LB := Lib.hid (hb.drew)
    have HJ := Lib.hid hj
    replace a1 := (hb.cell (cell_lt HA1.out)).trans HA1.out
    replace b1 := (hb.cell (cell_lt HB1.out)).trans HB1.out
    clear hj
    by_cases hlt : k < r1.n2
    · have i1 : (0 : Int) ≤ (k : Int) := by omega
      have i2 : (k : Int) < (r1.n2 : Int) := by omega
      have i3 : (k : Int) < (r2.n2 : Int) := by rw [E3.out]; omega
      have kb : k ≤ 100000 := by have := HN.out; omega
      obtain ⟨x, hx⟩ : ∃ x, R1.ws[k]? = some x := ⟨_, List.getElem?_eq_getElem (by rw [E1.out]; exact hlt)⟩
      obtain ⟨y, hy⟩ : ∃ y, R2.ws[k]? = some y := ⟨_, List.getElem?_eq_getElem (by rw [E2.out]; exact hlt)⟩
      have HX := Lib.hid (M1.out x (List.mem_of_getElem? hx))
      have HY := Lib.hid (M2.out y (List.mem_of_getElem? hy))
      obtain ⟨b, o, ea, hc⟩ := T1.out.r2 k x hx
      obtain ⟨b2, o2, eb, hc2⟩ := T2.out.r2 k y hy
      rw [ea] at a1 HA1
      rw [eb] at b1 HB1
      by_cases he : x = y
      · have HQ := Lib.hid (show (!decide (x = y)) = false by simp [he])
        have HNX := Lib.hid (show ∀ j, j < k + 1 → R1.ws[j]? = R2.ws[j]? from fun j hj => by
          rcases Nat.lt_or_ge j k with h | h
          · exact HJ.out j h
          · rw [show j = k by omega, hx, hy, he])
        clear hx hy he hb ea eb
        go_wp2_with fail
        refine wp_region_only (S := fun w' => w'.cell? ⟨w.heap.size, 1, none⟩ = some (.slice (some ⟨b, o, none⟩) r1.n2 r1.c2) ∧ w'.cell? ⟨w.heap.size + 1, 1, none⟩ = some (.slice (some ⟨b2, o2, none⟩) r2.n2 r2.c2) ∧ w'.rangeAt b (o + k * 513) (wc x) ∧ w'.rangeAt b2 (o2 + k * 513) (wc y)) (by kernel_rfl) ⟨(LB.out.cell (cell_lt HA1.out)).trans HA1.out, (LB.out.cell (cell_lt HB1.out)).trans HB1.out, fun j v hv => (LB.out.cell (cell_lt (hc j v hv))).trans (hc j v hv), fun j v hv => (LB.out.cell (cell_lt (hc2 j v hv))).trans (hc2 j v hv)⟩ (fun hHeld => ?_)
        refine wpAnyH_take (i := 0) (v := ?v29) rfl (by kernel_rfl) (by kernel_rfl) (by kernel_rfl) (fun _ _ _ h => h) (Or.inl ⟨by rfl, ?hy29⟩) hHeld ?rest29
        case hy29 =>
          intro w' hSw
          try dsimp only at hSw
          go_simp
          first | done | with_reducible rfl
        try simp only [Act.put, List.getElem_toArray, List.getElem_cons_zero, List.setIfInBounds_toArray, List.set_cons_zero, List.set_cons_succ]
        refine wpAnyH_take (i := 1) (v := ?v30) rfl (by kernel_rfl) (by kernel_rfl) (by kernel_rfl) (fun _ _ _ h => h) (Or.inl ⟨by rfl, ?hy30⟩) hHeld ?rest30
        case hy30 =>
          intro w' hSw
          try dsimp only at hSw
          go_simp
          first | done | with_reducible rfl
        try simp only [Act.put, List.getElem_toArray, List.getElem_cons_succ, List.getElem_cons_zero, List.setIfInBounds_toArray, List.set_cons_zero, List.set_cons_succ]
        refine wpAnyH_take (i := 2) (v := ?v31) rfl (by kernel_rfl) (by kernel_rfl) (by kernel_rfl) (fun _ _ _ h => h) (Or.inl ⟨by rfl, ?hy31⟩) hHeld ?rest31
        case hy31 =>
          intro w' hSw
          try dsimp only at hSw
          go_simp
          first | done | with_reducible rfl
        try simp only [Act.put, List.getElem_toArray, List.getElem_cons_succ, List.getElem_cons_zero, List.setIfInBounds_toArray, List.set_cons_zero, List.set_cons_succ]
        refine wpAnyH_take (i := 3) (v := ?v32) rfl (by kernel_rfl) (by kernel_rfl) (by kernel_rfl) (fun _ _ _ h => h) (Or.inl ⟨by rfl, ?hy32⟩) hHeld ?rest32
        case hy32 =>
          intro w' hSw
          try dsimp only at hSw
          go_simp
          first | done | with_reducible rfl
        try simp only [Act.put, List.getElem_toArray, List.getElem_cons_succ, List.getElem_cons_zero, List.setIfInBounds_toArray, List.set_cons_zero, List.set_cons_succ]
        refine wpAnyH_take (i := 4) rfl (by kernel_rfl) (by kernel_rfl) (by kernel_rfl) (fun _ _ _ h => h) (yieldsIf_load_mid (by rfl) 94 (.tmp 32) (by rfl) b (o + k * 513) (by rfl) (wc x) _ (fun w' hSw => hSw.2.2.1) Try.underlying94 rfl (by rw [wc_length _ HX.out]; exact size94)) hHeld ?_
        try simp only [Act.put, List.getElem_toArray, List.getElem_cons_succ, List.getElem_cons_zero, List.setIfInBounds_toArray, List.set_cons_zero, List.set_cons_succ]
        refine wpAnyH_take (i := 5) (v := ?v33) rfl (by kernel_rfl) (by kernel_rfl) (by kernel_rfl) (fun _ _ _ h => h) (Or.inl ⟨by rfl, ?hy33⟩) hHeld ?rest33
        case hy33 =>
          intro w' hSw
          try dsimp only at hSw
          go_simp
          first | done | with_reducible rfl
        try simp only [Act.put, List.getElem_toArray, List.getElem_cons_succ, List.getElem_cons_zero, List.setIfInBounds_toArray, List.set_cons_zero, List.set_cons_succ]
        refine wpAnyH_take (i := 6) (v := ?v34) rfl (by kernel_rfl) (by kernel_rfl) (by kernel_rfl) (fun _ _ _ h => h) (Or.inl ⟨by rfl, ?hy34⟩) hHeld ?rest34
        case hy34 =>
          intro w' hSw
          try dsimp only at hSw
          go_simp
          first | done | with_reducible rfl
        try simp only [Act.put, List.getElem_toArray, List.getElem_cons_succ, List.getElem_cons_zero, List.setIfInBounds_toArray, List.set_cons_zero, List.set_cons_succ]
        refine wpAnyH_take (i := 7) (v := ?v35) rfl (by kernel_rfl) (by kernel_rfl) (by kernel_rfl) (fun _ _ _ h => h) (Or.inl ⟨by rfl, ?hy35⟩) hHeld ?rest35
        case hy35 =>
          intro w' hSw
          try dsimp only at hSw
          go_simp
          first | done | with_reducible rfl
        try simp only [Act.put, List.getElem_toArray, List.getElem_cons_succ, List.getElem_cons_zero, List.setIfInBounds_toArray, List.set_cons_zero, List.set_cons_succ]
        refine wpAnyH_take (i := 8) (v := ?v36) rfl (by kernel_rfl) (by kernel_rfl) (by kernel_rfl) (fun _ _ _ h => h) (Or.inl ⟨by rfl, ?hy36⟩) hHeld ?rest36
        case hy36 =>
          intro w' hSw
          try dsimp only at hSw
          go_simp
          first | done | with_reducible rfl
        try simp only [Act.put, List.getElem_toArray, List.getElem_cons_succ, List.getElem_cons_zero, List.setIfInBounds_toArray, List.set_cons_zero, List.set_cons_succ]
        refine wpAnyH_take (i := 9) rfl (by kernel_rfl) (by kernel_rfl) (by kernel_rfl) (fun _ _ _ h => h) (yieldsIf_load_mid (by rfl) 94 (.tmp 37) (by rfl) b2 (o2 + k * 513) (by rfl) (wc y) _ (fun w' hSw => hSw.2.2.2) Try.underlying94 rfl (by rw [wc_length _ HY.out]; exact size94)) hHeld ?_
        try simp only [Act.put, List.getElem_toArray, List.getElem_cons_succ, List.getElem_cons_zero, List.setIfInBounds_toArray, List.set_cons_zero, List.set_cons_succ]
        refine wpAnyH_take (i := 10) rfl (by kernel_rfl) (by kernel_rfl) (by kernel_rfl) (fun _ _ _ h => h) (y_waitne (by rfl) rfl x y HX.out HY.out (by rfl) (by rfl) HQ.out) hHeld ?_
        try simp only [Act.put, List.getElem_toArray, List.getElem_cons_succ, List.getElem_cons_zero, List.setIfInBounds_toArray, List.set_cons_zero, List.set_cons_succ]
        refine wpAnyH_done (by kernel_rfl) ?_ _
        refine OnlyN.normal ?_
        clear hHeld
        go_wp2
        go_roundw
        case rel => exact ⟨k + 1, by omega, by go_num, LB.out, HNX.out⟩
        case measure => simp [intOf]; omega
      · have HQ := Lib.hid (show (!decide (x = y)) = true by simp [he])
        have HNE := Lib.hid (show decide (R1.ws = R2.ws) = false from decide_eq_false (fun e => he (by rw [e, hy] at hx; exact (Option.some.inj hx).symm)))
        clear hx hy he hb ea eb
        go_wp2_with fail
        refine wp_region_only (S := fun w' => w'.cell? ⟨w.heap.size, 1, none⟩ = some (.slice (some ⟨b, o, none⟩) r1.n2 r1.c2) ∧ w'.cell? ⟨w.heap.size + 1, 1, none⟩ = some (.slice (some ⟨b2, o2, none⟩) r2.n2 r2.c2) ∧ w'.rangeAt b (o + k * 513) (wc x) ∧ w'.rangeAt b2 (o2 + k * 513) (wc y)) (by kernel_rfl) ⟨(LB.out.cell (cell_lt HA1.out)).trans HA1.out, (LB.out.cell (cell_lt HB1.out)).trans HB1.out, fun j v hv => (LB.out.cell (cell_lt (hc j v hv))).trans (hc j v hv), fun j v hv => (LB.out.cell (cell_lt (hc2 j v hv))).trans (hc2 j v hv)⟩ (fun hHeld => ?_)
        refine wpAnyH_take (i := 0) (v := ?v37) rfl (by kernel_rfl) (by kernel_rfl) (by kernel_rfl) (fun _ _ _ h => h) (Or.inl ⟨by rfl, ?hy37⟩) hHeld ?rest37
        case hy37 =>
          intro w' hSw
          try dsimp only at hSw
          go_simp
          first | done | with_reducible rfl
        try simp only [Act.put, List.getElem_toArray, List.getElem_cons_zero, List.setIfInBounds_toArray, List.set_cons_zero, List.set_cons_succ]
        refine wpAnyH_take (i := 1) (v := ?v38) rfl (by kernel_rfl) (by kernel_rfl) (by kernel_rfl) (fun _ _ _ h => h) (Or.inl ⟨by rfl, ?hy38⟩) hHeld ?rest38
        case hy38 =>
          intro w' hSw
          try dsimp only at hSw
          go_simp
          first | done | with_reducible rfl
        try simp only [Act.put, List.getElem_toArray, List.getElem_cons_succ, List.getElem_cons_zero, List.setIfInBounds_toArray, List.set_cons_zero, List.set_cons_succ]
        refine wpAnyH_take (i := 2) (v := ?v39) rfl (by kernel_rfl) (by kernel_rfl) (by kernel_rfl) (fun _ _ _ h => h) (Or.inl ⟨by rfl, ?hy39⟩) hHeld ?rest39
        case hy39 =>
          intro w' hSw
          try dsimp only at hSw
          go_simp
          first | done | with_reducible rfl
        try simp only [Act.put, List.getElem_toArray, List.getElem_cons_succ, List.getElem_cons_zero, List.setIfInBounds_toArray, List.set_cons_zero, List.set_cons_succ]
        refine wpAnyH_take (i := 3) (v := ?v40) rfl (by kernel_rfl) (by kernel_rfl) (by kernel_rfl) (fun _ _ _ h => h) (Or.inl ⟨by rfl, ?hy40⟩) hHeld ?rest40
        case hy40 =>
          intro w' hSw
          try dsimp only at hSw
          go_simp
          first | done | with_reducible rfl
        try simp only [Act.put, List.getElem_toArray, List.getElem_cons_succ, List.getElem_cons_zero, List.setIfInBounds_toArray, List.set_cons_zero, List.set_cons_succ]
        refine wpAnyH_take (i := 4) rfl (by kernel_rfl) (by kernel_rfl) (by kernel_rfl) (fun _ _ _ h => h) (yieldsIf_load_mid (by rfl) 94 (.tmp 32) (by rfl) b (o + k * 513) (by rfl) (wc x) _ (fun w' hSw => hSw.2.2.1) Try.underlying94 rfl (by rw [wc_length _ HX.out]; exact size94)) hHeld ?_
        try simp only [Act.put, List.getElem_toArray, List.getElem_cons_succ, List.getElem_cons_zero, List.setIfInBounds_toArray, List.set_cons_zero, List.set_cons_succ]
        refine wpAnyH_take (i := 5) (v := ?v41) rfl (by kernel_rfl) (by kernel_rfl) (by kernel_rfl) (fun _ _ _ h => h) (Or.inl ⟨by rfl, ?hy41⟩) hHeld ?rest41
        case hy41 =>
          intro w' hSw
          try dsimp only at hSw
          go_simp
          first | done | with_reducible rfl
        try simp only [Act.put, List.getElem_toArray, List.getElem_cons_succ, List.getElem_cons_zero, List.setIfInBounds_toArray, List.set_cons_zero, List.set_cons_succ]
        refine wpAnyH_take (i := 6) (v := ?v42) rfl (by kernel_rfl) (by kernel_rfl) (by kernel_rfl) (fun _ _ _ h => h) (Or.inl ⟨by rfl, ?hy42⟩) hHeld ?rest42
        case hy42 =>
          intro w' hSw
          try dsimp only at hSw
          go_simp
          first | done | with_reducible rfl
        try simp only [Act.put, List.getElem_toArray, List.getElem_cons_succ, List.getElem_cons_zero, List.setIfInBounds_toArray, List.set_cons_zero, List.set_cons_succ]
        refine wpAnyH_take (i := 7) (v := ?v43) rfl (by kernel_rfl) (by kernel_rfl) (by kernel_rfl) (fun _ _ _ h => h) (Or.inl ⟨by rfl, ?hy43⟩) hHeld ?rest43
        case hy43 =>
          intro w' hSw
          try dsimp only at hSw
          go_simp
          first | done | with_reducible rfl
        try simp only [Act.put, List.getElem_toArray, List.getElem_cons_succ, List.getElem_cons_zero, List.setIfInBounds_toArray, List.set_cons_zero, List.set_cons_succ]
        refine wpAnyH_take (i := 8) (v := ?v44) rfl (by kernel_rfl) (by kernel_rfl) (by kernel_rfl) (fun _ _ _ h => h) (Or.inl ⟨by rfl, ?hy44⟩) hHeld ?rest44
        case hy44 =>
          intro w' hSw
          try dsimp only at hSw
          go_simp
          first | done | with_reducible rfl
        try simp only [Act.put, List.getElem_toArray, List.getElem_cons_succ, List.getElem_cons_zero, List.setIfInBounds_toArray, List.set_cons_zero, List.set_cons_succ]
        refine wpAnyH_take (i := 9) rfl (by kernel_rfl) (by kernel_rfl) (by kernel_rfl) (fun _ _ _ h => h) (yieldsIf_load_mid (by rfl) 94 (.tmp 37) (by rfl) b2 (o2 + k * 513) (by rfl) (wc y) _ (fun w' hSw => hSw.2.2.2) Try.underlying94 rfl (by rw [wc_length _ HY.out]; exact size94)) hHeld ?_
        try simp only [Act.put, List.getElem_toArray, List.getElem_cons_succ, List.getElem_cons_zero, List.setIfInBounds_toArray, List.set_cons_zero, List.set_cons_succ]
        refine wpAnyH_take (i := 10) rfl (by kernel_rfl) (by kernel_rfl) (by kernel_rfl) (fun _ _ _ h => h) (y_waitne (by rfl) rfl x y HX.out HY.out (by rfl) (by rfl) HQ.out) hHeld ?_
        try simp only [Act.put, List.getElem_toArray, List.getElem_cons_succ, List.getElem_cons_zero, List.setIfInBounds_toArray, List.set_cons_zero, List.set_cons_succ]
        refine wpAnyH_done (by kernel_rfl) ?_ _
        refine OnlyN.normal ?_
        clear hHeld
        go_wp2
        go_ret
        exact ⟨by rw [HNE.out]; rfl, B0.out.trans (LB.out.mono B0.out.size)⟩
    · have hkn : k = r1.n2 := by omega
      have i2 : ¬ ((k : Nat) : Int) < (r1.n2 : Int) := by omega
      have HQ := Lib.hid (show decide (R1.ws = R2.ws) = true from decide_eq_true (List.ext_getElem? (fun j => by
        rcases Nat.lt_or_ge j k with h | h
        · exact HJ.out j h
        · rw [List.getElem?_eq_none (by have := E1.out; omega), List.getElem?_eq_none (by have := E2.out; omega)])))
      clear hkn
      go_wp2
      go_ret
      exact ⟨by rw [HQ.out]; rfl, B0.out.trans (hb.mono B0.out.size)⟩
set_option maxRecDepth 8000 in
theorem rsame_any {w : World} {r1 r2 : Rp} {R1 R2 : Rf} {z : Nat} (h1 : RefAt w r1 R1 z) (h2 : RefAt w r2 R2 z) (s1 s2 : Nat) :
    Calls Try.prog 19 #[r1.val s1, r2.val s2] w fun e w' => Tells e (sameR R1 R2) ∧ Below w.heap.size w w' := by
  by_cases hh : R1.lb = R2.lb
  · by_cases hw : R1.ws.length = R2.ws.length
    · refine (rsame_near h1 h2 s1 s2 hh hw).mono ?_
      rintro e w' ⟨rfl, hb⟩
      exact ⟨⟨_, rfl, by rw [decide_eq_true_eq]; exact ⟨fun h => ⟨hh, h⟩, fun h => h.2⟩⟩, hb⟩
    · refine (rsame_far h1 h2 s1 s2 (.inr ⟨hh, hw⟩)).mono ?_
      rintro e w' ⟨rfl, hb⟩
      exact ⟨⟨_, rfl, fun h => (nomatch h), fun h => absurd (by rw [h.2]) hw⟩, hb⟩
  · refine (rsame_far h1 h2 s1 s2 (.inl hh)).mono ?_
    rintro e w' ⟨rfl, hb⟩
    exact ⟨⟨_, rfl, fun h => (nomatch h), fun h => absurd h.1 hh⟩, hb⟩
end Go.Proofs.Ytgjamgojjajcnaa

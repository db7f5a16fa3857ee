/- objects: comparing of objects, of rows of keys, of bytes. -/
import Derived.Test.YtlhlgfehbfankaaDoorOb
namespace Go.Proofs.YtlhlgfehbfankaaDoor
open Go.RowKit
theorem eqb_iff (b : Bool) (P : Prop) [Decidable P] (h : b = true ↔ P) : b = decide P := by
  rw [Bool.eq_iff_iff, h]
  simp
section
variable (w : World)
theorem ob_eq8 (d : Nat) (a b : UInt8) : (Op.equalIn (d + 1) 5 (.int .u8 (a.toNat : Int)) (.int .u8 (b.toNat : Int))).run Tryd.prog w = .ok (a == b) w := by
  have e : (((a.toNat : Nat) : Int) == ((b.toNat : Nat) : Int)) = (a == b) := by
    rcases Decidable.em (a = b) with rfl | h
    · simp
    · have h2 : a.toNat ≠ b.toNat := fun e => h (UInt8.toNat_inj.1 e)
      have h3 : ((a.toNat : Nat) : Int) ≠ ((b.toNat : Nat) : Int) := by omega
      rw [beq_eq_false_iff_ne.2 h, beq_eq_false_iff_ne.2 h3]
  simp [Op.equalIn, run_underlying Tryd.underlying5, e]
theorem ob_part8 (l : List UInt8) (i : Nat) (hi : i < l.length) : (part 5 (bv l).toArray i).run Tryd.prog w = .ok (.int .u8 ((l[i]'hi).toNat : Int)) w := by
  have hg : (bv l).toArray[i]? = some (.int .u8 ((l[i]'hi).toNat : Int)) := by
    simp [bv, hi]
  exact run_part_plain w (by kernel_rfl) hg
theorem ob_items8 (d : Nat) (l l' : List UInt8) : ∀ is : List Nat, (∀ i ∈ is, i < l.length ∧ i < l'.length) →
    (Op.eqItems (d + 1) 5 1 (bv l).toArray (bv l').toArray is).run Tryd.prog w = .ok (is.all fun i => l[i]? == l'[i]?) w
  | [], _ => by simp [Op.eqItems]
  | i :: is, h => by
    obtain ⟨h1, h2⟩ := h i (by simp)
    simp only [Op.eqItems, Sem.run_bind, Nat.mul_one, ob_part8 w l i h1, ob_part8 w l' i h2, Result.andThen_ok, ob_eq8]
    have e : ((l[i]? == l'[i]?) : Bool) = (l[i] == l'[i]) := by simp [h1, h2]
    rw [List.all_cons, e]
    cases hq : (l[i] == l'[i]) with
    | false => simp
    | true => simpa using ob_items8 d l l' is (fun j hj => h j (by simp [hj]))
theorem all_range_of {α : Type} [DecidableEq α] (l l' : List α) (n : Nat) (h : l.length = n) (h' : l'.length = n) : ((List.range n).all fun i => l[i]? == l'[i]?) = decide (l = l') := by
  refine eqb_iff _ _ ⟨fun hall => List.ext_getElem? (fun i => ?_), fun e => by subst e; simp⟩
  rcases Nat.lt_or_ge i n with hi | hi
  · have := List.all_eq_true.1 hall i (List.mem_range.2 hi)
    simpa using this
  · rw [List.getElem?_eq_none (by omega), List.getElem?_eq_none (by omega)]
theorem info_some {t : TypeId} {n : Nat} (h : (Tryd.prog.info? t).map (·.size) = some n) : ∃ i, Tryd.prog.info? t = some i := by
  cases h' : Tryd.prog.info? t with
  | none => simp [h'] at h
  | some i => exact ⟨i, rfl⟩
theorem size8 : (Tryd.prog.info? 5).map (·.size) = some 1 := by kernel_rfl
theorem bytes_equalIn (d : Nat) (l l' : List UInt8) (h : l.length = 64) (h' : l'.length = 64) : (Op.equalIn (d + 2) 32 (.agg (bv l).toArray) (.agg (bv l').toArray)).run Tryd.prog w = .ok (decide (l = l')) w := by
  obtain ⟨i, hi⟩ := info_some size8
  have hc : Tryd.prog.cellsOf 5 = 1 := by kernel_rfl
  rw [show d + 2 = (d + 1) + 1 from rfl, run_equalIn_array w (d + 1) _ _ Tryd.underlying32 hi, hc, ob_items8 w d l l' _ (fun j hj => by have := List.mem_range.1 hj; omega), all_range_of l l' 64 h h']
theorem bytes_eql (l l' : List UInt8) (h : l.length = 64) (h' : l'.length = 64) : (binOp .eql 32 (.agg (bv l).toArray) (.agg (bv l').toArray)).run Tryd.prog w = .ok (.bool (decide (l = l'))) w := by
  rw [run_eql_struct, bytes_equalIn w 9998 l l' h h']
  rfl
theorem bytes_neq (l l' : List UInt8) (h : l.length = 64) (h' : l'.length = 64) : (binOp .neq 32 (.agg (bv l).toArray) (.agg (bv l').toArray)).run Tryd.prog w = .ok (.bool (!decide (l = l'))) w := by
  rw [run_neq_struct, bytes_equalIn w 9998 l l' h h']
  rfl
-- keys
theorem ob_keyFields (d : Nat) (k o c l r v k' o' c' l' r' v' : Int) :
    (Op.eqFields (d + 1) (kc k o c l r v) (kc k' o' c' l' r' v') (Tryd.prog.fieldsOf 30).toList).run Tryd.prog w =
      .ok (decide (k = k') && (decide (o = o') && (decide (c = c') && (decide (l = l') && (decide (r = r') && (decide (v = v') && true)))))) w := by
  have hf := fields25
  generalize (Tryd.prog.fieldsOf 30).toList = fs at hf ⊢
  have hl : fs.length = 6 := by have := congrArg List.length hf; simpa using this
  match fs, hl, hf with
  | [f0, f1, f2, f3, f4, f5], _, hf =>
    simp only [List.map_cons, List.map_nil, List.cons.injEq, Prod.mk.injEq, and_true] at hf
    obtain ⟨⟨n0, t0, o0⟩, ⟨n1, t1, o1⟩, ⟨n2, t2, o2⟩, ⟨n3, t3, o3⟩, ⟨n4, t4, o4⟩, ⟨n5, t5, o5⟩⟩ := hf
    exact eq_head w f0 _ n0 t0 o0 Tryd.underlying27 (fun w => run_part_plain w (by kernel_rfl) rfl) (fun w => run_part_plain w (by kernel_rfl) rfl) _ fun _ =>
      eq_head w f1 _ n1 t1 o1 Tryd.underlying3 (fun w => run_part_plain w (by kernel_rfl) rfl) (fun w => run_part_plain w (by kernel_rfl) rfl) _ fun _ =>
      eq_head w f2 _ n2 t2 o2 Tryd.underlying2 (fun w => run_part_plain w (by kernel_rfl) rfl) (fun w => run_part_plain w (by kernel_rfl) rfl) _ fun _ =>
      eq_head w f3 _ n3 t3 o3 Tryd.underlying2 (fun w => run_part_plain w (by kernel_rfl) rfl) (fun w => run_part_plain w (by kernel_rfl) rfl) _ fun _ =>
      eq_head w f4 _ n4 t4 o4 Tryd.underlying28 (fun w => run_part_plain w (by kernel_rfl) rfl) (fun w => run_part_plain w (by kernel_rfl) rfl) _ fun _ =>
      eq_head w f5 _ n5 t5 o5 Tryd.underlying2 (fun w => run_part_plain w (by kernel_rfl) rfl) (fun w => run_part_plain w (by kernel_rfl) rfl) _ fun _ => eqFields_nil _ _ _ w
theorem ky_eqb (x y : Ky) : (decide (x.k = y.k) && (decide (x.o = y.o) && (decide (x.c = y.c) && (decide (x.l = y.l) && (decide (x.r = y.r) && (decide (x.v = y.v) && true)))))) = decide (x = y) := by
  obtain ⟨k, o, c, l, r, v⟩ := x
  obtain ⟨k', o', c', l', r', v'⟩ := y
  rw [Bool.eq_iff_iff]
  simp
theorem key_equalIn (d : Nat) (x y : Ky) : (Op.equalIn (d + 2) 30 x.val y.val).run Tryd.prog w = .ok (decide (x = y)) w := by
  rw [run_equalIn_agg w (d + 1) 30 _ _ (by kernel_rfl) (by kernel_rfl), ob_keyFields, ky_eqb]
theorem ky_eql (x y : Ky) : (binOp .eql 30 x.val y.val).run Tryd.prog w = .ok (.bool (decide (x = y))) w := by
  rw [run_eql_struct, key_equalIn w 9998 x y]
  rfl
theorem ky_neq (x y : Ky) : (binOp .neq 30 x.val y.val).run Tryd.prog w = .ok (.bool (!decide (x = y))) w := by
  rw [run_neq_struct, key_equalIn w 9998 x y]
  rfl
theorem ob_itemsK (d : Nat) (l l' : List Ky) : ∀ is : List Nat, (∀ i ∈ is, i < l.length ∧ i < l'.length) →
    (Op.eqItems (d + 2) 30 6 (kcs l).toArray (kcs l').toArray is).run Tryd.prog w = .ok (is.all fun i => l[i]? == l'[i]?) w
  | [], _ => by simp [Op.eqItems]
  | i :: is, h => by
    obtain ⟨h1, h2⟩ := h i (by simp)
    simp only [Op.eqItems, Sem.run_bind, part_key l i h1, part_key l' i h2, Result.andThen_ok, key_equalIn]
    have e : ((l[i]? == l'[i]?) : Bool) = decide (l[i] = l'[i]) := by
      rw [Bool.eq_iff_iff]
      simp [h1, h2]
    rw [List.all_cons, e]
    cases hq : decide (l[i] = l'[i]) with
    | false => simp
    | true => simpa using ob_itemsK d l l' is (fun j hj => h j (by simp [hj]))
theorem keys_equalIn (d : Nat) (l l' : List Ky) (h : l.length = 16) (h' : l'.length = 16) : (Op.equalIn (d + 3) 31 (.agg (kcs l).toArray) (.agg (kcs l').toArray)).run Tryd.prog w = .ok (decide (l = l')) w := by
  obtain ⟨i, hi⟩ := info_some size30
  have hc : Tryd.prog.cellsOf 30 = 6 := by kernel_rfl
  rw [show d + 3 = (d + 2) + 1 from rfl, run_equalIn_array w (d + 2) _ _ Tryd.underlying31 hi, hc, ob_itemsK w d l l' _ (fun j hj => by have := List.mem_range.1 hj; omega), all_range_of l l' 16 h h']
theorem keys_eql (l l' : List Ky) (h : l.length = 16) (h' : l'.length = 16) : (binOp .eql 31 (.agg (kcs l).toArray) (.agg (kcs l').toArray)).run Tryd.prog w = .ok (.bool (decide (l = l'))) w := by
  rw [run_eql_struct, keys_equalIn w 9997 l l' h h']
  rfl
-- objects
theorem eq_headG {d : Nat} {xs ys : Array Value} {t : TypeId} {i : Nat} {a b : Value} (f : Field) (fs : List Field) (hn : (f.name == "_") = false) (ht : f.type = t) (ho : f.offset = i)
    (hp : (part t xs i).run Tryd.prog w = .ok a w) (hq : (part t ys i).run Tryd.prog w = .ok b w) {r : Bool} (he : (Op.equalIn d t a b).run Tryd.prog w = .ok r w) (b' : Bool) (hr : (Op.eqFields d xs ys fs).run Tryd.prog w = .ok b' w) :
    (Op.eqFields d xs ys (f :: fs)).run Tryd.prog w = .ok (r && b') w := by
  have hn' : f.name ≠ "_" := by simpa using hn
  subst ht ho
  simp only [Op.eqFields, hn', ne_eq, not_false_eq_true, if_true, Sem.run_bind, hp, hq, Result.andThen_ok, he]
  cases r
  · simp
  · simp [hr]
theorem fields34 : (Tryd.prog.fieldsOf 34).toList.map (fun f => (f.name == "_", f.type, f.offset)) = [(false, 26, 0), (false, 2, 1), (false, 2, 2), (false, 31, 3), (false, 32, 99)] := by kernel_rfl
theorem part_agg {t : TypeId} {n i : Nat} {xs ys : List Value} {d : TypeDesc} (hu : Tryd.prog.underlying t = some d) (hd : d.isRow = true) (hs : (Tryd.prog.info? t).map (·.size) = some n) (he : (xs.drop i).take n = ys) : (part t xs.toArray i).run Tryd.prog w = .ok (.agg ys.toArray) w := by
  obtain ⟨inf, hq⟩ := info_some hs
  have hsz : inf.size = n := by simpa [hq] using hs
  have e : xs.toArray.extract i (i + n) = ys.toArray := by
    rw [← he]
    simp [List.extract_toArray, List.extract]
  cases d <;> simp_all [part, isAgg, run_underlying hu, sizeOf, typeInfo]
theorem ob_slots (o : Oj) : (o.cells.drop 3).take 96 = kcs o.s := by
  have hl : (kcs o.s).length = 96 := by rw [kcs_length, o.hs]
  show ((kcs o.s ++ bv o.b).take 96) = _
  rw [← hl, List.take_left]
theorem ob_bytes (o : Oj) : (o.cells.drop 99).take 64 = bv o.b := by
  have hl : (kcs o.s).length = 96 := by rw [kcs_length, o.hs]
  have hb : (bv o.b).length = 64 := by rw [bv_length, o.hb]
  show ((kcs o.s ++ bv o.b).drop 96).take 64 = _
  rw [← hl, List.drop_left, ← hb, List.take_length]
theorem ob_eqb (x y : Oj) : (decide (x.k = y.k) && (decide (x.c = y.c) && (decide (x.l = y.l) && (decide (x.s = y.s) && (decide (x.b = y.b) && true))))) = decide (x = y) := by
  obtain ⟨k, c, l, s, b, _, _⟩ := x
  obtain ⟨k', c', l', s', b', _, _⟩ := y
  rw [Bool.eq_iff_iff]
  simp
theorem ob_fields (d : Nat) (x y : Oj) : (Op.eqFields (d + 3) x.cells.toArray y.cells.toArray (Tryd.prog.fieldsOf 34).toList).run Tryd.prog w = .ok (decide (x = y)) w := by
  have hf := fields34
  generalize (Tryd.prog.fieldsOf 34).toList = fs at hf ⊢
  have hl : fs.length = 5 := by have := congrArg List.length hf; simpa using this
  match fs, hl, hf with
  | [f0, f1, f2, f3, f4], _, hf =>
    simp only [List.map_cons, List.map_nil, List.cons.injEq, Prod.mk.injEq, and_true] at hf
    obtain ⟨⟨n0, t0, o0⟩, ⟨n1, t1, o1⟩, ⟨n2, t2, o2⟩, ⟨n3, t3, o3⟩, ⟨n4, t4, o4⟩⟩ := hf
    rw [← ob_eqb]
    have i0 : ∀ t, Tryd.prog.underlying t = some (.int .i64) → ∀ a b : Int, (Op.equalIn (d + 3) t (.int .i64 a) (.int .i64 b)).run Tryd.prog w = .ok (decide (a = b)) w := fun t ht a b => by
      rw [run_equalIn_int w (d + 2) t .i64 .i64 a b ht]
      congr 1
    exact eq_headG w f0 _ n0 t0 o0 (run_part_plain w (by kernel_rfl) rfl) (run_part_plain w (by kernel_rfl) rfl) (i0 _ Tryd.underlying26 _ _) _ <|
      eq_headG w f1 _ n1 t1 o1 (run_part_plain w (by kernel_rfl) rfl) (run_part_plain w (by kernel_rfl) rfl) (i0 _ Tryd.underlying2 _ _) _ <|
      eq_headG w f2 _ n2 t2 o2 (run_part_plain w (by kernel_rfl) rfl) (run_part_plain w (by kernel_rfl) rfl) (i0 _ Tryd.underlying2 _ _) _ <|
      eq_headG w f3 _ n3 t3 o3 (part_agg w Tryd.underlying31 rfl size31 (ob_slots x)) (part_agg w Tryd.underlying31 rfl size31 (ob_slots y)) (keys_equalIn w d _ _ x.hs y.hs) _ <|
      eq_headG w f4 _ n4 t4 o4 (part_agg w Tryd.underlying32 rfl size32 (ob_bytes x)) (part_agg w Tryd.underlying32 rfl size32 (ob_bytes y)) (bytes_equalIn w (d + 1) _ _ x.hb y.hb) _ <| eqFields_nil _ _ _ w
theorem ob_equalIn (x y : Oj) : (Op.equalIn 10000 34 x.val y.val).run Tryd.prog w = .ok (decide (x = y)) w := by
  rw [run_equalIn_agg w 9999 34 _ _ (by kernel_rfl) (by kernel_rfl), ob_fields w 9996 x y]
theorem ob_eql (x y : Oj) : (binOp .eql 34 x.val y.val).run Tryd.prog w = .ok (.bool (decide (x = y))) w := by
  rw [run_eql_struct, ob_equalIn]
  rfl
theorem ob_neq (x y : Oj) : (binOp .neq 34 x.val y.val).run Tryd.prog w = .ok (.bool (!decide (x = y))) w := by
  rw [run_neq_struct, ob_equalIn]
  rfl
end
section
variable {ops : Array Oper} {o : Oper} {a : Act} {S : World → Prop} {p q : Operand}
theorem y_bin {t : TypeId} {bo : BinOp} {xs ys : Array Value} {v : Value} (hw : Region.wanted o (yielded ops a.tmps) = true) (ho : o.op = .binOp bo t p q t) (hx : a.eval p = .agg xs) (hy : a.eval q = .agg ys) (hm : Tryd.prog.eqGuardType Tryd.prog.depth t = false) (h : ∀ w, (binOp bo t (.agg xs) (.agg ys)).run Tryd.prog w = .ok v w) : YieldsIf Tryd.prog ops S o v a :=
  .inl ⟨hw, fun w _ => by
    unfold execOp
    simp only [ho, hx, hy, Sem.run_bind, run_eqGuard_agg (P := Tryd.prog) w bo t p q xs ys hm, h, Result.andThen_ok, Sem.run_pure]⟩
theorem y_obeq (hw : Region.wanted o (yielded ops a.tmps) = true) (ho : o.op = .binOp .eql 34 p q 34) (x y : Oj) (hx : a.eval p = x.val) (hy : a.eval q = y.val) : YieldsIf Tryd.prog ops S o (.bool (decide (x = y))) a := y_bin hw ho hx hy (by kernel_rfl) (fun w => ob_eql w x y)
theorem y_obne (hw : Region.wanted o (yielded ops a.tmps) = true) (ho : o.op = .binOp .neq 34 p q 34) (x y : Oj) (hx : a.eval p = x.val) (hy : a.eval q = y.val) : YieldsIf Tryd.prog ops S o (.bool (!decide (x = y))) a := y_bin hw ho hx hy (by kernel_rfl) (fun w => ob_neq w x y)
theorem y_kyeq (hw : Region.wanted o (yielded ops a.tmps) = true) (ho : o.op = .binOp .eql 30 p q 30) (x y : Ky) (hx : a.eval p = x.val) (hy : a.eval q = y.val) : YieldsIf Tryd.prog ops S o (.bool (decide (x = y))) a := y_bin hw ho hx hy (by kernel_rfl) (fun w => ky_eql w x y)
theorem y_kyne (hw : Region.wanted o (yielded ops a.tmps) = true) (ho : o.op = .binOp .neq 30 p q 30) (x y : Ky) (hx : a.eval p = x.val) (hy : a.eval q = y.val) : YieldsIf Tryd.prog ops S o (.bool (!decide (x = y))) a := y_bin hw ho hx hy (by kernel_rfl) (fun w => ky_neq w x y)
theorem y_kseq (hw : Region.wanted o (yielded ops a.tmps) = true) (ho : o.op = .binOp .eql 31 p q 31) (x y : List Ky) (hl : x.length = 16) (hl' : y.length = 16) (hx : a.eval p = .agg (kcs x).toArray) (hy : a.eval q = .agg (kcs y).toArray) : YieldsIf Tryd.prog ops S o (.bool (decide (x = y))) a := y_bin hw ho hx hy (by kernel_rfl) (fun w => keys_eql w x y hl hl')
theorem y_bsne (hw : Region.wanted o (yielded ops a.tmps) = true) (ho : o.op = .binOp .neq 32 p q 32) (x y : List UInt8) (hl : x.length = 64) (hl' : y.length = 64) (hx : a.eval p = .agg (bv x).toArray) (hy : a.eval q = .agg (bv y).toArray) : YieldsIf Tryd.prog ops S o (.bool (!decide (x = y))) a := y_bin hw ho hx hy (by kernel_rfl) (fun w => bytes_neq w x y hl hl')
end
end Go.Proofs.YtlhlgfehbfankaaDoor

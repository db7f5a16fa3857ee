/- objects: Get. -/
import Derived.Test.YtlhlgfehbfankaaDoorOSt
namespace Go.Proofs.YtlhlgfehbfankaaDoor
open Go.RowKit
section
variable {ops : Array Oper} {rest : List Oper} {o : Oper} {a : Act} {Q : Exit → Act → World → Prop}
/-- the block that was made last is stored whole -/
theorem wpList_store_last {W : World} {t : TypeId} (hgd : o.guard = none) (x y : Operand) (ho : o.op = .store 34 x y) (b : Nat) (hb : b = W.heap.size) (hx : a.eval x = .pointer (some ⟨b, 0, none⟩)) (u u0 : Oj) (hy : a.eval y = u.val)
    (h : wpList Tryd.prog ops Q rest (a.put o.dst undef) (W.alloc (.cells u.cells.toArray t))) : wpList Tryd.prog ops Q (o :: rest) a (W.alloc (.cells u0.cells.toArray t)) := by
  subst hb
  refine wpList_store_row hgd 34 x y ho W.heap.size u.cells.toArray hx hy t u0.cells.toArray (heap_alloc_new W _) (by rw [List.size_toArray, u.len]; exact size34) (by rw [List.size_toArray, List.size_toArray, u.len, u0.len]) u.allOne ?_
  rw [World.setRow_alloc_new]
  exact h
/-- a block that is known whole is stored whole -/
theorem wpList_store_ob {w : World} {t : TypeId} {b : Nat} {u0 : Oj} (hb : Blk w b t u0.cells.toArray) (hgd : o.guard = none) (x y : Operand) (ho : o.op = .store 34 x y) (hx : a.eval x = .pointer (some ⟨b, 0, none⟩)) (u : Oj) (hy : a.eval y = u.val)
    (h : wpList Tryd.prog ops Q rest (a.put o.dst undef) (w.setRow b u.cells.toArray)) : wpList Tryd.prog ops Q (o :: rest) a w :=
  wpList_store_row hgd 34 x y ho b u.cells.toArray hx hy t u0.cells.toArray hb (by rw [List.size_toArray, u.len]; exact size34) (by rw [List.size_toArray, List.size_toArray, u.len, u0.len]) u.allOne h
end
theorem results_obj {fn : Func} {p q : Tmp} (h : fn.results = #[.cell p 34, .tmp q]) (tmps : Array Value) (w : World) (g : Nat) (u : Oj)
    (hp : tmps.getD p undef = .pointer (some ⟨g, 0, none⟩)) (hg : Blk w g 34 u.cells.toArray) : (results fn tmps).run Tryd.prog w = .ok (.tuple #[u.val, tmps.getD q undef]) w := by
  have hp' : tmps[p]?.getD undef = .pointer (some ⟨g, 0, none⟩) := by simpa using hp
  have hl := run_loadVar_row (P := Tryd.prog) w g 34 34 u.cells.toArray (0, 0) _ hg Tryd.underlying34 rfl (by rw [List.size_toArray, u.len]; exact size34)
  simp [results, h, hp', asAddr, hl]
section
variable {w : World} {base p : Nat} {A : Option Addr} {cap : Nat} {ps : List Nat} {os : List Oj}
set_option maxHeartbeats 1000000 in
theorem get_no (x : Value) (n : Int) (e : Int) (he : e ≠ 0) (ha : ∀ W, Below w.heap.size w W → Calls Tryd.prog 36 #[x, .int .i64 n] W fun e' w' => e' = .returned (.int .i64 e) ∧ W = w') (hx : x = .pointer none ∨ ∃ q, x = pv q) :
    Calls Tryd.prog 19 #[x, .int .i64 n] w fun e' w' => e' = .returned (.tuple #[oz.val, .int .i64 e]) ∧ Below w.heap.size w w' := by
  have hz := z34
  have HA := Lib.hid ha
  have HB := Lib.hid ((Below.refl w.heap.size w).alloc (Nat.le_refl _) (.cells oz.cells.toArray 34))
  have de : (e != 0) = true := by simpa using he
  have hbl := oz_len
  clear ha he
  rcases hx with rfl | ⟨q, rfl⟩
  all_goals
    go_enter Tryd.func19, Tryd.ntmps19
    go_wp2_with (first
      | (go_at_call 36; refine (HA.out _ HB.out).mono ?_; rintro e w1 ⟨rfl, rfl⟩)
      | (refine wpList_yields (S := fun _ => True) (y_build (by rfl) (by rfl) built34) trivial ?_)
      | (refine wpList_store_last rfl (.tmp 4) (.tmp 12) rfl _ rfl rfl oz oz rfl ?_))
    exact bodyPost_ret (results_obj rfl _ _ w.heap.size oz rfl (Blk.new w _ _)) rfl ⟨rfl, HB.out⟩
theorem get_nil (n : Int) : Calls Tryd.prog 19 #[.pointer none, .int .i64 n] w fun e' w' => e' = .returned (.tuple #[oz.val, .int .i64 1]) ∧ Below w.heap.size w w' :=
  get_no _ n 1 (by decide) (fun W _ => asked_nil n W) (.inl rfl)
theorem get_none (h : StAt w base p A cap ps []) (n : Int) : Calls Tryd.prog 19 #[pv p, .int .i64 n] w fun e' w' => e' = .returned (.tuple #[oz.val, .int .i64 1]) ∧ Below w.heap.size w w' :=
  get_no _ n 1 (by decide) (fun _ hb => asked_none (h.below hb) n) (.inr ⟨p, rfl⟩)
theorem get_out (h : StAt w base p A cap ps os) (hn : 0 < os.length) (n : Int) (hi : n < 0 ∨ (os.length : Int) ≤ n) : Calls Tryd.prog 19 #[pv p, .int .i64 n] w fun e' w' => e' = .returned (.tuple #[oz.val, .int .i64 4]) ∧ Below w.heap.size w w' :=
  get_no _ n 4 (by decide) (fun _ hb => asked_no (h.below hb) hn n hi) (.inr ⟨p, rfl⟩)
set_option maxHeartbeats 1000000 in
theorem get_at (h : StAt w base p A cap ps os) (i : Nat) (hi : i < os.length) :
    Calls Tryd.prog 19 #[pv p, .int .i64 (i : Int)] w fun e' w' => e' = .returned (.tuple #[os[i].val, .int .i64 0]) ∧ Below w.heap.size w w' := by
  have hz := z34
  have HS := Lib.hid (h.alloc (.cells oz.cells.toArray 34))
  have HB := Lib.hid (fun (u : Oj) => (Below.refl w.heap.size w).alloc (Nat.le_refl _) (.cells u.cells.toArray 34))
  have HI := Lib.hid hi
  have hbl := oz_len
  obtain ⟨g, b, o, rfl, hc, ho, hob⟩ := HS.out.at_ hi
  have HO := Lib.hid hob
  have c0 := HS.out.c0
  rw [ho]
  have hil : (i : Int) < (os.length : Int) := by omega
  clear h ho hob hi
  go_enter Tryd.func19, Tryd.ntmps19
  go_wp2_with (first
    | (go_at_call 36; refine (asked_ok HS.out i HI.out).mono ?_; rintro e w1 ⟨rfl, rfl⟩)
    | (refine wpList_yields (S := fun w' => ObAt w' b 0 o) (y_ob (by rfl) (.tmp 21) (by rfl) b 0 (by rfl) o (fun _ h => h)) HO.out ?_)
    | (refine wpList_store_last rfl (.tmp 4) (.tmp 22) rfl _ rfl rfl o oz rfl ?_))
  exact bodyPost_ret (results_obj rfl _ _ w.heap.size o rfl (Blk.new w _ _)) rfl ⟨rfl, HB.out o⟩
end
end Go.Proofs.YtlhlgfehbfankaaDoor

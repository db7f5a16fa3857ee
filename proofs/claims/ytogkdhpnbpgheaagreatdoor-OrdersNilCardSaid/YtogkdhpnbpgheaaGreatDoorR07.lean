/- rows of the call's own: small words. -/
import Derived.Test.YtogkdhpnbpgheaaGreatDoorR01
import Derived.Deep.RegionWith
import Derived.Test.YtogkdhpnbpgheaaGreatDoorR06
import Derived.Deep.AppendLies
import Derived.RangeFuncNested
import Derived.OrdersHeld
import Derived.OrdersIn
import Derived.Deep.RegionHeld3
namespace Go.Proofs.YtogkdhpnbpgheaaGreatDoor
open Go.RowKit
theorem lit0 (w : World) : (w.alloc (.cells #[] 5)).ownsRow w.heap.size 5 1 (.slice (some ⟨w.heap.size, 0, none⟩) 0 0) 0 (bv []) := World.ownsRow_lit w #[] 0 (Nat.le_refl _) (Nat.zero_le _) rfl
theorem below_lit0 (w : World) : Below w.heap.size w (w.alloc (.cells #[] 5)) := (Below.refl _ _).alloc (Nat.le_refl _) _
set_option maxRecDepth 8000 in
theorem take_snoc {α : Type} (l : List α) (k : Nat) (h : k < l.length) : l.take (k + 1) = l.take k ++ [l[k]] := by
  rw [List.take_succ_eq_append_getElem h]
set_option maxRecDepth 8000 in
theorem own_some {w : World} {base n : Nat} {e : TypeId} {v : Value} {xs : List Value} (h : w.ownsRow base e 1 v n xs) (hn : 0 < n) : ∃ g cap, v = .slice (some ⟨g, 0, none⟩) n cap ∧ n ≤ cap := by
  rcases h.2 with ⟨_, h0⟩ | ⟨g, cap, cur, h1, _, _, h2, _⟩
  · omega
  · exact ⟨g, cap, h1, h2⟩
set_option maxRecDepth 8000 in
theorem own_below {w w' : World} {base n : Nat} {e : TypeId} {v : Value} {xs : List Value} (h : w.ownsRow base e 1 v n xs) (hb : Below w.heap.size w w') : w'.ownsRow base e 1 v n xs := by
  refine h.kept (row := none) ⟨hb.os, hb.tape, hb.output, hb.size, fun k hk _ => hb.block k hk⟩ ?_
  cases hv : v.ownBlock with
  | none => exact .inl rfl
  | some k => exact .inr (by simp)
set_option maxRecDepth 8000 in
theorem own_cap {w : World} {base n cap : Nat} {e : TypeId} {C : Option Addr} {xs : List Value} (h : w.ownsRow base e 1 (.slice C n cap) n xs) : n ≤ cap := by
  rcases h.2 with ⟨h', h0⟩ | ⟨g, cap', cur, h', _, _, h1, _⟩
  · omega
  · injection h' with _ _ h'
    omega
/-- the first k bytes turned by one -/
def bump (k : Nat) (l : List UInt8) : List UInt8 := (l.take k).map (fun x => x + 1) ++ l.drop k
set_option maxRecDepth 8000 in
theorem bump_zero (l : List UInt8) : bump 0 l = l := by simp [bump]
set_option maxRecDepth 8000 in
theorem bump_length (k : Nat) (l : List UInt8) : (bump k l).length = l.length := by simp [bump]; omega
set_option maxRecDepth 8000 in
theorem bump_get (k : Nat) (l : List UInt8) (j : Nat) (hj : k ≤ j) (h : j < l.length) : (bump k l)[j]? = some l[j] := by
  unfold bump
  rw [List.getElem?_append_right (by simp; omega), List.length_map, List.length_take, List.getElem?_drop, Nat.min_eq_left (by omega), show k + (j - k) = j by omega, List.getElem?_eq_getElem h]
set_option maxRecDepth 8000 in
theorem bump_set (k : Nat) (l : List UInt8) (h : k < l.length) : (bv (bump k l)).set k (.int .u8 ((l[k] + 1).toNat : Int)) = bv (bump (k + 1) l) := by
  have e : (bump k l).set k (l[k] + 1) = bump (k + 1) l := by
    unfold bump
    rw [List.set_append_right _ _ (by simp; omega), List.length_map, List.length_take, Nat.min_eq_left (by omega), Nat.sub_self, List.drop_eq_getElem_cons h, take_snoc l k h, List.set_cons_zero, List.map_append, List.map_cons, List.map_nil, List.append_assoc]
    rfl
  rw [← e]
  simp [bv, List.map_set]
set_option maxRecDepth 8000 in
theorem u8_succ (x : UInt8) : ((x.toNat : Int) + 1) % 256 = ((x + 1).toNat : Int) := by
  rw [UInt8.toNat_add]
  simp
theorem grow_trans {a b c : World} {r : Option Nat} (h : a.grownBy b r) (k : b.grownBy c r) : a.grownBy c r :=
  ⟨k.os.trans h.os, k.tape.trans h.tape, k.output.trans h.output, Nat.le_trans h.size k.size, fun i hi hr => (k.block i (Nat.lt_of_lt_of_le hi h.size) hr).trans (h.block i hi hr)⟩
theorem below_grow {B : Nat} {a b c : World} {g : Nat} (h : Below B a b) (k : b.grownBy c (some g)) (hB : B ≤ g) (hb : B ≤ b.heap.size) : Below B a c := h.grown k hb fun i hi => by injection hi with hi; omega
end Go.Proofs.YtogkdhpnbpgheaaGreatDoor
namespace Go.Proofs.YtogkdhpnbpgheaaGreatDoor
open Go.RowKit
abbrev pv (b : Nat) : Value := .pointer (some ⟨b, 0, none⟩)
/-- the block of a row -/
def rowOf (A : Option Addr) : Option Nat := A.map (·.block)
/-- a store as it lies in p: its row A, the blocks ps of its objects os; all from base on -/
structure StAt (w : World) (base p : Nat) (A : Option Addr) (cap : Nat) (ps : List Nat) (os : List Oj) : Prop where
  blk : Blk w p 56 #[.slice A os.length cap]
  own : w.ownsRow base 84 1 (.slice A os.length cap) os.length (ps.map pv)
  len : ps.length = os.length
  obj : ∀ i (h : i < os.length) (h' : i < ps.length), Blk w ps[i] 49 os[i].cells.toArray
  pge : base ≤ p
  pn : rowOf A ≠ some p
  pps : ∀ b ∈ ps, base ≤ b ∧ b ≠ p ∧ rowOf A ≠ some b
  nd : ps.Nodup
/-- the blocks of a store -/
def stHas (p : Nat) (A : Option Addr) (ps : List Nat) (k : Nat) : Prop := k = p ∨ rowOf A = some k ∨ k ∈ ps
section
variable {w w' : World} {base p : Nat} {A : Option Addr} {cap : Nat} {ps : List Nat} {os : List Oj}
set_option maxRecDepth 8000 in
theorem own_keep {e : TypeId} {n : Nat} {xs : List Value} (h : w.ownsRow base e 1 (.slice A n cap) n xs) (hk : ∀ k, rowOf A = some k → w'.heap[k]? = w.heap[k]?) : w'.ownsRow base e 1 (.slice A n cap) n xs := by
  refine ⟨h.1, ?_⟩
  rcases h.2 with h0 | ⟨g, c, cur, h1, h2, h3, h4⟩
  · exact .inl h0
  · refine .inr ⟨g, c, cur, h1, h2, (hk g ?_).trans h3, h4⟩
    injection h1 with h1
    rw [h1]
    rfl
theorem StAt.keep (h : StAt w base p A cap ps os) (hk : ∀ k, stHas p A ps k → w'.heap[k]? = w.heap[k]?) : StAt w' base p A cap ps os where
  blk := (hk p (.inl rfl)).trans h.blk
  own := own_keep h.own (fun k hr => hk k (.inr (.inl hr)))
  len := h.len
  obj := fun i h1 h2 => (hk _ (.inr (.inr (List.getElem_mem h2)))).trans (h.obj i h1 h2)
  pge := h.pge
  pn := h.pn
  pps := h.pps
  nd := h.nd
set_option maxRecDepth 8000 in
theorem StAt.own_lt (h : StAt w base p A cap ps os) {k : Nat} (hr : rowOf A = some k) : base ≤ k ∧ k < w.heap.size := by
  rcases h.own.2 with ⟨h0, _⟩ | ⟨g, c, cur, h1, h2, h3, _⟩
  · injection h0 with h0
    rw [h0] at hr
    cases hr
  · injection h1 with h1
    rw [h1] at hr
    injection hr with hr
    simp only at hr
    subst hr
    exact ⟨h2, (Array.getElem?_eq_some_iff.1 h3).1⟩
set_option maxRecDepth 8000 in
theorem StAt.lt (h : StAt w base p A cap ps os) (k : Nat) (hk : stHas p A ps k) : base ≤ k ∧ k < w.heap.size := by
  rcases hk with rfl | hk | hk
  · exact ⟨h.pge, h.blk.lt⟩
  · exact h.own_lt hk
  · obtain ⟨i, hi, rfl⟩ := List.mem_iff_getElem.1 hk
    exact ⟨(h.pps _ hk).1, (h.obj i (by rw [← h.len]; exact hi) hi).lt⟩
theorem StAt.below (h : StAt w base p A cap ps os) (hb : Below w.heap.size w w') : StAt w' base p A cap ps os := h.keep fun k hk => hb.block k (h.lt k hk).2
theorem StAt.alloc (h : StAt w base p A cap ps os) (o : Obj) : StAt (w.alloc o) base p A cap ps os := h.below ((Below.refl _ _).alloc (Nat.le_refl _) _)
theorem StAt.drew (h : StAt w base p A cap ps os) : StAt w.drew base p A cap ps os := h.keep fun _ _ => rfl
theorem StAt.drewN (h : StAt w base p A cap ps os) (n : Nat) : StAt (w.drewN n) base p A cap ps os := h.keep fun _ _ => rfl
theorem StAt.fr {S : Nat → Prop} (h : StAt w base p A cap ps os) (hf : Fr S w w') (hS : ∀ k, stHas p A ps k → ¬ S k) : StAt w' base p A cap ps os := h.keep fun k hk => hf.block k (h.lt k hk).2 (hS k hk)
/-- its own cell -/
theorem StAt.c0 (h : StAt w base p A cap ps os) : w.cell? ⟨p, 0, none⟩ = some (.slice A os.length cap) := (h.blk.cell 0).trans rfl
set_option maxRecDepth 8000 in
/-- the row, where it is not empty -/
theorem StAt.row (h : StAt w base p A cap ps os) {i : Nat} (hi : i < os.length) : ∃ g, A = some ⟨g, 0, none⟩ ∧ ∀ (h' : i < ps.length), w.cell? ⟨g, i, none⟩ = some (pv ps[i]) := by
  obtain ⟨g, c, e, _, _⟩ := h.own.form (by omega)
  injection e with e
  subst e
  refine ⟨g, rfl, fun h' => ?_⟩
  have := h.own.cellAt i (by omega)
  rw [this, List.getElem?_map, List.getElem?_eq_getElem h']
  rfl
set_option maxRecDepth 8000 in
theorem StAt.at_ (h : StAt w base p A cap ps os) {i : Nat} (hi : i < os.length) : ∃ g b o, A = some ⟨g, 0, none⟩ ∧ w.cell? ⟨g, i, none⟩ = some (pv b) ∧ os[i] = o ∧ ObAt w b 0 o := by
  obtain ⟨g, e, hc⟩ := h.row hi
  have hp : i < ps.length := by rw [h.len]; exact hi
  exact ⟨g, ps[i], os[i], e, hc hp, rfl, (h.obj i hi hp).ob⟩
set_option maxRecDepth 8000 in
theorem there_nil (w : World) : Calls Tryz.prog 51 #[.pointer none] w fun e w' => e = .returned (.bool false) ∧ w = w' := by
  go_enter Tryz.func51, Tryz.ntmps51
  go_wp2
  go_ret
  exact ⟨rfl, rfl⟩
set_option maxRecDepth 8000 in
theorem there_at (h : StAt w base p A cap ps os) : Calls Tryz.prog 51 #[pv p] w fun e w' => e = .returned (.bool (decide (0 < os.length))) ∧ w = w' := by
  have c0 := h.c0
  clear h
  go_enter Tryz.func51, Tryz.ntmps51
  go_wp2
  go_ret
  exact ⟨rfl, rfl⟩
set_option maxRecDepth 8000 in
theorem there_yes (h : StAt w base p A cap ps os) (hn : 0 < os.length) : Calls Tryz.prog 51 #[pv p] w fun e w' => e = .returned (.bool true) ∧ w = w' := by
  have := there_at h
  rwa [show decide (0 < os.length) = true by simpa using hn] at this
theorem there_no (h : StAt w base p A cap ps []) : Calls Tryz.prog 51 #[pv p] w fun e w' => e = .returned (.bool false) ∧ w = w' := there_at h
set_option maxRecDepth 8000 in
theorem asked_nil (n : Int) (w : World) : Calls Tryz.prog 30 #[.pointer none, .int .i64 n] w fun e w' => e = .returned (.int .i64 1) ∧ w = w' := by
  go_enter Tryz.func30, Tryz.ntmps30
  go_wp2_with (go_at_call 51; refine (there_nil _).mono ?_; rintro e w1 ⟨rfl, rfl⟩)
  go_ret
  exact ⟨rfl, rfl⟩
set_option maxRecDepth 8000 in
theorem asked_none (h : StAt w base p A cap ps []) (n : Int) : Calls Tryz.prog 30 #[pv p, .int .i64 n] w fun e w' => e = .returned (.int .i64 1) ∧ w = w' := by
  have H := Lib.hid h
  clear h
  go_enter Tryz.func30, Tryz.ntmps30
  go_wp2_with (go_at_call 51; refine (there_no H.out).mono ?_; rintro e w1 ⟨rfl, rfl⟩)
  go_ret
  exact ⟨rfl, rfl⟩
set_option maxRecDepth 8000 in
theorem asked_ok (h : StAt w base p A cap ps os) (i : Nat) (hi : i < os.length) : Calls Tryz.prog 30 #[pv p, .int .i64 (i : Int)] w fun e w' => e = .returned (.int .i64 0) ∧ w = w' := by
  have H := Lib.hid h
  have HI := Lib.hid hi
  have c0 := h.c0
  have d0 : decide ((i : Int) < 0) = false := decide_eq_false (by omega)
  have d1 : decide (os.length ≤ i) = false := decide_eq_false (by omega)
  clear h hi
  go_enter Tryz.func30, Tryz.ntmps30
  go_wp2_with (go_at_call 51; refine (there_yes H.out (Nat.lt_of_le_of_lt (Nat.zero_le _) HI.out)).mono ?_; rintro e w1 ⟨rfl, rfl⟩)
  go_ret
  exact ⟨rfl, rfl⟩
set_option maxRecDepth 8000 in
theorem asked_lo (h : StAt w base p A cap ps os) (hn : 0 < os.length) (n : Int) (hi : n < 0) : Calls Tryz.prog 30 #[pv p, .int .i64 n] w fun e w' => e = .returned (.int .i64 4) ∧ w = w' := by
  have H := Lib.hid h
  have HI := Lib.hid hn
  have d0 : decide (n < 0) = true := by simpa using hi
  clear h hi hn
  go_enter Tryz.func30, Tryz.ntmps30
  go_wp2_with (go_at_call 51; refine (there_yes H.out HI.out).mono ?_; rintro e w1 ⟨rfl, rfl⟩)
  go_ret
  exact ⟨rfl, rfl⟩
set_option maxRecDepth 8000 in
theorem asked_hi (h : StAt w base p A cap ps os) (hn : 0 < os.length) (n : Int) (h0 : 0 ≤ n) (hi : (os.length : Int) ≤ n) : Calls Tryz.prog 30 #[pv p, .int .i64 n] w fun e w' => e = .returned (.int .i64 4) ∧ w = w' := by
  have H := Lib.hid h
  have HI := Lib.hid hn
  have c0 := h.c0
  have d0 : decide (n < 0) = false := decide_eq_false (by omega)
  have d1 : decide ((os.length : Int) ≤ n) = true := by simpa using hi
  clear h hi hn h0
  go_enter Tryz.func30, Tryz.ntmps30
  go_wp2_with (go_at_call 51; refine (there_yes H.out HI.out).mono ?_; rintro e w1 ⟨rfl, rfl⟩)
  go_ret
  exact ⟨rfl, rfl⟩
set_option maxRecDepth 8000 in
theorem asked_no (h : StAt w base p A cap ps os) (hn : 0 < os.length) (n : Int) (hi : n < 0 ∨ (os.length : Int) ≤ n) : Calls Tryz.prog 30 #[pv p, .int .i64 n] w fun e w' => e = .returned (.int .i64 4) ∧ w = w' := by
  by_cases h0 : n < 0
  · exact asked_lo h hn n h0
  · exact asked_hi h hn n (by omega) (by omega)
set_option maxRecDepth 8000 in
theorem size_nil (w : World) : Calls Tryz.prog 53 #[.pointer none] w fun e w' => e = .returned (.int .i64 0) ∧ w = w' := by
  go_enter Tryz.func53, Tryz.ntmps53
  go_wp2_with (go_at_call 51; refine (there_nil _).mono ?_; rintro e w1 ⟨rfl, rfl⟩)
  go_ret
  exact ⟨rfl, rfl⟩
set_option maxRecDepth 8000 in
theorem size_none (h : StAt w base p A cap ps []) : Calls Tryz.prog 53 #[pv p] w fun e w' => e = .returned (.int .i64 0) ∧ w = w' := by
  have H := Lib.hid h
  clear h
  go_enter Tryz.func53, Tryz.ntmps53
  go_wp2_with (go_at_call 51; refine (there_no H.out).mono ?_; rintro e w1 ⟨rfl, rfl⟩)
  go_ret
  exact ⟨rfl, rfl⟩
set_option maxRecDepth 8000 in
theorem size_at (h : StAt w base p A cap ps os) (hn : 0 < os.length) : Calls Tryz.prog 53 #[pv p] w fun e w' => e = .returned (.int .i64 (os.length : Int)) ∧ w = w' := by
  have H := Lib.hid h
  have HI := Lib.hid hn
  have c0 := h.c0
  clear h hn
  go_enter Tryz.func53, Tryz.ntmps53
  go_wp2_with (go_at_call 51; refine (there_yes H.out HI.out).mono ?_; rintro e w1 ⟨rfl, rfl⟩)
  go_ret
  exact ⟨rfl, rfl⟩
end
end Go.Proofs.YtogkdhpnbpgheaaGreatDoor
namespace Go.Proofs.YtogkdhpnbpgheaaGreatDoor
open Go.RowKit
section
variable {ops : Array Oper} {rest : List Oper} {o : Oper} {a : Act} {Q : Exit → Act → World → Prop}
set_option maxRecDepth 8000 in
/-- the block that was made last is stored whole -/
theorem wpList_store_last {W : World} {t : TypeId} (hgd : o.guard = none) (x y : Operand) (ho : o.op = .store 49 x y) (b : Nat) (hb : b = W.heap.size) (hx : a.eval x = .pointer (some ⟨b, 0, none⟩)) (u u0 : Oj) (hy : a.eval y = u.val)
    (h : wpList Tryz.prog ops Q rest (a.put o.dst undef) (W.alloc (.cells u.cells.toArray t))) : wpList Tryz.prog ops Q (o :: rest) a (W.alloc (.cells u0.cells.toArray t)) := by
  subst hb
  refine wpList_store_row hgd 49 x y ho W.heap.size u.cells.toArray hx hy t u0.cells.toArray (heap_alloc_new W _) (by rw [List.size_toArray, u.len]; exact size34) (by rw [List.size_toArray, List.size_toArray, u.len, u0.len]) u.allOne ?_
  rw [World.setRow_alloc_new]
  exact h
/-- a block that is known whole is stored whole -/
theorem wpList_store_ob {w : World} {t : TypeId} {b : Nat} {u0 : Oj} (hb : Blk w b t u0.cells.toArray) (hgd : o.guard = none) (x y : Operand) (ho : o.op = .store 49 x y) (hx : a.eval x = .pointer (some ⟨b, 0, none⟩)) (u : Oj) (hy : a.eval y = u.val)
    (h : wpList Tryz.prog ops Q rest (a.put o.dst undef) (w.setRow b u.cells.toArray)) : wpList Tryz.prog ops Q (o :: rest) a w :=
  wpList_store_row hgd 49 x y ho b u.cells.toArray hx hy t u0.cells.toArray hb (by rw [List.size_toArray, u.len]; exact size34) (by rw [List.size_toArray, List.size_toArray, u.len, u0.len]) u.allOne h
end
set_option maxRecDepth 8000 in
theorem results_obj {fn : Func} {p q : Tmp} (h : fn.results = #[.cell p 49, .tmp q]) (tmps : Array Value) (w : World) (g : Nat) (u : Oj)
    (hp : tmps.getD p undef = .pointer (some ⟨g, 0, none⟩)) (hg : Blk w g 49 u.cells.toArray) : (results fn tmps).run Tryz.prog w = .ok (.tuple #[u.val, tmps.getD q undef]) w := by
  have hp' : tmps[p]?.getD undef = .pointer (some ⟨g, 0, none⟩) := by simpa using hp
  have hl := run_loadVar_row (P := Tryz.prog) w g 49 49 u.cells.toArray (0, 0) _ hg Tryz.underlying49 rfl (by rw [List.size_toArray, u.len]; exact size34)
  simp [results, h, hp', asAddr, hl]
section
variable {w : World} {base p : Nat} {A : Option Addr} {cap : Nat} {ps : List Nat} {os : List Oj}
set_option maxRecDepth 8000 in
set_option maxHeartbeats 1000000 in
theorem get_no (x : Value) (n : Int) (e : Int) (he : e ≠ 0) (ha : ∀ W, Below w.heap.size w W → Calls Tryz.prog 30 #[x, .int .i64 n] W fun e' w' => e' = .returned (.int .i64 e) ∧ W = w') (hx : x = .pointer none ∨ ∃ q, x = pv q) :
    Calls Tryz.prog 16 #[x, .int .i64 n] w fun e' w' => e' = .returned (.tuple #[oz.val, .int .i64 e]) ∧ Below w.heap.size w w' := by
  have hz := z34
  have HA := Lib.hid ha
  have HB := Lib.hid ((Below.refl w.heap.size w).alloc (Nat.le_refl _) (.cells oz.cells.toArray 49))
  have de : (e != 0) = true := by simpa using he
  have hbl := oz_len
  clear ha he
  rcases hx with rfl | ⟨q, rfl⟩
  all_goals
    go_enter Tryz.func16, Tryz.ntmps16
    go_wp2_with (first
      | (go_at_call 30; refine (HA.out _ HB.out).mono ?_; rintro e w1 ⟨rfl, rfl⟩)
      | (refine wpList_yields (S := fun _ => True) (y_build (by rfl) (by rfl) built34) trivial ?_)
      | (refine wpList_store_last rfl (.tmp 4) (.tmp 12) rfl _ rfl rfl oz oz rfl ?_))
    exact bodyPost_ret (results_obj rfl _ _ w.heap.size oz rfl (Blk.new w _ _)) rfl ⟨rfl, HB.out⟩
theorem get_nil (n : Int) : Calls Tryz.prog 16 #[.pointer none, .int .i64 n] w fun e' w' => e' = .returned (.tuple #[oz.val, .int .i64 1]) ∧ Below w.heap.size w w' :=
  get_no _ n 1 (by decide) (fun W _ => asked_nil n W) (.inl rfl)
theorem get_none (h : StAt w base p A cap ps []) (n : Int) : Calls Tryz.prog 16 #[pv p, .int .i64 n] w fun e' w' => e' = .returned (.tuple #[oz.val, .int .i64 1]) ∧ Below w.heap.size w w' :=
  get_no _ n 1 (by decide) (fun _ hb => asked_none (h.below hb) n) (.inr ⟨p, rfl⟩)
theorem get_out (h : StAt w base p A cap ps os) (hn : 0 < os.length) (n : Int) (hi : n < 0 ∨ (os.length : Int) ≤ n) : Calls Tryz.prog 16 #[pv p, .int .i64 n] w fun e' w' => e' = .returned (.tuple #[oz.val, .int .i64 4]) ∧ Below w.heap.size w w' :=
  get_no _ n 4 (by decide) (fun _ hb => asked_no (h.below hb) hn n hi) (.inr ⟨p, rfl⟩)
set_option maxRecDepth 8000 in
set_option maxHeartbeats 1000000 in
theorem get_at (h : StAt w base p A cap ps os) (i : Nat) (hi : i < os.length) :
    Calls Tryz.prog 16 #[pv p, .int .i64 (i : Int)] w fun e' w' => e' = .returned (.tuple #[os[i].val, .int .i64 0]) ∧ Below w.heap.size w w' := by
  have hz := z34
  have HS := Lib.hid (h.alloc (.cells oz.cells.toArray 49))
  have HB := Lib.hid (fun (u : Oj) => (Below.refl w.heap.size w).alloc (Nat.le_refl _) (.cells u.cells.toArray 49))
  have HI := Lib.hid hi
  have hbl := oz_len
  obtain ⟨g, b, o, rfl, hc, ho, hob⟩ := HS.out.at_ hi
  have HO := Lib.hid hob
  have c0 := HS.out.c0
  rw [ho]
  have hil : (i : Int) < (os.length : Int) := by omega
  clear h ho hob hi
  go_enter Tryz.func16, Tryz.ntmps16
  go_wp2_with (first
    | (go_at_call 30; refine (asked_ok HS.out i HI.out).mono ?_; rintro e w1 ⟨rfl, rfl⟩)
    | (refine wpList_yields (S := fun w' => ObAt w' b 0 o) (y_ob (by rfl) (.tmp 21) (by rfl) b 0 (by rfl) o (fun _ h => h)) HO.out ?_)
    | (refine wpList_store_last rfl (.tmp 4) (.tmp 22) rfl _ rfl rfl o oz rfl ?_))
  exact bodyPost_ret (results_obj rfl _ _ w.heap.size o rfl (Blk.new w _ _)) rfl ⟨rfl, HB.out o⟩
end
end Go.Proofs.YtogkdhpnbpgheaaGreatDoor
namespace Go.Proofs.YtogkdhpnbpgheaaGreatDoor
open Go.RowKit
/-- Q at the normal end, and no other end -/
def OnlyN (Q : Exit → Act → World → Prop) : Exit → Act → World → Prop
  | .normal, a, w => Q .normal a w
  | _, _, _ => False
section
variable {P : Program} {ops : Array Oper} {Q : Exit → Act → World → Prop} {md : Region.Mode} {S : World → Prop} {l n : Nat}
set_option maxRecDepth 8000 in
theorem onlyN_not_out : ¬ LetsOut (OnlyN Q) := by rintro ⟨a, w, h⟩; exact h
set_option maxRecDepth 8000 in
theorem wpOpIn_of_only (hd : ∀ (i : Nat) (o : Oper), ops[i]? = some o → ∀ c, o.op ≠ .defer c) {i : Nat} {K K' : Act → World → Prop} (hK : ∀ a w, K a w → K' a w) {a : Act} {w : World} (h : wpOp P ops (OnlyN Q) i K a w) :
    wpOpIn (Fence.wide.inRound l) n P ops Q i K' a w := by
  unfold wpOp at h
  unfold wpOpIn
  cases ho : ops[i]? with
  | none => rw [ho] at h; exact hK _ _ h
  | some o =>
    rw [ho] at h
    simp only at h ⊢
    split
    · rename_i hw
      rw [if_pos hw] at h
      rcases h with h | ⟨_, h⟩
      · unfold Oper.wp at h
        unfold Oper.wpIn
        refine ⟨fun _ _ => trivial, ?_⟩
        rw [Oper.semAt_eq _ _ _ (hd i o ho)]
        generalize (execOp a.eval o).run P w = r at h ⊢
        cases r with
        | ok x w' =>
          cases x with
          | value v => exact hK _ _ h
          | skip => exact hK _ _ h
          | defer d => exact hK _ _ h
          | enter f args =>
            refine ⟨(fun h => by cases h), callsIn_wide.2 (Calls.mono h fun e w'' he => ?_)⟩
            cases e with
            | returned v => exact hK _ _ he
            | panicked c => exact (he : False).elim
            | outgrown => exact absurd he onlyN_not_out
          | row row args =>
            refine ⟨(fun h => by cases h), fun c cs _ => ?_⟩
            obtain ⟨v, w'', hr, hs⟩ := h c cs
            exact ⟨v, w'', hK _ _ hr, stepsIn_wide.2 hs⟩
          | _ => exact (h : False).elim
        | halt x w' =>
          cases x <;> exact (h : False).elim
      · exact absurd h onlyN_not_out
    · rename_i hw
      rw [if_neg hw] at h
      exact ⟨fun _ _ => trivial, hK _ _ h⟩
theorem wpAnyIn_of_only (hd : ∀ (i : Nat) (o : Oper), ops[i]? = some o → ∀ c, o.op ≠ .defer c) : ∀ (fuel : Nat) (listed : Array Bool) (a : Act) (w : World), wpAny P md ops (OnlyN Q) fuel listed a w → wpAnyIn (Fence.wide.inRound l) n P md ops Q fuel listed a w
  | 0, _, _, _, h => h
  | fuel + 1, _, _, _, h => ⟨h.1, fun i hi => wpOpIn_of_only hd (fun a' w' h' => wpAnyIn_of_only hd fuel _ a' w' h') (h.2 i hi)⟩
theorem wpIn_region_round {id : Nat} {a : Act} {w : World} (hm : P.follows .mixedOrders = true) (hd : ∀ (i : Nat) (o : Oper), ops[i]? = some o → ∀ c, o.op ≠ .defer c) (hS : S w.drew)
    (h : S w.drew → wpAnyH P .any ops (OnlyN Q) S ops.size (Array.replicate ops.size false) a w.drew) : (Code.region id ops true).wpIn (Fence.wide.inRound l) n P Q a w :=
  wpIn_region_any hm (wpAnyIn_of_only hd _ _ _ _ (wpAny_of_held _ _ _ _ (h hS)))
theorem OnlyN.normal {a : Act} {w : World} (h : Q .normal a w) : OnlyN Q .normal a w := h
theorem OnlyN.imp : ∀ (e : Exit) (a : Act) (w : World), OnlyN Q e a w → Q e a w := fun e a w h => by
  cases e <;> first | exact h | exact (h : False).elim
theorem wp_region_only {id : Nat} {a : Act} {w : World} (hm : P.follows .mixedOrders = true) (hS : S w.drew)
    (h : S w.drew → wpAnyH P .any ops (OnlyN Q) S ops.size (Array.replicate ops.size false) a w.drew) : (Code.region id ops true).wp P Q a w :=
  Code.wp_mono OnlyN.imp (wp_region_held_drew hm hS h)
theorem wpIn_region_out {id : Nat} {a : Act} {w : World} (hm : P.follows .mixedOrders = true) (hS : S w.drew)
    (h : S w.drew → wpAnyH P .any ops (OnlyN Q) S ops.size (Array.replicate ops.size false) a w.drew) : (Code.region id ops true).wpIn Fence.wide n P Q a w :=
  wpIn_wide.2 (wp_region_only hm hS h)
/-- no operation of the row is a defer -/
def noDeferB (ops : Array Oper) : Bool := ops.all fun o => match o.op with | .defer _ => false | _ => true
set_option maxRecDepth 8000 in
theorem noDefer (h : noDeferB ops = true) : ∀ (i : Nat) (o : Oper), ops[i]? = some o → ∀ c, o.op ≠ .defer c := by
  intro i o ho c hc
  have := (Array.all_eq_true_iff_forall_mem.1 h) o (Array.mem_of_getElem? ho)
  rw [hc] at this
  cases this
end
end Go.Proofs.YtogkdhpnbpgheaaGreatDoor

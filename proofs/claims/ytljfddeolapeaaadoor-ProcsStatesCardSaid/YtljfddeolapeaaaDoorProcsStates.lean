/- The law ProcsStates returns true for every input: each mode, by a start key and a resume key, of and to processes of each state, to itself or another one. No condition but that the listed variables read as the program's own text lays them; the card ties them to it. -/
import Derived.Test.YtljfddeolapeaaaDoorJQ
import Derived.Test.YtljfddeolapeaaaDoorJKn
import Derived.Test.YtljfddeolapeaaaDoorR07
namespace Go.Proofs.YtljfddeolapeaaaDoor.procsStates
open Go.ChangeShapes Go.WideShapes Go.ChangeAt Go.RowKit
attribute [local go_sem] Oper.semAt_some
set_option maxRecDepth 8000 in
theorem zeroA : (Tryd.prog.info? 40).map (fun i => (i.zero, i.size)) = some (some zja.val, 30) := by kernel_rfl
set_option maxRecDepth 8000 in
theorem placeA : ((Tryd.prog.fieldsOf 40).toList.mapM fun f => (Tryd.prog.info? f.type).map fun i => (f.offset, i.size)) = some [(0, 1), (1, 1), (2, 6), (8, 1), (9, 1), (10, 20)] := by kernel_rfl
set_option maxRecDepth 8000 in
theorem undA : Tryd.prog.underlying 40 = some (.struct (Tryd.prog.fieldsOf 40)) := by kernel_rfl
set_option maxRecDepth 8000 in
theorem builtAct (y : Ky) (md : Int) (m : Mg) : Tryd.prog.built 40 [(0, .int .i64 1), (2, y.val), (3, .int .i64 md), (5, m.val)] = some (Ja.cells ⟨1, 0, y, md, 0, m⟩).toArray := by
  unfold Program.built
  cases hi : Tryd.prog.info? 40 with
  | none => have := sizeJa; simp [hi] at this
  | some it =>
    have hz := zeroA
    simp only [hi, Option.map_some, Option.some.injEq, Prod.mk.injEq] at hz
    simp only [undA, hz.1, placeA]
    have e0 : zja.cells = [] ++ [Value.int .i64 0] ++ ([.int .i64 0] ++ kl zk ++ [.int .i64 0, .int .i64 0] ++ mz.cells) := by simp [zja, Ja.cells]
    show Instr.fill (([(0, 1), (1, 1), (2, 6), (8, 1), (9, 1), (10, 20)] : List (Nat × Nat)).toArray[·]?) zja.cells.toArray _ = _
    rw [e0, fill_mid (([(0, 1), (1, 1), (2, 6), (8, 1), (9, 1), (10, 20)] : List (Nat × Nat)).toArray[·]?) [] [Value.int .i64 0] _ 0 (.int .i64 1) [.int .i64 1] _ 0 1 rfl rfl rfl rfl rfl]
    rw [show [] ++ [Value.int .i64 1] ++ ([Value.int .i64 0] ++ kl zk ++ [.int .i64 0, .int .i64 0] ++ mz.cells) = [.int .i64 1, .int .i64 0] ++ kl zk ++ ([.int .i64 0, .int .i64 0] ++ mz.cells) by simp]
    rw [fill_mid (([(0, 1), (1, 1), (2, 6), (8, 1), (9, 1), (10, 20)] : List (Nat × Nat)).toArray[·]?) [Value.int .i64 1, .int .i64 0] (kl zk) _ 2 y.val (kl y) _ 2 6 rfl rfl (kl_len _) rfl (kl_len _)]
    rw [show [Value.int .i64 1, .int .i64 0] ++ kl y ++ ([Value.int .i64 0, .int .i64 0] ++ mz.cells) = ([.int .i64 1, .int .i64 0] ++ kl y) ++ [.int .i64 0] ++ ([.int .i64 0] ++ mz.cells) by simp]
    rw [fill_mid (([(0, 1), (1, 1), (2, 6), (8, 1), (9, 1), (10, 20)] : List (Nat × Nat)).toArray[·]?) ([Value.int .i64 1, .int .i64 0] ++ kl y) [Value.int .i64 0] _ 3 (.int .i64 md) [.int .i64 md] _ 8 1 rfl rfl rfl (by simp [kl_len]) rfl]
    rw [show ([Value.int .i64 1, .int .i64 0] ++ kl y) ++ [Value.int .i64 md] ++ ([Value.int .i64 0] ++ mz.cells) = ([.int .i64 1, .int .i64 0] ++ kl y ++ [.int .i64 md, .int .i64 0]) ++ mz.cells ++ [] by simp]
    rw [fill_mid (([(0, 1), (1, 1), (2, 6), (8, 1), (9, 1), (10, 20)] : List (Nat × Nat)).toArray[·]?) ([Value.int .i64 1, Value.int .i64 0] ++ kl y ++ [Value.int .i64 md, Value.int .i64 0]) mz.cells [] 5 m.val m.cells _ 10 20 rfl rfl m.len (by simp [kl_len]) mz.len]
    simp [Instr.fill, Ja.cells]
/-- a process: its Calls, its state -/
def jO (c s : Int) : Oj := slotAs (callsAs (oKC 1 1) c) 2 (nmk s)
theorem jO_ok {c : Int} (h : 0 ≤ c ∧ c ≤ 4294967295) (s : Int) : (jO c s).ok 2 := slotAs_ok (callsAs_ok (oKC_ok (by decide) (.inr (.inl rfl)) (by decide)) rfl c h) rfl 2 (nmk_may _ _)
theorem jO_made {a b : Int} (ha : 0 ≤ a ∧ a ≤ 4294967295) (hb : 0 ≤ b ∧ b ≤ 4294967295) (s t : Int) : madeP [jO a s, jO b t] := ⟨(by decide : 2 ≤ 20), (by decide : 1 ≤ 2), (by decide : 2 ≤ 64), two_all (jO_ok ha s) (jO_ok hb t)⟩
/-- how the law stands -/
structure Pst (w W : World) (m : Mg) : Prop where
  bel : Below w.heap.size w W
  bm : Blk W w.heap.size 38 m.cells.toArray
theorem Pst.below {w W W' : World} {m : Mg} (h : Pst w W m) (hb : Below W.heap.size W W') : Pst w W' m := ⟨h.bel.trans (hb.mono h.bel.size), h.bm.keep hb⟩
set_option maxRecDepth 100000 in
set_option maxHeartbeats 4000000 in
theorem out0 (w : World) (hT : Tab w) (a b : Int) (m : Mg) (h0 : a < 0) : Calls Tryd.prog 6 #[.int .i64 a, .int .i64 b, m.val] w fun e w' => e = .returned (.bool true) ∧ Below w.heap.size w w' := by
  have hml := m.len
  have hsm := st_size m.d
  have HT := Lib.hid hT
  have HP0 : Hid (Pst w (w.alloc (.cells m.cells.toArray 38)) m) := Lib.hid ⟨(Below.refl w.heap.size w).alloc (Nat.le_refl _) (.cells m.cells.toArray 38), Blk.new w 38 m.cells.toArray⟩
  have m1 := HP0.out.bm.mg.data
  rw [Nat.zero_add] at m1
  have d0 : decide (a < 0) = true := decide_eq_true (by omega)
  clear hT h0
  go_enter Tryd.func6, Tryd.ntmps6
  go_wp2_with (go_at_call 9; refine (known_any _ (HT.out.below HP0.out.bel)).mono ?_; rintro e v9 ⟨rfl, b_⟩; have B9 := Lib.hid ((HP0.out.bel).trans (b_.mono (HP0.out.bel).size)); clear b_)
  go_ret
  exact ⟨rfl, B9.out⟩
set_option maxRecDepth 100000 in
set_option maxHeartbeats 4000000 in
theorem out1 (w : World) (hT : Tab w) (a b : Int) (m : Mg) (h0 : ¬ a < 0) (h1 : 4294967295 < a) : Calls Tryd.prog 6 #[.int .i64 a, .int .i64 b, m.val] w fun e w' => e = .returned (.bool true) ∧ Below w.heap.size w w' := by
  have hml := m.len
  have hsm := st_size m.d
  have HT := Lib.hid hT
  have HP0 : Hid (Pst w (w.alloc (.cells m.cells.toArray 38)) m) := Lib.hid ⟨(Below.refl w.heap.size w).alloc (Nat.le_refl _) (.cells m.cells.toArray 38), Blk.new w 38 m.cells.toArray⟩
  have m1 := HP0.out.bm.mg.data
  rw [Nat.zero_add] at m1
  have d0 : decide (a < 0) = false := decide_eq_false (by omega)
  have d1 : decide (4294967295 < a) = true := decide_eq_true (by omega)
  clear hT h0 h1
  go_enter Tryd.func6, Tryd.ntmps6
  go_wp2_with (go_at_call 9; refine (known_any _ (HT.out.below HP0.out.bel)).mono ?_; rintro e v9 ⟨rfl, b_⟩; have B9 := Lib.hid ((HP0.out.bel).trans (b_.mono (HP0.out.bel).size)); clear b_)
  go_ret
  exact ⟨rfl, B9.out⟩
set_option maxRecDepth 100000 in
set_option maxHeartbeats 4000000 in
theorem out2 (w : World) (hT : Tab w) (a b : Int) (m : Mg) (h0 : ¬ a < 0) (h1 : ¬ 4294967295 < a) (h2 : b < 0) : Calls Tryd.prog 6 #[.int .i64 a, .int .i64 b, m.val] w fun e w' => e = .returned (.bool true) ∧ Below w.heap.size w w' := by
  have hml := m.len
  have hsm := st_size m.d
  have HT := Lib.hid hT
  have HP0 : Hid (Pst w (w.alloc (.cells m.cells.toArray 38)) m) := Lib.hid ⟨(Below.refl w.heap.size w).alloc (Nat.le_refl _) (.cells m.cells.toArray 38), Blk.new w 38 m.cells.toArray⟩
  have m1 := HP0.out.bm.mg.data
  rw [Nat.zero_add] at m1
  have d0 : decide (a < 0) = false := decide_eq_false (by omega)
  have d1 : decide (4294967295 < a) = false := decide_eq_false (by omega)
  have d2 : decide (b < 0) = true := decide_eq_true (by omega)
  clear hT h0 h1 h2
  go_enter Tryd.func6, Tryd.ntmps6
  go_wp2_with (go_at_call 9; refine (known_any _ (HT.out.below HP0.out.bel)).mono ?_; rintro e v9 ⟨rfl, b_⟩; have B9 := Lib.hid ((HP0.out.bel).trans (b_.mono (HP0.out.bel).size)); clear b_)
  go_ret
  exact ⟨rfl, B9.out⟩
set_option maxRecDepth 100000 in
set_option maxHeartbeats 4000000 in
theorem out3 (w : World) (hT : Tab w) (a b : Int) (m : Mg) (h0 : ¬ a < 0) (h1 : ¬ 4294967295 < a) (h2 : ¬ b < 0) (h3 : 4294967295 < b) : Calls Tryd.prog 6 #[.int .i64 a, .int .i64 b, m.val] w fun e w' => e = .returned (.bool true) ∧ Below w.heap.size w w' := by
  have hml := m.len
  have hsm := st_size m.d
  have HT := Lib.hid hT
  have HP0 : Hid (Pst w (w.alloc (.cells m.cells.toArray 38)) m) := Lib.hid ⟨(Below.refl w.heap.size w).alloc (Nat.le_refl _) (.cells m.cells.toArray 38), Blk.new w 38 m.cells.toArray⟩
  have m1 := HP0.out.bm.mg.data
  rw [Nat.zero_add] at m1
  have d0 : decide (a < 0) = false := decide_eq_false (by omega)
  have d1 : decide (4294967295 < a) = false := decide_eq_false (by omega)
  have d2 : decide (b < 0) = false := decide_eq_false (by omega)
  have d3 : decide (4294967295 < b) = true := decide_eq_true (by omega)
  clear hT h0 h1 h2 h3
  go_enter Tryd.func6, Tryd.ntmps6
  go_wp2_with (go_at_call 9; refine (known_any _ (HT.out.below HP0.out.bel)).mono ?_; rintro e v9 ⟨rfl, b_⟩; have B9 := Lib.hid ((HP0.out.bel).trans (b_.mono (HP0.out.bel).size)); clear b_)
  go_ret
  exact ⟨rfl, B9.out⟩
set_option maxRecDepth 100000 in
set_option maxHeartbeats 4000000 in
theorem out4 (w : World) (hT : Tab w) (a b : Int) (m : Mg) (h0 : ¬ a < 0) (h1 : ¬ 4294967295 < a) (h2 : ¬ b < 0) (h3 : ¬ 4294967295 < b) (h4 : 40 < m.d.length) : Calls Tryd.prog 6 #[.int .i64 a, .int .i64 b, m.val] w fun e w' => e = .returned (.bool true) ∧ Below w.heap.size w w' := by
  have hml := m.len
  have hsm := st_size m.d
  have HT := Lib.hid hT
  have HP0 : Hid (Pst w (w.alloc (.cells m.cells.toArray 38)) m) := Lib.hid ⟨(Below.refl w.heap.size w).alloc (Nat.le_refl _) (.cells m.cells.toArray 38), Blk.new w 38 m.cells.toArray⟩
  have m1 := HP0.out.bm.mg.data
  rw [Nat.zero_add] at m1
  have d0 : decide (a < 0) = false := decide_eq_false (by omega)
  have d1 : decide (4294967295 < a) = false := decide_eq_false (by omega)
  have d2 : decide (b < 0) = false := decide_eq_false (by omega)
  have d3 : decide (4294967295 < b) = false := decide_eq_false (by omega)
  have d4 : decide ((40 : Int) < (m.d.length : Int)) = true := decide_eq_true (by omega)
  clear hT h0 h1 h2 h3 h4
  go_enter Tryd.func6, Tryd.ntmps6
  go_wp2_with (go_at_call 9; refine (known_any _ (HT.out.below HP0.out.bel)).mono ?_; rintro e v9 ⟨rfl, b_⟩; have B9 := Lib.hid ((HP0.out.bel).trans (b_.mono (HP0.out.bel).size)); clear b_)
  go_ret
  exact ⟨rfl, B9.out⟩
set_option maxRecDepth 8000 in
theorem toC {W : World} {gl : Nat} {u v : Oj} (h : RdO W (some ⟨gl, 0, none⟩) [u, v]) : W.cell? ⟨gl, 2, none⟩ = some (.int .i64 u.l) ∧ W.cell? ⟨gl, 165, none⟩ = some (.int .i64 v.l) := by
  obtain ⟨b0, o0, e0, h0⟩ := h 0 (by simp)
  obtain ⟨b1, o1, e1, h1⟩ := h 1 (by simp)
  injection e0 with e0
  injection e0 with e00 e01
  injection e1 with e1
  injection e1 with e10 e11
  subst e00 e01 e10 e11
  exact ⟨h0.cells.2.2, h1.cells.2.2⟩
set_option maxRecDepth 8000 in
theorem rdo_lt {W : World} {gl : Nat} {u v : Oj} (h : RdO W (some ⟨gl, 0, none⟩) [u, v]) : gl < W.heap.size := by
  obtain ⟨b0, o0, e0, h0⟩ := h 0 (by simp)
  injection e0 with e0
  injection e0 with e00 e01
  subst e00 e01
  exact h0.lt
set_option maxRecDepth 8000 in
theorem far_of {w W : World} {A A' : Option Addr} {q cap : Nat} {ps : List Nat} {os : List Oj} {a b : Oj} (hr : RdO w A [a, b]) (hq : w.heap.size ≤ q) (hs : StAt W q q A' cap ps os) : ∀ x, A = some x → x.block ∉ ps := by
  intro x e hm
  obtain ⟨g, off, e2, ho⟩ := hr 0 (by simp)
  rw [e] at e2
  injection e2 with e2
  subst e2
  have h1 := ho.lt
  have h2 := (hs.pps _ hm).1
  simp only at h2
  omega
theorem pst_fr {w W W' : World} {m : Mg} {q cap : Nat} {A : Option Addr} {ps : List Nat} {os : List Oj} (h : Pst w W m) (hs : StAt W q q A cap ps os) (hq : w.heap.size ≤ q) (hf : Fr (fun k => k ∈ ps) W W') : Pst w W' m := ⟨h.bel.trans (hf.to_below (fun k hk => by have h1 := (hs.pps k hk).1; omega) h.bel.size), hs.blkF hf h.bm (by decide)⟩
theorem rdo_far {W : World} {g : Nat} {l : List Oj} (h : RdO W (some ⟨g, 0, none⟩) l) (k : Nat) (row : Array Value) (hne : g ≠ k) : RdO (W.setRow k row) (some ⟨g, 0, none⟩) l := fun i hi => by
  obtain ⟨b, off, e, ho⟩ := h i hi
  injection e with e
  injection e with e1 e2
  subst e1 e2
  exact ⟨g, 0, rfl, ho.keep (setRow_other W k g row hne)⟩
set_option maxRecDepth 100000 in
set_option maxHeartbeats 4000000 in
theorem inb (w : World) (hT : Tab w) (a b : Int) (m : Mg) (h0 : 0 ≤ a ∧ a ≤ 4294967295) (h1 : 0 ≤ b ∧ b ≤ 4294967295) (h4 : ¬ 40 < m.d.length) : Calls Tryd.prog 6 #[.int .i64 a, .int .i64 b, m.val] w fun e w' => e = .returned (.bool true) ∧ Below w.heap.size w w' := by
  have hml := m.len
  have hsm := st_size m.d
  have HT := Lib.hid hT
  have HP0 : Hid (Pst w (w.alloc (.cells m.cells.toArray 38)) m) := Lib.hid ⟨(Below.refl w.heap.size w).alloc (Nat.le_refl _) (.cells m.cells.toArray 38), Blk.new w 38 m.cells.toArray⟩
  have m1 := HP0.out.bm.mg.data
  rw [Nat.zero_add] at m1
  have d0 : decide (a < 0) = false := decide_eq_false (by omega)
  have d1 : decide (4294967295 < a) = false := decide_eq_false (by omega)
  have d2 : decide (b < 0) = false := decide_eq_false (by omega)
  have d3 : decide (4294967295 < b) = false := decide_eq_false (by omega)
  have d4 : decide ((40 : Int) < (m.d.length : Int)) = false := decide_eq_false (by omega)
  have H0 := Lib.hid h0
  have H1 := Lib.hid h1
  clear hT h0 h1 h4
  go_enter Tryd.func6, Tryd.ntmps6
  go_wp2_with fail
  clear m1
  go_loopw [7] (fun k wr => ∃ i : Nat, i ≤ 3 ∧ k = .int .i64 i ∧ Pst w wr m) (fun k _ => 4 - (intOf k).toNat)
  case atStart => exact ⟨0, by omega, rfl, HP0.out⟩
  case round =>
    obtain ⟨i, hi, rfl, hc⟩ := hrel
    clear HP0
    have HP := Lib.hid hc
    clear hc
    by_cases hlt : i < 3
    · have e0 : decide ((i : Int) < 3) = true := decide_eq_true (by omega)
      have e1 : (i : Int) < 3 := by omega
      obtain ⟨y, hy⟩ : ∃ y, m.k[i]? = some y := ⟨_, List.getElem?_eq_getElem (by rw [m.hk]; exact hlt)⟩
      have ky := (HP.out.bm.mg.key hlt hy).1
      rw [Nat.zero_add] at ky
      clear hy
      by_cases hyk : y.k = 1
      · have d5 : (y.k != 1) = false := by simpa using hyk
        go_wp2_with fail
        go_roundw
        case rel => exact ⟨i + 1, by omega, by go_num, HP.out⟩
        case measure => simp [intOf]; omega
      · have d5 : (y.k != 1) = true := by simpa using hyk
        go_wp2_with (go_at_call 9; refine (known_any _ (HT.out.below HP.out.bel)).mono ?_; rintro e v9 ⟨rfl, b_⟩; have B9 := Lib.hid ((HP.out.bel).trans (b_.mono (HP.out.bel).size)); clear b_)
        go_ret
        exact ⟨rfl, B9.out⟩
    · have e0 : decide ((i : Int) < 3) = false := decide_eq_false (by omega)
      go_wp2_with fail
      have HPX := HP
      go_loopw [8, 9, 10, 11, 12, 13, 14, 15, 16] (fun q _ _ _ _ _ _ _ _ wr => ∃ k : Nat, k ≤ 192 ∧ q = .int .i64 k ∧ Pst w wr m) (fun q _ _ _ _ _ _ _ _ _ => 193 - (intOf q).toNat)
      case atStart => exact ⟨0, by omega, rfl, HPX.out⟩
      case round =>
        obtain ⟨k, hk, rfl, hc⟩ := hrel
        clear HP HPX
        have HP := Lib.hid hc
        clear hc
        by_cases hlt : k < 192
        · have e0 : decide ((k : Int) < 192) = true := decide_eq_true (by omega)
          have hz := z34
          have hzl := oz_len
          obtain ⟨U, hU⟩ : ∃ U, callsAs (oKC 1 1) a = U := ⟨_, rfl⟩
          obtain ⟨V, hV⟩ : ∃ V, callsAs (oKC 1 1) b = V := ⟨_, rfl⟩
          have HBU := Lib.hid (builtOc a)
          have HBV := Lib.hid (builtOc b)
          rw [hU] at HBU
          rw [hV] at HBV
          have HUL := Lib.hid (show U.l = a by rw [← hU]; rfl)
          have HVL := Lib.hid (show V.l = b by rw [← hV]; rfl)
          have hol2 := U.len
          have hol3 := V.len
          have n0 : (0 : Int) ≤ (k : Int) := by omega
          obtain ⟨v1, hv1⟩ : ∃ v1 : Int, (k : Int) % 4 = v1 := ⟨_, rfl⟩
          have hv1' : (k : Int).tmod 4 = v1 := by rw [Int.tmod_eq_emod_of_nonneg n0]; exact hv1
          obtain ⟨q1, hq1⟩ : ∃ q1 : Int, (k : Int) / 4 = q1 := ⟨_, rfl⟩
          have hq1' : IntKind.i64.wrap ((k : Int).tdiv 4) = q1 := by rw [Int.tdiv_eq_ediv_of_nonneg n0, hq1]; exact wrap64 (by omega)
          have n1 : (0 : Int) ≤ q1 := by omega
          obtain ⟨v2, hv2⟩ : ∃ v2 : Int, q1 % 4 = v2 := ⟨_, rfl⟩
          have hv2' : q1.tmod 4 = v2 := by rw [Int.tmod_eq_emod_of_nonneg n1]; exact hv2
          obtain ⟨q2, hq2⟩ : ∃ q2 : Int, (k : Int) / 16 = q2 := ⟨_, rfl⟩
          have hq2' : IntKind.i64.wrap ((k : Int).tdiv 16) = q2 := by rw [Int.tdiv_eq_ediv_of_nonneg n0, hq2]; exact wrap64 (by omega)
          have n2 : (0 : Int) ≤ q2 := by omega
          obtain ⟨q3, hq3⟩ : ∃ q3 : Int, (k : Int) / 32 = q3 := ⟨_, rfl⟩
          have hq3' : IntKind.i64.wrap ((k : Int).tdiv 32) = q3 := by rw [Int.tdiv_eq_ediv_of_nonneg n0, hq3]; exact wrap64 (by omega)
          have n3 : (0 : Int) ≤ q3 := by omega
          obtain ⟨q4, hq4⟩ : ∃ q4 : Int, (k : Int) / 64 = q4 := ⟨_, rfl⟩
          have hq4' : IntKind.i64.wrap ((k : Int).tdiv 64) = q4 := by rw [Int.tdiv_eq_ediv_of_nonneg n0, hq4]; exact wrap64 (by omega)
          obtain ⟨md, hmd⟩ : ∃ md : Int, 1 + q4 = md := ⟨_, rfl⟩
          have hmd' : IntKind.i64.wrap (1 + q4) = md := by rw [hmd]; exact wrap64 (by omega)
          have h2 : q2 % 2 = 0 ∨ q2 % 2 = 1 := by omega
          have HMD := Lib.hid (fun (W : World) (A : Option Addr) (hT : Tab W) (hr : RdO W A [slotAs U 2 (nmk v1), slotAs V 2 (nmk v2)]) => made_yes (cap := 2) hT hr (by rw [← hU, ← hV]; exact jO_made H0.out H1.out v1 v2))
          have HOK := Lib.hid (show okAll 2 [slotAs U 2 (nmk v1), slotAs V 2 (nmk v2)] by rw [← hU, ← hV]; exact two_all (jO_ok H0.out v1) (jO_ok H1.out v2))
          clear hU hV
          have Ou0 := Lib.hid ((Blk.new wr 56 oz.cells.toArray).alloc (.cells oz.cells.toArray 56))
          have Ov0 := Lib.hid (Blk.new_of (wr.alloc (.cells oz.cells.toArray 56)) 56 oz.cells.toArray (g := wr.heap.size + 1) (by simp))
          have HBo0 := Lib.hid (((Below.refl wr.heap.size wr).alloc (Nat.le_refl _) (.cells oz.cells.toArray 56)).alloc (by simp) (.cells oz.cells.toArray 56))
          rcases h2 with h2 | h2
          · have h2' : q2.tmod 2 = 0 := by rw [Int.tmod_eq_emod_of_nonneg n2]; exact h2
            by_cases h3 : q3 % 2 = 1
            · have h3' : q3.tmod 2 = 1 := by rw [Int.tmod_eq_emod_of_nonneg n3]; exact h3
              go_wp2_with (first
                | ((with_reducible show wpList _ _ _ (Oper.mk (some 54) (.build _ _) _ _ _ _ :: _) _ _); refine wpList_yields (S := fun _ => True) (y_bl3 (by rfl) (.const (.int .i64 1)) (.const (.int .i64 1)) (.tmp 53) (by rfl) (by rfl) (by rfl) (by rfl) HBU.out) trivial ?_)
                | ((with_reducible show wpList _ _ _ (Oper.mk (some 56) (.build _ _) _ _ _ _ :: _) _ _); refine wpList_yields (S := fun _ => True) (y_bl3 (by rfl) (.const (.int .i64 1)) (.const (.int .i64 1)) (.tmp 55) (by rfl) (by rfl) (by rfl) (by rfl) HBV.out) trivial ?_)
                | ((with_reducible show wpList _ _ _ (Oper.mk none (.store _ (.tmp 9) (.tmp 54)) _ _ _ _ :: _) _ _); refine wpList_store_big (l0 := Oj.cells oz) (l := Oj.cells U) Ou0.out rfl (.tmp 9) (.tmp 54) (ty := 56) rfl (by rfl) (by rfl) (by rw [Oj.len]; exact size34) (by rw [Oj.len, Oj.len]) (Oj.one _) ?_; have Ou1 := Lib.hid (Ou0.out.setRow (Oj.cells U).toArray); have Ov1 := Lib.hid (Blk.row_far (b := wr.heap.size) Ov0.out (by omega) (Oj.cells U).toArray); have HBo1 := Lib.hid (below_setRow HBo0.out (show wr.heap.size ≤ wr.heap.size by omega) (Oj.cells U).toArray); generalize World.setRow _ _ (Oj.cells U).toArray = WA0 at Ou1 Ov1 HBo1 ⊢)
                | ((with_reducible show wpList _ _ _ (Oper.mk none (.store _ (.tmp 10) (.tmp 56)) _ _ _ _ :: _) _ _); refine wpList_store_big (l0 := Oj.cells oz) (l := Oj.cells V) Ov1.out rfl (.tmp 10) (.tmp 56) (ty := 56) rfl (by rfl) (by rfl) (by rw [Oj.len]; exact size34) (by rw [Oj.len, Oj.len]) (Oj.one _) ?_; have Ov2 := Lib.hid (Ov1.out.setRow (Oj.cells V).toArray); have Ou2 := Lib.hid (Blk.row_far (b := wr.heap.size + 1) Ou1.out (by omega) (Oj.cells V).toArray); have HBo2 := Lib.hid (below_setRow HBo1.out (show wr.heap.size ≤ wr.heap.size + 1 by omega) (Oj.cells V).toArray); generalize World.setRow _ _ (Oj.cells V).toArray = WA1 at Ov2 Ou2 HBo2 ⊢)
                | ((with_reducible show wpList _ _ _ (Oper.mk (some 59) (.build _ _) _ _ _ _ :: _) _ _); refine wpList_yields (S := fun _ => True) (y_bl2 (by rfl) (.const (.int .i64 1)) (.tmp 58) (by rfl) (by rfl) (by rfl) (builtN 1 v1)) trivial ?_)
                | ((with_reducible show wpList _ _ _ (Oper.mk (some 63) (.build _ _) _ _ _ _ :: _) _ _); refine wpList_yields (S := fun _ => True) (y_bl2 (by rfl) (.const (.int .i64 1)) (.tmp 62) (by rfl) (by rfl) (by rfl) (builtN 1 v2)) trivial ?_)
                | ((with_reducible show wpList _ _ _ (Oper.mk none (.store _ (.tmp 65) (.tmp 59)) _ _ _ _ :: _) _ _); refine wpList_store_in Ou2.out rfl (.tmp 65) (.tmp 59) (ty := 33) (l := kl (nmk v1)) (off := 15) (by rfl) (by rfl) (by rfl) size30 (by rw [Oj.len]; exact (by decide : 15 + 6 ≤ 163)) (kl_one _) (slot_fit U 2 (by decide) (nmk v1)) ?_; have Ou3 := Lib.hid (Ou2.out.setRow (Oj.cells (slotAs U 2 (nmk v1))).toArray); have Ov3 := Lib.hid (Blk.row_far (b := wr.heap.size) Ov2.out (by omega) (Oj.cells (slotAs U 2 (nmk v1))).toArray); have HBo3 := Lib.hid (below_setRow HBo2.out (show wr.heap.size ≤ wr.heap.size by omega) (Oj.cells (slotAs U 2 (nmk v1))).toArray); generalize World.setRow _ _ (Oj.cells (slotAs U 2 (nmk v1))).toArray = WA2 at Ou3 Ov3 HBo3 ⊢)
                | ((with_reducible show wpList _ _ _ (Oper.mk none (.store _ (.tmp 67) (.tmp 63)) _ _ _ _ :: _) _ _); refine wpList_store_in Ov3.out rfl (.tmp 67) (.tmp 63) (ty := 33) (l := kl (nmk v2)) (off := 15) (by rfl) (by rfl) (by rfl) size30 (by rw [Oj.len]; exact (by decide : 15 + 6 ≤ 163)) (kl_one _) (slot_fit V 2 (by decide) (nmk v2)) ?_; have Ov4 := Lib.hid (Ov3.out.setRow (Oj.cells (slotAs V 2 (nmk v2))).toArray); have Ou4 := Lib.hid (Blk.row_far (b := wr.heap.size + 1) Ou3.out (by omega) (Oj.cells (slotAs V 2 (nmk v2))).toArray); have HBo4 := Lib.hid (below_setRow HBo3.out (show wr.heap.size ≤ wr.heap.size + 1 by omega) (Oj.cells (slotAs V 2 (nmk v2))).toArray); generalize World.setRow _ _ (Oj.cells (slotAs V 2 (nmk v2))).toArray = WA3 at Ov4 Ou4 HBo4 ⊢)
                | ((with_reducible show wpList _ _ _ (Oper.mk (some 68) (.load _ _) _ _ _ _ :: _) _ _); refine wpList_yields (S := fun w' => ObAt w' (wr.heap.size) 0 (slotAs U 2 (nmk v1))) (y_ob (by rfl) (.tmp 9) (by rfl) (wr.heap.size) 0 (by rfl) (slotAs U 2 (nmk v1)) (fun _ h => h)) Ou4.out.ob ?_)
                | ((with_reducible show wpList _ _ _ (Oper.mk (some 69) (.load _ _) _ _ _ _ :: _) _ _); refine wpList_yields (S := fun w' => ObAt w' (wr.heap.size + 1) 0 (slotAs V 2 (nmk v2))) (y_ob (by rfl) (.tmp 10) (by rfl) (wr.heap.size + 1) 0 (by rfl) (slotAs V 2 (nmk v2)) (fun _ h => h)) Ov4.out.ob ?_)
                | ((with_reducible show wpList _ _ _ (Oper.mk (some 70) (.buildSlice _ _ _) _ _ _ _ :: _) _ _); refine wpList_bs2 rfl (.tmp 68) (.tmp 69) (by rfl) (slotAs U 2 (nmk v1)) (slotAs V 2 (nmk v2)) (by rfl) (by rfl) ?_; have HBs := Lib.hid (HBo4.out.alloc HBo4.out.size (.cells (Oj.cells (slotAs U 2 (nmk v1)) ++ Oj.cells (slotAs V 2 (nmk v2))).toArray 56)); have HRs := Lib.hid (rdo_two (Blk.new WA3 56 (Oj.cells (slotAs U 2 (nmk v1)) ++ Oj.cells (slotAs V 2 (nmk v2))).toArray)); clear Ou0 Ov0 HBo0 Ou1 Ov1 HBo1 Ou2 Ov2 HBo2 Ou3 Ov3 HBo3 Ou4 Ov4; obtain ⟨gl, hgl⟩ : ∃ gl, WA3.heap.size = gl := ⟨_, rfl⟩; rw [hgl] at HRs ⊢; clear HBo4 hgl; generalize WA3.alloc _ = WB at HBs HRs ⊢)
                | ((with_reducible show wpList _ _ _ (Oper.mk (some 75) (.build _ _) _ _ _ _ :: _) _ _); refine wpList_yields (S := fun _ => True) (y_bl3 (by rfl) (.const (.int .i64 6)) (.tmp 74) (.const (.int .i64 1)) (by rfl) (by rfl) (by rfl) (by rfl) (builtK3 6 0 1)) trivial ?_)
                | ((with_reducible show wpList _ _ _ (Oper.mk none (.store _ (.tmp 13) (.tmp 75)) _ _ _ _ :: _) _ _); refine wpList_store_new (l := kl (⟨6, 0, 1, 0, 0, 0⟩ : Ky)) (l0 := kl zk) (ty := 33) rfl (.tmp 13) (.tmp 75) (by rfl) WB.heap.size (by rfl) (by rfl) (by rfl) size30 rfl (kl_one _) ?_; have HBk := Lib.hid (HBs.out.alloc HBs.out.size (.cells (kl (⟨6, 0, 1, 0, 0, 0⟩ : Ky)).toArray 33)); have HRk := Lib.hid (HRs.out.below ((Below.refl _ _).alloc (Nat.le_refl _) (.cells (kl (⟨6, 0, 1, 0, 0, 0⟩ : Ky)).toArray 33))); have HK := Lib.hid (Blk.new WB 33 (kl (⟨6, 0, 1, 0, 0, 0⟩ : Ky)).toArray); obtain ⟨gk, hgk⟩ : ∃ gk, WB.heap.size = gk := ⟨_, rfl⟩; rw [hgk] at HK ⊢; have hgk2 : wr.heap.size ≤ gk := hgk ▸ HBs.out.size; have hgl2 : gl ≠ gk := (by have := rdo_lt HRs.out; rw [hgk] at this; omega); clear HBs hgk; generalize WB.alloc _ = WC at HBk HRk HK ⊢; have td1 : WC.cell? ⟨gl, 2, none⟩ = some (.int .i64 a) := (toC HRk.out).1.trans (by rw [← HUL.out]; rfl); have td2 : WC.cell? ⟨gl, 165, none⟩ = some (.int .i64 b) := (toC HRk.out).2.trans (by rw [← HVL.out]; rfl))
                | ((with_reducible show wpList _ _ _ (Oper.mk (some 86) (.build _ _) _ _ _ _ :: _) _ _); refine wpList_yields (S := fun _ => True) (y_bl4 (by rfl) (.const (.int .i64 7)) (.tmp 80) (.const (.int .i64 1)) (.tmp 85) (by rfl) (by rfl) (by rfl) (by rfl) (by rfl) (builtK4 7 0 1 a)) trivial ?_)
                | ((with_reducible show wpList _ _ _ (Oper.mk none (.store _ (.tmp 13) (.tmp 86)) _ _ _ _ :: _) _ _); refine wpList_store_big (l0 := kl (⟨6, 0, 1, 0, 0, 0⟩ : Ky)) (l := kl (⟨7, 0, 1, a, 0, 0⟩ : Ky)) HK.out rfl (.tmp 13) (.tmp 86) (ty := 33) rfl (by rfl) (by rfl) size30 rfl (kl_one _) ?_; have HYK := Lib.hid (HK.out.setRow (kl (⟨7, 0, 1, a, 0, 0⟩ : Ky)).toArray); have HYB := Lib.hid (below_setRow HBk.out hgk2 (kl (⟨7, 0, 1, a, 0, 0⟩ : Ky)).toArray); have HYR := Lib.hid (rdo_far HRk.out gk (kl (⟨7, 0, 1, a, 0, 0⟩ : Ky)).toArray hgl2); generalize World.setRow _ _ (kl (⟨7, 0, 1, a, 0, 0⟩ : Ky)).toArray = WD at HYK HYB HYR ⊢)
                | (go_at_call 7; refine (HMD.out _ _ (HT.out.below (HP.out.bel.trans (HYB.out.mono HP.out.bel.size))) HYR.out).mono ?_; rintro e w1 ⟨q, rfl, hq, ⟨A1, cap1, ps1, hs⟩, b1⟩; have HP1 := Lib.hid ((HP.out.below HYB.out).below b1); have HS1 := Lib.hid hs; have HR1 := Lib.hid (HYR.out.below b1); have HK1 := Lib.hid (HYK.out.keep b1); have HQ1 := Lib.hid (Nat.le_trans (HP.out.below HYB.out).bel.size hq); have HF1 := Lib.hid (far_of HYR.out hq hs); clear b1 hs hq)
                | ((with_reducible show wpList _ _ _ (Oper.mk (some 94) (.load _ _) _ _ _ _ :: _) _ _); refine wpList_yields (S := fun w' => KeyAt w' gk 0 (⟨7, 0, 1, a, 0, 0⟩ : Ky)) (y_kyJ (by rfl) (.tmp 13) (by rfl) gk 0 (by rfl) (⟨7, 0, 1, a, 0, 0⟩ : Ky) (fun _ h => h)) HK1.out.kat ?_)
                | ((with_reducible show wpList _ _ _ (Oper.mk (some 98) (.load _ _) _ _ _ _ :: _) _ _); refine wpList_yields (S := fun w' => MgAt w' w.heap.size 0 m) (y_mg (by rfl) (.tmp 5) (by rfl) w.heap.size 0 (by rfl) m (fun _ h => h)) HP1.out.bm.mg ?_)
                | ((with_reducible show wpList _ _ _ (Oper.mk (some 99) (.build _ _) _ _ _ _ :: _) _ _); refine wpList_yields (S := fun _ => True) (y_bl4 (by rfl) (.const (.int .i64 1)) (.tmp 94) (.tmp 97) (.tmp 98) (by rfl) (by rfl) (by rfl) (by rfl) (by rfl) (builtAct (⟨7, 0, 1, a, 0, 0⟩ : Ky) md m)) trivial ?_)
                | (go_at_call 10; refine (does_any (n := 2) HS1.out rfl (by decide) (by decide) HOK.out (TabB.of HT.out HP1.out.bel HQ1.out) HR1.out HF1.out ⟨1, 0, (⟨7, 0, 1, a, 0, 0⟩ : Ky), md, 0, m⟩).mono ?_; rintro e w2 ⟨L2, c2, rfl, hL2, hs2, hr2, hf2⟩; have HS2 := Lib.hid hs2; have HR2 := Lib.hid hr2; have HP2 := Lib.hid (pst_fr HP1.out HS1.out HQ1.out hf2); clear hL2 hs2 hr2 hf2)
                | (go_at_call 11; refine (same_n (n := 2) HS2.out (doesA_len _ _) (by decide) (by decide) _ _ HR2.out).mono ?_; rintro e w3 ⟨rfl, b3⟩; have HP3 := Lib.hid (HP2.out.below b3); have HS3 := Lib.hid (HS2.out.below b3); have HR3 := Lib.hid (HR2.out.below b3); clear b3)
                | (go_at_call 12; refine (states_any (n := 2) HS3.out (doesA_len _ _) (by decide) (by decide) (HT.out.below HP3.out.bel) HR3.out).mono ?_; rintro e w4 ⟨rfl, b4⟩; have HP4 := Lib.hid (HP3.out.below b4); clear b4))
              go_roundw
              case rel => exact ⟨k + 1, by omega, by go_num, HP4.out⟩
              case measure => simp [intOf]; omega
            · have h3a : q3 % 2 = 0 := by omega
              have h3' : q3.tmod 2 = 0 := by rw [Int.tmod_eq_emod_of_nonneg n3]; exact h3a
              go_wp2_with (first
                | ((with_reducible show wpList _ _ _ (Oper.mk (some 54) (.build _ _) _ _ _ _ :: _) _ _); refine wpList_yields (S := fun _ => True) (y_bl3 (by rfl) (.const (.int .i64 1)) (.const (.int .i64 1)) (.tmp 53) (by rfl) (by rfl) (by rfl) (by rfl) HBU.out) trivial ?_)
                | ((with_reducible show wpList _ _ _ (Oper.mk (some 56) (.build _ _) _ _ _ _ :: _) _ _); refine wpList_yields (S := fun _ => True) (y_bl3 (by rfl) (.const (.int .i64 1)) (.const (.int .i64 1)) (.tmp 55) (by rfl) (by rfl) (by rfl) (by rfl) HBV.out) trivial ?_)
                | ((with_reducible show wpList _ _ _ (Oper.mk none (.store _ (.tmp 9) (.tmp 54)) _ _ _ _ :: _) _ _); refine wpList_store_big (l0 := Oj.cells oz) (l := Oj.cells U) Ou0.out rfl (.tmp 9) (.tmp 54) (ty := 56) rfl (by rfl) (by rfl) (by rw [Oj.len]; exact size34) (by rw [Oj.len, Oj.len]) (Oj.one _) ?_; have Ou1 := Lib.hid (Ou0.out.setRow (Oj.cells U).toArray); have Ov1 := Lib.hid (Blk.row_far (b := wr.heap.size) Ov0.out (by omega) (Oj.cells U).toArray); have HBo1 := Lib.hid (below_setRow HBo0.out (show wr.heap.size ≤ wr.heap.size by omega) (Oj.cells U).toArray); generalize World.setRow _ _ (Oj.cells U).toArray = WA0 at Ou1 Ov1 HBo1 ⊢)
                | ((with_reducible show wpList _ _ _ (Oper.mk none (.store _ (.tmp 10) (.tmp 56)) _ _ _ _ :: _) _ _); refine wpList_store_big (l0 := Oj.cells oz) (l := Oj.cells V) Ov1.out rfl (.tmp 10) (.tmp 56) (ty := 56) rfl (by rfl) (by rfl) (by rw [Oj.len]; exact size34) (by rw [Oj.len, Oj.len]) (Oj.one _) ?_; have Ov2 := Lib.hid (Ov1.out.setRow (Oj.cells V).toArray); have Ou2 := Lib.hid (Blk.row_far (b := wr.heap.size + 1) Ou1.out (by omega) (Oj.cells V).toArray); have HBo2 := Lib.hid (below_setRow HBo1.out (show wr.heap.size ≤ wr.heap.size + 1 by omega) (Oj.cells V).toArray); generalize World.setRow _ _ (Oj.cells V).toArray = WA1 at Ov2 Ou2 HBo2 ⊢)
                | ((with_reducible show wpList _ _ _ (Oper.mk (some 59) (.build _ _) _ _ _ _ :: _) _ _); refine wpList_yields (S := fun _ => True) (y_bl2 (by rfl) (.const (.int .i64 1)) (.tmp 58) (by rfl) (by rfl) (by rfl) (builtN 1 v1)) trivial ?_)
                | ((with_reducible show wpList _ _ _ (Oper.mk (some 63) (.build _ _) _ _ _ _ :: _) _ _); refine wpList_yields (S := fun _ => True) (y_bl2 (by rfl) (.const (.int .i64 1)) (.tmp 62) (by rfl) (by rfl) (by rfl) (builtN 1 v2)) trivial ?_)
                | ((with_reducible show wpList _ _ _ (Oper.mk none (.store _ (.tmp 65) (.tmp 59)) _ _ _ _ :: _) _ _); refine wpList_store_in Ou2.out rfl (.tmp 65) (.tmp 59) (ty := 33) (l := kl (nmk v1)) (off := 15) (by rfl) (by rfl) (by rfl) size30 (by rw [Oj.len]; exact (by decide : 15 + 6 ≤ 163)) (kl_one _) (slot_fit U 2 (by decide) (nmk v1)) ?_; have Ou3 := Lib.hid (Ou2.out.setRow (Oj.cells (slotAs U 2 (nmk v1))).toArray); have Ov3 := Lib.hid (Blk.row_far (b := wr.heap.size) Ov2.out (by omega) (Oj.cells (slotAs U 2 (nmk v1))).toArray); have HBo3 := Lib.hid (below_setRow HBo2.out (show wr.heap.size ≤ wr.heap.size by omega) (Oj.cells (slotAs U 2 (nmk v1))).toArray); generalize World.setRow _ _ (Oj.cells (slotAs U 2 (nmk v1))).toArray = WA2 at Ou3 Ov3 HBo3 ⊢)
                | ((with_reducible show wpList _ _ _ (Oper.mk none (.store _ (.tmp 67) (.tmp 63)) _ _ _ _ :: _) _ _); refine wpList_store_in Ov3.out rfl (.tmp 67) (.tmp 63) (ty := 33) (l := kl (nmk v2)) (off := 15) (by rfl) (by rfl) (by rfl) size30 (by rw [Oj.len]; exact (by decide : 15 + 6 ≤ 163)) (kl_one _) (slot_fit V 2 (by decide) (nmk v2)) ?_; have Ov4 := Lib.hid (Ov3.out.setRow (Oj.cells (slotAs V 2 (nmk v2))).toArray); have Ou4 := Lib.hid (Blk.row_far (b := wr.heap.size + 1) Ou3.out (by omega) (Oj.cells (slotAs V 2 (nmk v2))).toArray); have HBo4 := Lib.hid (below_setRow HBo3.out (show wr.heap.size ≤ wr.heap.size + 1 by omega) (Oj.cells (slotAs V 2 (nmk v2))).toArray); generalize World.setRow _ _ (Oj.cells (slotAs V 2 (nmk v2))).toArray = WA3 at Ov4 Ou4 HBo4 ⊢)
                | ((with_reducible show wpList _ _ _ (Oper.mk (some 68) (.load _ _) _ _ _ _ :: _) _ _); refine wpList_yields (S := fun w' => ObAt w' (wr.heap.size) 0 (slotAs U 2 (nmk v1))) (y_ob (by rfl) (.tmp 9) (by rfl) (wr.heap.size) 0 (by rfl) (slotAs U 2 (nmk v1)) (fun _ h => h)) Ou4.out.ob ?_)
                | ((with_reducible show wpList _ _ _ (Oper.mk (some 69) (.load _ _) _ _ _ _ :: _) _ _); refine wpList_yields (S := fun w' => ObAt w' (wr.heap.size + 1) 0 (slotAs V 2 (nmk v2))) (y_ob (by rfl) (.tmp 10) (by rfl) (wr.heap.size + 1) 0 (by rfl) (slotAs V 2 (nmk v2)) (fun _ h => h)) Ov4.out.ob ?_)
                | ((with_reducible show wpList _ _ _ (Oper.mk (some 70) (.buildSlice _ _ _) _ _ _ _ :: _) _ _); refine wpList_bs2 rfl (.tmp 68) (.tmp 69) (by rfl) (slotAs U 2 (nmk v1)) (slotAs V 2 (nmk v2)) (by rfl) (by rfl) ?_; have HBs := Lib.hid (HBo4.out.alloc HBo4.out.size (.cells (Oj.cells (slotAs U 2 (nmk v1)) ++ Oj.cells (slotAs V 2 (nmk v2))).toArray 56)); have HRs := Lib.hid (rdo_two (Blk.new WA3 56 (Oj.cells (slotAs U 2 (nmk v1)) ++ Oj.cells (slotAs V 2 (nmk v2))).toArray)); clear Ou0 Ov0 HBo0 Ou1 Ov1 HBo1 Ou2 Ov2 HBo2 Ou3 Ov3 HBo3 Ou4 Ov4; obtain ⟨gl, hgl⟩ : ∃ gl, WA3.heap.size = gl := ⟨_, rfl⟩; rw [hgl] at HRs ⊢; clear HBo4 hgl; generalize WA3.alloc _ = WB at HBs HRs ⊢)
                | ((with_reducible show wpList _ _ _ (Oper.mk (some 75) (.build _ _) _ _ _ _ :: _) _ _); refine wpList_yields (S := fun _ => True) (y_bl3 (by rfl) (.const (.int .i64 6)) (.tmp 74) (.const (.int .i64 1)) (by rfl) (by rfl) (by rfl) (by rfl) (builtK3 6 0 1)) trivial ?_)
                | ((with_reducible show wpList _ _ _ (Oper.mk none (.store _ (.tmp 13) (.tmp 75)) _ _ _ _ :: _) _ _); refine wpList_store_new (l := kl (⟨6, 0, 1, 0, 0, 0⟩ : Ky)) (l0 := kl zk) (ty := 33) rfl (.tmp 13) (.tmp 75) (by rfl) WB.heap.size (by rfl) (by rfl) (by rfl) size30 rfl (kl_one _) ?_; have HBk := Lib.hid (HBs.out.alloc HBs.out.size (.cells (kl (⟨6, 0, 1, 0, 0, 0⟩ : Ky)).toArray 33)); have HRk := Lib.hid (HRs.out.below ((Below.refl _ _).alloc (Nat.le_refl _) (.cells (kl (⟨6, 0, 1, 0, 0, 0⟩ : Ky)).toArray 33))); have HK := Lib.hid (Blk.new WB 33 (kl (⟨6, 0, 1, 0, 0, 0⟩ : Ky)).toArray); obtain ⟨gk, hgk⟩ : ∃ gk, WB.heap.size = gk := ⟨_, rfl⟩; rw [hgk] at HK ⊢; have hgk2 : wr.heap.size ≤ gk := hgk ▸ HBs.out.size; have hgl2 : gl ≠ gk := (by have := rdo_lt HRs.out; rw [hgk] at this; omega); clear HBs hgk; generalize WB.alloc _ = WC at HBk HRk HK ⊢; have td1 : WC.cell? ⟨gl, 2, none⟩ = some (.int .i64 a) := (toC HRk.out).1.trans (by rw [← HUL.out]; rfl); have td2 : WC.cell? ⟨gl, 165, none⟩ = some (.int .i64 b) := (toC HRk.out).2.trans (by rw [← HVL.out]; rfl); have HYK := HK; have HYB := HBk; have HYR := HRk)
                | (go_at_call 7; refine (HMD.out _ _ (HT.out.below (HP.out.bel.trans (HYB.out.mono HP.out.bel.size))) HYR.out).mono ?_; rintro e w1 ⟨q, rfl, hq, ⟨A1, cap1, ps1, hs⟩, b1⟩; have HP1 := Lib.hid ((HP.out.below HYB.out).below b1); have HS1 := Lib.hid hs; have HR1 := Lib.hid (HYR.out.below b1); have HK1 := Lib.hid (HYK.out.keep b1); have HQ1 := Lib.hid (Nat.le_trans (HP.out.below HYB.out).bel.size hq); have HF1 := Lib.hid (far_of HYR.out hq hs); clear b1 hs hq)
                | ((with_reducible show wpList _ _ _ (Oper.mk (some 94) (.load _ _) _ _ _ _ :: _) _ _); refine wpList_yields (S := fun w' => KeyAt w' gk 0 (⟨6, 0, 1, 0, 0, 0⟩ : Ky)) (y_kyJ (by rfl) (.tmp 13) (by rfl) gk 0 (by rfl) (⟨6, 0, 1, 0, 0, 0⟩ : Ky) (fun _ h => h)) HK1.out.kat ?_)
                | ((with_reducible show wpList _ _ _ (Oper.mk (some 98) (.load _ _) _ _ _ _ :: _) _ _); refine wpList_yields (S := fun w' => MgAt w' w.heap.size 0 m) (y_mg (by rfl) (.tmp 5) (by rfl) w.heap.size 0 (by rfl) m (fun _ h => h)) HP1.out.bm.mg ?_)
                | ((with_reducible show wpList _ _ _ (Oper.mk (some 99) (.build _ _) _ _ _ _ :: _) _ _); refine wpList_yields (S := fun _ => True) (y_bl4 (by rfl) (.const (.int .i64 1)) (.tmp 94) (.tmp 97) (.tmp 98) (by rfl) (by rfl) (by rfl) (by rfl) (by rfl) (builtAct (⟨6, 0, 1, 0, 0, 0⟩ : Ky) md m)) trivial ?_)
                | (go_at_call 10; refine (does_any (n := 2) HS1.out rfl (by decide) (by decide) HOK.out (TabB.of HT.out HP1.out.bel HQ1.out) HR1.out HF1.out ⟨1, 0, (⟨6, 0, 1, 0, 0, 0⟩ : Ky), md, 0, m⟩).mono ?_; rintro e w2 ⟨L2, c2, rfl, hL2, hs2, hr2, hf2⟩; have HS2 := Lib.hid hs2; have HR2 := Lib.hid hr2; have HP2 := Lib.hid (pst_fr HP1.out HS1.out HQ1.out hf2); clear hL2 hs2 hr2 hf2)
                | (go_at_call 11; refine (same_n (n := 2) HS2.out (doesA_len _ _) (by decide) (by decide) _ _ HR2.out).mono ?_; rintro e w3 ⟨rfl, b3⟩; have HP3 := Lib.hid (HP2.out.below b3); have HS3 := Lib.hid (HS2.out.below b3); have HR3 := Lib.hid (HR2.out.below b3); clear b3)
                | (go_at_call 12; refine (states_any (n := 2) HS3.out (doesA_len _ _) (by decide) (by decide) (HT.out.below HP3.out.bel) HR3.out).mono ?_; rintro e w4 ⟨rfl, b4⟩; have HP4 := Lib.hid (HP3.out.below b4); clear b4))
              go_roundw
              case rel => exact ⟨k + 1, by omega, by go_num, HP4.out⟩
              case measure => simp [intOf]; omega
          · have h2' : q2.tmod 2 = 1 := by rw [Int.tmod_eq_emod_of_nonneg n2]; exact h2
            by_cases h3 : q3 % 2 = 1
            · have h3' : q3.tmod 2 = 1 := by rw [Int.tmod_eq_emod_of_nonneg n3]; exact h3
              go_wp2_with (first
                | ((with_reducible show wpList _ _ _ (Oper.mk (some 54) (.build _ _) _ _ _ _ :: _) _ _); refine wpList_yields (S := fun _ => True) (y_bl3 (by rfl) (.const (.int .i64 1)) (.const (.int .i64 1)) (.tmp 53) (by rfl) (by rfl) (by rfl) (by rfl) HBU.out) trivial ?_)
                | ((with_reducible show wpList _ _ _ (Oper.mk (some 56) (.build _ _) _ _ _ _ :: _) _ _); refine wpList_yields (S := fun _ => True) (y_bl3 (by rfl) (.const (.int .i64 1)) (.const (.int .i64 1)) (.tmp 55) (by rfl) (by rfl) (by rfl) (by rfl) HBV.out) trivial ?_)
                | ((with_reducible show wpList _ _ _ (Oper.mk none (.store _ (.tmp 9) (.tmp 54)) _ _ _ _ :: _) _ _); refine wpList_store_big (l0 := Oj.cells oz) (l := Oj.cells U) Ou0.out rfl (.tmp 9) (.tmp 54) (ty := 56) rfl (by rfl) (by rfl) (by rw [Oj.len]; exact size34) (by rw [Oj.len, Oj.len]) (Oj.one _) ?_; have Ou1 := Lib.hid (Ou0.out.setRow (Oj.cells U).toArray); have Ov1 := Lib.hid (Blk.row_far (b := wr.heap.size) Ov0.out (by omega) (Oj.cells U).toArray); have HBo1 := Lib.hid (below_setRow HBo0.out (show wr.heap.size ≤ wr.heap.size by omega) (Oj.cells U).toArray); generalize World.setRow _ _ (Oj.cells U).toArray = WA0 at Ou1 Ov1 HBo1 ⊢)
                | ((with_reducible show wpList _ _ _ (Oper.mk none (.store _ (.tmp 10) (.tmp 56)) _ _ _ _ :: _) _ _); refine wpList_store_big (l0 := Oj.cells oz) (l := Oj.cells V) Ov1.out rfl (.tmp 10) (.tmp 56) (ty := 56) rfl (by rfl) (by rfl) (by rw [Oj.len]; exact size34) (by rw [Oj.len, Oj.len]) (Oj.one _) ?_; have Ov2 := Lib.hid (Ov1.out.setRow (Oj.cells V).toArray); have Ou2 := Lib.hid (Blk.row_far (b := wr.heap.size + 1) Ou1.out (by omega) (Oj.cells V).toArray); have HBo2 := Lib.hid (below_setRow HBo1.out (show wr.heap.size ≤ wr.heap.size + 1 by omega) (Oj.cells V).toArray); generalize World.setRow _ _ (Oj.cells V).toArray = WA1 at Ov2 Ou2 HBo2 ⊢)
                | ((with_reducible show wpList _ _ _ (Oper.mk (some 59) (.build _ _) _ _ _ _ :: _) _ _); refine wpList_yields (S := fun _ => True) (y_bl2 (by rfl) (.const (.int .i64 1)) (.tmp 58) (by rfl) (by rfl) (by rfl) (builtN 1 v1)) trivial ?_)
                | ((with_reducible show wpList _ _ _ (Oper.mk (some 63) (.build _ _) _ _ _ _ :: _) _ _); refine wpList_yields (S := fun _ => True) (y_bl2 (by rfl) (.const (.int .i64 1)) (.tmp 62) (by rfl) (by rfl) (by rfl) (builtN 1 v2)) trivial ?_)
                | ((with_reducible show wpList _ _ _ (Oper.mk none (.store _ (.tmp 65) (.tmp 59)) _ _ _ _ :: _) _ _); refine wpList_store_in Ou2.out rfl (.tmp 65) (.tmp 59) (ty := 33) (l := kl (nmk v1)) (off := 15) (by rfl) (by rfl) (by rfl) size30 (by rw [Oj.len]; exact (by decide : 15 + 6 ≤ 163)) (kl_one _) (slot_fit U 2 (by decide) (nmk v1)) ?_; have Ou3 := Lib.hid (Ou2.out.setRow (Oj.cells (slotAs U 2 (nmk v1))).toArray); have Ov3 := Lib.hid (Blk.row_far (b := wr.heap.size) Ov2.out (by omega) (Oj.cells (slotAs U 2 (nmk v1))).toArray); have HBo3 := Lib.hid (below_setRow HBo2.out (show wr.heap.size ≤ wr.heap.size by omega) (Oj.cells (slotAs U 2 (nmk v1))).toArray); generalize World.setRow _ _ (Oj.cells (slotAs U 2 (nmk v1))).toArray = WA2 at Ou3 Ov3 HBo3 ⊢)
                | ((with_reducible show wpList _ _ _ (Oper.mk none (.store _ (.tmp 67) (.tmp 63)) _ _ _ _ :: _) _ _); refine wpList_store_in Ov3.out rfl (.tmp 67) (.tmp 63) (ty := 33) (l := kl (nmk v2)) (off := 15) (by rfl) (by rfl) (by rfl) size30 (by rw [Oj.len]; exact (by decide : 15 + 6 ≤ 163)) (kl_one _) (slot_fit V 2 (by decide) (nmk v2)) ?_; have Ov4 := Lib.hid (Ov3.out.setRow (Oj.cells (slotAs V 2 (nmk v2))).toArray); have Ou4 := Lib.hid (Blk.row_far (b := wr.heap.size + 1) Ou3.out (by omega) (Oj.cells (slotAs V 2 (nmk v2))).toArray); have HBo4 := Lib.hid (below_setRow HBo3.out (show wr.heap.size ≤ wr.heap.size + 1 by omega) (Oj.cells (slotAs V 2 (nmk v2))).toArray); generalize World.setRow _ _ (Oj.cells (slotAs V 2 (nmk v2))).toArray = WA3 at Ov4 Ou4 HBo4 ⊢)
                | ((with_reducible show wpList _ _ _ (Oper.mk (some 68) (.load _ _) _ _ _ _ :: _) _ _); refine wpList_yields (S := fun w' => ObAt w' (wr.heap.size) 0 (slotAs U 2 (nmk v1))) (y_ob (by rfl) (.tmp 9) (by rfl) (wr.heap.size) 0 (by rfl) (slotAs U 2 (nmk v1)) (fun _ h => h)) Ou4.out.ob ?_)
                | ((with_reducible show wpList _ _ _ (Oper.mk (some 69) (.load _ _) _ _ _ _ :: _) _ _); refine wpList_yields (S := fun w' => ObAt w' (wr.heap.size + 1) 0 (slotAs V 2 (nmk v2))) (y_ob (by rfl) (.tmp 10) (by rfl) (wr.heap.size + 1) 0 (by rfl) (slotAs V 2 (nmk v2)) (fun _ h => h)) Ov4.out.ob ?_)
                | ((with_reducible show wpList _ _ _ (Oper.mk (some 70) (.buildSlice _ _ _) _ _ _ _ :: _) _ _); refine wpList_bs2 rfl (.tmp 68) (.tmp 69) (by rfl) (slotAs U 2 (nmk v1)) (slotAs V 2 (nmk v2)) (by rfl) (by rfl) ?_; have HBs := Lib.hid (HBo4.out.alloc HBo4.out.size (.cells (Oj.cells (slotAs U 2 (nmk v1)) ++ Oj.cells (slotAs V 2 (nmk v2))).toArray 56)); have HRs := Lib.hid (rdo_two (Blk.new WA3 56 (Oj.cells (slotAs U 2 (nmk v1)) ++ Oj.cells (slotAs V 2 (nmk v2))).toArray)); clear Ou0 Ov0 HBo0 Ou1 Ov1 HBo1 Ou2 Ov2 HBo2 Ou3 Ov3 HBo3 Ou4 Ov4; obtain ⟨gl, hgl⟩ : ∃ gl, WA3.heap.size = gl := ⟨_, rfl⟩; rw [hgl] at HRs ⊢; clear HBo4 hgl; generalize WA3.alloc _ = WB at HBs HRs ⊢)
                | ((with_reducible show wpList _ _ _ (Oper.mk (some 75) (.build _ _) _ _ _ _ :: _) _ _); refine wpList_yields (S := fun _ => True) (y_bl3 (by rfl) (.const (.int .i64 6)) (.tmp 74) (.const (.int .i64 1)) (by rfl) (by rfl) (by rfl) (by rfl) (builtK3 6 1 1)) trivial ?_)
                | ((with_reducible show wpList _ _ _ (Oper.mk none (.store _ (.tmp 13) (.tmp 75)) _ _ _ _ :: _) _ _); refine wpList_store_new (l := kl (⟨6, 1, 1, 0, 0, 0⟩ : Ky)) (l0 := kl zk) (ty := 33) rfl (.tmp 13) (.tmp 75) (by rfl) WB.heap.size (by rfl) (by rfl) (by rfl) size30 rfl (kl_one _) ?_; have HBk := Lib.hid (HBs.out.alloc HBs.out.size (.cells (kl (⟨6, 1, 1, 0, 0, 0⟩ : Ky)).toArray 33)); have HRk := Lib.hid (HRs.out.below ((Below.refl _ _).alloc (Nat.le_refl _) (.cells (kl (⟨6, 1, 1, 0, 0, 0⟩ : Ky)).toArray 33))); have HK := Lib.hid (Blk.new WB 33 (kl (⟨6, 1, 1, 0, 0, 0⟩ : Ky)).toArray); obtain ⟨gk, hgk⟩ : ∃ gk, WB.heap.size = gk := ⟨_, rfl⟩; rw [hgk] at HK ⊢; have hgk2 : wr.heap.size ≤ gk := hgk ▸ HBs.out.size; have hgl2 : gl ≠ gk := (by have := rdo_lt HRs.out; rw [hgk] at this; omega); clear HBs hgk; generalize WB.alloc _ = WC at HBk HRk HK ⊢; have td1 : WC.cell? ⟨gl, 2, none⟩ = some (.int .i64 a) := (toC HRk.out).1.trans (by rw [← HUL.out]; rfl); have td2 : WC.cell? ⟨gl, 165, none⟩ = some (.int .i64 b) := (toC HRk.out).2.trans (by rw [← HVL.out]; rfl))
                | ((with_reducible show wpList _ _ _ (Oper.mk (some 86) (.build _ _) _ _ _ _ :: _) _ _); refine wpList_yields (S := fun _ => True) (y_bl4 (by rfl) (.const (.int .i64 7)) (.tmp 80) (.const (.int .i64 1)) (.tmp 85) (by rfl) (by rfl) (by rfl) (by rfl) (by rfl) (builtK4 7 1 1 b)) trivial ?_)
                | ((with_reducible show wpList _ _ _ (Oper.mk none (.store _ (.tmp 13) (.tmp 86)) _ _ _ _ :: _) _ _); refine wpList_store_big (l0 := kl (⟨6, 1, 1, 0, 0, 0⟩ : Ky)) (l := kl (⟨7, 1, 1, b, 0, 0⟩ : Ky)) HK.out rfl (.tmp 13) (.tmp 86) (ty := 33) rfl (by rfl) (by rfl) size30 rfl (kl_one _) ?_; have HYK := Lib.hid (HK.out.setRow (kl (⟨7, 1, 1, b, 0, 0⟩ : Ky)).toArray); have HYB := Lib.hid (below_setRow HBk.out hgk2 (kl (⟨7, 1, 1, b, 0, 0⟩ : Ky)).toArray); have HYR := Lib.hid (rdo_far HRk.out gk (kl (⟨7, 1, 1, b, 0, 0⟩ : Ky)).toArray hgl2); generalize World.setRow _ _ (kl (⟨7, 1, 1, b, 0, 0⟩ : Ky)).toArray = WD at HYK HYB HYR ⊢)
                | (go_at_call 7; refine (HMD.out _ _ (HT.out.below (HP.out.bel.trans (HYB.out.mono HP.out.bel.size))) HYR.out).mono ?_; rintro e w1 ⟨q, rfl, hq, ⟨A1, cap1, ps1, hs⟩, b1⟩; have HP1 := Lib.hid ((HP.out.below HYB.out).below b1); have HS1 := Lib.hid hs; have HR1 := Lib.hid (HYR.out.below b1); have HK1 := Lib.hid (HYK.out.keep b1); have HQ1 := Lib.hid (Nat.le_trans (HP.out.below HYB.out).bel.size hq); have HF1 := Lib.hid (far_of HYR.out hq hs); clear b1 hs hq)
                | ((with_reducible show wpList _ _ _ (Oper.mk (some 94) (.load _ _) _ _ _ _ :: _) _ _); refine wpList_yields (S := fun w' => KeyAt w' gk 0 (⟨7, 1, 1, b, 0, 0⟩ : Ky)) (y_kyJ (by rfl) (.tmp 13) (by rfl) gk 0 (by rfl) (⟨7, 1, 1, b, 0, 0⟩ : Ky) (fun _ h => h)) HK1.out.kat ?_)
                | ((with_reducible show wpList _ _ _ (Oper.mk (some 98) (.load _ _) _ _ _ _ :: _) _ _); refine wpList_yields (S := fun w' => MgAt w' w.heap.size 0 m) (y_mg (by rfl) (.tmp 5) (by rfl) w.heap.size 0 (by rfl) m (fun _ h => h)) HP1.out.bm.mg ?_)
                | ((with_reducible show wpList _ _ _ (Oper.mk (some 99) (.build _ _) _ _ _ _ :: _) _ _); refine wpList_yields (S := fun _ => True) (y_bl4 (by rfl) (.const (.int .i64 1)) (.tmp 94) (.tmp 97) (.tmp 98) (by rfl) (by rfl) (by rfl) (by rfl) (by rfl) (builtAct (⟨7, 1, 1, b, 0, 0⟩ : Ky) md m)) trivial ?_)
                | (go_at_call 10; refine (does_any (n := 2) HS1.out rfl (by decide) (by decide) HOK.out (TabB.of HT.out HP1.out.bel HQ1.out) HR1.out HF1.out ⟨1, 0, (⟨7, 1, 1, b, 0, 0⟩ : Ky), md, 0, m⟩).mono ?_; rintro e w2 ⟨L2, c2, rfl, hL2, hs2, hr2, hf2⟩; have HS2 := Lib.hid hs2; have HR2 := Lib.hid hr2; have HP2 := Lib.hid (pst_fr HP1.out HS1.out HQ1.out hf2); clear hL2 hs2 hr2 hf2)
                | (go_at_call 11; refine (same_n (n := 2) HS2.out (doesA_len _ _) (by decide) (by decide) _ _ HR2.out).mono ?_; rintro e w3 ⟨rfl, b3⟩; have HP3 := Lib.hid (HP2.out.below b3); have HS3 := Lib.hid (HS2.out.below b3); have HR3 := Lib.hid (HR2.out.below b3); clear b3)
                | (go_at_call 12; refine (states_any (n := 2) HS3.out (doesA_len _ _) (by decide) (by decide) (HT.out.below HP3.out.bel) HR3.out).mono ?_; rintro e w4 ⟨rfl, b4⟩; have HP4 := Lib.hid (HP3.out.below b4); clear b4))
              go_roundw
              case rel => exact ⟨k + 1, by omega, by go_num, HP4.out⟩
              case measure => simp [intOf]; omega
            · have h3a : q3 % 2 = 0 := by omega
              have h3' : q3.tmod 2 = 0 := by rw [Int.tmod_eq_emod_of_nonneg n3]; exact h3a
              go_wp2_with (first
                | ((with_reducible show wpList _ _ _ (Oper.mk (some 54) (.build _ _) _ _ _ _ :: _) _ _); refine wpList_yields (S := fun _ => True) (y_bl3 (by rfl) (.const (.int .i64 1)) (.const (.int .i64 1)) (.tmp 53) (by rfl) (by rfl) (by rfl) (by rfl) HBU.out) trivial ?_)
                | ((with_reducible show wpList _ _ _ (Oper.mk (some 56) (.build _ _) _ _ _ _ :: _) _ _); refine wpList_yields (S := fun _ => True) (y_bl3 (by rfl) (.const (.int .i64 1)) (.const (.int .i64 1)) (.tmp 55) (by rfl) (by rfl) (by rfl) (by rfl) HBV.out) trivial ?_)
                | ((with_reducible show wpList _ _ _ (Oper.mk none (.store _ (.tmp 9) (.tmp 54)) _ _ _ _ :: _) _ _); refine wpList_store_big (l0 := Oj.cells oz) (l := Oj.cells U) Ou0.out rfl (.tmp 9) (.tmp 54) (ty := 56) rfl (by rfl) (by rfl) (by rw [Oj.len]; exact size34) (by rw [Oj.len, Oj.len]) (Oj.one _) ?_; have Ou1 := Lib.hid (Ou0.out.setRow (Oj.cells U).toArray); have Ov1 := Lib.hid (Blk.row_far (b := wr.heap.size) Ov0.out (by omega) (Oj.cells U).toArray); have HBo1 := Lib.hid (below_setRow HBo0.out (show wr.heap.size ≤ wr.heap.size by omega) (Oj.cells U).toArray); generalize World.setRow _ _ (Oj.cells U).toArray = WA0 at Ou1 Ov1 HBo1 ⊢)
                | ((with_reducible show wpList _ _ _ (Oper.mk none (.store _ (.tmp 10) (.tmp 56)) _ _ _ _ :: _) _ _); refine wpList_store_big (l0 := Oj.cells oz) (l := Oj.cells V) Ov1.out rfl (.tmp 10) (.tmp 56) (ty := 56) rfl (by rfl) (by rfl) (by rw [Oj.len]; exact size34) (by rw [Oj.len, Oj.len]) (Oj.one _) ?_; have Ov2 := Lib.hid (Ov1.out.setRow (Oj.cells V).toArray); have Ou2 := Lib.hid (Blk.row_far (b := wr.heap.size + 1) Ou1.out (by omega) (Oj.cells V).toArray); have HBo2 := Lib.hid (below_setRow HBo1.out (show wr.heap.size ≤ wr.heap.size + 1 by omega) (Oj.cells V).toArray); generalize World.setRow _ _ (Oj.cells V).toArray = WA1 at Ov2 Ou2 HBo2 ⊢)
                | ((with_reducible show wpList _ _ _ (Oper.mk (some 59) (.build _ _) _ _ _ _ :: _) _ _); refine wpList_yields (S := fun _ => True) (y_bl2 (by rfl) (.const (.int .i64 1)) (.tmp 58) (by rfl) (by rfl) (by rfl) (builtN 1 v1)) trivial ?_)
                | ((with_reducible show wpList _ _ _ (Oper.mk (some 63) (.build _ _) _ _ _ _ :: _) _ _); refine wpList_yields (S := fun _ => True) (y_bl2 (by rfl) (.const (.int .i64 1)) (.tmp 62) (by rfl) (by rfl) (by rfl) (builtN 1 v2)) trivial ?_)
                | ((with_reducible show wpList _ _ _ (Oper.mk none (.store _ (.tmp 65) (.tmp 59)) _ _ _ _ :: _) _ _); refine wpList_store_in Ou2.out rfl (.tmp 65) (.tmp 59) (ty := 33) (l := kl (nmk v1)) (off := 15) (by rfl) (by rfl) (by rfl) size30 (by rw [Oj.len]; exact (by decide : 15 + 6 ≤ 163)) (kl_one _) (slot_fit U 2 (by decide) (nmk v1)) ?_; have Ou3 := Lib.hid (Ou2.out.setRow (Oj.cells (slotAs U 2 (nmk v1))).toArray); have Ov3 := Lib.hid (Blk.row_far (b := wr.heap.size) Ov2.out (by omega) (Oj.cells (slotAs U 2 (nmk v1))).toArray); have HBo3 := Lib.hid (below_setRow HBo2.out (show wr.heap.size ≤ wr.heap.size by omega) (Oj.cells (slotAs U 2 (nmk v1))).toArray); generalize World.setRow _ _ (Oj.cells (slotAs U 2 (nmk v1))).toArray = WA2 at Ou3 Ov3 HBo3 ⊢)
                | ((with_reducible show wpList _ _ _ (Oper.mk none (.store _ (.tmp 67) (.tmp 63)) _ _ _ _ :: _) _ _); refine wpList_store_in Ov3.out rfl (.tmp 67) (.tmp 63) (ty := 33) (l := kl (nmk v2)) (off := 15) (by rfl) (by rfl) (by rfl) size30 (by rw [Oj.len]; exact (by decide : 15 + 6 ≤ 163)) (kl_one _) (slot_fit V 2 (by decide) (nmk v2)) ?_; have Ov4 := Lib.hid (Ov3.out.setRow (Oj.cells (slotAs V 2 (nmk v2))).toArray); have Ou4 := Lib.hid (Blk.row_far (b := wr.heap.size + 1) Ou3.out (by omega) (Oj.cells (slotAs V 2 (nmk v2))).toArray); have HBo4 := Lib.hid (below_setRow HBo3.out (show wr.heap.size ≤ wr.heap.size + 1 by omega) (Oj.cells (slotAs V 2 (nmk v2))).toArray); generalize World.setRow _ _ (Oj.cells (slotAs V 2 (nmk v2))).toArray = WA3 at Ov4 Ou4 HBo4 ⊢)
                | ((with_reducible show wpList _ _ _ (Oper.mk (some 68) (.load _ _) _ _ _ _ :: _) _ _); refine wpList_yields (S := fun w' => ObAt w' (wr.heap.size) 0 (slotAs U 2 (nmk v1))) (y_ob (by rfl) (.tmp 9) (by rfl) (wr.heap.size) 0 (by rfl) (slotAs U 2 (nmk v1)) (fun _ h => h)) Ou4.out.ob ?_)
                | ((with_reducible show wpList _ _ _ (Oper.mk (some 69) (.load _ _) _ _ _ _ :: _) _ _); refine wpList_yields (S := fun w' => ObAt w' (wr.heap.size + 1) 0 (slotAs V 2 (nmk v2))) (y_ob (by rfl) (.tmp 10) (by rfl) (wr.heap.size + 1) 0 (by rfl) (slotAs V 2 (nmk v2)) (fun _ h => h)) Ov4.out.ob ?_)
                | ((with_reducible show wpList _ _ _ (Oper.mk (some 70) (.buildSlice _ _ _) _ _ _ _ :: _) _ _); refine wpList_bs2 rfl (.tmp 68) (.tmp 69) (by rfl) (slotAs U 2 (nmk v1)) (slotAs V 2 (nmk v2)) (by rfl) (by rfl) ?_; have HBs := Lib.hid (HBo4.out.alloc HBo4.out.size (.cells (Oj.cells (slotAs U 2 (nmk v1)) ++ Oj.cells (slotAs V 2 (nmk v2))).toArray 56)); have HRs := Lib.hid (rdo_two (Blk.new WA3 56 (Oj.cells (slotAs U 2 (nmk v1)) ++ Oj.cells (slotAs V 2 (nmk v2))).toArray)); clear Ou0 Ov0 HBo0 Ou1 Ov1 HBo1 Ou2 Ov2 HBo2 Ou3 Ov3 HBo3 Ou4 Ov4; obtain ⟨gl, hgl⟩ : ∃ gl, WA3.heap.size = gl := ⟨_, rfl⟩; rw [hgl] at HRs ⊢; clear HBo4 hgl; generalize WA3.alloc _ = WB at HBs HRs ⊢)
                | ((with_reducible show wpList _ _ _ (Oper.mk (some 75) (.build _ _) _ _ _ _ :: _) _ _); refine wpList_yields (S := fun _ => True) (y_bl3 (by rfl) (.const (.int .i64 6)) (.tmp 74) (.const (.int .i64 1)) (by rfl) (by rfl) (by rfl) (by rfl) (builtK3 6 1 1)) trivial ?_)
                | ((with_reducible show wpList _ _ _ (Oper.mk none (.store _ (.tmp 13) (.tmp 75)) _ _ _ _ :: _) _ _); refine wpList_store_new (l := kl (⟨6, 1, 1, 0, 0, 0⟩ : Ky)) (l0 := kl zk) (ty := 33) rfl (.tmp 13) (.tmp 75) (by rfl) WB.heap.size (by rfl) (by rfl) (by rfl) size30 rfl (kl_one _) ?_; have HBk := Lib.hid (HBs.out.alloc HBs.out.size (.cells (kl (⟨6, 1, 1, 0, 0, 0⟩ : Ky)).toArray 33)); have HRk := Lib.hid (HRs.out.below ((Below.refl _ _).alloc (Nat.le_refl _) (.cells (kl (⟨6, 1, 1, 0, 0, 0⟩ : Ky)).toArray 33))); have HK := Lib.hid (Blk.new WB 33 (kl (⟨6, 1, 1, 0, 0, 0⟩ : Ky)).toArray); obtain ⟨gk, hgk⟩ : ∃ gk, WB.heap.size = gk := ⟨_, rfl⟩; rw [hgk] at HK ⊢; have hgk2 : wr.heap.size ≤ gk := hgk ▸ HBs.out.size; have hgl2 : gl ≠ gk := (by have := rdo_lt HRs.out; rw [hgk] at this; omega); clear HBs hgk; generalize WB.alloc _ = WC at HBk HRk HK ⊢; have td1 : WC.cell? ⟨gl, 2, none⟩ = some (.int .i64 a) := (toC HRk.out).1.trans (by rw [← HUL.out]; rfl); have td2 : WC.cell? ⟨gl, 165, none⟩ = some (.int .i64 b) := (toC HRk.out).2.trans (by rw [← HVL.out]; rfl); have HYK := HK; have HYB := HBk; have HYR := HRk)
                | (go_at_call 7; refine (HMD.out _ _ (HT.out.below (HP.out.bel.trans (HYB.out.mono HP.out.bel.size))) HYR.out).mono ?_; rintro e w1 ⟨q, rfl, hq, ⟨A1, cap1, ps1, hs⟩, b1⟩; have HP1 := Lib.hid ((HP.out.below HYB.out).below b1); have HS1 := Lib.hid hs; have HR1 := Lib.hid (HYR.out.below b1); have HK1 := Lib.hid (HYK.out.keep b1); have HQ1 := Lib.hid (Nat.le_trans (HP.out.below HYB.out).bel.size hq); have HF1 := Lib.hid (far_of HYR.out hq hs); clear b1 hs hq)
                | ((with_reducible show wpList _ _ _ (Oper.mk (some 94) (.load _ _) _ _ _ _ :: _) _ _); refine wpList_yields (S := fun w' => KeyAt w' gk 0 (⟨6, 1, 1, 0, 0, 0⟩ : Ky)) (y_kyJ (by rfl) (.tmp 13) (by rfl) gk 0 (by rfl) (⟨6, 1, 1, 0, 0, 0⟩ : Ky) (fun _ h => h)) HK1.out.kat ?_)
                | ((with_reducible show wpList _ _ _ (Oper.mk (some 98) (.load _ _) _ _ _ _ :: _) _ _); refine wpList_yields (S := fun w' => MgAt w' w.heap.size 0 m) (y_mg (by rfl) (.tmp 5) (by rfl) w.heap.size 0 (by rfl) m (fun _ h => h)) HP1.out.bm.mg ?_)
                | ((with_reducible show wpList _ _ _ (Oper.mk (some 99) (.build _ _) _ _ _ _ :: _) _ _); refine wpList_yields (S := fun _ => True) (y_bl4 (by rfl) (.const (.int .i64 1)) (.tmp 94) (.tmp 97) (.tmp 98) (by rfl) (by rfl) (by rfl) (by rfl) (by rfl) (builtAct (⟨6, 1, 1, 0, 0, 0⟩ : Ky) md m)) trivial ?_)
                | (go_at_call 10; refine (does_any (n := 2) HS1.out rfl (by decide) (by decide) HOK.out (TabB.of HT.out HP1.out.bel HQ1.out) HR1.out HF1.out ⟨1, 0, (⟨6, 1, 1, 0, 0, 0⟩ : Ky), md, 0, m⟩).mono ?_; rintro e w2 ⟨L2, c2, rfl, hL2, hs2, hr2, hf2⟩; have HS2 := Lib.hid hs2; have HR2 := Lib.hid hr2; have HP2 := Lib.hid (pst_fr HP1.out HS1.out HQ1.out hf2); clear hL2 hs2 hr2 hf2)
                | (go_at_call 11; refine (same_n (n := 2) HS2.out (doesA_len _ _) (by decide) (by decide) _ _ HR2.out).mono ?_; rintro e w3 ⟨rfl, b3⟩; have HP3 := Lib.hid (HP2.out.below b3); have HS3 := Lib.hid (HS2.out.below b3); have HR3 := Lib.hid (HR2.out.below b3); clear b3)
                | (go_at_call 12; refine (states_any (n := 2) HS3.out (doesA_len _ _) (by decide) (by decide) (HT.out.below HP3.out.bel) HR3.out).mono ?_; rintro e w4 ⟨rfl, b4⟩; have HP4 := Lib.hid (HP3.out.below b4); clear b4))
              go_roundw
              case rel => exact ⟨k + 1, by omega, by go_num, HP4.out⟩
              case measure => simp [intOf]; omega
        · obtain rfl : k = 192 := by omega
          have e0 : decide ((192 : Int) < 192) = false := rfl
          go_wp2_with (go_at_call 9; refine (known_any _ (HT.out.below HP.out.bel)).mono ?_; rintro e v9 ⟨rfl, b_⟩; have B9 := Lib.hid ((HP.out.bel).trans (b_.mono (HP.out.bel).size)); clear b_)
          go_ret
          exact ⟨rfl, B9.out⟩
set_option maxRecDepth 8000 in
theorem walk (w : World) (hL : laidMetH Tryd.prog laidK w) (a b : Int) (m : Mg) : Calls Tryd.prog 6 #[.int .i64 a, .int .i64 b, m.val] w fun e w' => e = .returned (.bool true) ∧ Below w.heap.size w w' := by
  have hT := tab_of hL
  by_cases h0 : a < 0
  · exact out0 w hT a b m h0
  · by_cases h1 : 4294967295 < a
    · exact out1 w hT a b m h0 h1
    · by_cases h2 : b < 0
      · exact out2 w hT a b m h0 h1 h2
      · by_cases h3 : 4294967295 < b
        · exact out3 w hT a b m h0 h1 h2 h3
        · by_cases h4 : 40 < m.d.length
          · exact out4 w hT a b m h0 h1 h2 h3 h4
          · exact inb w hT a b m ⟨by omega, by omega⟩ ⟨by omega, by omega⟩ h4
set_option maxRecDepth 100000 in
theorem lifted (os : Os) (started : os.Started) (H : Type) (enc : TypeId × Value → H) :
    ReturnsInHanded {} Tryd.checked os 6 .any (fun w args => (Rows.procsStatesSpec.pre enc Tryd.prog Tryd.f6 [] false w args ∧ laidMetH Tryd.prog laidK w) ∧ sizedMet enc Tryd.prog Tryd.f6 (OpenSpec.ofChange Rows.procsStatesSpec) false w args) (Rows.procsStatesSpec.post enc Tryd.prog Tryd.f6 false true false false) := by
  refine returnsInHanded_of_change_and (C := Tryd.checked) (X := fun w _ => laidMetH Tryd.prog laidK w) (fun _ _ _ hh h => h.of_heap hh) own started (by kernel_rfl) Tryd.func6
    (ChangeSpec.witness_shaped (enc := enc) (C := Tryd.checked) (os := os) (X := fun w _ => laidMetH Tryd.prog laidK w) false (World.doorLaid Tryd.prog 40 os) #[.int .i64 0, .int .i64 0, .agg #[.int .i64 0, .string ⟨#[]⟩, .int .i64 0, .int .i64 0, .int .i64 0, .int .i64 0, .int .i64 0, .int .i64 0, .int .i64 0, .int .i64 0, .int .i64 0, .int .i64 0, .int .i64 0, .int .i64 0, .int .i64 0, .int .i64 0, .int .i64 0, .int .i64 0, .int .i64 0, .int .i64 0]] 8 rfl (World.shaped_of_RefB (by kernel_rfl) (by kernel_rfl)) (by kernel_rfl) (by kernel_rfl) (by kernel_rfl) (door_met os _)) ?_
  intro W base args ds gs before hval0 hW _ _ hL _
  have hval : ∀ (j : Nat) t v, Tryd.f6.params[j]? = some t → args[j]? = some v → Value.okWide Tryd.prog W .any base t v := hval0
  have hW' := hW
  obtain ⟨p, q, hA0, hV, rfl, hfz, hnd⟩ := hW
  have hA : DataW.TrodAll enc Tryd.prog W 0 (fun _ => true) true Tryd.f6.params.toList args.toList ds p := hA0
  rw [Tryd.params6] at hA hval
  obtain ⟨v0, vs0, d0, ds0, p0, q0, hargs, rfl, rfl, h0, t0⟩ := trodAll_cons hA
  obtain ⟨v1, vs1, d1, ds1, p1, q1, rfl, rfl, rfl, h1, t1⟩ := trodAll_cons t0
  obtain ⟨v2, vs2, d2, ds2, p2, q2, rfl, rfl, rfl, h2, t2⟩ := trodAll_cons t1
  obtain ⟨rfl, rfl, rfl⟩ := trodAll_nil t2
  obtain rfl : args = #[v0, v1, v2] := by cases args; simp_all
  obtain ⟨rfl, rfl⟩ := trodVars_none hV
  have k0 := h0
  have lt0 : ∀ x ∈ p0, x.block < W.heap.size := by obtain ⟨m, hm⟩ := k0; exact DataW.trod_lt m _ _ _ hm
  obtain ⟨a0, rfl, rfl, rfl, _⟩ := open_int Tryd.underlying2 (hval 0 2 v0 rfl rfl) h0
  have k1 := h1
  have lt1 : ∀ x ∈ p1, x.block < W.heap.size := by obtain ⟨m, hm⟩ := k1; exact DataW.trod_lt m _ _ _ hm
  obtain ⟨a1, rfl, rfl, rfl, _⟩ := open_int Tryd.underlying2 (hval 1 2 v1 rfl rfl) h1
  have k2 := h2
  have lt2 : ∀ x ∈ p2, x.block < W.heap.size := by obtain ⟨m, hm⟩ := k2; exact DataW.trod_lt m _ _ _ hm
  obtain ⟨m2, rfl⟩ := open_mg (hval 2 38 v2 rfl rfl) h2
  clear hA0 hval0
  refine (walk W hL a0 a1 m2).mono fun e W' ⟨he, bel⟩ => ?_
  subst he
  exact ⟨_, rfl, _, _, _, [], _, [], hW', trodAll_mk1 (shut_bool Tryd.underlying4 _), (trodAll_cons_mk (Below.trod laidOut (by kernel_rfl) (of_decide_eq_true (by kernel_rfl)) k0 bel lt0) (trodAll_cons_mk (Below.trod laidOut (by kernel_rfl) (of_decide_eq_true (by kernel_rfl)) k1 bel lt1) (trodAll_cons_mk (Below.trod laidOut (by kernel_rfl) (of_decide_eq_true (by kernel_rfl)) k2 bel lt2) trodAll_mk0))), rfl, bel.frame _, fun h => by cases h⟩
theorem over : Rows.procsStatesRow.holds Tryd.pinned (OpenSpec.ofChange Rows.procsStatesSpec) :=
  OpenClaim.holds_of_wide 6 Tryd.f6 rfl rfl rfl rfl rfl rfl rfl ⟨rfl, rfl, rfl, rfl, rfl⟩ rfl rfl rfl rfl rfl (by kernel_rfl) Tryd.func6 (by kernel_rfl)
    (of_decide_eq_true (by kernel_rfl)) (by unfold Func.isWrapper; first | (rw [if_pos (by decide +kernel)]; kernel_rfl) | (rw [if_neg (by decide +kernel)]; exact ⟨rfl, rfl⟩))
    (fun os started H enc _ => lifted os started H enc)
set_option maxRecDepth 8000 in
theorem proved : Rows.ProcsStatesCardSaid :=
  Claim7.holds_tied_plain_at .later [] [.data] true Rows.procsStatesCard.stood.harness true
    over (fun _ h => by cases h) (by kernel_rfl) (fun _ h => by cases h) procsStates_row_tie rfl ⟨rfl, rfl⟩ (by kernel_rfl) rfl
    (fun f fn hf hfn => by
      obtain rfl : f = 6 := Option.some.inj ((show Tryd.prog.funcNamed "chatelaine/chatelainelaw13.ProcsStates" = some 6 by kernel_rfl).symm.trans hf) |>.symm
      obtain rfl : fn = Tryd.f6 := (Option.some.inj (Tryd.func6.symm.trans hfn)).symm
      exact ⟨by kernel_rfl, fun j t ht => by
        rw [Tryd.params6] at ht
        have hm : t ∈ [2, 2, 38] := by simpa using Array.mem_of_getElem? ht
        have hall : ([2, 2, 38].all fun u => !Tryd.prog.wantsStandIn u) = true := by kernel_rfl
        exact (show Tryd.prog.wantsStandIn t = false by simpa using List.all_eq_true.1 hall t hm)⟩)
    (by kernel_rfl)
end Go.Proofs.YtljfddeolapeaaaDoor.procsStates

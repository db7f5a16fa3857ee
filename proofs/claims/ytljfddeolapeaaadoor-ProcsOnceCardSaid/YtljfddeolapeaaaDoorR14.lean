/- objects: a Step, steps, a row of objects, as they lie: words. -/
import Derived.Test.YtljfddeolapeaaaDoorR13
import Derived.Test.YtljfddeolapeaaaDoorR12
import Derived.Test.YtljfddeolapeaaaDoorR09
import Derived.Test.YtljfddeolapeaaaDoorR11
import Derived.Test.YtljfddeolapeaaaDoorR07
import Derived.Deep.AppendLies
namespace Go.Proofs.YtljfddeolapeaaaDoor
open List renaming getElem_toArray → zq1, getElem_cons_succ → zq2, getElem_cons_zero → zq3, setIfInBounds_toArray → zq4, set_cons_zero → zq5, set_cons_succ → zq6
open Go.ChangeShapes Go.WideShapes Go.ChangeAt Go.RowKit
structure Stp where
  puts : Bool
  oid : Int
  o : Oj
def Stp.cells (x : Stp) : List Value := .bool x.puts :: .int .i64 x.oid :: x.o.cells
abbrev Stp.val (x : Stp) : Value := .agg x.cells.toArray
set_option maxRecDepth 8000 in
theorem Stp.len (x : Stp) : x.cells.length = 165 := by simp [Stp.cells, x.o.len]
set_option maxRecDepth 8000 in
theorem Stp.one (x : Stp) : ∀ u ∈ x.cells, u.oneCell' = true := by
  intro u hu
  simp only [Stp.cells, List.mem_cons] at hu
  rcases hu with rfl | rfl | h
  · rfl
  · rfl
  · exact x.o.one u h
def StpAt (w : World) (b off : Nat) (x : Stp) : Prop := w.rangeAt b off x.cells
section
variable {w w' : World} {b off : Nat} {x : Stp}
theorem StpAt.lt (h : StpAt w b off x) : b < w.heap.size := cell_lt (h 0 _ rfl)
theorem StpAt.below (h : StpAt w b off x) (hb : Below w.heap.size w w') : StpAt w' b off x := fun j v hv => (World.cell?_of_block (a := ⟨b, off + j, none⟩) (hb.block b h.lt)).trans (h j v hv)
theorem StpAt.drew (h : StpAt w b off x) : StpAt w.drew b off x := h
theorem StpAt.ob (h : StpAt w b off x) : ObAt w b (off + 2) x.o := fun j v hv => by
  have := h (j + 2) v (by show x.o.cells[j]? = some v; exact hv)
  rw [show off + 2 + j = off + (j + 2) by omega]
  exact this
end
theorem StpAt.setRow {w : World} {b g : Nat} {x : Stp} (h : StpAt w b 0 x) (hne : b ≠ g) (c : Array Value) : StpAt (w.setRow g c) b 0 x := fun j v hv => (World.cell?_of_block (a := ⟨b, 0 + j, none⟩) (setRow_other w g b c hne)).trans (h j v hv)
/-- the steps l lie from A on -/
def RdS (w : World) (A : Option Addr) (l : List Stp) : Prop := ∀ i (h : i < l.length), ∃ b off, A = some ⟨b, off, none⟩ ∧ StpAt w b (off + i * 165) l[i]
theorem RdS.below {w w' : World} {A : Option Addr} {l : List Stp} (h : RdS w A l) (hb : Below w.heap.size w w') : RdS w' A l := fun i hi => by
  obtain ⟨b, off, e, ho⟩ := h i hi
  exact ⟨b, off, e, ho.below hb⟩
-- a row of objects, whole
def ocs : List Oj → List Value
  | [] => []
  | o :: l => o.cells ++ ocs l
set_option maxRecDepth 8000 in
theorem ocs_length (l : List Oj) : (ocs l).length = l.length * 163 := by
  induction l with
  | nil => rfl
  | cons o l ih => simp [ocs, o.len, ih]; omega
theorem ocs_get : ∀ (l : List Oj) (i : Nat) (h : i < l.length) (j : Nat), j < 163 → (ocs l)[i * 163 + j]? = l[i].cells[j]?
  | o :: l, 0, _, j, hj => by
    rw [Nat.zero_mul, Nat.zero_add, ocs, List.getElem?_append_left (by rw [o.len]; exact hj)]
    rfl
  | o :: l, i + 1, h, j, hj => by
    have := ocs_get l i (by simpa using h) j hj
    rw [ocs, List.getElem?_append_right (by rw [o.len]; omega), o.len, show (i + 1) * 163 + j - 163 = i * 163 + j by omega, this]
    rfl
set_option maxRecDepth 8000 in
theorem ocs_set : ∀ (l : List Oj) (i : Nat) (_ : i < l.length) (o : Oj), (ocs l).take (i * 163) ++ o.cells ++ (ocs l).drop (i * 163 + 163) = ocs (l.set i o)
  | x :: l, 0, _, o => by
    have hx := x.len
    have hd : (x.cells ++ ocs l).drop 163 = ocs l := by rw [← hx, List.drop_left]
    simp [ocs, hd]
  | x :: l, i + 1, h, o => by
    have := ocs_set l i (by simpa using h) o
    have e : (i + 1) * 163 = x.cells.length + i * 163 := by rw [x.len]; omega
    rw [e, ocs, List.set_cons_succ, ocs, ← this, List.take_length_add_append, show x.cells.length + i * 163 + 163 = x.cells.length + (i * 163 + 163) by omega, List.drop_length_add_append]
    simp only [List.append_assoc]
section
variable {H : Type} {enc : TypeId × Value → H} {W : World} {base : Nat} {spare : Nat → Bool} {held : Bool} {fuel : Nat}
end
end Go.Proofs.YtljfddeolapeaaaDoor
namespace Go.Proofs.YtljfddeolapeaaaDoor
open List renaming getElem_toArray → zq1, getElem_cons_succ → zq2, getElem_cons_zero → zq3, setIfInBounds_toArray → zq4, set_cons_zero → zq5, set_cons_succ → zq6
open Go.RowKit
attribute [local go_sem] Oper.semAt_some
section
variable {w : World} {A : Option Addr} {l : List Oj} {cap : Nat}
theorem six_and {a b c d e f g : Prop} (h : a ∧ b ∧ c ∧ d ∧ e ∧ f) (k : g) : a ∧ b ∧ c ∧ d ∧ e ∧ f ∧ g := ⟨h.1, h.2.1, h.2.2.1, h.2.2.2.1, h.2.2.2.2.1, h.2.2.2.2.2, k⟩
set_option maxRecDepth 100000 in
set_option maxHeartbeats 2000000 in
theorem rcounts_not (x : Ky) (h : ¬ x.of) :
    Calls Tryd.prog 58 #[.slice A l.length cap, x.val] w fun e w' => e = .returned (.bool false) ∧ Below w.heap.size w w' := by
  have HB := Lib.hid ((Below.refl w.heap.size w).alloc (Nat.le_refl _) (.cells (kc x.k x.o x.c x.l x.r x.v) 33))
  have HK := Lib.hid (Blk.new w 33 (kc x.k x.o x.c x.l x.r x.v))
  have HF := Lib.hid h
  have d0 : decide ((0 : Int) ≤ -1) = false := by decide
  clear h
  go_enter Tryd.func58, Tryd.ntmps58
  go_wp2_with (go_at_call 79; refine (rname_no x _ HF.out).mono ?_; rintro e w1 ⟨rfl, b1⟩; have HB1 := Lib.hid (HB.out.trans (b1.mono HB.out.size)); have HK1 := Lib.hid (HK.out.keep b1); clear b1)
  refine wp_region_only (S := fun w' => w'.cell? ⟨w.heap.size, 0, none⟩ = some (.int .i64 x.k) ∧ w'.cell? ⟨w.heap.size, 1, none⟩ = some (.int .i64 x.o) ∧ w'.cell? ⟨w.heap.size, 2, none⟩ = some (.int .i64 x.c) ∧ w'.cell? ⟨w.heap.size, 3, none⟩ = some (.int .i64 x.l) ∧ w'.cell? ⟨w.heap.size, 4, none⟩ = some (.int .i64 x.r) ∧ w'.cell? ⟨w.heap.size, 5, none⟩ = some (.int .i64 x.v)) (by kernel_rfl) HK1.out.drew.six (fun hHeld => ?_)
  refine wpAnyH_take (i := 0) (v := ?v1) rfl (by kernel_rfl) (by kernel_rfl) (by kernel_rfl) (fun _ _ _ h => h) (Or.inl ⟨by rfl, ?hy1⟩) hHeld ?rest1
  case hy1 =>
    intro w' hSw
    try dsimp only at hSw
    go_simp
    first | done | with_reducible rfl
  try simp only [Act.put, zq1, zq3, zq4, zq5, zq6]
  refine wpAnyH_take (i := 1) (v := ?v2) rfl (by kernel_rfl) (by kernel_rfl) (by kernel_rfl) (fun _ _ _ h => h) (Or.inl ⟨by rfl, ?hy2⟩) hHeld ?rest2
  case hy2 =>
    intro w' hSw
    try dsimp only at hSw
    go_simp
    first | done | with_reducible rfl
  try simp only [Act.put, zq1, zq2, zq3, zq4, zq5, zq6]
  refine wpAnyH_take (i := 2) (v := ?v3) rfl (by kernel_rfl) (by kernel_rfl) (by kernel_rfl) (fun _ _ _ h => h) (Or.inl ⟨by rfl, ?hy3⟩) hHeld ?rest3
  case hy3 =>
    intro w' hSw
    try dsimp only at hSw
    go_simp
    first | done | with_reducible rfl
  try simp only [Act.put, zq1, zq2, zq3, zq4, zq5, zq6]
  refine wpAnyH_take (i := 3) (v := undef) rfl (by kernel_rfl) (by kernel_rfl) (by kernel_rfl) (fun _ _ _ h => h) (Or.inr ⟨by rfl, rfl⟩) hHeld ?_
  try simp only [Act.put, zq1, zq2, zq3, zq4, zq5, zq6]
  refine wpAnyH_take (i := 4) (v := undef) rfl (by kernel_rfl) (by kernel_rfl) (by kernel_rfl) (fun _ _ _ h => h) (Or.inr ⟨by rfl, rfl⟩) hHeld ?_
  try simp only [Act.put, zq1, zq2, zq3, zq4, zq5, zq6]
  refine wpAnyH_take (i := 5) (v := undef) rfl (by kernel_rfl) (by kernel_rfl) (by kernel_rfl) (fun _ _ _ h => h) (Or.inr ⟨by rfl, rfl⟩) hHeld ?_
  try simp only [Act.put, zq1, zq2, zq3, zq4, zq5, zq6]
  refine wpAnyH_take (i := 6) (v := undef) rfl (by kernel_rfl) (by kernel_rfl) (by kernel_rfl) (fun _ _ _ h => h) (Or.inr ⟨by rfl, rfl⟩) hHeld ?_
  try simp only [Act.put, zq1, zq2, zq3, zq4, zq5, zq6]
  refine wpAnyH_take (i := 7) (v := ?v4) rfl (by kernel_rfl) (by kernel_rfl) (by kernel_rfl) (fun _ _ _ h => h) (Or.inl ⟨by rfl, ?hy4⟩) hHeld ?rest4
  case hy4 =>
    intro w' hSw
    try dsimp only at hSw
    go_simp
    first | done | with_reducible rfl
  try simp only [Act.put, zq1, zq2, zq3, zq4, zq5, zq6]
  refine wpAnyH_take (i := 8) (v := ?v5) rfl (by kernel_rfl) (by kernel_rfl) (by kernel_rfl) (fun _ _ _ h => h) (Or.inl ⟨by rfl, ?hy5⟩) hHeld ?rest5
  case hy5 =>
    intro w' hSw
    try dsimp only at hSw
    go_simp
    first | done | with_reducible rfl
  try simp only [Act.put, zq1, zq2, zq3, zq4, zq5, zq6]
  refine wpAnyH_take (i := 9) (v := undef) rfl (by kernel_rfl) (by kernel_rfl) (by kernel_rfl) (fun _ _ _ h => h) (Or.inr ⟨by rfl, rfl⟩) hHeld ?_
  try simp only [Act.put, zq1, zq2, zq3, zq4, zq5, zq6]
  refine wpAnyH_take (i := 10) (v := undef) rfl (by kernel_rfl) (by kernel_rfl) (by kernel_rfl) (fun _ _ _ h => h) (Or.inr ⟨by rfl, rfl⟩) hHeld ?_
  try simp only [Act.put, zq1, zq2, zq3, zq4, zq5, zq6]
  refine wpAnyH_take (i := 11) (v := undef) rfl (by kernel_rfl) (by kernel_rfl) (by kernel_rfl) (fun _ _ _ h => h) (Or.inr ⟨by rfl, rfl⟩) hHeld ?_
  try simp only [Act.put, zq1, zq2, zq3, zq4, zq5, zq6]
  refine wpAnyH_take (i := 12) (v := undef) rfl (by kernel_rfl) (by kernel_rfl) (by kernel_rfl) (fun _ _ _ h => h) (Or.inr ⟨by rfl, rfl⟩) hHeld ?_
  try simp only [Act.put, zq1, zq2, zq3, zq4, zq5, zq6]
  refine wpAnyH_take (i := 13) (v := undef) rfl (by kernel_rfl) (by kernel_rfl) (by kernel_rfl) (fun _ _ _ h => h) (Or.inr ⟨by rfl, rfl⟩) hHeld ?_
  try simp only [Act.put, zq1, zq2, zq3, zq4, zq5, zq6]
  refine wpAnyH_take (i := 14) (v := undef) rfl (by kernel_rfl) (by kernel_rfl) (by kernel_rfl) (fun _ _ _ h => h) (Or.inr ⟨by rfl, rfl⟩) hHeld ?_
  try simp only [Act.put, zq1, zq2, zq3, zq4, zq5, zq6]
  refine wpAnyH_take (i := 15) (v := undef) rfl (by kernel_rfl) (by kernel_rfl) (by kernel_rfl) (fun _ _ _ h => h) (Or.inr ⟨by rfl, rfl⟩) hHeld ?_
  try simp only [Act.put, zq1, zq2, zq3, zq4, zq5, zq6]
  refine wpAnyH_take (i := 16) (v := undef) rfl (by kernel_rfl) (by kernel_rfl) (by kernel_rfl) (fun _ _ _ h => h) (Or.inr ⟨by rfl, rfl⟩) hHeld ?_
  try simp only [Act.put, zq1, zq2, zq3, zq4, zq5, zq6]
  refine wpAnyH_take (i := 17) (v := undef) rfl (by kernel_rfl) (by kernel_rfl) (by kernel_rfl) (fun _ _ _ h => h) (Or.inr ⟨by rfl, rfl⟩) hHeld ?_
  try simp only [Act.put, zq1, zq2, zq3, zq4, zq5, zq6]
  refine wpAnyH_take (i := 18) (v := undef) rfl (by kernel_rfl) (by kernel_rfl) (by kernel_rfl) (fun _ _ _ h => h) (Or.inr ⟨by rfl, rfl⟩) hHeld ?_
  try simp only [Act.put, zq1, zq2, zq3, zq4, zq5, zq6]
  refine wpAnyH_take (i := 19) (v := ?v6) rfl (by kernel_rfl) (by kernel_rfl) (by kernel_rfl) (fun _ _ _ h => h) (Or.inl ⟨by rfl, ?hy6⟩) hHeld ?rest6
  case hy6 =>
    intro w' hSw
    try dsimp only at hSw
    go_simp
    first | done | with_reducible rfl
  try simp only [Act.put, zq1, zq2, zq3, zq4, zq5, zq6]
  refine wpAnyH_take (i := 20) (v := ?v7) rfl (by kernel_rfl) (by kernel_rfl) (by kernel_rfl) (fun _ _ _ h => h) (Or.inl ⟨by rfl, ?hy7⟩) hHeld ?rest7
  case hy7 =>
    intro w' hSw
    try dsimp only at hSw
    go_simp
    first | done | with_reducible rfl
  try simp only [Act.put, zq1, zq2, zq3, zq4, zq5, zq6]
  refine wpAnyH_done (by kernel_rfl) ?_ _
  refine OnlyN.normal ?_
  clear hHeld
  go_wp2
  go_ret
  exact ⟨rfl, below_drew HB1.out⟩
set_option maxRecDepth 100000 in
set_option maxHeartbeats 2000000 in
theorem rcounts_out (x : Ky) (h : x.of) (hi : (l.length : Int) ≤ x.o) :
    Calls Tryd.prog 58 #[.slice A l.length cap, x.val] w fun e w' => e = .returned (.bool false) ∧ Below w.heap.size w w' := by
  have HB := Lib.hid ((Below.refl w.heap.size w).alloc (Nat.le_refl _) (.cells (kc x.k x.o x.c x.l x.r x.v) 33))
  have HK := Lib.hid (Blk.new w 33 (kc x.k x.o x.c x.l x.r x.v))
  have HF := Lib.hid h
  have d0 : decide ((0 : Int) ≤ x.o) = true := decide_eq_true (of_o h)
  have d1 : decide (x.o < (l.length : Int)) = false := decide_eq_false (by omega)
  clear h hi
  go_enter Tryd.func58, Tryd.ntmps58
  go_wp2_with (go_at_call 79; refine (rname_yes x _ HF.out).mono ?_; rintro e w1 ⟨rfl, b1⟩; have HB1 := Lib.hid (HB.out.trans (b1.mono HB.out.size)); have HK1 := Lib.hid (HK.out.keep b1); clear b1)
  refine wp_region_only (S := fun w' => w'.cell? ⟨w.heap.size, 0, none⟩ = some (.int .i64 x.k) ∧ w'.cell? ⟨w.heap.size, 1, none⟩ = some (.int .i64 x.o) ∧ w'.cell? ⟨w.heap.size, 2, none⟩ = some (.int .i64 x.c) ∧ w'.cell? ⟨w.heap.size, 3, none⟩ = some (.int .i64 x.l) ∧ w'.cell? ⟨w.heap.size, 4, none⟩ = some (.int .i64 x.r) ∧ w'.cell? ⟨w.heap.size, 5, none⟩ = some (.int .i64 x.v)) (by kernel_rfl) HK1.out.drew.six (fun hHeld => ?_)
  refine wpAnyH_take (i := 0) (v := ?v8) rfl (by kernel_rfl) (by kernel_rfl) (by kernel_rfl) (fun _ _ _ h => h) (Or.inl ⟨by rfl, ?hy8⟩) hHeld ?rest8
  case hy8 =>
    intro w' hSw
    try dsimp only at hSw
    go_simp
    first | done | with_reducible rfl
  try simp only [Act.put, zq1, zq3, zq4, zq5, zq6]
  refine wpAnyH_take (i := 1) (v := ?v9) rfl (by kernel_rfl) (by kernel_rfl) (by kernel_rfl) (fun _ _ _ h => h) (Or.inl ⟨by rfl, ?hy9⟩) hHeld ?rest9
  case hy9 =>
    intro w' hSw
    try dsimp only at hSw
    go_simp
    first | done | with_reducible rfl
  try simp only [Act.put, zq1, zq2, zq3, zq4, zq5, zq6]
  refine wpAnyH_take (i := 2) (v := ?v10) rfl (by kernel_rfl) (by kernel_rfl) (by kernel_rfl) (fun _ _ _ h => h) (Or.inl ⟨by rfl, ?hy10⟩) hHeld ?rest10
  case hy10 =>
    intro w' hSw
    try dsimp only at hSw
    go_simp
    first | done | with_reducible rfl
  try simp only [Act.put, zq1, zq2, zq3, zq4, zq5, zq6]
  refine wpAnyH_take (i := 3) (v := ?v11) rfl (by kernel_rfl) (by kernel_rfl) (by kernel_rfl) (fun _ _ _ h => h) (Or.inl ⟨by rfl, ?hy11⟩) hHeld ?rest11
  case hy11 =>
    intro w' hSw
    try dsimp only at hSw
    go_simp
    first | done | with_reducible rfl
  try simp only [Act.put, zq1, zq2, zq3, zq4, zq5, zq6]
  refine wpAnyH_take (i := 4) (v := ?v12) rfl (by kernel_rfl) (by kernel_rfl) (by kernel_rfl) (fun _ _ _ h => h) (Or.inl ⟨by rfl, ?hy12⟩) hHeld ?rest12
  case hy12 =>
    intro w' hSw
    try dsimp only at hSw
    go_simp
    first | done | with_reducible rfl
  try simp only [Act.put, zq1, zq2, zq3, zq4, zq5, zq6]
  refine wpAnyH_take (i := 5) (v := ?v13) rfl (by kernel_rfl) (by kernel_rfl) (by kernel_rfl) (fun _ _ _ h => h) (Or.inl ⟨by rfl, ?hy13⟩) hHeld ?rest13
  case hy13 =>
    intro w' hSw
    try dsimp only at hSw
    go_simp
    first | done | with_reducible rfl
  try simp only [Act.put, zq1, zq2, zq3, zq4, zq5, zq6]
  refine wpAnyH_take (i := 6) (v := ?v14) rfl (by kernel_rfl) (by kernel_rfl) (by kernel_rfl) (fun _ _ _ h => h) (Or.inl ⟨by rfl, ?hy14⟩) hHeld ?rest14
  case hy14 =>
    intro w' hSw
    try dsimp only at hSw
    go_simp
    first | done | with_reducible rfl
  try simp only [Act.put, zq1, zq2, zq3, zq4, zq5, zq6]
  refine wpAnyH_take (i := 7) (v := ?v15) rfl (by kernel_rfl) (by kernel_rfl) (by kernel_rfl) (fun _ _ _ h => h) (Or.inl ⟨by rfl, ?hy15⟩) hHeld ?rest15
  case hy15 =>
    intro w' hSw
    try dsimp only at hSw
    go_simp
    first | done | with_reducible rfl
  try simp only [Act.put, zq1, zq2, zq3, zq4, zq5, zq6]
  refine wpAnyH_take (i := 8) (v := ?v16) rfl (by kernel_rfl) (by kernel_rfl) (by kernel_rfl) (fun _ _ _ h => h) (Or.inl ⟨by rfl, ?hy16⟩) hHeld ?rest16
  case hy16 =>
    intro w' hSw
    try dsimp only at hSw
    go_simp
    first | done | with_reducible rfl
  try simp only [Act.put, zq1, zq2, zq3, zq4, zq5, zq6]
  refine wpAnyH_take (i := 9) (v := undef) rfl (by kernel_rfl) (by kernel_rfl) (by kernel_rfl) (fun _ _ _ h => h) (Or.inr ⟨by rfl, rfl⟩) hHeld ?_
  try simp only [Act.put, zq1, zq2, zq3, zq4, zq5, zq6]
  refine wpAnyH_take (i := 10) (v := undef) rfl (by kernel_rfl) (by kernel_rfl) (by kernel_rfl) (fun _ _ _ h => h) (Or.inr ⟨by rfl, rfl⟩) hHeld ?_
  try simp only [Act.put, zq1, zq2, zq3, zq4, zq5, zq6]
  refine wpAnyH_take (i := 11) (v := undef) rfl (by kernel_rfl) (by kernel_rfl) (by kernel_rfl) (fun _ _ _ h => h) (Or.inr ⟨by rfl, rfl⟩) hHeld ?_
  try simp only [Act.put, zq1, zq2, zq3, zq4, zq5, zq6]
  refine wpAnyH_take (i := 12) (v := undef) rfl (by kernel_rfl) (by kernel_rfl) (by kernel_rfl) (fun _ _ _ h => h) (Or.inr ⟨by rfl, rfl⟩) hHeld ?_
  try simp only [Act.put, zq1, zq2, zq3, zq4, zq5, zq6]
  refine wpAnyH_take (i := 13) (v := undef) rfl (by kernel_rfl) (by kernel_rfl) (by kernel_rfl) (fun _ _ _ h => h) (Or.inr ⟨by rfl, rfl⟩) hHeld ?_
  try simp only [Act.put, zq1, zq2, zq3, zq4, zq5, zq6]
  refine wpAnyH_take (i := 14) (v := undef) rfl (by kernel_rfl) (by kernel_rfl) (by kernel_rfl) (fun _ _ _ h => h) (Or.inr ⟨by rfl, rfl⟩) hHeld ?_
  try simp only [Act.put, zq1, zq2, zq3, zq4, zq5, zq6]
  refine wpAnyH_take (i := 15) (v := undef) rfl (by kernel_rfl) (by kernel_rfl) (by kernel_rfl) (fun _ _ _ h => h) (Or.inr ⟨by rfl, rfl⟩) hHeld ?_
  try simp only [Act.put, zq1, zq2, zq3, zq4, zq5, zq6]
  refine wpAnyH_take (i := 16) (v := undef) rfl (by kernel_rfl) (by kernel_rfl) (by kernel_rfl) (fun _ _ _ h => h) (Or.inr ⟨by rfl, rfl⟩) hHeld ?_
  try simp only [Act.put, zq1, zq2, zq3, zq4, zq5, zq6]
  refine wpAnyH_take (i := 17) (v := undef) rfl (by kernel_rfl) (by kernel_rfl) (by kernel_rfl) (fun _ _ _ h => h) (Or.inr ⟨by rfl, rfl⟩) hHeld ?_
  try simp only [Act.put, zq1, zq2, zq3, zq4, zq5, zq6]
  refine wpAnyH_take (i := 18) (v := undef) rfl (by kernel_rfl) (by kernel_rfl) (by kernel_rfl) (fun _ _ _ h => h) (Or.inr ⟨by rfl, rfl⟩) hHeld ?_
  try simp only [Act.put, zq1, zq2, zq3, zq4, zq5, zq6]
  refine wpAnyH_take (i := 19) (v := ?v17) rfl (by kernel_rfl) (by kernel_rfl) (by kernel_rfl) (fun _ _ _ h => h) (Or.inl ⟨by rfl, ?hy17⟩) hHeld ?rest17
  case hy17 =>
    intro w' hSw
    try dsimp only at hSw
    go_simp
    first | done | with_reducible rfl
  try simp only [Act.put, zq1, zq2, zq3, zq4, zq5, zq6]
  refine wpAnyH_take (i := 20) (v := ?v18) rfl (by kernel_rfl) (by kernel_rfl) (by kernel_rfl) (fun _ _ _ h => h) (Or.inl ⟨by rfl, ?hy18⟩) hHeld ?rest18
  case hy18 =>
    intro w' hSw
    try dsimp only at hSw
    go_simp
    first | done | with_reducible rfl
  try simp only [Act.put, zq1, zq2, zq3, zq4, zq5, zq6]
  refine wpAnyH_done (by kernel_rfl) ?_ _
  refine OnlyN.normal ?_
  clear hHeld
  go_wp2
  go_ret
  exact ⟨rfl, below_drew HB1.out⟩
set_option maxRecDepth 100000 in
set_option maxHeartbeats 2000000 in
theorem rcounts_in (x : Ky) (h : x.of) (i : Nat) (hxi : x.o = i) (hi : i < l.length) (hl : l.length ≤ 1000) (b off : Nat) (hA : A = some ⟨b, off, none⟩) (o : Oj) (hob : ObAt w b (off + i * 163) o) :
    Calls Tryd.prog 58 #[.slice A l.length cap, x.val] w fun e w' => e = .returned (.bool (x.cn o)) ∧ Below w.heap.size w w' := by
  have HB := Lib.hid ((Below.refl w.heap.size w).alloc (Nat.le_refl _) (.cells (kc x.k x.o x.c x.l x.r x.v) 33))
  have HK := Lib.hid (Blk.new w 33 (kc x.k x.o x.c x.l x.r x.v))
  have HF := Lib.hid h
  have HOB := Lib.hid hob
  subst hA
  have d0 : decide ((0 : Int) ≤ x.o) = true := decide_eq_true (by omega)
  have d1 : decide (x.o < (l.length : Int)) = true := decide_eq_true (by omega)
  have hw : IntKind.i64.wrap ((l.length : Int) - 1) = (l.length : Int) - 1 := by simp only [IntKind.wrap, IntKind.bits, IntKind.signed]; simp; omega
  have hmn : (if (l.length : Int) - 1 < x.o then (l.length : Int) - 1 else x.o) = (i : Int) := by split <;> omega
  have hil : (i : Int) < (l.length : Int) := by omega
  clear h hob hxi
  go_enter Tryd.func58, Tryd.ntmps58
  go_wp2_with (go_at_call 79; refine (rname_yes x _ HF.out).mono ?_; rintro e w1 ⟨rfl, b1⟩; have HB1 := Lib.hid (HB.out.trans (b1.mono HB.out.size)); have HK1 := Lib.hid (HK.out.keep b1); clear b1)
  have HO1 := Lib.hid (HOB.out.below HB1.out)
  refine wp_region_only (S := fun w' => w'.cell? ⟨w.heap.size, 0, none⟩ = some (.int .i64 x.k) ∧ w'.cell? ⟨w.heap.size, 1, none⟩ = some (.int .i64 x.o) ∧ w'.cell? ⟨w.heap.size, 2, none⟩ = some (.int .i64 x.c) ∧ w'.cell? ⟨w.heap.size, 3, none⟩ = some (.int .i64 x.l) ∧ w'.cell? ⟨w.heap.size, 4, none⟩ = some (.int .i64 x.r) ∧ w'.cell? ⟨w.heap.size, 5, none⟩ = some (.int .i64 x.v) ∧ ObAt w' b (off + i * 163) o) (by kernel_rfl) (six_and HK1.out.drew.six HO1.out.drew) (fun hHeld => ?_)
  refine wpAnyH_take (i := 0) (v := ?v19) rfl (by kernel_rfl) (by kernel_rfl) (by kernel_rfl) (fun _ _ _ h => h) (Or.inl ⟨by rfl, ?hy19⟩) hHeld ?rest19
  case hy19 =>
    intro w' hSw
    try dsimp only at hSw
    go_simp
    first | done | with_reducible rfl
  try simp only [Act.put, zq1, zq3, zq4, zq5, zq6]
  refine wpAnyH_take (i := 1) (v := ?v20) rfl (by kernel_rfl) (by kernel_rfl) (by kernel_rfl) (fun _ _ _ h => h) (Or.inl ⟨by rfl, ?hy20⟩) hHeld ?rest20
  case hy20 =>
    intro w' hSw
    try dsimp only at hSw
    go_simp
    first | done | with_reducible rfl
  try simp only [Act.put, zq1, zq2, zq3, zq4, zq5, zq6]
  refine wpAnyH_take (i := 2) (v := ?v21) rfl (by kernel_rfl) (by kernel_rfl) (by kernel_rfl) (fun _ _ _ h => h) (Or.inl ⟨by rfl, ?hy21⟩) hHeld ?rest21
  case hy21 =>
    intro w' hSw
    try dsimp only at hSw
    go_simp
    first | done | with_reducible rfl
  try simp only [Act.put, zq1, zq2, zq3, zq4, zq5, zq6]
  refine wpAnyH_take (i := 3) (v := ?v22) rfl (by kernel_rfl) (by kernel_rfl) (by kernel_rfl) (fun _ _ _ h => h) (Or.inl ⟨by rfl, ?hy22⟩) hHeld ?rest22
  case hy22 =>
    intro w' hSw
    try dsimp only at hSw
    go_simp
    first | done | with_reducible rfl
  try simp only [Act.put, zq1, zq2, zq3, zq4, zq5, zq6]
  refine wpAnyH_take (i := 4) (v := ?v23) rfl (by kernel_rfl) (by kernel_rfl) (by kernel_rfl) (fun _ _ _ h => h) (Or.inl ⟨by rfl, ?hy23⟩) hHeld ?rest23
  case hy23 =>
    intro w' hSw
    try dsimp only at hSw
    go_simp
    first | done | with_reducible rfl
  try simp only [Act.put, zq1, zq2, zq3, zq4, zq5, zq6]
  refine wpAnyH_take (i := 5) (v := ?v24) rfl (by kernel_rfl) (by kernel_rfl) (by kernel_rfl) (fun _ _ _ h => h) (Or.inl ⟨by rfl, ?hy24⟩) hHeld ?rest24
  case hy24 =>
    intro w' hSw
    try dsimp only at hSw
    go_simp
    first | done | with_reducible rfl
  try simp only [Act.put, zq1, zq2, zq3, zq4, zq5, zq6]
  refine wpAnyH_take (i := 6) (v := ?v25) rfl (by kernel_rfl) (by kernel_rfl) (by kernel_rfl) (fun _ _ _ h => h) (Or.inl ⟨by rfl, ?hy25⟩) hHeld ?rest25
  case hy25 =>
    intro w' hSw
    try dsimp only at hSw
    go_simp
    first | done | with_reducible rfl
  try simp only [Act.put, zq1, zq2, zq3, zq4, zq5, zq6]
  refine wpAnyH_take (i := 7) (v := ?v26) rfl (by kernel_rfl) (by kernel_rfl) (by kernel_rfl) (fun _ _ _ h => h) (Or.inl ⟨by rfl, ?hy26⟩) hHeld ?rest26
  case hy26 =>
    intro w' hSw
    try dsimp only at hSw
    go_simp
    first | done | with_reducible rfl
  try simp only [Act.put, zq1, zq2, zq3, zq4, zq5, zq6]
  refine wpAnyH_take (i := 8) (v := ?v27) rfl (by kernel_rfl) (by kernel_rfl) (by kernel_rfl) (fun _ _ _ h => h) (Or.inl ⟨by rfl, ?hy27⟩) hHeld ?rest27
  case hy27 =>
    intro w' hSw
    try dsimp only at hSw
    go_simp
    first | done | with_reducible rfl
  try simp only [Act.put, zq1, zq2, zq3, zq4, zq5, zq6]
  refine wpAnyH_take (i := 9) (v := ?v28) rfl (by kernel_rfl) (by kernel_rfl) (by kernel_rfl) (fun _ _ _ h => h) (Or.inl ⟨by rfl, ?hy28⟩) hHeld ?rest28
  case hy28 =>
    intro w' hSw
    try dsimp only at hSw
    go_simp
    first | done | with_reducible rfl
  try simp only [Act.put, zq1, zq2, zq3, zq4, zq5, zq6]
  refine wpAnyH_take (i := 10) (v := ?v29) rfl (by kernel_rfl) (by kernel_rfl) (by kernel_rfl) (fun _ _ _ h => h) (Or.inl ⟨by rfl, ?hy29⟩) hHeld ?rest29
  case hy29 =>
    intro w' hSw
    try dsimp only at hSw
    go_simp
    first | done | with_reducible rfl
  try simp only [Act.put, zq1, zq2, zq3, zq4, zq5, zq6]
  refine wpAnyH_take (i := 11) (v := ?v30) rfl (by kernel_rfl) (by kernel_rfl) (by kernel_rfl) (fun _ _ _ h => h) (Or.inl ⟨by rfl, ?hy30⟩) hHeld ?rest30
  case hy30 =>
    intro w' hSw
    try dsimp only at hSw
    go_simp
    first | done | with_reducible rfl
  try simp only [Act.put, zq1, zq2, zq3, zq4, zq5, zq6]
  refine wpAnyH_take (i := 12) (v := ?v31) rfl (by kernel_rfl) (by kernel_rfl) (by kernel_rfl) (fun _ _ _ h => h) (Or.inl ⟨by rfl, ?hy31⟩) hHeld ?rest31
  case hy31 =>
    intro w' hSw
    try dsimp only at hSw
    go_simp
    first | done | with_reducible rfl
  try simp only [Act.put, zq1, zq2, zq3, zq4, zq5, zq6]
  refine wpAnyH_take (i := 13) (v := ?v32) rfl (by kernel_rfl) (by kernel_rfl) (by kernel_rfl) (fun _ _ _ h => h) (Or.inl ⟨by rfl, ?hy32⟩) hHeld ?rest32
  case hy32 =>
    intro w' hSw
    try dsimp only at hSw
    go_simp
    first | done | with_reducible rfl
  try simp only [Act.put, zq1, zq2, zq3, zq4, zq5, zq6]
  refine wpAnyH_take (i := 14) (v := ?v33) rfl (by kernel_rfl) (by kernel_rfl) (by kernel_rfl) (fun _ _ _ h => h) (Or.inl ⟨by rfl, ?hy33⟩) hHeld ?rest33
  case hy33 =>
    intro w' hSw
    try dsimp only at hSw
    go_simp
    first | done | with_reducible rfl
  try simp only [Act.put, zq1, zq2, zq3, zq4, zq5, zq6]
  refine wpAnyH_take (i := 15) (v := ?v34) rfl (by kernel_rfl) (by kernel_rfl) (by kernel_rfl) (fun _ _ _ h => h) (Or.inl ⟨by rfl, ?hy34⟩) hHeld ?rest34
  case hy34 =>
    intro w' hSw
    try dsimp only at hSw
    go_simp
    first | done | with_reducible rfl
  try simp only [Act.put, zq1, zq2, zq3, zq4, zq5, zq6]
  refine wpAnyH_take (i := 16) (v := ?v35) rfl (by kernel_rfl) (by kernel_rfl) (by kernel_rfl) (fun _ _ _ h => h) (Or.inl ⟨by rfl, ?hy35⟩) hHeld ?rest35
  case hy35 =>
    intro w' hSw
    try dsimp only at hSw
    go_simp
    first | done | with_reducible rfl
  try simp only [Act.put, zq1, zq2, zq3, zq4, zq5, zq6]
  refine wpAnyH_take (i := 17) rfl (by kernel_rfl) (by kernel_rfl) (by kernel_rfl) (fun _ _ _ h => h) (y_ob (by rfl) (.tmp 24) (by rfl) b (off + i * 163) (by rfl) o (fun _ h => h.2.2.2.2.2.2)) hHeld ?_
  try simp only [Act.put, zq1, zq2, zq3, zq4, zq5, zq6]
  refine wpAnyH_ready (rs := [18]) (by kernel_rfl) (by simp) ?_
  refine AllReadyH.cons (by rfl) (fun K hK => ?_) AllReadyH.nil
  go_simp
  refine (rcn_any x o _).mono ?_
  rintro e y1 ⟨rfl, b1⟩
  have HB2 := Lib.hid ((below_drew HB1.out).trans (b1.mono HB1.out.size))
  have HK2 := Lib.hid (HK1.out.drew.keep b1)
  have HO2 := Lib.hid (HO1.out.drew.below b1)
  clear b1 hHeld
  go_wp2_with fail
  refine hK.out _ _ (six_and HK2.out.six HO2.out) (fun hHeld => ?_)
  clear hK K
  try simp only [Act.put, zq1, zq2, zq3, zq4, zq5, zq6]
  refine wpAnyH_take (i := 19) (v := ?v36) rfl (by kernel_rfl) (by kernel_rfl) (by kernel_rfl) (fun _ _ _ h => h) (Or.inl ⟨by rfl, ?hy36⟩) hHeld ?rest36
  case hy36 =>
    intro w' hSw
    try dsimp only at hSw
    go_simp
    first | done | with_reducible rfl
  try simp only [Act.put, zq1, zq2, zq3, zq4, zq5, zq6]
  refine wpAnyH_take (i := 20) (v := ?v37) rfl (by kernel_rfl) (by kernel_rfl) (by kernel_rfl) (fun _ _ _ h => h) (Or.inl ⟨by rfl, ?hy37⟩) hHeld ?rest37
  case hy37 =>
    intro w' hSw
    try dsimp only at hSw
    go_simp
    first | done | with_reducible rfl
  try simp only [Act.put, zq1, zq2, zq3, zq4, zq5, zq6]
  refine wpAnyH_done (by kernel_rfl) ?_ _
  refine OnlyN.normal ?_
  clear hHeld
  go_wp2
  go_ret
  exact ⟨rfl, HB2.out⟩
set_option maxRecDepth 8000 in
theorem rchk_no2 (x : Ky) (h : ¬ x.ok) (w : World) : Calls Tryd.prog 78 #[x.val] w fun e w' => e = .returned (.int .i64 2) ∧ Below w.heap.size w w' := by
  have := rchk_any x w
  rwa [Ky.chk_no h] at this
set_option maxRecDepth 8000 in
theorem rcounts_any (hr : RdO w A l) (hl : l.length ≤ 1000) (x : Ky) : Calls Tryd.prog 58 #[.slice A l.length cap, x.val] w fun e w' => e = .returned (.bool (named l x).isSome) ∧ Below w.heap.size w w' := by
  by_cases hf : x.of
  · rw [named_is hf]
    have h0 := of_o hf
    obtain ⟨n, hn'⟩ := Int.eq_ofNat_of_zero_le h0
    by_cases hlt : n < l.length
    · have e1 : l[x.o.toNat]? = some l[n] := by rw [hn', Int.toNat_natCast, List.getElem?_eq_getElem hlt]
      obtain ⟨b, off, e, ho⟩ := hr n hlt
      have := rcounts_in (cap := cap) x hf n hn' hlt hl b off e l[n] ho
      rw [e1, Option.filter_some]
      cases hc : x.cn l[n] with
      | true => rw [hc] at this; exact this
      | false => rw [hc] at this; exact this
    · have e1 : l[x.o.toNat]? = none := by rw [hn', Int.toNat_natCast]; exact List.getElem?_eq_none (by omega)
      rw [e1]
      exact rcounts_out x hf (by omega)
  · rw [named_not hf]
    exact rcounts_not x hf
end
end Go.Proofs.YtljfddeolapeaaaDoor
namespace Go.Proofs.YtljfddeolapeaaaDoor
open List renaming getElem_toArray → zq1, getElem_cons_succ → zq2, getElem_cons_zero → zq3, setIfInBounds_toArray → zq4, set_cons_zero → zq5, set_cons_succ → zq6
open Go.RowKit
section
variable {w : World} {A : Option Addr} {l : List Oj} {cap : Nat}
set_option maxRecDepth 100000 in
set_option maxHeartbeats 2000000 in
theorem rprep_bad (h0 : 0 < l.length) (x : Ky) (h : ¬ x.ok) :
    Calls Tryd.prog 82 #[.slice A l.length cap, x.val] w fun e w' => e = .returned zk.val ∧ Below w.heap.size w w' := by
  have HB0 := Lib.hid (((Below.refl w.heap.size w).alloc (Nat.le_refl _) (.cells (kc x.k x.o x.c x.l x.r x.v) 33)).alloc (by simp) (.cells (kc 0 0 0 0 0 0) 33))
  have HK0 := Lib.hid ((Blk.new w 33 (kc x.k x.o x.c x.l x.r x.v)).alloc (.cells (kc 0 0 0 0 0 0) 33))
  have HZ0 := Lib.hid (show Blk ((w.alloc (.cells (kc x.k x.o x.c x.l x.r x.v) 33)).alloc (.cells (kc 0 0 0 0 0 0) 33)) (w.heap.size + 1) 33 (kc 0 0 0 0 0 0) from by have := Blk.new (w.alloc (.cells (kc x.k x.o x.c x.l x.r x.v) 33)) 33 (kc 0 0 0 0 0 0); simpa using this)
  have dl : ((l.length : Int) == 0) = false := by simp; intro e; rw [e] at h0; exact absurd h0 (by decide)
  have hl0 : l ≠ [] := by rintro rfl; exact absurd h0 (by decide)
  have HO := Lib.hid h
  clear h
  obtain ⟨c0, c1, c2, c3, c4, c5⟩ := HK0.out.six
  go_enter Tryd.func82, Tryd.ntmps82
  go_wp2_with (go_at_call 78; refine (rchk_no2 x HO.out _).mono ?_; rintro e w1 ⟨rfl, b1⟩; have HB1 := Lib.hid (HB0.out.trans (b1.mono HB0.out.size)); have HZ1 := Lib.hid (HZ0.out.keep b1); clear b1 c0 c1 c2 c3 c4 c5; obtain ⟨c0, c1, c2, c3, c4, c5⟩ := HZ1.out.six; have f0 := HZ1.out.frozen 0; have f1 := HZ1.out.frozen 1; have f2 := HZ1.out.frozen 2; have f3 := HZ1.out.frozen 3; have f4 := HZ1.out.frozen 4; have f5 := HZ1.out.frozen 5)
  exact bodyPost_ret (results_key rfl _ _ (w.heap.size + 1) zk rfl ((((((HZ1.out.set_ 0 (.int .i64 0)).set_ 1 (.int .i64 0)).set_ 2 (.int .i64 0)).set_ 3 (.int .i64 0)).set_ 4 (.int .i64 0)).set_ 5 (.int .i64 0))) rfl ⟨rfl, below_set6 HB1.out (by omega) _ _ _ _ _ _⟩
set_option maxRecDepth 100000 in
set_option maxHeartbeats 2000000 in
theorem rprep_not (hr : RdO w A l) (hl : l.length ≤ 1000) (h0 : 0 < l.length) (x : Ky) (h : x.ok) (hf : ¬ x.of) :
    Calls Tryd.prog 82 #[.slice A l.length cap, x.val] w fun e w' => e = .returned x.val ∧ Below w.heap.size w w' := by
  have HB0 := Lib.hid (((Below.refl w.heap.size w).alloc (Nat.le_refl _) (.cells (kc x.k x.o x.c x.l x.r x.v) 33)).alloc (by simp) (.cells (kc 0 0 0 0 0 0) 33))
  have HR0 := Lib.hid ((hr.alloc (.cells (kc x.k x.o x.c x.l x.r x.v) 33)).alloc (.cells (kc 0 0 0 0 0 0) 33))
  have HL := Lib.hid hl
  have HK0 := Lib.hid ((Blk.new w 33 (kc x.k x.o x.c x.l x.r x.v)).alloc (.cells (kc 0 0 0 0 0 0) 33))
  have HZ0 := Lib.hid (show Blk ((w.alloc (.cells (kc x.k x.o x.c x.l x.r x.v) 33)).alloc (.cells (kc 0 0 0 0 0 0) 33)) (w.heap.size + 1) 33 (kc 0 0 0 0 0 0) from by have := Blk.new (w.alloc (.cells (kc x.k x.o x.c x.l x.r x.v) 33)) 33 (kc 0 0 0 0 0 0); simpa using this)
  have dl : ((l.length : Int) == 0) = false := by simp; intro e; rw [e] at h0; exact absurd h0 (by decide)
  have hl0 : l ≠ [] := by rintro rfl; exact absurd h0 (by decide)
  have HO := Lib.hid h
  have HF := Lib.hid hf
  have dn : decide ((0 : Int) ≤ -1) = false := by decide
  clear h hf
  obtain ⟨c0, c1, c2, c3, c4, c5⟩ := HK0.out.six
  clear hr
  go_enter Tryd.func82, Tryd.ntmps82
  go_wp2_with (first
    | (go_at_call 78; refine (Ky.chk_yes HO.out ▸ rchk_any x _).mono ?_; rintro e w1 ⟨rfl, b1⟩; have HB1 := Lib.hid (HB0.out.trans (b1.mono HB0.out.size)); have HR1 := Lib.hid (HR0.out.below b1); have HK1 := Lib.hid (HK0.out.keep b1); have HZ1 := Lib.hid (HZ0.out.keep b1); clear b1 c0 c1 c2 c3 c4 c5; obtain ⟨c0, c1, c2, c3, c4, c5⟩ := HK1.out.six)
    | (go_at_call 79; refine (rname_no x _ HF.out).mono ?_; rintro e w2 ⟨rfl, b2⟩; have HB2 := Lib.hid (HB1.out.trans (b2.mono HB1.out.size)); have HR2 := Lib.hid (HR1.out.below b2); have HK2 := Lib.hid (HK1.out.keep b2); have HZ2 := Lib.hid (HZ1.out.keep b2); clear b2 c0 c1 c2 c3 c4 c5; obtain ⟨c0, c1, c2, c3, c4, c5⟩ := HK2.out.six)
    | (refine wpList_store_ky (y := zk) HZ2.out rfl (.tmp 4) (.tmp 25) rfl (by rfl) x (by rfl) ?_))
  exact bodyPost_ret (results_key rfl _ _ (w.heap.size + 1) x rfl (HZ2.out.setRow _)) rfl ⟨rfl, below_setRow HB2.out (by omega) _⟩
set_option maxRecDepth 100000 in
set_option maxHeartbeats 2000000 in
theorem rprep_yes (hr : RdO w A l) (hl : l.length ≤ 1000) (h0 : 0 < l.length) (x : Ky) (hf : x.of) (hn : (named l x).isSome = true) :
    Calls Tryd.prog 82 #[.slice A l.length cap, x.val] w fun e w' => e = .returned x.val ∧ Below w.heap.size w w' := by
  have HB0 := Lib.hid (((Below.refl w.heap.size w).alloc (Nat.le_refl _) (.cells (kc x.k x.o x.c x.l x.r x.v) 33)).alloc (by simp) (.cells (kc 0 0 0 0 0 0) 33))
  have HR0 := Lib.hid ((hr.alloc (.cells (kc x.k x.o x.c x.l x.r x.v) 33)).alloc (.cells (kc 0 0 0 0 0 0) 33))
  have HL := Lib.hid hl
  have HK0 := Lib.hid ((Blk.new w 33 (kc x.k x.o x.c x.l x.r x.v)).alloc (.cells (kc 0 0 0 0 0 0) 33))
  have HZ0 := Lib.hid (show Blk ((w.alloc (.cells (kc x.k x.o x.c x.l x.r x.v) 33)).alloc (.cells (kc 0 0 0 0 0 0) 33)) (w.heap.size + 1) 33 (kc 0 0 0 0 0 0) from by have := Blk.new (w.alloc (.cells (kc x.k x.o x.c x.l x.r x.v) 33)) 33 (kc 0 0 0 0 0 0); simpa using this)
  have dl : ((l.length : Int) == 0) = false := by simp; intro e; rw [e] at h0; exact absurd h0 (by decide)
  have hl0 : l ≠ [] := by rintro rfl; exact absurd h0 (by decide)
  have HO := Lib.hid hf.1
  have HF := Lib.hid hf
  have HN := Lib.hid hn
  have dn : decide ((0 : Int) ≤ x.o) = true := decide_eq_true (of_o hf)
  clear hf hn
  obtain ⟨c0, c1, c2, c3, c4, c5⟩ := HK0.out.six
  clear hr
  go_enter Tryd.func82, Tryd.ntmps82
  go_wp2_with (first
    | (go_at_call 78; refine (Ky.chk_yes HO.out ▸ rchk_any x _).mono ?_; rintro e w1 ⟨rfl, b1⟩; have HB1 := Lib.hid (HB0.out.trans (b1.mono HB0.out.size)); have HR1 := Lib.hid (HR0.out.below b1); have HK1 := Lib.hid (HK0.out.keep b1); have HZ1 := Lib.hid (HZ0.out.keep b1); clear b1 c0 c1 c2 c3 c4 c5; obtain ⟨c0, c1, c2, c3, c4, c5⟩ := HK1.out.six)
    | (go_at_call 79; refine (rname_yes x _ HF.out).mono ?_; rintro e w2 ⟨rfl, b2⟩; have HB2 := Lib.hid (HB1.out.trans (b2.mono HB1.out.size)); have HR2 := Lib.hid (HR1.out.below b2); have HK2 := Lib.hid (HK1.out.keep b2); have HZ2 := Lib.hid (HZ1.out.keep b2); clear b2 c0 c1 c2 c3 c4 c5; obtain ⟨c0, c1, c2, c3, c4, c5⟩ := HK2.out.six)
    | (go_at_call 58; refine (HN.out ▸ rcounts_any HR2.out HL.out x).mono ?_; rintro e w3 ⟨rfl, b3⟩; have HB3 := Lib.hid (HB2.out.trans (b3.mono HB2.out.size)); have HR3 := Lib.hid (HR2.out.below b3); have HK3 := Lib.hid (HK2.out.keep b3); have HZ3 := Lib.hid (HZ2.out.keep b3); clear b3 c0 c1 c2 c3 c4 c5; obtain ⟨c0, c1, c2, c3, c4, c5⟩ := HK3.out.six)
    | (refine wpList_store_ky (y := zk) HZ3.out rfl (.tmp 4) (.tmp 25) rfl (by rfl) x (by rfl) ?_))
  exact bodyPost_ret (results_key rfl _ _ (w.heap.size + 1) x rfl (HZ3.out.setRow _)) rfl ⟨rfl, below_setRow HB3.out (by omega) _⟩
set_option maxRecDepth 100000 in
set_option maxHeartbeats 2000000 in
theorem rprep_no (hr : RdO w A l) (hl : l.length ≤ 1000) (h0 : 0 < l.length) (x : Ky) (hf : x.of) (hn : (named l x).isSome = false) :
    Calls Tryd.prog 82 #[.slice A l.length cap, x.val] w fun e w' => e = .returned zk.val ∧ Below w.heap.size w w' := by
  have HB0 := Lib.hid (((Below.refl w.heap.size w).alloc (Nat.le_refl _) (.cells (kc x.k x.o x.c x.l x.r x.v) 33)).alloc (by simp) (.cells (kc 0 0 0 0 0 0) 33))
  have HR0 := Lib.hid ((hr.alloc (.cells (kc x.k x.o x.c x.l x.r x.v) 33)).alloc (.cells (kc 0 0 0 0 0 0) 33))
  have HL := Lib.hid hl
  have HK0 := Lib.hid ((Blk.new w 33 (kc x.k x.o x.c x.l x.r x.v)).alloc (.cells (kc 0 0 0 0 0 0) 33))
  have HZ0 := Lib.hid (show Blk ((w.alloc (.cells (kc x.k x.o x.c x.l x.r x.v) 33)).alloc (.cells (kc 0 0 0 0 0 0) 33)) (w.heap.size + 1) 33 (kc 0 0 0 0 0 0) from by have := Blk.new (w.alloc (.cells (kc x.k x.o x.c x.l x.r x.v) 33)) 33 (kc 0 0 0 0 0 0); simpa using this)
  have dl : ((l.length : Int) == 0) = false := by simp; intro e; rw [e] at h0; exact absurd h0 (by decide)
  have hl0 : l ≠ [] := by rintro rfl; exact absurd h0 (by decide)
  have HO := Lib.hid hf.1
  have HF := Lib.hid hf
  have HN := Lib.hid hn
  have dn : decide ((0 : Int) ≤ x.o) = true := decide_eq_true (of_o hf)
  clear hf hn
  obtain ⟨c0, c1, c2, c3, c4, c5⟩ := HK0.out.six
  clear hr
  go_enter Tryd.func82, Tryd.ntmps82
  go_wp2_with (first
    | (go_at_call 78; refine (Ky.chk_yes HO.out ▸ rchk_any x _).mono ?_; rintro e w1 ⟨rfl, b1⟩; have HB1 := Lib.hid (HB0.out.trans (b1.mono HB0.out.size)); have HR1 := Lib.hid (HR0.out.below b1); have HK1 := Lib.hid (HK0.out.keep b1); have HZ1 := Lib.hid (HZ0.out.keep b1); clear b1 c0 c1 c2 c3 c4 c5; obtain ⟨c0, c1, c2, c3, c4, c5⟩ := HK1.out.six)
    | (go_at_call 79; refine (rname_yes x _ HF.out).mono ?_; rintro e w2 ⟨rfl, b2⟩; have HB2 := Lib.hid (HB1.out.trans (b2.mono HB1.out.size)); have HR2 := Lib.hid (HR1.out.below b2); have HK2 := Lib.hid (HK1.out.keep b2); have HZ2 := Lib.hid (HZ1.out.keep b2); clear b2 c0 c1 c2 c3 c4 c5; obtain ⟨c0, c1, c2, c3, c4, c5⟩ := HK2.out.six)
    | (go_at_call 58; refine (HN.out ▸ rcounts_any HR2.out HL.out x).mono ?_; rintro e w3 ⟨rfl, b3⟩; have HB3 := Lib.hid (HB2.out.trans (b3.mono HB2.out.size)); have HR3 := Lib.hid (HR2.out.below b3); have HK3 := Lib.hid (HK2.out.keep b3); have HZ3 := Lib.hid (HZ2.out.keep b3); clear b3 c0 c1 c2 c3 c4 c5; obtain ⟨c0, c1, c2, c3, c4, c5⟩ := HK3.out.six)
    | (refine wpList_store_ky (y := zk) HZ3.out rfl (.tmp 4) (.tmp 24) rfl (by rfl) zk (by rfl) ?_))
  exact bodyPost_ret (results_key rfl _ _ (w.heap.size + 1) zk rfl (HZ3.out.setRow _)) rfl ⟨rfl, below_setRow HB3.out (by omega) _⟩
set_option maxRecDepth 8000 in
theorem cn_oz {x : Ky} : x.cn oz = true ↔ x.ok ∧ ¬ x.of := by
  unfold Ky.cn
  constructor
  · intro h
    have hh : x.ok ∧ (x.of → x.want = 0 ∧ x.c = 0 ∧ (x.k ≠ 7 ∨ x.l = 0)) := by
      unfold Ky.cnt at h
      have h' := @of_decide_eq_true _ (Classical.propDecidable _) h
      exact h'
    refine ⟨hh.1, fun hf => ?_⟩
    have h1 := (hh.2 hf).1
    unfold Ky.want at h1
    rw [if_pos hf] at h1
    split at h1 <;> omega
  · rintro ⟨h1, h2⟩
    exact cnt_yes ⟨h1, fun h => absurd h h2⟩
set_option maxRecDepth 8000 in
theorem rprep_any (hr : RdO w A l) (hl : l.length ≤ 1000) (h0 : 0 < l.length) (x : Ky) :
    Calls Tryd.prog 82 #[.slice A l.length cap, x.val] w fun e w' => e = .returned (prepd l x).val ∧ Below w.heap.size w w' := by
  unfold prepd
  by_cases ho : x.ok
  · by_cases hf : x.of
    · have hz : x.cn oz = false := by
        cases h : x.cn oz with
        | false => rfl
        | true => exact absurd hf (cn_oz.1 h).2
      cases hn : (named l x).isSome with
      | true => exact rprep_yes hr hl h0 x hf hn
      | false => rw [hz]; exact rprep_no hr hl h0 x hf hn
    · rw [cn_oz.2 ⟨ho, hf⟩, Bool.or_true]
      exact rprep_not hr hl h0 x ho hf
  · have hz : x.cn oz = false := by
      cases h : x.cn oz with
      | false => rfl
      | true => exact absurd (cn_oz.1 h).1 ho
    rw [named_not (fun h => ho h.1), hz]
    exact rprep_bad h0 x ho
end
end Go.Proofs.YtljfddeolapeaaaDoor
namespace Go.Proofs.YtljfddeolapeaaaDoor
open List renaming getElem_toArray → zq1, getElem_cons_succ → zq2, getElem_cons_zero → zq3, setIfInBounds_toArray → zq4, set_cons_zero → zq5, set_cons_succ → zq6
open Go.RowKit
set_option maxRecDepth 8000 in
theorem row_cut {L : List Value} {l : List Oj} (h : L.take (l.length * 163) = ocs l) (j : Nat) (hj : j < l.length) (o : Oj) :
    (L.take (j * 163) ++ o.cells ++ L.drop (j * 163 + o.cells.length)).take ((l.set j o).length * 163) = ocs (l.set j o) := by
  have hs := ocs_set l j hj o
  have hn := ocs_length l
  have hle : j * 163 + 163 ≤ (ocs l).length := by rw [hn]; omega
  obtain ⟨Y, rfl⟩ : ∃ Y, L = ocs l ++ Y := ⟨L.drop (l.length * 163), by rw [← h, List.take_append_drop]⟩
  have e1 : (ocs l ++ Y).take (j * 163) = (ocs l).take (j * 163) := List.take_append_of_le_length (by omega)
  have e2 : (ocs l ++ Y).drop (j * 163 + 163) = (ocs l).drop (j * 163 + 163) ++ Y := List.drop_append_of_le_length hle
  have hq : (ocs (l.set j o)).length = l.length * 163 := by rw [ocs_length, List.length_set]
  rw [List.length_set, o.len, e1, e2, ← List.append_assoc, hs, List.take_append_of_le_length (by omega), List.take_of_length_le (by omega)]
set_option maxRecDepth 8000 in
theorem row_rdo {w : World} {g : Nat} {t : TypeId} {L : List Value} {l : List Oj} (h : Blk w g t L.toArray) (hl : L.take (l.length * 163) = ocs l) : RdO w (some ⟨g, 0, none⟩) l := fun i hi => by
  refine ⟨g, 0, rfl, fun j v hv => ?_⟩
  have hj : j < 163 := by have := (List.getElem?_eq_some_iff.1 hv).1; rwa [Oj.len] at this
  have h1 := ocs_get l i hi j hj
  rw [← hl, List.getElem?_take, if_pos (show i * 163 + j < l.length * 163 by omega)] at h1
  rw [Nat.zero_add, h.cell, ← hv, ← h1]
  simp
section
variable {ops : Array Oper} {rest : List Oper} {o : Oper} {a : Act} {Q : Exit → Act → World → Prop} {W : World}
theorem ocs_one : ∀ (l : List Oj), ∀ u ∈ ocs l, u.oneCell' = true
  | [], u, hu => by cases hu
  | x :: l, u, hu => by
    rcases List.mem_append.1 hu with h | h
    · exact x.one u h
    · exact ocs_one l u h
set_option maxRecDepth 8000 in
theorem wpList_append_obs (hgd : o.guard = none) (x : Operand) (ho : o.op = .call { callee := .builtin .append, args := #[.const (.slice none 0 0), x], argTypes := #[22, 22] })
    {A : Option Addr} {n c : Nat} {l : List Oj} (hx : a.eval x = .slice A n c) (hr : RdO W A l) (hn : l.length = n) (h1 : 0 < n) (h64 : n ≤ 1000)
    (h : ∀ (g c' : Nat) (w' : World) (L : List Value), Blk w' g 56 L.toArray → L.take (l.length * 163) = ocs l → l.length * 163 ≤ L.length → n ≤ c' → W.heap.size ≤ g → Below W.heap.size W w' → wpList Tryd.prog ops Q rest (a.put o.dst (.slice (some ⟨g, 0, none⟩) n c')) w') : wpList Tryd.prog ops Q (o :: rest) a W := by
  obtain ⟨i0, hi, hz0, hz1, hz2⟩ := info_parts infoOb
  obtain ⟨b, off, rfl, _⟩ := hr 0 (by omega)
  have hown : W.ownsRow W.heap.size 56 163 (.slice none 0 0) 0 [] := ⟨rfl, .inl ⟨rfl, rfl⟩⟩
  refine wpList_append_lies _ hgd (.const (.slice none 0 0)) x 22 ho W.heap.size 56 i0 oz.val 163 856 Tryd.underlying22 hi hz0 hz1 hz2 (by show oz.cells.toArray.size = 163; rw [List.size_toArray, oz.len]) (by decide) (.slice none 0 0) 0 [] rfl hown ⟨b, off, none⟩ n c (ocs l) hx (by rw [ocs_length, hn]) ?_ (ocs_one l) h1 (by simp only [maxLen]; omega) (by omega) (Nat.le_refl _) _ rfl ?_
  · intro j u hu
    rw [Addr.add_mid]
    have hjl : j < l.length * 163 := by have := (List.getElem?_eq_some_iff.1 hu).1; rwa [ocs_length] at this
    have hq : j / 163 < l.length := Nat.div_lt_of_lt_mul (by omega)
    obtain ⟨b', off', e, ho'⟩ := hr (j / 163) hq
    injection e with e
    injection e with e1 e2
    subst e1 e2
    have hm := ocs_get l (j / 163) hq (j % 163) (Nat.mod_lt _ (by decide))
    have ej : j / 163 * 163 + j % 163 = j := Nat.div_add_mod' j 163
    rw [ej, hu] at hm
    have := ho' (j % 163) u hm.symm
    rwa [Nat.add_assoc, ej] at this
  · intro g c' w' h2 h3 h4 h5
    have hg : g = W.heap.size := by
      rcases h4 with h4 | h4
      · cases h4
      · exact h4
    rw [Nat.zero_add, List.nil_append] at h2
    rcases h2.2 with ⟨he, _⟩ | ⟨g', cap', cur, he, _, hb, hc, _, hcs, ht⟩
    · injection he with he
      cases he
    · injection he with he _ hcc
      injection he with he
      injection he with he
      subst he hcc
      rw [Nat.zero_add]
      have e : cur.toList.length = c' * 163 := by simpa using hcs
      have e2 := Nat.mul_le_mul_right 163 hc
      have hle : l.length * 163 ≤ cur.toList.length := by omega
      refine h g c' w' cur.toList (by simpa [Blk] using hb) (by rw [hn]; exact ht) hle hc (by omega) ⟨h3.os, h3.tape, h3.output, h3.size, fun k hk => h3.block k hk (by intro e; cases e)⟩
end
section
variable {w : World} {A : Option Addr} {l : List Oj} {n cap : Nat}
set_option maxRecDepth 8000 in
theorem rcn_n (hr : RdO w A l) (hn : l.length = n) (hl : n ≤ 1000) (x : Ky) {b : Bool} (hb : (named l x).isSome = b) : Calls Tryd.prog 58 #[.slice A n cap, x.val] w fun e w' => e = .returned (.bool b) ∧ Below w.heap.size w w' := by
  subst hn hb
  exact rcounts_any hr hl x
set_option maxRecDepth 8000 in
theorem rprep_n (hr : RdO w A l) (hn : l.length = n) (hl : n ≤ 1000) (h0 : 0 < n) (x : Ky) {q : Ky} (hq : prepd l x = q) : Calls Tryd.prog 82 #[.slice A n cap, x.val] w fun e w' => e = .returned q.val ∧ Below w.heap.size w w' := by
  subst hn hq
  exact rprep_any hr hl h0 x
set_option maxRecDepth 100000 in
set_option maxHeartbeats 2000000 in
theorem rput_any (hr : RdO w A l) (hn : l.length = n) (hl : n ≤ 1000) (j : Nat) (hj : j < n) (q : Oj) {i : Int} (hi : i = (j : Int)) :
    Calls Tryd.prog 59 #[.slice A n cap, .int .i64 i, q.val] w fun e w' => ∃ g c, e = .returned (.slice (some ⟨g, 0, none⟩) n c) ∧ w.heap.size ≤ g ∧ RdO w' (some ⟨g, 0, none⟩) (l.set j q) ∧ Below w.heap.size w w' := by
  subst hi
  have HR := Lib.hid (hr.alloc (.cells q.cells.toArray 56))
  have HB := Lib.hid ((Below.refl w.heap.size w).alloc (Nat.le_refl _) (.cells q.cells.toArray 56))
  have HQ := Lib.hid (Blk.new w 56 q.cells.toArray)
  have HN := Lib.hid hn
  have HL := Lib.hid (show 0 < n ∧ n ≤ 1000 by omega)
  have HJ := Lib.hid (show j < l.length by omega)
  have hbq := q.len
  have dj : (j : Int) < (n : Int) := by omega
  clear hr hn hl hj
  go_enter Tryd.func59, Tryd.ntmps59
  go_wp2_with (first
    | (refine wpList_append_obs rfl (.tmp 8) (by rfl) (by rfl) HR.out HN.out HL.out.1 HL.out.2 ?_; intro g c w1 L hb ht hle hc hg b1; obtain ⟨L2, hL2⟩ : ∃ L2, L.take (j * 163) ++ q.cells ++ L.drop (j * 163 + q.cells.length) = L2 := ⟨_, rfl⟩; have HL2 := Lib.hid hL2; have HCT := Lib.hid (hL2 ▸ row_cut ht j HJ.out q); have HK1 := Lib.hid hb; have HG := Lib.hid (show w.heap.size < g by simp at hg; omega); have HB1 := Lib.hid (HB.out.trans (b1.mono HB.out.size)); have HQ1 := Lib.hid (HQ.out.keep b1); have HFT := Lib.hid (show j * 163 + q.cells.length ≤ L.length by have := HJ.out; rw [q.len]; omega); clear hb ht hle hg b1 hL2)
    | (refine wpList_yields (S := fun w' => ObAt w' w.heap.size 0 q) (y_ob (by rfl) (.tmp 5) (by rfl) w.heap.size 0 (by rfl) q (fun _ h => h)) HQ1.out.ob ?_)
    | (refine wpList_store_in HK1.out rfl (.tmp 13) (.tmp 12) (ty := 56) (l := q.cells) (off := j * 163) (by rfl) (by rfl) (by rfl) (by rw [q.len]; exact size34) HFT.out q.one HL2.out ?_; have HRD := Lib.hid (row_rdo (HK1.out.setRow L2.toArray) HCT.out); have HB2 := Lib.hid (below_setRow HB1.out (Nat.le_of_lt HG.out) L2.toArray)))
  go_ret
  exact ⟨g, c, rfl, Nat.le_of_lt HG.out, HRD.out, HB2.out⟩
end
end Go.Proofs.YtljfddeolapeaaaDoor

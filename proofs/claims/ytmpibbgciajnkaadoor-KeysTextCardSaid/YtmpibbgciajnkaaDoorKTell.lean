/- keys.Text: the closure that tells a part. -/
import Derived.Test.YtmpibbgciajnkaaDoorKDec
import Derived.Test.YtmpibbgciajnkaaDoorRegU
import Derived.Laws.Concat
namespace Go.Proofs.YtmpibbgciajnkaaDoor
open Go.RowKit
attribute [local go_sem] Oper.semAt_some
/-- a blank -/
def sp : ByteArray := { data := #[32] }
theorem yields_add {ops : Array Oper} {S : World → Prop} {o : Oper} {a : Act} (hw : Region.wanted o (yielded ops a.tmps) = true) (x y : Operand) (ho : o.op = .binOp .add 9 x y 9)
    (u v : ByteArray) (hx : a.eval x = .string u) (hy : a.eval y = .string v) (hs : u.size + v.size ≤ 9223372036854775807) : YieldsIf Tryd.prog ops S o (.string (u ++ v)) a :=
  .inl ⟨hw, fun w _ => by
    unfold execOp
    simp only [ho, hx, hy, Sem.run_bind, binOp_string_add, run_string_add_sum w u v hs, Result.andThen_ok, Sem.run_pure, eqGuard, Bool.not_false, if_true]⟩
theorem tell_no (n : Int) (g : Nat) (w : World) :
    Calls Tryd.prog 39 #[.bool false, .int .i64 n, .pointer (some ⟨g, 0, none⟩)] w fun e w' => e = .returned (.tuple #[]) ∧ w = w' := by
  go_enter Tryd.func39, Tryd.ntmps39
  go_wp2
  go_end0
  exact ⟨rfl, rfl⟩
set_option maxRecDepth 100000 in
set_option maxHeartbeats 1000000 in
theorem tell_yes (n : Int) (h0 : -9223372036854775808 ≤ n) (h1 : n ≤ 9223372036854775807) (g : Nat) (t : ByteArray) (w : World) (hP : P10 w) (hb : Blk w g 9 #[.string t]) (ht : t.size ≤ 1000) :
    Calls Tryd.prog 39 #[.bool true, .int .i64 n, .pointer (some ⟨g, 0, none⟩)] w fun e w' => e = .returned (.tuple #[]) ∧ Blk w' g 9 #[.string (t ++ (sp ++ dec n))] ∧ Below g w w' := by
  have hd := dec_size n h0 h1
  have s1 : sp.size + (dec n).size ≤ 9223372036854775807 := by have : sp.size = 1 := rfl; omega
  have s2 : t.size + (sp ++ dec n).size ≤ 9223372036854775807 := by have : sp.size = 1 := rfl; rw [ByteArray.size_append]; omega
  have H1 := Lib.hid s1
  have H2 := Lib.hid s2
  have HP := Lib.hid hP
  have HB := Lib.hid hb
  have hc := hb.cell 0
  clear hd s1 s2 hP hb ht
  go_enter Tryd.func39, Tryd.ntmps39
  go_wp2
  refine wp_region_U (S := fun w' => w'.cell? ⟨g, 0, none⟩ = some (.string t)) 5 (by kernel_rfl) (HB.out.drew.cell 0) (fun hHeld => ?_)
  refine wpAnyU_take (i := 0) (v := ?v1) rfl (by kernel_rfl) (by kernel_rfl) (by kernel_rfl) (by kernel_rfl) (fun _ _ _ h => h) (Or.inl ⟨by rfl, ?hy1⟩) hHeld ?rest1
  case hy1 =>
    intro w' hSw
    try dsimp only at hSw
    go_simp
    first | done | with_reducible rfl
  try simp only [Act.put, List.getElem_toArray, List.getElem_cons_zero, List.setIfInBounds_toArray, List.set_cons_zero, List.set_cons_succ]
  refine wpAnyU_take (i := 1) (v := ?v2) rfl (by kernel_rfl) (by kernel_rfl) (by kernel_rfl) (by kernel_rfl) (fun _ _ _ h => h) (Or.inl ⟨by rfl, ?hy2⟩) hHeld ?rest2
  case hy2 =>
    intro w' hSw
    try dsimp only at hSw
    go_simp
    first | done | with_reducible rfl
  try simp only [Act.put, List.getElem_toArray, List.getElem_cons_succ, List.getElem_cons_zero, List.setIfInBounds_toArray, List.set_cons_zero, List.set_cons_succ]
  refine wpAnyU_one (i := 2) (by kernel_rfl) (by rfl) (fun K hK => ?_)
  go_simp
  refine (fmt_any n h0 h1 _ HP.out.drew).mono ?_
  rintro e w1 ⟨rfl, b1⟩
  have HB1 := Lib.hid (HB.out.drew.keep b1)
  have L1 := Lib.hid (show Below w.heap.size w w1 from (below_drew (Below.refl _ w)).trans b1)
  clear b1
  go_wp2_with fail
  refine hK.out _ _ (.inr (HB1.out.cell 0)) (fun hHeld => ?_)
  replace hHeld := hHeld.resolve_left (by decide)
  clear hK K
  try simp only [Act.put, List.getElem_toArray, List.getElem_cons_succ, List.getElem_cons_zero, List.setIfInBounds_toArray, List.set_cons_zero, List.set_cons_succ]
  refine wpAnyU_take (i := 3) rfl (by kernel_rfl) (by kernel_rfl) (by kernel_rfl) (by kernel_rfl) (fun _ _ _ h => h) (yields_add (by rfl) _ _ (by rfl) sp (dec n) (by rfl) (by rfl) H1.out) hHeld ?_
  try simp only [Act.put, List.getElem_toArray, List.getElem_cons_succ, List.getElem_cons_zero, List.setIfInBounds_toArray, List.set_cons_zero, List.set_cons_succ]
  refine wpAnyU_take (i := 4) rfl (by kernel_rfl) (by kernel_rfl) (by kernel_rfl) (by kernel_rfl) (fun _ _ _ h => h) (yields_add (by rfl) _ _ (by rfl) t (sp ++ dec n) (by rfl) (by rfl) H2.out) hHeld ?_
  try simp only [Act.put, List.getElem_toArray, List.getElem_cons_succ, List.getElem_cons_zero, List.setIfInBounds_toArray, List.set_cons_zero, List.set_cons_succ]
  refine wpAnyU_one (i := 5) (by kernel_rfl) (by rfl) (fun K hK => ?_)
  have f1 := HB1.out.frozen 0
  have c1 := HB1.out.cell 0
  go_simp
  refine hK.out _ _ (.inl rfl) (fun hHeld => ?_)
  clear hK K
  try simp only [Act.put, List.getElem_toArray, List.getElem_cons_succ, List.getElem_cons_zero, List.setIfInBounds_toArray, List.set_cons_zero, List.set_cons_succ]
  refine wpAnyU_done (by kernel_rfl) ?_ _
  refine OnlyN.normal ?_
  go_wp2
  go_end0
  exact ⟨rfl, by have := HB1.out.set_ 0 (.string (t ++ (sp ++ dec n))); simpa using this, (L1.out.mono (Nat.le_of_lt HB.out.lt)).setCell (p := ⟨g, 0, none⟩) (Nat.le_refl g) _⟩
theorem ret_s {a b : ByteArray} (h : a = b) : Ending.returned (.string a) = .returned (.string b) := by rw [h]
/-- the parts of a key that may be are small -/
theorem okK_small {k o c l r v : Int} (h : OkK k o c l r v) : (-9223372036854775808 ≤ o ∧ o ≤ 9223372036854775807) ∧ (-9223372036854775808 ≤ c ∧ c ≤ 9223372036854775807) ∧ (-9223372036854775808 ≤ l ∧ l ≤ 9223372036854775807) ∧ (-9223372036854775808 ≤ r ∧ r ≤ 9223372036854775807) := by
  obtain ⟨n, rfl, _, h1, h2, h3, h4, h5, h6, h7, h8, _⟩ := h
  have a1 : kOid n ≤ 63 := by unfold kOid; split <;> omega
  have a2 : kCnt n ≤ 4294967295 := by unfold kCnt; split <;> omega
  have a3 : kCall n ≤ 4294967295 := by unfold kCall; split <;> omega
  have a4 : kRts n ≤ 7 := by unfold kRts; split; omega; split <;> omega
  exact ⟨⟨by omega, by omega⟩, ⟨by omega, by omega⟩, ⟨by omega, by omega⟩, ⟨by omega, by omega⟩⟩
theorem Blk.seven {w : World} {g : Nat} {t : TypeId} {a b c d e f h' : Value} (h : Blk w g t #[a, b, c, d, e, f, h']) :
    w.cell? ⟨g, 0, none⟩ = some a ∧ w.cell? ⟨g, 1, none⟩ = some b ∧ w.cell? ⟨g, 2, none⟩ = some c ∧ w.cell? ⟨g, 3, none⟩ = some d ∧ w.cell? ⟨g, 4, none⟩ = some e ∧ w.cell? ⟨g, 5, none⟩ = some f ∧ w.cell? ⟨g, 6, none⟩ = some h' :=
  ⟨h.cell 0, h.cell 1, h.cell 2, h.cell 3, h.cell 4, h.cell 5, h.cell 6⟩
end Go.Proofs.YtmpibbgciajnkaaDoor

/- keys: contracts with one answer each. -/
import Derived.Test.YtjolojomgfcfbaaDoorR04
import Derived.Test.YtjolojomgfcfbaaDoorR03
import Derived.MapKept
import Derived.Maps.OwnOps
import Derived.Test.YtjolojomgfcfbaaDoorR01
import Derived.RangeFuncNested
import Derived.OrdersHeld
import Derived.OrdersIn
import Derived.Deep.RegionHeld3
namespace Go.Proofs.YtjolojomgfcfbaaDoor
open Go.RowKit
/-- 0 of a key that may be, 2 of others -/
noncomputable def Ky.chk (x : Ky) : Int := @ite Int x.ok (Classical.propDecidable _) 0 2
theorem Ky.chk_yes {x : Ky} (h : x.ok) : x.chk = 0 := if_pos h
theorem Ky.chk_no {x : Ky} (h : ¬ x.ok) : x.chk = 2 := if_neg h
set_option maxRecDepth 8000 in
theorem rchk_any (x : Ky) (w : World) : Calls Tryd.prog 32 #[x.val] w fun e w' => e = .returned (.int .i64 x.chk) ∧ Below w.heap.size w w' := by
  by_cases h : x.ok
  · rw [Ky.chk_yes h]; exact rchk_ok _ _ _ _ _ _ w h
  · rw [Ky.chk_no h]; exact rchk_no _ _ _ _ _ _ w h
/-- is a key of an object -/
def Ky.of (x : Ky) : Prop := x.ok ∧ 2 ≤ x.k ∧ x.k ≤ 7
set_option maxRecDepth 8000 in
theorem nA_of {x : Ky} (h : x.of) : nA x.k = true := by unfold nA; simpa using h.2
set_option maxRecDepth 8000 in
theorem nA_not {x : Ky} (h : ¬ x.of) (ho : x.ok) : nA x.k = false := by
  unfold nA
  simp only [decide_eq_false_iff_not]
  exact fun h' => h ⟨ho, h'⟩
set_option maxRecDepth 8000 in
theorem wants_of {x : Ky} (h : x.of) : kWants x.k.toNat = if x.k = 3 then 2 else 1 := by
  obtain ⟨k, o, c, l, r, v⟩ := x
  obtain ⟨_, h2, h7⟩ := h
  simp only at h2 h7 ⊢
  have hcase : k = 2 ∨ k = 3 ∨ k = 4 ∨ k = 5 ∨ k = 6 ∨ k = 7 := by omega
  rcases hcase with rfl | rfl | rfl | rfl | rfl | rfl <;> rfl
set_option maxRecDepth 8000 in
theorem wants_not {x : Ky} (h : ¬ x.of) (ho : x.ok) : kWants x.k.toNat = 0 := by
  have hk := okK_in ho
  have h' : ¬ (2 ≤ x.k ∧ x.k ≤ 7) := fun h' => h ⟨ho, h'⟩
  obtain ⟨k, o, c, l, r, v⟩ := x
  simp only at h' hk ⊢
  have hcase : k = 0 ∨ k = 1 ∨ k = 8 ∨ k = 9 ∨ k = 10 := by omega
  rcases hcase with rfl | rfl | rfl | rfl | rfl <;> rfl
/-- what a key wants -/
noncomputable def Ky.want (x : Ky) : Int := @ite Int x.of (Classical.propDecidable _) (if x.k = 3 then 2 else 1) 0
theorem kname_yes (x : Ky) (w : World) (hT : Tab w) (h : x.of) : Calls Tryd.prog 34 #[x.val] w fun e w' => e = .returned (.tuple #[.int .i64 x.o, .bool true]) ∧ Below w.heap.size w w' :=
  kn_some _ _ _ _ _ _ w hT h.1 (by rw [wants_of h]; split <;> decide)
set_option maxRecDepth 8000 in
theorem kname_no (x : Ky) (w : World) (hT : Tab w) (h : ¬ x.of) : Calls Tryd.prog 34 #[x.val] w fun e w' => e = .returned (.tuple #[.int .i64 0, .bool false]) ∧ Below w.heap.size w w' := by
  by_cases ho : x.ok
  · exact kn_none _ _ _ _ _ _ w hT ho (wants_not h ho)
  · exact kn_no _ _ _ _ _ _ w hT ho
theorem rname_yes (x : Ky) (w : World) (h : x.of) : Calls Tryd.prog 33 #[x.val] w fun e w' => e = .returned (.int .i64 x.o) ∧ Below w.heap.size w w' := rn_some _ _ _ _ _ _ w h.1 (nA_of h)
set_option maxRecDepth 8000 in
theorem rname_no (x : Ky) (w : World) (h : ¬ x.of) : Calls Tryd.prog 33 #[x.val] w fun e w' => e = .returned (.int .i64 (-1)) ∧ Below w.heap.size w w' := by
  by_cases ho : x.ok
  · exact rn_none _ _ _ _ _ _ w ho (nA_not h ho)
  · exact rn_no _ _ _ _ _ _ w ho
set_option maxRecDepth 8000 in
theorem of_o {x : Ky} (h : x.of) : 0 ≤ x.o := by
  obtain ⟨⟨n, _, _, h0, _⟩, _⟩ := h
  exact h0
theorem kchk_yes (x : Ky) (w : World) (hT : Tab w) (h : x.ok) : Calls Tryd.prog 36 #[x.val] w fun e w' => e = .returned (.int .i64 0) ∧ Below w.heap.size w w' := chk_ok _ _ _ _ _ _ w hT h
theorem kchk_no (x : Ky) (w : World) (hT : Tab w) (h : ¬ x.ok) : Calls Tryd.prog 36 #[x.val] w fun e w' => e = .returned (.int .i64 2) ∧ Below w.heap.size w w' := chk_no _ _ _ _ _ _ w hT h
end Go.Proofs.YtjolojomgfcfbaaDoor
namespace Go.Proofs.YtjolojomgfcfbaaDoor
open Go.RowKit
open Go.MapKept (run_getObj_map run_setObj_map run_findKey)
set_option maxRecDepth 8000 in
theorem push_set {α : Type} (a : Array α) (x y : α) : (a.push x).setIfInBounds a.size y = a.push y := by
  apply Array.ext'
  rw [Array.toList_setIfInBounds, Array.toList_push, Array.toList_push, List.set_append_right _ _ (by simp)]
  simp
set_option maxRecDepth 8000 in
theorem run_check_int {P : Program} {k : TypeId} {q : IntKind} (hk : P.underlying k = some (.int q)) (W : World) (b : Bool) (n : Int) : (Instr.checkKey b 10000 k (.int q n)).run P W = .ok () W := by
  have h : ∀ d, (Instr.checkKey b (d + 1) k (.int q n)).run P W = .ok () W := fun d => by simp [Instr.checkKey, run_underlying hk]
  exact h 9999
set_option maxRecDepth 8000 in
theorem run_upd_new {P : Program} {t k e : TypeId} (ht : P.underlying t = some (.map k e)) (hk : P.underlying k = some (.int .i64)) (W : World) (es : Array MapEntry) (clock : Nat) (n : Int) (v : Value)
    (hfind : Instr.findNow (.int .i64) (.int .i64 n) es.toList 0 = some none) :
    (Instr.mapUpdate t (.map (some W.heap.size)) (.int .i64 n) v).run P (W.alloc (.map es clock)) = .ok () (W.alloc (.map (es.push { key := .int .i64 n, val := v, born := clock }) (clock + 1))) := by
  have hb : (W.alloc (.map es clock)).heap[W.heap.size]? = some (.map es clock) := heap_alloc_new W _
  have hf := run_findKey (P := P) (w := W.alloc (.map es clock)) hk hfind
  have hck := run_check_int hk (W.alloc (.map es clock)) false n
  simp [Instr.mapUpdate, run_underlying ht, Go.MapKept.run_getObj_map hb, hck, hf, Go.MapKept.run_setObj_map _ hb, Result.andThen]
  show ({ W with heap := (W.heap.push _).setIfInBounds W.heap.size _ } : World) = { W with heap := W.heap.push _ }
  rw [push_set]
set_option maxRecDepth 8000 in
theorem run_look_fn {P : Program} {t k e : TypeId} (ht : P.underlying t = some (.map k e)) (hk : P.underlying k = some (.int .i64)) (hz : ∀ W : World, (zeroValue e).run P W = .ok .nilFunc W) (W : World) (b : Nat) (es : Array MapEntry) (clock : Nat) (n : Int)
    (hb : W.heap[b]? = some (.map es clock)) (a : Option (Nat × Value)) (hfind : Instr.findNow (.int .i64) (.int .i64 n) es.toList 0 = some a) :
    (Instr.lookup t (.map (some b)) (.int .i64 n) true).run P W = .ok (.tuple #[(a.map (·.2)).getD .nilFunc, .bool a.isSome]) W := by
  have hf := run_findKey (P := P) (w := W) hk hfind
  have hck := fun x => run_check_int hk W x n
  cases a with
  | none => simp [Instr.lookup, run_underlying ht, Go.MapKept.run_getObj_map hb, hf, hck, hz W, Result.andThen]
  | some p => simp [Instr.lookup, run_underlying ht, Go.MapKept.run_getObj_map hb, hf, hck, Result.andThen]
def wE1 : Array MapEntry := #[{ key := .int .i64 0, val := .func (.func 68) #[] #[], born := 0 }]
theorem wupd1 (W : World) : (Instr.mapUpdate 124 (.map (some W.heap.size)) (.int .i64 0) (.func (.func 68) #[] #[])).run Tryd.prog (W.alloc (.map #[] 0)) = .ok () (W.alloc (.map wE1 1)) :=
  run_upd_new Tryd.underlying124 Tryd.underlying27 W #[] 0 _ _ rfl
def wE2 : Array MapEntry := #[{ key := .int .i64 0, val := .func (.func 68) #[] #[], born := 0 }, { key := .int .i64 1, val := .func (.func 68) #[] #[], born := 1 }]
theorem wupd2 (W : World) : (Instr.mapUpdate 124 (.map (some W.heap.size)) (.int .i64 1) (.func (.func 68) #[] #[])).run Tryd.prog (W.alloc (.map wE1 1)) = .ok () (W.alloc (.map wE2 2)) :=
  run_upd_new Tryd.underlying124 Tryd.underlying27 W wE1 1 _ _ rfl
def wE3 : Array MapEntry := #[{ key := .int .i64 0, val := .func (.func 68) #[] #[], born := 0 }, { key := .int .i64 1, val := .func (.func 68) #[] #[], born := 1 }, { key := .int .i64 8, val := .func (.func 68) #[] #[], born := 2 }]
theorem wupd3 (W : World) : (Instr.mapUpdate 124 (.map (some W.heap.size)) (.int .i64 8) (.func (.func 68) #[] #[])).run Tryd.prog (W.alloc (.map wE2 2)) = .ok () (W.alloc (.map wE3 3)) :=
  run_upd_new Tryd.underlying124 Tryd.underlying27 W wE2 2 _ _ rfl
def wE4 : Array MapEntry := #[{ key := .int .i64 0, val := .func (.func 68) #[] #[], born := 0 }, { key := .int .i64 1, val := .func (.func 68) #[] #[], born := 1 }, { key := .int .i64 8, val := .func (.func 68) #[] #[], born := 2 }, { key := .int .i64 2, val := .func (.func 69) #[] #[], born := 3 }]
theorem wupd4 (W : World) : (Instr.mapUpdate 124 (.map (some W.heap.size)) (.int .i64 2) (.func (.func 69) #[] #[])).run Tryd.prog (W.alloc (.map wE3 3)) = .ok () (W.alloc (.map wE4 4)) :=
  run_upd_new Tryd.underlying124 Tryd.underlying27 W wE3 3 _ _ rfl
def wE5 : Array MapEntry := #[{ key := .int .i64 0, val := .func (.func 68) #[] #[], born := 0 }, { key := .int .i64 1, val := .func (.func 68) #[] #[], born := 1 }, { key := .int .i64 8, val := .func (.func 68) #[] #[], born := 2 }, { key := .int .i64 2, val := .func (.func 69) #[] #[], born := 3 }, { key := .int .i64 3, val := .func (.func 69) #[] #[], born := 4 }]
theorem wupd5 (W : World) : (Instr.mapUpdate 124 (.map (some W.heap.size)) (.int .i64 3) (.func (.func 69) #[] #[])).run Tryd.prog (W.alloc (.map wE4 4)) = .ok () (W.alloc (.map wE5 5)) :=
  run_upd_new Tryd.underlying124 Tryd.underlying27 W wE4 4 _ _ rfl
theorem wlook (W : World) (b : Nat) (n : Int) (a : Option (Nat × Value)) (hb : W.heap[b]? = some (.map wE5 5)) (hfind : Instr.findNow (.int .i64) (.int .i64 n) wE5.toList 0 = some a) :
    (Instr.lookup 124 (.map (some b)) (.int .i64 n) true).run Tryd.prog W = .ok (.tuple #[(a.map (·.2)).getD .nilFunc, .bool a.isSome]) W :=
  run_look_fn Tryd.underlying124 Tryd.underlying27 (fun W => by kernel_rfl) W b wE5 5 _ hb a hfind
set_option maxRecDepth 8000 in
theorem wfind_none {n : Int} (h : n ≠ 0 ∧ n ≠ 1 ∧ n ≠ 8 ∧ n ≠ 2 ∧ n ≠ 3) : Instr.findNow (.int .i64) (.int .i64 n) wE5.toList 0 = some none := by
  obtain ⟨h0, h1, h8, h2, h3⟩ := h
  have e0 : (n == 0) = false := by simpa using h0
  have e1 : (n == 1) = false := by simpa using h1
  have e8 : (n == 8) = false := by simpa using h8
  have e2 : (n == 2) = false := by simpa using h2
  have e3 : (n == 3) = false := by simpa using h3
  simp [Instr.findNow, Instr.sameNow, wE5, e0, e1, e8, e2, e3]
set_option maxRecDepth 8000 in
set_option maxHeartbeats 400000 in
theorem weakOnes_any (w : World) :
    Calls Tryd.prog 67 #[] w fun e w' => e = .returned (.map (some w.heap.size)) ∧ w.alloc (.map wE5 5) = w' := by
  have hmm := @run_makeMap Tryd.prog
  have h1 := wupd1
  have h2 := wupd2
  have h3 := wupd3
  have h4 := wupd4
  have h5 := wupd5
  go_enter Tryd.func67, Tryd.ntmps67
  go_wp2
  go_ret
  exact ⟨rfl, rfl⟩
end Go.Proofs.YtjolojomgfcfbaaDoor
namespace Go.Proofs.YtjolojomgfcfbaaDoor
open Go.RowKit
/-- Q at the normal end, and no other end -/
def OnlyN (Q : Exit → Act → World → Prop) : Exit → Act → World → Prop
  | .normal, a, w => Q .normal a w
  | _, _, _ => False
section
variable {P : Program} {ops : Array Oper} {Q : Exit → Act → World → Prop} {md : Region.Mode} {S : World → Prop} {l n : Nat}
theorem OnlyN.normal {a : Act} {w : World} (h : Q .normal a w) : OnlyN Q .normal a w := h
theorem OnlyN.imp : ∀ (e : Exit) (a : Act) (w : World), OnlyN Q e a w → Q e a w := fun e a w h => by
  cases e <;> first | exact h | exact (h : False).elim
theorem wp_region_only {id : Nat} {a : Act} {w : World} (hm : P.follows .mixedOrders = true) (hS : S w.drew)
    (h : S w.drew → wpAnyH P .any ops (OnlyN Q) S ops.size (Array.replicate ops.size false) a w.drew) : (Code.region id ops true).wp P Q a w :=
  Code.wp_mono OnlyN.imp (wp_region_held_drew hm hS h)
end
end Go.Proofs.YtjolojomgfcfbaaDoor
namespace Go.Proofs.YtjolojomgfcfbaaDoor
open Go.RowKit
set_option maxRecDepth 8000 in
set_option maxHeartbeats 400000 in
theorem w1_any (k o c l r v : Int) (w : World) :
    Calls Tryd.prog 68 #[.agg (kc k o c l r v)] w fun e w' => e = .returned (.agg (kc k o c l r v)) ∧ Below w.heap.size w w' := by
  go_enter Tryd.func68, Tryd.ntmps68
  go_wp2
  refine bodyPost_ret (v := .agg (kc k o c l r v)) (by simp [results, Tryd.results68, go_sem]) rfl ⟨rfl, ?_⟩
  exact ((Below.refl _ _).alloc (Nat.le_refl _) _).alloc (by simp) _
set_option maxRecDepth 8000 in
set_option maxHeartbeats 400000 in
theorem w2_any (k o c l v : Int) (r : Nat) (w : World) (hT : Tab w) (k0 : 0 ≤ k) (k1 : k ≤ 10) (hr : r < 8) :
    Calls Tryd.prog 69 #[.agg (kc k o c l r v)] w fun e w' => e = .returned (.agg (kc k o c l (lsN r 3 (rm k) : Nat) v)) ∧ Below w.heap.size w w' := by
  have HT := Lib.hid hT
  clear hT
  obtain ⟨x, hx⟩ : ∃ x : Int, x = (lsN r 3 (rm k) : Nat) := ⟨_, rfl⟩
  rw [← hx]
  have HX := Lib.hid hx
  clear hx
  go_enter Tryd.func69, Tryd.ntmps69
  go_wp2_with (go_at_call 59; refine (less_any k o c l v r 3 _ ((HT.out.alloc _).alloc _) k0 k1 hr (by decide)).mono ?_; rw [← HX.out]; rintro e w1 ⟨rfl, b1⟩; obtain ⟨B1, B2, b2⟩ := box2 b1; obtain ⟨c0, c1, c2, c3, c4, c5⟩ := B1.six; obtain ⟨d0, d1, d2, d3, d4, d5⟩ := B2.six; have f0 := B2.frozen; have HB := Lib.hid b2; clear b1 b2 B1 B2)
  refine bodyPost_ret (v := .agg (kc k o c l x v)) (by simp [results, Tryd.results69, go_sem, d0, d1, d2, d3, d4, d5]) rfl ⟨rfl, below_set6 HB.out (by omega) _ _ _ _ _ _⟩
set_option maxRecDepth 8000 in
set_option maxHeartbeats 1000000 in
theorem weaken_self (k o c l r v : Int) (w : World) (hT : Tab w) (h : OkK k o c l r v) (hk : k = 0 ∨ k = 1 ∨ k = 8) :
    Calls Tryd.prog 66 #[.agg (kc k o c l r v)] w fun e w' => e = .returned (.tuple #[.agg (kc k o c l r v), .int .i64 0]) ∧ Below w.heap.size w w' := by
  have HK := Lib.hid h
  have HT := Lib.hid hT
  have KK := Lib.hid (okK_in h)
  have hlk : ∀ (W : World) (b : Nat), b = W.heap.size → (Instr.lookup 124 (.map (some b)) (.int .i64 k) true).run Tryd.prog ((W.alloc (.map wE5 5)).drew) = .ok (.tuple #[.func (.func 68) #[] #[], .bool true]) ((W.alloc (.map wE5 5)).drew) := by
    rintro W b rfl
    rcases hk with rfl | rfl | rfl
    · exact wlook _ _ _ (some (0, _)) (heap_alloc_new W _) rfl
    · exact wlook _ _ _ (some (1, _)) (heap_alloc_new W _) rfl
    · exact wlook _ _ _ (some (2, _)) (heap_alloc_new W _) rfl
  clear h hT hk
  go_enter Tryd.func66, Tryd.ntmps66
  go_wp2_with (go_at_call 36; refine (chk_ok _ _ _ _ _ _ _ ((HT.out.alloc _).alloc _) HK.out).mono ?_; rintro e w1 ⟨rfl, b1⟩; obtain ⟨B1, B2, b2⟩ := box2 b1; have HB := Lib.hid b2; have HT1 := Lib.hid (HT.out.below b2); have H1 := Lib.hid B1; have H2 := Lib.hid B2; clear b1 b2 B1 B2; have c0 := H1.out.cell 0)
  refine wp_region_only (S := fun w' => w'.cell? ⟨w.heap.size, 0, none⟩ = some (.int .i64 k)) (by kernel_rfl) (H1.out.drew.cell 0) (fun hHeld => ?_)
  refine wpAnyH_take (i := 1) (v := ?v1) rfl (by kernel_rfl) (by kernel_rfl) (by kernel_rfl) (fun _ _ _ h => h) (Or.inl ⟨by rfl, ?hy1⟩) hHeld ?rest1
  case hy1 =>
    intro w' hSw
    try dsimp only at hSw
    go_simp
    first | done | with_reducible rfl
  try simp only [Act.put, List.getElem_toArray, List.getElem_cons_succ, List.getElem_cons_zero, List.setIfInBounds_toArray, List.set_cons_zero, List.set_cons_succ]
  refine wpAnyH_take (i := 2) (v := ?v2) rfl (by kernel_rfl) (by kernel_rfl) (by kernel_rfl) (fun _ _ _ h => h) (Or.inl ⟨by rfl, ?hy2⟩) hHeld ?rest2
  case hy2 =>
    intro w' hSw
    try dsimp only at hSw
    go_simp
    first | done | with_reducible rfl
  try simp only [Act.put, List.getElem_toArray, List.getElem_cons_succ, List.getElem_cons_zero, List.setIfInBounds_toArray, List.set_cons_zero, List.set_cons_succ]
  refine wpAnyH_ready (rs := [0]) (by kernel_rfl) (by simp) ?_
  refine AllReadyH.cons (by rfl) (fun K hK => ?_) AllReadyH.nil
  go_simp
  refine (weakOnes_any _).mono ?_
  rintro e w' ⟨rfl, rfl⟩
  go_wp2_with fail
  refine hK.out _ _ ((H1.out.drew.alloc _).cell 0) (fun hHeld => ?_)
  clear hK K
  try simp only [Act.put, List.getElem_toArray, List.getElem_cons_succ, List.getElem_cons_zero, List.setIfInBounds_toArray, List.set_cons_zero, List.set_cons_succ]
  refine wpAnyH_ready (rs := [3]) (by kernel_rfl) (by simp) ?_
  refine AllReadyH.cons (by rfl) (fun K hK => ?_) AllReadyH.nil
  go_simp
  refine hK.out _ _ ((H1.out.drew.alloc _).cell 0) (fun hHeld => ?_)
  clear hK K
  try simp only [Act.put, List.getElem_toArray, List.getElem_cons_succ, List.getElem_cons_zero, List.setIfInBounds_toArray, List.set_cons_zero, List.set_cons_succ]
  refine wpAnyH_take (i := 4) (v := ?v3) rfl (by kernel_rfl) (by kernel_rfl) (by kernel_rfl) (fun _ _ _ h => h) (Or.inl ⟨by rfl, ?hy3⟩) hHeld ?rest3
  case hy3 =>
    intro w' hSw
    try dsimp only at hSw
    go_simp
    first | done | with_reducible rfl
  try simp only [Act.put, List.getElem_toArray, List.getElem_cons_succ, List.getElem_cons_zero, List.setIfInBounds_toArray, List.set_cons_zero, List.set_cons_succ]
  refine wpAnyH_take (i := 5) (v := ?v4) rfl (by kernel_rfl) (by kernel_rfl) (by kernel_rfl) (fun _ _ _ h => h) (Or.inl ⟨by rfl, ?hy4⟩) hHeld ?rest4
  case hy4 =>
    intro w' hSw
    try dsimp only at hSw
    go_simp
    first | done | with_reducible rfl
  try simp only [Act.put, List.getElem_toArray, List.getElem_cons_succ, List.getElem_cons_zero, List.setIfInBounds_toArray, List.set_cons_zero, List.set_cons_succ]
  refine wpAnyH_take (i := 6) (v := ?v5) rfl (by kernel_rfl) (by kernel_rfl) (by kernel_rfl) (fun _ _ _ h => h) (Or.inl ⟨by rfl, ?hy5⟩) hHeld ?rest5
  case hy5 =>
    intro w' hSw
    try dsimp only at hSw
    go_simp
    first | done | with_reducible rfl
  try simp only [Act.put, List.getElem_toArray, List.getElem_cons_succ, List.getElem_cons_zero, List.setIfInBounds_toArray, List.set_cons_zero, List.set_cons_succ]
  refine wpAnyH_take (i := 7) (v := ?v6) rfl (by kernel_rfl) (by kernel_rfl) (by kernel_rfl) (fun _ _ _ h => h) (Or.inl ⟨by rfl, ?hy6⟩) hHeld ?rest6
  case hy6 =>
    intro w' hSw
    try dsimp only at hSw
    go_simp
    first | done | with_reducible rfl
  try simp only [Act.put, List.getElem_toArray, List.getElem_cons_succ, List.getElem_cons_zero, List.setIfInBounds_toArray, List.set_cons_zero, List.set_cons_succ]
  refine wpAnyH_take (i := 8) (v := ?v7) rfl (by kernel_rfl) (by kernel_rfl) (by kernel_rfl) (fun _ _ _ h => h) (Or.inl ⟨by rfl, ?hy7⟩) hHeld ?rest7
  case hy7 =>
    intro w' hSw
    try dsimp only at hSw
    go_simp
    first | done | with_reducible rfl
  try simp only [Act.put, List.getElem_toArray, List.getElem_cons_succ, List.getElem_cons_zero, List.setIfInBounds_toArray, List.set_cons_zero, List.set_cons_succ]
  refine wpAnyH_done (by kernel_rfl) ?_ _
  refine OnlyN.normal ?_
  clear hHeld hlk
  have G1 := Lib.hid (H1.out.alloc (.map wE5 5)).drew
  have G2 := Lib.hid (H2.out.alloc (.map wE5 5)).drew
  have GB := Lib.hid (below_drew (HB.out.alloc HB.out.size (.map wE5 5)))
  have GT := Lib.hid (HT1.out.alloc (.map wE5 5)).drew
  generalize (w1.alloc (.map wE5 5)).drew = w3 at G1 G2 GB GT ⊢
  clear c0 H1 H2 HB HT1
  obtain ⟨c0, c1, c2, c3, c4, c5⟩ := G1.out.six
  go_wp2_with (go_at_call 68; refine (w1_any k o c l r v _).mono ?_; rintro e w4 ⟨rfl, b4⟩; have HB4 := Lib.hid (GB.out.trans (b4.mono GB.out.size)); have P2 := G2.out.keep b4; obtain ⟨d0, d1, d2, d3, d4, d5⟩ := P2.six; have f0 := P2.frozen; clear b4 P2)
  refine bodyPost_ret (v := .tuple #[.agg (kc k o c l r v), .int .i64 0]) (by simp [results, Tryd.results66, go_sem, d0, d1, d2, d3, d4, d5]) rfl ⟨rfl, below_set6 HB4.out (by omega) _ _ _ _ _ _⟩
set_option maxRecDepth 8000 in
set_option maxHeartbeats 1000000 in
theorem weaken_less (k o c l v : Int) (r : Nat) (w : World) (hT : Tab w) (h : OkK k o c l r v) (hk : k = 2 ∨ k = 3) (hr : r < 8) :
    Calls Tryd.prog 66 #[.agg (kc k o c l r v)] w fun e w' => e = .returned (.tuple #[.agg (kc k o c l (lsN r 3 (rm k) : Nat) v), .int .i64 0]) ∧ Below w.heap.size w w' := by
  have HK := Lib.hid h
  have HT := Lib.hid hT
  have KK := Lib.hid (okK_in h)
  have hlk : ∀ (W : World) (b : Nat), b = W.heap.size → (Instr.lookup 124 (.map (some b)) (.int .i64 k) true).run Tryd.prog ((W.alloc (.map wE5 5)).drew) = .ok (.tuple #[.func (.func 69) #[] #[], .bool true]) ((W.alloc (.map wE5 5)).drew) := by
    rintro W b rfl
    rcases hk with rfl | rfl
    · exact wlook _ _ _ (some (3, _)) (heap_alloc_new W _) rfl
    · exact wlook _ _ _ (some (4, _)) (heap_alloc_new W _) rfl
  obtain ⟨x, hx⟩ : ∃ x : Int, x = (lsN r 3 (rm k) : Nat) := ⟨_, rfl⟩
  rw [← hx]
  have HX := Lib.hid hx
  clear hx
  clear h hT hk
  go_enter Tryd.func66, Tryd.ntmps66
  go_wp2_with (go_at_call 36; refine (chk_ok _ _ _ _ _ _ _ ((HT.out.alloc _).alloc _) HK.out).mono ?_; rintro e w1 ⟨rfl, b1⟩; obtain ⟨B1, B2, b2⟩ := box2 b1; have HB := Lib.hid b2; have HT1 := Lib.hid (HT.out.below b2); have H1 := Lib.hid B1; have H2 := Lib.hid B2; clear b1 b2 B1 B2; have c0 := H1.out.cell 0)
  refine wp_region_only (S := fun w' => w'.cell? ⟨w.heap.size, 0, none⟩ = some (.int .i64 k)) (by kernel_rfl) (H1.out.drew.cell 0) (fun hHeld => ?_)
  refine wpAnyH_take (i := 1) (v := ?v8) rfl (by kernel_rfl) (by kernel_rfl) (by kernel_rfl) (fun _ _ _ h => h) (Or.inl ⟨by rfl, ?hy8⟩) hHeld ?rest8
  case hy8 =>
    intro w' hSw
    try dsimp only at hSw
    go_simp
    first | done | with_reducible rfl
  try simp only [Act.put, List.getElem_toArray, List.getElem_cons_succ, List.getElem_cons_zero, List.setIfInBounds_toArray, List.set_cons_zero, List.set_cons_succ]
  refine wpAnyH_take (i := 2) (v := ?v9) rfl (by kernel_rfl) (by kernel_rfl) (by kernel_rfl) (fun _ _ _ h => h) (Or.inl ⟨by rfl, ?hy9⟩) hHeld ?rest9
  case hy9 =>
    intro w' hSw
    try dsimp only at hSw
    go_simp
    first | done | with_reducible rfl
  try simp only [Act.put, List.getElem_toArray, List.getElem_cons_succ, List.getElem_cons_zero, List.setIfInBounds_toArray, List.set_cons_zero, List.set_cons_succ]
  refine wpAnyH_ready (rs := [0]) (by kernel_rfl) (by simp) ?_
  refine AllReadyH.cons (by rfl) (fun K hK => ?_) AllReadyH.nil
  go_simp
  refine (weakOnes_any _).mono ?_
  rintro e w' ⟨rfl, rfl⟩
  go_wp2_with fail
  refine hK.out _ _ ((H1.out.drew.alloc _).cell 0) (fun hHeld => ?_)
  clear hK K
  try simp only [Act.put, List.getElem_toArray, List.getElem_cons_succ, List.getElem_cons_zero, List.setIfInBounds_toArray, List.set_cons_zero, List.set_cons_succ]
  refine wpAnyH_ready (rs := [3]) (by kernel_rfl) (by simp) ?_
  refine AllReadyH.cons (by rfl) (fun K hK => ?_) AllReadyH.nil
  go_simp
  refine hK.out _ _ ((H1.out.drew.alloc _).cell 0) (fun hHeld => ?_)
  clear hK K
  try simp only [Act.put, List.getElem_toArray, List.getElem_cons_succ, List.getElem_cons_zero, List.setIfInBounds_toArray, List.set_cons_zero, List.set_cons_succ]
  refine wpAnyH_take (i := 4) (v := ?v10) rfl (by kernel_rfl) (by kernel_rfl) (by kernel_rfl) (fun _ _ _ h => h) (Or.inl ⟨by rfl, ?hy10⟩) hHeld ?rest10
  case hy10 =>
    intro w' hSw
    try dsimp only at hSw
    go_simp
    first | done | with_reducible rfl
  try simp only [Act.put, List.getElem_toArray, List.getElem_cons_succ, List.getElem_cons_zero, List.setIfInBounds_toArray, List.set_cons_zero, List.set_cons_succ]
  refine wpAnyH_take (i := 5) (v := ?v11) rfl (by kernel_rfl) (by kernel_rfl) (by kernel_rfl) (fun _ _ _ h => h) (Or.inl ⟨by rfl, ?hy11⟩) hHeld ?rest11
  case hy11 =>
    intro w' hSw
    try dsimp only at hSw
    go_simp
    first | done | with_reducible rfl
  try simp only [Act.put, List.getElem_toArray, List.getElem_cons_succ, List.getElem_cons_zero, List.setIfInBounds_toArray, List.set_cons_zero, List.set_cons_succ]
  refine wpAnyH_take (i := 6) (v := ?v12) rfl (by kernel_rfl) (by kernel_rfl) (by kernel_rfl) (fun _ _ _ h => h) (Or.inl ⟨by rfl, ?hy12⟩) hHeld ?rest12
  case hy12 =>
    intro w' hSw
    try dsimp only at hSw
    go_simp
    first | done | with_reducible rfl
  try simp only [Act.put, List.getElem_toArray, List.getElem_cons_succ, List.getElem_cons_zero, List.setIfInBounds_toArray, List.set_cons_zero, List.set_cons_succ]
  refine wpAnyH_take (i := 7) (v := ?v13) rfl (by kernel_rfl) (by kernel_rfl) (by kernel_rfl) (fun _ _ _ h => h) (Or.inl ⟨by rfl, ?hy13⟩) hHeld ?rest13
  case hy13 =>
    intro w' hSw
    try dsimp only at hSw
    go_simp
    first | done | with_reducible rfl
  try simp only [Act.put, List.getElem_toArray, List.getElem_cons_succ, List.getElem_cons_zero, List.setIfInBounds_toArray, List.set_cons_zero, List.set_cons_succ]
  refine wpAnyH_take (i := 8) (v := ?v14) rfl (by kernel_rfl) (by kernel_rfl) (by kernel_rfl) (fun _ _ _ h => h) (Or.inl ⟨by rfl, ?hy14⟩) hHeld ?rest14
  case hy14 =>
    intro w' hSw
    try dsimp only at hSw
    go_simp
    first | done | with_reducible rfl
  try simp only [Act.put, List.getElem_toArray, List.getElem_cons_succ, List.getElem_cons_zero, List.setIfInBounds_toArray, List.set_cons_zero, List.set_cons_succ]
  refine wpAnyH_done (by kernel_rfl) ?_ _
  refine OnlyN.normal ?_
  clear hHeld hlk
  have G1 := Lib.hid (H1.out.alloc (.map wE5 5)).drew
  have G2 := Lib.hid (H2.out.alloc (.map wE5 5)).drew
  have GB := Lib.hid (below_drew (HB.out.alloc HB.out.size (.map wE5 5)))
  have GT := Lib.hid (HT1.out.alloc (.map wE5 5)).drew
  generalize (w1.alloc (.map wE5 5)).drew = w3 at G1 G2 GB GT ⊢
  clear c0 H1 H2 HB HT1
  obtain ⟨c0, c1, c2, c3, c4, c5⟩ := G1.out.six
  go_wp2_with (go_at_call 69; refine (w2_any k o c l v r _ GT.out KK.out.1 KK.out.2 hr).mono ?_; rw [← HX.out]; rintro e w4 ⟨rfl, b4⟩; have HB4 := Lib.hid (GB.out.trans (b4.mono GB.out.size)); have P2 := G2.out.keep b4; obtain ⟨d0, d1, d2, d3, d4, d5⟩ := P2.six; have f0 := P2.frozen; clear b4 P2)
  refine bodyPost_ret (v := .tuple #[.agg (kc k o c l x v), .int .i64 0]) (by simp [results, Tryd.results66, go_sem, d0, d1, d2, d3, d4, d5]) rfl ⟨rfl, below_set6 HB4.out (by omega) _ _ _ _ _ _⟩
set_option maxRecDepth 8000 in
set_option maxHeartbeats 1000000 in
theorem weaken_void (k o c l r v : Int) (w : World) (hT : Tab w) (h : OkK k o c l r v) (hk : k ≠ 0 ∧ k ≠ 1 ∧ k ≠ 8 ∧ k ≠ 2 ∧ k ≠ 3) :
    Calls Tryd.prog 66 #[.agg (kc k o c l r v)] w fun e w' => e = .returned (.tuple #[.agg (kc 0 0 0 0 0 0), .int .i64 0]) ∧ Below w.heap.size w w' := by
  have HK := Lib.hid h
  have HT := Lib.hid hT
  have KK := Lib.hid (okK_in h)
  have hlk : ∀ (W : World) (b : Nat), b = W.heap.size → (Instr.lookup 124 (.map (some b)) (.int .i64 k) true).run Tryd.prog ((W.alloc (.map wE5 5)).drew) = .ok (.tuple #[.nilFunc, .bool false]) ((W.alloc (.map wE5 5)).drew) := by
    rintro W b rfl
    exact wlook _ _ _ none (heap_alloc_new W _) (wfind_none (by omega))
  clear h hT hk
  go_enter Tryd.func66, Tryd.ntmps66
  go_wp2_with (go_at_call 36; refine (chk_ok _ _ _ _ _ _ _ ((HT.out.alloc _).alloc _) HK.out).mono ?_; rintro e w1 ⟨rfl, b1⟩; obtain ⟨B1, B2, b2⟩ := box2 b1; have HB := Lib.hid b2; have HT1 := Lib.hid (HT.out.below b2); have H1 := Lib.hid B1; have H2 := Lib.hid B2; clear b1 b2 B1 B2; have c0 := H1.out.cell 0)
  refine wp_region_only (S := fun w' => w'.cell? ⟨w.heap.size, 0, none⟩ = some (.int .i64 k)) (by kernel_rfl) (H1.out.drew.cell 0) (fun hHeld => ?_)
  refine wpAnyH_take (i := 1) (v := ?v15) rfl (by kernel_rfl) (by kernel_rfl) (by kernel_rfl) (fun _ _ _ h => h) (Or.inl ⟨by rfl, ?hy15⟩) hHeld ?rest15
  case hy15 =>
    intro w' hSw
    try dsimp only at hSw
    go_simp
    first | done | with_reducible rfl
  try simp only [Act.put, List.getElem_toArray, List.getElem_cons_succ, List.getElem_cons_zero, List.setIfInBounds_toArray, List.set_cons_zero, List.set_cons_succ]
  refine wpAnyH_take (i := 2) (v := ?v16) rfl (by kernel_rfl) (by kernel_rfl) (by kernel_rfl) (fun _ _ _ h => h) (Or.inl ⟨by rfl, ?hy16⟩) hHeld ?rest16
  case hy16 =>
    intro w' hSw
    try dsimp only at hSw
    go_simp
    first | done | with_reducible rfl
  try simp only [Act.put, List.getElem_toArray, List.getElem_cons_succ, List.getElem_cons_zero, List.setIfInBounds_toArray, List.set_cons_zero, List.set_cons_succ]
  refine wpAnyH_ready (rs := [0]) (by kernel_rfl) (by simp) ?_
  refine AllReadyH.cons (by rfl) (fun K hK => ?_) AllReadyH.nil
  go_simp
  refine (weakOnes_any _).mono ?_
  rintro e w' ⟨rfl, rfl⟩
  go_wp2_with fail
  refine hK.out _ _ ((H1.out.drew.alloc _).cell 0) (fun hHeld => ?_)
  clear hK K
  try simp only [Act.put, List.getElem_toArray, List.getElem_cons_succ, List.getElem_cons_zero, List.setIfInBounds_toArray, List.set_cons_zero, List.set_cons_succ]
  refine wpAnyH_ready (rs := [3]) (by kernel_rfl) (by simp) ?_
  refine AllReadyH.cons (by rfl) (fun K hK => ?_) AllReadyH.nil
  go_simp
  refine hK.out _ _ ((H1.out.drew.alloc _).cell 0) (fun hHeld => ?_)
  clear hK K
  try simp only [Act.put, List.getElem_toArray, List.getElem_cons_succ, List.getElem_cons_zero, List.setIfInBounds_toArray, List.set_cons_zero, List.set_cons_succ]
  refine wpAnyH_take (i := 4) (v := ?v17) rfl (by kernel_rfl) (by kernel_rfl) (by kernel_rfl) (fun _ _ _ h => h) (Or.inl ⟨by rfl, ?hy17⟩) hHeld ?rest17
  case hy17 =>
    intro w' hSw
    try dsimp only at hSw
    go_simp
    first | done | with_reducible rfl
  try simp only [Act.put, List.getElem_toArray, List.getElem_cons_succ, List.getElem_cons_zero, List.setIfInBounds_toArray, List.set_cons_zero, List.set_cons_succ]
  refine wpAnyH_take (i := 5) (v := ?v18) rfl (by kernel_rfl) (by kernel_rfl) (by kernel_rfl) (fun _ _ _ h => h) (Or.inl ⟨by rfl, ?hy18⟩) hHeld ?rest18
  case hy18 =>
    intro w' hSw
    try dsimp only at hSw
    go_simp
    first | done | with_reducible rfl
  try simp only [Act.put, List.getElem_toArray, List.getElem_cons_succ, List.getElem_cons_zero, List.setIfInBounds_toArray, List.set_cons_zero, List.set_cons_succ]
  refine wpAnyH_take (i := 6) (v := ?v19) rfl (by kernel_rfl) (by kernel_rfl) (by kernel_rfl) (fun _ _ _ h => h) (Or.inl ⟨by rfl, ?hy19⟩) hHeld ?rest19
  case hy19 =>
    intro w' hSw
    try dsimp only at hSw
    go_simp
    first | done | with_reducible rfl
  try simp only [Act.put, List.getElem_toArray, List.getElem_cons_succ, List.getElem_cons_zero, List.setIfInBounds_toArray, List.set_cons_zero, List.set_cons_succ]
  refine wpAnyH_take (i := 7) (v := ?v20) rfl (by kernel_rfl) (by kernel_rfl) (by kernel_rfl) (fun _ _ _ h => h) (Or.inl ⟨by rfl, ?hy20⟩) hHeld ?rest20
  case hy20 =>
    intro w' hSw
    try dsimp only at hSw
    go_simp
    first | done | with_reducible rfl
  try simp only [Act.put, List.getElem_toArray, List.getElem_cons_succ, List.getElem_cons_zero, List.setIfInBounds_toArray, List.set_cons_zero, List.set_cons_succ]
  refine wpAnyH_take (i := 8) (v := ?v21) rfl (by kernel_rfl) (by kernel_rfl) (by kernel_rfl) (fun _ _ _ h => h) (Or.inl ⟨by rfl, ?hy21⟩) hHeld ?rest21
  case hy21 =>
    intro w' hSw
    try dsimp only at hSw
    go_simp
    first | done | with_reducible rfl
  try simp only [Act.put, List.getElem_toArray, List.getElem_cons_succ, List.getElem_cons_zero, List.setIfInBounds_toArray, List.set_cons_zero, List.set_cons_succ]
  refine wpAnyH_done (by kernel_rfl) ?_ _
  refine OnlyN.normal ?_
  clear hHeld hlk
  have G1 := Lib.hid (H1.out.alloc (.map wE5 5)).drew
  have G2 := Lib.hid (H2.out.alloc (.map wE5 5)).drew
  have GB := Lib.hid (below_drew (HB.out.alloc HB.out.size (.map wE5 5)))
  have GT := Lib.hid (HT1.out.alloc (.map wE5 5)).drew
  generalize (w1.alloc (.map wE5 5)).drew = w3 at G1 G2 GB GT ⊢
  clear c0 H1 H2 HB HT1
  obtain ⟨c0, c1, c2, c3, c4, c5⟩ := G1.out.six
  obtain ⟨d0, d1, d2, d3, d4, d5⟩ := G2.out.six
  have f0 := G2.out.frozen
  go_wp2_with (fail)
  refine bodyPost_ret (v := .tuple #[.agg (kc 0 0 0 0 0 0), .int .i64 0]) (by simp [results, Tryd.results66, go_sem, d0, d1, d2, d3, d4, d5]) rfl ⟨rfl, below_set6 GB.out (by omega) _ _ _ _ _ _⟩
end Go.Proofs.YtjolojomgfcfbaaDoor

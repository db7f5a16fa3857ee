/- keys.weakOnes: the map of function values. -/
import Derived.Test.YtogkdhpnbpgheaaGreatDoorR03
import Derived.MapKept
import Derived.Maps.OwnOps
import Derived.Test.YtogkdhpnbpgheaaGreatDoorR04
import Derived.Test.YtogkdhpnbpgheaaGreatDoorR07
namespace Go.Proofs.YtogkdhpnbpgheaaGreatDoor
open Go.RowKit
open Go.MapKept (run_getObj_map run_setObj_map run_findKey)
set_option maxRecDepth 8000 in
theorem push_set {α : Type} (a : Array α) (x y : α) : (a.push x).setIfInBounds a.size y = a.push y := by
  apply Array.ext'
  rw [Array.toList_setIfInBounds, Array.toList_push, Array.toList_push, List.set_append_right _ _ (by simp)]
  simp
set_option maxRecDepth 8000 in
theorem run_check_int {P : Program} {k : TypeId} {q : IntKind} (hk : P.underlying k = some (.int q)) (W : World) (b : Bool) (n : Int) : (Instr.checkKey b 10000 k (.int q n)).run P W = .ok () W := by
  have h : ∀ d, (Instr.checkKey b (d + 1) k (.int q n)).run P W = .ok () W := fun d => by simp [Instr.checkKey, run_underlying hk]
  exact h 9999
set_option maxRecDepth 8000 in
theorem run_upd_new {P : Program} {t k e : TypeId} (ht : P.underlying t = some (.map k e)) (hk : P.underlying k = some (.int .i64)) (W : World) (es : Array MapEntry) (clock : Nat) (n : Int) (v : Value)
    (hfind : Instr.findNow (.int .i64) (.int .i64 n) es.toList 0 = some none) :
    (Instr.mapUpdate t (.map (some W.heap.size)) (.int .i64 n) v).run P (W.alloc (.map es clock)) = .ok () (W.alloc (.map (es.push { key := .int .i64 n, val := v, born := clock }) (clock + 1))) := by
  have hb : (W.alloc (.map es clock)).heap[W.heap.size]? = some (.map es clock) := heap_alloc_new W _
  have hf := run_findKey (P := P) (w := W.alloc (.map es clock)) hk hfind
  have hck := run_check_int hk (W.alloc (.map es clock)) false n
  simp [Instr.mapUpdate, run_underlying ht, Go.MapKept.run_getObj_map hb, hck, hf, Go.MapKept.run_setObj_map _ hb, Result.andThen]
  show ({ W with heap := (W.heap.push _).setIfInBounds W.heap.size _ } : World) = { W with heap := W.heap.push _ }
  rw [push_set]
set_option maxRecDepth 8000 in
theorem run_look_fn {P : Program} {t k e : TypeId} (ht : P.underlying t = some (.map k e)) (hk : P.underlying k = some (.int .i64)) (hz : ∀ W : World, (zeroValue e).run P W = .ok .nilFunc W) (W : World) (b : Nat) (es : Array MapEntry) (clock : Nat) (n : Int)
    (hb : W.heap[b]? = some (.map es clock)) (a : Option (Nat × Value)) (hfind : Instr.findNow (.int .i64) (.int .i64 n) es.toList 0 = some a) :
    (Instr.lookup t (.map (some b)) (.int .i64 n) true).run P W = .ok (.tuple #[(a.map (·.2)).getD .nilFunc, .bool a.isSome]) W := by
  have hf := run_findKey (P := P) (w := W) hk hfind
  have hck := fun x => run_check_int hk W x n
  cases a with
  | none => simp [Instr.lookup, run_underlying ht, Go.MapKept.run_getObj_map hb, hf, hck, hz W, Result.andThen]
  | some p => simp [Instr.lookup, run_underlying ht, Go.MapKept.run_getObj_map hb, hf, hck, Result.andThen]
def wE1 : Array MapEntry := #[{ key := .int .i64 0, val := .func (.func 253) #[] #[], born := 0 }]
theorem wupd1 (W : World) : (Instr.mapUpdate 276 (.map (some W.heap.size)) (.int .i64 0) (.func (.func 253) #[] #[])).run Tryz.prog (W.alloc (.map #[] 0)) = .ok () (W.alloc (.map wE1 1)) :=
  run_upd_new Tryz.underlying276 Tryz.underlying30 W #[] 0 _ _ rfl
def wE2 : Array MapEntry := #[{ key := .int .i64 0, val := .func (.func 253) #[] #[], born := 0 }, { key := .int .i64 1, val := .func (.func 253) #[] #[], born := 1 }]
theorem wupd2 (W : World) : (Instr.mapUpdate 276 (.map (some W.heap.size)) (.int .i64 1) (.func (.func 253) #[] #[])).run Tryz.prog (W.alloc (.map wE1 1)) = .ok () (W.alloc (.map wE2 2)) :=
  run_upd_new Tryz.underlying276 Tryz.underlying30 W wE1 1 _ _ rfl
def wE3 : Array MapEntry := #[{ key := .int .i64 0, val := .func (.func 253) #[] #[], born := 0 }, { key := .int .i64 1, val := .func (.func 253) #[] #[], born := 1 }, { key := .int .i64 8, val := .func (.func 253) #[] #[], born := 2 }]
theorem wupd3 (W : World) : (Instr.mapUpdate 276 (.map (some W.heap.size)) (.int .i64 8) (.func (.func 253) #[] #[])).run Tryz.prog (W.alloc (.map wE2 2)) = .ok () (W.alloc (.map wE3 3)) :=
  run_upd_new Tryz.underlying276 Tryz.underlying30 W wE2 2 _ _ rfl
def wE4 : Array MapEntry := #[{ key := .int .i64 0, val := .func (.func 253) #[] #[], born := 0 }, { key := .int .i64 1, val := .func (.func 253) #[] #[], born := 1 }, { key := .int .i64 8, val := .func (.func 253) #[] #[], born := 2 }, { key := .int .i64 2, val := .func (.func 254) #[] #[], born := 3 }]
theorem wupd4 (W : World) : (Instr.mapUpdate 276 (.map (some W.heap.size)) (.int .i64 2) (.func (.func 254) #[] #[])).run Tryz.prog (W.alloc (.map wE3 3)) = .ok () (W.alloc (.map wE4 4)) :=
  run_upd_new Tryz.underlying276 Tryz.underlying30 W wE3 3 _ _ rfl
def wE5 : Array MapEntry := #[{ key := .int .i64 0, val := .func (.func 253) #[] #[], born := 0 }, { key := .int .i64 1, val := .func (.func 253) #[] #[], born := 1 }, { key := .int .i64 8, val := .func (.func 253) #[] #[], born := 2 }, { key := .int .i64 2, val := .func (.func 254) #[] #[], born := 3 }, { key := .int .i64 3, val := .func (.func 254) #[] #[], born := 4 }]
theorem wupd5 (W : World) : (Instr.mapUpdate 276 (.map (some W.heap.size)) (.int .i64 3) (.func (.func 254) #[] #[])).run Tryz.prog (W.alloc (.map wE4 4)) = .ok () (W.alloc (.map wE5 5)) :=
  run_upd_new Tryz.underlying276 Tryz.underlying30 W wE4 4 _ _ rfl
theorem wlook (W : World) (b : Nat) (n : Int) (a : Option (Nat × Value)) (hb : W.heap[b]? = some (.map wE5 5)) (hfind : Instr.findNow (.int .i64) (.int .i64 n) wE5.toList 0 = some a) :
    (Instr.lookup 276 (.map (some b)) (.int .i64 n) true).run Tryz.prog W = .ok (.tuple #[(a.map (·.2)).getD .nilFunc, .bool a.isSome]) W :=
  run_look_fn Tryz.underlying276 Tryz.underlying30 (fun W => by kernel_rfl) W b wE5 5 _ hb a hfind
set_option maxRecDepth 8000 in
theorem wfind_none {n : Int} (h : n ≠ 0 ∧ n ≠ 1 ∧ n ≠ 8 ∧ n ≠ 2 ∧ n ≠ 3) : Instr.findNow (.int .i64) (.int .i64 n) wE5.toList 0 = some none := by
  obtain ⟨h0, h1, h8, h2, h3⟩ := h
  have e0 : (n == 0) = false := by simpa using h0
  have e1 : (n == 1) = false := by simpa using h1
  have e8 : (n == 8) = false := by simpa using h8
  have e2 : (n == 2) = false := by simpa using h2
  have e3 : (n == 3) = false := by simpa using h3
  simp [Instr.findNow, Instr.sameNow, wE5, e0, e1, e8, e2, e3]
set_option maxRecDepth 8000 in
set_option maxHeartbeats 400000 in
theorem weakOnes_any (w : World) :
    Calls Tryz.prog 244 #[] w fun e w' => e = .returned (.map (some w.heap.size)) ∧ w.alloc (.map wE5 5) = w' := by
  have hmm := @run_makeMap Tryz.prog
  have h1 := wupd1
  have h2 := wupd2
  have h3 := wupd3
  have h4 := wupd4
  have h5 := wupd5
  go_enter Tryz.func244, Tryz.ntmps244
  go_wp2
  go_ret
  exact ⟨rfl, rfl⟩
end Go.Proofs.YtogkdhpnbpgheaaGreatDoor
namespace Go.Proofs.YtogkdhpnbpgheaaGreatDoor
open Go.RowKit
set_option maxRecDepth 8000 in
set_option maxHeartbeats 400000 in
theorem w1_any (k o c l r v : Int) (w : World) :
    Calls Tryz.prog 253 #[.agg (kc k o c l r v)] w fun e w' => e = .returned (.agg (kc k o c l r v)) ∧ Below w.heap.size w w' := by
  go_enter Tryz.func253, Tryz.ntmps253
  go_wp2
  refine bodyPost_ret (v := .agg (kc k o c l r v)) (by simp [results, Tryz.results253, go_sem]) rfl ⟨rfl, ?_⟩
  exact ((Below.refl _ _).alloc (Nat.le_refl _) _).alloc (by simp) _
set_option maxRecDepth 8000 in
set_option maxHeartbeats 400000 in
theorem w2_any (k o c l v : Int) (r : Nat) (w : World) (hT : Tab w) (k0 : 0 ≤ k) (k1 : k ≤ 10) (hr : r < 8) :
    Calls Tryz.prog 254 #[.agg (kc k o c l r v)] w fun e w' => e = .returned (.agg (kc k o c l (lsN r 3 (rm k) : Nat) v)) ∧ Below w.heap.size w w' := by
  have HT := Lib.hid hT
  clear hT
  obtain ⟨x, hx⟩ : ∃ x : Int, x = (lsN r 3 (rm k) : Nat) := ⟨_, rfl⟩
  rw [← hx]
  have HX := Lib.hid hx
  clear hx
  go_enter Tryz.func254, Tryz.ntmps254
  go_wp2_with (go_at_call 218; refine (less_any k o c l v r 3 _ ((HT.out.alloc _).alloc _) k0 k1 hr (by decide)).mono ?_; rw [← HX.out]; rintro e w1 ⟨rfl, b1⟩; obtain ⟨B1, B2, b2⟩ := box2 b1; obtain ⟨c0, c1, c2, c3, c4, c5⟩ := B1.six; obtain ⟨d0, d1, d2, d3, d4, d5⟩ := B2.six; have f0 := B2.frozen; have HB := Lib.hid b2; clear b1 b2 B1 B2)
  refine bodyPost_ret (v := .agg (kc k o c l x v)) (by simp [results, Tryz.results254, go_sem, d0, d1, d2, d3, d4, d5]) rfl ⟨rfl, below_set6 HB.out (by omega) _ _ _ _ _ _⟩
set_option maxRecDepth 8000 in
set_option maxHeartbeats 1000000 in
theorem weaken_self (k o c l r v : Int) (w : World) (hT : Tab w) (h : OkK k o c l r v) (hk : k = 0 ∨ k = 1 ∨ k = 8) :
    Calls Tryz.prog 217 #[.agg (kc k o c l r v)] w fun e w' => e = .returned (.tuple #[.agg (kc k o c l r v), .int .i64 0]) ∧ Below w.heap.size w w' := by
  have HK := Lib.hid h
  have HT := Lib.hid hT
  have KK := Lib.hid (okK_in h)
  have hlk : ∀ (W : World) (b : Nat), b = W.heap.size → (Instr.lookup 276 (.map (some b)) (.int .i64 k) true).run Tryz.prog ((W.alloc (.map wE5 5)).drew) = .ok (.tuple #[.func (.func 253) #[] #[], .bool true]) ((W.alloc (.map wE5 5)).drew) := by
    rintro W b rfl
    rcases hk with rfl | rfl | rfl
    · exact wlook _ _ _ (some (0, _)) (heap_alloc_new W _) rfl
    · exact wlook _ _ _ (some (1, _)) (heap_alloc_new W _) rfl
    · exact wlook _ _ _ (some (2, _)) (heap_alloc_new W _) rfl
  clear h hT hk
  go_enter Tryz.func217, Tryz.ntmps217
  go_wp2_with (go_at_call 81; refine (chk_ok _ _ _ _ _ _ _ ((HT.out.alloc _).alloc _) HK.out).mono ?_; rintro e w1 ⟨rfl, b1⟩; obtain ⟨B1, B2, b2⟩ := box2 b1; have HB := Lib.hid b2; have HT1 := Lib.hid (HT.out.below b2); have H1 := Lib.hid B1; have H2 := Lib.hid B2; clear b1 b2 B1 B2; have c0 := H1.out.cell 0)
  refine wp_region_only (S := fun w' => w'.cell? ⟨w.heap.size, 0, none⟩ = some (.int .i64 k)) (by kernel_rfl) (H1.out.drew.cell 0) (fun hHeld => ?_)
  refine wpAnyH_take (i := 1) (v := ?v1) rfl (by kernel_rfl) (by kernel_rfl) (by kernel_rfl) (fun _ _ _ h => h) (Or.inl ⟨by rfl, ?hy1⟩) hHeld ?rest1
  case hy1 =>
    intro w' hSw
    try dsimp only at hSw
    go_simp
    first | done | with_reducible rfl
  try simp only [Act.put, List.getElem_toArray, List.getElem_cons_succ, List.getElem_cons_zero, List.setIfInBounds_toArray, List.set_cons_zero, List.set_cons_succ]
  refine wpAnyH_take (i := 2) (v := ?v2) rfl (by kernel_rfl) (by kernel_rfl) (by kernel_rfl) (fun _ _ _ h => h) (Or.inl ⟨by rfl, ?hy2⟩) hHeld ?rest2
  case hy2 =>
    intro w' hSw
    try dsimp only at hSw
    go_simp
    first | done | with_reducible rfl
  try simp only [Act.put, List.getElem_toArray, List.getElem_cons_succ, List.getElem_cons_zero, List.setIfInBounds_toArray, List.set_cons_zero, List.set_cons_succ]
  refine wpAnyH_ready (rs := [0]) (by kernel_rfl) (by simp) ?_
  refine AllReadyH.cons (by rfl) (fun K hK => ?_) AllReadyH.nil
  go_simp
  refine (weakOnes_any _).mono ?_
  rintro e w' ⟨rfl, rfl⟩
  go_wp2_with fail
  refine hK.out _ _ ((H1.out.drew.alloc _).cell 0) (fun hHeld => ?_)
  clear hK K
  try simp only [Act.put, List.getElem_toArray, List.getElem_cons_succ, List.getElem_cons_zero, List.setIfInBounds_toArray, List.set_cons_zero, List.set_cons_succ]
  refine wpAnyH_ready (rs := [3]) (by kernel_rfl) (by simp) ?_
  refine AllReadyH.cons (by rfl) (fun K hK => ?_) AllReadyH.nil
  go_simp
  refine hK.out _ _ ((H1.out.drew.alloc _).cell 0) (fun hHeld => ?_)
  clear hK K
  try simp only [Act.put, List.getElem_toArray, List.getElem_cons_succ, List.getElem_cons_zero, List.setIfInBounds_toArray, List.set_cons_zero, List.set_cons_succ]
  refine wpAnyH_take (i := 4) (v := ?v3) rfl (by kernel_rfl) (by kernel_rfl) (by kernel_rfl) (fun _ _ _ h => h) (Or.inl ⟨by rfl, ?hy3⟩) hHeld ?rest3
  case hy3 =>
    intro w' hSw
    try dsimp only at hSw
    go_simp
    first | done | with_reducible rfl
  try simp only [Act.put, List.getElem_toArray, List.getElem_cons_succ, List.getElem_cons_zero, List.setIfInBounds_toArray, List.set_cons_zero, List.set_cons_succ]
  refine wpAnyH_take (i := 5) (v := ?v4) rfl (by kernel_rfl) (by kernel_rfl) (by kernel_rfl) (fun _ _ _ h => h) (Or.inl ⟨by rfl, ?hy4⟩) hHeld ?rest4
  case hy4 =>
    intro w' hSw
    try dsimp only at hSw
    go_simp
    first | done | with_reducible rfl
  try simp only [Act.put, List.getElem_toArray, List.getElem_cons_succ, List.getElem_cons_zero, List.setIfInBounds_toArray, List.set_cons_zero, List.set_cons_succ]
  refine wpAnyH_take (i := 6) (v := ?v5) rfl (by kernel_rfl) (by kernel_rfl) (by kernel_rfl) (fun _ _ _ h => h) (Or.inl ⟨by rfl, ?hy5⟩) hHeld ?rest5
  case hy5 =>
    intro w' hSw
    try dsimp only at hSw
    go_simp
    first | done | with_reducible rfl
  try simp only [Act.put, List.getElem_toArray, List.getElem_cons_succ, List.getElem_cons_zero, List.setIfInBounds_toArray, List.set_cons_zero, List.set_cons_succ]
  refine wpAnyH_take (i := 7) (v := ?v6) rfl (by kernel_rfl) (by kernel_rfl) (by kernel_rfl) (fun _ _ _ h => h) (Or.inl ⟨by rfl, ?hy6⟩) hHeld ?rest6
  case hy6 =>
    intro w' hSw
    try dsimp only at hSw
    go_simp
    first | done | with_reducible rfl
  try simp only [Act.put, List.getElem_toArray, List.getElem_cons_succ, List.getElem_cons_zero, List.setIfInBounds_toArray, List.set_cons_zero, List.set_cons_succ]
  refine wpAnyH_take (i := 8) (v := ?v7) rfl (by kernel_rfl) (by kernel_rfl) (by kernel_rfl) (fun _ _ _ h => h) (Or.inl ⟨by rfl, ?hy7⟩) hHeld ?rest7
  case hy7 =>
    intro w' hSw
    try dsimp only at hSw
    go_simp
    first | done | with_reducible rfl
  try simp only [Act.put, List.getElem_toArray, List.getElem_cons_succ, List.getElem_cons_zero, List.setIfInBounds_toArray, List.set_cons_zero, List.set_cons_succ]
  refine wpAnyH_done (by kernel_rfl) ?_ _
  refine OnlyN.normal ?_
  clear hHeld hlk
  have G1 := Lib.hid (H1.out.alloc (.map wE5 5)).drew
  have G2 := Lib.hid (H2.out.alloc (.map wE5 5)).drew
  have GB := Lib.hid (below_drew (HB.out.alloc HB.out.size (.map wE5 5)))
  have GT := Lib.hid (HT1.out.alloc (.map wE5 5)).drew
  generalize (w1.alloc (.map wE5 5)).drew = w3 at G1 G2 GB GT ⊢
  clear c0 H1 H2 HB HT1
  obtain ⟨c0, c1, c2, c3, c4, c5⟩ := G1.out.six
  go_wp2_with (go_at_call 253; refine (w1_any k o c l r v _).mono ?_; rintro e w4 ⟨rfl, b4⟩; have HB4 := Lib.hid (GB.out.trans (b4.mono GB.out.size)); have P2 := G2.out.keep b4; obtain ⟨d0, d1, d2, d3, d4, d5⟩ := P2.six; have f0 := P2.frozen; clear b4 P2)
  refine bodyPost_ret (v := .tuple #[.agg (kc k o c l r v), .int .i64 0]) (by simp [results, Tryz.results217, go_sem, d0, d1, d2, d3, d4, d5]) rfl ⟨rfl, below_set6 HB4.out (by omega) _ _ _ _ _ _⟩
set_option maxRecDepth 8000 in
set_option maxHeartbeats 1000000 in
theorem weaken_less (k o c l v : Int) (r : Nat) (w : World) (hT : Tab w) (h : OkK k o c l r v) (hk : k = 2 ∨ k = 3) (hr : r < 8) :
    Calls Tryz.prog 217 #[.agg (kc k o c l r v)] w fun e w' => e = .returned (.tuple #[.agg (kc k o c l (lsN r 3 (rm k) : Nat) v), .int .i64 0]) ∧ Below w.heap.size w w' := by
  have HK := Lib.hid h
  have HT := Lib.hid hT
  have KK := Lib.hid (okK_in h)
  have hlk : ∀ (W : World) (b : Nat), b = W.heap.size → (Instr.lookup 276 (.map (some b)) (.int .i64 k) true).run Tryz.prog ((W.alloc (.map wE5 5)).drew) = .ok (.tuple #[.func (.func 254) #[] #[], .bool true]) ((W.alloc (.map wE5 5)).drew) := by
    rintro W b rfl
    rcases hk with rfl | rfl
    · exact wlook _ _ _ (some (3, _)) (heap_alloc_new W _) rfl
    · exact wlook _ _ _ (some (4, _)) (heap_alloc_new W _) rfl
  obtain ⟨x, hx⟩ : ∃ x : Int, x = (lsN r 3 (rm k) : Nat) := ⟨_, rfl⟩
  rw [← hx]
  have HX := Lib.hid hx
  clear hx
  clear h hT hk
  go_enter Tryz.func217, Tryz.ntmps217
  go_wp2_with (go_at_call 81; refine (chk_ok _ _ _ _ _ _ _ ((HT.out.alloc _).alloc _) HK.out).mono ?_; rintro e w1 ⟨rfl, b1⟩; obtain ⟨B1, B2, b2⟩ := box2 b1; have HB := Lib.hid b2; have HT1 := Lib.hid (HT.out.below b2); have H1 := Lib.hid B1; have H2 := Lib.hid B2; clear b1 b2 B1 B2; have c0 := H1.out.cell 0)
  refine wp_region_only (S := fun w' => w'.cell? ⟨w.heap.size, 0, none⟩ = some (.int .i64 k)) (by kernel_rfl) (H1.out.drew.cell 0) (fun hHeld => ?_)
  refine wpAnyH_take (i := 1) (v := ?v8) rfl (by kernel_rfl) (by kernel_rfl) (by kernel_rfl) (fun _ _ _ h => h) (Or.inl ⟨by rfl, ?hy8⟩) hHeld ?rest8
  case hy8 =>
    intro w' hSw
    try dsimp only at hSw
    go_simp
    first | done | with_reducible rfl
  try simp only [Act.put, List.getElem_toArray, List.getElem_cons_succ, List.getElem_cons_zero, List.setIfInBounds_toArray, List.set_cons_zero, List.set_cons_succ]
  refine wpAnyH_take (i := 2) (v := ?v9) rfl (by kernel_rfl) (by kernel_rfl) (by kernel_rfl) (fun _ _ _ h => h) (Or.inl ⟨by rfl, ?hy9⟩) hHeld ?rest9
  case hy9 =>
    intro w' hSw
    try dsimp only at hSw
    go_simp
    first | done | with_reducible rfl
  try simp only [Act.put, List.getElem_toArray, List.getElem_cons_succ, List.getElem_cons_zero, List.setIfInBounds_toArray, List.set_cons_zero, List.set_cons_succ]
  refine wpAnyH_ready (rs := [0]) (by kernel_rfl) (by simp) ?_
  refine AllReadyH.cons (by rfl) (fun K hK => ?_) AllReadyH.nil
  go_simp
  refine (weakOnes_any _).mono ?_
  rintro e w' ⟨rfl, rfl⟩
  go_wp2_with fail
  refine hK.out _ _ ((H1.out.drew.alloc _).cell 0) (fun hHeld => ?_)
  clear hK K
  try simp only [Act.put, List.getElem_toArray, List.getElem_cons_succ, List.getElem_cons_zero, List.setIfInBounds_toArray, List.set_cons_zero, List.set_cons_succ]
  refine wpAnyH_ready (rs := [3]) (by kernel_rfl) (by simp) ?_
  refine AllReadyH.cons (by rfl) (fun K hK => ?_) AllReadyH.nil
  go_simp
  refine hK.out _ _ ((H1.out.drew.alloc _).cell 0) (fun hHeld => ?_)
  clear hK K
  try simp only [Act.put, List.getElem_toArray, List.getElem_cons_succ, List.getElem_cons_zero, List.setIfInBounds_toArray, List.set_cons_zero, List.set_cons_succ]
  refine wpAnyH_take (i := 4) (v := ?v10) rfl (by kernel_rfl) (by kernel_rfl) (by kernel_rfl) (fun _ _ _ h => h) (Or.inl ⟨by rfl, ?hy10⟩) hHeld ?rest10
  case hy10 =>
    intro w' hSw
    try dsimp only at hSw
    go_simp
    first | done | with_reducible rfl
  try simp only [Act.put, List.getElem_toArray, List.getElem_cons_succ, List.getElem_cons_zero, List.setIfInBounds_toArray, List.set_cons_zero, List.set_cons_succ]
  refine wpAnyH_take (i := 5) (v := ?v11) rfl (by kernel_rfl) (by kernel_rfl) (by kernel_rfl) (fun _ _ _ h => h) (Or.inl ⟨by rfl, ?hy11⟩) hHeld ?rest11
  case hy11 =>
    intro w' hSw
    try dsimp only at hSw
    go_simp
    first | done | with_reducible rfl
  try simp only [Act.put, List.getElem_toArray, List.getElem_cons_succ, List.getElem_cons_zero, List.setIfInBounds_toArray, List.set_cons_zero, List.set_cons_succ]
  refine wpAnyH_take (i := 6) (v := ?v12) rfl (by kernel_rfl) (by kernel_rfl) (by kernel_rfl) (fun _ _ _ h => h) (Or.inl ⟨by rfl, ?hy12⟩) hHeld ?rest12
  case hy12 =>
    intro w' hSw
    try dsimp only at hSw
    go_simp
    first | done | with_reducible rfl
  try simp only [Act.put, List.getElem_toArray, List.getElem_cons_succ, List.getElem_cons_zero, List.setIfInBounds_toArray, List.set_cons_zero, List.set_cons_succ]
  refine wpAnyH_take (i := 7) (v := ?v13) rfl (by kernel_rfl) (by kernel_rfl) (by kernel_rfl) (fun _ _ _ h => h) (Or.inl ⟨by rfl, ?hy13⟩) hHeld ?rest13
  case hy13 =>
    intro w' hSw
    try dsimp only at hSw
    go_simp
    first | done | with_reducible rfl
  try simp only [Act.put, List.getElem_toArray, List.getElem_cons_succ, List.getElem_cons_zero, List.setIfInBounds_toArray, List.set_cons_zero, List.set_cons_succ]
  refine wpAnyH_take (i := 8) (v := ?v14) rfl (by kernel_rfl) (by kernel_rfl) (by kernel_rfl) (fun _ _ _ h => h) (Or.inl ⟨by rfl, ?hy14⟩) hHeld ?rest14
  case hy14 =>
    intro w' hSw
    try dsimp only at hSw
    go_simp
    first | done | with_reducible rfl
  try simp only [Act.put, List.getElem_toArray, List.getElem_cons_succ, List.getElem_cons_zero, List.setIfInBounds_toArray, List.set_cons_zero, List.set_cons_succ]
  refine wpAnyH_done (by kernel_rfl) ?_ _
  refine OnlyN.normal ?_
  clear hHeld hlk
  have G1 := Lib.hid (H1.out.alloc (.map wE5 5)).drew
  have G2 := Lib.hid (H2.out.alloc (.map wE5 5)).drew
  have GB := Lib.hid (below_drew (HB.out.alloc HB.out.size (.map wE5 5)))
  have GT := Lib.hid (HT1.out.alloc (.map wE5 5)).drew
  generalize (w1.alloc (.map wE5 5)).drew = w3 at G1 G2 GB GT ⊢
  clear c0 H1 H2 HB HT1
  obtain ⟨c0, c1, c2, c3, c4, c5⟩ := G1.out.six
  go_wp2_with (go_at_call 254; refine (w2_any k o c l v r _ GT.out KK.out.1 KK.out.2 hr).mono ?_; rw [← HX.out]; rintro e w4 ⟨rfl, b4⟩; have HB4 := Lib.hid (GB.out.trans (b4.mono GB.out.size)); have P2 := G2.out.keep b4; obtain ⟨d0, d1, d2, d3, d4, d5⟩ := P2.six; have f0 := P2.frozen; clear b4 P2)
  refine bodyPost_ret (v := .tuple #[.agg (kc k o c l x v), .int .i64 0]) (by simp [results, Tryz.results217, go_sem, d0, d1, d2, d3, d4, d5]) rfl ⟨rfl, below_set6 HB4.out (by omega) _ _ _ _ _ _⟩
set_option maxRecDepth 8000 in
set_option maxHeartbeats 1000000 in
theorem weaken_void (k o c l r v : Int) (w : World) (hT : Tab w) (h : OkK k o c l r v) (hk : k ≠ 0 ∧ k ≠ 1 ∧ k ≠ 8 ∧ k ≠ 2 ∧ k ≠ 3) :
    Calls Tryz.prog 217 #[.agg (kc k o c l r v)] w fun e w' => e = .returned (.tuple #[.agg (kc 0 0 0 0 0 0), .int .i64 0]) ∧ Below w.heap.size w w' := by
  have HK := Lib.hid h
  have HT := Lib.hid hT
  have KK := Lib.hid (okK_in h)
  have hlk : ∀ (W : World) (b : Nat), b = W.heap.size → (Instr.lookup 276 (.map (some b)) (.int .i64 k) true).run Tryz.prog ((W.alloc (.map wE5 5)).drew) = .ok (.tuple #[.nilFunc, .bool false]) ((W.alloc (.map wE5 5)).drew) := by
    rintro W b rfl
    exact wlook _ _ _ none (heap_alloc_new W _) (wfind_none (by omega))
  clear h hT hk
  go_enter Tryz.func217, Tryz.ntmps217
  go_wp2_with (go_at_call 81; refine (chk_ok _ _ _ _ _ _ _ ((HT.out.alloc _).alloc _) HK.out).mono ?_; rintro e w1 ⟨rfl, b1⟩; obtain ⟨B1, B2, b2⟩ := box2 b1; have HB := Lib.hid b2; have HT1 := Lib.hid (HT.out.below b2); have H1 := Lib.hid B1; have H2 := Lib.hid B2; clear b1 b2 B1 B2; have c0 := H1.out.cell 0)
  refine wp_region_only (S := fun w' => w'.cell? ⟨w.heap.size, 0, none⟩ = some (.int .i64 k)) (by kernel_rfl) (H1.out.drew.cell 0) (fun hHeld => ?_)
  refine wpAnyH_take (i := 1) (v := ?v15) rfl (by kernel_rfl) (by kernel_rfl) (by kernel_rfl) (fun _ _ _ h => h) (Or.inl ⟨by rfl, ?hy15⟩) hHeld ?rest15
  case hy15 =>
    intro w' hSw
    try dsimp only at hSw
    go_simp
    first | done | with_reducible rfl
  try simp only [Act.put, List.getElem_toArray, List.getElem_cons_succ, List.getElem_cons_zero, List.setIfInBounds_toArray, List.set_cons_zero, List.set_cons_succ]
  refine wpAnyH_take (i := 2) (v := ?v16) rfl (by kernel_rfl) (by kernel_rfl) (by kernel_rfl) (fun _ _ _ h => h) (Or.inl ⟨by rfl, ?hy16⟩) hHeld ?rest16
  case hy16 =>
    intro w' hSw
    try dsimp only at hSw
    go_simp
    first | done | with_reducible rfl
  try simp only [Act.put, List.getElem_toArray, List.getElem_cons_succ, List.getElem_cons_zero, List.setIfInBounds_toArray, List.set_cons_zero, List.set_cons_succ]
  refine wpAnyH_ready (rs := [0]) (by kernel_rfl) (by simp) ?_
  refine AllReadyH.cons (by rfl) (fun K hK => ?_) AllReadyH.nil
  go_simp
  refine (weakOnes_any _).mono ?_
  rintro e w' ⟨rfl, rfl⟩
  go_wp2_with fail
  refine hK.out _ _ ((H1.out.drew.alloc _).cell 0) (fun hHeld => ?_)
  clear hK K
  try simp only [Act.put, List.getElem_toArray, List.getElem_cons_succ, List.getElem_cons_zero, List.setIfInBounds_toArray, List.set_cons_zero, List.set_cons_succ]
  refine wpAnyH_ready (rs := [3]) (by kernel_rfl) (by simp) ?_
  refine AllReadyH.cons (by rfl) (fun K hK => ?_) AllReadyH.nil
  go_simp
  refine hK.out _ _ ((H1.out.drew.alloc _).cell 0) (fun hHeld => ?_)
  clear hK K
  try simp only [Act.put, List.getElem_toArray, List.getElem_cons_succ, List.getElem_cons_zero, List.setIfInBounds_toArray, List.set_cons_zero, List.set_cons_succ]
  refine wpAnyH_take (i := 4) (v := ?v17) rfl (by kernel_rfl) (by kernel_rfl) (by kernel_rfl) (fun _ _ _ h => h) (Or.inl ⟨by rfl, ?hy17⟩) hHeld ?rest17
  case hy17 =>
    intro w' hSw
    try dsimp only at hSw
    go_simp
    first | done | with_reducible rfl
  try simp only [Act.put, List.getElem_toArray, List.getElem_cons_succ, List.getElem_cons_zero, List.setIfInBounds_toArray, List.set_cons_zero, List.set_cons_succ]
  refine wpAnyH_take (i := 5) (v := ?v18) rfl (by kernel_rfl) (by kernel_rfl) (by kernel_rfl) (fun _ _ _ h => h) (Or.inl ⟨by rfl, ?hy18⟩) hHeld ?rest18
  case hy18 =>
    intro w' hSw
    try dsimp only at hSw
    go_simp
    first | done | with_reducible rfl
  try simp only [Act.put, List.getElem_toArray, List.getElem_cons_succ, List.getElem_cons_zero, List.setIfInBounds_toArray, List.set_cons_zero, List.set_cons_succ]
  refine wpAnyH_take (i := 6) (v := ?v19) rfl (by kernel_rfl) (by kernel_rfl) (by kernel_rfl) (fun _ _ _ h => h) (Or.inl ⟨by rfl, ?hy19⟩) hHeld ?rest19
  case hy19 =>
    intro w' hSw
    try dsimp only at hSw
    go_simp
    first | done | with_reducible rfl
  try simp only [Act.put, List.getElem_toArray, List.getElem_cons_succ, List.getElem_cons_zero, List.setIfInBounds_toArray, List.set_cons_zero, List.set_cons_succ]
  refine wpAnyH_take (i := 7) (v := ?v20) rfl (by kernel_rfl) (by kernel_rfl) (by kernel_rfl) (fun _ _ _ h => h) (Or.inl ⟨by rfl, ?hy20⟩) hHeld ?rest20
  case hy20 =>
    intro w' hSw
    try dsimp only at hSw
    go_simp
    first | done | with_reducible rfl
  try simp only [Act.put, List.getElem_toArray, List.getElem_cons_succ, List.getElem_cons_zero, List.setIfInBounds_toArray, List.set_cons_zero, List.set_cons_succ]
  refine wpAnyH_take (i := 8) (v := ?v21) rfl (by kernel_rfl) (by kernel_rfl) (by kernel_rfl) (fun _ _ _ h => h) (Or.inl ⟨by rfl, ?hy21⟩) hHeld ?rest21
  case hy21 =>
    intro w' hSw
    try dsimp only at hSw
    go_simp
    first | done | with_reducible rfl
  try simp only [Act.put, List.getElem_toArray, List.getElem_cons_succ, List.getElem_cons_zero, List.setIfInBounds_toArray, List.set_cons_zero, List.set_cons_succ]
  refine wpAnyH_done (by kernel_rfl) ?_ _
  refine OnlyN.normal ?_
  clear hHeld hlk
  have G1 := Lib.hid (H1.out.alloc (.map wE5 5)).drew
  have G2 := Lib.hid (H2.out.alloc (.map wE5 5)).drew
  have GB := Lib.hid (below_drew (HB.out.alloc HB.out.size (.map wE5 5)))
  have GT := Lib.hid (HT1.out.alloc (.map wE5 5)).drew
  generalize (w1.alloc (.map wE5 5)).drew = w3 at G1 G2 GB GT ⊢
  clear c0 H1 H2 HB HT1
  obtain ⟨c0, c1, c2, c3, c4, c5⟩ := G1.out.six
  obtain ⟨d0, d1, d2, d3, d4, d5⟩ := G2.out.six
  have f0 := G2.out.frozen
  go_wp2_with (fail)
  refine bodyPost_ret (v := .tuple #[.agg (kc 0 0 0 0 0 0), .int .i64 0]) (by simp [results, Tryz.results217, go_sem, d0, d1, d2, d3, d4, d5]) rfl ⟨rfl, below_set6 GB.out (by omega) _ _ _ _ _ _⟩
end Go.Proofs.YtogkdhpnbpgheaaGreatDoor
namespace Go.Proofs.YtogkdhpnbpgheaaGreatDoor
open Go.RowKit
theorem yields_keq {ops : Array Oper} {S : World → Prop} {o : Oper} {a : Act} (hw : Region.wanted o (yielded ops a.tmps) = true) (x y : Operand) (ho : o.op = .binOp .eql 33 x y 33)
    (k oo c l r v k' o' c' l' r' v' : Int) (hx : a.eval x = .agg (kc k oo c l r v)) (hy : a.eval y = .agg (kc k' o' c' l' r' v')) : YieldsIf Tryz.prog ops S o (.bool (sameK k oo c l r v k' o' c' l' r' v')) a :=
  .inl ⟨hw, fun w _ => by
    unfold execOp
    simp only [ho, hx, hy, Sem.run_bind, run_eqGuard_agg (P := Tryz.prog) w .eql 33 x y (kc k oo c l r v) (kc k' o' c' l' r' v') (by kernel_rfl), key_eql, Result.andThen_ok, Sem.run_pure]⟩
theorem yields_kneq {ops : Array Oper} {S : World → Prop} {o : Oper} {a : Act} (hw : Region.wanted o (yielded ops a.tmps) = true) (x y : Operand) (ho : o.op = .binOp .neq 33 x y 33)
    (k oo c l r v k' o' c' l' r' v' : Int) (hx : a.eval x = .agg (kc k oo c l r v)) (hy : a.eval y = .agg (kc k' o' c' l' r' v')) : YieldsIf Tryz.prog ops S o (.bool (!sameK k oo c l r v k' o' c' l' r' v')) a :=
  .inl ⟨hw, fun w _ => by
    unfold execOp
    simp only [ho, hx, hy, Sem.run_bind, run_eqGuard_agg (P := Tryz.prog) w .neq 33 x y (kc k oo c l r v) (kc k' o' c' l' r' v') (by kernel_rfl), key_neq, Result.andThen_ok, Sem.run_pure]⟩
set_option maxRecDepth 8000 in
set_option maxHeartbeats 1000000 in
theorem weaken_no (k o c l r v : Int) (w : World) (hT : Tab w) (h : ¬ OkK k o c l r v) :
    Calls Tryz.prog 217 #[.agg (kc k o c l r v)] w fun e w' => e = .returned (.tuple #[.agg (kc 0 0 0 0 0 0), .int .i64 2]) ∧ Below w.heap.size w w' := by
  have HK := Lib.hid h
  have HT := Lib.hid hT
  clear h hT
  go_enter Tryz.func217, Tryz.ntmps217
  go_wp2_with (go_at_call 81; refine (chk_no _ _ _ _ _ _ _ ((HT.out.alloc _).alloc _) HK.out).mono ?_; rintro e w1 ⟨rfl, b1⟩; obtain ⟨B1, B2, b2⟩ := box2 b1; have HB := Lib.hid b2; have HT1 := Lib.hid (HT.out.below b2); have H1 := Lib.hid B1; have H2 := Lib.hid B2; clear b1 b2 B1 B2; obtain ⟨c0, c1, c2, c3, c4, c5⟩ := H1.out.six; obtain ⟨d0, d1, d2, d3, d4, d5⟩ := H2.out.six; have f0 := H2.out.frozen)
  refine bodyPost_ret (v := .tuple #[.agg (kc 0 0 0 0 0 0), .int .i64 2]) (by simp [results, Tryz.results217, go_sem, d0, d1, d2, d3, d4, d5]) rfl ⟨rfl, below_set6 HB.out (by omega) _ _ _ _ _ _⟩
set_option maxRecDepth 8000 in
set_option maxHeartbeats 1000000 in
theorem lesss_no (k o c l r v q : Int) (w : World) (hT : Tab w) (h : ¬ OkK k o c l r v) :
    Calls Tryz.prog 169 #[.agg (kc k o c l r v), .int .i64 q] w fun e w' => e = .returned (.tuple #[.agg (kc 0 0 0 0 0 0), .int .i64 2]) ∧ Below w.heap.size w w' := by
  have HK := Lib.hid h
  have HT := Lib.hid hT
  clear h hT
  go_enter Tryz.func169, Tryz.ntmps169
  go_wp2_with (go_at_call 81; refine (chk_no _ _ _ _ _ _ _ ((HT.out.alloc _).alloc _) HK.out).mono ?_; rintro e w1 ⟨rfl, b1⟩; obtain ⟨B1, B2, b2⟩ := box2 b1; have HB := Lib.hid b2; have HT1 := Lib.hid (HT.out.below b2); have H1 := Lib.hid B1; have H2 := Lib.hid B2; clear b1 b2 B1 B2; obtain ⟨c0, c1, c2, c3, c4, c5⟩ := H1.out.six; obtain ⟨d0, d1, d2, d3, d4, d5⟩ := H2.out.six; have f0 := H2.out.frozen)
  refine bodyPost_ret (v := .tuple #[.agg (kc 0 0 0 0 0 0), .int .i64 2]) (by simp [results, Tryz.results169, go_sem, d0, d1, d2, d3, d4, d5]) rfl ⟨rfl, below_set6 HB.out (by omega) _ _ _ _ _ _⟩
set_option maxRecDepth 8000 in
set_option maxHeartbeats 1000000 in
theorem lesss_bad (k o c l r v q : Int) (w : World) (hT : Tab w) (h : OkK k o c l r v) (hq : q < 0 ∨ 7 < q) :
    Calls Tryz.prog 169 #[.agg (kc k o c l r v), .int .i64 q] w fun e w' => e = .returned (.tuple #[.agg (kc 0 0 0 0 0 0), .int .i64 2]) ∧ Below w.heap.size w w' := by
  have HK := Lib.hid h
  have HT := Lib.hid hT
  have HQ := Lib.hid hq
  clear h hT hq
  go_enter Tryz.func169, Tryz.ntmps169
  go_wp2_with (first
    | (go_at_call 81; refine (chk_ok _ _ _ _ _ _ _ ((HT.out.alloc _).alloc _) HK.out).mono ?_; rintro e w1 ⟨rfl, b1⟩; obtain ⟨B1, B2, b2⟩ := box2 b1; have HB := Lib.hid b2; have HT1 := Lib.hid (HT.out.below b2); have H1 := Lib.hid B1; have H2 := Lib.hid B2; clear b1 b2 B1 B2; obtain ⟨c0, c1, c2, c3, c4, c5⟩ := H1.out.six; obtain ⟨d0, d1, d2, d3, d4, d5⟩ := H2.out.six; have f0 := H2.out.frozen)
    | (go_at_call 144; refine (upR_no _ _ _ HQ.out).mono ?_; rintro e w' ⟨rfl, rfl⟩))
  refine bodyPost_ret (v := .tuple #[.agg (kc 0 0 0 0 0 0), .int .i64 2]) (by simp [results, Tryz.results169, go_sem, d0, d1, d2, d3, d4, d5]) rfl ⟨rfl, below_set6 HB.out (by omega) _ _ _ _ _ _⟩
set_option maxRecDepth 8000 in
set_option maxHeartbeats 1000000 in
theorem lesss_ok (k o c l v : Int) (r q : Nat) (w : World) (hT : Tab w) (h : OkK k o c l r v) (hr : r < 8) (hq : q < 8) :
    Calls Tryz.prog 169 #[.agg (kc k o c l r v), .int .i64 q] w fun e w' => e = .returned (.tuple #[.agg (kc k o c l (lsN r q (rm k) : Nat) v), .int .i64 0]) ∧ Below w.heap.size w w' := by
  have HK := Lib.hid h
  have HT := Lib.hid hT
  have KK := Lib.hid (okK_in h)
  obtain ⟨x, hx⟩ : ∃ x : Int, x = (lsN r q (rm k) : Nat) := ⟨_, rfl⟩
  rw [← hx]
  have HX := Lib.hid hx
  clear h hT hx
  go_enter Tryz.func169, Tryz.ntmps169
  go_wp2_with (first
    | (go_at_call 81; refine (chk_ok _ _ _ _ _ _ _ ((HT.out.alloc _).alloc _) HK.out).mono ?_; rintro e w1 ⟨rfl, b1⟩; obtain ⟨B1, B2, b2⟩ := box2 b1; have HB := Lib.hid b2; have HT1 := Lib.hid (HT.out.below b2); have H1 := Lib.hid B1; have H2 := Lib.hid B2; clear b1 b2 B1 B2; obtain ⟨c0, c1, c2, c3, c4, c5⟩ := H1.out.six; obtain ⟨d0, d1, d2, d3, d4, d5⟩ := H2.out.six; have f0 := H2.out.frozen)
    | (go_at_call 144; refine (upR_yes _ _ _ (by omega) (by omega)).mono ?_; rintro e w' ⟨rfl, rfl⟩)
    | (go_at_call 218; refine (less_any k o c l v r q _ HT1.out KK.out.1 KK.out.2 hr hq).mono ?_; rw [← HX.out]; rintro e w4 ⟨rfl, b4⟩; have HB4 := Lib.hid (HB.out.trans (b4.mono HB.out.size)); have P2 := H2.out.keep b4; clear c0 c1 c2 c3 c4 c5 d0 d1 d2 d3 d4 d5 f0; obtain ⟨d0, d1, d2, d3, d4, d5⟩ := P2.six; have f0 := P2.frozen; clear b4 P2))
  refine bodyPost_ret (v := .tuple #[.agg (kc k o c l x v), .int .i64 0]) (by simp [results, Tryz.results169, go_sem, d0, d1, d2, d3, d4, d5]) rfl ⟨rfl, below_set6 HB4.out (by omega) _ _ _ _ _ _⟩
set_option maxRecDepth 8000 in
set_option maxHeartbeats 1000000 in
theorem within_no (k o c l r v k' o' c' l' r' v' : Int) (w : World) (hT : Tab w) (h : ¬ OkK k o c l r v ∨ ¬ OkK k' o' c' l' r' v') :
    Calls Tryz.prog 209 #[.agg (kc k o c l r v), .agg (kc k' o' c' l' r' v')] w fun e w' => e = .returned (.bool false) ∧ Below w.heap.size w w' := by
  have HT := Lib.hid hT
  clear hT
  by_cases h1 : OkK k o c l r v
  · have HK := Lib.hid h1
    have HK' := Lib.hid (h.resolve_left (fun x => x h1))
    clear h h1
    go_enter Tryz.func209, Tryz.ntmps209
    go_wp2_with (go_at_call 81; first
      | ((with_reducible refine (chk_ok k o c l r v _ ((HT.out.alloc _).alloc _) HK.out).mono ?_); rintro e w1 ⟨rfl, b1⟩; obtain ⟨B1, B2, b2⟩ := box2 b1; have HB := Lib.hid b2; have HT1 := Lib.hid (HT.out.below b2); have H1 := Lib.hid B1; have H2 := Lib.hid B2; clear b1 b2 B1 B2; obtain ⟨c0, c1, c2, c3, c4, c5⟩ := H1.out.six; obtain ⟨d0, d1, d2, d3, d4, d5⟩ := H2.out.six; have f0 := H2.out.frozen)
      | ((with_reducible refine (chk_no k' o' c' l' r' v' _ HT1.out HK'.out).mono ?_); rintro e w2 ⟨rfl, b2⟩; have HB2 := Lib.hid (HB.out.trans (b2.mono HB.out.size)); clear b2))
    go_ret
    exact ⟨rfl, HB2.out⟩
  · have HK := Lib.hid h1
    clear h h1
    go_enter Tryz.func209, Tryz.ntmps209
    go_wp2_with (go_at_call 81; refine (chk_no k o c l r v _ ((HT.out.alloc _).alloc _) HK.out).mono ?_; rintro e w1 ⟨rfl, b1⟩; obtain ⟨B1, B2, b2⟩ := box2 b1; have HB := Lib.hid b2; have HT1 := Lib.hid (HT.out.below b2); have H1 := Lib.hid B1; have H2 := Lib.hid B2; clear b1 b2 B1 B2; obtain ⟨c0, c1, c2, c3, c4, c5⟩ := H1.out.six; obtain ⟨d0, d1, d2, d3, d4, d5⟩ := H2.out.six; have f0 := H2.out.frozen)
    go_ret
    exact ⟨rfl, HB.out⟩
set_option maxRecDepth 8000 in
set_option maxHeartbeats 1000000 in
theorem within_void (o c l r v k' o' c' l' r' v' : Int) (w : World) (hT : Tab w) (h : OkK 0 o c l r v) (h' : OkK k' o' c' l' r' v') :
    Calls Tryz.prog 209 #[.agg (kc 0 o c l r v), .agg (kc k' o' c' l' r' v')] w fun e w' => e = .returned (.bool true) ∧ Below w.heap.size w w' := by
  have HT := Lib.hid hT
  have HK := Lib.hid h
  have HK' := Lib.hid h'
  clear hT h h'
  go_enter Tryz.func209, Tryz.ntmps209
  go_wp2_with (go_at_call 81; first
    | ((with_reducible refine (chk_ok 0 o c l r v _ ((HT.out.alloc _).alloc _) HK.out).mono ?_); rintro e w1 ⟨rfl, b1⟩; obtain ⟨B1, B2, b2⟩ := box2 b1; have HB := Lib.hid b2; have HT1 := Lib.hid (HT.out.below b2); have H1 := Lib.hid B1; have H2 := Lib.hid B2; clear b1 b2 B1 B2; obtain ⟨c0, c1, c2, c3, c4, c5⟩ := H1.out.six; obtain ⟨d0, d1, d2, d3, d4, d5⟩ := H2.out.six; have f0 := H2.out.frozen)
    | ((with_reducible refine (chk_ok k' o' c' l' r' v' _ HT1.out HK'.out).mono ?_); rintro e w2 ⟨rfl, b2⟩; have HB2 := Lib.hid (HB.out.trans (b2.mono HB.out.size)); have G1 := Lib.hid (H1.out.keep b2); have G2 := Lib.hid (H2.out.keep b2); have GT := Lib.hid (HT1.out.below b2); clear b2 HB HT1 H1 H2 c0 c1 c2 c3 c4 c5 d0 d1 d2 d3 d4 d5 f0))
  refine wp_region_only (S := fun w' => (w'.cell? ⟨w.heap.size, 0, none⟩ = some (.int .i64 0) ∧ w'.cell? ⟨w.heap.size, 1, none⟩ = some (.int .i64 o) ∧ w'.cell? ⟨w.heap.size, 2, none⟩ = some (.int .i64 c) ∧ w'.cell? ⟨w.heap.size, 3, none⟩ = some (.int .i64 l) ∧ w'.cell? ⟨w.heap.size, 4, none⟩ = some (.int .i64 r) ∧ w'.cell? ⟨w.heap.size, 5, none⟩ = some (.int .i64 v)) ∧ (w'.cell? ⟨w.heap.size + 1, 0, none⟩ = some (.int .i64 k') ∧ w'.cell? ⟨w.heap.size + 1, 1, none⟩ = some (.int .i64 o') ∧ w'.cell? ⟨w.heap.size + 1, 2, none⟩ = some (.int .i64 c') ∧ w'.cell? ⟨w.heap.size + 1, 3, none⟩ = some (.int .i64 l') ∧ w'.cell? ⟨w.heap.size + 1, 4, none⟩ = some (.int .i64 r') ∧ w'.cell? ⟨w.heap.size + 1, 5, none⟩ = some (.int .i64 v'))) (by kernel_rfl) ⟨G1.out.drew.six, G2.out.drew.six⟩ (fun hHeld => ?_)
  refine wpAnyH_take (i := 0) (v := ?v1) rfl (by kernel_rfl) (by kernel_rfl) (by kernel_rfl) (fun _ _ _ h => h) (Or.inl ⟨by rfl, ?hy1⟩) hHeld ?rest1
  case hy1 =>
    intro w' hSw
    try dsimp only at hSw
    go_simp
    first | done | with_reducible rfl
  try simp only [Act.put, List.getElem_toArray, List.getElem_cons_zero, List.setIfInBounds_toArray, List.set_cons_zero, List.set_cons_succ]
  refine wpAnyH_take (i := 1) (v := ?v2) rfl (by kernel_rfl) (by kernel_rfl) (by kernel_rfl) (fun _ _ _ h => h) (Or.inl ⟨by rfl, ?hy2⟩) hHeld ?rest2
  case hy2 =>
    intro w' hSw
    try dsimp only at hSw
    go_simp
    first | done | with_reducible rfl
  try simp only [Act.put, List.getElem_toArray, List.getElem_cons_succ, List.getElem_cons_zero, List.setIfInBounds_toArray, List.set_cons_zero, List.set_cons_succ]
  refine wpAnyH_take (i := 2) (v := ?v3) rfl (by kernel_rfl) (by kernel_rfl) (by kernel_rfl) (fun _ _ _ h => h) (Or.inl ⟨by rfl, ?hy3⟩) hHeld ?rest3
  case hy3 =>
    intro w' hSw
    try dsimp only at hSw
    go_simp
    first | done | with_reducible rfl
  try simp only [Act.put, List.getElem_toArray, List.getElem_cons_succ, List.getElem_cons_zero, List.setIfInBounds_toArray, List.set_cons_zero, List.set_cons_succ]
  refine wpAnyH_take (i := 3) (v := ?v4) rfl (by kernel_rfl) (by kernel_rfl) (by kernel_rfl) (fun _ _ _ h => h) (Or.inl ⟨by rfl, ?hy4⟩) hHeld ?rest4
  case hy4 =>
    intro w' hSw
    try dsimp only at hSw
    go_simp
    first | done | with_reducible rfl
  try simp only [Act.put, List.getElem_toArray, List.getElem_cons_succ, List.getElem_cons_zero, List.setIfInBounds_toArray, List.set_cons_zero, List.set_cons_succ]
  refine wpAnyH_take (i := 4) (v := undef) rfl (by kernel_rfl) (by kernel_rfl) (by kernel_rfl) (fun _ _ _ h => h) (Or.inr ⟨by rfl, rfl⟩) hHeld ?_
  try simp only [Act.put, List.getElem_toArray, List.getElem_cons_succ, List.getElem_cons_zero, List.setIfInBounds_toArray, List.set_cons_zero, List.set_cons_succ]
  refine wpAnyH_take (i := 5) (v := undef) rfl (by kernel_rfl) (by kernel_rfl) (by kernel_rfl) (fun _ _ _ h => h) (Or.inr ⟨by rfl, rfl⟩) hHeld ?_
  try simp only [Act.put, List.getElem_toArray, List.getElem_cons_succ, List.getElem_cons_zero, List.setIfInBounds_toArray, List.set_cons_zero, List.set_cons_succ]
  refine wpAnyH_take (i := 6) (v := undef) rfl (by kernel_rfl) (by kernel_rfl) (by kernel_rfl) (fun _ _ _ h => h) (Or.inr ⟨by rfl, rfl⟩) hHeld ?_
  try simp only [Act.put, List.getElem_toArray, List.getElem_cons_succ, List.getElem_cons_zero, List.setIfInBounds_toArray, List.set_cons_zero, List.set_cons_succ]
  refine wpAnyH_take (i := 7) (v := undef) rfl (by kernel_rfl) (by kernel_rfl) (by kernel_rfl) (fun _ _ _ h => h) (Or.inr ⟨by rfl, rfl⟩) hHeld ?_
  try simp only [Act.put, List.getElem_toArray, List.getElem_cons_succ, List.getElem_cons_zero, List.setIfInBounds_toArray, List.set_cons_zero, List.set_cons_succ]
  refine wpAnyH_take (i := 8) (v := undef) rfl (by kernel_rfl) (by kernel_rfl) (by kernel_rfl) (fun _ _ _ h => h) (Or.inr ⟨by rfl, rfl⟩) hHeld ?_
  try simp only [Act.put, List.getElem_toArray, List.getElem_cons_succ, List.getElem_cons_zero, List.setIfInBounds_toArray, List.set_cons_zero, List.set_cons_succ]
  refine wpAnyH_take (i := 9) (v := undef) rfl (by kernel_rfl) (by kernel_rfl) (by kernel_rfl) (fun _ _ _ h => h) (Or.inr ⟨by rfl, rfl⟩) hHeld ?_
  try simp only [Act.put, List.getElem_toArray, List.getElem_cons_succ, List.getElem_cons_zero, List.setIfInBounds_toArray, List.set_cons_zero, List.set_cons_succ]
  refine wpAnyH_take (i := 10) (v := ?v5) rfl (by kernel_rfl) (by kernel_rfl) (by kernel_rfl) (fun _ _ _ h => h) (Or.inl ⟨by rfl, ?hy5⟩) hHeld ?rest5
  case hy5 =>
    intro w' hSw
    try dsimp only at hSw
    go_simp
    first | done | with_reducible rfl
  try simp only [Act.put, List.getElem_toArray, List.getElem_cons_succ, List.getElem_cons_zero, List.setIfInBounds_toArray, List.set_cons_zero, List.set_cons_succ]
  refine wpAnyH_take (i := 11) (v := ?v6) rfl (by kernel_rfl) (by kernel_rfl) (by kernel_rfl) (fun _ _ _ h => h) (Or.inl ⟨by rfl, ?hy6⟩) hHeld ?rest6
  case hy6 =>
    intro w' hSw
    try dsimp only at hSw
    go_simp
    first | done | with_reducible rfl
  try simp only [Act.put, List.getElem_toArray, List.getElem_cons_succ, List.getElem_cons_zero, List.setIfInBounds_toArray, List.set_cons_zero, List.set_cons_succ]
  refine wpAnyH_done (by kernel_rfl) ?_ _
  refine OnlyN.normal ?_
  clear hHeld
  go_wp2
  go_ret
  exact ⟨rfl, below_drew HB2.out⟩
set_option maxRecDepth 8000 in
set_option maxHeartbeats 1000000 in
theorem within_eq (k o c l v k' o' c' l' v' : Int) (r r' : Nat) (w : World) (hT : Tab w) (h : OkK k o c l r v) (h' : OkK k' o' c' l' r' v') (k0 : k ≠ 0) (hr : r < 8) (hr' : r' < 8) :
    Calls Tryz.prog 209 #[.agg (kc k o c l r v), .agg (kc k' o' c' l' r' v')] w fun e w' => e = .returned (.bool (sameK k o c l r v k' o' c' l' (lsN r' r (rm k') : Nat) v')) ∧ Below w.heap.size w w' := by
  have HT := Lib.hid hT
  have HK := Lib.hid h
  have HK' := Lib.hid h'
  have KK := Lib.hid (okK_in h')
  have dk : (k == 0) = false := by simpa using k0
  obtain ⟨x, hx⟩ : ∃ x : Int, x = (lsN r' r (rm k') : Nat) := ⟨_, rfl⟩
  rw [← hx]
  have HX := Lib.hid hx
  obtain ⟨b, hb⟩ : ∃ b, b = sameK k o c l r v k' o' c' l' x v' := ⟨_, rfl⟩
  rw [← hb]
  have HBB := Lib.hid hb
  clear hT h h' hx k0 hb
  go_enter Tryz.func209, Tryz.ntmps209
  go_wp2_with (go_at_call 81; first
    | ((with_reducible refine (chk_ok k o c l r v _ ((HT.out.alloc _).alloc _) HK.out).mono ?_); rintro e w1 ⟨rfl, b1⟩; obtain ⟨B1, B2, b2⟩ := box2 b1; have HB := Lib.hid b2; have HT1 := Lib.hid (HT.out.below b2); have H1 := Lib.hid B1; have H2 := Lib.hid B2; clear b1 b2 B1 B2; obtain ⟨c0, c1, c2, c3, c4, c5⟩ := H1.out.six; obtain ⟨d0, d1, d2, d3, d4, d5⟩ := H2.out.six; have f0 := H2.out.frozen)
    | ((with_reducible refine (chk_ok k' o' c' l' r' v' _ HT1.out HK'.out).mono ?_); rintro e w2 ⟨rfl, b2⟩; have HB2 := Lib.hid (HB.out.trans (b2.mono HB.out.size)); have G1 := Lib.hid (H1.out.keep b2); have G2 := Lib.hid (H2.out.keep b2); have GT := Lib.hid (HT1.out.below b2); clear b2 HB HT1 H1 H2 c0 c1 c2 c3 c4 c5 d0 d1 d2 d3 d4 d5 f0))
  refine wp_region_only (S := fun w' => (w'.cell? ⟨w.heap.size, 0, none⟩ = some (.int .i64 k) ∧ w'.cell? ⟨w.heap.size, 1, none⟩ = some (.int .i64 o) ∧ w'.cell? ⟨w.heap.size, 2, none⟩ = some (.int .i64 c) ∧ w'.cell? ⟨w.heap.size, 3, none⟩ = some (.int .i64 l) ∧ w'.cell? ⟨w.heap.size, 4, none⟩ = some (.int .i64 r) ∧ w'.cell? ⟨w.heap.size, 5, none⟩ = some (.int .i64 v)) ∧ (w'.cell? ⟨w.heap.size + 1, 0, none⟩ = some (.int .i64 k') ∧ w'.cell? ⟨w.heap.size + 1, 1, none⟩ = some (.int .i64 o') ∧ w'.cell? ⟨w.heap.size + 1, 2, none⟩ = some (.int .i64 c') ∧ w'.cell? ⟨w.heap.size + 1, 3, none⟩ = some (.int .i64 l') ∧ w'.cell? ⟨w.heap.size + 1, 4, none⟩ = some (.int .i64 r') ∧ w'.cell? ⟨w.heap.size + 1, 5, none⟩ = some (.int .i64 v'))) (by kernel_rfl) ⟨G1.out.drew.six, G2.out.drew.six⟩ (fun hHeld => ?_)
  refine wpAnyH_take (i := 0) (v := ?v7) rfl (by kernel_rfl) (by kernel_rfl) (by kernel_rfl) (fun _ _ _ h => h) (Or.inl ⟨by rfl, ?hy7⟩) hHeld ?rest7
  case hy7 =>
    intro w' hSw
    try dsimp only at hSw
    go_simp
    first | done | with_reducible rfl
  try simp only [Act.put, List.getElem_toArray, List.getElem_cons_zero, List.setIfInBounds_toArray, List.set_cons_zero, List.set_cons_succ]
  refine wpAnyH_take (i := 1) (v := ?v8) rfl (by kernel_rfl) (by kernel_rfl) (by kernel_rfl) (fun _ _ _ h => h) (Or.inl ⟨by rfl, ?hy8⟩) hHeld ?rest8
  case hy8 =>
    intro w' hSw
    try dsimp only at hSw
    go_simp
    first | done | with_reducible rfl
  try simp only [Act.put, List.getElem_toArray, List.getElem_cons_succ, List.getElem_cons_zero, List.setIfInBounds_toArray, List.set_cons_zero, List.set_cons_succ]
  refine wpAnyH_take (i := 2) (v := ?v9) rfl (by kernel_rfl) (by kernel_rfl) (by kernel_rfl) (fun _ _ _ h => h) (Or.inl ⟨by rfl, ?hy9⟩) hHeld ?rest9
  case hy9 =>
    intro w' hSw
    try dsimp only at hSw
    go_simp
    first | done | with_reducible rfl
  try simp only [Act.put, List.getElem_toArray, List.getElem_cons_succ, List.getElem_cons_zero, List.setIfInBounds_toArray, List.set_cons_zero, List.set_cons_succ]
  refine wpAnyH_take (i := 3) (v := ?v10) rfl (by kernel_rfl) (by kernel_rfl) (by kernel_rfl) (fun _ _ _ h => h) (Or.inl ⟨by rfl, ?hy10⟩) hHeld ?rest10
  case hy10 =>
    intro w' hSw
    try dsimp only at hSw
    go_simp
    first | done | with_reducible rfl
  try simp only [Act.put, List.getElem_toArray, List.getElem_cons_succ, List.getElem_cons_zero, List.setIfInBounds_toArray, List.set_cons_zero, List.set_cons_succ]
  refine wpAnyH_take (i := 4) (v := ?v11) rfl (by kernel_rfl) (by kernel_rfl) (by kernel_rfl) (fun _ _ _ h => h) (Or.inl ⟨by rfl, ?hy11⟩) hHeld ?rest11
  case hy11 =>
    intro w' hSw
    try dsimp only at hSw
    go_simp
    first | done | with_reducible rfl
  try simp only [Act.put, List.getElem_toArray, List.getElem_cons_succ, List.getElem_cons_zero, List.setIfInBounds_toArray, List.set_cons_zero, List.set_cons_succ]
  refine wpAnyH_take (i := 5) (v := ?v12) rfl (by kernel_rfl) (by kernel_rfl) (by kernel_rfl) (fun _ _ _ h => h) (Or.inl ⟨by rfl, ?hy12⟩) hHeld ?rest12
  case hy12 =>
    intro w' hSw
    try dsimp only at hSw
    go_simp
    first | done | with_reducible rfl
  try simp only [Act.put, List.getElem_toArray, List.getElem_cons_succ, List.getElem_cons_zero, List.setIfInBounds_toArray, List.set_cons_zero, List.set_cons_succ]
  refine wpAnyH_take (i := 6) (v := ?v13) rfl (by kernel_rfl) (by kernel_rfl) (by kernel_rfl) (fun _ _ _ h => h) (Or.inl ⟨by rfl, ?hy13⟩) hHeld ?rest13
  case hy13 =>
    intro w' hSw
    try dsimp only at hSw
    go_simp
    first | done | with_reducible rfl
  try simp only [Act.put, List.getElem_toArray, List.getElem_cons_succ, List.getElem_cons_zero, List.setIfInBounds_toArray, List.set_cons_zero, List.set_cons_succ]
  refine wpAnyH_take (i := 7) (v := ?v14) rfl (by kernel_rfl) (by kernel_rfl) (by kernel_rfl) (fun _ _ _ h => h) (Or.inl ⟨by rfl, ?hy14⟩) hHeld ?rest14
  case hy14 =>
    intro w' hSw
    try dsimp only at hSw
    go_simp
    first | done | with_reducible rfl
  try simp only [Act.put, List.getElem_toArray, List.getElem_cons_succ, List.getElem_cons_zero, List.setIfInBounds_toArray, List.set_cons_zero, List.set_cons_succ]
  refine wpAnyH_ready (rs := [8]) (by kernel_rfl) (by simp) ?_
  refine AllReadyH.cons (by rfl) (fun K hK => ?_) AllReadyH.nil
  go_simp
  refine (less_any k' o' c' l' v' r' r _ GT.out.drew KK.out.1 KK.out.2 hr' hr).mono ?_
  rw [← HX.out]
  rintro e w3 ⟨rfl, b3⟩
  have G1' := Lib.hid (G1.out.drew.keep b3)
  have G2' := Lib.hid (G2.out.drew.keep b3)
  have HB3 := Lib.hid ((below_drew HB2.out).trans (b3.mono HB2.out.size))
  clear b3
  go_wp2_with fail
  refine hK.out _ _ ⟨G1'.out.six, G2'.out.six⟩ (fun hHeld => ?_)
  clear hK K
  try simp only [Act.put, List.getElem_toArray, List.getElem_cons_succ, List.getElem_cons_zero, List.setIfInBounds_toArray, List.set_cons_zero, List.set_cons_succ]
  refine wpAnyH_take (i := 9) rfl (by kernel_rfl) (by kernel_rfl) (by kernel_rfl) (fun _ _ _ h => h) (HBB.out ▸ yields_keq (by rfl) _ _ (by rfl) k o c l r v k' o' c' l' x v' (by rfl) (by rfl)) hHeld ?_
  try simp only [Act.put, List.getElem_toArray, List.getElem_cons_succ, List.getElem_cons_zero, List.setIfInBounds_toArray, List.set_cons_zero, List.set_cons_succ]
  refine wpAnyH_take (i := 10) (v := ?v15) rfl (by kernel_rfl) (by kernel_rfl) (by kernel_rfl) (fun _ _ _ h => h) (Or.inl ⟨by rfl, ?hy15⟩) hHeld ?rest15
  case hy15 =>
    intro w' hSw
    try dsimp only at hSw
    go_simp
    first | done | with_reducible rfl
  try simp only [Act.put, List.getElem_toArray, List.getElem_cons_succ, List.getElem_cons_zero, List.setIfInBounds_toArray, List.set_cons_zero, List.set_cons_succ]
  refine wpAnyH_take (i := 11) (v := ?v16) rfl (by kernel_rfl) (by kernel_rfl) (by kernel_rfl) (fun _ _ _ h => h) (Or.inl ⟨by rfl, ?hy16⟩) hHeld ?rest16
  case hy16 =>
    intro w' hSw
    try dsimp only at hSw
    go_simp
    first | done | with_reducible rfl
  try simp only [Act.put, List.getElem_toArray, List.getElem_cons_succ, List.getElem_cons_zero, List.setIfInBounds_toArray, List.set_cons_zero, List.set_cons_succ]
  refine wpAnyH_done (by kernel_rfl) ?_ _
  refine OnlyN.normal ?_
  clear hHeld
  go_wp2
  go_ret
  exact ⟨rfl, HB3.out⟩
end Go.Proofs.YtogkdhpnbpgheaaGreatDoor
namespace Go.Proofs.YtogkdhpnbpgheaaGreatDoor
open Go.RowKit
def b1 (r q b : Nat) : Nat := if r / b % 2 = 1 ∨ q / b % 2 = 1 then b else 0
def wiN (r q k : Nat) : Nat := (if 1 ≤ k then b1 r q 1 else 0) + (if 2 ≤ k then b1 r q 2 else 0) + (if 3 ≤ k then b1 r q 4 else 0)
set_option maxRecDepth 8000 in
theorem wiN_or : ∀ r, r < 8 → ∀ q, q < 8 → wiN r q 3 = r ||| q := by decide
set_option maxRecDepth 8000 in
theorem wiN_le : ∀ r, r < 8 → ∀ q, q < 8 → ∀ k, k < 4 → wiN r q k ≤ 7 := by decide
set_option maxRecDepth 8000 in
theorem wiN_step (r q k b : Nat) (hk : k < 3) (hb : b = 2 ^ k) : wiN r q (k + 1) = wiN r q k + (if r / b % 2 = 1 ∨ q / b % 2 = 1 then b else 0) := by
  subst hb
  have : k = 0 ∨ k = 1 ∨ k = 2 := by omega
  rcases this with rfl | rfl | rfl <;> simp [wiN, b1] <;> omega
set_option maxRecDepth 8000 in
theorem ret_i {a b : Int} (h : a = b) : Ending.returned (.int .i64 a) = .returned (.int .i64 b) := by rw [h]
theorem b1_yes {r q b : Nat} (h : r / b % 2 = 1 ∨ q / b % 2 = 1) : (if r / b % 2 = 1 ∨ q / b % 2 = 1 then b else 0) = b := if_pos h
theorem b1_no {r q b : Nat} (h : ¬ (r / b % 2 = 1 ∨ q / b % 2 = 1)) : (if r / b % 2 = 1 ∨ q / b % 2 = 1 then b else 0) = 0 := if_neg h
set_option maxRecDepth 8000 in
set_option maxHeartbeats 1000000 in
theorem with_any (r q : Nat) (w : World) (hr : r < 8) (hq : q < 8) :
    Calls Tryz.prog 32 #[.int .i64 r, .int .i64 q] w fun e w' => e = .returned (.int .i64 ((r ||| q : Nat) : Int)) ∧ w = w' := by
  have HO := Lib.hid (wiN_or r hr q hq)
  have HL := Lib.hid (fun k hk => wiN_le r hr q hq k hk)
  go_enter Tryz.func32, Tryz.ntmps32
  go_wp2
  go_loop [5, 6] (fun n i => ∃ k b : Nat, k ≤ 3 ∧ b = 2 ^ k ∧ i = .int .i64 b ∧ n = .int .i64 (wiN r q k)) (fun _ i => 8 - (intOf i).toNat)
  case atStart => exact ⟨0, 1, by omega, rfl, rfl, rfl⟩
  case round =>
    obtain ⟨k, b, hk, hb, rfl, rfl⟩ := hrel
    have hcase : k = 0 ∨ k = 1 ∨ k = 2 ∨ k = 3 := by omega
    obtain ⟨n, hn⟩ : ∃ n, n = wiN r q k := ⟨_, rfl⟩
    have hn7 : n ≤ 7 := by rw [hn]; exact HL.out k (by omega)
    have HN := Lib.hid hn
    rw [← hn]
    clear hn
    rcases hcase with rfl | rfl | rfl | rfl
    · obtain rfl : b = 1 := hb
      have HS := Lib.hid (wiN_step r q 0 1 (by omega) rfl)
      by_cases h1 : r / 1 % 2 = 1
      · have d1 : (((r : Nat) : Int) % 2 == 1) = true := by simp; omega
        go_wp2
        go_round
        case rel => exact ⟨0 + 1, 2, by omega, rfl, rfl, by rw [HS.out, b1_yes (.inl h1), ← HN.out]; rfl⟩
        case measure => simp [intOf]
      · by_cases h2 : q / 1 % 2 = 1
        · have d1 : (((r : Nat) : Int) % 2 == 1) = false := by simp; omega
          have d2 : (((q : Nat) : Int) % 2 == 1) = true := by simp; omega
          go_wp2
          go_round
          case rel => exact ⟨0 + 1, 2, by omega, rfl, rfl, by rw [HS.out, b1_yes (.inr h2), ← HN.out]; rfl⟩
          case measure => simp [intOf]
        · have d1 : (((r : Nat) : Int) % 2 == 1) = false := by simp; omega
          have d2 : (((q : Nat) : Int) % 2 == 1) = false := by simp; omega
          go_wp2
          go_round
          case rel => exact ⟨0 + 1, 2, by omega, rfl, rfl, by rw [HS.out, b1_no (by omega), ← HN.out]; rfl⟩
          case measure => simp [intOf]
    · obtain rfl : b = 2 := hb
      have HS := Lib.hid (wiN_step r q 1 2 (by omega) rfl)
      by_cases h1 : r / 2 % 2 = 1
      · have d1 : (((r : Nat) : Int) / 2 % 2 == 1) = true := by simp; omega
        go_wp2
        go_round
        case rel => exact ⟨1 + 1, 4, by omega, rfl, rfl, by rw [HS.out, b1_yes (.inl h1), ← HN.out]; rfl⟩
        case measure => simp [intOf]
      · by_cases h2 : q / 2 % 2 = 1
        · have d1 : (((r : Nat) : Int) / 2 % 2 == 1) = false := by simp; omega
          have d2 : (((q : Nat) : Int) / 2 % 2 == 1) = true := by simp; omega
          go_wp2
          go_round
          case rel => exact ⟨1 + 1, 4, by omega, rfl, rfl, by rw [HS.out, b1_yes (.inr h2), ← HN.out]; rfl⟩
          case measure => simp [intOf]
        · have d1 : (((r : Nat) : Int) / 2 % 2 == 1) = false := by simp; omega
          have d2 : (((q : Nat) : Int) / 2 % 2 == 1) = false := by simp; omega
          go_wp2
          go_round
          case rel => exact ⟨1 + 1, 4, by omega, rfl, rfl, by rw [HS.out, b1_no (by omega), ← HN.out]; rfl⟩
          case measure => simp [intOf]
    · obtain rfl : b = 4 := hb
      have HS := Lib.hid (wiN_step r q 2 4 (by omega) rfl)
      by_cases h1 : r / 4 % 2 = 1
      · have d1 : (((r : Nat) : Int) / 4 % 2 == 1) = true := by simp; omega
        go_wp2
        go_round
        case rel => exact ⟨2 + 1, 8, by omega, rfl, rfl, by rw [HS.out, b1_yes (.inl h1), ← HN.out]; rfl⟩
        case measure => simp [intOf]
      · by_cases h2 : q / 4 % 2 = 1
        · have d1 : (((r : Nat) : Int) / 4 % 2 == 1) = false := by simp; omega
          have d2 : (((q : Nat) : Int) / 4 % 2 == 1) = true := by simp; omega
          go_wp2
          go_round
          case rel => exact ⟨2 + 1, 8, by omega, rfl, rfl, by rw [HS.out, b1_yes (.inr h2), ← HN.out]; rfl⟩
          case measure => simp [intOf]
        · have d1 : (((r : Nat) : Int) / 4 % 2 == 1) = false := by simp; omega
          have d2 : (((q : Nat) : Int) / 4 % 2 == 1) = false := by simp; omega
          go_wp2
          go_round
          case rel => exact ⟨2 + 1, 8, by omega, rfl, rfl, by rw [HS.out, b1_no (by omega), ← HN.out]; rfl⟩
          case measure => simp [intOf]
    · obtain rfl : b = 8 := hb
      go_wp2
      go_ret
      exact ⟨ret_i (by rw [HN.out, HO.out]), rfl⟩
end Go.Proofs.YtogkdhpnbpgheaaGreatDoor

/- procs: who runs, who is come to, and how. -/
import Derived.Test.YtljfddeolapeaaaDoorJMh
import Derived.Test.YtljfddeolapeaaaDoorR10
namespace Go.Proofs.YtljfddeolapeaaaDoor
open List renaming getElem_toArray → zq1, getElem_cons_succ → zq2, getElem_cons_zero → zq3, setIfInBounds_toArray → zq4, set_cons_zero → zq5, set_cons_succ → zq6
open Go.RowKit
def cmE1 : Array MapEntry := #[{ key := .int .i64 6, val := .func (.func 90) #[] #[], born := 0 }]
theorem cmupd1 (W : World) : (Instr.mapUpdate 126 (.map (some W.heap.size)) (.int .i64 6) (.func (.func 90) #[] #[])).run Tryd.prog (W.alloc (.map #[] 0)) = .ok () (W.alloc (.map cmE1 1)) :=
  run_upd_new Tryd.underlying126 Tryd.underlying30 W #[] 0 _ _ rfl
def cmE2 : Array MapEntry := #[{ key := .int .i64 6, val := .func (.func 90) #[] #[], born := 0 }, { key := .int .i64 7, val := .func (.func 91) #[] #[], born := 1 }]
theorem cmupd2 (W : World) : (Instr.mapUpdate 126 (.map (some W.heap.size)) (.int .i64 7) (.func (.func 91) #[] #[])).run Tryd.prog (W.alloc (.map cmE1 1)) = .ok () (W.alloc (.map cmE2 2)) :=
  run_upd_new Tryd.underlying126 Tryd.underlying30 W cmE1 1 _ _ rfl
theorem cmlook (W : World) (b : Nat) (n : Int) (a : Option (Nat × Value)) (hb : W.heap[b]? = some (.map cmE2 2)) (hfind : Instr.findNow (.int .i64) (.int .i64 n) cmE2.toList 0 = some a) :
    (Instr.lookup 126 (.map (some b)) (.int .i64 n) true).run Tryd.prog W = .ok (.tuple #[(a.map (·.2)).getD .nilFunc, .bool a.isSome]) W :=
  run_look_fn Tryd.underlying126 Tryd.underlying30 (fun W => by kernel_rfl) W b cmE2 2 _ hb a hfind
set_option maxRecDepth 8000 in
theorem cmfind_none {n : Int} (h : n ≠ 6 ∧ n ≠ 7) : Instr.findNow (.int .i64) (.int .i64 n) cmE2.toList 0 = some none := by
  obtain ⟨h6, h7⟩ := h
  have e6 : (n == 6) = false := by simpa using h6
  have e7 : (n == 7) = false := by simpa using h7
  simp [Instr.findNow, Instr.sameNow, cmE2, e6, e7]
set_option maxRecDepth 8000 in
set_option maxHeartbeats 400000 in
theorem cmmap_any (w : World) : Calls Tryd.prog 74 #[] w fun e w' => e = .returned (.map (some w.heap.size)) ∧ w.alloc (.map cmE2 2) = w' := by
  have hmm := @run_makeMap Tryd.prog
  have h1 := cmupd1
  have h2 := cmupd2
  go_enter Tryd.func74, Tryd.ntmps74
  go_wp2
  go_ret
  exact ⟨rfl, rfl⟩
def gmE1 : Array MapEntry := #[{ key := .int .i64 1, val := .func (.func 70) #[] #[], born := 0 }]
theorem gmupd1 (W : World) : (Instr.mapUpdate 88 (.map (some W.heap.size)) (.int .i64 1) (.func (.func 70) #[] #[])).run Tryd.prog (W.alloc (.map #[] 0)) = .ok () (W.alloc (.map gmE1 1)) :=
  run_upd_new Tryd.underlying88 Tryd.underlying34 W #[] 0 _ _ rfl
def gmE2 : Array MapEntry := #[{ key := .int .i64 1, val := .func (.func 70) #[] #[], born := 0 }, { key := .int .i64 2, val := .func (.func 71) #[] #[], born := 1 }]
theorem gmupd2 (W : World) : (Instr.mapUpdate 88 (.map (some W.heap.size)) (.int .i64 2) (.func (.func 71) #[] #[])).run Tryd.prog (W.alloc (.map gmE1 1)) = .ok () (W.alloc (.map gmE2 2)) :=
  run_upd_new Tryd.underlying88 Tryd.underlying34 W gmE1 1 _ _ rfl
def gmE3 : Array MapEntry := #[{ key := .int .i64 1, val := .func (.func 70) #[] #[], born := 0 }, { key := .int .i64 2, val := .func (.func 71) #[] #[], born := 1 }, { key := .int .i64 3, val := .func (.func 72) #[] #[], born := 2 }]
theorem gmupd3 (W : World) : (Instr.mapUpdate 88 (.map (some W.heap.size)) (.int .i64 3) (.func (.func 72) #[] #[])).run Tryd.prog (W.alloc (.map gmE2 2)) = .ok () (W.alloc (.map gmE3 3)) :=
  run_upd_new Tryd.underlying88 Tryd.underlying34 W gmE2 2 _ _ rfl
theorem gmlook (W : World) (b : Nat) (n : Int) (a : Option (Nat × Value)) (hb : W.heap[b]? = some (.map gmE3 3)) (hfind : Instr.findNow (.int .i64) (.int .i64 n) gmE3.toList 0 = some a) :
    (Instr.lookup 88 (.map (some b)) (.int .i64 n) true).run Tryd.prog W = .ok (.tuple #[(a.map (·.2)).getD .nilFunc, .bool a.isSome]) W :=
  run_look_fn Tryd.underlying88 Tryd.underlying34 (fun W => by kernel_rfl) W b gmE3 3 _ hb a hfind
set_option maxRecDepth 8000 in
theorem gmfind_none {n : Int} (h : n ≠ 1 ∧ n ≠ 2 ∧ n ≠ 3) : Instr.findNow (.int .i64) (.int .i64 n) gmE3.toList 0 = some none := by
  obtain ⟨h1, h2, h3⟩ := h
  have e1 : (n == 1) = false := by simpa using h1
  have e2 : (n == 2) = false := by simpa using h2
  have e3 : (n == 3) = false := by simpa using h3
  simp [Instr.findNow, Instr.sameNow, gmE3, e1, e2, e3]
set_option maxRecDepth 8000 in
set_option maxHeartbeats 400000 in
theorem gmmap_any (w : World) : Calls Tryd.prog 36 #[] w fun e w' => e = .returned (.map (some w.heap.size)) ∧ w.alloc (.map gmE3 3) = w' := by
  have hmm := @run_makeMap Tryd.prog
  have h1 := gmupd1
  have h2 := gmupd2
  have h3 := gmupd3
  go_enter Tryd.func36, Tryd.ntmps36
  go_wp2
  go_ret
  exact ⟨rfl, rfl⟩
/-- what comes by a kind of keys -/
def comV (k : Int) : Value := if k = 6 then .func (.func 90) #[] #[] else if k = 7 then .func (.func 91) #[] #[] else .nilFunc
def comB (k : Int) : Bool := decide (k = 6 ∨ k = 7)
set_option maxRecDepth 8000 in
theorem com_look (W : World) (b : Nat) (n : Int) (hb : W.heap[b]? = some (.map cmE2 2)) : (Instr.lookup 126 (.map (some b)) (.int .i64 n) true).run Tryd.prog W = .ok (.tuple #[comV n, .bool (comB n)]) W := by
  by_cases h6 : n = 6
  · subst h6
    exact cmlook W b 6 (some (0, _)) hb rfl
  · by_cases h7 : n = 7
    · subst h7
      exact cmlook W b 7 (some (1, _)) hb rfl
    · have := cmlook W b n none hb (cmfind_none ⟨h6, h7⟩)
      rw [show comV n = .nilFunc by unfold comV; rw [if_neg h6, if_neg h7], show comB n = false from decide_eq_false (by omega)]
      exact this
/-- what goes in a mode -/
def goV (k : Int) : Value := if k = 1 then .func (.func 70) #[] #[] else if k = 2 then .func (.func 71) #[] #[] else if k = 3 then .func (.func 72) #[] #[] else .nilFunc
def goB (k : Int) : Bool := decide (1 ≤ k ∧ k ≤ 3)
set_option maxRecDepth 8000 in
theorem go_look (W : World) (b : Nat) (n : Int) (hb : W.heap[b]? = some (.map gmE3 3)) : (Instr.lookup 88 (.map (some b)) (.int .i64 n) true).run Tryd.prog W = .ok (.tuple #[goV n, .bool (goB n)]) W := by
  by_cases h1 : n = 1
  · subst h1
    exact gmlook W b 1 (some (0, _)) hb rfl
  · by_cases h2 : n = 2
    · subst h2
      exact gmlook W b 2 (some (1, _)) hb rfl
    · by_cases h3 : n = 3
      · subst h3
        exact gmlook W b 3 (some (2, _)) hb rfl
      · have := gmlook W b n none hb (gmfind_none ⟨h1, h2, h3⟩)
        rw [show goV n = .nilFunc by unfold goV; rw [if_neg h1, if_neg h2, if_neg h3], show goB n = false from decide_eq_false (by omega)]
        exact this
section
variable {w : World} {base p : Nat} {A : Option Addr} {cap : Nat} {ps : List Nat} {os : List Oj}
set_option maxRecDepth 100000 in
set_option maxHeartbeats 2000000 in
theorem run_no (h : StAt w base p A cap ps os) (hn : 0 < os.length) (i : Int) (hs : stA os i ≠ some 1) : Calls Tryd.prog 39 #[pv p, .int .i64 i] w fun e w' => e = .panicked (erc 230) ∧ Below w.heap.size w w' := by
  have hz := zJ
  have hl := jc_len none 0 oz
  have hl2 := jc_len (some ⟨p, 0, none⟩) i (objA os i)
  have HN := Lib.hid hn
  have HSS := Lib.hid hs
  have HS0 := Lib.hid (h.alloc (.cells (jc none 0 oz).toArray 93))
  have HB0 := Lib.hid ((Below.refl w.heap.size w).alloc (Nat.le_refl _) (.cells (jc none 0 oz).toArray 93))
  have HR0 := Lib.hid (Blk.new w 93 (jc none 0 oz).toArray)
  clear h hn hs
  go_enter Tryd.func39, Tryd.ntmps39
  go_wp2_with (first
    | (go_at_call 52; refine (at_all HS0.out HN.out i).mono ?_; rintro e w1 ⟨rfl, b1⟩; have HB1 := Lib.hid ((HB0.out.trans (b1.mono HB0.out.size)).alloc (Nat.le_trans HB0.out.size b1.size) (.cells (jc (some ⟨p, 0, none⟩) i (objA os i)).toArray 93)); have HR1 := Lib.hid ((HR0.out.keep b1).alloc (.cells (jc (some ⟨p, 0, none⟩) i (objA os i)).toArray 93)); have HG1 := Lib.hid (NdB.own (Blk.new w1 93 (jc (some ⟨p, 0, none⟩) i (objA os i)).toArray)); clear b1)
    | (show wpList _ _ _ (Oper.mk none (.store _ (.tmp 5) (.tmp 8)) _ _ _ _ :: _) _ _; refine wpList_store_new (l := jc (some ⟨p, 0, none⟩) i (objA os i)) (l0 := jc none 0 oz) (ty := 93) rfl (.tmp 5) (.tmp 8) (by rfl) w1.heap.size rfl (by rfl) (by rfl) (by rw [jc_len]; exact sizeJ) (by rw [jc_len, jc_len]) (jc_one _ _ _) ?_)
    | (go_at_call 44; refine (is_any HG1.out 1 (decide_eq_false HSS.out)).mono ?_; rintro e w2 ⟨rfl, b2⟩; have HB2 := Lib.hid (HB1.out.trans (b2.mono HB1.out.size)); clear b2))
  exact ⟨rfl, rfl, HB2.out⟩
set_option maxRecDepth 100000 in
set_option maxHeartbeats 2000000 in
theorem run_yes (h : StAt w base p A cap ps os) (hn : 0 < os.length) (i : Int) (hs : stA os i = some 1) : Calls Tryd.prog 39 #[pv p, .int .i64 i] w fun e w' => e = .returned (jv (some ⟨p, 0, none⟩) i (objA os i)) ∧ Below w.heap.size w w' := by
  have hz := zJ
  have hl := jc_len none 0 oz
  have hl2 := jc_len (some ⟨p, 0, none⟩) i (objA os i)
  have HN := Lib.hid hn
  have HSS := Lib.hid hs
  have HS0 := Lib.hid (h.alloc (.cells (jc none 0 oz).toArray 93))
  have HB0 := Lib.hid ((Below.refl w.heap.size w).alloc (Nat.le_refl _) (.cells (jc none 0 oz).toArray 93))
  have HR0 := Lib.hid (Blk.new w 93 (jc none 0 oz).toArray)
  clear h hn hs
  go_enter Tryd.func39, Tryd.ntmps39
  go_wp2_with (first
    | (go_at_call 52; refine (at_all HS0.out HN.out i).mono ?_; rintro e w1 ⟨rfl, b1⟩; have HB1 := Lib.hid ((HB0.out.trans (b1.mono HB0.out.size)).alloc (Nat.le_trans HB0.out.size b1.size) (.cells (jc (some ⟨p, 0, none⟩) i (objA os i)).toArray 93)); have HR1 := Lib.hid ((HR0.out.keep b1).alloc (.cells (jc (some ⟨p, 0, none⟩) i (objA os i)).toArray 93)); have HG1 := Lib.hid (NdB.own (Blk.new w1 93 (jc (some ⟨p, 0, none⟩) i (objA os i)).toArray)); clear b1)
    | (show wpList _ _ _ (Oper.mk none (.store _ (.tmp 5) (.tmp 8)) _ _ _ _ :: _) _ _; refine wpList_store_new (l := jc (some ⟨p, 0, none⟩) i (objA os i)) (l0 := jc none 0 oz) (ty := 93) rfl (.tmp 5) (.tmp 8) (by rfl) w1.heap.size rfl (by rfl) (by rfl) (by rw [jc_len]; exact sizeJ) (by rw [jc_len, jc_len]) (jc_one _ _ _) ?_)
    | (go_at_call 44; refine (is_any HG1.out 1 (decide_eq_true HSS.out)).mono ?_; rintro e w2 ⟨rfl, b2⟩; have HB2 := Lib.hid (HB1.out.trans (b2.mono HB1.out.size)); have HR2 := Lib.hid (HR1.out.keep b2); have HG2 := Lib.hid (HG1.out.below b2); clear b2)
    | (show wpList _ _ _ (Oper.mk (some 12) (.load _ _) _ _ _ _ :: _) _ _; refine wpList_yields (S := fun w' => JAt w' w1.heap.size 0 (some ⟨p, 0, none⟩) i (objA os i)) (y_nd (by rfl) (.tmp 5) (by rfl) w1.heap.size 0 (by rfl) (some ⟨p, 0, none⟩) i (objA os i) (fun _ h => h)) HG2.out.at_ ?_)
    | (show wpList _ _ _ (Oper.mk none (.store _ (.tmp 4) (.tmp 12)) _ _ _ _ :: _) _ _; refine wpList_store_big (l0 := jc none 0 oz) (l := jc (some ⟨p, 0, none⟩) i (objA os i)) HR2.out rfl (.tmp 4) (.tmp 12) (ty := 93) rfl (by rfl) (by rfl) (by rw [jc_len]; exact sizeJ) (by rw [jc_len, jc_len]) (jc_one _ _ _) ?_))
  exact bodyPost_ret (res_1 rfl _ _ w.heap.size _ rfl (load_nd _ i _ (HR2.out.setRow _))) rfl ⟨rfl, below_setRow HB2.out (Nat.le_refl _) _⟩
set_option maxRecDepth 100000 in
set_option maxHeartbeats 2000000 in
theorem ct_l (h : StAt w base p A cap ps os) (hn : 0 < os.length) (hT : Tab w) (x : Ky) (hk : comB x.k = false) :
    Calls Tryd.prog 40 #[pv p, x.val] w fun e w' => e = .panicked (erc 231) ∧ Below w.heap.size w w' := by
  have hz := zJ
  have hz2 := z34
  have hl := jc_len none 0 oz
  have hol := oz_len
  have hlk := com_look
  have HN := Lib.hid hn
  have HB0 := Lib.hid (((Below.refl w.heap.size w).alloc (Nat.le_refl _) (.cells (kc x.k x.o x.c x.l x.r x.v) 33)).alloc (by simp) (.cells (jc none 0 oz).toArray 93))
  have HS0 := Lib.hid ((h.alloc (.cells (kc x.k x.o x.c x.l x.r x.v) 33)).alloc (.cells (jc none 0 oz).toArray 93))
  have HT0 := Lib.hid ((hT.alloc (.cells (kc x.k x.o x.c x.l x.r x.v) 33)).alloc (.cells (jc none 0 oz).toArray 93))
  have HX0 : Hid (Blk ((w.alloc (.cells (kc x.k x.o x.c x.l x.r x.v) 33)).alloc (.cells (jc none 0 oz).toArray 93)) w.heap.size 33 (kl x).toArray) := Lib.hid ((Blk.new w 33 (kl x).toArray).alloc (.cells (jc none 0 oz).toArray 93))
  have HR0 := Lib.hid (Blk.new_of (w.alloc (.cells (kc x.k x.o x.c x.l x.r x.v) 33)) 93 (jc none 0 oz).toArray (g := w.heap.size + 1) (by simp))
  have dk := hk
  clear hk
  have HSS := Lib.hid (show stN (objA os x.o) = stA os x.o from rfl)
  have hnl := ((named os x).getD oz).len
  have hjl := jc_len (some ⟨p, 0, none⟩) x.o (objA os x.o)
  clear h hn hT
  go_enter Tryd.func40, Tryd.ntmps40
  go_wp2_with fail
  refine wp_region_only (S := fun w' => w'.cell? ⟨w.heap.size, 0, none⟩ = some (.int .i64 x.k)) (by kernel_rfl) (HX0.out.drew.cell 0) (fun hHeld => ?_)
  refine wpAnyH_take (i := 1) (v := ?v1) rfl (by kernel_rfl) (by kernel_rfl) (by kernel_rfl) (fun _ _ _ h => h) (Or.inl ⟨by rfl, ?hy1⟩) hHeld ?rest1
  case hy1 =>
    intro w' hSw
    try dsimp only at hSw
    go_simp
    first | done | with_reducible rfl
  try simp only [Act.put, zq1, zq2, zq3, zq4, zq5, zq6]
  refine wpAnyH_take (i := 2) (v := ?v2) rfl (by kernel_rfl) (by kernel_rfl) (by kernel_rfl) (fun _ _ _ h => h) (Or.inl ⟨by rfl, ?hy2⟩) hHeld ?rest2
  case hy2 =>
    intro w' hSw
    try dsimp only at hSw
    go_simp
    first | done | with_reducible rfl
  try simp only [Act.put, zq1, zq2, zq3, zq4, zq5, zq6]
  refine wpAnyH_ready (rs := [0]) (by kernel_rfl) (by simp) ?_
  refine AllReadyH.cons (by rfl) (fun K hK => ?_) AllReadyH.nil
  go_simp
  refine (cmmap_any _).mono ?_
  rintro e w1 ⟨rfl, hw1⟩
  have HMP := Lib.hid (show w1.heap[((w.alloc (.cells (kc x.k x.o x.c x.l x.r x.v) 33)).alloc (.cells (jc none 0 oz).toArray 93)).heap.size]? = some (.map cmE2 2) by subst hw1; exact heap_alloc_new _ _)
  have HB1 := Lib.hid (show Below w.heap.size w w1 by subst hw1; exact (below_drew HB0.out).alloc (below_drew HB0.out).size _)
  have HS1 := Lib.hid (show StAt w1 base p A cap ps os by subst hw1; exact HS0.out.drew.alloc _)
  have HT1 := Lib.hid (show Tab w1 by subst hw1; exact HT0.out.drew.alloc _)
  have HX1 := Lib.hid (show Blk w1 w.heap.size 33 (kl x).toArray by subst hw1; exact HX0.out.drew.alloc _)
  have HR1 := Lib.hid (show Blk w1 (w.heap.size + 1) 93 (jc none 0 oz).toArray by subst hw1; exact HR0.out.drew.alloc _)
  clear hw1 hHeld HB0 HS0 HT0 HX0 HR0
  go_wp2_with fail
  refine hK.out _ _ (HX1.out.cell 0) (fun hHeld => ?_)
  clear hK K
  try simp only [Act.put, zq1, zq3, zq4, zq5, zq6]
  refine wpAnyH_ready (rs := [3]) (by kernel_rfl) (by simp) ?_
  refine AllReadyH.cons (by rfl) (fun K hK => ?_) AllReadyH.nil
  have hlk2 := com_look w1 _ x.k HMP.out
  have hlk3 := hlk2; simp at hlk2
  go_simp
  refine hK.out _ _ (HX1.out.cell 0) (fun hHeld => ?_)
  clear hK K
  try simp only [Act.put, zq1, zq2, zq3, zq4, zq5, zq6]
  refine wpAnyH_take (i := 4) (v := ?v3) rfl (by kernel_rfl) (by kernel_rfl) (by kernel_rfl) (fun _ _ _ h => h) (Or.inl ⟨by rfl, ?hy3⟩) hHeld ?rest3
  case hy3 =>
    intro w' hSw
    try dsimp only at hSw
    go_simp
    first | done | with_reducible rfl
  try simp only [Act.put, zq1, zq2, zq3, zq4, zq5, zq6]
  refine wpAnyH_take (i := 5) (v := ?v4) rfl (by kernel_rfl) (by kernel_rfl) (by kernel_rfl) (fun _ _ _ h => h) (Or.inl ⟨by rfl, ?hy4⟩) hHeld ?rest4
  case hy4 =>
    intro w' hSw
    try dsimp only at hSw
    go_simp
    first | done | with_reducible rfl
  try simp only [Act.put, zq1, zq2, zq3, zq4, zq5, zq6]
  refine wpAnyH_take (i := 6) (v := ?v5) rfl (by kernel_rfl) (by kernel_rfl) (by kernel_rfl) (fun _ _ _ h => h) (Or.inl ⟨by rfl, ?hy5⟩) hHeld ?rest5
  case hy5 =>
    intro w' hSw
    try dsimp only at hSw
    go_simp
    first | done | with_reducible rfl
  try simp only [Act.put, zq1, zq2, zq3, zq4, zq5, zq6]
  refine wpAnyH_take (i := 7) (v := ?v6) rfl (by kernel_rfl) (by kernel_rfl) (by kernel_rfl) (fun _ _ _ h => h) (Or.inl ⟨by rfl, ?hy6⟩) hHeld ?rest6
  case hy6 =>
    intro w' hSw
    try dsimp only at hSw
    go_simp
    first | done | with_reducible rfl
  try simp only [Act.put, zq1, zq2, zq3, zq4, zq5, zq6]
  refine wpAnyH_take (i := 8) (v := ?v7) rfl (by kernel_rfl) (by kernel_rfl) (by kernel_rfl) (fun _ _ _ h => h) (Or.inl ⟨by rfl, ?hy7⟩) hHeld ?rest7
  case hy7 =>
    intro w' hSw
    try dsimp only at hSw
    go_simp
    first | done | with_reducible rfl
  try simp only [Act.put, zq1, zq2, zq3, zq4, zq5, zq6]
  refine wpAnyH_done (by kernel_rfl) ?_ _
  refine OnlyN.normal ?_
  clear hHeld
  go_wp2_with (first
    | (show wpList _ _ _ (Oper.mk (some 22) (.load _ _) _ _ _ _ :: _) _ _; refine wpList_yields (S := fun w' => KeyAt w' w.heap.size 0 x) (y_kyJ (by rfl) (.tmp 3) (by rfl) w.heap.size 0 (by rfl) x (fun _ h => h)) HX1.out.kat ?_)
    | (go_at_call 18; refine (named_at HS1.out HN.out HT1.out x).mono ?_; rintro e w2 ⟨rfl, b2⟩; have HB2 := Lib.hid (HB1.out.trans (b2.mono HB1.out.size)); have HS2 := Lib.hid (HS1.out.below b2); have HT2 := Lib.hid (HT1.out.below b2); have HX2 := Lib.hid (HX1.out.keep b2); have HR2 := Lib.hid (HR1.out.keep b2); have HB3 := Lib.hid (HB2.out.alloc HB2.out.size (.cells ((named os x).getD oz).cells.toArray 56)); have HS3 := Lib.hid (HS2.out.alloc (.cells ((named os x).getD oz).cells.toArray 56)); have HT3 := Lib.hid (HT2.out.alloc (.cells ((named os x).getD oz).cells.toArray 56)); have HX3 := Lib.hid (HX2.out.alloc (.cells ((named os x).getD oz).cells.toArray 56)); have HR3 := Lib.hid (HR2.out.alloc (.cells ((named os x).getD oz).cells.toArray 56)); clear b2; have x1 := HX3.out.kat.2.1)
    | (show wpList _ _ _ (Oper.mk none (.store _ (.tmp 8) (.tmp 24)) _ _ _ _ :: _) _ _; refine wpList_store_last rfl (.tmp 8) (.tmp 24) rfl w2.heap.size rfl rfl ((named os x).getD oz) oz rfl ?_)
    | (go_at_call 52; refine (at_all HS3.out HN.out x.o).mono ?_; rintro e w4 ⟨rfl, b4⟩; have HB4 := Lib.hid (HB3.out.trans (b4.mono HB3.out.size)); have HS4 := Lib.hid (HS3.out.below b4); have HT4 := Lib.hid (HT3.out.below b4); have HX4 := Lib.hid (HX3.out.keep b4); have HR4 := Lib.hid (HR3.out.keep b4); have HB5 := Lib.hid (HB4.out.alloc HB4.out.size (.cells (jc (some ⟨p, 0, none⟩) x.o (objA os x.o)).toArray 93)); have HS5 := Lib.hid (HS4.out.alloc (.cells (jc (some ⟨p, 0, none⟩) x.o (objA os x.o)).toArray 93)); have HT5 := Lib.hid (HT4.out.alloc (.cells (jc (some ⟨p, 0, none⟩) x.o (objA os x.o)).toArray 93)); have HX5 := Lib.hid (HX4.out.alloc (.cells (jc (some ⟨p, 0, none⟩) x.o (objA os x.o)).toArray 93)); have HR5 := Lib.hid (HR4.out.alloc (.cells (jc (some ⟨p, 0, none⟩) x.o (objA os x.o)).toArray 93)); have HG5 := Lib.hid (NdB.own (Blk.new w4 93 (jc (some ⟨p, 0, none⟩) x.o (objA os x.o)).toArray)); clear b4 x1)
    | (show wpList _ _ _ (Oper.mk none (.store _ (.tmp 10) (.tmp 29)) _ _ _ _ :: _) _ _; refine wpList_store_new (l := jc (some ⟨p, 0, none⟩) x.o (objA os x.o)) (l0 := jc none 0 oz) (ty := 93) rfl (.tmp 10) (.tmp 29) (by rfl) w4.heap.size rfl (by rfl) (by rfl) (by rw [jc_len]; exact sizeJ) (by rw [jc_len, jc_len]) (jc_one _ _ _) ?_)
    | (go_at_call 53; refine (state_eq HG5.out HSS.out).mono ?_; rintro e w6 ⟨rfl, b6⟩; have HB6 := Lib.hid (HB5.out.trans (b6.mono HB5.out.size)); have HR6 := Lib.hid (HR5.out.keep b6); have HG6 := Lib.hid (HG5.out.below b6); clear b6))
  exact ⟨rfl, rfl, HB6.out⟩
set_option maxRecDepth 100000 in
set_option maxHeartbeats 2000000 in
theorem ct_n (h : StAt w base p A cap ps os) (hn : 0 < os.length) (hT : Tab w) (x : Ky) (hk : comB x.k = true) (hx : (named os x).isSome = false) :
    Calls Tryd.prog 40 #[pv p, x.val] w fun e w' => e = .panicked (erc 231) ∧ Below w.heap.size w w' := by
  have hz := zJ
  have hz2 := z34
  have hl := jc_len none 0 oz
  have hol := oz_len
  have hlk := com_look
  have HN := Lib.hid hn
  have HB0 := Lib.hid (((Below.refl w.heap.size w).alloc (Nat.le_refl _) (.cells (kc x.k x.o x.c x.l x.r x.v) 33)).alloc (by simp) (.cells (jc none 0 oz).toArray 93))
  have HS0 := Lib.hid ((h.alloc (.cells (kc x.k x.o x.c x.l x.r x.v) 33)).alloc (.cells (jc none 0 oz).toArray 93))
  have HT0 := Lib.hid ((hT.alloc (.cells (kc x.k x.o x.c x.l x.r x.v) 33)).alloc (.cells (jc none 0 oz).toArray 93))
  have HX0 : Hid (Blk ((w.alloc (.cells (kc x.k x.o x.c x.l x.r x.v) 33)).alloc (.cells (jc none 0 oz).toArray 93)) w.heap.size 33 (kl x).toArray) := Lib.hid ((Blk.new w 33 (kl x).toArray).alloc (.cells (jc none 0 oz).toArray 93))
  have HR0 := Lib.hid (Blk.new_of (w.alloc (.cells (kc x.k x.o x.c x.l x.r x.v) 33)) 93 (jc none 0 oz).toArray (g := w.heap.size + 1) (by simp))
  have dk := hk
  have dx := hx
  clear hk hx
  have HSS := Lib.hid (show stN (objA os x.o) = stA os x.o from rfl)
  have hnl := ((named os x).getD oz).len
  have hjl := jc_len (some ⟨p, 0, none⟩) x.o (objA os x.o)
  clear h hn hT
  go_enter Tryd.func40, Tryd.ntmps40
  go_wp2_with fail
  refine wp_region_only (S := fun w' => w'.cell? ⟨w.heap.size, 0, none⟩ = some (.int .i64 x.k)) (by kernel_rfl) (HX0.out.drew.cell 0) (fun hHeld => ?_)
  refine wpAnyH_take (i := 1) (v := ?v1) rfl (by kernel_rfl) (by kernel_rfl) (by kernel_rfl) (fun _ _ _ h => h) (Or.inl ⟨by rfl, ?hy1⟩) hHeld ?rest1
  case hy1 =>
    intro w' hSw
    try dsimp only at hSw
    go_simp
    first | done | with_reducible rfl
  try simp only [Act.put, zq1, zq2, zq3, zq4, zq5, zq6]
  refine wpAnyH_take (i := 2) (v := ?v2) rfl (by kernel_rfl) (by kernel_rfl) (by kernel_rfl) (fun _ _ _ h => h) (Or.inl ⟨by rfl, ?hy2⟩) hHeld ?rest2
  case hy2 =>
    intro w' hSw
    try dsimp only at hSw
    go_simp
    first | done | with_reducible rfl
  try simp only [Act.put, zq1, zq2, zq3, zq4, zq5, zq6]
  refine wpAnyH_ready (rs := [0]) (by kernel_rfl) (by simp) ?_
  refine AllReadyH.cons (by rfl) (fun K hK => ?_) AllReadyH.nil
  go_simp
  refine (cmmap_any _).mono ?_
  rintro e w1 ⟨rfl, hw1⟩
  have HMP := Lib.hid (show w1.heap[((w.alloc (.cells (kc x.k x.o x.c x.l x.r x.v) 33)).alloc (.cells (jc none 0 oz).toArray 93)).heap.size]? = some (.map cmE2 2) by subst hw1; exact heap_alloc_new _ _)
  have HB1 := Lib.hid (show Below w.heap.size w w1 by subst hw1; exact (below_drew HB0.out).alloc (below_drew HB0.out).size _)
  have HS1 := Lib.hid (show StAt w1 base p A cap ps os by subst hw1; exact HS0.out.drew.alloc _)
  have HT1 := Lib.hid (show Tab w1 by subst hw1; exact HT0.out.drew.alloc _)
  have HX1 := Lib.hid (show Blk w1 w.heap.size 33 (kl x).toArray by subst hw1; exact HX0.out.drew.alloc _)
  have HR1 := Lib.hid (show Blk w1 (w.heap.size + 1) 93 (jc none 0 oz).toArray by subst hw1; exact HR0.out.drew.alloc _)
  clear hw1 hHeld HB0 HS0 HT0 HX0 HR0
  go_wp2_with fail
  refine hK.out _ _ (HX1.out.cell 0) (fun hHeld => ?_)
  clear hK K
  try simp only [Act.put, zq1, zq3, zq4, zq5, zq6]
  refine wpAnyH_ready (rs := [3]) (by kernel_rfl) (by simp) ?_
  refine AllReadyH.cons (by rfl) (fun K hK => ?_) AllReadyH.nil
  have hlk2 := com_look w1 _ x.k HMP.out
  have hlk3 := hlk2; simp at hlk2
  go_simp
  refine hK.out _ _ (HX1.out.cell 0) (fun hHeld => ?_)
  clear hK K
  try simp only [Act.put, zq1, zq2, zq3, zq4, zq5, zq6]
  refine wpAnyH_take (i := 4) (v := ?v3) rfl (by kernel_rfl) (by kernel_rfl) (by kernel_rfl) (fun _ _ _ h => h) (Or.inl ⟨by rfl, ?hy3⟩) hHeld ?rest3
  case hy3 =>
    intro w' hSw
    try dsimp only at hSw
    go_simp
    first | done | with_reducible rfl
  try simp only [Act.put, zq1, zq2, zq3, zq4, zq5, zq6]
  refine wpAnyH_take (i := 5) (v := ?v4) rfl (by kernel_rfl) (by kernel_rfl) (by kernel_rfl) (fun _ _ _ h => h) (Or.inl ⟨by rfl, ?hy4⟩) hHeld ?rest4
  case hy4 =>
    intro w' hSw
    try dsimp only at hSw
    go_simp
    first | done | with_reducible rfl
  try simp only [Act.put, zq1, zq2, zq3, zq4, zq5, zq6]
  refine wpAnyH_take (i := 6) (v := ?v5) rfl (by kernel_rfl) (by kernel_rfl) (by kernel_rfl) (fun _ _ _ h => h) (Or.inl ⟨by rfl, ?hy5⟩) hHeld ?rest5
  case hy5 =>
    intro w' hSw
    try dsimp only at hSw
    go_simp
    first | done | with_reducible rfl
  try simp only [Act.put, zq1, zq2, zq3, zq4, zq5, zq6]
  refine wpAnyH_take (i := 7) (v := ?v6) rfl (by kernel_rfl) (by kernel_rfl) (by kernel_rfl) (fun _ _ _ h => h) (Or.inl ⟨by rfl, ?hy6⟩) hHeld ?rest6
  case hy6 =>
    intro w' hSw
    try dsimp only at hSw
    go_simp
    first | done | with_reducible rfl
  try simp only [Act.put, zq1, zq2, zq3, zq4, zq5, zq6]
  refine wpAnyH_take (i := 8) (v := ?v7) rfl (by kernel_rfl) (by kernel_rfl) (by kernel_rfl) (fun _ _ _ h => h) (Or.inl ⟨by rfl, ?hy7⟩) hHeld ?rest7
  case hy7 =>
    intro w' hSw
    try dsimp only at hSw
    go_simp
    first | done | with_reducible rfl
  try simp only [Act.put, zq1, zq2, zq3, zq4, zq5, zq6]
  refine wpAnyH_done (by kernel_rfl) ?_ _
  refine OnlyN.normal ?_
  clear hHeld
  go_wp2_with (first
    | (show wpList _ _ _ (Oper.mk (some 22) (.load _ _) _ _ _ _ :: _) _ _; refine wpList_yields (S := fun w' => KeyAt w' w.heap.size 0 x) (y_kyJ (by rfl) (.tmp 3) (by rfl) w.heap.size 0 (by rfl) x (fun _ h => h)) HX1.out.kat ?_)
    | (go_at_call 18; refine (named_at HS1.out HN.out HT1.out x).mono ?_; rintro e w2 ⟨rfl, b2⟩; have HB2 := Lib.hid (HB1.out.trans (b2.mono HB1.out.size)); have HS2 := Lib.hid (HS1.out.below b2); have HT2 := Lib.hid (HT1.out.below b2); have HX2 := Lib.hid (HX1.out.keep b2); have HR2 := Lib.hid (HR1.out.keep b2); have HB3 := Lib.hid (HB2.out.alloc HB2.out.size (.cells ((named os x).getD oz).cells.toArray 56)); have HS3 := Lib.hid (HS2.out.alloc (.cells ((named os x).getD oz).cells.toArray 56)); have HT3 := Lib.hid (HT2.out.alloc (.cells ((named os x).getD oz).cells.toArray 56)); have HX3 := Lib.hid (HX2.out.alloc (.cells ((named os x).getD oz).cells.toArray 56)); have HR3 := Lib.hid (HR2.out.alloc (.cells ((named os x).getD oz).cells.toArray 56)); clear b2; have x1 := HX3.out.kat.2.1)
    | (show wpList _ _ _ (Oper.mk none (.store _ (.tmp 8) (.tmp 24)) _ _ _ _ :: _) _ _; refine wpList_store_last rfl (.tmp 8) (.tmp 24) rfl w2.heap.size rfl rfl ((named os x).getD oz) oz rfl ?_)
    | (go_at_call 52; refine (at_all HS3.out HN.out x.o).mono ?_; rintro e w4 ⟨rfl, b4⟩; have HB4 := Lib.hid (HB3.out.trans (b4.mono HB3.out.size)); have HS4 := Lib.hid (HS3.out.below b4); have HT4 := Lib.hid (HT3.out.below b4); have HX4 := Lib.hid (HX3.out.keep b4); have HR4 := Lib.hid (HR3.out.keep b4); have HB5 := Lib.hid (HB4.out.alloc HB4.out.size (.cells (jc (some ⟨p, 0, none⟩) x.o (objA os x.o)).toArray 93)); have HS5 := Lib.hid (HS4.out.alloc (.cells (jc (some ⟨p, 0, none⟩) x.o (objA os x.o)).toArray 93)); have HT5 := Lib.hid (HT4.out.alloc (.cells (jc (some ⟨p, 0, none⟩) x.o (objA os x.o)).toArray 93)); have HX5 := Lib.hid (HX4.out.alloc (.cells (jc (some ⟨p, 0, none⟩) x.o (objA os x.o)).toArray 93)); have HR5 := Lib.hid (HR4.out.alloc (.cells (jc (some ⟨p, 0, none⟩) x.o (objA os x.o)).toArray 93)); have HG5 := Lib.hid (NdB.own (Blk.new w4 93 (jc (some ⟨p, 0, none⟩) x.o (objA os x.o)).toArray)); clear b4 x1)
    | (show wpList _ _ _ (Oper.mk none (.store _ (.tmp 10) (.tmp 29)) _ _ _ _ :: _) _ _; refine wpList_store_new (l := jc (some ⟨p, 0, none⟩) x.o (objA os x.o)) (l0 := jc none 0 oz) (ty := 93) rfl (.tmp 10) (.tmp 29) (by rfl) w4.heap.size rfl (by rfl) (by rfl) (by rw [jc_len]; exact sizeJ) (by rw [jc_len, jc_len]) (jc_one _ _ _) ?_)
    | (go_at_call 53; refine (state_eq HG5.out HSS.out).mono ?_; rintro e w6 ⟨rfl, b6⟩; have HB6 := Lib.hid (HB5.out.trans (b6.mono HB5.out.size)); have HR6 := Lib.hid (HR5.out.keep b6); have HG6 := Lib.hid (HG5.out.below b6); clear b6))
  exact ⟨rfl, rfl, HB6.out⟩
set_option maxRecDepth 100000 in
set_option maxHeartbeats 2000000 in
theorem ct_s (h : StAt w base p A cap ps os) (hn : 0 < os.length) (hT : Tab w) (x : Ky) (hk : comB x.k = true) (hx : (named os x).isSome = true) (hs : stA os x.o = none) :
    Calls Tryd.prog 40 #[pv p, x.val] w fun e w' => e = .panicked (erc 231) ∧ Below w.heap.size w w' := by
  have hz := zJ
  have hz2 := z34
  have hl := jc_len none 0 oz
  have hol := oz_len
  have hlk := com_look
  have HN := Lib.hid hn
  have HB0 := Lib.hid (((Below.refl w.heap.size w).alloc (Nat.le_refl _) (.cells (kc x.k x.o x.c x.l x.r x.v) 33)).alloc (by simp) (.cells (jc none 0 oz).toArray 93))
  have HS0 := Lib.hid ((h.alloc (.cells (kc x.k x.o x.c x.l x.r x.v) 33)).alloc (.cells (jc none 0 oz).toArray 93))
  have HT0 := Lib.hid ((hT.alloc (.cells (kc x.k x.o x.c x.l x.r x.v) 33)).alloc (.cells (jc none 0 oz).toArray 93))
  have HX0 : Hid (Blk ((w.alloc (.cells (kc x.k x.o x.c x.l x.r x.v) 33)).alloc (.cells (jc none 0 oz).toArray 93)) w.heap.size 33 (kl x).toArray) := Lib.hid ((Blk.new w 33 (kl x).toArray).alloc (.cells (jc none 0 oz).toArray 93))
  have HR0 := Lib.hid (Blk.new_of (w.alloc (.cells (kc x.k x.o x.c x.l x.r x.v) 33)) 93 (jc none 0 oz).toArray (g := w.heap.size + 1) (by simp))
  have dk := hk
  have dx := hx
  clear hk hx
  have HSS := Lib.hid (show stN (objA os x.o) = _ from hs)
  clear hs
  have hnl := ((named os x).getD oz).len
  have hjl := jc_len (some ⟨p, 0, none⟩) x.o (objA os x.o)
  clear h hn hT
  go_enter Tryd.func40, Tryd.ntmps40
  go_wp2_with fail
  refine wp_region_only (S := fun w' => w'.cell? ⟨w.heap.size, 0, none⟩ = some (.int .i64 x.k)) (by kernel_rfl) (HX0.out.drew.cell 0) (fun hHeld => ?_)
  refine wpAnyH_take (i := 1) (v := ?v1) rfl (by kernel_rfl) (by kernel_rfl) (by kernel_rfl) (fun _ _ _ h => h) (Or.inl ⟨by rfl, ?hy1⟩) hHeld ?rest1
  case hy1 =>
    intro w' hSw
    try dsimp only at hSw
    go_simp
    first | done | with_reducible rfl
  try simp only [Act.put, zq1, zq2, zq3, zq4, zq5, zq6]
  refine wpAnyH_take (i := 2) (v := ?v2) rfl (by kernel_rfl) (by kernel_rfl) (by kernel_rfl) (fun _ _ _ h => h) (Or.inl ⟨by rfl, ?hy2⟩) hHeld ?rest2
  case hy2 =>
    intro w' hSw
    try dsimp only at hSw
    go_simp
    first | done | with_reducible rfl
  try simp only [Act.put, zq1, zq2, zq3, zq4, zq5, zq6]
  refine wpAnyH_ready (rs := [0]) (by kernel_rfl) (by simp) ?_
  refine AllReadyH.cons (by rfl) (fun K hK => ?_) AllReadyH.nil
  go_simp
  refine (cmmap_any _).mono ?_
  rintro e w1 ⟨rfl, hw1⟩
  have HMP := Lib.hid (show w1.heap[((w.alloc (.cells (kc x.k x.o x.c x.l x.r x.v) 33)).alloc (.cells (jc none 0 oz).toArray 93)).heap.size]? = some (.map cmE2 2) by subst hw1; exact heap_alloc_new _ _)
  have HB1 := Lib.hid (show Below w.heap.size w w1 by subst hw1; exact (below_drew HB0.out).alloc (below_drew HB0.out).size _)
  have HS1 := Lib.hid (show StAt w1 base p A cap ps os by subst hw1; exact HS0.out.drew.alloc _)
  have HT1 := Lib.hid (show Tab w1 by subst hw1; exact HT0.out.drew.alloc _)
  have HX1 := Lib.hid (show Blk w1 w.heap.size 33 (kl x).toArray by subst hw1; exact HX0.out.drew.alloc _)
  have HR1 := Lib.hid (show Blk w1 (w.heap.size + 1) 93 (jc none 0 oz).toArray by subst hw1; exact HR0.out.drew.alloc _)
  clear hw1 hHeld HB0 HS0 HT0 HX0 HR0
  go_wp2_with fail
  refine hK.out _ _ (HX1.out.cell 0) (fun hHeld => ?_)
  clear hK K
  try simp only [Act.put, zq1, zq3, zq4, zq5, zq6]
  refine wpAnyH_ready (rs := [3]) (by kernel_rfl) (by simp) ?_
  refine AllReadyH.cons (by rfl) (fun K hK => ?_) AllReadyH.nil
  have hlk2 := com_look w1 _ x.k HMP.out
  have hlk3 := hlk2; simp at hlk2
  go_simp
  refine hK.out _ _ (HX1.out.cell 0) (fun hHeld => ?_)
  clear hK K
  try simp only [Act.put, zq1, zq2, zq3, zq4, zq5, zq6]
  refine wpAnyH_take (i := 4) (v := ?v3) rfl (by kernel_rfl) (by kernel_rfl) (by kernel_rfl) (fun _ _ _ h => h) (Or.inl ⟨by rfl, ?hy3⟩) hHeld ?rest3
  case hy3 =>
    intro w' hSw
    try dsimp only at hSw
    go_simp
    first | done | with_reducible rfl
  try simp only [Act.put, zq1, zq2, zq3, zq4, zq5, zq6]
  refine wpAnyH_take (i := 5) (v := ?v4) rfl (by kernel_rfl) (by kernel_rfl) (by kernel_rfl) (fun _ _ _ h => h) (Or.inl ⟨by rfl, ?hy4⟩) hHeld ?rest4
  case hy4 =>
    intro w' hSw
    try dsimp only at hSw
    go_simp
    first | done | with_reducible rfl
  try simp only [Act.put, zq1, zq2, zq3, zq4, zq5, zq6]
  refine wpAnyH_take (i := 6) (v := ?v5) rfl (by kernel_rfl) (by kernel_rfl) (by kernel_rfl) (fun _ _ _ h => h) (Or.inl ⟨by rfl, ?hy5⟩) hHeld ?rest5
  case hy5 =>
    intro w' hSw
    try dsimp only at hSw
    go_simp
    first | done | with_reducible rfl
  try simp only [Act.put, zq1, zq2, zq3, zq4, zq5, zq6]
  refine wpAnyH_take (i := 7) (v := ?v6) rfl (by kernel_rfl) (by kernel_rfl) (by kernel_rfl) (fun _ _ _ h => h) (Or.inl ⟨by rfl, ?hy6⟩) hHeld ?rest6
  case hy6 =>
    intro w' hSw
    try dsimp only at hSw
    go_simp
    first | done | with_reducible rfl
  try simp only [Act.put, zq1, zq2, zq3, zq4, zq5, zq6]
  refine wpAnyH_take (i := 8) (v := ?v7) rfl (by kernel_rfl) (by kernel_rfl) (by kernel_rfl) (fun _ _ _ h => h) (Or.inl ⟨by rfl, ?hy7⟩) hHeld ?rest7
  case hy7 =>
    intro w' hSw
    try dsimp only at hSw
    go_simp
    first | done | with_reducible rfl
  try simp only [Act.put, zq1, zq2, zq3, zq4, zq5, zq6]
  refine wpAnyH_done (by kernel_rfl) ?_ _
  refine OnlyN.normal ?_
  clear hHeld
  go_wp2_with (first
    | (show wpList _ _ _ (Oper.mk (some 22) (.load _ _) _ _ _ _ :: _) _ _; refine wpList_yields (S := fun w' => KeyAt w' w.heap.size 0 x) (y_kyJ (by rfl) (.tmp 3) (by rfl) w.heap.size 0 (by rfl) x (fun _ h => h)) HX1.out.kat ?_)
    | (go_at_call 18; refine (named_at HS1.out HN.out HT1.out x).mono ?_; rintro e w2 ⟨rfl, b2⟩; have HB2 := Lib.hid (HB1.out.trans (b2.mono HB1.out.size)); have HS2 := Lib.hid (HS1.out.below b2); have HT2 := Lib.hid (HT1.out.below b2); have HX2 := Lib.hid (HX1.out.keep b2); have HR2 := Lib.hid (HR1.out.keep b2); have HB3 := Lib.hid (HB2.out.alloc HB2.out.size (.cells ((named os x).getD oz).cells.toArray 56)); have HS3 := Lib.hid (HS2.out.alloc (.cells ((named os x).getD oz).cells.toArray 56)); have HT3 := Lib.hid (HT2.out.alloc (.cells ((named os x).getD oz).cells.toArray 56)); have HX3 := Lib.hid (HX2.out.alloc (.cells ((named os x).getD oz).cells.toArray 56)); have HR3 := Lib.hid (HR2.out.alloc (.cells ((named os x).getD oz).cells.toArray 56)); clear b2; have x1 := HX3.out.kat.2.1)
    | (show wpList _ _ _ (Oper.mk none (.store _ (.tmp 8) (.tmp 24)) _ _ _ _ :: _) _ _; refine wpList_store_last rfl (.tmp 8) (.tmp 24) rfl w2.heap.size rfl rfl ((named os x).getD oz) oz rfl ?_)
    | (go_at_call 52; refine (at_all HS3.out HN.out x.o).mono ?_; rintro e w4 ⟨rfl, b4⟩; have HB4 := Lib.hid (HB3.out.trans (b4.mono HB3.out.size)); have HS4 := Lib.hid (HS3.out.below b4); have HT4 := Lib.hid (HT3.out.below b4); have HX4 := Lib.hid (HX3.out.keep b4); have HR4 := Lib.hid (HR3.out.keep b4); have HB5 := Lib.hid (HB4.out.alloc HB4.out.size (.cells (jc (some ⟨p, 0, none⟩) x.o (objA os x.o)).toArray 93)); have HS5 := Lib.hid (HS4.out.alloc (.cells (jc (some ⟨p, 0, none⟩) x.o (objA os x.o)).toArray 93)); have HT5 := Lib.hid (HT4.out.alloc (.cells (jc (some ⟨p, 0, none⟩) x.o (objA os x.o)).toArray 93)); have HX5 := Lib.hid (HX4.out.alloc (.cells (jc (some ⟨p, 0, none⟩) x.o (objA os x.o)).toArray 93)); have HR5 := Lib.hid (HR4.out.alloc (.cells (jc (some ⟨p, 0, none⟩) x.o (objA os x.o)).toArray 93)); have HG5 := Lib.hid (NdB.own (Blk.new w4 93 (jc (some ⟨p, 0, none⟩) x.o (objA os x.o)).toArray)); clear b4 x1)
    | (show wpList _ _ _ (Oper.mk none (.store _ (.tmp 10) (.tmp 29)) _ _ _ _ :: _) _ _; refine wpList_store_new (l := jc (some ⟨p, 0, none⟩) x.o (objA os x.o)) (l0 := jc none 0 oz) (ty := 93) rfl (.tmp 10) (.tmp 29) (by rfl) w4.heap.size rfl (by rfl) (by rfl) (by rw [jc_len]; exact sizeJ) (by rw [jc_len, jc_len]) (jc_one _ _ _) ?_)
    | (go_at_call 53; refine (state_eq HG5.out HSS.out).mono ?_; rintro e w6 ⟨rfl, b6⟩; have HB6 := Lib.hid (HB5.out.trans (b6.mono HB5.out.size)); have HR6 := Lib.hid (HR5.out.keep b6); have HG6 := Lib.hid (HG5.out.below b6); clear b6))
  exact ⟨rfl, rfl, HB6.out⟩
set_option maxRecDepth 100000 in
set_option maxHeartbeats 2000000 in
theorem ct_y (h : StAt w base p A cap ps os) (hn : 0 < os.length) (hT : Tab w) (x : Ky) (v : Int) (hk : comB x.k = true) (hx : (named os x).isSome = true) (hs : stA os x.o = some v) :
    Calls Tryd.prog 40 #[pv p, x.val] w fun e w' => e = .returned (.tuple #[jv (some ⟨p, 0, none⟩) x.o (objA os x.o), comV x.k]) ∧ Below w.heap.size w w' := by
  have hz := zJ
  have hz2 := z34
  have hl := jc_len none 0 oz
  have hol := oz_len
  have hlk := com_look
  have HN := Lib.hid hn
  have HB0 := Lib.hid (((Below.refl w.heap.size w).alloc (Nat.le_refl _) (.cells (kc x.k x.o x.c x.l x.r x.v) 33)).alloc (by simp) (.cells (jc none 0 oz).toArray 93))
  have HS0 := Lib.hid ((h.alloc (.cells (kc x.k x.o x.c x.l x.r x.v) 33)).alloc (.cells (jc none 0 oz).toArray 93))
  have HT0 := Lib.hid ((hT.alloc (.cells (kc x.k x.o x.c x.l x.r x.v) 33)).alloc (.cells (jc none 0 oz).toArray 93))
  have HX0 : Hid (Blk ((w.alloc (.cells (kc x.k x.o x.c x.l x.r x.v) 33)).alloc (.cells (jc none 0 oz).toArray 93)) w.heap.size 33 (kl x).toArray) := Lib.hid ((Blk.new w 33 (kl x).toArray).alloc (.cells (jc none 0 oz).toArray 93))
  have HR0 := Lib.hid (Blk.new_of (w.alloc (.cells (kc x.k x.o x.c x.l x.r x.v) 33)) 93 (jc none 0 oz).toArray (g := w.heap.size + 1) (by simp))
  have dk := hk
  have dx := hx
  clear hk hx
  have HSS := Lib.hid (show stN (objA os x.o) = _ from hs)
  clear hs
  have hnl := ((named os x).getD oz).len
  have hjl := jc_len (some ⟨p, 0, none⟩) x.o (objA os x.o)
  clear h hn hT
  go_enter Tryd.func40, Tryd.ntmps40
  go_wp2_with fail
  refine wp_region_only (S := fun w' => w'.cell? ⟨w.heap.size, 0, none⟩ = some (.int .i64 x.k)) (by kernel_rfl) (HX0.out.drew.cell 0) (fun hHeld => ?_)
  refine wpAnyH_take (i := 1) (v := ?v1) rfl (by kernel_rfl) (by kernel_rfl) (by kernel_rfl) (fun _ _ _ h => h) (Or.inl ⟨by rfl, ?hy1⟩) hHeld ?rest1
  case hy1 =>
    intro w' hSw
    try dsimp only at hSw
    go_simp
    first | done | with_reducible rfl
  try simp only [Act.put, zq1, zq2, zq3, zq4, zq5, zq6]
  refine wpAnyH_take (i := 2) (v := ?v2) rfl (by kernel_rfl) (by kernel_rfl) (by kernel_rfl) (fun _ _ _ h => h) (Or.inl ⟨by rfl, ?hy2⟩) hHeld ?rest2
  case hy2 =>
    intro w' hSw
    try dsimp only at hSw
    go_simp
    first | done | with_reducible rfl
  try simp only [Act.put, zq1, zq2, zq3, zq4, zq5, zq6]
  refine wpAnyH_ready (rs := [0]) (by kernel_rfl) (by simp) ?_
  refine AllReadyH.cons (by rfl) (fun K hK => ?_) AllReadyH.nil
  go_simp
  refine (cmmap_any _).mono ?_
  rintro e w1 ⟨rfl, hw1⟩
  have HMP := Lib.hid (show w1.heap[((w.alloc (.cells (kc x.k x.o x.c x.l x.r x.v) 33)).alloc (.cells (jc none 0 oz).toArray 93)).heap.size]? = some (.map cmE2 2) by subst hw1; exact heap_alloc_new _ _)
  have HB1 := Lib.hid (show Below w.heap.size w w1 by subst hw1; exact (below_drew HB0.out).alloc (below_drew HB0.out).size _)
  have HS1 := Lib.hid (show StAt w1 base p A cap ps os by subst hw1; exact HS0.out.drew.alloc _)
  have HT1 := Lib.hid (show Tab w1 by subst hw1; exact HT0.out.drew.alloc _)
  have HX1 := Lib.hid (show Blk w1 w.heap.size 33 (kl x).toArray by subst hw1; exact HX0.out.drew.alloc _)
  have HR1 := Lib.hid (show Blk w1 (w.heap.size + 1) 93 (jc none 0 oz).toArray by subst hw1; exact HR0.out.drew.alloc _)
  clear hw1 hHeld HB0 HS0 HT0 HX0 HR0
  go_wp2_with fail
  refine hK.out _ _ (HX1.out.cell 0) (fun hHeld => ?_)
  clear hK K
  try simp only [Act.put, zq1, zq3, zq4, zq5, zq6]
  refine wpAnyH_ready (rs := [3]) (by kernel_rfl) (by simp) ?_
  refine AllReadyH.cons (by rfl) (fun K hK => ?_) AllReadyH.nil
  have hlk2 := com_look w1 _ x.k HMP.out
  have hlk3 := hlk2; simp at hlk2
  go_simp
  refine hK.out _ _ (HX1.out.cell 0) (fun hHeld => ?_)
  clear hK K
  try simp only [Act.put, zq1, zq2, zq3, zq4, zq5, zq6]
  refine wpAnyH_take (i := 4) (v := ?v3) rfl (by kernel_rfl) (by kernel_rfl) (by kernel_rfl) (fun _ _ _ h => h) (Or.inl ⟨by rfl, ?hy3⟩) hHeld ?rest3
  case hy3 =>
    intro w' hSw
    try dsimp only at hSw
    go_simp
    first | done | with_reducible rfl
  try simp only [Act.put, zq1, zq2, zq3, zq4, zq5, zq6]
  refine wpAnyH_take (i := 5) (v := ?v4) rfl (by kernel_rfl) (by kernel_rfl) (by kernel_rfl) (fun _ _ _ h => h) (Or.inl ⟨by rfl, ?hy4⟩) hHeld ?rest4
  case hy4 =>
    intro w' hSw
    try dsimp only at hSw
    go_simp
    first | done | with_reducible rfl
  try simp only [Act.put, zq1, zq2, zq3, zq4, zq5, zq6]
  refine wpAnyH_take (i := 6) (v := ?v5) rfl (by kernel_rfl) (by kernel_rfl) (by kernel_rfl) (fun _ _ _ h => h) (Or.inl ⟨by rfl, ?hy5⟩) hHeld ?rest5
  case hy5 =>
    intro w' hSw
    try dsimp only at hSw
    go_simp
    first | done | with_reducible rfl
  try simp only [Act.put, zq1, zq2, zq3, zq4, zq5, zq6]
  refine wpAnyH_take (i := 7) (v := ?v6) rfl (by kernel_rfl) (by kernel_rfl) (by kernel_rfl) (fun _ _ _ h => h) (Or.inl ⟨by rfl, ?hy6⟩) hHeld ?rest6
  case hy6 =>
    intro w' hSw
    try dsimp only at hSw
    go_simp
    first | done | with_reducible rfl
  try simp only [Act.put, zq1, zq2, zq3, zq4, zq5, zq6]
  refine wpAnyH_take (i := 8) (v := ?v7) rfl (by kernel_rfl) (by kernel_rfl) (by kernel_rfl) (fun _ _ _ h => h) (Or.inl ⟨by rfl, ?hy7⟩) hHeld ?rest7
  case hy7 =>
    intro w' hSw
    try dsimp only at hSw
    go_simp
    first | done | with_reducible rfl
  try simp only [Act.put, zq1, zq2, zq3, zq4, zq5, zq6]
  refine wpAnyH_done (by kernel_rfl) ?_ _
  refine OnlyN.normal ?_
  clear hHeld
  go_wp2_with (first
    | (show wpList _ _ _ (Oper.mk (some 22) (.load _ _) _ _ _ _ :: _) _ _; refine wpList_yields (S := fun w' => KeyAt w' w.heap.size 0 x) (y_kyJ (by rfl) (.tmp 3) (by rfl) w.heap.size 0 (by rfl) x (fun _ h => h)) HX1.out.kat ?_)
    | (go_at_call 18; refine (named_at HS1.out HN.out HT1.out x).mono ?_; rintro e w2 ⟨rfl, b2⟩; have HB2 := Lib.hid (HB1.out.trans (b2.mono HB1.out.size)); have HS2 := Lib.hid (HS1.out.below b2); have HT2 := Lib.hid (HT1.out.below b2); have HX2 := Lib.hid (HX1.out.keep b2); have HR2 := Lib.hid (HR1.out.keep b2); have HB3 := Lib.hid (HB2.out.alloc HB2.out.size (.cells ((named os x).getD oz).cells.toArray 56)); have HS3 := Lib.hid (HS2.out.alloc (.cells ((named os x).getD oz).cells.toArray 56)); have HT3 := Lib.hid (HT2.out.alloc (.cells ((named os x).getD oz).cells.toArray 56)); have HX3 := Lib.hid (HX2.out.alloc (.cells ((named os x).getD oz).cells.toArray 56)); have HR3 := Lib.hid (HR2.out.alloc (.cells ((named os x).getD oz).cells.toArray 56)); clear b2; have x1 := HX3.out.kat.2.1)
    | (show wpList _ _ _ (Oper.mk none (.store _ (.tmp 8) (.tmp 24)) _ _ _ _ :: _) _ _; refine wpList_store_last rfl (.tmp 8) (.tmp 24) rfl w2.heap.size rfl rfl ((named os x).getD oz) oz rfl ?_)
    | (go_at_call 52; refine (at_all HS3.out HN.out x.o).mono ?_; rintro e w4 ⟨rfl, b4⟩; have HB4 := Lib.hid (HB3.out.trans (b4.mono HB3.out.size)); have HS4 := Lib.hid (HS3.out.below b4); have HT4 := Lib.hid (HT3.out.below b4); have HX4 := Lib.hid (HX3.out.keep b4); have HR4 := Lib.hid (HR3.out.keep b4); have HB5 := Lib.hid (HB4.out.alloc HB4.out.size (.cells (jc (some ⟨p, 0, none⟩) x.o (objA os x.o)).toArray 93)); have HS5 := Lib.hid (HS4.out.alloc (.cells (jc (some ⟨p, 0, none⟩) x.o (objA os x.o)).toArray 93)); have HT5 := Lib.hid (HT4.out.alloc (.cells (jc (some ⟨p, 0, none⟩) x.o (objA os x.o)).toArray 93)); have HX5 := Lib.hid (HX4.out.alloc (.cells (jc (some ⟨p, 0, none⟩) x.o (objA os x.o)).toArray 93)); have HR5 := Lib.hid (HR4.out.alloc (.cells (jc (some ⟨p, 0, none⟩) x.o (objA os x.o)).toArray 93)); have HG5 := Lib.hid (NdB.own (Blk.new w4 93 (jc (some ⟨p, 0, none⟩) x.o (objA os x.o)).toArray)); clear b4 x1)
    | (show wpList _ _ _ (Oper.mk none (.store _ (.tmp 10) (.tmp 29)) _ _ _ _ :: _) _ _; refine wpList_store_new (l := jc (some ⟨p, 0, none⟩) x.o (objA os x.o)) (l0 := jc none 0 oz) (ty := 93) rfl (.tmp 10) (.tmp 29) (by rfl) w4.heap.size rfl (by rfl) (by rfl) (by rw [jc_len]; exact sizeJ) (by rw [jc_len, jc_len]) (jc_one _ _ _) ?_)
    | (go_at_call 53; refine (state_eq HG5.out HSS.out).mono ?_; rintro e w6 ⟨rfl, b6⟩; have HB6 := Lib.hid (HB5.out.trans (b6.mono HB5.out.size)); have HR6 := Lib.hid (HR5.out.keep b6); have HG6 := Lib.hid (HG5.out.below b6); clear b6)
    | (show wpList _ _ _ (Oper.mk (some 45) (.load _ _) _ _ _ _ :: _) _ _; refine wpList_yields (S := fun w' => JAt w' w4.heap.size 0 (some ⟨p, 0, none⟩) x.o (objA os x.o)) (y_nd (by rfl) (.tmp 10) (by rfl) w4.heap.size 0 (by rfl) (some ⟨p, 0, none⟩) x.o (objA os x.o) (fun _ h => h)) HG6.out.at_ ?_)
    | (show wpList _ _ _ (Oper.mk none (.store _ (.tmp 4) (.tmp 45)) _ _ _ _ :: _) _ _; refine wpList_store_big (l0 := jc none 0 oz) (l := jc (some ⟨p, 0, none⟩) x.o (objA os x.o)) HR6.out rfl (.tmp 4) (.tmp 45) (ty := 93) rfl (by rfl) (by rfl) (by rw [jc_len]; exact sizeJ) (by rw [jc_len, jc_len]) (jc_one _ _ _) ?_))
  exact bodyPost_ret (res_1t rfl _ _ (w.heap.size + 1) _ _ rfl rfl (load_nd _ x.o _ (HR6.out.setRow _))) rfl ⟨rfl, below_setRow HB6.out (by omega) _⟩
end
end Go.Proofs.YtljfddeolapeaaaDoor

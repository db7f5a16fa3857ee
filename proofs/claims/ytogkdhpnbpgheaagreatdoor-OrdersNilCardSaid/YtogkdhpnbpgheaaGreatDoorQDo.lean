/- orders: Do, whatever comes of it. -/
import Derived.Test.YtogkdhpnbpgheaaGreatDoorQD1
namespace Go.Proofs.YtogkdhpnbpgheaaGreatDoor
open Go.RowKit
theorem rf_at {w w2 : World} {b : Nat} {P : Value} {now : Int} {x : Ky} {l : List Value} (h : Dw w b P now x l) (hf : Fr (fun _ => False) w w2) : ∀ w3, Below w2.heap.size w2 w3 → Calls Tryz.prog 28 #[.int .i64 240, .pointer (some ⟨b + 4, 0, none⟩)] w3 fun e w' => ∃ v, e = .panicked v ∧ (v = rfd ∧ Blk w' (b + 4) 36 (mzc 240).toArray ∧ Fr (fun k => k = b + 4) w w') := fun w3 b3 => by
  have f3 := hf.below b3
  have ha : Blk w3 (b + 4) 36 (mzc 0).toArray := (f3.block _ h.ans.lt (fun q => q)).trans h.ans
  refine (rf_any ha (mzc_len 0) 240).mono ?_
  rintro e w' ⟨rfl, h4, f4⟩
  exact ⟨_, rfl, rfl, h4, (f3.mono (fun _ _ q => absurd q (fun q => q)) : Fr (fun k => k = b + 4) w w3).trans f4⟩
set_option maxRecDepth 100000 in
set_option maxHeartbeats 2000000 in
theorem d1_told {w : World} {base p b : Nat} {A : Option Addr} {cap : Nat} {ps : List Nat} {os : List Oj} (hs : StAt w base p A cap ps os) (hn : 0 < os.length) (hT : Tab w) (h : Dw w b (pv p) 0 nk (mzc 2)) : Calls Tryz.prog 26 #[.pointer (some ⟨b, 0, none⟩), .pointer (some ⟨b + 1, 0, none⟩), .pointer (some ⟨b + 2, 0, none⟩), .pointer (some ⟨b + 3, 0, none⟩), .pointer (some ⟨b + 4, 0, none⟩), .pointer (some ⟨b + 5, 0, none⟩)] w fun e w' => e = .panicked rfd ∧ Blk w' (b + 4) 36 (mzc 240).toArray ∧ Fr (fun k => k = b + 4) w w' := by
  have s0 := h.st.cell 0
  have n0 := h.now.cell 0
  obtain ⟨c0, c1, c2, c3, c4, c5⟩ := h.key.six
  have HD := Lib.hid h
  have HS := Lib.hid hs
  have HN := Lib.hid hn
  have HT := Lib.hid hT
  have hmf : ∀ (fn : Fn) (first cap : Array Value) (w : World), (Instr.makeFunc fn first cap).run Tryz.prog w = .ok (.func fn first cap) w := fun _ _ _ _ => rfl
  clear h hs hn hT
  go_enter Tryz.func26, Tryz.ntmps26
  go_wp2_with (first
    | ((with_reducible show wpList _ _ _ ({ dst := some 10, op := .load _ _, type := _, pos := _, after := _, guard := _ } :: _) _ _); refine wpList_yields (S := fun w' => w'.rangeAt (b + 3) 0 (mzc 2)) (oy_mgl (by rfl) (.tmp 3) (by rfl) (b + 3) 0 (by rfl) (mzc 2) rfl (fun _ h => h)) HD.out.msg.range ?_)
    | (go_at_call 27; refine (oask_y HS.out HN.out HT.out 2).mono ?_; rintro e w1 ⟨g, rfl, hg, ho, b1⟩; have HG := Lib.hid hg; have HO1 := Lib.hid ho; have HB1 := Lib.hid b1; have hc49 : w1.cell? ⟨g, 49, none⟩ = some .nilFunc := HO1.out.cell 49; have hz49 : w1.frozen? ⟨g, 49, none⟩ = false := HO1.out.frozen 49; have hst := ostore Tryz.prog ⟨g, 49, none⟩ w1 .nilFunc (.func 28) #[] #[.pointer (some ⟨b + 4, 0, none⟩)] hc49 hz49; have HO2 := Lib.hid (show Blk (w1.setCell ⟨g, 49, none⟩ (.func (.func 28) #[] #[.pointer (some ⟨b + 4, 0, none⟩)])) g 79 (ordF p b 2).toArray from ordF_set p b 2 ▸ HO1.out.set_ 49 (.func (.func 28) #[] #[.pointer (some ⟨b + 4, 0, none⟩)])); have HF2 := Lib.hid ((Fr.of_below HB1.out : Fr (fun _ => False) w w1).setCell (p := ⟨g, 49, none⟩) (fun q => absurd (show g < w.heap.size from q) (by have := HG.out; omega)) (.func (.func 28) #[] #[.pointer (some ⟨b + 4, 0, none⟩)])); clear hg ho b1 c0 c1 c2 c3 c4 c5 s0 n0)
    | (go_at_call 29; refine (dg_no (ga := b + 4) HO2.out rfl rfl rfl rfl (rf_at HD.out HF2.out)).mono ?_; rintro e w3 ⟨v, rfl, rfl, h4, f4⟩; have H4 := Lib.hid h4; have F4 := Lib.hid f4; clear h4 f4))
  exact ⟨rfl, rfl, H4.out, F4.out⟩
set_option maxRecDepth 8000 in
theorem res_cct {P : Program} {fn : Func} {p q r : Tmp} {t u : TypeId} (h : fn.results = #[.cell p t, .cell q u, .tmp r]) (tmps : Array Value) (w : World) (g k : Nat) (v x y : Value) (hp : tmps.getD p undef = .pointer (some ⟨g, 0, none⟩)) (hq : tmps.getD q undef = .pointer (some ⟨k, 0, none⟩)) (hr : tmps.getD r undef = y) (hl : (loadVar t ⟨g, 0, none⟩).run P w = .ok v w) (hm : (loadVar u ⟨k, 0, none⟩).run P w = .ok x w) : (results fn tmps).run P w = .ok (.tuple #[v, x, y]) w := by
  have hp' : tmps[p]?.getD undef = .pointer (some ⟨g, 0, none⟩) := by simpa using hp
  have hq' : tmps[q]?.getD undef = .pointer (some ⟨k, 0, none⟩) := by simpa using hq
  have hr' : tmps[r]?.getD undef = y := by simpa using hr
  simp [results, h, hp', hq', hr', asAddr, hl, hm]
set_option maxRecDepth 8000 in
theorem zeroMg : (Tryz.prog.info? 36).map (fun i => (i.zero, i.size)) = some (some (.agg (mzc 0).toArray), 20) := by kernel_rfl
theorem zMg (w : World) : (zeroValue 36).run Tryz.prog w = .ok (.agg (mzc 0).toArray) w := (zero_of_info zeroMg).1 w
theorem load_mgl {w : World} {g : Nat} {t : TypeId} {l : List Value} (hl : l.length = 20) (h : Blk w g t l.toArray) : (loadVar 36 ⟨g, 0, none⟩).run Tryz.prog w = .ok (.agg l.toArray) w :=
  run_loadVar_row w g t 36 l.toArray (0, 0) _ h Tryz.underlying36 rfl (by rw [List.size_toArray, hl]; exact sizeMg)
set_option maxRecDepth 8000 in
theorem load_bl {w : World} {g : Nat} {t : TypeId} {v : Bool} (h : Blk w g t #[.bool v]) : (loadVar 4 ⟨g, 0, none⟩).run Tryz.prog w = .ok (.bool v) w := by
  have hc : w.cell? ⟨g, 0, none⟩ = some (.bool v) := by simpa using h.cell 0
  simp [go_sem, hc]
set_option maxRecDepth 100000 in
set_option maxHeartbeats 2000000 in
theorem do_gen {w : World} (r : Option Addr) (now : Int) (x : Ky) (l : List Value) (n : Int) (cs : List Value) (hc : cs.length = 20) (hc1 : ∀ u ∈ cs, u.oneCell' = true)
    (hf : ∀ W, Dw W w.heap.size (.pointer r) now x l → Below w.heap.size w W → W.heap.size = w.heap.size + 6 → Calls Tryz.prog 25 #[.func (.func 26) #[] #[.pointer (some ⟨w.heap.size, 0, none⟩), .pointer (some ⟨w.heap.size + 1, 0, none⟩), .pointer (some ⟨w.heap.size + 2, 0, none⟩), .pointer (some ⟨w.heap.size + 3, 0, none⟩), .pointer (some ⟨w.heap.size + 4, 0, none⟩), .pointer (some ⟨w.heap.size + 5, 0, none⟩)]] W fun e w' => e = .returned (.int .i64 n) ∧ Blk w' (w.heap.size + 4) 36 cs.toArray ∧ Blk w' (w.heap.size + 5) 4 #[.bool false] ∧ Below w.heap.size w w') :
    Calls Tryz.prog 15 #[.pointer r, .int .i64 now, x.val, .agg l.toArray] w fun e w' => e = .returned (.tuple #[.agg cs.toArray, .bool false, .int .i64 n]) ∧ Below w.heap.size w w' := by
  have HC := Lib.hid hc
  have HC1 := Lib.hid hc1
  have hz := zMg
  have HFC := Lib.hid (hf ((((((w.alloc (.cells #[.pointer r] 24)).alloc (.cells #[.int .i64 now] 2)).alloc (.cells (kc x.k x.o x.c x.l x.r x.v) 33)).alloc (.cells l.toArray 36)).alloc (.cells (mzc 0).toArray 36)).alloc (.cells #[.bool false] 4)) ⟨((((((Blk.new w 24 #[.pointer r]).alloc (.cells #[.int .i64 now] 2)).alloc (.cells (kc x.k x.o x.c x.l x.r x.v) 33)).alloc (.cells l.toArray 36)).alloc (.cells (mzc 0).toArray 36)).alloc (.cells #[.bool false] 4)), (((((Blk.new_of _ 2 #[.int .i64 now] (g := w.heap.size + 1) (by simp)).alloc (.cells (kc x.k x.o x.c x.l x.r x.v) 33)).alloc (.cells l.toArray 36)).alloc (.cells (mzc 0).toArray 36)).alloc (.cells #[.bool false] 4)), ((((Blk.new_of _ 33 (kc x.k x.o x.c x.l x.r x.v) (g := w.heap.size + 2) (by simp)).alloc (.cells l.toArray 36)).alloc (.cells (mzc 0).toArray 36)).alloc (.cells #[.bool false] 4)), (((Blk.new_of _ 36 l.toArray (g := w.heap.size + 3) (by simp)).alloc (.cells (mzc 0).toArray 36)).alloc (.cells #[.bool false] 4)), ((Blk.new_of _ 36 (mzc 0).toArray (g := w.heap.size + 4) (by simp)).alloc (.cells #[.bool false] 4)), (Blk.new_of _ 4 #[.bool false] (g := w.heap.size + 5) (by simp))⟩ (((((((Below.refl w.heap.size w).alloc (by simp <;> omega) (.cells #[.pointer r] 24)).alloc (by simp <;> omega) (.cells #[.int .i64 now] 2)).alloc (by simp <;> omega) (.cells (kc x.k x.o x.c x.l x.r x.v) 33)).alloc (by simp <;> omega) (.cells l.toArray 36)).alloc (by simp <;> omega) (.cells (mzc 0).toArray 36)).alloc (by simp <;> omega) (.cells #[.bool false] 4)) (by simp))
  have hmf : ∀ (fn : Fn) (first cap : Array Value) (w : World), (Instr.makeFunc fn first cap).run Tryz.prog w = .ok (.func fn first cap) w := fun _ _ _ _ => rfl
  clear hf hc hc1
  go_enter Tryz.func15, Tryz.ntmps15
  go_wp2_with (go_at_call 25; refine HFC.out.mono ?_; rintro e w1 ⟨rfl, h1, h2, b1⟩; have HA1 := Lib.hid h1; have HW1 := Lib.hid h2; have HB1 := Lib.hid b1; clear h1 h2 b1)
  refine wp_region_only (S := fun w' => w'.rangeAt (w.heap.size + 4) 0 cs ∧ w'.cell? ⟨w.heap.size + 5, 0, none⟩ = some (.bool false)) (by kernel_rfl) ⟨HA1.out.drew.range, HW1.out.drew.cell 0⟩ (fun hHeld => ?_)
  refine wpAnyH_take (i := 0) rfl (by kernel_rfl) (by kernel_rfl) (by kernel_rfl) (fun _ _ _ h => h) (oy_mgl (by rfl) (.tmp 8) (by rfl) (w.heap.size + 4) 0 (by rfl) cs HC.out (fun _ h => h.1)) hHeld ?_
  try simp only [Act.put, List.getElem_toArray, List.getElem_cons_zero, List.setIfInBounds_toArray, List.set_cons_zero, List.set_cons_succ]
  refine wpAnyH_take (i := 1) (v := ?v1) rfl (by kernel_rfl) (by kernel_rfl) (by kernel_rfl) (fun _ _ _ h => h) (Or.inl ⟨by rfl, ?hy1⟩) hHeld ?rest1
  case hy1 =>
    intro w' hSw
    try dsimp only at hSw
    go_simp
    first | done | with_reducible rfl
  try simp only [Act.put, List.getElem_toArray, List.getElem_cons_succ, List.getElem_cons_zero, List.setIfInBounds_toArray, List.set_cons_zero, List.set_cons_succ]
  refine wpAnyH_take (i := 2) (v := ?v2) rfl (by kernel_rfl) (by kernel_rfl) (by kernel_rfl) (fun _ _ _ h => h) (Or.inl ⟨by rfl, ?hy2⟩) hHeld ?rest2
  case hy2 =>
    intro w' hSw
    try dsimp only at hSw
    go_simp
    first | done | with_reducible rfl
  try simp only [Act.put, List.getElem_toArray, List.getElem_cons_succ, List.getElem_cons_zero, List.setIfInBounds_toArray, List.set_cons_zero, List.set_cons_succ]
  refine wpAnyH_ready (rs := [3]) (by kernel_rfl) (by simp) ?_
  refine AllReadyH.cons (by rfl) (fun K hK => ?_) AllReadyH.nil
  refine step_store_big HA1.out.drew rfl (.tmp 8) (.tmp 13) (ty := 36) (l := cs) (l0 := cs) (by rfl) (by rfl) (by rfl) (by rw [HC.out]; exact sizeMg) rfl HC1.out ?_
  have HA2 := Lib.hid (HA1.out.drew.setRow cs.toArray)
  have HW2 := Lib.hid (show Blk (w1.drew.setRow (w.heap.size + 4) cs.toArray) (w.heap.size + 5) 4 _ from Blk.row_far HW1.out.drew (by omega) cs.toArray)
  have HB2 := Lib.hid (below_setRow (below_drew HB1.out) (by omega) cs.toArray : Below w.heap.size w (w1.drew.setRow (w.heap.size + 4) cs.toArray))
  refine hK.out _ _ ⟨HA2.out.range, HW2.out.cell 0⟩ (fun hHeld => ?_)
  clear hK K
  try simp only [Act.put, List.getElem_toArray, List.getElem_cons_succ, List.getElem_cons_zero]
  refine wpAnyH_ready (rs := [4]) (by kernel_rfl) (by simp) ?_
  refine AllReadyH.cons (by rfl) (fun K hK => ?_) AllReadyH.nil
  refine ostep_bool HW2.out rfl (.tmp 9) (.tmp 14) (by rfl) (by rfl) (by rfl) ?_
  have HA3 := Lib.hid (HA2.out.far (p := ⟨w.heap.size + 5, 0, none⟩) (by simp) (.bool false))
  have HW3 := Lib.hid (HW2.out.set_ 0 (.bool false))
  have HB3 := Lib.hid (Below.setCell HB2.out (p := ⟨w.heap.size + 5, 0, none⟩) (by simp) (.bool false))
  refine hK.out _ _ ⟨HA3.out.range, HW3.out.cell 0⟩ (fun hHeld => ?_)
  clear hK K
  try simp only [Act.put, List.getElem_toArray, List.getElem_cons_succ, List.getElem_cons_zero]
  refine wpAnyH_take (i := 5) (v := ?v3) rfl (by kernel_rfl) (by kernel_rfl) (by kernel_rfl) (fun _ _ _ h => h) (Or.inl ⟨by rfl, ?hy3⟩) hHeld ?rest3
  case hy3 =>
    intro w' hSw
    try dsimp only at hSw
    go_simp
    first | done | with_reducible rfl
  try simp only [Act.put, List.getElem_toArray, List.getElem_cons_succ, List.getElem_cons_zero, List.setIfInBounds_toArray, List.set_cons_zero, List.set_cons_succ]
  refine wpAnyH_done (by kernel_rfl) ?_ _
  refine OnlyN.normal ?_
  clear hHeld
  go_wp2_with fail
  exact bodyPost_ret (res_cct rfl _ _ (w.heap.size + 4) (w.heap.size + 5) _ (.bool false) _ rfl rfl rfl (load_mgl HC.out HA3.out) (load_bl HW3.out)) rfl ⟨rfl, HB3.out⟩
theorem Dw.keep {w w' : World} {b : Nat} {P : Value} {now : Int} {x : Ky} {l : List Value} (h : Dw w b P now x l) (hb : Below w.heap.size w w') : Dw w' b P now x l := ⟨h.st.keep hb, h.now.keep hb, h.key.keep hb, h.msg.keep hb, h.ans.keep hb, h.wan.keep hb⟩
/-- what Do answers, as it lies -/
def Xw (b : Nat) (cs : List Value) (w : World) : Prop := Blk w (b + 4) 36 cs.toArray ∧ Blk w (b + 5) 4 #[.bool false]
theorem Xw.far {w : World} {b g : Nat} {cs : List Value} (h : Xw b cs w) (hg : b + 5 < g) (v : Value) : Xw b cs (w.setCell ⟨g, 0, none⟩ v) := ⟨h.1.far (by simp; omega) v, h.2.far (by simp; omega) v⟩
set_option maxRecDepth 8000 in
/-- without a store nothing is done -/
theorem do_nil {w : World} (now : Int) (x : Ky) (l : List Value) (hl : l.length = 20) : Calls Tryz.prog 15 #[.pointer none, .int .i64 now, x.val, .agg l.toArray] w fun e w' => e = .returned (.tuple #[.agg (mzc 0).toArray, .bool false, .int .i64 1]) ∧ Below w.heap.size w w' := by
  refine do_gen none now x l 1 (mzc 0) rfl (mzc_one 0) (fun W hD hB hs => ?_)
  refine (oface_no _ _ _ _ _ _ (Xw w.heap.size (mzc 0)) (fun W' v h => h.far (by omega) v) (fun _ => False) (fun _ q => q.elim) 1 (fun W' b' => ?_)).mono ?_
  · refine (d1_nil (hD.keep b') hl).mono ?_
    rintro e w' ⟨rfl, b2⟩
    exact ⟨rfl, ⟨(hD.keep b').ans.keep b2, (hD.keep b').wan.keep b2⟩, Fr.of_below b2⟩
  · rintro e w' ⟨rfl, ⟨h1, h2⟩, hf⟩
    exact ⟨rfl, h1, h2, hB.trans (hf.to_below (fun _ q => q.elim) hB.size)⟩
set_option maxRecDepth 8000 in
theorem do_none {w : World} {base p : Nat} {A : Option Addr} {cap : Nat} {ps : List Nat} (hst : StAt w base p A cap ps []) (now : Int) (x : Ky) (l : List Value) (hl : l.length = 20) : Calls Tryz.prog 15 #[pv p, .int .i64 now, x.val, .agg l.toArray] w fun e w' => e = .returned (.tuple #[.agg (mzc 0).toArray, .bool false, .int .i64 1]) ∧ Below w.heap.size w w' := by
  refine do_gen (some ⟨p, 0, none⟩) now x l 1 (mzc 0) rfl (mzc_one 0) (fun W hD hB hs => ?_)
  refine (oface_no _ _ _ _ _ _ (Xw w.heap.size (mzc 0)) (fun W' v h => h.far (by omega) v) (fun _ => False) (fun _ q => q.elim) 1 (fun W' b' => ?_)).mono ?_
  · refine (d1_none (hst.below (hB.trans (b'.mono hB.size))) (hD.keep b') hl).mono ?_
    rintro e w' ⟨rfl, b2⟩
    exact ⟨rfl, ⟨(hD.keep b').ans.keep b2, (hD.keep b').wan.keep b2⟩, Fr.of_below b2⟩
  · rintro e w' ⟨rfl, ⟨h1, h2⟩, hf⟩
    exact ⟨rfl, h1, h2, hB.trans (hf.to_below (fun _ q => q.elim) hB.size)⟩
set_option maxRecDepth 8000 in
/-- a number's key tells itself -/
theorem do_one {w : World} {base p : Nat} {A : Option Addr} {cap : Nat} {ps : List Nat} {os : List Oj} (hst : StAt w base p A cap ps os) (hn : 0 < os.length) (hT : Tab w) : Calls Tryz.prog 15 #[pv p, .int .i64 0, nk.val, .agg (mzc 1).toArray] w fun e w' => e = .returned (.tuple #[.agg (mtc 5).toArray, .bool false, .int .i64 0]) ∧ Below w.heap.size w w' := by
  refine do_gen (some ⟨p, 0, none⟩) 0 nk (mzc 1) 0 (mtc 5) rfl (mtc_one 5) (fun W hD hB hs => ?_)
  refine (oface_yes _ _ _ _ _ _ (Xw w.heap.size (mtc 5)) (fun W' v h => h.far (by omega) v) (fun k => k = w.heap.size + 4 ∨ k = w.heap.size + 5) (fun _ q => by omega) (fun W' b' => ?_)).mono ?_
  · refine (d1_yes (hst.below (hB.trans (b'.mono hB.size))) hn (hT.below (hB.trans (b'.mono hB.size))) (hD.keep b')).mono ?_
    rintro e w' ⟨rfl, h1, h2, f2⟩
    exact ⟨rfl, ⟨h1, h2⟩, f2⟩
  · rintro e w' ⟨rfl, ⟨h1, h2⟩, hf⟩
    exact ⟨rfl, h1, h2, hB.trans (hf.to_below (fun _ q => by omega) hB.size)⟩
set_option maxRecDepth 8000 in
/-- another order there is not -/
theorem do_two {w : World} {base p : Nat} {A : Option Addr} {cap : Nat} {ps : List Nat} {os : List Oj} (hst : StAt w base p A cap ps os) (hn : 0 < os.length) (hT : Tab w) : Calls Tryz.prog 15 #[pv p, .int .i64 0, nk.val, .agg (mzc 2).toArray] w fun e w' => e = .returned (.tuple #[.agg (mzc 240).toArray, .bool false, .int .i64 0]) ∧ Below w.heap.size w w' := by
  refine do_gen (some ⟨p, 0, none⟩) 0 nk (mzc 2) 0 (mzc 240) rfl (mzc_one 240) (fun W hD hB hs => ?_)
  refine (oface_told _ _ _ _ _ _ (Xw w.heap.size (mzc 240)) (fun W' v h => h.far (by omega) v) (fun k => k = w.heap.size + 4) (fun _ q => by omega) (fun W' b' => ?_)).mono ?_
  · refine (d1_told (hst.below (hB.trans (b'.mono hB.size))) hn (hT.below (hB.trans (b'.mono hB.size))) (hD.keep b')).mono ?_
    rintro e w' ⟨rfl, h1, f2⟩
    exact ⟨rfl, ⟨h1, (f2.block _ (hD.keep b').wan.lt (by omega)).trans (hD.keep b').wan⟩, f2⟩
  · rintro e w' ⟨rfl, ⟨h1, h2⟩, hf⟩
    exact ⟨rfl, h1, h2, hB.trans (hf.to_below (fun _ q => by omega) hB.size)⟩
end Go.Proofs.YtogkdhpnbpgheaaGreatDoor

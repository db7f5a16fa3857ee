/- orders: what is done within the face. -/
import Derived.Test.YtogkdhpnbpgheaaGreatDoorQAs
import Derived.Test.YtogkdhpnbpgheaaGreatDoorQDg
import Derived.Test.YtogkdhpnbpgheaaGreatDoorQTn
namespace Go.Proofs.YtogkdhpnbpgheaaGreatDoor
open Go.RowKit
/-- what Do hands to what it does, as it lies -/
structure Dw (w : World) (b : Nat) (P : Value) (now : Int) (x : Ky) (l : List Value) : Prop where
  st : Blk w b 24 #[P]
  now : Blk w (b + 1) 2 #[.int .i64 now]
  key : Blk w (b + 2) 33 (kc x.k x.o x.c x.l x.r x.v)
  msg : Blk w (b + 3) 36 l.toArray
  ans : Blk w (b + 4) 36 (mzc 0).toArray
  wan : Blk w (b + 5) 4 #[.bool false]
theorem oy_mgl {ops : Array Oper} {o : Oper} {a : Act} {S : World → Prop} (hw : Region.wanted o (yielded ops a.tmps) = true) (x : Operand) (ho : o.op = .load 36 x) (g off : Nat) (hx : a.eval x = .pointer (some ⟨g, off, none⟩)) (l : List Value) (hl : l.length = 20) (hS : ∀ w, S w → w.rangeAt g off l) : YieldsIf Tryz.prog ops S o (.agg l.toArray) a :=
  yieldsIf_load_mid hw 36 x ho g off hx l _ hS Tryz.underlying36 rfl (by rw [hl]; exact sizeMg)
set_option maxRecDepth 100000 in
set_option maxHeartbeats 2000000 in
theorem d1_nil {w : World} {b : Nat} {now : Int} {x : Ky} {l : List Value} (h : Dw w b (.pointer none) now x l) (hl : l.length = 20) : Calls Tryz.prog 26 #[.pointer (some ⟨b, 0, none⟩), .pointer (some ⟨b + 1, 0, none⟩), .pointer (some ⟨b + 2, 0, none⟩), .pointer (some ⟨b + 3, 0, none⟩), .pointer (some ⟨b + 4, 0, none⟩), .pointer (some ⟨b + 5, 0, none⟩)] w fun e w' => e = .panicked (erc 1) ∧ Below w.heap.size w w' := by
  have s0 := h.st.cell 0
  have n0 := h.now.cell 0
  obtain ⟨c0, c1, c2, c3, c4, c5⟩ := h.key.six
  have HD := Lib.hid h
  have HL := Lib.hid hl
  clear h hl
  go_enter Tryz.func26, Tryz.ntmps26
  go_wp2_with (first
    | ((with_reducible show wpList _ _ _ ({ dst := some 10, op := .load _ _, type := _, pos := _, after := _, guard := _ } :: _) _ _); refine wpList_yields (S := fun w' => w'.rangeAt (b + 3) 0 l) (oy_mgl (by rfl) (.tmp 3) (by rfl) (b + 3) 0 (by rfl) l HL.out (fun _ h => h)) HD.out.msg.range ?_)
    | (go_at_call 27; refine (oask_nil _ _ _).mono ?_; rintro e w1 ⟨rfl, b1⟩; have HB := Lib.hid b1; clear b1))
  exact ⟨rfl, rfl, HB.out⟩
set_option maxRecDepth 100000 in
set_option maxHeartbeats 2000000 in
theorem d1_none {w : World} {b : Nat} {now : Int} {x : Ky} {l : List Value} {base p : Nat} {A : Option Addr} {cap : Nat} {ps : List Nat} (hs : StAt w base p A cap ps []) (h : Dw w b (pv p) now x l) (hl : l.length = 20) : Calls Tryz.prog 26 #[.pointer (some ⟨b, 0, none⟩), .pointer (some ⟨b + 1, 0, none⟩), .pointer (some ⟨b + 2, 0, none⟩), .pointer (some ⟨b + 3, 0, none⟩), .pointer (some ⟨b + 4, 0, none⟩), .pointer (some ⟨b + 5, 0, none⟩)] w fun e w' => e = .panicked (erc 1) ∧ Below w.heap.size w w' := by
  have s0 := h.st.cell 0
  have n0 := h.now.cell 0
  obtain ⟨c0, c1, c2, c3, c4, c5⟩ := h.key.six
  have HD := Lib.hid h
  have HS := Lib.hid hs
  clear hs
  have HL := Lib.hid hl
  clear h hl
  go_enter Tryz.func26, Tryz.ntmps26
  go_wp2_with (first
    | ((with_reducible show wpList _ _ _ ({ dst := some 10, op := .load _ _, type := _, pos := _, after := _, guard := _ } :: _) _ _); refine wpList_yields (S := fun w' => w'.rangeAt (b + 3) 0 l) (oy_mgl (by rfl) (.tmp 3) (by rfl) (b + 3) 0 (by rfl) l HL.out (fun _ h => h)) HD.out.msg.range ?_)
    | (go_at_call 27; refine (oask_none HS.out _ _ _).mono ?_; rintro e w1 ⟨rfl, b1⟩; have HB := Lib.hid b1; clear b1))
  exact ⟨rfl, rfl, HB.out⟩
set_option maxRecDepth 8000 in
theorem ostep_bool {ops : Array Oper} {o : Oper} {a : Act} {w : World} {K : Act → World → Prop} {Q : Exit → Act → World → Prop} {E : Prop} {b : Nat} {u0 : Value} {v : Bool} (hb : Blk w b 4 #[u0]) (hgd : o.guard = none) (x y : Operand) (ho : o.op = .store 4 x y) (hx : a.eval x = .pointer (some ⟨b, 0, none⟩)) (hy : a.eval y = .bool v)
    (h : K (a.put o.dst undef) (w.setCell ⟨b, 0, none⟩ (.bool v))) : if Region.wanted o (yielded ops a.tmps) = true then Oper.wp Tryz.prog o a w K Q else E := by
  rw [if_pos (by simp [Region.wanted, hgd])]
  have c : w.cell? ⟨b, 0, none⟩ = some u0 := by simpa using hb.cell 0
  have z : w.frozen? ⟨b, 0, none⟩ = false := hb.frozen 0
  unfold Oper.wp
  simp only [execOp, ho, hx, hy]
  simp [go_sem, c, z, Result.andThen]
  exact h
set_option maxRecDepth 8000 in
theorem ostore (P : Program) (a : Addr) (w : World) (u : Value) (f : Fn) (x y : Array Value) (c : w.cell? a = some u) (z : w.frozen? a = false) : (store a (.func f x y)).run P w = .ok () (w.setCell a (.func f x y)) := by
  rw [run_store P w a _ _ rfl]
  simp [go_sem, c, z]
/-- an order's cells, when its errors are told -/
def ordF (p b : Nat) (c : Int) : List Value := mzc c ++ [pv p, .int .i64 0] ++ kl nk ++ mzc 0 ++ [.bool false, (.func (.func 28) #[] #[.pointer (some ⟨b + 4, 0, none⟩)])]
theorem ordF_set (p b : Nat) (c : Int) : (ordc p c).toArray.setIfInBounds 49 (.func (.func 28) #[] #[.pointer (some ⟨b + 4, 0, none⟩)]) = (ordF p b c).toArray := rfl
/-- the cells of a message that tells a number -/
def mtc (n : Int) : List Value := [.int .i64 0, .string ⟨#[]⟩] ++ kl zk ++ kl zk ++ kl ⟨1, 0, 0, 0, 0, n⟩
set_option maxRecDepth 8000 in
theorem tnC_ans {w : World} {g p b : Nat} {c n : Int} (h : Blk w g 79 (tnC (ordF p b c) n).toArray) : w.rangeAt g 28 (mtc n) := fun j v hv => by
  have hj : j < 20 := by
    have := (List.getElem?_eq_some_iff.1 hv).1
    exact this
  have := h.range (j + 28) v (by
    show (tnC (ordF p b c) n)[j + 28]? = some v
    rw [← hv]
    match j, hj with
    | 0, _ => rfl
    | 1, _ => rfl
    | 2, _ => rfl
    | 3, _ => rfl
    | 4, _ => rfl
    | 5, _ => rfl
    | 6, _ => rfl
    | 7, _ => rfl
    | 8, _ => rfl
    | 9, _ => rfl
    | 10, _ => rfl
    | 11, _ => rfl
    | 12, _ => rfl
    | 13, _ => rfl
    | 14, _ => rfl
    | 15, _ => rfl
    | 16, _ => rfl
    | 17, _ => rfl
    | 18, _ => rfl
    | 19, _ => rfl)
  rwa [show 0 + (j + 28) = 28 + j by omega] at this
set_option maxRecDepth 8000 in
theorem mtc_one (n : Int) : ∀ u ∈ mtc n, u.oneCell' = true := by
  intro u hu
  simp only [mtc, List.mem_append, List.mem_cons, List.not_mem_nil, or_false] at hu
  rcases hu with (((rfl | rfl) | hu) | hu) | hu
  · rfl
  · rfl
  · exact kl_one _ _ hu
  · exact kl_one _ _ hu
  · exact kl_one _ _ hu
set_option maxRecDepth 100000 in
set_option maxHeartbeats 2000000 in
theorem d1_yes {w : World} {base p b : Nat} {A : Option Addr} {cap : Nat} {ps : List Nat} {os : List Oj} (hs : StAt w base p A cap ps os) (hn : 0 < os.length) (hT : Tab w) (h : Dw w b (pv p) 0 nk (mzc 1)) : Calls Tryz.prog 26 #[.pointer (some ⟨b, 0, none⟩), .pointer (some ⟨b + 1, 0, none⟩), .pointer (some ⟨b + 2, 0, none⟩), .pointer (some ⟨b + 3, 0, none⟩), .pointer (some ⟨b + 4, 0, none⟩), .pointer (some ⟨b + 5, 0, none⟩)] w fun e w' => e = .returned (.tuple #[]) ∧ Blk w' (b + 4) 36 (mtc 5).toArray ∧ Blk w' (b + 5) 4 #[.bool false] ∧ Fr (fun k => k = b + 4 ∨ k = b + 5) w w' := by
  have s0 := h.st.cell 0
  have n0 := h.now.cell 0
  obtain ⟨c0, c1, c2, c3, c4, c5⟩ := h.key.six
  have HD := Lib.hid h
  have HS := Lib.hid hs
  have HN := Lib.hid hn
  have HT := Lib.hid hT
  have hmf : ∀ (fn : Fn) (first cap : Array Value) (w : World), (Instr.makeFunc fn first cap).run Tryz.prog w = .ok (.func fn first cap) w := fun _ _ _ _ => rfl
  clear h hs hn hT
  go_enter Tryz.func26, Tryz.ntmps26
  go_wp2_with (first
    | ((with_reducible show wpList _ _ _ ({ dst := some 10, op := .load _ _, type := _, pos := _, after := _, guard := _ } :: _) _ _); refine wpList_yields (S := fun w' => w'.rangeAt (b + 3) 0 (mzc 1)) (oy_mgl (by rfl) (.tmp 3) (by rfl) (b + 3) 0 (by rfl) (mzc 1) rfl (fun _ h => h)) HD.out.msg.range ?_)
    | (go_at_call 27; refine (oask_y HS.out HN.out HT.out 1).mono ?_; rintro e w1 ⟨g, rfl, hg, ho, b1⟩; have HG := Lib.hid hg; have HO1 := Lib.hid ho; have HB1 := Lib.hid b1; have hc49 : w1.cell? ⟨g, 49, none⟩ = some .nilFunc := HO1.out.cell 49; have hz49 : w1.frozen? ⟨g, 49, none⟩ = false := HO1.out.frozen 49; have hst := ostore Tryz.prog ⟨g, 49, none⟩ w1 .nilFunc (.func 28) #[] #[.pointer (some ⟨b + 4, 0, none⟩)] hc49 hz49; have HO2 := Lib.hid (show Blk (w1.setCell ⟨g, 49, none⟩ (.func (.func 28) #[] #[.pointer (some ⟨b + 4, 0, none⟩)])) g 79 (ordF p b 1).toArray from ordF_set p b 1 ▸ HO1.out.set_ 49 (.func (.func 28) #[] #[.pointer (some ⟨b + 4, 0, none⟩)])); have HF2 := Lib.hid ((Fr.of_below HB1.out : Fr (fun _ => False) w w1).setCell (p := ⟨g, 49, none⟩) (fun q => absurd (show g < w.heap.size from q) (by have := HG.out; omega)) (.func (.func 28) #[] #[.pointer (some ⟨b + 4, 0, none⟩)])); clear hg ho b1 c0 c1 c2 c3 c4 c5 s0 n0)
    | (go_at_call 29; refine (dg_itself HO2.out rfl rfl).mono ?_; rintro e w3 ⟨rfl, b3⟩; have HO3 := Lib.hid (HO2.out.keep b3); have HF3 := Lib.hid (HF2.out.below b3); clear b3)
    | (go_at_call 85; refine (it_any HO3.out rfl rfl).mono ?_; rintro e w4 ⟨rfl, h4, f4⟩; have HO4 := Lib.hid h4; have HF4 := Lib.hid (HF3.out.then_ f4 (fun i hi hk => absurd hi (by have := HG.out; omega))); clear h4 f4))
  have HGB : Hid (b + 5 < g) := Lib.hid (by have := HD.out.wan.lt; have := HG.out; omega)
  have HA4 := Lib.hid (show Blk w4 (b + 4) _ _ from (HF4.out.block _ HD.out.ans.lt (fun q => q)).trans HD.out.ans)
  have HW4 := Lib.hid (show Blk w4 (b + 5) _ _ from (HF4.out.block _ HD.out.wan.lt (fun q => q)).trans HD.out.wan)
  refine wp_region_only (S := fun w' => w'.rangeAt g 28 (mtc 5) ∧ w'.cell? ⟨g, 48, none⟩ = some (.bool false)) (by kernel_rfl) ⟨tnC_ans HO4.out, HO4.out.cell 48⟩ (fun hHeld => ?_)
  refine wpAnyH_take (i := 0) (v := ?v1) rfl (by kernel_rfl) (by kernel_rfl) (by kernel_rfl) (fun _ _ _ h => h) (Or.inl ⟨by rfl, ?hy1⟩) hHeld ?rest1
  case hy1 =>
    intro w' hSw
    try dsimp only at hSw
    go_simp
    first | done | with_reducible rfl
  try simp only [Act.put, List.getElem_toArray, List.getElem_cons_zero, List.setIfInBounds_toArray, List.set_cons_zero, List.set_cons_succ]
  refine wpAnyH_take (i := 1) (v := ?v2) rfl (by kernel_rfl) (by kernel_rfl) (by kernel_rfl) (fun _ _ _ h => h) (Or.inl ⟨by rfl, ?hy2⟩) hHeld ?rest2
  case hy2 =>
    intro w' hSw
    try dsimp only at hSw
    go_simp
    first | done | with_reducible rfl
  try simp only [Act.put, List.getElem_toArray, List.getElem_cons_succ, List.getElem_cons_zero, List.setIfInBounds_toArray, List.set_cons_zero, List.set_cons_succ]
  refine wpAnyH_take (i := 2) (v := ?v3) rfl (by kernel_rfl) (by kernel_rfl) (by kernel_rfl) (fun _ _ _ h => h) (Or.inl ⟨by rfl, ?hy3⟩) hHeld ?rest3
  case hy3 =>
    intro w' hSw
    try dsimp only at hSw
    go_simp
    first | done | with_reducible rfl
  try simp only [Act.put, List.getElem_toArray, List.getElem_cons_succ, List.getElem_cons_zero, List.setIfInBounds_toArray, List.set_cons_zero, List.set_cons_succ]
  refine wpAnyH_take (i := 3) rfl (by kernel_rfl) (by kernel_rfl) (by kernel_rfl) (fun _ _ _ h => h) (oy_mgl (by rfl) (.tmp 22) (by rfl) g 28 (by rfl) (mtc 5) rfl (fun _ h => h.1)) hHeld ?_
  try simp only [Act.put, List.getElem_toArray, List.getElem_cons_succ, List.getElem_cons_zero, List.setIfInBounds_toArray, List.set_cons_zero, List.set_cons_succ]
  refine wpAnyH_take (i := 4) (v := ?v4) rfl (by kernel_rfl) (by kernel_rfl) (by kernel_rfl) (fun _ _ _ h => h) (Or.inl ⟨by rfl, ?hy4⟩) hHeld ?rest4
  case hy4 =>
    intro w' hSw
    try dsimp only at hSw
    go_simp
    first | done | with_reducible rfl
  try simp only [Act.put, List.getElem_toArray, List.getElem_cons_succ, List.getElem_cons_zero, List.setIfInBounds_toArray, List.set_cons_zero, List.set_cons_succ]
  refine wpAnyH_take (i := 5) (v := ?v5) rfl (by kernel_rfl) (by kernel_rfl) (by kernel_rfl) (fun _ _ _ h => h) (Or.inl ⟨by rfl, ?hy5⟩) hHeld ?rest5
  case hy5 =>
    intro w' hSw
    try dsimp only at hSw
    go_simp
    first | done | with_reducible rfl
  try simp only [Act.put, List.getElem_toArray, List.getElem_cons_succ, List.getElem_cons_zero, List.setIfInBounds_toArray, List.set_cons_zero, List.set_cons_succ]
  refine wpAnyH_take (i := 6) (v := ?v6) rfl (by kernel_rfl) (by kernel_rfl) (by kernel_rfl) (fun _ _ _ h => h) (Or.inl ⟨by rfl, ?hy6⟩) hHeld ?rest6
  case hy6 =>
    intro w' hSw
    try dsimp only at hSw
    go_simp
    first | done | with_reducible rfl
  try simp only [Act.put, List.getElem_toArray, List.getElem_cons_succ, List.getElem_cons_zero, List.setIfInBounds_toArray, List.set_cons_zero, List.set_cons_succ]
  refine wpAnyH_take (i := 7) (v := ?v7) rfl (by kernel_rfl) (by kernel_rfl) (by kernel_rfl) (fun _ _ _ h => h) (Or.inl ⟨by rfl, ?hy7⟩) hHeld ?rest7
  case hy7 =>
    intro w' hSw
    try dsimp only at hSw
    go_simp
    first | done | with_reducible rfl
  try simp only [Act.put, List.getElem_toArray, List.getElem_cons_succ, List.getElem_cons_zero, List.setIfInBounds_toArray, List.set_cons_zero, List.set_cons_succ]
  refine wpAnyH_ready (rs := [8]) (by kernel_rfl) (by simp) ?_
  refine AllReadyH.cons (by rfl) (fun K hK => ?_) AllReadyH.nil
  refine step_store_big HA4.out rfl (.tmp 4) (.tmp 23) (ty := 36) (l := mtc 5) (l0 := mzc 0) (by rfl) (by rfl) (by rfl) sizeMg rfl (mtc_one 5) ?_
  have HA5 := Lib.hid (HA4.out.setRow (mtc 5).toArray)
  have HO5 := Lib.hid (show Blk (w4.drew.setRow (b + 4) (mtc 5).toArray) g 79 _ from Blk.row_far HO4.out (by have := HGB.out; omega) (mtc 5).toArray)
  have HW5 := Lib.hid (show Blk (w4.drew.setRow (b + 4) (mtc 5).toArray) (b + 5) 4 _ from Blk.row_far HW4.out (by omega) (mtc 5).toArray)
  refine hK.out _ _ ⟨tnC_ans HO5.out, HO5.out.cell 48⟩ (fun hHeld => ?_)
  clear hK K
  try simp only [Act.put, List.getElem_toArray, List.getElem_cons_succ, List.getElem_cons_zero]
  refine wpAnyH_ready (rs := [9]) (by kernel_rfl) (by simp) ?_
  refine AllReadyH.cons (by rfl) (fun K hK => ?_) AllReadyH.nil
  refine ostep_bool HW5.out rfl (.tmp 5) (.tmp 27) (by rfl) (by rfl) (by rfl) ?_
  have HA6 := Lib.hid (HA5.out.far (p := ⟨b + 5, 0, none⟩) (by simp) (.bool false))
  have HO6 := Lib.hid (HO5.out.far (p := ⟨b + 5, 0, none⟩) (by have := HGB.out; simp; omega) (.bool false))
  have HW6 := Lib.hid (HW5.out.set_ 0 (.bool false))
  refine hK.out _ _ ⟨tnC_ans HO6.out, HO6.out.cell 48⟩ (fun hHeld => ?_)
  clear hK K
  try simp only [Act.put, List.getElem_toArray, List.getElem_cons_succ, List.getElem_cons_zero]
  refine wpAnyH_done (by kernel_rfl) ?_ _
  refine OnlyN.normal ?_
  clear hHeld
  go_wp2_with fail
  go_end0
  exact ⟨rfl, HA6.out, HW6.out, ((((HF4.out.mono (fun _ _ q => absurd q (fun q => q)) : Fr (fun k => k = b + 4 ∨ k = b + 5) w w4).drew).then_ (setRow_fr _ _ _) (fun _ _ hk => .inl hk)).setCell (fun _ => .inr rfl) _)⟩
end Go.Proofs.YtogkdhpnbpgheaaGreatDoor

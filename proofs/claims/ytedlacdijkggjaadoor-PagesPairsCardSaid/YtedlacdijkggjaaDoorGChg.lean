/- pages: what is done to a page that was come to; change. -/
import Derived.Test.YtedlacdijkggjaaDoorGRefw
import Derived.Test.YtedlacdijkggjaaDoorR05
namespace Go.Proofs.YtedlacdijkggjaaDoor
open Go.RowKit
set_option maxRecDepth 8000 in
theorem step_copy_pg {ops : Array Oper} {o : Oper} {a : Act} {w : World} {K : Act → World → Prop} {Q : Exit → Act → World → Prop} {E : Prop} (hgd : o.guard = none) (d s : Operand)
    (ho : o.op = .call { callee := .builtin .copy, args := #[d, s], argTypes := #[50, 9] }) {g p : Nat} {n : Int} {u : Oj} {t : TypeId} (i : Nat) (l : List UInt8) (h : i + l.length ≤ 64)
    (hd : a.eval d = .slice (some (cutP g 99 i)) (64 - i) (64 - i)) (hs : a.eval s = .string (st l)) (hg : Blk w g t (pgc p n u).toArray)
    (hK : K (a.put o.dst (.int .i64 (l.length : Int))) (w.setRow g (pgc p n (layO u i l)).toArray)) :
    if Region.wanted o (yielded ops a.tmps) = true then Oper.wp Tryd.prog o a w K Q else E := by
  have hl : (lay u.b i l).length = 64 := by rw [lay_len (by rw [u.hb]; exact h)]; exact u.hb
  have hrun := run_copy_pg (p := p) (n := n) (u := u) o.type i l h hl hg
  rw [← layO_eq h hl] at hrun
  rw [if_pos (by simp [Region.wanted, hgd])]
  unfold Oper.wp
  simp [execOp, ho, resolve, invoke, builtin, hd, hs, hrun, Result.andThen]
  exact hK
set_option maxRecDepth 8000 in
theorem wpList_clear_pg {ops : Array Oper} {rest : List Oper} {o : Oper} {a : Act} {w : World} {Q : Exit → Act → World → Prop} (hgd : o.guard = none) (d : Operand)
    (ho : o.op = .call { callee := .builtin .clear, args := #[d], argTypes := #[50] }) {g p : Nat} {n : Int} {u : Oj} {t : TypeId}
    (hd : a.eval d = .slice (some ⟨g, 99, none⟩) 64 64) (hg : Blk w g t (pgc p n u).toArray)
    (h : wpList Tryd.prog ops Q rest (a.put o.dst (.tuple #[])) (w.setRow g (pgc p n (bAs u zbs rfl)).toArray)) : wpList Tryd.prog ops Q (o :: rest) a w := by
  refine wpList_plain hgd fun K hK => ?_
  have hrun := run_clear_pg (p := p) (n := n) (u := u) o.type hg
  unfold Oper.wp
  simp [execOp, ho, resolve, invoke, builtin, hd, hrun, Result.andThen]
  exact hK _ _ h
theorem setRow_fr' (w : World) (g : Nat) (c : Array Value) : Fr (fun k => k = g) w (w.setRow g c) := setRow_fr w g c
section
variable {w : World} {g p : Nat} {n : Int} {u : Oj}
set_option maxRecDepth 100000 in
set_option maxHeartbeats 2000000 in
theorem clo_write (hg : Blk w g 72 (pgc p n u).toArray) (a : Nat) (s : List UInt8) (h : a + s.length ≤ 64) (I T : Nat) {it tt : TypeId} (hI : Blk w I it #[.int .i64 (a : Int)]) (hT : Blk w T tt #[.string (st s)]) (hIg : I ≠ g) (hTg : T ≠ g) :
    Calls Tryd.prog 25 #[.pointer (some ⟨g, 0, none⟩), .pointer (some ⟨I, 0, none⟩), .pointer (some ⟨T, 0, none⟩)] w fun e w' => e = .returned (.tuple #[]) ∧ Blk w' g 72 (pgc p n (layO u a s)).toArray ∧ Fr (fun k => k = g) w w' := by
  have HG := Lib.hid hg
  have HI := Lib.hid hI
  have HT := Lib.hid hT
  have HIG := Lib.hid hIg
  have HTG := Lib.hid hTg
  have HA := Lib.hid h
  have hsl := run_cut_lo g 99 a (by omega)
  clear hg h hI hT hIg hTg
  go_enter Tryd.func25, Tryd.ntmps25
  refine wp_region_only (S := fun w' => w'.cell? ⟨I, 0, none⟩ = some (.int .i64 (a : Int)) ∧ w'.cell? ⟨T, 0, none⟩ = some (.string (st s))) (by kernel_rfl) ⟨HI.out.drew.cell 0, HT.out.drew.cell 0⟩ (fun hHeld => ?_)
  refine wpAnyH_take (i := 0) (v := ?v1) rfl (by kernel_rfl) (by kernel_rfl) (by kernel_rfl) (fun _ _ _ h => h) (Or.inl ⟨by rfl, ?hy1⟩) hHeld ?rest1
  case hy1 =>
    intro w' hSw
    try dsimp only at hSw
    go_simp
    first | done | with_reducible rfl
  try simp only [Act.put, List.getElem_toArray, List.getElem_cons_zero, List.setIfInBounds_toArray, List.set_cons_zero, List.set_cons_succ]
  refine wpAnyH_take (i := 1) (v := ?v2) rfl (by kernel_rfl) (by kernel_rfl) (by kernel_rfl) (fun _ _ _ h => h) (Or.inl ⟨by rfl, ?hy2⟩) hHeld ?rest2
  case hy2 =>
    intro w' hSw
    try dsimp only at hSw
    go_simp
    first | done | with_reducible rfl
  try simp only [Act.put, List.getElem_toArray, List.getElem_cons_succ, List.getElem_cons_zero, List.setIfInBounds_toArray, List.set_cons_zero, List.set_cons_succ]
  refine wpAnyH_take (i := 2) (v := ?v3) rfl (by kernel_rfl) (by kernel_rfl) (by kernel_rfl) (fun _ _ _ h => h) (Or.inl ⟨by rfl, ?hy3⟩) hHeld ?rest3
  case hy3 =>
    intro w' hSw
    try dsimp only at hSw
    go_simp
    first | done | with_reducible rfl
  try simp only [Act.put, List.getElem_toArray, List.getElem_cons_succ, List.getElem_cons_zero, List.setIfInBounds_toArray, List.set_cons_zero, List.set_cons_succ]
  refine wpAnyH_take (i := 3) (v := ?v4) rfl (by kernel_rfl) (by kernel_rfl) (by kernel_rfl) (fun _ _ _ h => h) (Or.inl ⟨by rfl, ?hy4⟩) hHeld ?rest4
  case hy4 =>
    intro w' hSw
    try dsimp only at hSw
    go_simp
    first | done | with_reducible rfl
  try simp only [Act.put, List.getElem_toArray, List.getElem_cons_succ, List.getElem_cons_zero, List.setIfInBounds_toArray, List.set_cons_zero, List.set_cons_succ]
  refine wpAnyH_take (i := 4) (v := ?v5) rfl (by kernel_rfl) (by kernel_rfl) (by kernel_rfl) (fun _ _ _ h => h) (Or.inl ⟨by rfl, ?hy5⟩) hHeld ?rest5
  case hy5 =>
    intro w' hSw
    try dsimp only at hSw
    go_simp
    first | done | with_reducible rfl
  try simp only [Act.put, List.getElem_toArray, List.getElem_cons_succ, List.getElem_cons_zero, List.setIfInBounds_toArray, List.set_cons_zero, List.set_cons_succ]
  refine wpAnyH_ready (rs := [5]) (by kernel_rfl) (by simp) ?_
  refine AllReadyH.cons (by rfl) (fun K hK => ?_) AllReadyH.nil
  refine step_copy_pg rfl (.tmp 6) (.tmp 7) (by rfl) a s HA.out (by rfl) (by rfl) HG.out.drew ?_
  refine hK.out _ _ ⟨(Blk.row_far HI.out.drew HIG.out _).cell 0, (Blk.row_far HT.out.drew HTG.out _).cell 0⟩ (fun hHeld => ?_)
  clear hK K
  try simp only [Act.put, List.getElem_toArray, List.getElem_cons_succ, List.getElem_cons_zero, List.setIfInBounds_toArray, List.set_cons_zero, List.set_cons_succ]
  refine wpAnyH_done (by kernel_rfl) ?_ _
  refine OnlyN.normal ?_
  clear hHeld
  go_wp2_with fail
  go_end0
  exact ⟨rfl, HG.out.drew.setRow _, Fr.trans ((Fr.refl _ w).drew) (setRow_fr _ _ _)⟩
set_option maxRecDepth 100000 in
set_option maxHeartbeats 2000000 in
theorem clo_clear (hg : Blk w g 72 (pgc p n u).toArray) :
    Calls Tryd.prog 27 #[.pointer (some ⟨g, 0, none⟩)] w fun e w' => e = .returned (.tuple #[]) ∧ Blk w' g 72 (pgc p n (bAs u zbs rfl)).toArray ∧ Fr (fun k => k = g) w w' := by
  have HG := Lib.hid hg
  have hsl := run_cut_all g 99
  clear hg
  go_enter Tryd.func27, Tryd.ntmps27
  go_wp2_with (refine wpList_clear_pg rfl (.tmp 3) (by rfl) (by rfl) HG.out ?_)
  go_end0
  exact ⟨rfl, HG.out.setRow _, setRow_fr _ _ _⟩
set_option maxRecDepth 100000 in
set_option maxHeartbeats 2000000 in
theorem clo_copy (hg : Blk w g 72 (pgc p n u).toArray) (h : Nat) (p' : Nat) (n' : Int) (v : Oj) (hh : Blk w h 72 (pgc p' n' v).toArray) :
    Calls Tryd.prog 28 #[.pointer (some ⟨h, 0, none⟩), .pointer (some ⟨g, 0, none⟩)] w fun e w' => e = .returned (.tuple #[]) ∧ Blk w' g 72 (pgc p n (bAs u v.b v.hb)).toArray ∧ Fr (fun k => k = g) w w' := by
  have HG := Lib.hid hg
  have HH := Lib.hid hh
  have HFT := Lib.hid (show 99 + (bv v.b).length ≤ (pgc p n u).length by rw [pgc_len, bv_length, v.hb]; decide)
  have e := pgc_bytes p n u 0 v.b (by rw [v.hb]; decide) (by rw [lay_len (by rw [u.hb, v.hb]; decide)]; exact u.hb)
  have e2 : lay u.b 0 v.b = v.b := by
    have : u.b.drop 64 = [] := List.drop_eq_nil_of_le (by rw [u.hb]; exact Nat.le_refl _)
    simp [lay, v.hb, this]
  have e3 : bAs u (lay u.b 0 v.b) (by rw [lay_len (by rw [u.hb, v.hb]; decide)]; exact u.hb) = bAs u v.b v.hb := by
    unfold bAs
    simp only [e2]
  rw [e3] at e
  have HE : Hid ((pgc p n u).take 99 ++ bv v.b ++ (pgc p n u).drop (99 + (bv v.b).length) = pgc p n (bAs u v.b v.hb)) := Lib.hid (by rw [bv_length]; exact e)
  clear hg hh e e2 e3
  go_enter Tryd.func28, Tryd.ntmps28
  go_wp2_with (first
    | (show wpList _ _ _ ({ dst := some 4, op := .load 47 (.tmp 3), type := _, pos := _, after := _, guard := _ } :: _) _ _; refine wpList_yields (S := fun w' => w'.rangeAt h 99 (bv v.b)) (y_bs (by rfl) (.tmp 3) (by rfl) h 99 (by rfl) v.b v.hb (fun _ h => h)) (by have := HH.out.pgo.bytes; rwa [Nat.zero_add] at this) ?_)
    | (show wpList _ _ _ ({ dst := none, op := .store _ (.tmp 6) (.tmp 4), type := _, pos := _, after := _, guard := _ } :: _) _ _; refine wpList_store_in HG.out rfl (.tmp 6) (.tmp 4) (ty := 47) (l := bv v.b) (off := 99) (by rfl) (by rfl) (by rfl) (by rw [bv_length, v.hb]; exact size32) HFT.out (bv_one _) HE.out ?_))
  go_end0
  exact ⟨rfl, HG.out.setRow _, setRow_fr _ _ _⟩
end
section
variable {w : World} {base p : Nat} {A : Option Addr} {cap : Nat} {ps : List Nat} {os : List Oj} {g : Nat} {n : Int} {u : Oj}
set_option maxRecDepth 100000 in
set_option maxHeartbeats 2000000 in
theorem chg_write (hs : StAt w base p A cap ps os) (hT : Tab w) (hg : Blk w g 72 (pgc p n u).toArray) (hng : ∀ k, stHas p A ps k → k ≠ g) (htg : Tab w → ∀ W, Fr (fun k => k = g) w W → Tab W) (j : Nat) (hj : j < os.length) (hn : n = (j : Int)) (a : Nat) (s : List UInt8) (h : a + s.length ≤ 64) (I T : Nat) {it tt : TypeId} (hI : Blk w I it #[.int .i64 (a : Int)]) (hTT : Blk w T tt #[.string (st s)]) (hIg : I ≠ g) (hTg : T ≠ g) (hok : (layO u a s).ok os.length) :
    Calls Tryd.prog 24 #[.pointer (some ⟨g, 0, none⟩), .func (.func 25) #[] #[.pointer (some ⟨g, 0, none⟩), .pointer (some ⟨I, 0, none⟩), .pointer (some ⟨T, 0, none⟩)]] w fun e w' => e = .returned (.int .i64 0) ∧ StAt w' base p A cap ps (os.set j (layO u a s)) ∧ Fr (fun k => k = g ∨ k ∈ ps) w w' := by
  have HCL := Lib.hid (clo_write hg a s h I T hI hTT hIg hTg)
  have HSF := Lib.hid hs
  have HTF := Lib.hid (htg hT)
  have HNG := Lib.hid hng
  have HGP := Lib.hid (show ¬ g ∈ ps from fun hm => hng g (.inr (.inr hm)) rfl)
  have HJ := Lib.hid hj
  have HXO := Lib.hid hn
  have HOK := Lib.hid hok
  obtain ⟨U, hU⟩ : ∃ U, layO u a s = U := ⟨_, rfl⟩
  rw [hU] at HOK HCL ⊢
  clear hs hT hng htg hj hn hok hU hg h hI hTT hIg hTg 
  go_enter Tryd.func24, Tryd.ntmps24
  go_wp2_with (go_at_call 25; refine HCL.out.mono ?_; rintro e w1 ⟨rfl, hg1, hf1⟩; have HG1 := Lib.hid hg1; have HF1 := Lib.hid hf1; have HT1 := Lib.hid (HTF.out _ hf1); clear hg1 hf1)
  refine wp_region_only (S := fun w' => Blk w' g 72 (pgc p n U).toArray) (by kernel_rfl) HG1.out.drew (fun hHeld => ?_)
  refine wpAnyH_take (i := 0) (v := ?v6) rfl (by kernel_rfl) (by kernel_rfl) (by kernel_rfl) (fun _ _ _ h => h) (Or.inl ⟨by rfl, ?hy6⟩) hHeld ?rest6
  case hy6 =>
    intro w' hSw
    try dsimp only at hSw
    have hp0 := Blk.pgs hSw
    have hp1 := Blk.pgn hSw
    go_simp
    first | done | with_reducible rfl
  try simp only [Act.put, List.getElem_toArray, List.getElem_cons_zero, List.setIfInBounds_toArray, List.set_cons_zero, List.set_cons_succ]
  refine wpAnyH_take (i := 1) (v := ?v7) rfl (by kernel_rfl) (by kernel_rfl) (by kernel_rfl) (fun _ _ _ h => h) (Or.inl ⟨by rfl, ?hy7⟩) hHeld ?rest7
  case hy7 =>
    intro w' hSw
    try dsimp only at hSw
    have hp0 := Blk.pgs hSw
    have hp1 := Blk.pgn hSw
    go_simp
    first | done | with_reducible rfl
  try simp only [Act.put, List.getElem_toArray, List.getElem_cons_succ, List.getElem_cons_zero, List.setIfInBounds_toArray, List.set_cons_zero, List.set_cons_succ]
  refine wpAnyH_take (i := 2) (v := ?v8) rfl (by kernel_rfl) (by kernel_rfl) (by kernel_rfl) (fun _ _ _ h => h) (Or.inl ⟨by rfl, ?hy8⟩) hHeld ?rest8
  case hy8 =>
    intro w' hSw
    try dsimp only at hSw
    have hp0 := Blk.pgs hSw
    have hp1 := Blk.pgn hSw
    go_simp
    first | done | with_reducible rfl
  try simp only [Act.put, List.getElem_toArray, List.getElem_cons_succ, List.getElem_cons_zero, List.setIfInBounds_toArray, List.set_cons_zero, List.set_cons_succ]
  refine wpAnyH_take (i := 3) (v := ?v9) rfl (by kernel_rfl) (by kernel_rfl) (by kernel_rfl) (fun _ _ _ h => h) (Or.inl ⟨by rfl, ?hy9⟩) hHeld ?rest9
  case hy9 =>
    intro w' hSw
    try dsimp only at hSw
    have hp0 := Blk.pgs hSw
    have hp1 := Blk.pgn hSw
    go_simp
    first | done | with_reducible rfl
  try simp only [Act.put, List.getElem_toArray, List.getElem_cons_succ, List.getElem_cons_zero, List.setIfInBounds_toArray, List.set_cons_zero, List.set_cons_succ]
  refine wpAnyH_take (i := 4) (v := ?v10) rfl (by kernel_rfl) (by kernel_rfl) (by kernel_rfl) (fun _ _ _ h => h) (Or.inl ⟨by rfl, ?hy10⟩) hHeld ?rest10
  case hy10 =>
    intro w' hSw
    try dsimp only at hSw
    have hp0 := Blk.pgs hSw
    have hp1 := Blk.pgn hSw
    go_simp
    first | done | with_reducible rfl
  try simp only [Act.put, List.getElem_toArray, List.getElem_cons_succ, List.getElem_cons_zero, List.setIfInBounds_toArray, List.set_cons_zero, List.set_cons_succ]
  refine wpAnyH_take (i := 5) (v := ?v11) rfl (by kernel_rfl) (by kernel_rfl) (by kernel_rfl) (fun _ _ _ h => h) (Or.inl ⟨by rfl, ?hy11⟩) hHeld ?rest11
  case hy11 =>
    intro w' hSw
    try dsimp only at hSw
    have hp0 := Blk.pgs hSw
    have hp1 := Blk.pgn hSw
    go_simp
    first | done | with_reducible rfl
  try simp only [Act.put, List.getElem_toArray, List.getElem_cons_succ, List.getElem_cons_zero, List.setIfInBounds_toArray, List.set_cons_zero, List.set_cons_succ]
  refine wpAnyH_take (i := 6) (v := ?v12) rfl (by kernel_rfl) (by kernel_rfl) (by kernel_rfl) (fun _ _ _ h => h) (Or.inl ⟨by rfl, ?hy12⟩) hHeld ?rest12
  case hy12 =>
    intro w' hSw
    try dsimp only at hSw
    have hp0 := Blk.pgs hSw
    have hp1 := Blk.pgn hSw
    go_simp
    first | done | with_reducible rfl
  try simp only [Act.put, List.getElem_toArray, List.getElem_cons_succ, List.getElem_cons_zero, List.setIfInBounds_toArray, List.set_cons_zero, List.set_cons_succ]
  refine wpAnyH_take (i := 7) (v := ?v13) rfl (by kernel_rfl) (by kernel_rfl) (by kernel_rfl) (fun _ _ _ h => h) (Or.inl ⟨by rfl, ?hy13⟩) hHeld ?rest13
  case hy13 =>
    intro w' hSw
    try dsimp only at hSw
    have hp0 := Blk.pgs hSw
    have hp1 := Blk.pgn hSw
    go_simp
    first | done | with_reducible rfl
  try simp only [Act.put, List.getElem_toArray, List.getElem_cons_succ, List.getElem_cons_zero, List.setIfInBounds_toArray, List.set_cons_zero, List.set_cons_succ]
  refine wpAnyH_take (i := 8) (v := ?v14) rfl (by kernel_rfl) (by kernel_rfl) (by kernel_rfl) (fun _ _ _ h => h) (Or.inl ⟨by rfl, ?hy14⟩) hHeld ?rest14
  case hy14 =>
    intro w' hSw
    try dsimp only at hSw
    have hp0 := Blk.pgs hSw
    have hp1 := Blk.pgn hSw
    go_simp
    first | done | with_reducible rfl
  try simp only [Act.put, List.getElem_toArray, List.getElem_cons_succ, List.getElem_cons_zero, List.setIfInBounds_toArray, List.set_cons_zero, List.set_cons_succ]
  refine wpAnyH_take (i := 9) (v := ?v15) rfl (by kernel_rfl) (by kernel_rfl) (by kernel_rfl) (fun _ _ _ h => h) (Or.inl ⟨by rfl, ?hy15⟩) hHeld ?rest15
  case hy15 =>
    intro w' hSw
    try dsimp only at hSw
    have hp0 := Blk.pgs hSw
    have hp1 := Blk.pgn hSw
    go_simp
    first | done | with_reducible rfl
  try simp only [Act.put, List.getElem_toArray, List.getElem_cons_succ, List.getElem_cons_zero, List.setIfInBounds_toArray, List.set_cons_zero, List.set_cons_succ]
  refine wpAnyH_take (i := 10) (v := ?v16) rfl (by kernel_rfl) (by kernel_rfl) (by kernel_rfl) (fun _ _ _ h => h) (Or.inl ⟨by rfl, ?hy16⟩) hHeld ?rest16
  case hy16 =>
    intro w' hSw
    try dsimp only at hSw
    have hp0 := Blk.pgs hSw
    have hp1 := Blk.pgn hSw
    go_simp
    first | done | with_reducible rfl
  try simp only [Act.put, List.getElem_toArray, List.getElem_cons_succ, List.getElem_cons_zero, List.setIfInBounds_toArray, List.set_cons_zero, List.set_cons_succ]
  refine wpAnyH_take (i := 11) rfl (by kernel_rfl) (by kernel_rfl) (by kernel_rfl) (fun _ _ _ h => h) (y_ob (by rfl) (.tmp 17) (by rfl) g 0 (by rfl) U (fun _ h => Blk.pgo h)) hHeld ?_
  try simp only [Act.put, List.getElem_toArray, List.getElem_cons_succ, List.getElem_cons_zero, List.setIfInBounds_toArray, List.set_cons_zero, List.set_cons_succ]
  refine wpAnyH_ready (rs := [12]) (by kernel_rfl) (by simp) ?_
  refine AllReadyH.cons (by rfl) (fun K hK => ?_) AllReadyH.nil
  go_simp
  refine (put_x ((HSF.out.fr HF1.out HNG.out).drew) (HT1.out.drew) j HJ.out U HOK.out HXO.out).mono ?_
  rintro e_ w3 ⟨rfl, hs3, hf3⟩
  have HS3 := Lib.hid hs3
  have HF3 := Lib.hid ((HF1.out.drew.mono (fun _ _ h => .inl h) : Fr (fun k => k = g ∨ k ∈ ps) w _).then_ hf3 (fun _ _ h => .inr h))
  have HG3 := Lib.hid (show Blk w3 g 72 (pgc p n U).toArray from (hf3.block _ HG1.out.drew.lt HGP.out).trans HG1.out.drew)
  clear hs3 hf3 hHeld
  go_wp2_with fail
  refine hK.out _ _ HG3.out (fun hHeld => ?_)
  clear hK K
  try simp only [Act.put, List.getElem_toArray, List.getElem_cons_succ, List.getElem_cons_zero, List.setIfInBounds_toArray, List.set_cons_zero, List.set_cons_succ]
  refine wpAnyH_take (i := 13) (v := ?v17) rfl (by kernel_rfl) (by kernel_rfl) (by kernel_rfl) (fun _ _ _ h => h) (Or.inl ⟨by rfl, ?hy17⟩) hHeld ?rest17
  case hy17 =>
    intro w' hSw
    try dsimp only at hSw
    have hp0 := Blk.pgs hSw
    have hp1 := Blk.pgn hSw
    go_simp
    first | done | with_reducible rfl
  try simp only [Act.put, List.getElem_toArray, List.getElem_cons_succ, List.getElem_cons_zero, List.setIfInBounds_toArray, List.set_cons_zero, List.set_cons_succ]
  refine wpAnyH_done (by kernel_rfl) ?_ _
  refine OnlyN.normal ?_
  clear HTF hHeld
  go_wp2_with fail
  go_ret
  exact ⟨rfl, HS3.out, HF3.out⟩
set_option maxRecDepth 100000 in
set_option maxHeartbeats 2000000 in
theorem chg_clear (hs : StAt w base p A cap ps os) (hT : Tab w) (hg : Blk w g 72 (pgc p n u).toArray) (hng : ∀ k, stHas p A ps k → k ≠ g) (htg : Tab w → ∀ W, Fr (fun k => k = g) w W → Tab W) (j : Nat) (hj : j < os.length) (hn : n = (j : Int))  (hok : (bAs u zbs rfl).ok os.length) :
    Calls Tryd.prog 24 #[.pointer (some ⟨g, 0, none⟩), .func (.func 27) #[] #[.pointer (some ⟨g, 0, none⟩)]] w fun e w' => e = .returned (.int .i64 0) ∧ StAt w' base p A cap ps (os.set j (bAs u zbs rfl)) ∧ Fr (fun k => k = g ∨ k ∈ ps) w w' := by
  have HCL := Lib.hid (clo_clear hg)
  have HSF := Lib.hid hs
  have HTF := Lib.hid (htg hT)
  have HNG := Lib.hid hng
  have HGP := Lib.hid (show ¬ g ∈ ps from fun hm => hng g (.inr (.inr hm)) rfl)
  have HJ := Lib.hid hj
  have HXO := Lib.hid hn
  have HOK := Lib.hid hok
  obtain ⟨U, hU⟩ : ∃ U, bAs u zbs rfl = U := ⟨_, rfl⟩
  rw [hU] at HOK HCL ⊢
  clear hs hT hng htg hj hn hok hU hg 
  go_enter Tryd.func24, Tryd.ntmps24
  go_wp2_with (go_at_call 27; refine HCL.out.mono ?_; rintro e w1 ⟨rfl, hg1, hf1⟩; have HG1 := Lib.hid hg1; have HF1 := Lib.hid hf1; have HT1 := Lib.hid (HTF.out _ hf1); clear hg1 hf1)
  refine wp_region_only (S := fun w' => Blk w' g 72 (pgc p n U).toArray) (by kernel_rfl) HG1.out.drew (fun hHeld => ?_)
  refine wpAnyH_take (i := 0) (v := ?v6) rfl (by kernel_rfl) (by kernel_rfl) (by kernel_rfl) (fun _ _ _ h => h) (Or.inl ⟨by rfl, ?hy6⟩) hHeld ?rest6
  case hy6 =>
    intro w' hSw
    try dsimp only at hSw
    have hp0 := Blk.pgs hSw
    have hp1 := Blk.pgn hSw
    go_simp
    first | done | with_reducible rfl
  try simp only [Act.put, List.getElem_toArray, List.getElem_cons_zero, List.setIfInBounds_toArray, List.set_cons_zero, List.set_cons_succ]
  refine wpAnyH_take (i := 1) (v := ?v7) rfl (by kernel_rfl) (by kernel_rfl) (by kernel_rfl) (fun _ _ _ h => h) (Or.inl ⟨by rfl, ?hy7⟩) hHeld ?rest7
  case hy7 =>
    intro w' hSw
    try dsimp only at hSw
    have hp0 := Blk.pgs hSw
    have hp1 := Blk.pgn hSw
    go_simp
    first | done | with_reducible rfl
  try simp only [Act.put, List.getElem_toArray, List.getElem_cons_succ, List.getElem_cons_zero, List.setIfInBounds_toArray, List.set_cons_zero, List.set_cons_succ]
  refine wpAnyH_take (i := 2) (v := ?v8) rfl (by kernel_rfl) (by kernel_rfl) (by kernel_rfl) (fun _ _ _ h => h) (Or.inl ⟨by rfl, ?hy8⟩) hHeld ?rest8
  case hy8 =>
    intro w' hSw
    try dsimp only at hSw
    have hp0 := Blk.pgs hSw
    have hp1 := Blk.pgn hSw
    go_simp
    first | done | with_reducible rfl
  try simp only [Act.put, List.getElem_toArray, List.getElem_cons_succ, List.getElem_cons_zero, List.setIfInBounds_toArray, List.set_cons_zero, List.set_cons_succ]
  refine wpAnyH_take (i := 3) (v := ?v9) rfl (by kernel_rfl) (by kernel_rfl) (by kernel_rfl) (fun _ _ _ h => h) (Or.inl ⟨by rfl, ?hy9⟩) hHeld ?rest9
  case hy9 =>
    intro w' hSw
    try dsimp only at hSw
    have hp0 := Blk.pgs hSw
    have hp1 := Blk.pgn hSw
    go_simp
    first | done | with_reducible rfl
  try simp only [Act.put, List.getElem_toArray, List.getElem_cons_succ, List.getElem_cons_zero, List.setIfInBounds_toArray, List.set_cons_zero, List.set_cons_succ]
  refine wpAnyH_take (i := 4) (v := ?v10) rfl (by kernel_rfl) (by kernel_rfl) (by kernel_rfl) (fun _ _ _ h => h) (Or.inl ⟨by rfl, ?hy10⟩) hHeld ?rest10
  case hy10 =>
    intro w' hSw
    try dsimp only at hSw
    have hp0 := Blk.pgs hSw
    have hp1 := Blk.pgn hSw
    go_simp
    first | done | with_reducible rfl
  try simp only [Act.put, List.getElem_toArray, List.getElem_cons_succ, List.getElem_cons_zero, List.setIfInBounds_toArray, List.set_cons_zero, List.set_cons_succ]
  refine wpAnyH_take (i := 5) (v := ?v11) rfl (by kernel_rfl) (by kernel_rfl) (by kernel_rfl) (fun _ _ _ h => h) (Or.inl ⟨by rfl, ?hy11⟩) hHeld ?rest11
  case hy11 =>
    intro w' hSw
    try dsimp only at hSw
    have hp0 := Blk.pgs hSw
    have hp1 := Blk.pgn hSw
    go_simp
    first | done | with_reducible rfl
  try simp only [Act.put, List.getElem_toArray, List.getElem_cons_succ, List.getElem_cons_zero, List.setIfInBounds_toArray, List.set_cons_zero, List.set_cons_succ]
  refine wpAnyH_take (i := 6) (v := ?v12) rfl (by kernel_rfl) (by kernel_rfl) (by kernel_rfl) (fun _ _ _ h => h) (Or.inl ⟨by rfl, ?hy12⟩) hHeld ?rest12
  case hy12 =>
    intro w' hSw
    try dsimp only at hSw
    have hp0 := Blk.pgs hSw
    have hp1 := Blk.pgn hSw
    go_simp
    first | done | with_reducible rfl
  try simp only [Act.put, List.getElem_toArray, List.getElem_cons_succ, List.getElem_cons_zero, List.setIfInBounds_toArray, List.set_cons_zero, List.set_cons_succ]
  refine wpAnyH_take (i := 7) (v := ?v13) rfl (by kernel_rfl) (by kernel_rfl) (by kernel_rfl) (fun _ _ _ h => h) (Or.inl ⟨by rfl, ?hy13⟩) hHeld ?rest13
  case hy13 =>
    intro w' hSw
    try dsimp only at hSw
    have hp0 := Blk.pgs hSw
    have hp1 := Blk.pgn hSw
    go_simp
    first | done | with_reducible rfl
  try simp only [Act.put, List.getElem_toArray, List.getElem_cons_succ, List.getElem_cons_zero, List.setIfInBounds_toArray, List.set_cons_zero, List.set_cons_succ]
  refine wpAnyH_take (i := 8) (v := ?v14) rfl (by kernel_rfl) (by kernel_rfl) (by kernel_rfl) (fun _ _ _ h => h) (Or.inl ⟨by rfl, ?hy14⟩) hHeld ?rest14
  case hy14 =>
    intro w' hSw
    try dsimp only at hSw
    have hp0 := Blk.pgs hSw
    have hp1 := Blk.pgn hSw
    go_simp
    first | done | with_reducible rfl
  try simp only [Act.put, List.getElem_toArray, List.getElem_cons_succ, List.getElem_cons_zero, List.setIfInBounds_toArray, List.set_cons_zero, List.set_cons_succ]
  refine wpAnyH_take (i := 9) (v := ?v15) rfl (by kernel_rfl) (by kernel_rfl) (by kernel_rfl) (fun _ _ _ h => h) (Or.inl ⟨by rfl, ?hy15⟩) hHeld ?rest15
  case hy15 =>
    intro w' hSw
    try dsimp only at hSw
    have hp0 := Blk.pgs hSw
    have hp1 := Blk.pgn hSw
    go_simp
    first | done | with_reducible rfl
  try simp only [Act.put, List.getElem_toArray, List.getElem_cons_succ, List.getElem_cons_zero, List.setIfInBounds_toArray, List.set_cons_zero, List.set_cons_succ]
  refine wpAnyH_take (i := 10) (v := ?v16) rfl (by kernel_rfl) (by kernel_rfl) (by kernel_rfl) (fun _ _ _ h => h) (Or.inl ⟨by rfl, ?hy16⟩) hHeld ?rest16
  case hy16 =>
    intro w' hSw
    try dsimp only at hSw
    have hp0 := Blk.pgs hSw
    have hp1 := Blk.pgn hSw
    go_simp
    first | done | with_reducible rfl
  try simp only [Act.put, List.getElem_toArray, List.getElem_cons_succ, List.getElem_cons_zero, List.setIfInBounds_toArray, List.set_cons_zero, List.set_cons_succ]
  refine wpAnyH_take (i := 11) rfl (by kernel_rfl) (by kernel_rfl) (by kernel_rfl) (fun _ _ _ h => h) (y_ob (by rfl) (.tmp 17) (by rfl) g 0 (by rfl) U (fun _ h => Blk.pgo h)) hHeld ?_
  try simp only [Act.put, List.getElem_toArray, List.getElem_cons_succ, List.getElem_cons_zero, List.setIfInBounds_toArray, List.set_cons_zero, List.set_cons_succ]
  refine wpAnyH_ready (rs := [12]) (by kernel_rfl) (by simp) ?_
  refine AllReadyH.cons (by rfl) (fun K hK => ?_) AllReadyH.nil
  go_simp
  refine (put_x ((HSF.out.fr HF1.out HNG.out).drew) (HT1.out.drew) j HJ.out U HOK.out HXO.out).mono ?_
  rintro e_ w3 ⟨rfl, hs3, hf3⟩
  have HS3 := Lib.hid hs3
  have HF3 := Lib.hid ((HF1.out.drew.mono (fun _ _ h => .inl h) : Fr (fun k => k = g ∨ k ∈ ps) w _).then_ hf3 (fun _ _ h => .inr h))
  have HG3 := Lib.hid (show Blk w3 g 72 (pgc p n U).toArray from (hf3.block _ HG1.out.drew.lt HGP.out).trans HG1.out.drew)
  clear hs3 hf3 hHeld
  go_wp2_with fail
  refine hK.out _ _ HG3.out (fun hHeld => ?_)
  clear hK K
  try simp only [Act.put, List.getElem_toArray, List.getElem_cons_succ, List.getElem_cons_zero, List.setIfInBounds_toArray, List.set_cons_zero, List.set_cons_succ]
  refine wpAnyH_take (i := 13) (v := ?v17) rfl (by kernel_rfl) (by kernel_rfl) (by kernel_rfl) (fun _ _ _ h => h) (Or.inl ⟨by rfl, ?hy17⟩) hHeld ?rest17
  case hy17 =>
    intro w' hSw
    try dsimp only at hSw
    have hp0 := Blk.pgs hSw
    have hp1 := Blk.pgn hSw
    go_simp
    first | done | with_reducible rfl
  try simp only [Act.put, List.getElem_toArray, List.getElem_cons_succ, List.getElem_cons_zero, List.setIfInBounds_toArray, List.set_cons_zero, List.set_cons_succ]
  refine wpAnyH_done (by kernel_rfl) ?_ _
  refine OnlyN.normal ?_
  clear HTF hHeld
  go_wp2_with fail
  go_ret
  exact ⟨rfl, HS3.out, HF3.out⟩
set_option maxRecDepth 100000 in
set_option maxHeartbeats 2000000 in
theorem chg_copy (hs : StAt w base p A cap ps os) (hT : Tab w) (hg : Blk w g 72 (pgc p n u).toArray) (hng : ∀ k, stHas p A ps k → k ≠ g) (htg : Tab w → ∀ W, Fr (fun k => k = g) w W → Tab W) (j : Nat) (hj : j < os.length) (hn : n = (j : Int)) (h : Nat) (p' : Nat) (n' : Int) (v : Oj) (hh : Blk w h 72 (pgc p' n' v).toArray) (hok : (bAs u v.b v.hb).ok os.length) :
    Calls Tryd.prog 24 #[.pointer (some ⟨g, 0, none⟩), .func (.func 28) #[] #[.pointer (some ⟨h, 0, none⟩), .pointer (some ⟨g, 0, none⟩)]] w fun e w' => e = .returned (.int .i64 0) ∧ StAt w' base p A cap ps (os.set j (bAs u v.b v.hb)) ∧ Fr (fun k => k = g ∨ k ∈ ps) w w' := by
  have HCL := Lib.hid (clo_copy hg h p' n' v hh)
  have HSF := Lib.hid hs
  have HTF := Lib.hid (htg hT)
  have HNG := Lib.hid hng
  have HGP := Lib.hid (show ¬ g ∈ ps from fun hm => hng g (.inr (.inr hm)) rfl)
  have HJ := Lib.hid hj
  have HXO := Lib.hid hn
  have HOK := Lib.hid hok
  obtain ⟨U, hU⟩ : ∃ U, bAs u v.b v.hb = U := ⟨_, rfl⟩
  rw [hU] at HOK HCL ⊢
  clear hs hT hng htg hj hn hok hU hg hh 
  go_enter Tryd.func24, Tryd.ntmps24
  go_wp2_with (go_at_call 28; refine HCL.out.mono ?_; rintro e w1 ⟨rfl, hg1, hf1⟩; have HG1 := Lib.hid hg1; have HF1 := Lib.hid hf1; have HT1 := Lib.hid (HTF.out _ hf1); clear hg1 hf1)
  refine wp_region_only (S := fun w' => Blk w' g 72 (pgc p n U).toArray) (by kernel_rfl) HG1.out.drew (fun hHeld => ?_)
  refine wpAnyH_take (i := 0) (v := ?v6) rfl (by kernel_rfl) (by kernel_rfl) (by kernel_rfl) (fun _ _ _ h => h) (Or.inl ⟨by rfl, ?hy6⟩) hHeld ?rest6
  case hy6 =>
    intro w' hSw
    try dsimp only at hSw
    have hp0 := Blk.pgs hSw
    have hp1 := Blk.pgn hSw
    go_simp
    first | done | with_reducible rfl
  try simp only [Act.put, List.getElem_toArray, List.getElem_cons_zero, List.setIfInBounds_toArray, List.set_cons_zero, List.set_cons_succ]
  refine wpAnyH_take (i := 1) (v := ?v7) rfl (by kernel_rfl) (by kernel_rfl) (by kernel_rfl) (fun _ _ _ h => h) (Or.inl ⟨by rfl, ?hy7⟩) hHeld ?rest7
  case hy7 =>
    intro w' hSw
    try dsimp only at hSw
    have hp0 := Blk.pgs hSw
    have hp1 := Blk.pgn hSw
    go_simp
    first | done | with_reducible rfl
  try simp only [Act.put, List.getElem_toArray, List.getElem_cons_succ, List.getElem_cons_zero, List.setIfInBounds_toArray, List.set_cons_zero, List.set_cons_succ]
  refine wpAnyH_take (i := 2) (v := ?v8) rfl (by kernel_rfl) (by kernel_rfl) (by kernel_rfl) (fun _ _ _ h => h) (Or.inl ⟨by rfl, ?hy8⟩) hHeld ?rest8
  case hy8 =>
    intro w' hSw
    try dsimp only at hSw
    have hp0 := Blk.pgs hSw
    have hp1 := Blk.pgn hSw
    go_simp
    first | done | with_reducible rfl
  try simp only [Act.put, List.getElem_toArray, List.getElem_cons_succ, List.getElem_cons_zero, List.setIfInBounds_toArray, List.set_cons_zero, List.set_cons_succ]
  refine wpAnyH_take (i := 3) (v := ?v9) rfl (by kernel_rfl) (by kernel_rfl) (by kernel_rfl) (fun _ _ _ h => h) (Or.inl ⟨by rfl, ?hy9⟩) hHeld ?rest9
  case hy9 =>
    intro w' hSw
    try dsimp only at hSw
    have hp0 := Blk.pgs hSw
    have hp1 := Blk.pgn hSw
    go_simp
    first | done | with_reducible rfl
  try simp only [Act.put, List.getElem_toArray, List.getElem_cons_succ, List.getElem_cons_zero, List.setIfInBounds_toArray, List.set_cons_zero, List.set_cons_succ]
  refine wpAnyH_take (i := 4) (v := ?v10) rfl (by kernel_rfl) (by kernel_rfl) (by kernel_rfl) (fun _ _ _ h => h) (Or.inl ⟨by rfl, ?hy10⟩) hHeld ?rest10
  case hy10 =>
    intro w' hSw
    try dsimp only at hSw
    have hp0 := Blk.pgs hSw
    have hp1 := Blk.pgn hSw
    go_simp
    first | done | with_reducible rfl
  try simp only [Act.put, List.getElem_toArray, List.getElem_cons_succ, List.getElem_cons_zero, List.setIfInBounds_toArray, List.set_cons_zero, List.set_cons_succ]
  refine wpAnyH_take (i := 5) (v := ?v11) rfl (by kernel_rfl) (by kernel_rfl) (by kernel_rfl) (fun _ _ _ h => h) (Or.inl ⟨by rfl, ?hy11⟩) hHeld ?rest11
  case hy11 =>
    intro w' hSw
    try dsimp only at hSw
    have hp0 := Blk.pgs hSw
    have hp1 := Blk.pgn hSw
    go_simp
    first | done | with_reducible rfl
  try simp only [Act.put, List.getElem_toArray, List.getElem_cons_succ, List.getElem_cons_zero, List.setIfInBounds_toArray, List.set_cons_zero, List.set_cons_succ]
  refine wpAnyH_take (i := 6) (v := ?v12) rfl (by kernel_rfl) (by kernel_rfl) (by kernel_rfl) (fun _ _ _ h => h) (Or.inl ⟨by rfl, ?hy12⟩) hHeld ?rest12
  case hy12 =>
    intro w' hSw
    try dsimp only at hSw
    have hp0 := Blk.pgs hSw
    have hp1 := Blk.pgn hSw
    go_simp
    first | done | with_reducible rfl
  try simp only [Act.put, List.getElem_toArray, List.getElem_cons_succ, List.getElem_cons_zero, List.setIfInBounds_toArray, List.set_cons_zero, List.set_cons_succ]
  refine wpAnyH_take (i := 7) (v := ?v13) rfl (by kernel_rfl) (by kernel_rfl) (by kernel_rfl) (fun _ _ _ h => h) (Or.inl ⟨by rfl, ?hy13⟩) hHeld ?rest13
  case hy13 =>
    intro w' hSw
    try dsimp only at hSw
    have hp0 := Blk.pgs hSw
    have hp1 := Blk.pgn hSw
    go_simp
    first | done | with_reducible rfl
  try simp only [Act.put, List.getElem_toArray, List.getElem_cons_succ, List.getElem_cons_zero, List.setIfInBounds_toArray, List.set_cons_zero, List.set_cons_succ]
  refine wpAnyH_take (i := 8) (v := ?v14) rfl (by kernel_rfl) (by kernel_rfl) (by kernel_rfl) (fun _ _ _ h => h) (Or.inl ⟨by rfl, ?hy14⟩) hHeld ?rest14
  case hy14 =>
    intro w' hSw
    try dsimp only at hSw
    have hp0 := Blk.pgs hSw
    have hp1 := Blk.pgn hSw
    go_simp
    first | done | with_reducible rfl
  try simp only [Act.put, List.getElem_toArray, List.getElem_cons_succ, List.getElem_cons_zero, List.setIfInBounds_toArray, List.set_cons_zero, List.set_cons_succ]
  refine wpAnyH_take (i := 9) (v := ?v15) rfl (by kernel_rfl) (by kernel_rfl) (by kernel_rfl) (fun _ _ _ h => h) (Or.inl ⟨by rfl, ?hy15⟩) hHeld ?rest15
  case hy15 =>
    intro w' hSw
    try dsimp only at hSw
    have hp0 := Blk.pgs hSw
    have hp1 := Blk.pgn hSw
    go_simp
    first | done | with_reducible rfl
  try simp only [Act.put, List.getElem_toArray, List.getElem_cons_succ, List.getElem_cons_zero, List.setIfInBounds_toArray, List.set_cons_zero, List.set_cons_succ]
  refine wpAnyH_take (i := 10) (v := ?v16) rfl (by kernel_rfl) (by kernel_rfl) (by kernel_rfl) (fun _ _ _ h => h) (Or.inl ⟨by rfl, ?hy16⟩) hHeld ?rest16
  case hy16 =>
    intro w' hSw
    try dsimp only at hSw
    have hp0 := Blk.pgs hSw
    have hp1 := Blk.pgn hSw
    go_simp
    first | done | with_reducible rfl
  try simp only [Act.put, List.getElem_toArray, List.getElem_cons_succ, List.getElem_cons_zero, List.setIfInBounds_toArray, List.set_cons_zero, List.set_cons_succ]
  refine wpAnyH_take (i := 11) rfl (by kernel_rfl) (by kernel_rfl) (by kernel_rfl) (fun _ _ _ h => h) (y_ob (by rfl) (.tmp 17) (by rfl) g 0 (by rfl) U (fun _ h => Blk.pgo h)) hHeld ?_
  try simp only [Act.put, List.getElem_toArray, List.getElem_cons_succ, List.getElem_cons_zero, List.setIfInBounds_toArray, List.set_cons_zero, List.set_cons_succ]
  refine wpAnyH_ready (rs := [12]) (by kernel_rfl) (by simp) ?_
  refine AllReadyH.cons (by rfl) (fun K hK => ?_) AllReadyH.nil
  go_simp
  refine (put_x ((HSF.out.fr HF1.out HNG.out).drew) (HT1.out.drew) j HJ.out U HOK.out HXO.out).mono ?_
  rintro e_ w3 ⟨rfl, hs3, hf3⟩
  have HS3 := Lib.hid hs3
  have HF3 := Lib.hid ((HF1.out.drew.mono (fun _ _ h => .inl h) : Fr (fun k => k = g ∨ k ∈ ps) w _).then_ hf3 (fun _ _ h => .inr h))
  have HG3 := Lib.hid (show Blk w3 g 72 (pgc p n U).toArray from (hf3.block _ HG1.out.drew.lt HGP.out).trans HG1.out.drew)
  clear hs3 hf3 hHeld
  go_wp2_with fail
  refine hK.out _ _ HG3.out (fun hHeld => ?_)
  clear hK K
  try simp only [Act.put, List.getElem_toArray, List.getElem_cons_succ, List.getElem_cons_zero, List.setIfInBounds_toArray, List.set_cons_zero, List.set_cons_succ]
  refine wpAnyH_take (i := 13) (v := ?v17) rfl (by kernel_rfl) (by kernel_rfl) (by kernel_rfl) (fun _ _ _ h => h) (Or.inl ⟨by rfl, ?hy17⟩) hHeld ?rest17
  case hy17 =>
    intro w' hSw
    try dsimp only at hSw
    have hp0 := Blk.pgs hSw
    have hp1 := Blk.pgn hSw
    go_simp
    first | done | with_reducible rfl
  try simp only [Act.put, List.getElem_toArray, List.getElem_cons_succ, List.getElem_cons_zero, List.setIfInBounds_toArray, List.set_cons_zero, List.set_cons_succ]
  refine wpAnyH_done (by kernel_rfl) ?_ _
  refine OnlyN.normal ?_
  clear HTF hHeld
  go_wp2_with fail
  go_ret
  exact ⟨rfl, HS3.out, HF3.out⟩
end
end Go.Proofs.YtedlacdijkggjaaDoor

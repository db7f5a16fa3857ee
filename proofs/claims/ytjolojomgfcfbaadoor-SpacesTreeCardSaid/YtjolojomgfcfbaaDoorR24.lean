/- pages: what is done to a page that was come to; change. -/
import Derived.Test.YtjolojomgfcfbaaDoorR23
import Derived.Test.YtjolojomgfcfbaaDoorR05
namespace Go.Proofs.YtjolojomgfcfbaaDoor
open Go.RowKit
set_option maxRecDepth 8000 in
theorem step_copy_pg {ops : Array Oper} {o : Oper} {a : Act} {w : World} {K : Act → World → Prop} {Q : Exit → Act → World → Prop} {E : Prop} (hgd : o.guard = none) (d s : Operand)
    (ho : o.op = .call { callee := .builtin .copy, args := #[d, s], argTypes := #[77, 9] }) {g p : Nat} {n : Int} {u : Oj} {t : TypeId} (i : Nat) (l : List UInt8) (h : i + l.length ≤ 64)
    (hd : a.eval d = .slice (some (cutP g 99 i)) (64 - i) (64 - i)) (hs : a.eval s = .string (st l)) (hg : Blk w g t (pgc p n u).toArray)
    (hK : K (a.put o.dst (.int .i64 (l.length : Int))) (w.setRow g (pgc p n (layO u i l)).toArray)) :
    if Region.wanted o (yielded ops a.tmps) = true then Oper.wp Tryd.prog o a w K Q else E := by
  have hl : (lay u.b i l).length = 64 := by rw [lay_len (by rw [u.hb]; exact h)]; exact u.hb
  have hrun := run_copy_pg (p := p) (n := n) (u := u) o.type i l h hl hg
  rw [← layO_eq h hl] at hrun
  rw [if_pos (by simp [Region.wanted, hgd])]
  unfold Oper.wp
  simp [execOp, ho, resolve, invoke, builtin, hd, hs, hrun, Result.andThen]
  exact hK
section
variable {w : World} {g p : Nat} {n : Int} {u : Oj}
set_option maxRecDepth 100000 in
set_option maxHeartbeats 2000000 in
theorem clo_write (hg : Blk w g 71 (pgc p n u).toArray) (a : Nat) (s : List UInt8) (h : a + s.length ≤ 64) (I T : Nat) {it tt : TypeId} (hI : Blk w I it #[.int .i64 (a : Int)]) (hT : Blk w T tt #[.string (st s)]) (hIg : I ≠ g) (hTg : T ≠ g) :
    Calls Tryd.prog 29 #[.pointer (some ⟨g, 0, none⟩), .pointer (some ⟨I, 0, none⟩), .pointer (some ⟨T, 0, none⟩)] w fun e w' => e = .returned (.tuple #[]) ∧ Blk w' g 71 (pgc p n (layO u a s)).toArray ∧ Fr (fun k => k = g) w w' := by
  have HG := Lib.hid hg
  have HI := Lib.hid hI
  have HT := Lib.hid hT
  have HIG := Lib.hid hIg
  have HTG := Lib.hid hTg
  have HA := Lib.hid h
  have hsl := run_cut_lo g 99 a (by omega)
  clear hg h hI hT hIg hTg
  go_enter Tryd.func29, Tryd.ntmps29
  refine wp_region_only (S := fun w' => w'.cell? ⟨I, 0, none⟩ = some (.int .i64 (a : Int)) ∧ w'.cell? ⟨T, 0, none⟩ = some (.string (st s))) (by kernel_rfl) ⟨HI.out.drew.cell 0, HT.out.drew.cell 0⟩ (fun hHeld => ?_)
  refine wpAnyH_take (i := 0) (v := ?v1) rfl (by kernel_rfl) (by kernel_rfl) (by kernel_rfl) (fun _ _ _ h => h) (Or.inl ⟨by rfl, ?hy1⟩) hHeld ?rest1
  case hy1 =>
    intro w' hSw
    try dsimp only at hSw
    go_simp
    first | done | with_reducible rfl
  try simp only [Act.put, List.getElem_toArray, List.getElem_cons_zero, List.setIfInBounds_toArray, List.set_cons_zero, List.set_cons_succ]
  refine wpAnyH_take (i := 1) (v := ?v2) rfl (by kernel_rfl) (by kernel_rfl) (by kernel_rfl) (fun _ _ _ h => h) (Or.inl ⟨by rfl, ?hy2⟩) hHeld ?rest2
  case hy2 =>
    intro w' hSw
    try dsimp only at hSw
    go_simp
    first | done | with_reducible rfl
  try simp only [Act.put, List.getElem_toArray, List.getElem_cons_succ, List.getElem_cons_zero, List.setIfInBounds_toArray, List.set_cons_zero, List.set_cons_succ]
  refine wpAnyH_take (i := 2) (v := ?v3) rfl (by kernel_rfl) (by kernel_rfl) (by kernel_rfl) (fun _ _ _ h => h) (Or.inl ⟨by rfl, ?hy3⟩) hHeld ?rest3
  case hy3 =>
    intro w' hSw
    try dsimp only at hSw
    go_simp
    first | done | with_reducible rfl
  try simp only [Act.put, List.getElem_toArray, List.getElem_cons_succ, List.getElem_cons_zero, List.setIfInBounds_toArray, List.set_cons_zero, List.set_cons_succ]
  refine wpAnyH_take (i := 3) (v := ?v4) rfl (by kernel_rfl) (by kernel_rfl) (by kernel_rfl) (fun _ _ _ h => h) (Or.inl ⟨by rfl, ?hy4⟩) hHeld ?rest4
  case hy4 =>
    intro w' hSw
    try dsimp only at hSw
    go_simp
    first | done | with_reducible rfl
  try simp only [Act.put, List.getElem_toArray, List.getElem_cons_succ, List.getElem_cons_zero, List.setIfInBounds_toArray, List.set_cons_zero, List.set_cons_succ]
  refine wpAnyH_take (i := 4) (v := ?v5) rfl (by kernel_rfl) (by kernel_rfl) (by kernel_rfl) (fun _ _ _ h => h) (Or.inl ⟨by rfl, ?hy5⟩) hHeld ?rest5
  case hy5 =>
    intro w' hSw
    try dsimp only at hSw
    go_simp
    first | done | with_reducible rfl
  try simp only [Act.put, List.getElem_toArray, List.getElem_cons_succ, List.getElem_cons_zero, List.setIfInBounds_toArray, List.set_cons_zero, List.set_cons_succ]
  refine wpAnyH_ready (rs := [5]) (by kernel_rfl) (by simp) ?_
  refine AllReadyH.cons (by rfl) (fun K hK => ?_) AllReadyH.nil
  refine step_copy_pg rfl (.tmp 6) (.tmp 7) (by rfl) a s HA.out (by rfl) (by rfl) HG.out.drew ?_
  refine hK.out _ _ ⟨(Blk.row_far HI.out.drew HIG.out _).cell 0, (Blk.row_far HT.out.drew HTG.out _).cell 0⟩ (fun hHeld => ?_)
  clear hK K
  try simp only [Act.put, List.getElem_toArray, List.getElem_cons_succ, List.getElem_cons_zero, List.setIfInBounds_toArray, List.set_cons_zero, List.set_cons_succ]
  refine wpAnyH_done (by kernel_rfl) ?_ _
  refine OnlyN.normal ?_
  clear hHeld
  go_wp2_with fail
  go_end0
  exact ⟨rfl, HG.out.drew.setRow _, Fr.trans ((Fr.refl _ w).drew) (setRow_fr _ _ _)⟩
end
section
variable {w : World} {base p : Nat} {A : Option Addr} {cap : Nat} {ps : List Nat} {os : List Oj} {g : Nat} {n : Int} {u : Oj}
set_option maxRecDepth 100000 in
set_option maxHeartbeats 2000000 in
theorem chg_write (hs : StAt w base p A cap ps os) (hT : Tab w) (hg : Blk w g 71 (pgc p n u).toArray) (hng : ∀ k, stHas p A ps k → k ≠ g) (htg : Tab w → ∀ W, Fr (fun k => k = g) w W → Tab W) (j : Nat) (hj : j < os.length) (hn : n = (j : Int)) (a : Nat) (s : List UInt8) (h : a + s.length ≤ 64) (I T : Nat) {it tt : TypeId} (hI : Blk w I it #[.int .i64 (a : Int)]) (hTT : Blk w T tt #[.string (st s)]) (hIg : I ≠ g) (hTg : T ≠ g) (hok : (layO u a s).ok os.length) :
    Calls Tryd.prog 28 #[.pointer (some ⟨g, 0, none⟩), .func (.func 29) #[] #[.pointer (some ⟨g, 0, none⟩), .pointer (some ⟨I, 0, none⟩), .pointer (some ⟨T, 0, none⟩)]] w fun e w' => e = .returned (.int .i64 0) ∧ StAt w' base p A cap ps (os.set j (layO u a s)) ∧ Fr (fun k => k = g ∨ k ∈ ps) w w' := by
  have HCL := Lib.hid (clo_write hg a s h I T hI hTT hIg hTg)
  have HSF := Lib.hid hs
  have HTF := Lib.hid (htg hT)
  have HNG := Lib.hid hng
  have HGP := Lib.hid (show ¬ g ∈ ps from fun hm => hng g (.inr (.inr hm)) rfl)
  have HJ := Lib.hid hj
  have HXO := Lib.hid hn
  have HOK := Lib.hid hok
  obtain ⟨U, hU⟩ : ∃ U, layO u a s = U := ⟨_, rfl⟩
  rw [hU] at HOK HCL ⊢
  clear hs hT hng htg hj hn hok hU hg h hI hTT hIg hTg 
  go_enter Tryd.func28, Tryd.ntmps28
  go_wp2_with (go_at_call 29; refine HCL.out.mono ?_; rintro e w1 ⟨rfl, hg1, hf1⟩; have HG1 := Lib.hid hg1; have HF1 := Lib.hid hf1; have HT1 := Lib.hid (HTF.out _ hf1); clear hg1 hf1)
  refine wp_region_only (S := fun w' => Blk w' g 71 (pgc p n U).toArray) (by kernel_rfl) HG1.out.drew (fun hHeld => ?_)
  refine wpAnyH_take (i := 0) (v := ?v6) rfl (by kernel_rfl) (by kernel_rfl) (by kernel_rfl) (fun _ _ _ h => h) (Or.inl ⟨by rfl, ?hy6⟩) hHeld ?rest6
  case hy6 =>
    intro w' hSw
    try dsimp only at hSw
    have hp0 := Blk.pgs hSw
    have hp1 := Blk.pgn hSw
    go_simp
    first | done | with_reducible rfl
  try simp only [Act.put, List.getElem_toArray, List.getElem_cons_zero, List.setIfInBounds_toArray, List.set_cons_zero, List.set_cons_succ]
  refine wpAnyH_take (i := 1) (v := ?v7) rfl (by kernel_rfl) (by kernel_rfl) (by kernel_rfl) (fun _ _ _ h => h) (Or.inl ⟨by rfl, ?hy7⟩) hHeld ?rest7
  case hy7 =>
    intro w' hSw
    try dsimp only at hSw
    have hp0 := Blk.pgs hSw
    have hp1 := Blk.pgn hSw
    go_simp
    first | done | with_reducible rfl
  try simp only [Act.put, List.getElem_toArray, List.getElem_cons_succ, List.getElem_cons_zero, List.setIfInBounds_toArray, List.set_cons_zero, List.set_cons_succ]
  refine wpAnyH_take (i := 2) (v := ?v8) rfl (by kernel_rfl) (by kernel_rfl) (by kernel_rfl) (fun _ _ _ h => h) (Or.inl ⟨by rfl, ?hy8⟩) hHeld ?rest8
  case hy8 =>
    intro w' hSw
    try dsimp only at hSw
    have hp0 := Blk.pgs hSw
    have hp1 := Blk.pgn hSw
    go_simp
    first | done | with_reducible rfl
  try simp only [Act.put, List.getElem_toArray, List.getElem_cons_succ, List.getElem_cons_zero, List.setIfInBounds_toArray, List.set_cons_zero, List.set_cons_succ]
  refine wpAnyH_take (i := 3) (v := ?v9) rfl (by kernel_rfl) (by kernel_rfl) (by kernel_rfl) (fun _ _ _ h => h) (Or.inl ⟨by rfl, ?hy9⟩) hHeld ?rest9
  case hy9 =>
    intro w' hSw
    try dsimp only at hSw
    have hp0 := Blk.pgs hSw
    have hp1 := Blk.pgn hSw
    go_simp
    first | done | with_reducible rfl
  try simp only [Act.put, List.getElem_toArray, List.getElem_cons_succ, List.getElem_cons_zero, List.setIfInBounds_toArray, List.set_cons_zero, List.set_cons_succ]
  refine wpAnyH_take (i := 4) (v := ?v10) rfl (by kernel_rfl) (by kernel_rfl) (by kernel_rfl) (fun _ _ _ h => h) (Or.inl ⟨by rfl, ?hy10⟩) hHeld ?rest10
  case hy10 =>
    intro w' hSw
    try dsimp only at hSw
    have hp0 := Blk.pgs hSw
    have hp1 := Blk.pgn hSw
    go_simp
    first | done | with_reducible rfl
  try simp only [Act.put, List.getElem_toArray, List.getElem_cons_succ, List.getElem_cons_zero, List.setIfInBounds_toArray, List.set_cons_zero, List.set_cons_succ]
  refine wpAnyH_take (i := 5) (v := ?v11) rfl (by kernel_rfl) (by kernel_rfl) (by kernel_rfl) (fun _ _ _ h => h) (Or.inl ⟨by rfl, ?hy11⟩) hHeld ?rest11
  case hy11 =>
    intro w' hSw
    try dsimp only at hSw
    have hp0 := Blk.pgs hSw
    have hp1 := Blk.pgn hSw
    go_simp
    first | done | with_reducible rfl
  try simp only [Act.put, List.getElem_toArray, List.getElem_cons_succ, List.getElem_cons_zero, List.setIfInBounds_toArray, List.set_cons_zero, List.set_cons_succ]
  refine wpAnyH_take (i := 6) (v := ?v12) rfl (by kernel_rfl) (by kernel_rfl) (by kernel_rfl) (fun _ _ _ h => h) (Or.inl ⟨by rfl, ?hy12⟩) hHeld ?rest12
  case hy12 =>
    intro w' hSw
    try dsimp only at hSw
    have hp0 := Blk.pgs hSw
    have hp1 := Blk.pgn hSw
    go_simp
    first | done | with_reducible rfl
  try simp only [Act.put, List.getElem_toArray, List.getElem_cons_succ, List.getElem_cons_zero, List.setIfInBounds_toArray, List.set_cons_zero, List.set_cons_succ]
  refine wpAnyH_take (i := 7) (v := ?v13) rfl (by kernel_rfl) (by kernel_rfl) (by kernel_rfl) (fun _ _ _ h => h) (Or.inl ⟨by rfl, ?hy13⟩) hHeld ?rest13
  case hy13 =>
    intro w' hSw
    try dsimp only at hSw
    have hp0 := Blk.pgs hSw
    have hp1 := Blk.pgn hSw
    go_simp
    first | done | with_reducible rfl
  try simp only [Act.put, List.getElem_toArray, List.getElem_cons_succ, List.getElem_cons_zero, List.setIfInBounds_toArray, List.set_cons_zero, List.set_cons_succ]
  refine wpAnyH_take (i := 8) (v := ?v14) rfl (by kernel_rfl) (by kernel_rfl) (by kernel_rfl) (fun _ _ _ h => h) (Or.inl ⟨by rfl, ?hy14⟩) hHeld ?rest14
  case hy14 =>
    intro w' hSw
    try dsimp only at hSw
    have hp0 := Blk.pgs hSw
    have hp1 := Blk.pgn hSw
    go_simp
    first | done | with_reducible rfl
  try simp only [Act.put, List.getElem_toArray, List.getElem_cons_succ, List.getElem_cons_zero, List.setIfInBounds_toArray, List.set_cons_zero, List.set_cons_succ]
  refine wpAnyH_take (i := 9) (v := ?v15) rfl (by kernel_rfl) (by kernel_rfl) (by kernel_rfl) (fun _ _ _ h => h) (Or.inl ⟨by rfl, ?hy15⟩) hHeld ?rest15
  case hy15 =>
    intro w' hSw
    try dsimp only at hSw
    have hp0 := Blk.pgs hSw
    have hp1 := Blk.pgn hSw
    go_simp
    first | done | with_reducible rfl
  try simp only [Act.put, List.getElem_toArray, List.getElem_cons_succ, List.getElem_cons_zero, List.setIfInBounds_toArray, List.set_cons_zero, List.set_cons_succ]
  refine wpAnyH_take (i := 10) (v := ?v16) rfl (by kernel_rfl) (by kernel_rfl) (by kernel_rfl) (fun _ _ _ h => h) (Or.inl ⟨by rfl, ?hy16⟩) hHeld ?rest16
  case hy16 =>
    intro w' hSw
    try dsimp only at hSw
    have hp0 := Blk.pgs hSw
    have hp1 := Blk.pgn hSw
    go_simp
    first | done | with_reducible rfl
  try simp only [Act.put, List.getElem_toArray, List.getElem_cons_succ, List.getElem_cons_zero, List.setIfInBounds_toArray, List.set_cons_zero, List.set_cons_succ]
  refine wpAnyH_take (i := 11) rfl (by kernel_rfl) (by kernel_rfl) (by kernel_rfl) (fun _ _ _ h => h) (y_ob (by rfl) (.tmp 17) (by rfl) g 0 (by rfl) U (fun _ h => Blk.pgo h)) hHeld ?_
  try simp only [Act.put, List.getElem_toArray, List.getElem_cons_succ, List.getElem_cons_zero, List.setIfInBounds_toArray, List.set_cons_zero, List.set_cons_succ]
  refine wpAnyH_ready (rs := [12]) (by kernel_rfl) (by simp) ?_
  refine AllReadyH.cons (by rfl) (fun K hK => ?_) AllReadyH.nil
  go_simp
  refine (put_x ((HSF.out.fr HF1.out HNG.out).drew) (HT1.out.drew) j HJ.out U HOK.out HXO.out).mono ?_
  rintro e_ w3 ⟨rfl, hs3, hf3⟩
  have HS3 := Lib.hid hs3
  have HF3 := Lib.hid ((HF1.out.drew.mono (fun _ _ h => .inl h) : Fr (fun k => k = g ∨ k ∈ ps) w _).then_ hf3 (fun _ _ h => .inr h))
  have HG3 := Lib.hid (show Blk w3 g 71 (pgc p n U).toArray from (hf3.block _ HG1.out.drew.lt HGP.out).trans HG1.out.drew)
  clear hs3 hf3 hHeld
  go_wp2_with fail
  refine hK.out _ _ HG3.out (fun hHeld => ?_)
  clear hK K
  try simp only [Act.put, List.getElem_toArray, List.getElem_cons_succ, List.getElem_cons_zero, List.setIfInBounds_toArray, List.set_cons_zero, List.set_cons_succ]
  refine wpAnyH_take (i := 13) (v := ?v17) rfl (by kernel_rfl) (by kernel_rfl) (by kernel_rfl) (fun _ _ _ h => h) (Or.inl ⟨by rfl, ?hy17⟩) hHeld ?rest17
  case hy17 =>
    intro w' hSw
    try dsimp only at hSw
    have hp0 := Blk.pgs hSw
    have hp1 := Blk.pgn hSw
    go_simp
    first | done | with_reducible rfl
  try simp only [Act.put, List.getElem_toArray, List.getElem_cons_succ, List.getElem_cons_zero, List.setIfInBounds_toArray, List.set_cons_zero, List.set_cons_succ]
  refine wpAnyH_done (by kernel_rfl) ?_ _
  refine OnlyN.normal ?_
  clear HTF hHeld
  go_wp2_with fail
  go_ret
  exact ⟨rfl, HS3.out, HF3.out⟩
end
end Go.Proofs.YtjolojomgfcfbaaDoor
namespace Go.Proofs.YtjolojomgfcfbaaDoor
open Go.RowKit
theorem Tab.fr1 {w W : World} {g : Nat} (h : Tab w) (hg : 0 ≠ g) (hf : Fr (fun k => k = g) w W) : Tab W := fun k hk j u hu => (World.cell?_of_block (a := ⟨0, k * 7 + j, none⟩) (hf.block _ h.lt hg)).trans (h k hk j u hu)
theorem y_kyG {ops : Array Oper} {o : Oper} {a : Act} {S : World → Prop} (hw : Region.wanted o (yielded ops a.tmps) = true) (x : Operand) (ho : o.op = .load 29 x) (g off : Nat) (hx : a.eval x = .pointer (some ⟨g, off, none⟩)) (k : Ky) (hS : ∀ w, S w → KeyAt w g off k) : YieldsIf Tryd.prog ops S o k.val a :=
  yieldsIf_load_mid hw 29 x ho g off hx (kl k) _ (fun w h j v hj => by
    obtain ⟨h0, h1, h2, h3, h4, h5⟩ := hS w h
    match j, hj with
    | 0, hj => rw [← Option.some.inj hj]; exact h0
    | 1, hj => rw [← Option.some.inj hj]; exact h1
    | 2, hj => rw [← Option.some.inj hj]; exact h2
    | 3, hj => rw [← Option.some.inj hj]; exact h3
    | 4, hj => rw [← Option.some.inj hj]; exact h4
    | 5, hj => rw [← Option.some.inj hj]; exact h5) Tryd.underlying29 rfl size30
theorem Blk.katG {w : World} {g : Nat} {t : TypeId} {x : Ky} (h : Blk w g t (kc x.k x.o x.c x.l x.r x.v)) : KeyAt w g 0 x := ⟨h.cell 0, h.cell 1, h.cell 2, h.cell 3, h.cell 4, h.cell 5⟩
/-- blocks known whole, all made by then -/
structure Kb (w : World) (bs : List (Nat × TypeId × Array Value)) (N1 : Nat) (W : World) : Prop where
  bel : Below w.heap.size w W
  n0 : w.heap.size ≤ N1
  sz : N1 ≤ W.heap.size
  blk : ∀ b ∈ bs, b.1 < N1 ∧ Blk W b.1 b.2.1 b.2.2
section
variable {w W W' : World} {bs : List (Nat × TypeId × Array Value)} {N1 g : Nat} {t : TypeId} {c : Array Value}
theorem Kb.below (h : Kb w bs N1 W) (hb : Below W.heap.size W W') : Kb w bs N1 W' := ⟨h.bel.trans (hb.mono h.bel.size), h.n0, Nat.le_trans h.sz hb.size, fun b hm => ⟨(h.blk b hm).1, (h.blk b hm).2.keep hb⟩⟩
theorem Kb.alloc (h : Kb w bs N1 W) (o : Obj) : Kb w bs N1 (W.alloc o) := h.below ((Below.refl _ _).alloc (Nat.le_refl _) _)
theorem Kb.drew (h : Kb w bs N1 W) : Kb w bs N1 W.drew := h.below (below_drew (Below.refl _ _))
theorem Kb.set (h : Kb w bs N1 W) (hg : N1 ≤ g) (c : Array Value) : Kb w bs N1 (W.setRow g c) :=
  ⟨below_setRow h.bel (Nat.le_trans h.n0 hg) c, h.n0, by have := h.sz; simpa [World.setRow] using this, fun b hm => ⟨(h.blk b hm).1, Blk.row_far (h.blk b hm).2 (by have := (h.blk b hm).1; omega) c⟩⟩
end
/-- a drawn region that makes one block: what follows is said once -/
theorem region_pg {P : Program} {id : Nat} {ops : Array Oper} {Q : Exit → Act → World → Prop} {a : Act} {w : World} (F : Act → Nat → Act) (Fx : Nat → World → Prop) (H : (Code.region id ops true).wp P (fun e a' w' => ∃ g, e = .normal ∧ a' = F a g ∧ Fx g w') a w) (K : ∀ g W, Fx g W → Q .normal (F a g) W) : (Code.region id ops true).wp P Q a w :=
  Code.wp_mono (fun e a' w' ⟨g, e1, e2, e3⟩ => by subst e1 e2; exact K g w' e3) H
set_option maxRecDepth 100000 in
set_option maxHeartbeats 2000000 in
theorem nwrite_err {w : World} {P : Value} (x : Ky) (a : Int) (s : List UInt8) (m : Int) (hm : m ≠ 0) (hask : ∀ W, Below w.heap.size w W → Calls Tryd.prog 27 #[P, x.val, .bool true, .agg (spn a (s.length : Int))] W fun e w' => e = .returned (.tuple #[.agg (zpgc).toArray, .int .i64 m]) ∧ Below W.heap.size W w') :
    Calls Tryd.prog 16 #[P, x.val, .int .i64 a, .string (st s)] w fun e w' => e = .returned (.int .i64 m) ∧ Below w.heap.size w w' := by
  have HASK := Lib.hid hask
  have dm : (m != 0) = true := by simpa using hm
  have hsz := st_size s
  clear hask hm
  have hz := z72
  have hbl := zpgc_len
  have HB0 := Lib.hid ((((Below.refl w.heap.size w).alloc (Nat.le_refl _) (.cells (kc x.k x.o x.c x.l x.r x.v) 29)).alloc (by simp) (.cells #[.int .i64 a] 3)).alloc (by simp; omega) (.cells #[.string (st s)] 9))
  have HK0 := Lib.hid (((Blk.new w 29 (kc x.k x.o x.c x.l x.r x.v)).alloc (.cells #[.int .i64 a] 3)).alloc (.cells #[.string (st s)] 9))
  have HI0 := Lib.hid ((Blk.new_of (w.alloc (.cells (kc x.k x.o x.c x.l x.r x.v) 29)) 3 #[.int .i64 a] (g := w.heap.size + 1) (by simp)).alloc (.cells #[.string (st s)] 9))
  have HT0 := Lib.hid (Blk.new_of ((w.alloc (.cells (kc x.k x.o x.c x.l x.r x.v) 29)).alloc (.cells #[.int .i64 a] 3)) 9 #[.string (st s)] (g := w.heap.size + 1 + 1) (by simp))
  obtain ⟨c0, c1, c2, c3, c4, c5⟩ := HK0.out.six
  go_enter Tryd.func16, Tryd.ntmps16
  go_wp2_with (first
    | (go_at_call 27; refine (HASK.out _ HB0.out).mono ?_; rintro e w1 ⟨rfl, b1⟩; have HB1 := Lib.hid ((HB0.out.trans (b1.mono HB0.out.size)).alloc (Nat.le_trans HB0.out.size b1.size) (.cells zpgc.toArray 71)); clear b1)
    | (show wpList _ _ _ ({ dst := none, op := .store _ (.tmp 9) (.tmp 19), type := _, pos := _, after := _, guard := _ } :: _) _ _; refine wpList_store_new (l := zpgc) (l0 := zpgc) (ty := 71) rfl (.tmp 9) (.tmp 19) (by rfl) _ rfl (by rfl) (by rfl) (by rw [zpgc_len]; exact size72) rfl zpgc_one ?_))
  go_ret
  exact ⟨rfl, HB1.out⟩
set_option maxRecDepth 100000 in
set_option maxHeartbeats 4000000 in
theorem nwrite_yes {w : World} {base p : Nat} {A : Option Addr} {cap : Nat} {ps : List Nat} {os : List Oj} (h : StAt w base p A cap ps os) (hT : Tab w) {u : Oj} (x : Ky) (j : Nat) (hj : j < os.length) (hxo : x.o = (j : Int)) (a : Nat) (s : List UInt8) (hi : a + s.length ≤ 64) (hok : (layO u a s).ok os.length) (hask : ∀ W, Below w.heap.size w W → Calls Tryd.prog 27 #[pv p, x.val, .bool true, .agg (spn (a : Int) (s.length : Int))] W fun e w' => e = .returned (.tuple #[.agg (pgc p x.o u).toArray, .int .i64 0]) ∧ Below W.heap.size W w') :
    Calls Tryd.prog 16 #[pv p, x.val, .int .i64 (a : Int), .string (st s)] w fun e w' => e = .returned (.int .i64 0) ∧ StAt w' base p A cap ps (os.set j (layO u a s)) ∧ Fr (fun k => k ∈ ps) w w' := by
  have HASK := Lib.hid hask
  have HSS := Lib.hid h
  have HTT := Lib.hid hT
  have HLT := Lib.hid (fun (k : Nat) (hk : stHas p A ps k) => (h.lt k hk).2)
  have HJ := Lib.hid hj
  have HXO := Lib.hid hxo
  have HI := Lib.hid hi
  have HOK := Lib.hid hok
  have hsz := st_size s
  clear hask h hT hj hxo hi hok
  have hz := z72
  have hbl := zpgc_len
  have HB0 := Lib.hid ((((Below.refl w.heap.size w).alloc (Nat.le_refl _) (.cells (kc x.k x.o x.c x.l x.r x.v) 29)).alloc (by simp) (.cells #[.int .i64 (a : Int)] 3)).alloc (by simp; omega) (.cells #[.string (st s)] 9))
  have HK0 := Lib.hid (((Blk.new w 29 (kc x.k x.o x.c x.l x.r x.v)).alloc (.cells #[.int .i64 (a : Int)] 3)).alloc (.cells #[.string (st s)] 9))
  have HI0 := Lib.hid ((Blk.new_of (w.alloc (.cells (kc x.k x.o x.c x.l x.r x.v) 29)) 3 #[.int .i64 (a : Int)] (g := w.heap.size + 1) (by simp)).alloc (.cells #[.string (st s)] 9))
  have HT0 := Lib.hid (Blk.new_of ((w.alloc (.cells (kc x.k x.o x.c x.l x.r x.v) 29)).alloc (.cells #[.int .i64 (a : Int)] 3)) 9 #[.string (st s)] (g := w.heap.size + 1 + 1) (by simp))
  obtain ⟨c0, c1, c2, c3, c4, c5⟩ := HK0.out.six
  go_enter Tryd.func16, Tryd.ntmps16
  go_wp2_with (first
    | (go_at_call 27; refine (HASK.out _ HB0.out).mono ?_; rintro e w1 ⟨rfl, b1⟩; have HB1 := Lib.hid ((HB0.out.trans (b1.mono HB0.out.size)).alloc (Nat.le_trans HB0.out.size b1.size) (.cells (pgc p x.o u).toArray 71)); have HG1 := Lib.hid (Blk.new w1 71 (pgc p x.o u).toArray); have HI1 := Lib.hid ((HI0.out.keep b1).alloc (.cells (pgc p x.o u).toArray 71)); have HT1 := Lib.hid ((HT0.out.keep b1).alloc (.cells (pgc p x.o u).toArray 71)); have HGE := Lib.hid (show w.heap.size + 1 + 1 < w1.heap.size from Nat.lt_of_lt_of_le HT0.out.lt b1.size); clear b1)
    | (show wpList _ _ _ ({ dst := none, op := .store _ (.tmp 9) (.tmp 19), type := _, pos := _, after := _, guard := _ } :: _) _ _; refine wpList_store_new (l := pgc p x.o u) (l0 := zpgc) (ty := 71) rfl (.tmp 9) (.tmp 19) (by rfl) _ rfl (by rfl) (by rfl) (by rw [pgc_len]; exact size72) (by rw [pgc_len, zpgc_len]) (pgc_one _ _ _) ?_)
    | (go_at_call 28; refine (chg_write (HSS.out.below HB1.out) (HTT.out.below HB1.out) HG1.out (fun k hk => by have := HLT.out k hk; have := HGE.out; omega) (fun ht W hf => ht.fr1 (by have := HTT.out.lt; have := HGE.out; omega) hf) j HJ.out HXO.out a s HI.out _ _ HI1.out HT1.out (by have := HGE.out; omega) (by have := HGE.out; omega) HOK.out).mono ?_; rintro e w2 ⟨rfl, hs2, hf2⟩; have HS2 := Lib.hid hs2; have HF2 := Lib.hid ((Fr.of_below HB1.out : Fr (fun k => k ∈ ps) w _).then_ hf2 (fun i hi hs => hs.elim (fun e => by have := HGE.out; omega) id)); clear hs2 hf2))
  go_ret
  exact ⟨rfl, HS2.out, HF2.out⟩
end Go.Proofs.YtjolojomgfcfbaaDoor

/- disk: the walk of Write. -/
import Derived.Test.YtokbghpddgfnpaaRead
import Derived.Test.YtokbghpddgfnpaaBuild
import Derived.Test.YtokbghpddgfnpaaRegU
namespace Go.Proofs.Ytokbghpddgfnpaa
open Go.RowKit
attribute [local go_sem] run_store_bv run_store_wc run_store_bv_drew run_store_wc_drew
/-- behind a write that waits -/
def Dk.queued (D : Dk) (x : Nat × List UInt8) : Dk := { D with waits := D.waits ++ [x] }
set_option maxRecDepth 8000 in
theorem DiskAt.queued {W w1 : World} {base p : Nat} {pl : Pl} {D : Dk} (h : DiskAt W base p pl D) {x : Nat × List UInt8} (hx : x.2.length = 512 ∧ x.1 < D.size) {g cap : Nat}
    (hown : w1.ownsRow base 89 513 (.slice (some ⟨g, 0, none⟩) (D.waits.length + 1) cap) (D.waits.length + 1) (D.waits.flatMap wc ++ wc x)) (hg : W.grownBy w1 pl.wv.ownBlock) (hat : pl.wv.ownBlock = some g ∨ W.heap.size ≤ g) :
    DiskAt (w1.setCell ⟨p, 2, none⟩ (.slice (some ⟨g, 0, none⟩) (D.waits.length + 1) cap)) base p { pl with wv := .slice (some ⟨g, 0, none⟩) (D.waits.length + 1) cap } (D.queued x) := by
  have hpg : p ≠ g := by
    rintro rfl
    rcases hat with e | e
    · exact h.ne_pw e
    · have := h.blk.lt; omega
  have hp1 : Blk w1 p 85 (dcells pl D) := (hg.block p h.blk.lt (fun e => h.ne_pw e.symm)).trans h.blk
  exact { h with
    blk := hp1.set_ 2 _
    map := (h.map.keep (hg.block _ h.map.lt (fun e => h.ne_mw e.symm))).keep (Below.heap_setCell _ _ _ _ h.ne_pm)
    row := by
      have e1 : (D.queued x).waits.length = D.waits.length + 1 := by simp [Dk.queued]
      have e2 : (D.queued x).waits.flatMap wc = D.waits.flatMap wc ++ wc x := by simp [Dk.queued]
      rw [e1, e2]
      refine hown.kept (row := some p) ⟨rfl, rfl, rfl, by simp [World.setCell], fun k _ hk => Below.heap_setCell _ _ _ _ (fun e => hk (by rw [e]))⟩ (.inr ?_)
      intro e
      injection e with e
      exact hpg e.symm
    set := (h.set.keep (fun b hb => hg.block _ (h.set.lt b hb) (fun e => by
      rcases h.ne_fw with hn | hn
      · rw [hn] at hb; cases hb
      · exact hn (e.symm.trans hb.symm)))).keep (fun b hb => Below.heap_setCell _ _ _ _ (fun e => h.ne_pf (by rw [hb, e])))
    wlens := by
      intro y hy
      rcases List.mem_append.1 hy with hy | hy
      · exact h.wlens y hy
      · rw [List.mem_singleton] at hy; subst hy; exact hx }
theorem DiskAt.keepBlk {W w1 : World} {base p : Nat} {pl : Pl} {D : Dk} (h : DiskAt W base p pl D) {b : Nat} {t : TypeId} {cs : Array Value} (hb : Blk W b t cs) (ht : t ≠ 89) (hg : W.grownBy w1 pl.wv.ownBlock) : Blk w1 b t cs :=
  (hg.block b hb.lt (fun e => by
    obtain ⟨cur, hc⟩ := h.row_block e.symm
    unfold Blk at hc hb
    rw [hb] at hc
    injection hc with hc
    injection hc with _ h2
    exact ht h2)).trans hb
set_option maxRecDepth 100000 in
set_option maxHeartbeats 1600000 in
theorem write1_at {w : World} {base p : Nat} {pl : Pl} {D : Dk} (h : DiskAt w base p pl D) (hbase : base ≤ w.heap.size) (hN : D.waits.length ≤ 1000000) (k : Nat) (l : List UInt8) (hk : k < D.size) (hl : l.length = 512) (b0 b1 b2 : Nat)
    (c0 : Blk w b0 31 #[.pointer (some ⟨p, 0, none⟩)]) (c1 : Blk w b1 3 #[.int .i64 (k : Int)]) (c2 : Blk w b2 38 (bv l).toArray) :
    Calls Try.prog 54 #[.pointer (some ⟨b0, 0, none⟩), .pointer (some ⟨b1, 0, none⟩), .pointer (some ⟨b2, 0, none⟩)] w fun e w' =>
      e = .returned (.tuple #[]) ∧ ∃ v, DiskAt w' base p { pl with wv := v } (D.queued (k, l)) ∧ Fr (pl.has p) w w' ∧ (v.ownBlock = pl.wv.ownBlock ∨ ∃ g, v.ownBlock = some g ∧ w.heap.size ≤ g) := by
  have H := Lib.hid h
  have C0 := Lib.hid c0
  have C1 := Lib.hid c1
  have C2 := Lib.hid c2
  have HL := Lib.hid hl
  clear h c0 c1 c2 hl
  go_enter Try.func54, Try.ntmps54
  go_wp2_with fail
  refine wp_region_U (S := fun w' => w'.cell? ⟨b0, 0, none⟩ = some (.pointer (some ⟨p, 0, none⟩)) ∧ w'.cell? ⟨p, 2, none⟩ = some pl.wv ∧ w'.cell? ⟨b1, 0, none⟩ = some (.int .i64 (k : Int)) ∧ w'.rangeAt b2 0 (bv l)) 12 (by kernel_rfl) ⟨(C0.out.cell 0).trans rfl, H.out.c2, (C1.out.cell 0).trans rfl, C2.out.rangeAt⟩ (fun hHeld => ?_)
  refine wpAnyU_take (i := 0) (v := ?v1) rfl (by kernel_rfl) (by kernel_rfl) (by kernel_rfl) (by kernel_rfl) (fun _ _ _ h => h) (Or.inl ⟨by rfl, ?hy1⟩) hHeld ?rest1
  case hy1 =>
    intro w' hSw
    try dsimp only at hSw
    go_simp
    first | done | with_reducible rfl
  try simp only [Act.put, List.getElem_toArray, List.getElem_cons_zero, List.setIfInBounds_toArray, List.set_cons_zero, List.set_cons_succ]
  refine wpAnyU_take (i := 1) (v := ?v2) rfl (by kernel_rfl) (by kernel_rfl) (by kernel_rfl) (by kernel_rfl) (fun _ _ _ h => h) (Or.inl ⟨by rfl, ?hy2⟩) hHeld ?rest2
  case hy2 =>
    intro w' hSw
    try dsimp only at hSw
    go_simp
    first | done | with_reducible rfl
  try simp only [Act.put, List.getElem_toArray, List.getElem_cons_succ, List.getElem_cons_zero, List.setIfInBounds_toArray, List.set_cons_zero, List.set_cons_succ]
  refine wpAnyU_take (i := 2) (v := ?v3) rfl (by kernel_rfl) (by kernel_rfl) (by kernel_rfl) (by kernel_rfl) (fun _ _ _ h => h) (Or.inl ⟨by rfl, ?hy3⟩) hHeld ?rest3
  case hy3 =>
    intro w' hSw
    try dsimp only at hSw
    go_simp
    first | done | with_reducible rfl
  try simp only [Act.put, List.getElem_toArray, List.getElem_cons_succ, List.getElem_cons_zero, List.setIfInBounds_toArray, List.set_cons_zero, List.set_cons_succ]
  refine wpAnyU_take (i := 3) (v := ?v4) rfl (by kernel_rfl) (by kernel_rfl) (by kernel_rfl) (by kernel_rfl) (fun _ _ _ h => h) (Or.inl ⟨by rfl, ?hy4⟩) hHeld ?rest4
  case hy4 =>
    intro w' hSw
    try dsimp only at hSw
    go_simp
    first | done | with_reducible rfl
  try simp only [Act.put, List.getElem_toArray, List.getElem_cons_succ, List.getElem_cons_zero, List.setIfInBounds_toArray, List.set_cons_zero, List.set_cons_succ]
  refine wpAnyU_take (i := 4) (v := ?v5) rfl (by kernel_rfl) (by kernel_rfl) (by kernel_rfl) (by kernel_rfl) (fun _ _ _ h => h) (Or.inl ⟨by rfl, ?hy5⟩) hHeld ?rest5
  case hy5 =>
    intro w' hSw
    try dsimp only at hSw
    go_simp
    first | done | with_reducible rfl
  try simp only [Act.put, List.getElem_toArray, List.getElem_cons_succ, List.getElem_cons_zero, List.setIfInBounds_toArray, List.set_cons_zero, List.set_cons_succ]
  refine wpAnyU_take (i := 5) (v := ?v6) rfl (by kernel_rfl) (by kernel_rfl) (by kernel_rfl) (by kernel_rfl) (fun _ _ _ h => h) (Or.inl ⟨by rfl, ?hy6⟩) hHeld ?rest6
  case hy6 =>
    intro w' hSw
    try dsimp only at hSw
    go_simp
    first | done | with_reducible rfl
  try simp only [Act.put, List.getElem_toArray, List.getElem_cons_succ, List.getElem_cons_zero, List.setIfInBounds_toArray, List.set_cons_zero, List.set_cons_succ]
  refine wpAnyU_take (i := 6) rfl (by kernel_rfl) (by kernel_rfl) (by kernel_rfl) (by kernel_rfl) (fun _ _ _ h => h) (yieldsIf_load_mid (by rfl) 38 _ (by rfl) b2 0 (by rfl) (bv l) _ (fun w' hSw => hSw.2.2.2) Try.underlying38 rfl (by rw [bv_length, HL.out]; exact size47)) hHeld ?_
  try simp only [Act.put, List.getElem_toArray, List.getElem_cons_succ, List.getElem_cons_zero, List.setIfInBounds_toArray, List.set_cons_zero, List.set_cons_succ]
  refine wpAnyU_take (i := 7) rfl (by kernel_rfl) (by kernel_rfl) (by kernel_rfl) (by kernel_rfl) (fun _ _ _ h => h) (yieldsIf_build84 (by rfl) _ _ (by rfl) k l (by rfl) (by rfl) HL.out) hHeld ?_
  try simp only [Act.put, List.getElem_toArray, List.getElem_cons_succ, List.getElem_cons_zero, List.setIfInBounds_toArray, List.set_cons_zero, List.set_cons_succ]
  refine wpAnyU_one (i := 8) (by kernel_rfl) (by rfl) (fun K hK => ?_)
  refine step_buildSlice84 rfl (.tmp 10) (by rfl) (k, l) (by rfl) HL.out ?_
  refine hK.out _ _ (.inr ⟨((C0.out.alloc _).cell 0).trans rfl, (H.out.alloc _).c2, ((C1.out.alloc _).cell 0).trans rfl, (C2.out.alloc _).rangeAt⟩) (fun hHeld => ?_)
  replace hHeld := hHeld.resolve_left (by decide)
  clear hK K
  try simp only [Act.put, List.getElem_toArray, List.getElem_cons_succ, List.getElem_cons_zero, List.setIfInBounds_toArray, List.set_cons_zero, List.set_cons_succ]
  refine wpAnyU_one (i := 9) (by kernel_rfl) (by rfl) (fun K hK => ?_)
  refine step_append84 rfl (.tmp 7) (.tmp 11) (by rfl) base pl.wv D.waits.length _ (by rfl) (H.out.drew.alloc _).row w.heap.size 1 (k, l) (by rfl) (Blk.new w.drew _ _) HL.out hN (by simp; omega) ?_
  intro g cap w1 hown hg hat
  have H1 := H.out.drew.alloc (.cells (wc (k, l)).toArray 89)
  have hp1 : Blk w1 p 85 (dcells pl D) := (hg.block p H1.blk.lt (fun e => H1.ne_pw e.symm)).trans H1.blk
  have hb0 := H1.keepBlk (show Blk (w.drew.alloc (.cells (wc (k, l)).toArray 89)) b0 _ _ from C0.out.alloc _) (by decide) hg
  have hb1 := H1.keepBlk (show Blk (w.drew.alloc (.cells (wc (k, l)).toArray 89)) b1 _ _ from C1.out.alloc _) (by decide) hg
  have hb2 := H1.keepBlk (show Blk (w.drew.alloc (.cells (wc (k, l)).toArray 89)) b2 _ _ from C2.out.alloc _) (by decide) hg
  refine hK.out _ _ (.inr ⟨(hb0.cell 0).trans rfl, (hp1.cell 2).trans rfl, (hb1.cell 0).trans rfl, hb2.rangeAt⟩) (fun hHeld => ?_)
  replace hHeld := hHeld.resolve_left (by decide)
  clear hK K
  try simp only [Act.put, List.getElem_toArray, List.getElem_cons_succ, List.getElem_cons_zero, List.setIfInBounds_toArray, List.set_cons_zero, List.set_cons_succ]
  have f2 := hp1.frozen 2
  have c2p := (hp1.cell 2).trans (show (dcells pl D)[2]? = some pl.wv from rfl)
  refine wpAnyU_one (i := 10) (by kernel_rfl) (by rfl) (fun K hK => ?_)
  go_simp
  refine hK.out _ _ (.inr ⟨(hb0.cell 0).trans rfl, (hp1.cell 2).trans rfl, (hb1.cell 0).trans rfl, hb2.rangeAt⟩) (fun hHeld => ?_)
  replace hHeld := hHeld.resolve_left (by decide)
  clear hK K
  try simp only [Act.put, List.getElem_toArray, List.getElem_cons_succ, List.getElem_cons_zero, List.setIfInBounds_toArray, List.set_cons_zero, List.set_cons_succ]
  refine wpAnyU_one (i := 11) (by kernel_rfl) (by rfl) (fun K hK => ?_)
  go_simp
  refine hK.out _ _ (.inr ⟨(hb0.cell 0).trans rfl, (hp1.cell 2).trans rfl, (hb1.cell 0).trans rfl, hb2.rangeAt⟩) (fun hHeld => ?_)
  replace hHeld := hHeld.resolve_left (by decide)
  clear hK K
  try simp only [Act.put, List.getElem_toArray, List.getElem_cons_succ, List.getElem_cons_zero, List.setIfInBounds_toArray, List.set_cons_zero, List.set_cons_succ]
  refine wpAnyU_one (i := 12) (by kernel_rfl) (by rfl) (fun K hK => ?_)
  go_simp
  refine hK.out _ _ (.inl rfl) (fun hHeld => ?_)
  clear hK K
  try simp only [Act.put, List.getElem_toArray, List.getElem_cons_succ, List.getElem_cons_zero, List.setIfInBounds_toArray, List.set_cons_zero, List.set_cons_succ]
  refine wpAnyU_done (by kernel_rfl) ?_ _
  refine OnlyN.normal ?_
  have hat' : pl.wv.ownBlock = some g ∨ (w.drew.alloc (.cells (wc (k, l)).toArray 89)).heap.size ≤ g := hat.imp id (fun e => Nat.le_of_eq e.symm)
  have hq := H1.queued ⟨HL.out, hk⟩ hown hg hat'
  have hfr : Fr (pl.has p) w (w1.setCell ⟨p, 2, none⟩ (.slice (some ⟨g, 0, none⟩) (D.waits.length + 1) cap)) := ((((Fr.refl (pl.has p) w).drew).alloc _).grown hg (fun i e _ => .inr (.inr (.inl e)))).setCell (fun _ => .inl rfl) _
  have hg0 : pl.wv.ownBlock = some g ∨ w.heap.size ≤ g := hat.imp id (fun e => by rw [e]; simp)
  go_end0
  exact ⟨rfl, _, hq, hfr, hg0.imp (fun e => e.symm) (fun e => ⟨g, rfl, e⟩)⟩
set_option maxRecDepth 8000 in
theorem blks3 (w : World) (v0 v1 : Value) (c2 : Array Value) (t0 t1 t2 : TypeId) :
    Blk (((w.alloc (.cells #[v0] t0)).alloc (.cells #[v1] t1)).alloc (.cells c2 t2)) w.heap.size t0 #[v0] ∧
    Blk (((w.alloc (.cells #[v0] t0)).alloc (.cells #[v1] t1)).alloc (.cells c2 t2)) (w.heap.size + 1) t1 #[v1] ∧
    Blk (((w.alloc (.cells #[v0] t0)).alloc (.cells #[v1] t1)).alloc (.cells c2 t2)) (w.heap.size + 2) t2 c2 ∧
    Below w.heap.size w (((w.alloc (.cells #[v0] t0)).alloc (.cells #[v1] t1)).alloc (.cells c2 t2)) ∧
    (((w.alloc (.cells #[v0] t0)).alloc (.cells #[v1] t1)).alloc (.cells c2 t2)).heap.size = w.heap.size + 3 := by
  have e1 := Blk.new (w.alloc (.cells #[v0] t0)) t1 #[v1]
  have e2 := Blk.new ((w.alloc (.cells #[v0] t0)).alloc (.cells #[v1] t1)) t2 c2
  simp only [World.size_alloc] at e1 e2
  exact ⟨((Blk.new w _ _).alloc _).alloc _, e1.alloc _, e2, (((Below.refl _ w).alloc (Nat.le_refl _) _).alloc (by simp) _).alloc (by simp; omega) _, by simp⟩
theorem enters62 (args : Array Value) (w : World) : (callFunc 54 args).run Try.prog w = .ok (.enter 54 args) w := enters_of Try.func54 (by kernel_rfl) rfl args w
set_option maxRecDepth 100000 in
set_option maxHeartbeats 800000 in
theorem write_no {w : World} (p : Option Addr) (n : Int) (l : List UInt8) (no : Int) (hno : no ≠ 0) (ha : ∀ W, Below w.heap.size w W → Calls Try.prog 38 #[.pointer p, .int .i64 n] W fun e w' => e = .returned (.int .i64 no) ∧ W = w') :
    Calls Try.prog 22 #[.pointer p, .int .i64 n, sec l] w fun e w' => e = .returned (.int .i64 no) ∧ Below w.heap.size w w' := by
  have HA := Lib.hid ha
  have hne : (no != 0) = true := by simpa using hno
  have q := blks3 w (.pointer p) (.int .i64 n) (bv l).toArray 31 3 38
  clear ha hno
  go_enter Try.func22, Try.ntmps22
  go_wp2_with fail
  obtain ⟨q0, q1, q2, qb, qs⟩ := q
  generalize ((w.alloc (.cells #[.pointer p] 31)).alloc (.cells #[.int .i64 n] 3)).alloc (.cells (bv l).toArray 38) = W at q0 q1 q2 qb qs ⊢
  refine (HA.out W qb).mono ?_
  rintro e w' ⟨rfl, rfl⟩
  have QB := Lib.hid qb
  clear q0 q1 q2 qb qs
  go_wp2
  go_ret
  exact ⟨rfl, QB.out⟩
theorem write_nil (w : World) (n : Int) (l : List UInt8) : Calls Try.prog 22 #[.pointer none, .int .i64 n, sec l] w fun e w' => e = .returned (.int .i64 1) ∧ Below w.heap.size w w' :=
  write_no none n l 1 (by decide) (fun W _ => asked_nil W n)
theorem write_out {w : World} {base p : Nat} {pl : Pl} {D : Dk} (h : DiskAt w base p pl D) (n : Int) (l : List UInt8) (hn : n < 0 ∨ (D.size : Int) ≤ n) :
    Calls Try.prog 22 #[.pointer (some ⟨p, 0, none⟩), .int .i64 n, sec l] w fun e w' => e = .returned (.int .i64 4) ∧ Below w.heap.size w w' :=
  write_no _ n l 4 (by decide) (fun _ hb => asked_no (h.below hb) n hn)
set_option maxRecDepth 100000 in
set_option maxHeartbeats 800000 in
theorem write_fails {w : World} {base p : Nat} {pl : Pl} {D : Dk} (h : DiskAt w base p pl D) (n : Nat) (l : List UInt8) (hn : n < D.size) (hs : D.steps < 1000000) (hf : D.next = true) :
    Calls Try.prog 22 #[.pointer (some ⟨p, 0, none⟩), .int .i64 (n : Int), sec l] w fun e w' => e = .returned (.int .i64 120) ∧ DiskAt w' base p pl D.stepped ∧ Fr (pl.has p) w w' := by
  have H := Lib.hid h
  have HF := Lib.hid hf
  have q := blks3 w (.pointer (some ⟨p, 0, none⟩)) (.int .i64 (n : Int)) (bv l).toArray 31 3 38
  clear h hf
  go_enter Try.func22, Try.ntmps22
  go_wp2_with fail
  obtain ⟨q0, q1, q2, qb, qs⟩ := q
  generalize ((w.alloc (.cells #[.pointer (some ⟨p, 0, none⟩)] 31)).alloc (.cells #[.int .i64 (n : Int)] 3)).alloc (.cells (bv l).toArray 38) = W at q0 q1 q2 qb qs ⊢
  have HW := Lib.hid (H.out.below qb)
  refine (asked_ok HW.out n hn).mono ?_
  rintro e w' ⟨rfl, rfl⟩
  have c0 := (q0.cell 0).trans rfl
  have QB := Lib.hid qb
  clear q0 q1 q2 qb qs
  go_wp2_with fail
  refine (step_fails HW.out HF.out hs _).mono ?_
  rintro e w2 ⟨rfl, h2, f2⟩
  have J2 := Lib.hid h2
  have JF := Lib.hid ((Fr.of_below (S := pl.has p) QB.out).trans f2)
  clear h2 f2
  go_wp2
  go_ret
  exact ⟨rfl, J2.out, JF.out⟩
set_option maxRecDepth 100000 in
set_option maxHeartbeats 800000 in
theorem write_goes {w : World} {base p : Nat} {pl : Pl} {D : Dk} (h : DiskAt w base p pl D) (hbase : base ≤ w.heap.size) (hN : D.waits.length ≤ 1000000) (n : Nat) (l : List UInt8) (hl : l.length = 512) (hn : n < D.size) (hs : D.steps < 1000000) (hf : D.next = false) :
    Calls Try.prog 22 #[.pointer (some ⟨p, 0, none⟩), .int .i64 (n : Int), sec l] w fun e w' =>
      e = .returned (.int .i64 0) ∧ ∃ v, DiskAt w' base p { pl with wv := v } (D.stepped.queued (n, l)) ∧ Fr (pl.has p) w w' ∧ (v.ownBlock = pl.wv.ownBlock ∨ ∃ g, v.ownBlock = some g ∧ w.heap.size ≤ g) := by
  have H := Lib.hid h
  have HF := Lib.hid hf
  have HL := Lib.hid hl
  have q := blks3 w (.pointer (some ⟨p, 0, none⟩)) (.int .i64 (n : Int)) (bv l).toArray 31 3 38
  clear h hf hl
  go_enter Try.func22, Try.ntmps22
  go_wp2_with fail
  obtain ⟨q0, q1, q2, qb, qs⟩ := q
  generalize ((w.alloc (.cells #[.pointer (some ⟨p, 0, none⟩)] 31)).alloc (.cells #[.int .i64 (n : Int)] 3)).alloc (.cells (bv l).toArray 38) = W at q0 q1 q2 qb qs ⊢
  have HW := Lib.hid (H.out.below qb)
  refine (asked_ok HW.out n hn).mono ?_
  rintro e w' ⟨rfl, rfl⟩
  have c0 := (q0.cell 0).trans rfl
  have Q0 := Lib.hid q0
  have Q1 := Lib.hid q1
  have Q2 := Lib.hid q2
  have QB := Lib.hid qb
  clear q0 q1 q2 qb qs
  go_wp2_with fail
  refine (step_goes HW.out HF.out hs _ _ (fun w' => ∃ v, DiskAt w' base p { pl with wv := v } (D.stepped.queued (n, l)) ∧ Fr (pl.has p) W w' ∧ (v.ownBlock = pl.wv.ownBlock ∨ ∃ g, v.ownBlock = some g ∧ W.heap.size ≤ g)) ?hdo (enters62 _)).mono ?_
  case hdo =>
    intro W1 h1 f1
    have nn := fun k (hk : w.heap.size ≤ k) => H.out.not_new hk
    refine (write1_at h1 (Nat.le_trans hbase (Nat.le_trans QB.out.size f1.size)) hN n l hn HL.out w.heap.size (w.heap.size + 1) (w.heap.size + 2) (f1.keepBlk Q0.out (nn _ (by omega))) (f1.keepBlk Q1.out (nn _ (by omega))) (f1.keepBlk Q2.out (nn _ (by omega)))).mono ?_
    rintro e w3 ⟨rfl, v, h3, f3, hv⟩
    exact ⟨rfl, v, h3, f1.trans f3, hv.imp id (fun ⟨g, h4, h5⟩ => ⟨g, h4, Nat.le_trans f1.size h5⟩)⟩
  rintro e w2 ⟨rfl, h2⟩
  have J2 : Hid (∃ v, DiskAt w2 base p { pl with wv := v } (D.stepped.queued (n, l)) ∧ Fr (pl.has p) w w2 ∧ (v.ownBlock = pl.wv.ownBlock ∨ ∃ g, v.ownBlock = some g ∧ w.heap.size ≤ g)) := by
    obtain ⟨v, h3, f3, hv⟩ := h2
    exact ⟨v, h3, (Fr.of_below (S := pl.has p) QB.out).trans f3, hv.imp id (fun ⟨g, h4, h5⟩ => ⟨g, h4, Nat.le_trans QB.out.size h5⟩)⟩
  clear h2
  go_wp2
  go_ret
  exact ⟨rfl, J2.out⟩
end Go.Proofs.Ytokbghpddgfnpaa

/- law 2: act, at a Read. -/
import Derived.Test.YtgjamgojjajcnaaQ19
import Derived.Test.YtgjamgojjajcnaaQ32
import Derived.Test.YtgjamgojjajcnaaQ10
import Derived.Test.YtgjamgojjajcnaaQ13
import Derived.Test.YtgjamgojjajcnaaQ08
import Derived.Test.YtgjamgojjajcnaaQ24
import Derived.Test.YtgjamgojjajcnaaQ14
namespace Go.Proofs.Ytgjamgojjajcnaa
open Go.RowKit
attribute [local go_sem] Oper.semAt_some
set_option maxRecDepth 8000 in
theorem yields_eql47_me {ops : Array Oper} {S : World → Prop} {o : Oper} {a : Act} (hw : Region.wanted o (yielded ops a.tmps) = true) (x y : Operand) (ho : o.op = .binOp .eql 38 x y 38) (l : List UInt8) (hx : a.eval x = sec l) (hy : a.eval y = sec l) (h : l.length = 512) : YieldsIf Try.prog ops S o (.bool true) a := by
  have := yields_eql47 (S := S) hw x y ho l l hx hy h h
  simpa using this
theorem bv_ones' (S : List UInt8) : (bv S).toArray.all (·.oneCell') = true := all_oneCell_toArray (bv_one S)
set_option maxRecDepth 8000 in
theorem size47b {S : List UInt8} (h : S.length = 512) : (Try.prog.info? 38).map (·.size) = some (bv S).toArray.size := by rw [List.size_toArray, bv_length, h]; exact size47
set_option maxRecDepth 8000 in
theorem zs_sz {S : List UInt8} (h : S.length = 512) : (bv zs).toArray.size = (bv S).toArray.size := by rw [List.size_toArray, List.size_toArray, bv_length, bv_length, h, zs_length]
set_option maxRecDepth 100000 in
set_option maxHeartbeats 8000000 in
theorem act0_any {w : World} {B p : Nat} {pl : Pl} {D : Dk} {r : Rp} {R : Rf} {s z : Nat} (h : Bo w B p pl D r R s z) (hs : s ≤ 100000) (x : Ac) (hx : x.what = 0) (t : Nat) (ht : t = wSt s z x.sector) :
    Calls Try.prog 11 #[.pointer (some ⟨p, 0, none⟩), r.val s, x.val] w (ActPost w B p pl r R z R t) := by
  have hz := z43
  have hz47 := z47
  have H := Lib.hid h
  have A0 := Lib.hid (Ag.of w r s x)
  have x0 : (x.what == 0) = true := by rw [hx]; rfl
  obtain ⟨S, hS⟩ : ∃ S, S = rdS R s z x.sector := ⟨_, rfl⟩
  obtain ⟨no, hno⟩ : ∃ no, no = wNo R s z x.sector := ⟨_, rfl⟩
  have HSL := Lib.hid (show S.length = 512 by rw [hS]; exact rdS_length h.rf x.sector)
  have DR := Lib.hid (fun (W : World) (hd : DiskAt W B p pl D) => show Calls Try.prog 12 #[.pointer (some ⟨p, 0, none⟩), .int .i64 x.sector] W fun e w' => e = .returned (.tuple #[sec S, .int .i64 no]) ∧ ∃ D', DiskAt w' B p pl D' ∧ Fr (pl.has p) W w' ∧ Alike D' R t z from by
    rw [hS, hno, ht]
    exact dread_any hd H.out.al (by have := H.out.rf.m2; omega) hs x.sector)
  have RR := Lib.hid (fun (W : World) (hr : RefAt W r R z) => show Calls Try.prog 13 #[r.val s, .int .i64 x.sector] W fun e w' => e = .returned (.tuple #[r.val t, sec S, .int .i64 no]) ∧ Below W.heap.size W w' from by
    rw [hS, hno, ht]
    exact rread_any hr hs x.sector)
  have c0 := (A0.out.h1.cell 0).trans (show _ = some (.int .i64 x.what) from rfl)
  have c1 := (A0.out.h1.cell 1).trans (show _ = some (.int .i64 x.sector) from rfl)
  clear h hx hS hno ht
  go_enter Try.func11, Try.ntmps11
  go_wp2_with (first
    | (go_at_call 12; refine (DR.out _ (H.out.da.below A0.out.be)).mono ?_; rintro e w3 ⟨rfl, D', hd, hf, hal⟩; have A3 := Lib.hid (show Blk (w3.alloc (.cells (bv S).toArray 38)) w.heap.size 34 #[.slice r.A1 r.n1 r.c1, .slice r.A2 r.n2 r.c2, .int .i64 (s : Int), .slice r.A3 r.n3 r.c3] ∧ Blk (w3.alloc (.cells (bv S).toArray 38)) (w.heap.size + 1) 28 x.cs.toArray ∧ Blk (w3.alloc (.cells (bv S).toArray 38)) (w.heap.size + 1 + 1) 34 #[.slice none 0 0, .slice none 0 0, .int .i64 0, .slice none 0 0] from ⟨(hf.keepBlk A0.out.h0 (fun e => by have := (H.out.da.lt _ e).1; omega)).alloc _, (hf.keepBlk A0.out.h1 (fun e => by have := (H.out.da.lt _ e).1; omega)).alloc _, (hf.keepBlk A0.out.h7 (fun e => by have := (H.out.da.lt _ e).1; omega)).alloc _⟩); have BO3 := Lib.hid ((H.out.mk' A0.out.be.size (H.out.rf.below A0.out.be) (fun b hb' => .inl hb') hd hf (fun q hq => .inl hq) hal).alloc (.cells (bv S).toArray 38)); have FR3 := Lib.hid (((Fr.of_below A0.out.be : Fr (pl.has p) w _).trans hf).alloc (.cells (bv S).toArray 38)); have G3 := Lib.hid (Blk.new w3 38 (bv S).toArray); have L3 := Lib.hid (show w.heap.size + 1 + 1 < w3.heap.size from Nat.lt_of_lt_of_le A0.out.h7.lt hf.size); clear hd hf hal c0 c1; have c1 := (A3.out.2.1.cell 1).trans (show _ = some (.int .i64 x.sector) from rfl))
    | (show wpList _ _ _ ({ dst := none, op := .store _ (.tmp 9) (.tmp 35), type := _, pos := _, after := _, guard := _ } :: _) _ _; refine wpList_store_new4 (c := (bv S).toArray) (c0 := (bv zs).toArray) (ty := 38) rfl (.tmp 9) (.tmp 35) rfl rfl rfl (size47b HSL.out) (zs_sz HSL.out) (bv_ones' S) ?_)
    | (show wpList _ _ _ ({ dst := some 38, op := .load _ (.tmp 4), type := _, pos := _, after := _, guard := _ } :: _) _ _; refine wpList_load_mid rfl 34 (.tmp 4) rfl w.heap.size 0 rfl [.slice r.A1 r.n1 r.c1, .slice r.A2 r.n2 r.c2, .int .i64 (s : Int), .slice r.A3 r.n3 r.c3] _ (Blk.rangeAt (l := [.slice r.A1 r.n1 r.c1, .slice r.A2 r.n2 r.c2, .int .i64 (s : Int), .slice r.A3 r.n3 r.c3]) A3.out.1) Try.underlying34 rfl size43 ?_)
    | (go_at_call 13; refine (RR.out _ BO3.out.rf).mono ?_; rintro e w5 ⟨rfl, b5⟩; have BO5 := Lib.hid (((BO3.out.below b5).alloc (.cells #[.slice none 0 0, .slice none 0 0, .int .i64 0, .slice none 0 0] 34)).alloc (.cells (bv zs).toArray 38)); have FR5 := Lib.hid (((FR3.out.below b5).alloc (.cells #[.slice none 0 0, .slice none 0 0, .int .i64 0, .slice none 0 0] 34)).alloc (.cells (bv zs).toArray 38)); have H75 := Lib.hid (((blk_k A3.out.2.2 b5).alloc (.cells #[.slice none 0 0, .slice none 0 0, .int .i64 0, .slice none 0 0] 34)).alloc (.cells (bv zs).toArray 38)); have G35 := Lib.hid (((blk_k G3.out b5).alloc (.cells #[.slice none 0 0, .slice none 0 0, .int .i64 0, .slice none 0 0] 34)).alloc (.cells (bv zs).toArray 38)); have G45 := Lib.hid ((Blk.new w5 34 #[.slice none 0 0, .slice none 0 0, .int .i64 0, .slice none 0 0]).alloc (.cells (bv zs).toArray 38)); have G55 := Lib.hid (blk_new_of (w5.alloc (.cells #[.slice none 0 0, .slice none 0 0, .int .i64 0, .slice none 0 0] 34)) 38 (bv zs).toArray (g := w5.heap.size + 1) (by simp)); have L5 := Lib.hid (show w3.heap.size < w5.heap.size from Nat.lt_of_lt_of_le G3.out.lt b5.size); clear b5 c1)
    | (show wpList _ _ _ ({ dst := none, op := .store _ (.tmp 11) (.tmp 42), type := _, pos := _, after := _, guard := _ } :: _) _ _; refine wpList_store_row rfl 34 (.tmp 11) (.tmp 42) rfl w5.heap.size #[.slice r.A1 r.n1 r.c1, .slice r.A2 r.n2 r.c2, .int .i64 (t : Int), .slice r.A3 r.n3 r.c3] rfl rfl 34 #[.slice none 0 0, .slice none 0 0, .int .i64 0, .slice none 0 0] G45.out (size43c _ _ _ _) rfl (one43 _ _ _ _ _ _ _ _ _ _) ?_)
    | (show wpList _ _ _ ({ dst := none, op := .store _ (.tmp 12) (.tmp 43), type := _, pos := _, after := _, guard := _ } :: _) _ _; refine wpList_store_row rfl 38 (.tmp 12) (.tmp 43) rfl (w5.heap.size + 1) (bv S).toArray rfl rfl 38 (bv zs).toArray ((setRow_fr' _ _ _).keepBlk G55.out (by omega)) (size47b HSL.out) (zs_sz HSL.out) (bv_ones' S) ?_))
  have l3 := L3.out
  have l5 := L5.out
  have E1 := setRow_fr' ((w5.alloc (.cells #[.slice none 0 0, .slice none 0 0, .int .i64 0, .slice none 0 0] 34)).alloc (.cells (bv zs).toArray 38)) w5.heap.size #[.slice r.A1 r.n1 r.c1, .slice r.A2 r.n2 r.c2, .int .i64 (t : Int), .slice r.A3 r.n3 r.c3]
  have BO51 := BO5.out.far E1 (fun hk => by have := (H.out.da.lt _ hk).1; omega) (fun hk => by have := H.out.rf.lt hk; omega)
  have FR51 := FR5.out.then_ E1 (fun i hi e => by omega)
  have G4a := blk_row G45.out #[.slice r.A1 r.n1 r.c1, .slice r.A2 r.n2 r.c2, .int .i64 (t : Int), .slice r.A3 r.n3 r.c3]
  have G3a := E1.keepBlk G35.out (by omega)
  have H7a := E1.keepBlk H75.out (by omega)
  have G5a := E1.keepBlk G55.out (by omega)
  have E2 := setRow_fr' (((w5.alloc (.cells #[.slice none 0 0, .slice none 0 0, .int .i64 0, .slice none 0 0] 34)).alloc (.cells (bv zs).toArray 38)).setRow w5.heap.size #[.slice r.A1 r.n1 r.c1, .slice r.A2 r.n2 r.c2, .int .i64 (t : Int), .slice r.A3 r.n3 r.c3]) (w5.heap.size + 1) (bv S).toArray
  have BO6 := Lib.hid (BO51.far E2 (fun hk => by have := (H.out.da.lt _ hk).1; omega) (fun hk => by have := H.out.rf.lt hk; omega))
  have FR6 := Lib.hid (FR51.then_ E2 (fun i hi e => by omega))
  have X6 := Lib.hid (show _ ∧ _ ∧ _ ∧ _ from ⟨E2.keepBlk G3a (by omega), E2.keepBlk G4a (by omega), blk_row G5a (bv S).toArray, E2.keepBlk H7a (by omega)⟩)
  have GG := Lib.hid (show w.heap.size + 1 + 1 < w3.heap.size ∧ w.heap.size + 1 + 1 < w5.heap.size from ⟨l3, by omega⟩)
  clear E1 BO51 FR51 G4a G3a H7a G5a E2 BO5 FR5 H75 G35 G45 G55 A3 BO3 FR3 G3 l3 l5 L3 L5
  generalize (((w5.alloc (.cells #[.slice none 0 0, .slice none 0 0, .int .i64 0, .slice none 0 0] 34)).alloc (.cells (bv zs).toArray 38)).setRow w5.heap.size #[.slice r.A1 r.n1 r.c1, .slice r.A2 r.n2 r.c2, .int .i64 (t : Int), .slice r.A3 r.n3 r.c3]).setRow (w5.heap.size + 1) (bv S).toArray = m6 at BO6 FR6 X6 ⊢
  generalize w3.heap.size = g3 at X6 GG ⊢
  generalize w5.heap.size = g4 at X6 GG ⊢
  replace BO6 := Lib.hid BO6.out.drew
  replace FR6 := Lib.hid (FR6.out.below (Below.drew (Below.refl _ m6)))
  refine wp_region_only (S := fun w' => Blk w' g3 38 (bv S).toArray ∧ Blk w' g4 34 #[.slice r.A1 r.n1 r.c1, .slice r.A2 r.n2 r.c2, .int .i64 (t : Int), .slice r.A3 r.n3 r.c3] ∧ Blk w' (g4 + 1) 38 (bv S).toArray) (by kernel_rfl) ⟨X6.out.1, X6.out.2.1, X6.out.2.2.1⟩ (fun hHeld => ?_)
  refine wpAnyH_take (i := 0) (v := ?v1) rfl (by kernel_rfl) (by kernel_rfl) (by kernel_rfl) (fun _ _ _ h => h) (Or.inl ⟨by rfl, ?hy1⟩) hHeld ?rest1
  case hy1 =>
    intro w' hSw
    try dsimp only at hSw
    go_simp
    first | done | with_reducible rfl
  try simp only [Act.put, List.getElem_toArray, List.getElem_cons_zero, List.setIfInBounds_toArray, List.set_cons_zero, List.set_cons_succ]
  refine wpAnyH_take (i := 1) rfl (by kernel_rfl) (by kernel_rfl) (by kernel_rfl) (fun _ _ _ h => h) (yieldsIf_load_mid (by rfl) 34 (.tmp 11) (by rfl) g4 0 (by rfl) [.slice r.A1 r.n1 r.c1, .slice r.A2 r.n2 r.c2, .int .i64 (t : Int), .slice r.A3 r.n3 r.c3] _ (fun w' hSw => Blk.rangeAt hSw.2.1) Try.underlying34 rfl size43) hHeld ?_
  try simp only [Act.put, List.getElem_toArray, List.getElem_cons_succ, List.getElem_cons_zero, List.setIfInBounds_toArray, List.set_cons_zero, List.set_cons_succ]
  refine wpAnyH_take (i := 2) rfl (by kernel_rfl) (by kernel_rfl) (by kernel_rfl) (fun _ _ _ h => h) (yieldsIf_load_mid (by rfl) 38 (.tmp 9) (by rfl) g3 0 (by rfl) (bv S) _ (fun w' hSw => Blk.rangeAt hSw.1) Try.underlying38 rfl (by rw [bv_length, HSL.out]; exact size47)) hHeld ?_
  try simp only [Act.put, List.getElem_toArray, List.getElem_cons_succ, List.getElem_cons_zero, List.setIfInBounds_toArray, List.set_cons_zero, List.set_cons_succ]
  refine wpAnyH_take (i := 3) rfl (by kernel_rfl) (by kernel_rfl) (by kernel_rfl) (fun _ _ _ h => h) (yieldsIf_load_mid (by rfl) 38 (.tmp 12) (by rfl) (g4 + 1) 0 (by rfl) (bv S) _ (fun w' hSw => Blk.rangeAt hSw.2.2) Try.underlying38 rfl (by rw [bv_length, HSL.out]; exact size47)) hHeld ?_
  try simp only [Act.put, List.getElem_toArray, List.getElem_cons_succ, List.getElem_cons_zero, List.setIfInBounds_toArray, List.set_cons_zero, List.set_cons_succ]
  refine wpAnyH_take (i := 4) rfl (by kernel_rfl) (by kernel_rfl) (by kernel_rfl) (fun _ _ _ h => h) (yields_eql47_me (by rfl) (.tmp 47) (.tmp 48) rfl S (by rfl) (by rfl) HSL.out) hHeld ?_
  try simp only [Act.put, List.getElem_toArray, List.getElem_cons_succ, List.getElem_cons_zero, List.setIfInBounds_toArray, List.set_cons_zero, List.set_cons_succ]
  refine wpAnyH_take (i := 5) (v := ?v2) rfl (by kernel_rfl) (by kernel_rfl) (by kernel_rfl) (fun _ _ _ h => h) (Or.inl ⟨by rfl, ?hy2⟩) hHeld ?rest2
  case hy2 =>
    intro w' hSw
    try dsimp only at hSw
    go_simp
    first | done | with_reducible rfl
  try simp only [Act.put, List.getElem_toArray, List.getElem_cons_succ, List.getElem_cons_zero, List.setIfInBounds_toArray, List.set_cons_zero, List.set_cons_succ]
  refine wpAnyH_take (i := 6) (v := ?v3) rfl (by kernel_rfl) (by kernel_rfl) (by kernel_rfl) (fun _ _ _ h => h) (Or.inl ⟨by rfl, ?hy3⟩) hHeld ?rest3
  case hy3 =>
    intro w' hSw
    try dsimp only at hSw
    go_simp
    first | done | with_reducible rfl
  try simp only [Act.put, List.getElem_toArray, List.getElem_cons_succ, List.getElem_cons_zero, List.setIfInBounds_toArray, List.set_cons_zero, List.set_cons_succ]
  refine wpAnyH_take (i := 8) (v := ?v4) rfl (by kernel_rfl) (by kernel_rfl) (by kernel_rfl) (fun _ _ _ h => h) (Or.inl ⟨by rfl, ?hy4⟩) hHeld ?rest4
  case hy4 =>
    intro w' hSw
    try dsimp only at hSw
    go_simp
    first | done | with_reducible rfl
  try simp only [Act.put, List.getElem_toArray, List.getElem_cons_succ, List.getElem_cons_zero, List.setIfInBounds_toArray, List.set_cons_zero, List.set_cons_succ]
  refine wpAnyH_ready (rs := [7]) (by kernel_rfl) (by simp) ?_
  refine AllReadyH.cons (by rfl) (fun K hK => ?_) AllReadyH.nil
  go_simp
  refine (num_any _ _).mono ?_
  rintro e m7 ⟨rfl, rfl⟩
  clear hHeld
  refine hK.out _ _ ⟨X6.out.1, X6.out.2.1, X6.out.2.2.1⟩ (fun hHeld => ?_)
  clear hK K
  try simp only [Act.put, List.getElem_toArray, List.getElem_cons_succ, List.getElem_cons_zero, List.setIfInBounds_toArray, List.set_cons_zero, List.set_cons_succ]
  refine wpAnyH_take (i := 9) (v := ?v5) rfl (by kernel_rfl) (by kernel_rfl) (by kernel_rfl) (fun _ _ _ h => h) (Or.inl ⟨by rfl, ?hy5⟩) hHeld ?rest5
  case hy5 =>
    intro w' hSw
    try dsimp only at hSw
    go_simp
    first | done | with_reducible rfl
  try simp only [Act.put, List.getElem_toArray, List.getElem_cons_succ, List.getElem_cons_zero, List.setIfInBounds_toArray, List.set_cons_zero, List.set_cons_succ]
  refine wpAnyH_take (i := 10) (v := ?v6) rfl (by kernel_rfl) (by kernel_rfl) (by kernel_rfl) (fun _ _ _ h => h) (Or.inl ⟨by rfl, ?hy6⟩) hHeld ?rest6
  case hy6 =>
    intro w' hSw
    try dsimp only at hSw
    go_simp
    first | done | with_reducible rfl
  try simp only [Act.put, List.getElem_toArray, List.getElem_cons_succ, List.getElem_cons_zero, List.setIfInBounds_toArray, List.set_cons_zero, List.set_cons_succ]
  refine wpAnyH_take (i := 11) (v := ?v7) rfl (by kernel_rfl) (by kernel_rfl) (by kernel_rfl) (fun _ _ _ h => h) (Or.inl ⟨by rfl, ?hy7⟩) hHeld ?rest7
  case hy7 =>
    intro w' hSw
    try dsimp only at hSw
    go_simp
    first | done | with_reducible rfl
  try simp only [Act.put, List.getElem_toArray, List.getElem_cons_succ, List.getElem_cons_zero, List.setIfInBounds_toArray, List.set_cons_zero, List.set_cons_succ]
  refine wpAnyH_ready (rs := [12]) (by kernel_rfl) (by simp) ?_
  refine AllReadyH.cons (by rfl) (fun K hK => ?_) AllReadyH.nil
  refine step_store_whole rfl 34 (.tmp 7) (.tmp 46) rfl (by rfl) #[.slice r.A1 r.n1 r.c1, .slice r.A2 r.n2 r.c2, .int .i64 (t : Int), .slice r.A3 r.n3 r.c3] #[.slice none 0 0, .slice none 0 0, .int .i64 0, .slice none 0 0] 34 (by rfl) X6.out.2.2.2 (size43c _ _ _ _) rfl (one43 _ _ _ _ _ _ _ _ _ _) ?_
  intro m8 j8 f8
  have J8 := Lib.hid j8
  have BO8 := Lib.hid (show Bo m8 B p pl D' r R t z from BO6.out.far f8 (fun hk => by have := (H.out.da.lt _ hk).1; omega) (fun hk => by have := H.out.rf.lt hk; omega))
  have FR8 := Lib.hid (FR6.out.then_ f8 (fun i hi e => by omega))
  have X8 := Lib.hid (show Blk m8 g3 38 (bv S).toArray ∧ Blk m8 g4 34 #[.slice r.A1 r.n1 r.c1, .slice r.A2 r.n2 r.c2, .int .i64 (t : Int), .slice r.A3 r.n3 r.c3] ∧ Blk m8 (g4 + 1) 38 (bv S).toArray from ⟨f8.keepBlk X6.out.1 (by have := GG.out; omega), f8.keepBlk X6.out.2.1 (by have := GG.out; omega), f8.keepBlk X6.out.2.2.1 (by have := GG.out; omega)⟩)
  clear hHeld j8 f8
  refine hK.out _ _ X8.out (fun hHeld => ?_)
  clear hK K
  try simp only [Act.put, List.getElem_toArray, List.getElem_cons_succ, List.getElem_cons_zero]
  refine wpAnyH_take (i := 13) (v := ?v8) rfl (by kernel_rfl) (by kernel_rfl) (by kernel_rfl) (fun _ _ _ h => h) (Or.inl ⟨by rfl, ?hy8⟩) hHeld ?rest8
  case hy8 =>
    intro w' hSw
    try dsimp only at hSw
    go_simp
    first | done | with_reducible rfl
  try simp only [Act.put, List.getElem_toArray, List.getElem_cons_succ, List.getElem_cons_zero, List.setIfInBounds_toArray, List.set_cons_zero, List.set_cons_succ]
  refine wpAnyH_done (by kernel_rfl) ?_ _
  refine OnlyN.normal ?_
  clear hHeld
  go_wp2_with fail
  exact bodyPost_ret (results_act rfl _ _ (w.heap.size + 1 + 1) #[.slice r.A1 r.n1 r.c1, .slice r.A2 r.n2 r.c2, .int .i64 (t : Int), .slice r.A3 r.n3 r.c3] rfl rfl J8.out) rfl ⟨pl, D', r, rfl, BO8.out, FR8.out, fun q hq => .inl hq, fun b hb' => .inl hb'⟩
end Go.Proofs.Ytgjamgojjajcnaa
namespace Go.Proofs.Ytgjamgojjajcnaa
open Go.RowKit
/-- what a Fail tells; the document's disk behind it -/
noncomputable def faNo (l : List Int) : Int := @ite Int (∀ x ∈ l, 0 ≤ x) (Classical.propDecidable _) 0 2
noncomputable def faRf (R : Rf) (s : Nat) (l : List Int) : Rf := @ite Rf (∀ x ∈ l, 0 ≤ x) (Classical.propDecidable _) ⟨R.lb, R.ws, failR s l⟩ R
theorem fa_yes {l : List Int} (h : ∀ x ∈ l, 0 ≤ x) (R : Rf) (s : Nat) : faNo l = 0 ∧ faRf R s l = ⟨R.lb, R.ws, failR s l⟩ := ⟨if_pos h, if_pos h⟩
set_option maxRecDepth 8000 in
theorem fa_no {l : List Int} (h : ∃ x ∈ l, x < 0) (R : Rf) (s : Nat) : faNo l = 2 ∧ faRf R s l = R := by
  have hn : ¬ ∀ x ∈ l, 0 ≤ x := fun hh => by
    obtain ⟨x, hx, h0⟩ := h
    have := hh x hx
    omega
  exact ⟨if_neg hn, if_neg hn⟩
section
variable {w : World} {r : Rp} {R : Rf} {s z : Nat}
set_option maxRecDepth 8000 in
theorem rfail_both (h : RefAt w r R z) (hs : s ≤ 100000) (A : Option Addr) (cap : Nat) (l : List Int) (hl : l.length ≤ 1000) (hr : RdI w A l) (hwf : ∀ x ∈ l, x ≤ 9223372036854775807) :
    Calls Try.prog 34 #[r.val s, .slice A l.length cap] w fun e w' => ∃ r' : Rp, e = .returned (.tuple #[r'.val s, .int .i64 (faNo l)]) ∧ Below w.heap.size w w' ∧ RefAt w' r' (faRf R s l) z ∧ ∀ q, r'.at_ (faRf R s l) q → r.at_ R q ∨ w.heap.size ≤ q := by
  refine (rfail_any w r s (by omega) A cap l (by omega) hr hwf).mono ?_
  rintro e w' (⟨h0, A3, c3, rfl, hr3, hfr, hb⟩ | ⟨h0, rfl, hb⟩)
  · obtain ⟨e1, e2⟩ := fa_yes h0 R s
    rw [e1, e2]
    have hh := h.below hb
    refine ⟨_, rfl, hb, ⟨hh.n1, hh.l1, hh.r1, hh.n2, hh.r2, rfl, hr3, hh.wl, hh.z1, hh.z2, hh.m2, Nat.le_trans (failR_len s l) hl⟩, ?_⟩
    rintro q ⟨off, ⟨e, hp⟩ | ⟨e, hp⟩ | ⟨e, hp⟩⟩
    · exact .inl ⟨off, .inl ⟨e, hp⟩⟩
    · exact .inl ⟨off, .inr (.inl ⟨e, hp⟩)⟩
    · exact .inr (hfr q off e).1
  · obtain ⟨e1, e2⟩ := fa_no h0 R s
    rw [e1, e2]
    exact ⟨r, rfl, hb, h.below hb, fun q hq => .inl hq⟩
theorem Alike.failing {D : Dk} (ha : Alike D R s z) (l : List Int) : Alike (D.failing l) ⟨R.lb, R.ws, failR s l⟩ s z :=
  { size := ha.size, lasts := ha.lasts, waits := ha.waits, steps := ha.steps
    fails := fun n h1 h2 => by
      show inS l (n - (D.steps : Int)) = decide (n ∈ failR s l)
      rw [ha.steps]
      unfold inS failR
      rw [Bool.eq_iff_iff]
      simp only [decide_eq_true_eq, List.mem_map, List.mem_filter]
      constructor
      · intro h
        exact ⟨n - s, ⟨List.contains_iff_mem.1 h, by omega⟩, by omega⟩
      · rintro ⟨x, ⟨hx, _⟩, e⟩
        rw [show n - (s : Int) = x by omega]
        exact List.contains_iff_mem.2 hx }
set_option maxRecDepth 8000 in
theorem dfail_both {B p : Nat} {pl : Pl} {D : Dk} (hd : DiskAt w B p pl D) (hB : B ≤ w.heap.size) (ha : Alike D R s z) (A : Option Addr) (cap : Nat) (l : List Int) (hl : l.length ≤ 1000) (hr : RdI w A l) :
    Calls Try.prog 20 #[.pointer (some ⟨p, 0, none⟩), .slice A l.length cap] w fun e w' => e = .returned (.int .i64 (faNo l)) ∧ ∃ pl' D', DiskAt w' B p pl' D' ∧ Fr (pl.has p) w w' ∧ (∀ q, pl'.has p q → pl.has p q ∨ w.heap.size ≤ q) ∧ Alike D' (faRf R s l) s z := by
  refine (fail_any hd hB A cap l (by omega) hr).mono ?_
  rintro e w' (⟨h0, rfl, ⟨f, hd', hf⟩, hfr⟩ | ⟨h0, rfl, hb⟩)
  · obtain ⟨e1, e2⟩ := fa_yes h0 R s
    rw [e1, e2]
    refine ⟨rfl, _, _, hd', hfr, ?_, ha.failing l⟩
    rintro q (h | h | h | h)
    · exact .inl (.inl h)
    · exact .inl (.inr (.inl h))
    · exact .inl (.inr (.inr (.inl h)))
    · injection h with h
      exact .inr (h ▸ hf)
  · obtain ⟨e1, e2⟩ := fa_no h0 R s
    rw [e1, e2]
    exact ⟨rfl, pl, D, hd.below hb, (Fr.refl (pl.has p) w).below hb, fun q hq => .inl hq, ha⟩
end
end Go.Proofs.Ytgjamgojjajcnaa
namespace Go.Proofs.Ytgjamgojjajcnaa
open Go.RowKit
attribute [local go_sem] Oper.semAt_some
set_option maxRecDepth 100000 in
set_option maxHeartbeats 8000000 in
theorem act3_any {w : World} {B p : Nat} {pl : Pl} {D : Dk} {r : Rp} {R : Rf} {s z : Nat} (h : Bo w B p pl D r R s z) (hs : s ≤ 100000) (x : Ac) (hx : x.what = 3) (hxl : x.lies w) (hln : x.steps.length ≤ 1000) :
    Calls Try.prog 11 #[.pointer (some ⟨p, 0, none⟩), r.val s, x.val] w (ActPost w B p pl r R z (faRf R s x.steps) s) := by
  have hz := z43
  have H := Lib.hid h
  obtain ⟨Wd, hW⟩ : ∃ Wd, Wd = ((w.alloc (.cells #[.slice r.A1 r.n1 r.c1, .slice r.A2 r.n2 r.c2, .int .i64 (s : Int), .slice r.A3 r.n3 r.c3] 34)).alloc (.cells x.cs.toArray 28)).alloc (.cells #[.slice none 0 0, .slice none 0 0, .int .i64 0, .slice none 0 0] 34) := ⟨_, rfl⟩
  have A0 := Lib.hid (show Ag w r s x Wd from by rw [hW]; exact Ag.of w r s x)
  have x0 : (x.what == 0) = false := by rw [hx]; rfl
  have x1 : (x.what == 1) = false := by rw [hx]; rfl
  have x2 : (x.what == 2) = false := by rw [hx]; rfl
  have x3 : (x.what == 3) = true := by rw [hx]; rfl
  have HLI := Lib.hid hxl.steps
  have HWF := Lib.hid hxl.wf
  have HLN := Lib.hid hln
  have c0 := (A0.out.h1.cell 0).trans (show _ = some (.int .i64 x.what) from rfl)
  have c1 := (A0.out.h1.cell 1).trans (show _ = some (.int .i64 x.sector) from rfl)
  have c2 := (A0.out.h1.cell 2).trans (show _ = some (.int .i64 x.at_) from rfl)
  have c3 := (A0.out.h1.cell 3).trans (show _ = some (.int .u8 (x.byte.toNat : Int)) from rfl)
  have c4 := (A0.out.h1.cell 4).trans (show _ = some (.slice x.sA x.steps.length x.sc) from rfl)
  rw [hW] at c0 c1 c2 c3 c4
  have A00 := Lib.hid (hW ▸ A0.out.h0)
  clear h hx hxl hln
  go_enter Try.func11, Try.ntmps11
  go_wp2_with (first
    | (refine wpList_load_mid rfl 34 (.tmp 4) rfl w.heap.size 0 rfl [.slice r.A1 r.n1 r.c1, .slice r.A2 r.n2 r.c2, .int .i64 (s : Int), .slice r.A3 r.n3 r.c3] _ (Blk.rangeAt (l := [.slice r.A1 r.n1 r.c1, .slice r.A2 r.n2 r.c2, .int .i64 (s : Int), .slice r.A3 r.n3 r.c3]) A00.out) Try.underlying34 rfl size43 ?_))
  rw [← hW]
  clear hW c0 c1 c2 c3 c4 A00
  refine (rfail_both (H.out.rf.below A0.out.be) hs x.sA x.sc x.steps HLN.out (HLI.out.below A0.out.be) (fun n hn => (HWF.out n hn).2)).mono ?_
  rintro e W5 ⟨r', rfl, hb5, hr5, hat5⟩
  have NA0 := Lib.hid (show ∀ q, r'.at_ (faRf R s x.steps) q → r.at_ R q ∨ w.heap.size + 1 + 1 < q from fun q hq => (hat5 q hq).imp id (fun h => Nat.lt_of_lt_of_le A0.out.h7.lt h))
  have A5 := Lib.hid (A0.out.go hb5)
  have T5 := Lib.hid hr5
  obtain ⟨no, hno⟩ : ∃ no, no = faNo x.steps := ⟨_, rfl⟩
  rw [← hno]
  have HNO := Lib.hid hno
  have GG := Lib.hid (show w.heap.size + 1 + 1 < W5.heap.size from A5.out.h7.lt)
  clear hb5 hr5 hat5 hno A0
  have X6 := Lib.hid (show Ah w x W5.heap.size #[.slice r'.A1 r'.n1 r'.c1, .slice r'.A2 r'.n2 r'.c2, .int .i64 (s : Int), .slice r'.A3 r'.n3 r'.c3] (W5.alloc (.cells #[.slice r'.A1 r'.n1 r'.c1, .slice r'.A2 r'.n2 r'.c2, .int .i64 (s : Int), .slice r'.A3 r'.n3 r'.c3] 34)) from ⟨A5.out.h1.alloc _, A5.out.h7.alloc _, Blk.new W5 _ _⟩)
  have T6 := Lib.hid (T5.out.alloc (.cells #[.slice r'.A1 r'.n1 r'.c1, .slice r'.A2 r'.n2 r'.c2, .int .i64 (s : Int), .slice r'.A3 r'.n3 r'.c3] 34))
  have B6 := Lib.hid (A5.out.be.alloc A5.out.be.size (.cells #[.slice r'.A1 r'.n1 r'.c1, .slice r'.A2 r'.n2 r'.c2, .int .i64 (s : Int), .slice r'.A3 r'.n3 r'.c3] 34))
  clear A5 T5
  go_wp2_with fail
  generalize W5.alloc (.cells #[.slice r'.A1 r'.n1 r'.c1, .slice r'.A2 r'.n2 r'.c2, .int .i64 (s : Int), .slice r'.A3 r'.n3 r'.c3] 34) = m5 at X6 T6 B6 ⊢
  replace X6 := Lib.hid (X6.out.below (Below.drew (Below.refl _ m5)))
  replace T6 := Lib.hid T6.out.drew
  replace B6 := Lib.hid B6.out.drew
  refine wp_region_only (S := fun w' => w'.cell? ⟨w.heap.size + 1, 4, none⟩ = some (.slice x.sA x.steps.length x.sc) ∧ Blk w' W5.heap.size 34 #[.slice r'.A1 r'.n1 r'.c1, .slice r'.A2 r'.n2 r'.c2, .int .i64 (s : Int), .slice r'.A3 r'.n3 r'.c3]) (by kernel_rfl) ⟨(X6.out.h1.cell 4).trans rfl, X6.out.hg⟩ (fun hHeld => ?_)
  refine wpAnyH_take (i := 0) (v := ?v1) rfl (by kernel_rfl) (by kernel_rfl) (by kernel_rfl) (fun _ _ _ h => h) (Or.inl ⟨by rfl, ?hy1⟩) hHeld ?rest1
  case hy1 =>
    intro w' hSw
    try dsimp only at hSw
    go_simp
    first | done | with_reducible rfl
  try simp only [Act.put, List.getElem_toArray, List.getElem_cons_zero, List.setIfInBounds_toArray, List.set_cons_zero, List.set_cons_succ]
  refine wpAnyH_take (i := 1) rfl (by kernel_rfl) (by kernel_rfl) (by kernel_rfl) (fun _ _ _ h => h) (yieldsIf_load_mid (by rfl) 34 (.tmp 18) (by rfl) W5.heap.size 0 (by rfl) [.slice r'.A1 r'.n1 r'.c1, .slice r'.A2 r'.n2 r'.c2, .int .i64 (s : Int), .slice r'.A3 r'.n3 r'.c3] _ (fun w' hSw => Blk.rangeAt hSw.2) Try.underlying34 rfl size43) hHeld ?_
  try simp only [Act.put, List.getElem_toArray, List.getElem_cons_succ, List.getElem_cons_zero, List.setIfInBounds_toArray, List.set_cons_zero, List.set_cons_succ]
  refine wpAnyH_take (i := 2) (v := ?v2) rfl (by kernel_rfl) (by kernel_rfl) (by kernel_rfl) (fun _ _ _ h => h) (Or.inl ⟨by rfl, ?hy2⟩) hHeld ?rest2
  case hy2 =>
    intro w' hSw
    try dsimp only at hSw
    go_simp
    first | done | with_reducible rfl
  try simp only [Act.put, List.getElem_toArray, List.getElem_cons_succ, List.getElem_cons_zero, List.setIfInBounds_toArray, List.set_cons_zero, List.set_cons_succ]
  refine wpAnyH_take (i := 3) (v := ?v3) rfl (by kernel_rfl) (by kernel_rfl) (by kernel_rfl) (fun _ _ _ h => h) (Or.inl ⟨by rfl, ?hy3⟩) hHeld ?rest3
  case hy3 =>
    intro w' hSw
    try dsimp only at hSw
    go_simp
    first | done | with_reducible rfl
  try simp only [Act.put, List.getElem_toArray, List.getElem_cons_succ, List.getElem_cons_zero, List.setIfInBounds_toArray, List.set_cons_zero, List.set_cons_succ]
  refine wpAnyH_take (i := 4) (v := ?v4) rfl (by kernel_rfl) (by kernel_rfl) (by kernel_rfl) (fun _ _ _ h => h) (Or.inl ⟨by rfl, ?hy4⟩) hHeld ?rest4
  case hy4 =>
    intro w' hSw
    try dsimp only at hSw
    go_simp
    first | done | with_reducible rfl
  try simp only [Act.put, List.getElem_toArray, List.getElem_cons_succ, List.getElem_cons_zero, List.setIfInBounds_toArray, List.set_cons_zero, List.set_cons_succ]
  refine wpAnyH_take (i := 7) (v := ?v5) rfl (by kernel_rfl) (by kernel_rfl) (by kernel_rfl) (fun _ _ _ h => h) (Or.inl ⟨by rfl, ?hy5⟩) hHeld ?rest5
  case hy5 =>
    intro w' hSw
    try dsimp only at hSw
    go_simp
    first | done | with_reducible rfl
  try simp only [Act.put, List.getElem_toArray, List.getElem_cons_succ, List.getElem_cons_zero, List.setIfInBounds_toArray, List.set_cons_zero, List.set_cons_succ]
  refine wpAnyH_ready (rs := [5]) (by kernel_rfl) (by simp) ?_
  refine AllReadyH.cons (by rfl) (fun K hK => ?_) AllReadyH.nil
  go_simp
  refine (dfail_both (H.out.da.below B6.out) (Nat.le_trans H.out.hB B6.out.size) H.out.al x.sA x.sc x.steps HLN.out (HLI.out.below B6.out)).mono ?_
  rintro e m6 ⟨rfl, pl', D', hd, hf, hpl, hal⟩
  have HM := Lib.hid X6.out.hg.lt
  have HPL := Lib.hid hpl
  have X7 := Lib.hid (X6.out.fr hf (fun k hk => (H.out.da.lt k hk).1) GG.out)
  have BO := Lib.hid (H.out.mk' B6.out.size T6.out (fun b hb' => (NA0.out b hb').imp id (fun h => by omega)) hd hf hpl hal)
  have FR := Lib.hid (show Fr (pl.has p) w m6 from (Fr.of_below B6.out).trans hf)
  have HPL2 := Lib.hid (show ∀ q, pl'.has p q → pl.has p q ∨ w.heap.size ≤ q from fun q hq => (HPL.out q hq).imp id (fun h => Nat.le_trans B6.out.size h))
  have HPN := Lib.hid (show ¬ pl'.has p (w.heap.size + 1 + 1) from fun hk => by
    rcases HPL.out _ hk with h | h
    · have := (H.out.da.lt _ h).1
      omega
    · have h1 := HM.out
      have h2 := GG.out
      omega)
  rw [← HNO.out]
  clear hd hf hal hHeld T6 B6 X6 hpl HPL
  refine hK.out _ _ ⟨(X7.out.h1.cell 4).trans rfl, X7.out.hg⟩ (fun hHeld => ?_)
  clear hK K
  try simp only [Act.put, List.getElem_toArray, List.getElem_cons_succ, List.getElem_cons_zero, List.setIfInBounds_toArray, List.set_cons_zero, List.set_cons_succ]
  refine wpAnyH_ready (rs := [6]) (by kernel_rfl) (by simp) ?_
  refine AllReadyH.cons (by rfl) (fun K hK => ?_) AllReadyH.nil
  go_simp
  refine (num_any _ _).mono ?_
  rintro e m7 ⟨rfl, rfl⟩
  clear hHeld
  refine hK.out _ _ ⟨(X7.out.h1.cell 4).trans rfl, X7.out.hg⟩ (fun hHeld => ?_)
  clear hK K
  try simp only [Act.put, List.getElem_toArray, List.getElem_cons_succ, List.getElem_cons_zero, List.setIfInBounds_toArray, List.set_cons_zero, List.set_cons_succ]
  refine wpAnyH_take (i := 8) (v := ?v6) rfl (by kernel_rfl) (by kernel_rfl) (by kernel_rfl) (fun _ _ _ h => h) (Or.inl ⟨by rfl, ?hy6⟩) hHeld ?rest6
  case hy6 =>
    intro w' hSw
    try dsimp only at hSw
    go_simp
    first | done | with_reducible rfl
  try simp only [Act.put, List.getElem_toArray, List.getElem_cons_succ, List.getElem_cons_zero, List.setIfInBounds_toArray, List.set_cons_zero, List.set_cons_succ]
  refine wpAnyH_take (i := 9) (v := ?v7) rfl (by kernel_rfl) (by kernel_rfl) (by kernel_rfl) (fun _ _ _ h => h) (Or.inl ⟨by rfl, ?hy7⟩) hHeld ?rest7
  case hy7 =>
    intro w' hSw
    try dsimp only at hSw
    go_simp
    first | done | with_reducible rfl
  try simp only [Act.put, List.getElem_toArray, List.getElem_cons_succ, List.getElem_cons_zero, List.setIfInBounds_toArray, List.set_cons_zero, List.set_cons_succ]
  refine wpAnyH_ready (rs := [10]) (by kernel_rfl) (by simp) ?_
  refine AllReadyH.cons (by rfl) (fun K hK => ?_) AllReadyH.nil
  refine step_store_whole rfl 34 (.tmp 7) (.tmp 104) rfl (by rfl) #[.slice r'.A1 r'.n1 r'.c1, .slice r'.A2 r'.n2 r'.c2, .int .i64 (s : Int), .slice r'.A3 r'.n3 r'.c3] #[.slice none 0 0, .slice none 0 0, .int .i64 0, .slice none 0 0] 34 (by rfl) X7.out.h7 (size43c _ _ _ _) rfl (one43 _ _ _ _ _ _ _ _ _ _) ?_
  intro m8 j8 f8
  have J8 := Lib.hid j8
  have BO8 := Lib.hid (show Bo m8 B p pl' D' r' (faRf R s x.steps) s z from BO.out.far f8 HPN.out (fun hk => by rcases NA0.out _ hk with h | h; (have := H.out.rf.lt h; omega); omega))
  have FR8 := Lib.hid (FR.out.then_ f8 (fun i hi e => by omega))
  have X8 := Lib.hid (show Blk m8 W5.heap.size 34 #[.slice r'.A1 r'.n1 r'.c1, .slice r'.A2 r'.n2 r'.c2, .int .i64 (s : Int), .slice r'.A3 r'.n3 r'.c3] ∧ Blk m8 (w.heap.size + 1) 28 x.cs.toArray from ⟨f8.keepBlk X7.out.hg (by have := GG.out; omega), f8.keepBlk X7.out.h1 (by omega)⟩)
  clear hHeld j8 f8 BO FR X7
  refine hK.out _ _ ⟨(X8.out.2.cell 4).trans rfl, X8.out.1⟩ (fun hHeld => ?_)
  clear hK K
  try simp only [Act.put, List.getElem_toArray, List.getElem_cons_succ, List.getElem_cons_zero]
  refine wpAnyH_take (i := 11) (v := ?v8) rfl (by kernel_rfl) (by kernel_rfl) (by kernel_rfl) (fun _ _ _ h => h) (Or.inl ⟨by rfl, ?hy8⟩) hHeld ?rest8
  case hy8 =>
    intro w' hSw
    try dsimp only at hSw
    go_simp
    first | done | with_reducible rfl
  try simp only [Act.put, List.getElem_toArray, List.getElem_cons_succ, List.getElem_cons_zero, List.setIfInBounds_toArray, List.set_cons_zero, List.set_cons_succ]
  refine wpAnyH_done (by kernel_rfl) ?_ _
  refine OnlyN.normal ?_
  clear hHeld
  go_wp2_with fail
  exact bodyPost_ret (results_act rfl _ _ (w.heap.size + 1 + 1) #[.slice r'.A1 r'.n1 r'.c1, .slice r'.A2 r'.n2 r'.c2, .int .i64 (s : Int), .slice r'.A3 r'.n3 r'.c3] rfl rfl J8.out) rfl ⟨pl', D', r', rfl, BO8.out, FR8.out, HPL2.out, fun b hb' => (NA0.out b hb').imp id (fun h => by omega)⟩
end Go.Proofs.Ytgjamgojjajcnaa

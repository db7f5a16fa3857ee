/- The law HeadersReads returns true for every input: both headers are told, and the one that counts. No condition. -/
import Derived.Test.YtcfkoglehjkkdaaHT2
namespace Go.Proofs.Ytcfkoglehjkkdaa.headersReads
open Go.ChangeShapes Go.WideShapes Go.ChangeAt Go.RowKit
attribute [local go_sem] Oper.semAt_some
set_option maxRecDepth 100000 in
set_option maxHeartbeats 800000 in
theorem walk_no (w : World) (x : Ds) (hx : ¬ x.ok) : Calls Try.prog 4 #[x.val] w fun e w' => e = .returned (.bool true) ∧ Below w.heap.size w w' := by
  have X0 := Lib.hid (Blk.new w 26 x.cs.toArray)
  have L0 := Lib.hid ((Below.refl w.heap.size w).alloc (Nat.le_refl _) (.cells x.cs.toArray 26))
  have HX := Lib.hid hx
  clear hx
  go_enter Try.func4, Try.ntmps4
  go_wp2_with (first
    | (refine wpList_load_mid rfl 26 (.tmp 1) rfl w.heap.size 0 rfl x.cs _ (Blk.rangeAt (l := x.cs) X0.out) Try.underlying26 rfl (sizeDs x) ?_)
    | (go_at_call 7; refine (small_no _ x HX.out).mono ?_; rintro e W1 ⟨rfl, hb⟩; have L1 := Lib.hid (L0.out.trans (hb.mono L0.out.size)); clear hb)
    | (go_at_call 8; refine (works8_any _).mono ?_; rintro e W2 ⟨rfl, hb⟩; have L2 := Lib.hid (L1.out.trans (hb.mono L1.out.size)); clear hb))
  go_ret
  exact ⟨rfl, L2.out⟩
set_option maxRecDepth 100000 in
set_option maxHeartbeats 800000 in
theorem walk_in8 (w : World) (z : Nat) (A0 : Option Addr) (n0 c0 : Nat) (A1 : Option Addr) (n1 c1 : Nat) (A2 : Option Addr) (c2 : Nat) (l0 l1 : List UInt8) (lf : List Int) (hx : Ds.ok ⟨(z : Int), A0, n0, c0, A1, n1, c1, A2, lf.length, c2⟩)
    (e0 : l0.length = n0) (e1 : l1.length = n1) (r0 : Rd w A0 l0) (r1 : Rd w A1 l1) (r2 : RdI w A2 lf) (rwf : ∀ m ∈ lf, m ≤ 9223372036854775807) :
    Calls Try.prog 4 #[Ds.val ⟨(z : Int), A0, n0, c0, A1, n1, c1, A2, lf.length, c2⟩] w fun e w' => e = .returned (.bool true) ∧ Below w.heap.size w w' := by
  have hz := z43
  have hz23 := z23
  have hz52 := z52
  have hz53 := z53
  have OK := Lib.hid hx
  have ZZ := Lib.hid (show 1 ≤ z ∧ z ≤ 220 by have h1 := hx.1; have h2 := hx.2.1; simp only at h1 h2; omega)
  have ZL := Lib.hid (And.intro e0 e1)
  have R0 := Lib.hid r0
  have R1 := Lib.hid r1
  have R2 := Lib.hid r2
  have RW := Lib.hid rwf
  have X := Lib.hid (Blk.new w 26 (Ds.cs ⟨(z : Int), A0, n0, c0, A1, n1, c1, A2, lf.length, c2⟩).toArray)
  have L := Lib.hid ((Below.refl w.heap.size w).alloc (Nat.le_refl _) (.cells (Ds.cs ⟨(z : Int), A0, n0, c0, A1, n1, c1, A2, lf.length, c2⟩).toArray 26))
  clear hx e0 e1 r0 r1 r2 rwf
  go_enter Try.func4, Try.ntmps4
  go_wp2_with (first
    | (refine wpList_load_mid rfl 26 (.tmp 1) rfl w.heap.size 0 rfl (Ds.cs ⟨(z : Int), A0, n0, c0, A1, n1, c1, A2, lf.length, c2⟩) _ (Blk.rangeAt (l := (Ds.cs ⟨(z : Int), A0, n0, c0, A1, n1, c1, A2, lf.length, c2⟩)) X.out) Try.underlying26 rfl (sizeDs _) ?_)
    | (go_at_call 7; refine (small_yes _ _ OK.out).mono ?_; rintro e W1 ⟨rfl, hb⟩; replace X := Lib.hid (X.out.below hb X.out.lt); replace L := Lib.hid (L.out.trans (hb.mono L.out.size)); have RA := Lib.hid (R0.out.below L.out); have RB := Lib.hid (R1.out.below L.out); have RC := Lib.hid (R2.out.below L.out); clear hb)
    | (go_at_call 9; refine (made_any _ z ZZ.out.1 ZZ.out.2 A0 n0 c0 A1 n1 c1 A2 c2 l0 l1 lf ZL.out.1 ZL.out.2 OK.out.2.2.1 OK.out.2.2.2.1 OK.out.2.2.2.2 RA.out RB.out RC.out RW.out).mono ?_; rintro e W2 ⟨p, pl, D, r, fl, rfl, bo, hb⟩; obtain ⟨R, hR⟩ : ∃ R : Rf, R = ⟨mB z l0 l1, [], fl⟩ := ⟨_, rfl⟩; rw [← hR] at bo; have RN := Lib.hid (show R.ws.length ≤ 1000000 by rw [hR]; show (0 : Nat) ≤ 1000000; omega); have HB := Lib.hid (show w.heap.size < W1.heap.size from X.out.lt); replace L := Lib.hid (L.out.trans (hb.mono L.out.size)); have BO := Lib.hid bo; have NN := Lib.hid (fun k (hk : W2.heap.size ≤ k) => (⟨bo.da.not_new hk, fun h => by have := bo.rf.lt h; omega⟩ : ¬ pl.has p k ∧ ¬ r.at_ R k)); have SA := Lib.hid (show w.heap.size < W2.heap.size by have := HB.out; have := hb.size; omega); replace BO := Lib.hid (BO.out.alloc (.cells #[.slice none 0 0, .slice none 0 0, .int .i64 0, .slice none 0 0] 33)); replace L := Lib.hid (L.out.alloc L.out.size (.cells #[.slice none 0 0, .slice none 0 0, .int .i64 0, .slice none 0 0] 33)); have K4 := Lib.hid (show Blk (W2.alloc (.cells #[.slice none 0 0, .slice none 0 0, .int .i64 0, .slice none 0 0] 33)) (W2.heap.size) 33 #[.slice none 0 0, .slice none 0 0, .int .i64 0, .slice none 0 0] from blk_at8 _ _ _ _ (by simp)); clear hb bo hR RA RB RC X)
    | (refine wpList_store_g8 rfl 33 (.tmp 4) (.tmp 34) rfl (g := W2.heap.size) (by rfl) #[.slice r.A1 r.n1 r.c1, .slice r.A2 r.n2 r.c2, .int .i64 0, .slice r.A3 r.n3 r.c3] #[.slice none 0 0, .slice none 0 0, .int .i64 0, .slice none 0 0] 33 (by rfl) K4.out (size43c8 _ _ _ _) rfl (one43c8 _ _ _ _ _ _ _ _ _) ?_; intro S1 j f; replace K4 := Lib.hid j; replace BO := Lib.hid (BO.out.far8 f (NN.out _ (by have := SA.out; omega)).1 (NN.out _ (by have := SA.out; omega)).2); replace L := Lib.hid (L.out.trans (f.to_below (fun k e => by have := SA.out; omega) L.out.size)); clear j f)
    | (refine wpList_load_mid rfl 33 (.tmp 4) rfl (W2.heap.size) 0 rfl [.slice r.A1 r.n1 r.c1, .slice r.A2 r.n2 r.c2, .int .i64 0, .slice r.A3 r.n3 r.c3] _ (Blk.rangeAt (l := [.slice r.A1 r.n1 r.c1, .slice r.A2 r.n2 r.c2, .int .i64 0, .slice r.A3 r.n3 r.c3]) K4.out) Try.underlying33 rfl size43 ?_))
  obtain ⟨t, ht⟩ : ∃ t, bcSt R 0 z = t := ⟨_, rfl⟩
  obtain ⟨u, hu⟩ : ∃ t, rhH R 0 z = t := ⟨_, rfl⟩
  obtain ⟨at_, hat⟩ : ∃ t, rhAt R 0 z = t := ⟨_, rfl⟩
  obtain ⟨no, hno⟩ : ∃ t, rhNo R 0 z = t := ⟨_, rfl⟩
  obtain ⟨t2, ht2⟩ : ∃ s, bcSt R t z = s := ⟨_, rfl⟩
  obtain ⟨x0, hx0⟩ : ∃ s, bcH R t z 0 = s := ⟨_, rfl⟩
  obtain ⟨x1, hx1⟩ : ∃ s, bcH R t z 1 = s := ⟨_, rfl⟩
  obtain ⟨a, ha⟩ : ∃ s, bcB R t z 0 = s := ⟨_, rfl⟩
  obtain ⟨b, hb⟩ : ∃ s, bcB R t z 1 = s := ⟨_, rfl⟩
  obtain ⟨no2, hno2⟩ : ∃ s, bcNo R t z = s := ⟨_, rfl⟩
  have htl : t ≤ 2 := by
    rw [← ht]
    unfold bcSt
    split
    · omega
    · split <;> omega
  have hz1 : 1 ≤ z := ZZ.out.1
  have PH := Lib.hid (fun (W : World) (h : Bo W W1.heap.size p pl D r R 0 z) => show Calls Try.prog 18 #[.pointer (some ⟨p, 0, none⟩)] W fun e w' => e = .returned (.tuple #[u.val, .int .i64 (at_ : Int), .int .i64 no]) ∧ ∃ D1, Bo w' W1.heap.size p pl D1 r R t z ∧ Fr (pl.has p) W w' from by
    have := hread_all (s := 0) h.da h.al RN.out (Nat.zero_le _) hz1
    rw [ht, hu, hat, hno] at this
    refine this.mono ?_
    rintro e w' ⟨e1, D1, q1, q2, q3⟩
    exact ⟨e1, D1, h.mk8 (Nat.le_refl _) h.rf (fun _ => .inl) q1 q2 (fun _ => .inl) q3, q2⟩)
  have RB := Lib.hid (fun (W : World) (h : RefAt W r R z) => show Calls Try.prog 19 #[.agg #[.slice r.A1 r.n1 r.c1, .slice r.A2 r.n2 r.c2, .int .i64 (t : Int), .slice r.A3 r.n3 r.c3]] W fun e w' => e = .returned (.tuple #[.agg #[.slice r.A1 r.n1 r.c1, .slice r.A2 r.n2 r.c2, .int .i64 (t2 : Int), .slice r.A3 r.n3 r.c3], .agg (cs2 x0 x1).toArray, .agg #[.bool a, .bool b], .int .i64 no2]) ∧ Below W.heap.size W w' from by
    have := rboth_any (s := t) h (by omega)
    rw [ht2, hx0, hx1, ha, hb, hno2] at this
    exact this)
  have PB := Lib.hid (fun (W : World) (D1 : Dk) (h : Bo W W1.heap.size p pl D1 r R t z) => show Calls Try.prog 20 #[.pointer (some ⟨p, 0, none⟩)] W fun e w' => e = .returned (.tuple #[.agg (cs2 x0 x1).toArray, .agg #[.bool a, .bool b], .int .i64 no2]) ∧ ∃ D2, Bo w' W1.heap.size p pl D2 r R t2 z ∧ Fr (pl.has p) W w' from by
    have := both_any (s := t) h.da h.al RN.out (by omega) hz1
    rw [ht2, hx0, hx1, ha, hb, hno2] at this
    refine this.mono ?_
    rintro e w' ⟨e1, D2, q1, q2, q3⟩
    exact ⟨e1, D2, h.mk8 (Nat.le_refl _) h.rf (fun _ => .inl) q1 q2 (fun _ => .inl) q3, q2⟩)
  refine (show Calls Try.prog _ #[.agg #[.slice r.A1 r.n1 r.c1, .slice r.A2 r.n2 r.c2, .int .i64 0, .slice r.A3 r.n3 r.c3]] _ (fun e w' => e = .returned (.tuple #[.agg #[.slice r.A1 r.n1 r.c1, .slice r.A2 r.n2 r.c2, .int .i64 (t : Int), .slice r.A3 r.n3 r.c3], u.val, .int .i64 (at_ : Int), .int .i64 no]) ∧ Below _ _ w') from by
    have := rread8_all (s := 0) BO.out.rf (Nat.zero_le _)
    rw [ht, hu, hat, hno] at this
    exact this).mono ?_
  rintro e V1 ⟨rfl, hb⟩
  replace BO := Lib.hid (BO.out.below hb); replace L := Lib.hid (L.out.trans (hb.mono L.out.size)); have SB := Lib.hid (show W2.heap.size < V1.heap.size by have := K4.out.lt; have := hb.size; omega); replace BO := Lib.hid (BO.out.alloc (.cells #[.slice none 0 0, .slice none 0 0, .int .i64 0, .slice none 0 0] 33)); replace L := Lib.hid (L.out.alloc L.out.size (.cells #[.slice none 0 0, .slice none 0 0, .int .i64 0, .slice none 0 0] 33)); have K6 := Lib.hid (show Blk (V1.alloc (.cells #[.slice none 0 0, .slice none 0 0, .int .i64 0, .slice none 0 0] 33)) (V1.heap.size) 33 #[.slice none 0 0, .slice none 0 0, .int .i64 0, .slice none 0 0] from blk_at8 _ _ _ _ (by simp)); replace K6 := Lib.hid (K6.out.alloc (.cells hd0.cs.toArray 28)); replace BO := Lib.hid (BO.out.alloc (.cells hd0.cs.toArray 28)); replace L := Lib.hid (L.out.alloc L.out.size (.cells hd0.cs.toArray 28)); have K7 := Lib.hid (show Blk ((V1.alloc (.cells #[.slice none 0 0, .slice none 0 0, .int .i64 0, .slice none 0 0] 33)).alloc (.cells hd0.cs.toArray 28)) (V1.heap.size + 1) 28 hd0.cs.toArray from blk_at8 _ _ _ _ (by simp)); clear hb K4 ht hu hat hno ht2 hx0 hx1 ha hno2 htl
  go_wp2_with (first
    | (refine wpList_store_g8 rfl 33 (.tmp 6) (.tmp 39) rfl (g := V1.heap.size) (by rfl) #[.slice r.A1 r.n1 r.c1, .slice r.A2 r.n2 r.c2, .int .i64 (t : Int), .slice r.A3 r.n3 r.c3] #[.slice none 0 0, .slice none 0 0, .int .i64 0, .slice none 0 0] 33 (by rfl) K6.out (size43c8 _ _ _ _) rfl (one43c8 _ _ _ _ _ _ _ _ _) ?_; intro S2 j f; replace K7 := Lib.hid (f.keepBlk K7.out (by have := SA.out; have := SB.out; omega)); replace K6 := Lib.hid j; replace BO := Lib.hid (BO.out.far8 f (NN.out _ (by have := SA.out; have := SB.out; omega)).1 (NN.out _ (by have := SA.out; have := SB.out; omega)).2); replace L := Lib.hid (L.out.trans (f.to_below (fun k e => by have := SA.out; have := SB.out; omega) L.out.size)); clear j f)
    | (refine wpList_store_g8 rfl 28 (.tmp 7) (.tmp 40) rfl (g := V1.heap.size + 1) (by rfl) u.cs.toArray hd0.cs.toArray 28 (by rfl) K7.out (by kernel_rfl) rfl (one23 _) ?_; intro S3 j f; replace K6 := Lib.hid (f.keepBlk K6.out (by have := SA.out; have := SB.out; omega)); replace K7 := Lib.hid j; replace BO := Lib.hid (BO.out.far8 f (NN.out _ (by have := SA.out; have := SB.out; omega)).1 (NN.out _ (by have := SA.out; have := SB.out; omega)).2); replace L := Lib.hid (L.out.trans (f.to_below (fun k e => by have := SA.out; have := SB.out; omega) L.out.size)); clear j f)
    | (go_at_call 18; refine (PH.out _ BO.out).mono ?_; rintro e V5 ⟨rfl, D1, bo, hf⟩; replace K6 := Lib.hid (hf.keepBlk K6.out (NN.out _ (by have := SA.out; have := SB.out; omega)).1); replace K7 := Lib.hid (hf.keepBlk K7.out (NN.out _ (by have := SA.out; have := SB.out; omega)).1); replace L := Lib.hid (L.out.trans (hf.to_below (fun k hk => by have := (BO.out.da.lt _ hk).2; have := HB.out; omega) L.out.size)); replace BO := Lib.hid bo; have SC := Lib.hid (show V1.heap.size + 1 < V5.heap.size from K7.out.lt); replace K6 := Lib.hid (K6.out.alloc (.cells hd0.cs.toArray 28)); replace K7 := Lib.hid (K7.out.alloc (.cells hd0.cs.toArray 28)); replace BO := Lib.hid (BO.out.alloc (.cells hd0.cs.toArray 28)); replace L := Lib.hid (L.out.alloc L.out.size (.cells hd0.cs.toArray 28)); have K10 := Lib.hid (show Blk (V5.alloc (.cells hd0.cs.toArray 28)) (V5.heap.size) 28 hd0.cs.toArray from blk_at8 _ _ _ _ (by simp)); clear hf bo)
    | (refine wpList_store_g8 rfl 28 (.tmp 10) (.tmp 46) rfl (g := V5.heap.size) (by rfl) u.cs.toArray hd0.cs.toArray 28 (by rfl) K10.out (by kernel_rfl) rfl (one23 _) ?_; intro S4 j f; replace K6 := Lib.hid (f.keepBlk K6.out (by have := SA.out; have := SB.out; have := SC.out; omega)); replace K7 := Lib.hid (f.keepBlk K7.out (by have := SA.out; have := SB.out; have := SC.out; omega)); replace K10 := Lib.hid j; replace BO := Lib.hid (BO.out.far8 f (NN.out _ (by have := SA.out; have := SB.out; have := SC.out; omega)).1 (NN.out _ (by have := SA.out; have := SB.out; have := SC.out; omega)).2); replace L := Lib.hid (L.out.trans (f.to_below (fun k e => by have := SA.out; have := SB.out; have := SC.out; omega) L.out.size)); clear j f))
  replace K6 := Lib.hid (blk_drew K6.out)
  replace K7 := Lib.hid (blk_drew K7.out)
  replace K10 := Lib.hid (blk_drew K10.out)
  replace BO := Lib.hid BO.out.drew
  replace L := Lib.hid L.out.drew
  refine wp_region_only (S := fun w' => w'.cell? ⟨V1.heap.size, 2, none⟩ = some (.int .i64 (t : Int)) ∧ Blk w' V5.heap.size 28 u.cs.toArray ∧ Blk w' (V1.heap.size + 1) 28 u.cs.toArray) (by kernel_rfl) (⟨(K6.out.cell 2).trans rfl, K10.out, K7.out⟩) (fun hHeld => ?_)
  refine wpAnyH_take (i := 0) (v := ?v1) rfl (by kernel_rfl) (by kernel_rfl) (by kernel_rfl) (fun _ _ _ h => h) (Or.inl ⟨by rfl, ?hy1⟩) hHeld ?rest1
  case hy1 =>
    intro w' hSw
    try dsimp only at hSw
    go_simp
    first | done | with_reducible rfl
  try simp only [Act.put, List.getElem_toArray, List.getElem_cons_zero, List.setIfInBounds_toArray, List.set_cons_zero, List.set_cons_succ]
  refine wpAnyH_take (i := 1) (v := ?v2) rfl (by kernel_rfl) (by kernel_rfl) (by kernel_rfl) (fun _ _ _ h => h) (Or.inl ⟨by rfl, ?hy2⟩) hHeld ?rest2
  case hy2 =>
    intro w' hSw
    try dsimp only at hSw
    go_simp
    first | done | with_reducible rfl
  try simp only [Act.put, List.getElem_toArray, List.getElem_cons_succ, List.getElem_cons_zero, List.setIfInBounds_toArray, List.set_cons_zero, List.set_cons_succ]
  refine wpAnyH_take (i := 2) (v := ?v3) rfl (by kernel_rfl) (by kernel_rfl) (by kernel_rfl) (fun _ _ _ h => h) (Or.inl ⟨by rfl, ?hy3⟩) hHeld ?rest3
  case hy3 =>
    intro w' hSw
    try dsimp only at hSw
    go_simp
    first | done | with_reducible rfl
  try simp only [Act.put, List.getElem_toArray, List.getElem_cons_succ, List.getElem_cons_zero, List.setIfInBounds_toArray, List.set_cons_zero, List.set_cons_succ]
  refine wpAnyH_take (i := 3) rfl (by kernel_rfl) (by kernel_rfl) (by kernel_rfl) (fun _ _ _ h => h) (yieldsIf_load_mid (by rfl) 28 (.tmp 10) (by rfl) V5.heap.size 0 (by rfl) u.cs _ (fun w' hSw => Blk.rangeAt (l := u.cs) hSw.2.1) Try.underlying28 rfl (size23 _)) hHeld ?_
  try simp only [Act.put, List.getElem_toArray, List.getElem_cons_succ, List.getElem_cons_zero, List.setIfInBounds_toArray, List.set_cons_zero, List.set_cons_succ]
  refine wpAnyH_take (i := 4) rfl (by kernel_rfl) (by kernel_rfl) (by kernel_rfl) (fun _ _ _ h => h) (yieldsIf_load_mid (by rfl) 28 (.tmp 7) (by rfl) (V1.heap.size + 1) 0 (by rfl) u.cs _ (fun w' hSw => Blk.rangeAt (l := u.cs) hSw.2.2) Try.underlying28 rfl (size23 _)) hHeld ?_
  try simp only [Act.put, List.getElem_toArray, List.getElem_cons_succ, List.getElem_cons_zero, List.setIfInBounds_toArray, List.set_cons_zero, List.set_cons_succ]
  refine wpAnyH_take (i := 5) rfl (by kernel_rfl) (by kernel_rfl) (by kernel_rfl) (fun _ _ _ h => h) (y_ne23 (by rfl) (.tmp 52) (.tmp 53) (by rfl) u (by rfl) (by rfl)) hHeld ?_
  try simp only [Act.put, List.getElem_toArray, List.getElem_cons_succ, List.getElem_cons_zero, List.setIfInBounds_toArray, List.set_cons_zero, List.set_cons_succ]
  refine wpAnyH_take (i := 6) (v := ?v4) rfl (by kernel_rfl) (by kernel_rfl) (by kernel_rfl) (fun _ _ _ h => h) (Or.inl ⟨by rfl, ?hy4⟩) hHeld ?rest4
  case hy4 =>
    intro w' hSw
    try dsimp only at hSw
    go_simp
    first | done | with_reducible rfl
  try simp only [Act.put, List.getElem_toArray, List.getElem_cons_succ, List.getElem_cons_zero, List.setIfInBounds_toArray, List.set_cons_zero, List.set_cons_succ]
  refine wpAnyH_take (i := 7) (v := ?v5) rfl (by kernel_rfl) (by kernel_rfl) (by kernel_rfl) (fun _ _ _ h => h) (Or.inl ⟨by rfl, ?hy5⟩) hHeld ?rest5
  case hy5 =>
    intro w' hSw
    try dsimp only at hSw
    go_simp
    first | done | with_reducible rfl
  try simp only [Act.put, List.getElem_toArray, List.getElem_cons_succ, List.getElem_cons_zero, List.setIfInBounds_toArray, List.set_cons_zero, List.set_cons_succ]
  refine wpAnyH_take (i := 8) (v := ?v6) rfl (by kernel_rfl) (by kernel_rfl) (by kernel_rfl) (fun _ _ _ h => h) (Or.inl ⟨by rfl, ?hy6⟩) hHeld ?rest6
  case hy6 =>
    intro w' hSw
    try dsimp only at hSw
    go_simp
    first | done | with_reducible rfl
  try simp only [Act.put, List.getElem_toArray, List.getElem_cons_succ, List.getElem_cons_zero, List.setIfInBounds_toArray, List.set_cons_zero, List.set_cons_succ]
  refine wpAnyH_take (i := 9) (v := ?v7) rfl (by kernel_rfl) (by kernel_rfl) (by kernel_rfl) (fun _ _ _ h => h) (Or.inl ⟨by rfl, ?hy7⟩) hHeld ?rest7
  case hy7 =>
    intro w' hSw
    try dsimp only at hSw
    go_simp
    first | done | with_reducible rfl
  try simp only [Act.put, List.getElem_toArray, List.getElem_cons_succ, List.getElem_cons_zero, List.setIfInBounds_toArray, List.set_cons_zero, List.set_cons_succ]
  refine wpAnyH_take (i := 10) (v := ?v8) rfl (by kernel_rfl) (by kernel_rfl) (by kernel_rfl) (fun _ _ _ h => h) (Or.inl ⟨by rfl, ?hy8⟩) hHeld ?rest8
  case hy8 =>
    intro w' hSw
    try dsimp only at hSw
    go_simp
    first | done | with_reducible rfl
  try simp only [Act.put, List.getElem_toArray, List.getElem_cons_succ, List.getElem_cons_zero, List.setIfInBounds_toArray, List.set_cons_zero, List.set_cons_succ]
  refine wpAnyH_take (i := 11) (v := ?v9) rfl (by kernel_rfl) (by kernel_rfl) (by kernel_rfl) (fun _ _ _ h => h) (Or.inl ⟨by rfl, ?hy9⟩) hHeld ?rest9
  case hy9 =>
    intro w' hSw
    try dsimp only at hSw
    go_simp
    first | done | with_reducible rfl
  try simp only [Act.put, List.getElem_toArray, List.getElem_cons_succ, List.getElem_cons_zero, List.setIfInBounds_toArray, List.set_cons_zero, List.set_cons_succ]
  refine wpAnyH_take (i := 12) (v := ?v10) rfl (by kernel_rfl) (by kernel_rfl) (by kernel_rfl) (fun _ _ _ h => h) (Or.inl ⟨by rfl, ?hy10⟩) hHeld ?rest10
  case hy10 =>
    intro w' hSw
    try dsimp only at hSw
    go_simp
    first | done | with_reducible rfl
  try simp only [Act.put, List.getElem_toArray, List.getElem_cons_succ, List.getElem_cons_zero, List.setIfInBounds_toArray, List.set_cons_zero, List.set_cons_succ]
  refine wpAnyH_take (i := 13) (v := ?v11) rfl (by kernel_rfl) (by kernel_rfl) (by kernel_rfl) (fun _ _ _ h => h) (Or.inl ⟨by rfl, ?hy11⟩) hHeld ?rest11
  case hy11 =>
    intro w' hSw
    try dsimp only at hSw
    go_simp
    first | done | with_reducible rfl
  try simp only [Act.put, List.getElem_toArray, List.getElem_cons_succ, List.getElem_cons_zero, List.setIfInBounds_toArray, List.set_cons_zero, List.set_cons_succ]
  refine wpAnyH_take (i := 15) (v := ?v12) rfl (by kernel_rfl) (by kernel_rfl) (by kernel_rfl) (fun _ _ _ h => h) (Or.inl ⟨by rfl, ?hy12⟩) hHeld ?rest12
  case hy12 =>
    intro w' hSw
    try dsimp only at hSw
    go_simp
    first | done | with_reducible rfl
  try simp only [Act.put, List.getElem_toArray, List.getElem_cons_succ, List.getElem_cons_zero, List.setIfInBounds_toArray, List.set_cons_zero, List.set_cons_succ]
  refine wpAnyH_ready (rs := [14]) (by kernel_rfl) (by simp) ?_
  refine AllReadyH.cons (by rfl) (fun K hK => ?_) AllReadyH.nil
  go_simp
  refine (num8_any _ _).mono ?_
  rintro e y1 ⟨rfl, rfl⟩
  clear hHeld
  refine hK.out _ _ (⟨(K6.out.cell 2).trans rfl, K10.out, K7.out⟩) (fun hHeld => ?_)
  clear hK K
  try simp only [Act.put, List.getElem_toArray, List.getElem_cons_succ, List.getElem_cons_zero, List.setIfInBounds_toArray, List.set_cons_zero, List.set_cons_succ]
  refine wpAnyH_take (i := 16) (v := ?v13) rfl (by kernel_rfl) (by kernel_rfl) (by kernel_rfl) (fun _ _ _ h => h) (Or.inl ⟨by rfl, ?hy13⟩) hHeld ?rest13
  case hy13 =>
    intro w' hSw
    try dsimp only at hSw
    go_simp
    first | done | with_reducible rfl
  try simp only [Act.put, List.getElem_toArray, List.getElem_cons_succ, List.getElem_cons_zero, List.setIfInBounds_toArray, List.set_cons_zero, List.set_cons_succ]
  refine wpAnyH_take (i := 17) (v := ?v14) rfl (by kernel_rfl) (by kernel_rfl) (by kernel_rfl) (fun _ _ _ h => h) (Or.inl ⟨by rfl, ?hy14⟩) hHeld ?rest14
  case hy14 =>
    intro w' hSw
    try dsimp only at hSw
    go_simp
    first | done | with_reducible rfl
  try simp only [Act.put, List.getElem_toArray, List.getElem_cons_succ, List.getElem_cons_zero, List.setIfInBounds_toArray, List.set_cons_zero, List.set_cons_succ]
  refine wpAnyH_take (i := 18) (v := ?v15) rfl (by kernel_rfl) (by kernel_rfl) (by kernel_rfl) (fun _ _ _ h => h) (Or.inl ⟨by rfl, ?hy15⟩) hHeld ?rest15
  case hy15 =>
    intro w' hSw
    try dsimp only at hSw
    go_simp
    first | done | with_reducible rfl
  try simp only [Act.put, List.getElem_toArray, List.getElem_cons_succ, List.getElem_cons_zero, List.setIfInBounds_toArray, List.set_cons_zero, List.set_cons_succ]
  refine wpAnyH_take (i := 19) (v := ?v16) rfl (by kernel_rfl) (by kernel_rfl) (by kernel_rfl) (fun _ _ _ h => h) (Or.inl ⟨by rfl, ?hy16⟩) hHeld ?rest16
  case hy16 =>
    intro w' hSw
    try dsimp only at hSw
    go_simp
    first | done | with_reducible rfl
  try simp only [Act.put, List.getElem_toArray, List.getElem_cons_succ, List.getElem_cons_zero, List.setIfInBounds_toArray, List.set_cons_zero, List.set_cons_succ]
  refine wpAnyH_take (i := 21) (v := ?v17) rfl (by kernel_rfl) (by kernel_rfl) (by kernel_rfl) (fun _ _ _ h => h) (Or.inl ⟨by rfl, ?hy17⟩) hHeld ?rest17
  case hy17 =>
    intro w' hSw
    try dsimp only at hSw
    go_simp
    first | done | with_reducible rfl
  try simp only [Act.put, List.getElem_toArray, List.getElem_cons_succ, List.getElem_cons_zero, List.setIfInBounds_toArray, List.set_cons_zero, List.set_cons_succ]
  refine wpAnyH_take (i := 22) (v := ?v18) rfl (by kernel_rfl) (by kernel_rfl) (by kernel_rfl) (fun _ _ _ h => h) (Or.inl ⟨by rfl, ?hy18⟩) hHeld ?rest18
  case hy18 =>
    intro w' hSw
    try dsimp only at hSw
    go_simp
    first | done | with_reducible rfl
  try simp only [Act.put, List.getElem_toArray, List.getElem_cons_succ, List.getElem_cons_zero, List.setIfInBounds_toArray, List.set_cons_zero, List.set_cons_succ]
  refine wpAnyH_ready (rs := [20]) (by kernel_rfl) (by simp) ?_
  refine AllReadyH.cons (by rfl) (fun K hK => ?_) AllReadyH.nil
  go_simp
  refine (steps_at BO.out.da).mono ?_
  rw [BO.out.al.steps]
  rintro e y1 ⟨rfl, rfl⟩
  clear hHeld
  refine hK.out _ _ (⟨(K6.out.cell 2).trans rfl, K10.out, K7.out⟩) (fun hHeld => ?_)
  clear hK K
  try simp only [Act.put, List.getElem_toArray, List.getElem_cons_succ, List.getElem_cons_zero, List.setIfInBounds_toArray, List.set_cons_zero, List.set_cons_succ]
  refine wpAnyH_take (i := 23) (v := ?v19) rfl (by kernel_rfl) (by kernel_rfl) (by kernel_rfl) (fun _ _ _ h => h) (Or.inl ⟨by rfl, ?hy19⟩) hHeld ?rest19
  case hy19 =>
    intro w' hSw
    try dsimp only at hSw
    go_simp
    first | done | with_reducible rfl
  try simp only [Act.put, List.getElem_toArray, List.getElem_cons_succ, List.getElem_cons_zero, List.setIfInBounds_toArray, List.set_cons_zero, List.set_cons_succ]
  refine wpAnyH_take (i := 24) (v := ?v20) rfl (by kernel_rfl) (by kernel_rfl) (by kernel_rfl) (fun _ _ _ h => h) (Or.inl ⟨by rfl, ?hy20⟩) hHeld ?rest20
  case hy20 =>
    intro w' hSw
    try dsimp only at hSw
    go_simp
    first | done | with_reducible rfl
  try simp only [Act.put, List.getElem_toArray, List.getElem_cons_succ, List.getElem_cons_zero, List.setIfInBounds_toArray, List.set_cons_zero, List.set_cons_succ]
  refine wpAnyH_done (by kernel_rfl) ?_ _
  refine OnlyN.normal ?_
  try clear hHeld
  go_wp2_with (first
    | (go_at_call 20; have hse := SF.out; clear hse; refine (both_nil _).mono ?_; rintro e Y3 ⟨rfl, hb⟩; replace K13 := Lib.hid (K13.out.below hb K13.out.lt); replace K14 := Lib.hid (K14.out.below hb K14.out.lt); replace K15 := Lib.hid (K15.out.below hb K15.out.lt); replace K17 := Lib.hid (K17.out.below hb K17.out.lt); replace K18 := Lib.hid (K18.out.below hb K18.out.lt); replace K20 := Lib.hid (K20.out.below hb K20.out.lt); replace BO := Lib.hid (BO.out.below hb); replace L := Lib.hid (L.out.trans (hb.mono L.out.size)); have SG := Lib.hid (show Y1.heap.size < Y3.heap.size from K20.out.lt); replace K13 := Lib.hid (K13.out.alloc (.cells (cs2 hd0 hd0).toArray 49)); replace K14 := Lib.hid (K14.out.alloc (.cells (cs2 hd0 hd0).toArray 49)); replace K15 := Lib.hid (K15.out.alloc (.cells (cs2 hd0 hd0).toArray 49)); replace K17 := Lib.hid (K17.out.alloc (.cells (cs2 hd0 hd0).toArray 49)); replace K18 := Lib.hid (K18.out.alloc (.cells (cs2 hd0 hd0).toArray 49)); replace K20 := Lib.hid (K20.out.alloc (.cells (cs2 hd0 hd0).toArray 49)); replace BO := Lib.hid (BO.out.alloc (.cells (cs2 hd0 hd0).toArray 49)); replace L := Lib.hid (L.out.alloc L.out.size (.cells (cs2 hd0 hd0).toArray 49)); have K23 := Lib.hid (show Blk (Y3.alloc (.cells (cs2 hd0 hd0).toArray 49)) (Y3.heap.size) 49 (cs2 hd0 hd0).toArray from blk_at8 _ _ _ _ (by simp)); replace K13 := Lib.hid (K13.out.alloc (.cells #[.bool false, .bool false] 50)); replace K14 := Lib.hid (K14.out.alloc (.cells #[.bool false, .bool false] 50)); replace K15 := Lib.hid (K15.out.alloc (.cells #[.bool false, .bool false] 50)); replace K17 := Lib.hid (K17.out.alloc (.cells #[.bool false, .bool false] 50)); replace K18 := Lib.hid (K18.out.alloc (.cells #[.bool false, .bool false] 50)); replace K20 := Lib.hid (K20.out.alloc (.cells #[.bool false, .bool false] 50)); replace K23 := Lib.hid (K23.out.alloc (.cells #[.bool false, .bool false] 50)); replace BO := Lib.hid (BO.out.alloc (.cells #[.bool false, .bool false] 50)); replace L := Lib.hid (L.out.alloc L.out.size (.cells #[.bool false, .bool false] 50)); have K24 := Lib.hid (show Blk ((Y3.alloc (.cells (cs2 hd0 hd0).toArray 49)).alloc (.cells #[.bool false, .bool false] 50)) (Y3.heap.size + 1) 50 #[.bool false, .bool false] from blk_at8 _ _ _ _ (by simp)); clear hb)
    | (refine wpList_load_mid rfl 33 (.tmp 6) rfl (V1.heap.size) 0 rfl [.slice r.A1 r.n1 r.c1, .slice r.A2 r.n2 r.c2, .int .i64 (t : Int), .slice r.A3 r.n3 r.c3] _ (Blk.rangeAt (l := [.slice r.A1 r.n1 r.c1, .slice r.A2 r.n2 r.c2, .int .i64 (t : Int), .slice r.A3 r.n3 r.c3]) K6.out) Try.underlying33 rfl size43 ?_)
    | (go_at_call 19; refine (RB.out _ BO.out.rf).mono ?_; rintro e U1 ⟨rfl, hb⟩; replace K6 := Lib.hid (K6.out.below hb K6.out.lt); replace BO := Lib.hid (BO.out.below hb); replace L := Lib.hid (L.out.trans (hb.mono L.out.size)); have SD := Lib.hid (show V5.heap.size < U1.heap.size by have := K10.out.lt; have := hb.size; omega); replace BO := Lib.hid (BO.out.alloc (.cells #[.slice none 0 0, .slice none 0 0, .int .i64 0, .slice none 0 0] 33)); replace L := Lib.hid (L.out.alloc L.out.size (.cells #[.slice none 0 0, .slice none 0 0, .int .i64 0, .slice none 0 0] 33)); have K13 := Lib.hid (show Blk (U1.alloc (.cells #[.slice none 0 0, .slice none 0 0, .int .i64 0, .slice none 0 0] 33)) (U1.heap.size) 33 #[.slice none 0 0, .slice none 0 0, .int .i64 0, .slice none 0 0] from blk_at8 _ _ _ _ (by simp)); replace K13 := Lib.hid (K13.out.alloc (.cells (cs2 hd0 hd0).toArray 49)); replace BO := Lib.hid (BO.out.alloc (.cells (cs2 hd0 hd0).toArray 49)); replace L := Lib.hid (L.out.alloc L.out.size (.cells (cs2 hd0 hd0).toArray 49)); have K14 := Lib.hid (show Blk ((U1.alloc (.cells #[.slice none 0 0, .slice none 0 0, .int .i64 0, .slice none 0 0] 33)).alloc (.cells (cs2 hd0 hd0).toArray 49)) (U1.heap.size + 1) 49 (cs2 hd0 hd0).toArray from blk_at8 _ _ _ _ (by simp)); replace K13 := Lib.hid (K13.out.alloc (.cells #[.bool false, .bool false] 50)); replace K14 := Lib.hid (K14.out.alloc (.cells #[.bool false, .bool false] 50)); replace BO := Lib.hid (BO.out.alloc (.cells #[.bool false, .bool false] 50)); replace L := Lib.hid (L.out.alloc L.out.size (.cells #[.bool false, .bool false] 50)); have K15 := Lib.hid (show Blk (((U1.alloc (.cells #[.slice none 0 0, .slice none 0 0, .int .i64 0, .slice none 0 0] 33)).alloc (.cells (cs2 hd0 hd0).toArray 49)).alloc (.cells #[.bool false, .bool false] 50)) (U1.heap.size + 1 + 1) 50 #[.bool false, .bool false] from blk_at8 _ _ _ _ (by simp)); clear hb K6 K7 K10)
    | (refine wpList_store_g8 rfl 33 (.tmp 13) (.tmp 77) rfl (g := U1.heap.size) (by rfl) #[.slice r.A1 r.n1 r.c1, .slice r.A2 r.n2 r.c2, .int .i64 (t2 : Int), .slice r.A3 r.n3 r.c3] #[.slice none 0 0, .slice none 0 0, .int .i64 0, .slice none 0 0] 33 (by rfl) K13.out (size43c8 _ _ _ _) rfl (one43c8 _ _ _ _ _ _ _ _ _) ?_; intro S5 j f; replace K14 := Lib.hid (f.keepBlk K14.out (by have := SA.out; have := SB.out; have := SC.out; have := SD.out; omega)); replace K15 := Lib.hid (f.keepBlk K15.out (by have := SA.out; have := SB.out; have := SC.out; have := SD.out; omega)); replace K13 := Lib.hid j; replace BO := Lib.hid (BO.out.far8 f (NN.out _ (by have := SA.out; have := SB.out; have := SC.out; have := SD.out; omega)).1 (NN.out _ (by have := SA.out; have := SB.out; have := SC.out; have := SD.out; omega)).2); replace L := Lib.hid (L.out.trans (f.to_below (fun k e => by have := SA.out; have := SB.out; have := SC.out; have := SD.out; omega) L.out.size)); clear j f)
    | (refine wpList_store_g8 rfl 49 (.tmp 14) (.tmp 78) rfl (g := U1.heap.size + 1) (by rfl) (cs2 x0 x1).toArray (cs2 hd0 hd0).toArray 49 (by rfl) K14.out (by kernel_rfl) rfl (cs2_one _ _) ?_; intro S6 j f; replace K13 := Lib.hid (f.keepBlk K13.out (by have := SA.out; have := SB.out; have := SC.out; have := SD.out; omega)); replace K15 := Lib.hid (f.keepBlk K15.out (by have := SA.out; have := SB.out; have := SC.out; have := SD.out; omega)); replace K14 := Lib.hid j; replace BO := Lib.hid (BO.out.far8 f (NN.out _ (by have := SA.out; have := SB.out; have := SC.out; have := SD.out; omega)).1 (NN.out _ (by have := SA.out; have := SB.out; have := SC.out; have := SD.out; omega)).2); replace L := Lib.hid (L.out.trans (f.to_below (fun k e => by have := SA.out; have := SB.out; have := SC.out; have := SD.out; omega) L.out.size)); clear j f)
    | (refine wpList_store_g8 rfl 50 (.tmp 15) (.tmp 79) rfl (g := U1.heap.size + 1 + 1) (by rfl) #[.bool a, .bool b] #[.bool false, .bool false] 50 (by rfl) K15.out (by kernel_rfl) rfl (by simp [Value.oneCell']) ?_; intro S7 j f; replace K13 := Lib.hid (f.keepBlk K13.out (by have := SA.out; have := SB.out; have := SC.out; have := SD.out; omega)); replace K14 := Lib.hid (f.keepBlk K14.out (by have := SA.out; have := SB.out; have := SC.out; have := SD.out; omega)); replace K15 := Lib.hid j; replace BO := Lib.hid (BO.out.far8 f (NN.out _ (by have := SA.out; have := SB.out; have := SC.out; have := SD.out; omega)).1 (NN.out _ (by have := SA.out; have := SB.out; have := SC.out; have := SD.out; omega)).2); replace L := Lib.hid (L.out.trans (f.to_below (fun k e => by have := SA.out; have := SB.out; have := SC.out; have := SD.out; omega) L.out.size)); clear j f)
    | (go_at_call 20; have hpb := PB.out; clear hpb; refine (PB.out _ _ BO.out).mono ?_; rintro e U5 ⟨rfl, D2, bo, hf⟩; replace K13 := Lib.hid (hf.keepBlk K13.out (NN.out _ (by have := SA.out; have := SB.out; have := SC.out; have := SD.out; omega)).1); replace K14 := Lib.hid (hf.keepBlk K14.out (NN.out _ (by have := SA.out; have := SB.out; have := SC.out; have := SD.out; omega)).1); replace K15 := Lib.hid (hf.keepBlk K15.out (NN.out _ (by have := SA.out; have := SB.out; have := SC.out; have := SD.out; omega)).1); replace L := Lib.hid (L.out.trans (hf.to_below (fun k hk => by have := (BO.out.da.lt _ hk).2; have := HB.out; omega) L.out.size)); replace BO := Lib.hid bo; have SE := Lib.hid (show U1.heap.size + 1 + 1 < U5.heap.size from K15.out.lt); replace K13 := Lib.hid (K13.out.alloc (.cells (cs2 hd0 hd0).toArray 49)); replace K14 := Lib.hid (K14.out.alloc (.cells (cs2 hd0 hd0).toArray 49)); replace K15 := Lib.hid (K15.out.alloc (.cells (cs2 hd0 hd0).toArray 49)); replace BO := Lib.hid (BO.out.alloc (.cells (cs2 hd0 hd0).toArray 49)); replace L := Lib.hid (L.out.alloc L.out.size (.cells (cs2 hd0 hd0).toArray 49)); have K17 := Lib.hid (show Blk (U5.alloc (.cells (cs2 hd0 hd0).toArray 49)) (U5.heap.size) 49 (cs2 hd0 hd0).toArray from blk_at8 _ _ _ _ (by simp)); replace K13 := Lib.hid (K13.out.alloc (.cells #[.bool false, .bool false] 50)); replace K14 := Lib.hid (K14.out.alloc (.cells #[.bool false, .bool false] 50)); replace K15 := Lib.hid (K15.out.alloc (.cells #[.bool false, .bool false] 50)); replace K17 := Lib.hid (K17.out.alloc (.cells #[.bool false, .bool false] 50)); replace BO := Lib.hid (BO.out.alloc (.cells #[.bool false, .bool false] 50)); replace L := Lib.hid (L.out.alloc L.out.size (.cells #[.bool false, .bool false] 50)); have K18 := Lib.hid (show Blk ((U5.alloc (.cells (cs2 hd0 hd0).toArray 49)).alloc (.cells #[.bool false, .bool false] 50)) (U5.heap.size + 1) 50 #[.bool false, .bool false] from blk_at8 _ _ _ _ (by simp)); clear hf bo PB)
    | (refine wpList_store_g8 rfl 49 (.tmp 17) (.tmp 84) rfl (g := U5.heap.size) (by rfl) (cs2 x0 x1).toArray (cs2 hd0 hd0).toArray 49 (by rfl) K17.out (by kernel_rfl) rfl (cs2_one _ _) ?_; intro S8 j f; replace K13 := Lib.hid (f.keepBlk K13.out (by have := SA.out; have := SB.out; have := SC.out; have := SD.out; have := SE.out; omega)); replace K14 := Lib.hid (f.keepBlk K14.out (by have := SA.out; have := SB.out; have := SC.out; have := SD.out; have := SE.out; omega)); replace K15 := Lib.hid (f.keepBlk K15.out (by have := SA.out; have := SB.out; have := SC.out; have := SD.out; have := SE.out; omega)); replace K18 := Lib.hid (f.keepBlk K18.out (by have := SA.out; have := SB.out; have := SC.out; have := SD.out; have := SE.out; omega)); replace K17 := Lib.hid j; replace BO := Lib.hid (BO.out.far8 f (NN.out _ (by have := SA.out; have := SB.out; have := SC.out; have := SD.out; have := SE.out; omega)).1 (NN.out _ (by have := SA.out; have := SB.out; have := SC.out; have := SD.out; have := SE.out; omega)).2); replace L := Lib.hid (L.out.trans (f.to_below (fun k e => by have := SA.out; have := SB.out; have := SC.out; have := SD.out; have := SE.out; omega) L.out.size)); clear j f)
    | (refine wpList_store_g8 rfl 50 (.tmp 18) (.tmp 85) rfl (g := U5.heap.size + 1) (by rfl) #[.bool a, .bool b] #[.bool false, .bool false] 50 (by rfl) K18.out (by kernel_rfl) rfl (by simp [Value.oneCell']) ?_; intro S9 j f; replace K13 := Lib.hid (f.keepBlk K13.out (by have := SA.out; have := SB.out; have := SC.out; have := SD.out; have := SE.out; omega)); replace K14 := Lib.hid (f.keepBlk K14.out (by have := SA.out; have := SB.out; have := SC.out; have := SD.out; have := SE.out; omega)); replace K15 := Lib.hid (f.keepBlk K15.out (by have := SA.out; have := SB.out; have := SC.out; have := SD.out; have := SE.out; omega)); replace K17 := Lib.hid (f.keepBlk K17.out (by have := SA.out; have := SB.out; have := SC.out; have := SD.out; have := SE.out; omega)); replace K18 := Lib.hid j; replace BO := Lib.hid (BO.out.far8 f (NN.out _ (by have := SA.out; have := SB.out; have := SC.out; have := SD.out; have := SE.out; omega)).1 (NN.out _ (by have := SA.out; have := SB.out; have := SC.out; have := SD.out; have := SE.out; omega)).2); replace L := Lib.hid (L.out.trans (f.to_below (fun k e => by have := SA.out; have := SB.out; have := SC.out; have := SD.out; have := SE.out; omega) L.out.size)); clear j f)
    | (go_at_call 18; refine (hread_nil _).mono ?_; rintro e Y1 ⟨rfl, hb⟩; replace K13 := Lib.hid (K13.out.below hb K13.out.lt); replace K14 := Lib.hid (K14.out.below hb K14.out.lt); replace K15 := Lib.hid (K15.out.below hb K15.out.lt); replace K17 := Lib.hid (K17.out.below hb K17.out.lt); replace K18 := Lib.hid (K18.out.below hb K18.out.lt); replace BO := Lib.hid (BO.out.below hb); replace L := Lib.hid (L.out.trans (hb.mono L.out.size)); have SF := Lib.hid (show U5.heap.size + 1 < Y1.heap.size from K18.out.lt); replace K13 := Lib.hid (K13.out.alloc (.cells hd0.cs.toArray 28)); replace K14 := Lib.hid (K14.out.alloc (.cells hd0.cs.toArray 28)); replace K15 := Lib.hid (K15.out.alloc (.cells hd0.cs.toArray 28)); replace K17 := Lib.hid (K17.out.alloc (.cells hd0.cs.toArray 28)); replace K18 := Lib.hid (K18.out.alloc (.cells hd0.cs.toArray 28)); replace BO := Lib.hid (BO.out.alloc (.cells hd0.cs.toArray 28)); replace L := Lib.hid (L.out.alloc L.out.size (.cells hd0.cs.toArray 28)); have K20 := Lib.hid (show Blk (Y1.alloc (.cells hd0.cs.toArray 28)) (Y1.heap.size) 28 hd0.cs.toArray from blk_at8 _ _ _ _ (by simp)); clear hb)
    | (refine wpList_store_g8 rfl 28 (.tmp 20) (.tmp 89) rfl (g := Y1.heap.size) (by rfl) hd0.cs.toArray hd0.cs.toArray 28 (by rfl) K20.out (by kernel_rfl) rfl (one23 _) ?_; intro S10 j f; replace K13 := Lib.hid (f.keepBlk K13.out (by have := SA.out; have := SB.out; have := SC.out; have := SD.out; have := SE.out; have := SF.out; omega)); replace K14 := Lib.hid (f.keepBlk K14.out (by have := SA.out; have := SB.out; have := SC.out; have := SD.out; have := SE.out; have := SF.out; omega)); replace K15 := Lib.hid (f.keepBlk K15.out (by have := SA.out; have := SB.out; have := SC.out; have := SD.out; have := SE.out; have := SF.out; omega)); replace K17 := Lib.hid (f.keepBlk K17.out (by have := SA.out; have := SB.out; have := SC.out; have := SD.out; have := SE.out; have := SF.out; omega)); replace K18 := Lib.hid (f.keepBlk K18.out (by have := SA.out; have := SB.out; have := SC.out; have := SD.out; have := SE.out; have := SF.out; omega)); replace K20 := Lib.hid j; replace BO := Lib.hid (BO.out.far8 f (NN.out _ (by have := SA.out; have := SB.out; have := SC.out; have := SD.out; have := SE.out; have := SF.out; omega)).1 (NN.out _ (by have := SA.out; have := SB.out; have := SC.out; have := SD.out; have := SE.out; have := SF.out; omega)).2); replace L := Lib.hid (L.out.trans (f.to_below (fun k e => by have := SA.out; have := SB.out; have := SC.out; have := SD.out; have := SE.out; have := SF.out; omega) L.out.size)); clear j f)
    | (refine wpList_store_g8 rfl 49 (.tmp 23) (.tmp 94) rfl (g := Y3.heap.size) (by rfl) (cs2 hd0 hd0).toArray (cs2 hd0 hd0).toArray 49 (by rfl) K23.out (by kernel_rfl) rfl (cs2_one _ _) ?_; intro S11 j f; replace K13 := Lib.hid (f.keepBlk K13.out (by have := SA.out; have := SB.out; have := SC.out; have := SD.out; have := SE.out; have := SF.out; have := SG.out; omega)); replace K14 := Lib.hid (f.keepBlk K14.out (by have := SA.out; have := SB.out; have := SC.out; have := SD.out; have := SE.out; have := SF.out; have := SG.out; omega)); replace K15 := Lib.hid (f.keepBlk K15.out (by have := SA.out; have := SB.out; have := SC.out; have := SD.out; have := SE.out; have := SF.out; have := SG.out; omega)); replace K17 := Lib.hid (f.keepBlk K17.out (by have := SA.out; have := SB.out; have := SC.out; have := SD.out; have := SE.out; have := SF.out; have := SG.out; omega)); replace K18 := Lib.hid (f.keepBlk K18.out (by have := SA.out; have := SB.out; have := SC.out; have := SD.out; have := SE.out; have := SF.out; have := SG.out; omega)); replace K20 := Lib.hid (f.keepBlk K20.out (by have := SA.out; have := SB.out; have := SC.out; have := SD.out; have := SE.out; have := SF.out; have := SG.out; omega)); replace K24 := Lib.hid (f.keepBlk K24.out (by have := SA.out; have := SB.out; have := SC.out; have := SD.out; have := SE.out; have := SF.out; have := SG.out; omega)); replace K23 := Lib.hid j; replace BO := Lib.hid (BO.out.far8 f (NN.out _ (by have := SA.out; have := SB.out; have := SC.out; have := SD.out; have := SE.out; have := SF.out; have := SG.out; omega)).1 (NN.out _ (by have := SA.out; have := SB.out; have := SC.out; have := SD.out; have := SE.out; have := SF.out; have := SG.out; omega)).2); replace L := Lib.hid (L.out.trans (f.to_below (fun k e => by have := SA.out; have := SB.out; have := SC.out; have := SD.out; have := SE.out; have := SF.out; have := SG.out; omega) L.out.size)); clear j f)
    | (refine wpList_store_g8 rfl 50 (.tmp 24) (.tmp 95) rfl (g := Y3.heap.size + 1) (by rfl) #[.bool false, .bool false] #[.bool false, .bool false] 50 (by rfl) K24.out (by kernel_rfl) rfl (by simp [Value.oneCell']) ?_; intro S12 j f; replace K13 := Lib.hid (f.keepBlk K13.out (by have := SA.out; have := SB.out; have := SC.out; have := SD.out; have := SE.out; have := SF.out; have := SG.out; omega)); replace K14 := Lib.hid (f.keepBlk K14.out (by have := SA.out; have := SB.out; have := SC.out; have := SD.out; have := SE.out; have := SF.out; have := SG.out; omega)); replace K15 := Lib.hid (f.keepBlk K15.out (by have := SA.out; have := SB.out; have := SC.out; have := SD.out; have := SE.out; have := SF.out; have := SG.out; omega)); replace K17 := Lib.hid (f.keepBlk K17.out (by have := SA.out; have := SB.out; have := SC.out; have := SD.out; have := SE.out; have := SF.out; have := SG.out; omega)); replace K18 := Lib.hid (f.keepBlk K18.out (by have := SA.out; have := SB.out; have := SC.out; have := SD.out; have := SE.out; have := SF.out; have := SG.out; omega)); replace K20 := Lib.hid (f.keepBlk K20.out (by have := SA.out; have := SB.out; have := SC.out; have := SD.out; have := SE.out; have := SF.out; have := SG.out; omega)); replace K23 := Lib.hid (f.keepBlk K23.out (by have := SA.out; have := SB.out; have := SC.out; have := SD.out; have := SE.out; have := SF.out; have := SG.out; omega)); replace K24 := Lib.hid j; replace BO := Lib.hid (BO.out.far8 f (NN.out _ (by have := SA.out; have := SB.out; have := SC.out; have := SD.out; have := SE.out; have := SF.out; have := SG.out; omega)).1 (NN.out _ (by have := SA.out; have := SB.out; have := SC.out; have := SD.out; have := SE.out; have := SF.out; have := SG.out; omega)).2); replace L := Lib.hid (L.out.trans (f.to_below (fun k e => by have := SA.out; have := SB.out; have := SC.out; have := SD.out; have := SE.out; have := SF.out; have := SG.out; omega) L.out.size)); clear j f))
  replace K13 := Lib.hid (blk_drew K13.out)
  replace K14 := Lib.hid (blk_drew K14.out)
  replace K15 := Lib.hid (blk_drew K15.out)
  replace K17 := Lib.hid (blk_drew K17.out)
  replace K18 := Lib.hid (blk_drew K18.out)
  replace BO := Lib.hid BO.out.drew
  replace L := Lib.hid L.out.drew
  refine wp_region_only (S := fun w' => w'.cell? ⟨U1.heap.size, 2, none⟩ = some (.int .i64 (t2 : Int)) ∧ Blk w' U5.heap.size 49 (cs2 x0 x1).toArray ∧ Blk w' (U1.heap.size + 1) 49 (cs2 x0 x1).toArray ∧ Blk w' (U5.heap.size + 1) 50 #[.bool a, .bool b] ∧ Blk w' (U1.heap.size + 1 + 1) 50 #[.bool a, .bool b]) (by kernel_rfl) (⟨(K13.out.cell 2).trans rfl, K17.out, K14.out, K18.out, K15.out⟩) (fun hHeld => ?_)
  refine wpAnyH_take (i := 0) rfl (by kernel_rfl) (by kernel_rfl) (by kernel_rfl) (fun _ _ _ h => h) (yieldsIf_load_mid (by rfl) 49 (.tmp 17) (by rfl) U5.heap.size 0 (by rfl) (cs2 x0 x1) _ (fun w' hSw => Blk.rangeAt (l := (cs2 x0 x1)) hSw.2.1) Try.underlying49 rfl (size52 _ _)) hHeld ?_
  try simp only [Act.put, List.getElem_toArray, List.getElem_cons_zero, List.setIfInBounds_toArray, List.set_cons_zero, List.set_cons_succ]
  refine wpAnyH_take (i := 1) rfl (by kernel_rfl) (by kernel_rfl) (by kernel_rfl) (fun _ _ _ h => h) (yieldsIf_load_mid (by rfl) 49 (.tmp 14) (by rfl) (U1.heap.size + 1) 0 (by rfl) (cs2 x0 x1) _ (fun w' hSw => Blk.rangeAt (l := (cs2 x0 x1)) hSw.2.2.1) Try.underlying49 rfl (size52 _ _)) hHeld ?_
  try simp only [Act.put, List.getElem_toArray, List.getElem_cons_succ, List.getElem_cons_zero, List.setIfInBounds_toArray, List.set_cons_zero, List.set_cons_succ]
  refine wpAnyH_take (i := 2) rfl (by kernel_rfl) (by kernel_rfl) (by kernel_rfl) (fun _ _ _ h => h) (y_eq52 (by rfl) (.tmp 97) (.tmp 98) (by rfl) x0 x1 (by rfl) (by rfl)) hHeld ?_
  try simp only [Act.put, List.getElem_toArray, List.getElem_cons_succ, List.getElem_cons_zero, List.setIfInBounds_toArray, List.set_cons_zero, List.set_cons_succ]
  refine wpAnyH_take (i := 3) (v := ?v21) rfl (by kernel_rfl) (by kernel_rfl) (by kernel_rfl) (fun _ _ _ h => h) (Or.inl ⟨by rfl, ?hy21⟩) hHeld ?rest21
  case hy21 =>
    intro w' hSw
    try dsimp only at hSw
    go_simp
    first | done | with_reducible rfl
  try simp only [Act.put, List.getElem_toArray, List.getElem_cons_succ, List.getElem_cons_zero, List.setIfInBounds_toArray, List.set_cons_zero, List.set_cons_succ]
  refine wpAnyH_take (i := 4) rfl (by kernel_rfl) (by kernel_rfl) (by kernel_rfl) (fun _ _ _ h => h) (yieldsIf_load_mid (by rfl) 50 (.tmp 18) (by rfl) (U5.heap.size + 1) 0 (by rfl) [.bool a, .bool b] _ (fun w' hSw => Blk.rangeAt (l := [.bool a, .bool b]) hSw.2.2.2.1) Try.underlying50 rfl (size53 _ _)) hHeld ?_
  try simp only [Act.put, List.getElem_toArray, List.getElem_cons_succ, List.getElem_cons_zero, List.setIfInBounds_toArray, List.set_cons_zero, List.set_cons_succ]
  refine wpAnyH_take (i := 5) rfl (by kernel_rfl) (by kernel_rfl) (by kernel_rfl) (fun _ _ _ h => h) (yieldsIf_load_mid (by rfl) 50 (.tmp 15) (by rfl) (U1.heap.size + 1 + 1) 0 (by rfl) [.bool a, .bool b] _ (fun w' hSw => Blk.rangeAt (l := [.bool a, .bool b]) hSw.2.2.2.2) Try.underlying50 rfl (size53 _ _)) hHeld ?_
  try simp only [Act.put, List.getElem_toArray, List.getElem_cons_succ, List.getElem_cons_zero, List.setIfInBounds_toArray, List.set_cons_zero, List.set_cons_succ]
  refine wpAnyH_take (i := 6) rfl (by kernel_rfl) (by kernel_rfl) (by kernel_rfl) (fun _ _ _ h => h) (y_eq53 (by rfl) (.tmp 101) (.tmp 102) (by rfl) a b (by rfl) (by rfl)) hHeld ?_
  try simp only [Act.put, List.getElem_toArray, List.getElem_cons_succ, List.getElem_cons_zero, List.setIfInBounds_toArray, List.set_cons_zero, List.set_cons_succ]
  refine wpAnyH_take (i := 7) (v := ?v22) rfl (by kernel_rfl) (by kernel_rfl) (by kernel_rfl) (fun _ _ _ h => h) (Or.inl ⟨by rfl, ?hy22⟩) hHeld ?rest22
  case hy22 =>
    intro w' hSw
    try dsimp only at hSw
    go_simp
    first | done | with_reducible rfl
  try simp only [Act.put, List.getElem_toArray, List.getElem_cons_succ, List.getElem_cons_zero, List.setIfInBounds_toArray, List.set_cons_zero, List.set_cons_succ]
  refine wpAnyH_take (i := 8) (v := ?v23) rfl (by kernel_rfl) (by kernel_rfl) (by kernel_rfl) (fun _ _ _ h => h) (Or.inl ⟨by rfl, ?hy23⟩) hHeld ?rest23
  case hy23 =>
    intro w' hSw
    try dsimp only at hSw
    go_simp
    first | done | with_reducible rfl
  try simp only [Act.put, List.getElem_toArray, List.getElem_cons_succ, List.getElem_cons_zero, List.setIfInBounds_toArray, List.set_cons_zero, List.set_cons_succ]
  refine wpAnyH_take (i := 9) (v := ?v24) rfl (by kernel_rfl) (by kernel_rfl) (by kernel_rfl) (fun _ _ _ h => h) (Or.inl ⟨by rfl, ?hy24⟩) hHeld ?rest24
  case hy24 =>
    intro w' hSw
    try dsimp only at hSw
    go_simp
    first | done | with_reducible rfl
  try simp only [Act.put, List.getElem_toArray, List.getElem_cons_succ, List.getElem_cons_zero, List.setIfInBounds_toArray, List.set_cons_zero, List.set_cons_succ]
  refine wpAnyH_take (i := 11) (v := ?v25) rfl (by kernel_rfl) (by kernel_rfl) (by kernel_rfl) (fun _ _ _ h => h) (Or.inl ⟨by rfl, ?hy25⟩) hHeld ?rest25
  case hy25 =>
    intro w' hSw
    try dsimp only at hSw
    go_simp
    first | done | with_reducible rfl
  try simp only [Act.put, List.getElem_toArray, List.getElem_cons_succ, List.getElem_cons_zero, List.setIfInBounds_toArray, List.set_cons_zero, List.set_cons_succ]
  refine wpAnyH_ready (rs := [10]) (by kernel_rfl) (by simp) ?_
  refine AllReadyH.cons (by rfl) (fun K hK => ?_) AllReadyH.nil
  go_simp
  refine (num8_any _ _).mono ?_
  rintro e y1 ⟨rfl, rfl⟩
  clear hHeld
  refine hK.out _ _ (⟨(K13.out.cell 2).trans rfl, K17.out, K14.out, K18.out, K15.out⟩) (fun hHeld => ?_)
  clear hK K
  try simp only [Act.put, List.getElem_toArray, List.getElem_cons_succ, List.getElem_cons_zero, List.setIfInBounds_toArray, List.set_cons_zero, List.set_cons_succ]
  refine wpAnyH_take (i := 12) (v := ?v26) rfl (by kernel_rfl) (by kernel_rfl) (by kernel_rfl) (fun _ _ _ h => h) (Or.inl ⟨by rfl, ?hy26⟩) hHeld ?rest26
  case hy26 =>
    intro w' hSw
    try dsimp only at hSw
    go_simp
    first | done | with_reducible rfl
  try simp only [Act.put, List.getElem_toArray, List.getElem_cons_succ, List.getElem_cons_zero, List.setIfInBounds_toArray, List.set_cons_zero, List.set_cons_succ]
  refine wpAnyH_take (i := 13) (v := ?v27) rfl (by kernel_rfl) (by kernel_rfl) (by kernel_rfl) (fun _ _ _ h => h) (Or.inl ⟨by rfl, ?hy27⟩) hHeld ?rest27
  case hy27 =>
    intro w' hSw
    try dsimp only at hSw
    go_simp
    first | done | with_reducible rfl
  try simp only [Act.put, List.getElem_toArray, List.getElem_cons_succ, List.getElem_cons_zero, List.setIfInBounds_toArray, List.set_cons_zero, List.set_cons_succ]
  refine wpAnyH_take (i := 14) (v := ?v28) rfl (by kernel_rfl) (by kernel_rfl) (by kernel_rfl) (fun _ _ _ h => h) (Or.inl ⟨by rfl, ?hy28⟩) hHeld ?rest28
  case hy28 =>
    intro w' hSw
    try dsimp only at hSw
    go_simp
    first | done | with_reducible rfl
  try simp only [Act.put, List.getElem_toArray, List.getElem_cons_succ, List.getElem_cons_zero, List.setIfInBounds_toArray, List.set_cons_zero, List.set_cons_succ]
  refine wpAnyH_take (i := 15) (v := ?v29) rfl (by kernel_rfl) (by kernel_rfl) (by kernel_rfl) (fun _ _ _ h => h) (Or.inl ⟨by rfl, ?hy29⟩) hHeld ?rest29
  case hy29 =>
    intro w' hSw
    try dsimp only at hSw
    go_simp
    first | done | with_reducible rfl
  try simp only [Act.put, List.getElem_toArray, List.getElem_cons_succ, List.getElem_cons_zero, List.setIfInBounds_toArray, List.set_cons_zero, List.set_cons_succ]
  refine wpAnyH_take (i := 17) (v := ?v30) rfl (by kernel_rfl) (by kernel_rfl) (by kernel_rfl) (fun _ _ _ h => h) (Or.inl ⟨by rfl, ?hy30⟩) hHeld ?rest30
  case hy30 =>
    intro w' hSw
    try dsimp only at hSw
    go_simp
    first | done | with_reducible rfl
  try simp only [Act.put, List.getElem_toArray, List.getElem_cons_succ, List.getElem_cons_zero, List.setIfInBounds_toArray, List.set_cons_zero, List.set_cons_succ]
  refine wpAnyH_take (i := 18) (v := ?v31) rfl (by kernel_rfl) (by kernel_rfl) (by kernel_rfl) (fun _ _ _ h => h) (Or.inl ⟨by rfl, ?hy31⟩) hHeld ?rest31
  case hy31 =>
    intro w' hSw
    try dsimp only at hSw
    go_simp
    first | done | with_reducible rfl
  try simp only [Act.put, List.getElem_toArray, List.getElem_cons_succ, List.getElem_cons_zero, List.setIfInBounds_toArray, List.set_cons_zero, List.set_cons_succ]
  refine wpAnyH_ready (rs := [16]) (by kernel_rfl) (by simp) ?_
  refine AllReadyH.cons (by rfl) (fun K hK => ?_) AllReadyH.nil
  go_simp
  refine (steps_at BO.out.da).mono ?_
  rw [BO.out.al.steps]
  rintro e y1 ⟨rfl, rfl⟩
  clear hHeld
  refine hK.out _ _ (⟨(K13.out.cell 2).trans rfl, K17.out, K14.out, K18.out, K15.out⟩) (fun hHeld => ?_)
  clear hK K
  try simp only [Act.put, List.getElem_toArray, List.getElem_cons_succ, List.getElem_cons_zero, List.setIfInBounds_toArray, List.set_cons_zero, List.set_cons_succ]
  refine wpAnyH_take (i := 19) (v := ?v32) rfl (by kernel_rfl) (by kernel_rfl) (by kernel_rfl) (fun _ _ _ h => h) (Or.inl ⟨by rfl, ?hy32⟩) hHeld ?rest32
  case hy32 =>
    intro w' hSw
    try dsimp only at hSw
    go_simp
    first | done | with_reducible rfl
  try simp only [Act.put, List.getElem_toArray, List.getElem_cons_succ, List.getElem_cons_zero, List.setIfInBounds_toArray, List.set_cons_zero, List.set_cons_succ]
  refine wpAnyH_take (i := 20) (v := ?v33) rfl (by kernel_rfl) (by kernel_rfl) (by kernel_rfl) (fun _ _ _ h => h) (Or.inl ⟨by rfl, ?hy33⟩) hHeld ?rest33
  case hy33 =>
    intro w' hSw
    try dsimp only at hSw
    go_simp
    first | done | with_reducible rfl
  try simp only [Act.put, List.getElem_toArray, List.getElem_cons_succ, List.getElem_cons_zero, List.setIfInBounds_toArray, List.set_cons_zero, List.set_cons_succ]
  refine wpAnyH_take (i := 21) (v := ?v34) rfl (by kernel_rfl) (by kernel_rfl) (by kernel_rfl) (fun _ _ _ h => h) (Or.inl ⟨by rfl, ?hy34⟩) hHeld ?rest34
  case hy34 =>
    intro w' hSw
    try dsimp only at hSw
    go_simp
    first | done | with_reducible rfl
  try simp only [Act.put, List.getElem_toArray, List.getElem_cons_succ, List.getElem_cons_zero, List.setIfInBounds_toArray, List.set_cons_zero, List.set_cons_succ]
  refine wpAnyH_take (i := 22) (v := ?v35) rfl (by kernel_rfl) (by kernel_rfl) (by kernel_rfl) (fun _ _ _ h => h) (Or.inl ⟨by rfl, ?hy35⟩) hHeld ?rest35
  case hy35 =>
    intro w' hSw
    try dsimp only at hSw
    go_simp
    first | done | with_reducible rfl
  try simp only [Act.put, List.getElem_toArray, List.getElem_cons_succ, List.getElem_cons_zero, List.setIfInBounds_toArray, List.set_cons_zero, List.set_cons_succ]
  refine wpAnyH_ready (rs := [23]) (by kernel_rfl) (by simp) ?_
  refine AllReadyH.cons (by rfl) (fun K hK => ?_) AllReadyH.nil
  go_simp
  refine (num8_any _ _).mono ?_
  rintro e y1 ⟨rfl, rfl⟩
  clear hHeld
  refine hK.out _ _ (⟨(K13.out.cell 2).trans rfl, K17.out, K14.out, K18.out, K15.out⟩) (fun hHeld => ?_)
  clear hK K
  try simp only [Act.put, List.getElem_toArray, List.getElem_cons_succ, List.getElem_cons_zero, List.setIfInBounds_toArray, List.set_cons_zero, List.set_cons_succ]
  refine wpAnyH_take (i := 24) (v := ?v36) rfl (by kernel_rfl) (by kernel_rfl) (by kernel_rfl) (fun _ _ _ h => h) (Or.inl ⟨by rfl, ?hy36⟩) hHeld ?rest36
  case hy36 =>
    intro w' hSw
    try dsimp only at hSw
    go_simp
    first | done | with_reducible rfl
  try simp only [Act.put, List.getElem_toArray, List.getElem_cons_succ, List.getElem_cons_zero, List.setIfInBounds_toArray, List.set_cons_zero, List.set_cons_succ]
  refine wpAnyH_take (i := 25) (v := ?v37) rfl (by kernel_rfl) (by kernel_rfl) (by kernel_rfl) (fun _ _ _ h => h) (Or.inl ⟨by rfl, ?hy37⟩) hHeld ?rest37
  case hy37 =>
    intro w' hSw
    try dsimp only at hSw
    go_simp
    first | done | with_reducible rfl
  try simp only [Act.put, List.getElem_toArray, List.getElem_cons_succ, List.getElem_cons_zero, List.setIfInBounds_toArray, List.set_cons_zero, List.set_cons_succ]
  refine wpAnyH_take (i := 26) (v := ?v38) rfl (by kernel_rfl) (by kernel_rfl) (by kernel_rfl) (fun _ _ _ h => h) (Or.inl ⟨by rfl, ?hy38⟩) hHeld ?rest38
  case hy38 =>
    intro w' hSw
    try dsimp only at hSw
    go_simp
    first | done | with_reducible rfl
  try simp only [Act.put, List.getElem_toArray, List.getElem_cons_succ, List.getElem_cons_zero, List.setIfInBounds_toArray, List.set_cons_zero, List.set_cons_succ]
  refine wpAnyH_take (i := 27) (v := ?v39) rfl (by kernel_rfl) (by kernel_rfl) (by kernel_rfl) (fun _ _ _ h => h) (Or.inl ⟨by rfl, ?hy39⟩) hHeld ?rest39
  case hy39 =>
    intro w' hSw
    try dsimp only at hSw
    go_simp
    first | done | with_reducible rfl
  try simp only [Act.put, List.getElem_toArray, List.getElem_cons_succ, List.getElem_cons_zero, List.setIfInBounds_toArray, List.set_cons_zero, List.set_cons_succ]
  refine wpAnyH_ready (rs := [28]) (by kernel_rfl) (by simp) ?_
  refine AllReadyH.cons (by rfl) (fun K hK => ?_) AllReadyH.nil
  go_simp
  refine (num8_any _ _).mono ?_
  rintro e y1 ⟨rfl, rfl⟩
  clear hHeld
  refine hK.out _ _ (⟨(K13.out.cell 2).trans rfl, K17.out, K14.out, K18.out, K15.out⟩) (fun hHeld => ?_)
  clear hK K
  try simp only [Act.put, List.getElem_toArray, List.getElem_cons_succ, List.getElem_cons_zero, List.setIfInBounds_toArray, List.set_cons_zero, List.set_cons_succ]
  refine wpAnyH_take (i := 29) (v := ?v40) rfl (by kernel_rfl) (by kernel_rfl) (by kernel_rfl) (fun _ _ _ h => h) (Or.inl ⟨by rfl, ?hy40⟩) hHeld ?rest40
  case hy40 =>
    intro w' hSw
    try dsimp only at hSw
    go_simp
    first | done | with_reducible rfl
  try simp only [Act.put, List.getElem_toArray, List.getElem_cons_succ, List.getElem_cons_zero, List.setIfInBounds_toArray, List.set_cons_zero, List.set_cons_succ]
  refine wpAnyH_take (i := 30) (v := ?v41) rfl (by kernel_rfl) (by kernel_rfl) (by kernel_rfl) (fun _ _ _ h => h) (Or.inl ⟨by rfl, ?hy41⟩) hHeld ?rest41
  case hy41 =>
    intro w' hSw
    try dsimp only at hSw
    go_simp
    first | done | with_reducible rfl
  try simp only [Act.put, List.getElem_toArray, List.getElem_cons_succ, List.getElem_cons_zero, List.setIfInBounds_toArray, List.set_cons_zero, List.set_cons_succ]
  refine wpAnyH_take (i := 31) (v := ?v42) rfl (by kernel_rfl) (by kernel_rfl) (by kernel_rfl) (fun _ _ _ h => h) (Or.inl ⟨by rfl, ?hy42⟩) hHeld ?rest42
  case hy42 =>
    intro w' hSw
    try dsimp only at hSw
    go_simp
    first | done | with_reducible rfl
  try simp only [Act.put, List.getElem_toArray, List.getElem_cons_succ, List.getElem_cons_zero, List.setIfInBounds_toArray, List.set_cons_zero, List.set_cons_succ]
  refine wpAnyH_ready (rs := [32]) (by kernel_rfl) (by simp) ?_
  refine AllReadyH.cons (by rfl) (fun K hK => ?_) AllReadyH.nil
  go_simp
  refine (works8_any _).mono ?_
  rintro e Z1 ⟨rfl, hb⟩
  have K13 := Lib.hid (K13.out.below hb K13.out.lt)
  have K14 := Lib.hid (K14.out.below hb K14.out.lt)
  have K15 := Lib.hid (K15.out.below hb K15.out.lt)
  have K17 := Lib.hid (K17.out.below hb K17.out.lt)
  have K18 := Lib.hid (K18.out.below hb K18.out.lt)
  have L := Lib.hid (L.out.trans (hb.mono L.out.size))
  clear hb hHeld
  refine hK.out _ _ (⟨(K13.out.cell 2).trans rfl, K17.out, K14.out, K18.out, K15.out⟩) (fun hHeld => ?_)
  clear hK K
  try simp only [Act.put, List.getElem_toArray, List.getElem_cons_succ, List.getElem_cons_zero, List.setIfInBounds_toArray, List.set_cons_zero, List.set_cons_succ]
  refine wpAnyH_take (i := 33) (v := ?v43) rfl (by kernel_rfl) (by kernel_rfl) (by kernel_rfl) (fun _ _ _ h => h) (Or.inl ⟨by rfl, ?hy43⟩) hHeld ?rest43
  case hy43 =>
    intro w' hSw
    try dsimp only at hSw
    go_simp
    first | done | with_reducible rfl
  try simp only [Act.put, List.getElem_toArray, List.getElem_cons_succ, List.getElem_cons_zero, List.setIfInBounds_toArray, List.set_cons_zero, List.set_cons_succ]
  refine wpAnyH_take (i := 34) (v := ?v44) rfl (by kernel_rfl) (by kernel_rfl) (by kernel_rfl) (fun _ _ _ h => h) (Or.inl ⟨by rfl, ?hy44⟩) hHeld ?rest44
  case hy44 =>
    intro w' hSw
    try dsimp only at hSw
    go_simp
    first | done | with_reducible rfl
  try simp only [Act.put, List.getElem_toArray, List.getElem_cons_succ, List.getElem_cons_zero, List.setIfInBounds_toArray, List.set_cons_zero, List.set_cons_succ]
  refine wpAnyH_done (by kernel_rfl) ?_ _
  refine OnlyN.normal ?_
  try clear hHeld
  go_wp2_with fail
  go_ret
  exact ⟨rfl, L.out⟩
set_option maxRecDepth 8000 in
theorem walk (w : World) (x : Ds) (h0 : ∃ l : List UInt8, l.length = x.n0 ∧ Rd w x.A0 l) (h1 : ∃ l : List UInt8, l.length = x.n1 ∧ Rd w x.A1 l) (h2 : ∃ l : List Int, l.length = x.n2 ∧ RdI w x.A2 l ∧ ∀ n ∈ l, n ≤ 9223372036854775807) : Calls Try.prog 4 #[x.val] w fun e w' => e = .returned (.bool true) ∧ Below w.heap.size w w' := by
  by_cases hx : x.ok
  · obtain ⟨s, A0, n0, c0, A1, n1, c1, A2, n2, c2⟩ := x
    obtain ⟨l0, e0, r0⟩ := h0
    obtain ⟨l1, e1, r1⟩ := h1
    obtain ⟨lf, e2, r2, rwf⟩ := h2
    simp only at e0 e1 e2 r0 r1 r2
    subst e2
    obtain ⟨z, rfl⟩ := Int.eq_ofNat_of_zero_le (show 0 ≤ s by have := hx.1; simp only at this; omega)
    exact walk_in8 w z A0 n0 c0 A1 n1 c1 A2 c2 l0 l1 lf hx e0 e1 r0 r1 r2 rwf
  · exact walk_no w x hx
set_option maxRecDepth 100000 in
theorem lifted (os : Os) (started : os.Started) (H : Type) (enc : TypeId × Value → H) :
    ReturnsInHanded {} Try.checked os 4 .any (Rows.headersReadsSpec.pre6 enc Try.prog Try.f4 Rows.headersReadsRow.domain false) (Rows.headersReadsSpec.post enc Try.prog Try.f4 false true false false) := by
  refine returnsInHanded_of_change_sized (C := Try.checked) own started (by kernel_rfl) Try.func4
    (ChangeSpec.witness6 (enc := enc) (C := Try.checked) false ⟨#[], #[.agg #[.int .i64 0, .slice none 0 0, .slice none 0 0, .slice none 0 0]], []⟩ 8 (by kernel_rfl) (by kernel_rfl) (by kernel_rfl) (by kernel_rfl)) ?_
  intro W base args ds gs before hval0 hW hcnd hsz _
  have hval : ∀ (j : Nat) t v, Try.f4.params[j]? = some t → args[j]? = some v → Value.okWide Try.prog W .any base t v := hval0
  have hW' := hW
  obtain ⟨p, q, hA0, hV, rfl, hfz, hnd⟩ := hW
  have hA : DataW.TrodAll enc Try.prog W 0 (fun _ => true) true Try.f4.params.toList args.toList ds p := hA0
  rw [Try.params4] at hA hval hsz
  obtain ⟨v0, vs0, d0, ds0, p0, q0, hargs, rfl, rfl, h0, t0⟩ := trodAll_cons hA
  obtain ⟨rfl, rfl, rfl⟩ := trodAll_nil t0
  obtain rfl : args = #[v0] := by cases args; simp_all
  obtain ⟨rfl, rfl⟩ := trodVars_none hV
  have k0 := h0
  have lt0 : ∀ x ∈ p0, x.block < W.heap.size := by obtain ⟨m, hm⟩ := k0; exact DataW.trod_lt m _ _ _ hm
  obtain ⟨x0, rfl, ha0, hb0, hc0⟩ := open_ds (hval 0 26 v0 rfl rfl) h0
  clear hA0 hval0
  refine (walk W x0 ha0 hb0 hc0).mono fun e W' ⟨he, bel⟩ => ?_
  subst he
  exact ⟨_, rfl, _, _, _, [], _, [], hW', trodAll_mk1 (shut_bool Try.underlying4 _), (trodAll_cons_mk (Below.trod laidOut (by kernel_rfl) (of_decide_eq_true (by kernel_rfl)) k0 bel lt0) trodAll_mk0), rfl, bel.frame _, fun h => by cases h⟩
theorem over : Rows.headersReadsRow.holds Try.pinned (OpenSpec.ofChange Rows.headersReadsSpec) :=
  OpenClaim.holds_of_wide 4 Try.f4 rfl rfl rfl rfl rfl rfl rfl ⟨rfl, rfl, rfl, rfl, rfl⟩ rfl rfl rfl rfl rfl (by kernel_rfl) Try.func4 (by kernel_rfl)
    (of_decide_eq_true (by kernel_rfl)) (by unfold Func.isWrapper; first | (rw [if_pos (by decide +kernel)]; kernel_rfl) | (rw [if_neg (by decide +kernel)]; exact ⟨rfl, rfl⟩))
    (fun os started H enc _ => lifted os started H enc)
theorem proved : Rows.HeadersReadsSaid := over
end Go.Proofs.Ytcfkoglehjkkdaa.headersReads

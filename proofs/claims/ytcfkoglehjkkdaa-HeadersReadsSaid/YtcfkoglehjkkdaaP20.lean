/- the document's answer for layer 2: Read. -/
import Derived.Test.YtcfkoglehjkkdaaP17
import Derived.Test.YtcfkoglehjkkdaaP15
import Derived.Test.YtcfkoglehjkkdaaP08
import Derived.Test.YtcfkoglehjkkdaaP19
namespace Go.Proofs.Ytcfkoglehjkkdaa
open Go.RowKit
attribute [local go_sem] Oper.semAt_some
attribute [local go_sem] run_store_bv run_store_wc
set_option maxRecDepth 8000 in
theorem results_read {fn : Func} {p q : Tmp} {o : Tmp} (h : fn.results = #[.cell p 33, .cell q 56, .tmp o]) (tmps : Array Value) (w : World) (g g' : Nat) (cs : Array Value) (l : List UInt8) (hl : cs.size = 4) (hl' : l.length = 512)
    (hp : tmps.getD p undef = .pointer (some ⟨g, 0, none⟩)) (hq : tmps.getD q undef = .pointer (some ⟨g', 0, none⟩)) (hg : Blk w g 33 cs) (hg' : Blk w g' 56 (bv l).toArray) : (results fn tmps).run Try.prog w = .ok (.tuple #[.agg cs, sec l, tmps.getD o undef]) w := by
  have hp' : tmps[p]?.getD undef = .pointer (some ⟨g, 0, none⟩) := by simpa using hp
  have hq' : tmps[q]?.getD undef = .pointer (some ⟨g', 0, none⟩) := by simpa using hq
  have h1 := run_loadVar_row (P := Try.prog) w g 33 33 cs (0, 0) _ hg Try.underlying33 rfl (by rw [hl]; exact size43)
  have h2 := run_loadVar_row (P := Try.prog) w g' 56 56 (bv l).toArray (0, 0) _ hg' Try.underlying56 rfl (by rw [List.size_toArray, bv_length, hl']; exact size47)
  simp [results, h, hp', hq', asAddr, h1, h2]
section
variable {w w' : World} {r : Rp} {R : Rf} {z : Nat}
set_option maxRecDepth 100000 in
set_option maxHeartbeats 1600000 in
theorem rread_neg (r : Rp) (s : Nat) (n : Int) (hn : n < 0) (w : World) : Calls Try.prog 47 #[r.val s, .int .i64 n] w fun e w' => e = .returned (.tuple #[r.val s, sec zs, .int .i64 4]) ∧ Below w.heap.size w w' := by
  have hz := z43
  obtain ⟨L, hL⟩ : ∃ L, L = zs := ⟨_, rfl⟩
  have hz7 : ∀ w : World, (zeroValue 56).run Try.prog w = .ok (sec L) w := by rw [hL]; exact z47
  have HOL := Lib.hid (show L.length = 512 by rw [hL]; exact zs_length)
  have HLE := Lib.hid hL
  clear hL
  have d0 : decide (n < 0) = true := decide_eq_true hn
  have hbl : (bv L).length = 512 := by rw [bv_length, HOL.out]
  have K1 := Lib.hid (show Blk (((w.alloc (.cells (r.cells s) 33)).alloc (.cells #[.slice r.A1 r.n1 r.c1, .slice r.A2 r.n2 r.c2, .int .i64 (s : Int), .slice r.A3 r.n3 r.c3] 33)).alloc (.cells (bv L).toArray 56)) (w.heap.size + 1) 33 #[.slice r.A1 r.n1 r.c1, .slice r.A2 r.n2 r.c2, .int .i64 (s : Int), .slice r.A3 r.n3 r.c3] by have := (Blk.new (w.alloc (.cells (r.cells s) 33)) 33 #[.slice r.A1 r.n1 r.c1, .slice r.A2 r.n2 r.c2, .int .i64 (s : Int), .slice r.A3 r.n3 r.c3]).alloc (.cells (bv L).toArray 56); simpa using this)
  have K2 := Lib.hid (show Blk (((w.alloc (.cells (r.cells s) 33)).alloc (.cells #[.slice r.A1 r.n1 r.c1, .slice r.A2 r.n2 r.c2, .int .i64 (s : Int), .slice r.A3 r.n3 r.c3] 33)).alloc (.cells (bv L).toArray 56)) (w.heap.size + 1 + 1) 56 (bv L).toArray by have := Blk.new ((w.alloc (.cells (r.cells s) 33)).alloc (.cells #[.slice r.A1 r.n1 r.c1, .slice r.A2 r.n2 r.c2, .int .i64 (s : Int), .slice r.A3 r.n3 r.c3] 33)) 56 (bv L).toArray; simpa using this)
  have KB := Lib.hid (show Below w.heap.size w (((w.alloc (.cells (r.cells s) 33)).alloc (.cells #[.slice r.A1 r.n1 r.c1, .slice r.A2 r.n2 r.c2, .int .i64 (s : Int), .slice r.A3 r.n3 r.c3] 33)).alloc (.cells (bv L).toArray 56)) from (((Below.refl w.heap.size w).alloc (Nat.le_refl _) _).alloc (by simp) _).alloc (by simp; omega) _)
  clear hn
  go_enter Try.func47, Try.ntmps47
  go_wp2
  exact bodyPost_ret (results_read rfl _ _ (w.heap.size + 1) (w.heap.size + 1 + 1) #[.slice r.A1 r.n1 r.c1, .slice r.A2 r.n2 r.c2, .int .i64 (s : Int), .slice r.A3 r.n3 r.c3] L rfl HOL.out rfl rfl K1.out K2.out) rfl ⟨by rw [HLE.out]; rfl, KB.out⟩
set_option maxRecDepth 100000 in
set_option maxHeartbeats 1600000 in
theorem rread_range (h : RefAt w r R z) (s : Nat) (hs : s ≤ 100000) (n : Int) (hn : ¬ n < 0) (hn2 : (z : Int) ≤ n) : Calls Try.prog 47 #[r.val s, .int .i64 n] w fun e w' => e = .returned (.tuple #[r.val s, sec zs, .int .i64 4]) ∧ Below w.heap.size w w' := by
  have d1 : decide ((z : Int) ≤ n) = true := decide_eq_true hn2
  clear hn2
  have hz := z43
  obtain ⟨L, hL⟩ : ∃ L, L = zs := ⟨_, rfl⟩
  have hz7 : ∀ w : World, (zeroValue 56).run Try.prog w = .ok (sec L) w := by rw [hL]; exact z47
  have HOL := Lib.hid (show L.length = 512 by rw [hL]; exact zs_length)
  have HLE := Lib.hid hL
  clear hL
  have H := Lib.hid h
  have HS := Lib.hid hs
  have d0 : decide (n < 0) = false := decide_eq_false hn
  obtain ⟨DC, hDC⟩ : ∃ DC, DC = r.cells s := ⟨_, rfl⟩
  have kc0 : DC[0]? = some (.slice r.A1 r.n1 r.c1) := by rw [hDC]; rfl
  have kc1 : DC[1]? = some (.slice r.A2 r.n2 r.c2) := by rw [hDC]; rfl
  have kc2 : DC[2]? = some (.int .i64 (s : Int)) := by rw [hDC]; rfl
  have kc3 : DC[3]? = some (.slice r.A3 r.n3 r.c3) := by rw [hDC]; rfl
  obtain ⟨W, hW⟩ : ∃ W, W = ((w.alloc (.cells DC 33)).alloc (.cells #[.slice none 0 0, .slice none 0 0, .int .i64 0, .slice none 0 0] 33)).alloc (.cells (bv L).toArray 56) := ⟨_, rfl⟩
  have P0 := Lib.hid (show Blk W w.heap.size 33 DC by rw [hW]; exact ((Blk.new w 33 DC).alloc _).alloc _)
  have P1 := Lib.hid (show Blk W (w.heap.size + 1) 33 #[.slice none 0 0, .slice none 0 0, .int .i64 0, .slice none 0 0] by rw [hW]; have := (Blk.new (w.alloc (.cells DC 33)) 33 #[.slice none 0 0, .slice none 0 0, .int .i64 0, .slice none 0 0]).alloc (.cells (bv L).toArray 56); simpa using this)
  have P2 := Lib.hid (show Blk W (w.heap.size + 1 + 1) 56 (bv L).toArray by rw [hW]; have := Blk.new ((w.alloc (.cells DC 33)).alloc (.cells #[.slice none 0 0, .slice none 0 0, .int .i64 0, .slice none 0 0] 33)) 56 (bv L).toArray; simpa using this)
  have BL := Lib.hid (show Below w.heap.size w W by rw [hW]; exact (((Below.refl w.heap.size w).alloc (Nat.le_refl _) _).alloc (by simp) _).alloc (by simp; omega) _)
  have H1 := Lib.hid (show RefAt W r R z by rw [hW]; exact ((h.alloc _).alloc _).alloc _)
  clear h hs hn
  go_enter Try.func47, Try.ntmps47
  go_wp2_with fail
  rw [← hDC, ← hW]
  clear hDC hW
  refine (rsize_any H1.out s).mono ?_
  rintro e w2 ⟨rfl, hb⟩
  have R0 := Lib.hid (P0.out.below hb P0.out.lt)
  have R1 := Lib.hid (P1.out.below hb P1.out.lt)
  have R2 := Lib.hid (P2.out.below hb P2.out.lt)
  have RB := Lib.hid (BL.out.trans (hb.mono BL.out.size))
  have RH := Lib.hid (H1.out.below hb)
  have RN := Lib.hid (show w.heap.size + 1 + 1 < w2.heap.size from R2.out.lt)
  clear hb P0 P1 P2 BL H1
  have a0 := (R0.out.cell 0).trans kc0
  have a1 := (R0.out.cell 1).trans kc1
  have a2 := (R0.out.cell 2).trans kc2
  have a3 := (R0.out.cell 3).trans kc3
  have b0 := (R1.out.cell 0).trans (show _ = some (.slice none 0 0) from rfl)
  have b1 := (R1.out.cell 1).trans (show _ = some (.slice none 0 0) from rfl)
  have b2 := (R1.out.cell 2).trans (show _ = some (.int .i64 0) from rfl)
  have b3 := (R1.out.cell 3).trans (show _ = some (.slice none 0 0) from rfl)
  have bf0 := R1.out.frozen 0
  have bf1 := R1.out.frozen 1
  have bf2 := R1.out.frozen 2
  have bf3 := R1.out.frozen 3
  have J1 := Lib.hid (four_set R1.out (.slice r.A1 r.n1 r.c1) (.slice r.A2 r.n2 r.c2) (.int .i64 (s : Int)) (.slice r.A3 r.n3 r.c3))
  have J2 := Lib.hid (show Blk ((((w2.setCell ⟨w.heap.size + 1, 0, none⟩ (.slice r.A1 r.n1 r.c1)).setCell ⟨w.heap.size + 1, 1, none⟩ (.slice r.A2 r.n2 r.c2)).setCell ⟨w.heap.size + 1, 2, none⟩ (.int .i64 (s : Int))).setCell ⟨w.heap.size + 1, 3, none⟩ (.slice r.A3 r.n3 r.c3)) (w.heap.size + 1 + 1) 56 (bv L).toArray from (((R2.out.far (by simp) _).far (by simp) _).far (by simp) _).far (by simp) _)
  have JB := Lib.hid (four_below RB.out (b := w.heap.size + 1) (by omega) (.slice r.A1 r.n1 r.c1) (.slice r.A2 r.n2 r.c2) (.int .i64 (s : Int)) (.slice r.A3 r.n3 r.c3))
  have hst := run_store_all (P := Try.prog) (bv L) (bv L) (by simp only [bv_length, HOL.out]) (bv_one _) J2.out
  have hbl : (bv L).length = 512 := by rw [bv_length, HOL.out]
  go_wp2
  refine bodyPost_ret (results_read rfl _ _ (w.heap.size + 1) (w.heap.size + 1 + 1) #[.slice r.A1 r.n1 r.c1, .slice r.A2 r.n2 r.c2, .int .i64 (s : Int), .slice r.A3 r.n3 r.c3] L rfl HOL.out rfl rfl (J1.out.setRow_far (b := w.heap.size + 1 + 1) (by omega) _) (J2.out.setRow _)) rfl ⟨by rw [HLE.out]; rfl, below_setRow JB.out (by omega) _⟩
set_option maxRecDepth 100000 in
set_option maxHeartbeats 1600000 in
theorem rread_fails (h : RefAt w r R z) (s : Nat) (hs : s ≤ 100000) (n : Int) (hn : ¬ n < 0) (hnz : n < z) (hf : (s : Int) ∈ R.fl) : Calls Try.prog 47 #[r.val s, .int .i64 n] w fun e w' => e = .returned (.tuple #[r.val (s + 1), sec zs, .int .i64 120]) ∧ Below w.heap.size w w' := by
  have HST := Lib.hid (show (!(decide ((s : Int) ∈ R.fl))) = false by simp [hf])
  clear hf
  have d1 : decide ((z : Int) ≤ n) = false := decide_eq_false (by omega)
  have HNZ := Lib.hid hnz
  have hz := z43
  obtain ⟨L, hL⟩ : ∃ L, L = zs := ⟨_, rfl⟩
  have hz7 : ∀ w : World, (zeroValue 56).run Try.prog w = .ok (sec L) w := by rw [hL]; exact z47
  have HOL := Lib.hid (show L.length = 512 by rw [hL]; exact zs_length)
  have HLE := Lib.hid hL
  clear hL
  have H := Lib.hid h
  have HS := Lib.hid hs
  have d0 : decide (n < 0) = false := decide_eq_false hn
  obtain ⟨DC, hDC⟩ : ∃ DC, DC = r.cells s := ⟨_, rfl⟩
  have kc0 : DC[0]? = some (.slice r.A1 r.n1 r.c1) := by rw [hDC]; rfl
  have kc1 : DC[1]? = some (.slice r.A2 r.n2 r.c2) := by rw [hDC]; rfl
  have kc2 : DC[2]? = some (.int .i64 (s : Int)) := by rw [hDC]; rfl
  have kc3 : DC[3]? = some (.slice r.A3 r.n3 r.c3) := by rw [hDC]; rfl
  obtain ⟨W, hW⟩ : ∃ W, W = ((w.alloc (.cells DC 33)).alloc (.cells #[.slice none 0 0, .slice none 0 0, .int .i64 0, .slice none 0 0] 33)).alloc (.cells (bv L).toArray 56) := ⟨_, rfl⟩
  have P0 := Lib.hid (show Blk W w.heap.size 33 DC by rw [hW]; exact ((Blk.new w 33 DC).alloc _).alloc _)
  have P1 := Lib.hid (show Blk W (w.heap.size + 1) 33 #[.slice none 0 0, .slice none 0 0, .int .i64 0, .slice none 0 0] by rw [hW]; have := (Blk.new (w.alloc (.cells DC 33)) 33 #[.slice none 0 0, .slice none 0 0, .int .i64 0, .slice none 0 0]).alloc (.cells (bv L).toArray 56); simpa using this)
  have P2 := Lib.hid (show Blk W (w.heap.size + 1 + 1) 56 (bv L).toArray by rw [hW]; have := Blk.new ((w.alloc (.cells DC 33)).alloc (.cells #[.slice none 0 0, .slice none 0 0, .int .i64 0, .slice none 0 0] 33)) 56 (bv L).toArray; simpa using this)
  have BL := Lib.hid (show Below w.heap.size w W by rw [hW]; exact (((Below.refl w.heap.size w).alloc (Nat.le_refl _) _).alloc (by simp) _).alloc (by simp; omega) _)
  have H1 := Lib.hid (show RefAt W r R z by rw [hW]; exact ((h.alloc _).alloc _).alloc _)
  clear h hs hn
  go_enter Try.func47, Try.ntmps47
  go_wp2_with fail
  rw [← hDC, ← hW]
  clear hDC hW
  refine (rsize_any H1.out s).mono ?_
  rintro e w2 ⟨rfl, hb⟩
  have R0 := Lib.hid (P0.out.below hb P0.out.lt)
  have R1 := Lib.hid (P1.out.below hb P1.out.lt)
  have R2 := Lib.hid (P2.out.below hb P2.out.lt)
  have RB := Lib.hid (BL.out.trans (hb.mono BL.out.size))
  have RH := Lib.hid (H1.out.below hb)
  have RN := Lib.hid (show w.heap.size + 1 + 1 < w2.heap.size from R2.out.lt)
  clear hb P0 P1 P2 BL H1
  have a0 := (R0.out.cell 0).trans kc0
  have a1 := (R0.out.cell 1).trans kc1
  have a2 := (R0.out.cell 2).trans kc2
  have a3 := (R0.out.cell 3).trans kc3
  go_wp2_with fail
  refine (show Calls Try.prog _ #[r.val s] w2 (fun e w' => e = .returned (.tuple #[r.val (s + 1), .bool false]) ∧ Below w2.heap.size w2 w') from HST.out ▸ rstep_any w2 r s R.fl RH.out.n3 (by have := RH.out.m3; omega) (by have := HS.out; omega) RH.out.r3).mono ?_
  rintro e w3 ⟨rfl, hb⟩
  have S0 := Lib.hid ((R0.out.below hb R0.out.lt).alloc (.cells #[.slice r.A1 r.n1 r.c1, .slice r.A2 r.n2 r.c2, .int .i64 ((s : Int) + 1), .slice r.A3 r.n3 r.c3] 33))
  have S1 := Lib.hid ((R1.out.below hb R1.out.lt).alloc (.cells #[.slice r.A1 r.n1 r.c1, .slice r.A2 r.n2 r.c2, .int .i64 ((s : Int) + 1), .slice r.A3 r.n3 r.c3] 33))
  have S2 := Lib.hid ((R2.out.below hb R2.out.lt).alloc (.cells #[.slice r.A1 r.n1 r.c1, .slice r.A2 r.n2 r.c2, .int .i64 ((s : Int) + 1), .slice r.A3 r.n3 r.c3] 33))
  have S7 := Lib.hid (Blk.new w3 33 #[.slice r.A1 r.n1 r.c1, .slice r.A2 r.n2 r.c2, .int .i64 ((s : Int) + 1), .slice r.A3 r.n3 r.c3])
  have SB := Lib.hid ((RB.out.trans (hb.mono RB.out.size)).alloc (Nat.le_trans RB.out.size hb.size) (.cells #[.slice r.A1 r.n1 r.c1, .slice r.A2 r.n2 r.c2, .int .i64 ((s : Int) + 1), .slice r.A3 r.n3 r.c3] 33))
  have SH := Lib.hid ((RH.out.below hb).alloc (.cells #[.slice r.A1 r.n1 r.c1, .slice r.A2 r.n2 r.c2, .int .i64 ((s : Int) + 1), .slice r.A3 r.n3 r.c3] 33))
  have SN := Lib.hid (show w.heap.size + 1 + 1 < w3.heap.size by have := RN.out; have := hb.size; omega)
  clear hb R0 R1 R2 RB RH a0 a1 a2 a3
  have b0 := (S1.out.cell 0).trans (show _ = some (.slice none 0 0) from rfl)
  have b1 := (S1.out.cell 1).trans (show _ = some (.slice none 0 0) from rfl)
  have b2 := (S1.out.cell 2).trans (show _ = some (.int .i64 0) from rfl)
  have b3 := (S1.out.cell 3).trans (show _ = some (.slice none 0 0) from rfl)
  have bf0 := S1.out.frozen 0
  have bf1 := S1.out.frozen 1
  have bf2 := S1.out.frozen 2
  have bf3 := S1.out.frozen 3
  have J1 := Lib.hid (four_set S1.out (.slice r.A1 r.n1 r.c1) (.slice r.A2 r.n2 r.c2) (.int .i64 ((s : Int) + 1)) (.slice r.A3 r.n3 r.c3))
  have J2 := Lib.hid (show Blk (((((w3.alloc (.cells #[.slice r.A1 r.n1 r.c1, .slice r.A2 r.n2 r.c2, .int .i64 ((s : Int) + 1), .slice r.A3 r.n3 r.c3] 33)).setCell ⟨w.heap.size + 1, 0, none⟩ (.slice r.A1 r.n1 r.c1)).setCell ⟨w.heap.size + 1, 1, none⟩ (.slice r.A2 r.n2 r.c2)).setCell ⟨w.heap.size + 1, 2, none⟩ (.int .i64 ((s : Int) + 1))).setCell ⟨w.heap.size + 1, 3, none⟩ (.slice r.A3 r.n3 r.c3)) (w.heap.size + 1 + 1) 56 (bv L).toArray from (((S2.out.far (by simp) _).far (by simp) _).far (by simp) _).far (by simp) _)
  have JB := Lib.hid (four_below SB.out (b := w.heap.size + 1) (by omega) (.slice r.A1 r.n1 r.c1) (.slice r.A2 r.n2 r.c2) (.int .i64 ((s : Int) + 1)) (.slice r.A3 r.n3 r.c3))
  have hst := run_store_all (P := Try.prog) (bv L) (bv L) (by simp only [bv_length, HOL.out]) (bv_one _) J2.out
  have hbl : (bv L).length = 512 := by rw [bv_length, HOL.out]
  go_wp2
  refine bodyPost_ret (results_read rfl _ _ (w.heap.size + 1) (w.heap.size + 1 + 1) #[.slice r.A1 r.n1 r.c1, .slice r.A2 r.n2 r.c2, .int .i64 ((s : Int) + 1), .slice r.A3 r.n3 r.c3] L rfl HOL.out rfl rfl (J1.out.setRow_far (b := w.heap.size + 1 + 1) (by omega) _) (J2.out.setRow _)) rfl ⟨by rw [HLE.out]; rfl, below_setRow JB.out (by omega) _⟩
set_option maxRecDepth 100000 in
set_option maxHeartbeats 3200000 in
theorem rread_goes (h : RefAt w r R z) (s : Nat) (hs : s ≤ 100000) (n : Nat) (hnz : n < z) (hf : ¬ (s : Int) ∈ R.fl) : Calls Try.prog 47 #[r.val s, .int .i64 (n : Int)] w fun e w' => e = .returned (.tuple #[r.val (s + 1), sec (readL (chunk R.lb n) n R.ws), .int .i64 0]) ∧ Below w.heap.size w w' := by
  have HST := Lib.hid (show (!(decide ((s : Int) ∈ R.fl))) = true by simp [hf])
  have HRL := Lib.hid (readL_length n R.ws (chunk R.lb n) (chunk_length R.lb z n h.l1 hnz) (fun y hy => (h.wl y hy).1))
  have hn : ¬ (n : Int) < 0 := by omega
  clear hf
  have d1 : decide ((z : Int) ≤ (n : Int)) = false := decide_eq_false (by omega)
  have HNZ := Lib.hid hnz
  have hz := z43
  obtain ⟨L, hL⟩ : ∃ L, L = zs := ⟨_, rfl⟩
  have hz7 : ∀ w : World, (zeroValue 56).run Try.prog w = .ok (sec L) w := by rw [hL]; exact z47
  have HOL := Lib.hid (show L.length = 512 by rw [hL]; exact zs_length)
  have HLE := Lib.hid hL
  clear hL
  have H := Lib.hid h
  have HS := Lib.hid hs
  have d0 : decide ((n : Int) < 0) = false := decide_eq_false hn
  obtain ⟨DC, hDC⟩ : ∃ DC, DC = r.cells s := ⟨_, rfl⟩
  have kc0 : DC[0]? = some (.slice r.A1 r.n1 r.c1) := by rw [hDC]; rfl
  have kc1 : DC[1]? = some (.slice r.A2 r.n2 r.c2) := by rw [hDC]; rfl
  have kc2 : DC[2]? = some (.int .i64 (s : Int)) := by rw [hDC]; rfl
  have kc3 : DC[3]? = some (.slice r.A3 r.n3 r.c3) := by rw [hDC]; rfl
  obtain ⟨W, hW⟩ : ∃ W, W = ((w.alloc (.cells DC 33)).alloc (.cells #[.slice none 0 0, .slice none 0 0, .int .i64 0, .slice none 0 0] 33)).alloc (.cells (bv L).toArray 56) := ⟨_, rfl⟩
  have P0 := Lib.hid (show Blk W w.heap.size 33 DC by rw [hW]; exact ((Blk.new w 33 DC).alloc _).alloc _)
  have P1 := Lib.hid (show Blk W (w.heap.size + 1) 33 #[.slice none 0 0, .slice none 0 0, .int .i64 0, .slice none 0 0] by rw [hW]; have := (Blk.new (w.alloc (.cells DC 33)) 33 #[.slice none 0 0, .slice none 0 0, .int .i64 0, .slice none 0 0]).alloc (.cells (bv L).toArray 56); simpa using this)
  have P2 := Lib.hid (show Blk W (w.heap.size + 1 + 1) 56 (bv L).toArray by rw [hW]; have := Blk.new ((w.alloc (.cells DC 33)).alloc (.cells #[.slice none 0 0, .slice none 0 0, .int .i64 0, .slice none 0 0] 33)) 56 (bv L).toArray; simpa using this)
  have BL := Lib.hid (show Below w.heap.size w W by rw [hW]; exact (((Below.refl w.heap.size w).alloc (Nat.le_refl _) _).alloc (by simp) _).alloc (by simp; omega) _)
  have H1 := Lib.hid (show RefAt W r R z by rw [hW]; exact ((h.alloc _).alloc _).alloc _)
  clear h hs hn
  go_enter Try.func47, Try.ntmps47
  go_wp2_with fail
  rw [← hDC, ← hW]
  have HDC := Lib.hid hDC
  clear hDC hW
  refine (rsize_any H1.out s).mono ?_
  rintro e w2 ⟨rfl, hb⟩
  have R0 := Lib.hid (P0.out.below hb P0.out.lt)
  have R1 := Lib.hid (P1.out.below hb P1.out.lt)
  have R2 := Lib.hid (P2.out.below hb P2.out.lt)
  have RB := Lib.hid (BL.out.trans (hb.mono BL.out.size))
  have RH := Lib.hid (H1.out.below hb)
  have RN := Lib.hid (show w.heap.size + 1 + 1 < w2.heap.size from R2.out.lt)
  clear hb P0 P1 P2 BL H1
  have a0 := (R0.out.cell 0).trans kc0
  have a1 := (R0.out.cell 1).trans kc1
  have a2 := (R0.out.cell 2).trans kc2
  have a3 := (R0.out.cell 3).trans kc3
  go_wp2_with fail
  refine (show Calls Try.prog _ #[r.val s] w2 (fun e w' => e = .returned (.tuple #[r.val (s + 1), .bool true]) ∧ Below w2.heap.size w2 w') from HST.out ▸ rstep_any w2 r s R.fl RH.out.n3 (by have := RH.out.m3; omega) (by have := HS.out; omega) RH.out.r3).mono ?_
  rintro e w3 ⟨rfl, hb⟩
  have S0 := Lib.hid ((R0.out.below hb R0.out.lt).alloc (.cells #[.slice r.A1 r.n1 r.c1, .slice r.A2 r.n2 r.c2, .int .i64 ((s : Int) + 1), .slice r.A3 r.n3 r.c3] 33))
  have S1 := Lib.hid ((R1.out.below hb R1.out.lt).alloc (.cells #[.slice r.A1 r.n1 r.c1, .slice r.A2 r.n2 r.c2, .int .i64 ((s : Int) + 1), .slice r.A3 r.n3 r.c3] 33))
  have S2 := Lib.hid ((R2.out.below hb R2.out.lt).alloc (.cells #[.slice r.A1 r.n1 r.c1, .slice r.A2 r.n2 r.c2, .int .i64 ((s : Int) + 1), .slice r.A3 r.n3 r.c3] 33))
  have S7 := Lib.hid (Blk.new w3 33 #[.slice r.A1 r.n1 r.c1, .slice r.A2 r.n2 r.c2, .int .i64 ((s : Int) + 1), .slice r.A3 r.n3 r.c3])
  have SB := Lib.hid ((RB.out.trans (hb.mono RB.out.size)).alloc (Nat.le_trans RB.out.size hb.size) (.cells #[.slice r.A1 r.n1 r.c1, .slice r.A2 r.n2 r.c2, .int .i64 ((s : Int) + 1), .slice r.A3 r.n3 r.c3] 33))
  have SH := Lib.hid ((RH.out.below hb).alloc (.cells #[.slice r.A1 r.n1 r.c1, .slice r.A2 r.n2 r.c2, .int .i64 ((s : Int) + 1), .slice r.A3 r.n3 r.c3] 33))
  have SN := Lib.hid (show w.heap.size + 1 + 1 < w3.heap.size by have := RN.out; have := hb.size; omega)
  clear hb R0 R1 R2 RB RH a0 a1 a2 a3
  have S0L := Lib.hid (show Blk (w3.alloc (.cells #[.slice r.A1 r.n1 r.c1, .slice r.A2 r.n2 r.c2, .int .i64 ((s : Int) + 1), .slice r.A3 r.n3 r.c3] 33)) w.heap.size 33 #[.slice r.A1 r.n1 r.c1, .slice r.A2 r.n2 r.c2, .int .i64 (s : Int), .slice r.A3 r.n3 r.c3] by have := S0.out; rw [HDC.out] at this; exact this)
  go_wp2_with fail
  refine wp_region_only (S := fun w' => Blk w' w3.heap.size 33 #[.slice r.A1 r.n1 r.c1, .slice r.A2 r.n2 r.c2, .int .i64 ((s : Int) + 1), .slice r.A3 r.n3 r.c3] ∧ Blk w' w.heap.size 33 #[.slice r.A1 r.n1 r.c1, .slice r.A2 r.n2 r.c2, .int .i64 (s : Int), .slice r.A3 r.n3 r.c3]) (by kernel_rfl) ⟨S7.out, S0L.out⟩ (fun hHeld => ?_)
  refine wpAnyH_take (i := 0) rfl (by kernel_rfl) (by kernel_rfl) (by kernel_rfl) (fun _ _ _ h => h) (yieldsIf_load_mid (by rfl) 33 (.tmp 7) (by rfl) w3.heap.size 0 (by rfl) [.slice r.A1 r.n1 r.c1, .slice r.A2 r.n2 r.c2, .int .i64 ((s : Int) + 1), .slice r.A3 r.n3 r.c3] _ (fun w' hSw => Blk.rangeAt hSw.1) Try.underlying33 rfl size43) hHeld ?_
  try simp only [Act.put, List.getElem_toArray, List.getElem_cons_zero, List.setIfInBounds_toArray, List.set_cons_zero, List.set_cons_succ]
  refine wpAnyH_take (i := 1) rfl (by kernel_rfl) (by kernel_rfl) (by kernel_rfl) (fun _ _ _ h => h) (yieldsIf_load_mid (by rfl) 33 (.tmp 2) (by rfl) w.heap.size 0 (by rfl) [.slice r.A1 r.n1 r.c1, .slice r.A2 r.n2 r.c2, .int .i64 (s : Int), .slice r.A3 r.n3 r.c3] _ (fun w' hSw => Blk.rangeAt hSw.2) Try.underlying33 rfl size43) hHeld ?_
  try simp only [Act.put, List.getElem_toArray, List.getElem_cons_succ, List.getElem_cons_zero, List.setIfInBounds_toArray, List.set_cons_zero, List.set_cons_succ]
  refine wpAnyH_take (i := 2) (v := ?v1) rfl (by kernel_rfl) (by kernel_rfl) (by kernel_rfl) (fun _ _ _ h => h) (Or.inl ⟨by rfl, ?hy1⟩) hHeld ?rest1
  case hy1 =>
    intro w' hSw
    try dsimp only at hSw
    go_simp
    first | done | with_reducible rfl
  try simp only [Act.put, List.getElem_toArray, List.getElem_cons_succ, List.getElem_cons_zero, List.setIfInBounds_toArray, List.set_cons_zero, List.set_cons_succ]
  refine wpAnyH_ready (rs := [3]) (by kernel_rfl) (by simp) ?_
  refine AllReadyH.cons (by rfl) (fun K hK => ?_) AllReadyH.nil
  go_simp
  refine (rreads_any SH.out.drew s n HNZ.out).mono ?_
  rintro e w4 ⟨rfl, hb⟩
  have T7 := Lib.hid (Blk.below (show Blk (w3.alloc (.cells #[.slice r.A1 r.n1 r.c1, .slice r.A2 r.n2 r.c2, .int .i64 ((s : Int) + 1), .slice r.A3 r.n3 r.c3] 33)).drew w3.heap.size 33 #[.slice r.A1 r.n1 r.c1, .slice r.A2 r.n2 r.c2, .int .i64 ((s : Int) + 1), .slice r.A3 r.n3 r.c3] from S7.out) hb (show Blk (w3.alloc (.cells #[.slice r.A1 r.n1 r.c1, .slice r.A2 r.n2 r.c2, .int .i64 ((s : Int) + 1), .slice r.A3 r.n3 r.c3] 33)).drew w3.heap.size 33 #[.slice r.A1 r.n1 r.c1, .slice r.A2 r.n2 r.c2, .int .i64 ((s : Int) + 1), .slice r.A3 r.n3 r.c3] from S7.out).lt)
  have T0 := Lib.hid (Blk.below (show Blk (w3.alloc (.cells #[.slice r.A1 r.n1 r.c1, .slice r.A2 r.n2 r.c2, .int .i64 ((s : Int) + 1), .slice r.A3 r.n3 r.c3] 33)).drew w.heap.size 33 #[.slice r.A1 r.n1 r.c1, .slice r.A2 r.n2 r.c2, .int .i64 (s : Int), .slice r.A3 r.n3 r.c3] from S0L.out) hb (show Blk (w3.alloc (.cells #[.slice r.A1 r.n1 r.c1, .slice r.A2 r.n2 r.c2, .int .i64 ((s : Int) + 1), .slice r.A3 r.n3 r.c3] 33)).drew w.heap.size 33 #[.slice r.A1 r.n1 r.c1, .slice r.A2 r.n2 r.c2, .int .i64 (s : Int), .slice r.A3 r.n3 r.c3] from S0L.out).lt)
  have T1 := Lib.hid (Blk.below (show Blk (w3.alloc (.cells #[.slice r.A1 r.n1 r.c1, .slice r.A2 r.n2 r.c2, .int .i64 ((s : Int) + 1), .slice r.A3 r.n3 r.c3] 33)).drew (w.heap.size + 1) 33 #[.slice none 0 0, .slice none 0 0, .int .i64 0, .slice none 0 0] from S1.out) hb (show Blk (w3.alloc (.cells #[.slice r.A1 r.n1 r.c1, .slice r.A2 r.n2 r.c2, .int .i64 ((s : Int) + 1), .slice r.A3 r.n3 r.c3] 33)).drew (w.heap.size + 1) 33 #[.slice none 0 0, .slice none 0 0, .int .i64 0, .slice none 0 0] from S1.out).lt)
  have T2 := Lib.hid (Blk.below (show Blk (w3.alloc (.cells #[.slice r.A1 r.n1 r.c1, .slice r.A2 r.n2 r.c2, .int .i64 ((s : Int) + 1), .slice r.A3 r.n3 r.c3] 33)).drew (w.heap.size + 1 + 1) 56 (bv L).toArray from S2.out) hb (show Blk (w3.alloc (.cells #[.slice r.A1 r.n1 r.c1, .slice r.A2 r.n2 r.c2, .int .i64 ((s : Int) + 1), .slice r.A3 r.n3 r.c3] 33)).drew (w.heap.size + 1 + 1) 56 (bv L).toArray from S2.out).lt)
  have TB := Lib.hid (SB.out.drew.trans (hb.mono SB.out.size))
  obtain ⟨M, hM⟩ : ∃ M, M = readL (chunk R.lb n) n R.ws := ⟨_, rfl⟩
  rw [← hM]
  have HML := Lib.hid (show M.length = 512 by rw [hM]; exact HRL.out)
  have HME := Lib.hid hM
  have b0 := (T1.out.cell 0).trans (show _ = some (.slice none 0 0) from rfl)
  have b1 := (T1.out.cell 1).trans (show _ = some (.slice none 0 0) from rfl)
  have b2 := (T1.out.cell 2).trans (show _ = some (.int .i64 0) from rfl)
  have b3 := (T1.out.cell 3).trans (show _ = some (.slice none 0 0) from rfl)
  have bf0 := T1.out.frozen 0
  have bf1 := T1.out.frozen 1
  have bf2 := T1.out.frozen 2
  have bf3 := T1.out.frozen 3
  have J1 := Lib.hid (four_set T1.out (.slice r.A1 r.n1 r.c1) (.slice r.A2 r.n2 r.c2) (.int .i64 ((s : Int) + 1)) (.slice r.A3 r.n3 r.c3))
  have J2 := Lib.hid (show Blk ((((w4.setCell ⟨w.heap.size + 1, 0, none⟩ (.slice r.A1 r.n1 r.c1)).setCell ⟨w.heap.size + 1, 1, none⟩ (.slice r.A2 r.n2 r.c2)).setCell ⟨w.heap.size + 1, 2, none⟩ (.int .i64 ((s : Int) + 1))).setCell ⟨w.heap.size + 1, 3, none⟩ (.slice r.A3 r.n3 r.c3)) (w.heap.size + 1 + 1) 56 (bv L).toArray from ((((T2.out.far (by simp) _).far (by simp) _).far (by simp) _).far (by simp) _))
  have J7 := Lib.hid (show Blk ((((w4.setCell ⟨w.heap.size + 1, 0, none⟩ (.slice r.A1 r.n1 r.c1)).setCell ⟨w.heap.size + 1, 1, none⟩ (.slice r.A2 r.n2 r.c2)).setCell ⟨w.heap.size + 1, 2, none⟩ (.int .i64 ((s : Int) + 1))).setCell ⟨w.heap.size + 1, 3, none⟩ (.slice r.A3 r.n3 r.c3)) w3.heap.size 33 #[.slice r.A1 r.n1 r.c1, .slice r.A2 r.n2 r.c2, .int .i64 ((s : Int) + 1), .slice r.A3 r.n3 r.c3] from ((((T7.out.far (by have := SN.out; simp only; omega) _).far (by have := SN.out; simp only; omega) _).far (by have := SN.out; simp only; omega) _).far (by have := SN.out; simp only; omega) _))
  have J0 := Lib.hid (show Blk ((((w4.setCell ⟨w.heap.size + 1, 0, none⟩ (.slice r.A1 r.n1 r.c1)).setCell ⟨w.heap.size + 1, 1, none⟩ (.slice r.A2 r.n2 r.c2)).setCell ⟨w.heap.size + 1, 2, none⟩ (.int .i64 ((s : Int) + 1))).setCell ⟨w.heap.size + 1, 3, none⟩ (.slice r.A3 r.n3 r.c3)) w.heap.size 33 #[.slice r.A1 r.n1 r.c1, .slice r.A2 r.n2 r.c2, .int .i64 (s : Int), .slice r.A3 r.n3 r.c3] from ((((T0.out.far (by simp) _).far (by simp) _).far (by simp) _).far (by simp) _))
  have JB := Lib.hid (four_below TB.out (b := w.heap.size + 1) (by omega) (.slice r.A1 r.n1 r.c1) (.slice r.A2 r.n2 r.c2) (.int .i64 ((s : Int) + 1)) (.slice r.A3 r.n3 r.c3))
  have hst := run_store_all (P := Try.prog) (bv M) (bv L) (by simp only [bv_length, HOL.out, HML.out]) (bv_one _) J2.out
  have hbl : (bv M).length = 512 := by rw [bv_length, HML.out]
  clear hb hM hHeld
  go_wp2_with fail
  refine hK.out _ _ ⟨T7.out, T0.out⟩ (fun hHeld => ?_)
  clear hK K
  try simp only [Act.put, List.getElem_toArray, List.getElem_cons_succ, List.getElem_cons_zero, List.setIfInBounds_toArray, List.set_cons_zero, List.set_cons_succ]
  refine wpAnyH_ready (rs := [4]) (by kernel_rfl) (by simp) ?_
  refine AllReadyH.cons (by rfl) (fun K hK => ?_) AllReadyH.nil
  go_simp
  refine hK.out _ _ ⟨J7.out, J0.out⟩ (fun hHeld => ?_)
  clear hK K
  try simp only [Act.put, List.getElem_toArray, List.getElem_cons_succ, List.getElem_cons_zero, List.setIfInBounds_toArray, List.set_cons_zero, List.set_cons_succ]
  refine wpAnyH_ready (rs := [5]) (by kernel_rfl) (by simp) ?_
  refine AllReadyH.cons (by rfl) (fun K hK => ?_) AllReadyH.nil
  go_simp
  refine hK.out _ _ ⟨J7.out.setRow_far (b := w.heap.size + 1 + 1) (by have := SN.out; omega) _, J0.out.setRow_far (b := w.heap.size + 1 + 1) (by omega) _⟩ (fun hHeld => ?_)
  clear hK K
  try simp only [Act.put, List.getElem_toArray, List.getElem_cons_succ, List.getElem_cons_zero, List.setIfInBounds_toArray, List.set_cons_zero, List.set_cons_succ]
  refine wpAnyH_take (i := 6) (v := ?v2) rfl (by kernel_rfl) (by kernel_rfl) (by kernel_rfl) (fun _ _ _ h => h) (Or.inl ⟨by rfl, ?hy2⟩) hHeld ?rest2
  case hy2 =>
    intro w' hSw
    try dsimp only at hSw
    go_simp
    first | done | with_reducible rfl
  try simp only [Act.put, List.getElem_toArray, List.getElem_cons_succ, List.getElem_cons_zero, List.setIfInBounds_toArray, List.set_cons_zero, List.set_cons_succ]
  refine wpAnyH_done (by kernel_rfl) ?_ _
  refine OnlyN.normal ?_
  clear hHeld
  go_wp2
  refine bodyPost_ret (results_read rfl _ _ (w.heap.size + 1) (w.heap.size + 1 + 1) #[.slice r.A1 r.n1 r.c1, .slice r.A2 r.n2 r.c2, .int .i64 ((s : Int) + 1), .slice r.A3 r.n3 r.c3] M rfl HML.out rfl rfl (J1.out.setRow_far (b := w.heap.size + 1 + 1) (by omega) _) (J2.out.setRow _)) rfl ⟨by rw [HME.out]; rfl, below_setRow JB.out (by omega) _⟩
end
end Go.Proofs.Ytcfkoglehjkkdaa
namespace Go.Proofs.Ytcfkoglehjkkdaa
open Go.RowKit
/-- what a Read tells -/
def rdS (R : Rf) (s z : Nat) (n : Int) : List UInt8 := if n < 0 ∨ (z : Int) ≤ n then zs else if (s : Int) ∈ R.fl then zs else readL (chunk R.lb n.toNat) n.toNat R.ws
section
variable {w w' : World} {r : Rp} {R : Rf} {s z : Nat}
theorem RefAt.chunk_len (h : RefAt w r R z) (n : Nat) (hn : n < z) : (chunk R.lb n).length = 512 := chunk_length R.lb z n h.l1 hn
set_option maxRecDepth 8000 in
theorem rdS_length (h : RefAt w r R z) (n : Int) : (rdS R s z n).length = 512 := by
  unfold rdS
  by_cases h1 : n < 0 ∨ (z : Int) ≤ n
  · rw [if_pos h1]; exact zs_length
  · rw [if_neg h1]
    split
    · exact zs_length
    · exact readL_length _ R.ws _ (h.chunk_len _ (by omega)) (fun x hx => (h.wl x hx).1)
set_option maxRecDepth 8000 in
theorem rread_any (h : RefAt w r R z) (hs : s ≤ 100000) (n : Int) :
    Calls Try.prog 47 #[r.val s, .int .i64 n] w fun e w' => e = .returned (.tuple #[r.val (wSt s z n), sec (rdS R s z n), .int .i64 (wNo R s z n)]) ∧ Below w.heap.size w w' := by
  unfold wNo wSt rdS
  by_cases h1 : n < 0 ∨ (z : Int) ≤ n
  · rw [if_pos h1, if_pos h1, if_pos h1]
    by_cases h0 : n < 0
    · exact rread_neg r s n h0 w
    · exact rread_range h s hs n h0 (by omega)
  · rw [if_neg h1, if_neg h1, if_neg h1]
    by_cases hf : (s : Int) ∈ R.fl
    · rw [if_pos hf, if_pos hf]
      exact rread_fails h s hs n (by omega) (by omega) hf
    · rw [if_neg hf, if_neg hf]
      obtain ⟨k, rfl⟩ : ∃ k : Nat, n = (k : Int) := ⟨n.toNat, by omega⟩
      exact rread_goes h s hs k (by omega) hf
set_option maxRecDepth 8000 in
theorem Alike.stepped {D : Dk} (ha : Alike D R s z) : Alike D.stepped R (s + 1) z :=
  { size := ha.size, lasts := ha.lasts, waits := ha.waits, steps := by show D.steps + 1 = s + 1; rw [ha.steps]
    fails := fun n h2 h3 => by
      show delS D.fails ((D.steps : Int) - (D.frm : Int)) (n - (D.frm : Int)) = _
      unfold delS
      rw [if_neg (by rw [ha.steps]; omega)]
      exact ha.fails n (by omega) h3 }
set_option maxRecDepth 8000 in
theorem dread_any {B p : Nat} {pl : Pl} {D : Dk} (hd : DiskAt w B p pl D) (ha : Alike D R s z) (hN : R.ws.length ≤ 1000000) (hs : s ≤ 100000) (n : Int) :
    Calls Try.prog 66 #[.pointer (some ⟨p, 0, none⟩), .int .i64 n] w fun e w' => e = .returned (.tuple #[sec (rdS R s z n), .int .i64 (wNo R s z n)]) ∧ ∃ D', DiskAt w' B p pl D' ∧ Fr (pl.has p) w w' ∧ Alike D' R (wSt s z n) z := by
  have hnx := ha.next (by omega)
  have hwl : D.waits.length = R.ws.length := by rw [ha.waits]
  have hsz := ha.size
  have hst := ha.steps
  unfold wNo wSt rdS
  by_cases h1 : n < 0 ∨ (z : Int) ≤ n
  · rw [if_pos h1, if_pos h1, if_pos h1]
    refine (read_out hd n (by rw [hsz]; exact h1)).mono ?_
    rintro e w' ⟨rfl, hb⟩
    exact ⟨rfl, D, hd.below hb, ((Fr.refl (pl.has p) w).below hb), ha⟩
  · rw [if_neg h1, if_neg h1, if_neg h1]
    obtain ⟨k, rfl⟩ : ∃ k : Nat, n = (k : Int) := ⟨n.toNat, by omega⟩
    by_cases hf : (s : Int) ∈ R.fl
    · rw [if_pos hf, if_pos hf]
      refine (read_fails hd k (by omega) (by omega) (by rw [hnx]; exact decide_eq_true hf)).mono ?_
      rintro e w' ⟨rfl, hd', hfr⟩
      exact ⟨rfl, _, hd', hfr, ha.stepped⟩
    · rw [if_neg hf, if_neg hf]
      refine (read_goes hd (by omega) k (by omega) (by omega) (by rw [hnx]; exact decide_eq_false hf)).mono ?_
      rintro e w' ⟨rfl, hd', hfr⟩
      refine ⟨?_, _, hd', hfr, ha.stepped⟩
      have e1 : D.reads k = readL (chunk R.lb (k : Int).toNat) (k : Int).toNat R.ws := by
        unfold Dk.reads
        rw [ha.waits, ha.lasts k (by omega)]
        rfl
      rw [e1]
end
end Go.Proofs.Ytcfkoglehjkkdaa

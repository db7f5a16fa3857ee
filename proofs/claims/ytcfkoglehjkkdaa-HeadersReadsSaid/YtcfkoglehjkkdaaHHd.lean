/- headers, of the document: Header. -/
import Derived.Test.YtcfkoglehjkkdaaHRnum
import Derived.Test.YtcfkoglehjkkdaaHSl
import Derived.Test.YtcfkoglehjkkdaaHDef
import Derived.Lib.SmallJoins
import Derived.ArgAppend
namespace Go.Proofs.Ytcfkoglehjkkdaa
open Go.RowKit
attribute [local go_sem] Oper.semAt_some
attribute [local go_sem] run_store_bv run_store_wc run_store_bv_drew run_store_wc_drew
theorem cells3h {w : World} {g : Nat} {t : TypeId} {v0 v1 v2 : Value} (h : Blk w g t #[v0, v1, v2]) : w.cell? ⟨g, 0, none⟩ = some v0 ∧ w.cell? ⟨g, 1, none⟩ = some v1 ∧ w.cell? ⟨g, 2, none⟩ = some v2 := ⟨h.cell 0, h.cell 1, h.cell 2⟩
/-- an owned row, of bytes appended to it -/
structure Ow (W2 w : World) (b2 : Nat) (v : Value) (n : Nat) (l : List UInt8) : Prop where
  ow : w.ownsRow b2 5 1 v n (bv l)
  be : Below b2 W2 w
  sz : b2 ≤ w.heap.size
theorem Ow.next {W2 w w' : World} {b2 : Nat} {v : Value} {n : Nat} {l : List UInt8} (h : Ow W2 w b2 v n l) (hb : Below w.heap.size w w') : Ow W2 w' b2 v n l := ⟨own_below h.ow hb, h.be.trans (hb.mono h.sz), Nat.le_trans h.sz hb.size⟩
theorem Ow.grown {W2 w w' : World} {b2 : Nat} {v v' : Value} {n m : Nat} {l l' : List UInt8} (h : Ow W2 w b2 v n l) (ho : w'.ownsRow b2 5 1 v' m (bv l')) (hg : w.grownBy w' v.ownBlock) : Ow W2 w' b2 v' m l' :=
  ⟨ho, below_append h.be h.ow hg (Nat.le_refl _) h.sz, Nat.le_trans h.sz (below_append (Below.refl b2 w) h.ow hg (Nat.le_refl _) h.sz).size⟩
set_option maxRecDepth 100000 in
set_option maxHeartbeats 4000000 in
theorem rheader8 (w : World) (E A O : Nat) (hE : (E : Int) ≤ 9223372036854775807) (hA : A < 65536) (hO : O < 65536) :
    Calls Try.prog 34 #[.agg #[.int .i64 (E : Int), .int .i64 (A : Int), .int .i64 (O : Int)]] w fun e w' => e = .returned (sec (hdS E A O)) ∧ Below w.heap.size w w' := by
  have hz := z47
  obtain ⟨W2, hW⟩ : ∃ W2, W2 = (w.alloc (.cells #[.int .i64 (E : Int), .int .i64 (A : Int), .int .i64 (O : Int)] 28)).alloc (.cells (bv zs).toArray 56) := ⟨_, rfl⟩
  have B2 := Lib.hid (show Below w.heap.size w W2 from by rw [hW]; exact ((Below.refl _ w).alloc (Nat.le_refl _) _).alloc (by simp) _)
  have X0 := Lib.hid (show Blk W2 w.heap.size 28 #[.int .i64 (E : Int), .int .i64 (A : Int), .int .i64 (O : Int)] from by rw [hW]; exact (Blk.new w _ _).alloc _)
  have R0 := Lib.hid (show Blk W2 (w.heap.size + 1) 56 (bv zs).toArray from by rw [hW]; have := Blk.new (w.alloc (.cells #[.int .i64 (E : Int), .int .i64 (A : Int), .int .i64 (O : Int)] 28)) 56 (bv zs).toArray; simpa using this)
  have hcv := Go.Joins.run_convert_bytes_const_at (P := Try.prog) W2 22 5 #[.int .u8 67, .int .u8 72, .int .u8 72, .int .u8 68] 4 4 (w.heap.size + 1 + 1) (by rw [hW]; simp) Try.underlying22 Try.underlying5
  have HC := Lib.hid (fun j => Go.Joins.cell_alloc_mark_at W2 #[.int .u8 67, .int .u8 72, .int .u8 72, .int .u8 68] 5 (4, 5) (w.heap.size + 1 + 1) j (by rw [hW]; simp))
  have LB := Lib.hid (show Below W2.heap.size W2 (W2.alloc (.cells #[.int .u8 67, .int .u8 72, .int .u8 72, .int .u8 68] 5 (4, 5))) from (Below.refl _ W2).alloc (Nat.le_refl _) _)
  have SZ := Lib.hid (show w.heap.size + 1 < W2.heap.size from R0.out.lt)
  have x0 := ((X0.out.below LB.out X0.out.lt).cell 0).trans (show _ = some (.int .i64 (E : Int)) from rfl)
  rw [hW] at x0 hcv
  have HE := Lib.hid hE
  have HA := Lib.hid (show (A : Int) ≤ 9223372036854775807 by omega)
  have HO := Lib.hid (show (O : Int) ≤ 9223372036854775807 by omega)
  clear hE hA hO
  go_enter Try.func34, Try.ntmps34
  go_wp2_with fail
  rw [← hW]
  clear hW x0 hz hcv
  generalize W2.alloc (.cells #[.int .u8 67, .int .u8 72, .int .u8 72, .int .u8 68] 5 (4, 5)) = W3 at HC LB ⊢
  refine (rlow8 E 8 _ (.inr (.inr rfl)) HE.out).mono ?_
  rintro e V1 ⟨v1, rfl, ho1, hb1⟩
  obtain ⟨g1, c1, rfl, _⟩ := own_some ho1 (by omega)
  have L1 := Lib.hid (LB.out.trans (hb1.mono LB.out.size))
  have EA := Lib.hid (show ∀ b j : Nat, (⟨b, 0, none⟩ : Addr).add j = ⟨b, j, none⟩ from fun b j => by simp [Addr.add]; omega)
  have Q1 := Lib.hid (show ∀ j u, (bv [67, 72, 72, 68])[j]? = some u → V1.cell? ((⟨w.heap.size + 1 + 1, 0, none⟩ : Addr).add j) = some u from fun j u hu => by
    have hc := (HC.out j).trans (show _ = (bv [67, 72, 72, 68])[j]? by rw [List.getElem?_toArray]; rfl)
    rw [hu] at hc
    have := (hb1.cell (cell_lt hc)).trans hc
    rw [EA.out]
    exact this)
  have D1 := Lib.hid (show ∀ j u, (bv (S.bytesLE 8 E))[j]? = some u → V1.cell? ((⟨g1, 0, none⟩ : Addr).add j) = some u from fun j u hu => by
    have hj : j < 8 * 1 := by
      rcases Nat.lt_or_ge j 8 with h | h
      · omega
      · rw [List.getElem?_eq_none (by rw [bv_length, S.bytesLE_length]; exact h)] at hu
        cases hu
    rw [EA.out]
    exact (ho1.cellAt j hj).trans hu)
  obtain ⟨iu, hiu⟩ : ∃ i, Try.prog.info? 5 = some i := by
    cases h' : Try.prog.info? 5 with
    | none => have := S.infoU8; simp [h'] at this
    | some i => exact ⟨i, rfl⟩
  have hi3 : iu.zero = some (.int .u8 0) ∧ iu.size = 1 ∧ iu.bytes = 1 := by have := S.infoU8; rw [hiu] at this; simpa using this
  clear ho1 hb1 LB HC
  go_wp2_with (at_builtin; refine wpList_append_grows _ rfl _ _ _ rfl 5 iu (.int .u8 0) 1 1 Try.underlying22 hiu hi3.1 hi3.2.1 hi3.2.2 rfl (by decide) (some ⟨w.heap.size + 1 + 1, 0, none⟩) 4 4 (bv [67, 72, 72, 68]) rfl (fun h => nomatch h) rfl (fun b h => by injection h with h; subst h; exact Q1.out) ⟨g1, 0, none⟩ 8 c1 (bv (S.bytesLE 8 E)) rfl (by rw [bv_length, S.bytesLE_length]) D1.out (bv_one _) (by decide) (by decide) (by decide) ?_; intro v' w' hown1 hg1; have O1b := Lib.hid (show Ow W2 w' W2.heap.size v' 12 ([67, 72, 72, 68] ++ S.bytesLE 8 E) from ⟨by have h := own_base hown1 L1.out.size; simpa [bv] using h, L1.out.trans (Below.mono ⟨hg1.os, hg1.tape, hg1.output, hg1.size, fun k hk => hg1.block k hk (by simp)⟩ L1.out.size), Nat.le_trans L1.out.size hg1.size⟩); clear hown1 hg1; obtain ⟨B1, d1, rfl⟩ := own_shape O1b.out.ow; have x1 := ((X0.out.below O1b.out.be X0.out.lt).cell 1).trans (show _ = some (.int .i64 (A : Int)) from rfl); clear D1 Q1 L1)
  clear x1
  refine (rlow8 A 2 _ (.inl rfl) HA.out).mono ?_
  rintro e V2 ⟨v2, rfl, ho2, hb2⟩
  obtain ⟨A2, c2, rfl⟩ := own_shape ho2
  have D2 := Lib.hid (Rd.of_own ho2)
  have O2 := Lib.hid (O1b.out.next hb2)
  clear ho2 hb2
  go_wp2_with (at_builtin; refine wpList_append_bytes _ rfl _ _ _ rfl Try.underlying22 S.infoU8 rfl O2.out.ow rfl D2.out (S.bytesLE_length 2 A) (by omega) O2.out.sz ?_; intro v' w' hown1 hg1 hat1; have O2b := Lib.hid (show Ow W2 w' W2.heap.size v' 14 ([67, 72, 72, 68] ++ S.bytesLE 8 E ++ S.bytesLE 2 A) from O2.out.grown hown1 hg1); clear hown1 hg1 hat1; obtain ⟨Z2, d2, rfl⟩ := own_shape O2b.out.ow; have x2 := ((X0.out.below O2b.out.be X0.out.lt).cell 2).trans (show _ = some (.int .i64 (O : Int)) from rfl); clear O2 D2)
  clear x2
  refine (rlow8 O 2 _ (.inl rfl) HO.out).mono ?_
  rintro e V3 ⟨v3, rfl, ho3, hb3⟩
  obtain ⟨A3, c3, rfl⟩ := own_shape ho3
  have D3 := Lib.hid (Rd.of_own ho3)
  have O3 := Lib.hid (O2b.out.next hb3)
  clear ho3 hb3
  go_wp2_with (at_builtin; refine wpList_append_bytes _ rfl _ _ _ rfl Try.underlying22 S.infoU8 rfl O3.out.ow rfl D3.out (S.bytesLE_length 2 O) (by omega) O3.out.sz ?_; intro v' w' hown1 hg1 hat1; have O3b := Lib.hid (show Ow W2 w' W2.heap.size v' 16 ([67, 72, 72, 68] ++ S.bytesLE 8 E ++ S.bytesLE 2 A ++ S.bytesLE 2 O) from O3.out.grown hown1 hg1); clear hown1 hg1 hat1; obtain ⟨Z3, d3, rfl⟩ := own_shape O3b.out.ow; clear O3 D3)
  obtain ⟨L, hL⟩ : ∃ L : List UInt8, L = ([67, 72, 72, 68] ++ S.bytesLE 8 E ++ S.bytesLE 2 A ++ S.bytesLE 2 O) := ⟨_, rfl⟩
  rw [← hL] at O3b
  have HLL := Lib.hid hL
  clear hL O1b O2b
  go_loopw [3] (fun u wr => ∃ j : Nat, 16 ≤ j ∧ j ≤ 500 ∧ Ow W2 wr W2.heap.size u j (L ++ List.replicate (j - 16) 0)) (fun u _ => 500 - lenV u)
  case atStart => exact ⟨16, Nat.le_refl _, by omega, by rw [Nat.sub_self, List.replicate_zero, List.append_nil]; exact O3b.out⟩
  case round =>
    obtain ⟨j, h1, h2, how⟩ := hrel
    obtain ⟨C, cp, rfl⟩ := own_shape how.ow
    have OW := Lib.hid how
    clear how O3b
    by_cases hlt : j < 500
    · have i2 : (j : Int) < 500 := by omega
      have OW2 := Lib.hid (OW.out.next ((Below.refl _ wr).alloc (Nat.le_refl _) (.cells #[.int .u8 0] 5)))
      go_wp2_with (at_builtin; refine wpList_append_bytes _ rfl _ _ _ rfl Try.underlying22 S.infoU8 rfl OW2.out.ow rfl (rd_new _ 0 _ rfl) rfl (by omega) OW2.out.sz ?_; intro v' w' hown1 hg1 hat1)
      obtain ⟨C', c', rfl⟩ := own_shape hown1
      have HEQ := Lib.hid (show L ++ List.replicate (j - 16) 0 ++ [0] = L ++ List.replicate (j + 1 - 16) (0 : UInt8) by rw [show j + 1 - 16 = (j - 16) + 1 by omega, List.replicate_succ', List.append_assoc])
      have O5 := Lib.hid (OW2.out.grown hown1 hg1)
      go_roundw
      case rel => exact ⟨j + 1, by omega, by omega, by rw [← HEQ.out]; exact O5.out⟩
      case measure => simp [lenV]; omega
    · obtain rfl : j = 500 := by omega
      have i2 : ¬ ((500 : Nat) : Int) < 500 := by decide
      have x3 := ((X0.out.below OW.out.be X0.out.lt).cell 0).trans (show _ = some (.int .i64 (E : Int)) from rfl)
      go_wp2_with fail
      clear x3
      refine (rlow8 E 8 _ (.inr (.inr rfl)) HE.out).mono ?_
      rintro e V5 ⟨v5, rfl, ho5, hb5⟩
      obtain ⟨A5, c5, rfl⟩ := own_shape ho5
      have D5 := Lib.hid (Rd.of_own ho5)
      have O5 := Lib.hid (OW.out.next hb5)
      clear ho5 hb5 OW
      go_wp2_with (at_builtin; refine wpList_append_bytes _ rfl _ _ _ rfl Try.underlying22 S.infoU8 rfl O5.out.ow rfl D5.out (S.bytesLE_length 8 E) (by omega) O5.out.sz ?_; intro v' w' hown1 hg1 hat1; have O6 := Lib.hid (show Ow W2 w' W2.heap.size v' 508 (L ++ List.replicate (500 - 16) 0 ++ S.bytesLE 8 E) from O5.out.grown hown1 hg1); clear hown1 hg1 hat1 O5 D5)
      refine (sl8_any O6.out.ow O6.out.sz (by omega)).mono ?_
      rintro e V7 ⟨rfl, hb7⟩
      have HS := Lib.hid (show S.sealN (L ++ List.replicate (500 - 16) 0 ++ S.bytesLE 8 E ++ List.replicate (508 - 508) 0) = hdS E A O by rw [HLL.out]; unfold hdS hdL; simp)
      rw [HS.out]
      have B7 := Lib.hid (O6.out.be.trans hb7)
      have R7 := Lib.hid (R0.out.below B7.out R0.out.lt)
      clear hb7 O6
      have hst := run_store_all (P := Try.prog) (bv (hdS E A O)) (bv zs) (by rw [bv_length, bv_length, hdS_length, zs_length]) (bv_one _) R7.out
      have J0 := Lib.hid (R7.out.setRow (bv (hdS E A O)).toArray)
      have J := Lib.hid (below_setRow (B2.out.trans (B7.out.mono B2.out.size)) (Nat.le_succ _) (bv (hdS E A O)).toArray)
      have hsl : (bv (hdS E A O)).length = 512 := by rw [bv_length, hdS_length]
      go_wp2_with fail
      exact bodyPost_ret (results_cell_row rfl _ _ (w.heap.size + 1) 56 _ (0, 0) _ rfl J0.out Try.underlying56 rfl (by rw [List.size_toArray, bv_length, hdS_length]; exact size47)) rfl ⟨rfl, J.out⟩
end Go.Proofs.Ytcfkoglehjkkdaa

/- headers, of the document: Sealed. -/
import Derived.Test.YtcfkoglehjkkdaaP05
import Derived.Test.YtcfkoglehjkkdaaP10
import Derived.Test.YtcfkoglehjkkdaaP07
namespace Go.Proofs.Ytcfkoglehjkkdaa
open Go.RowKit
attribute [local go_sem] Oper.semAt_some
attribute [local go_sem] run_store_bv run_store_wc run_store_bv_drew run_store_wc_drew
def lenV : Value → Nat
  | .slice _ n _ => n
  | _ => 0
/-- the first so many of 512 bytes, and noughts -/
def mixS (s : List UInt8) (k : Nat) : List UInt8 := s.take k ++ List.replicate (512 - k) 0
set_option maxRecDepth 8000 in
theorem mixS_length (s : List UInt8) (hs : s.length = 512) (k : Nat) (h : k ≤ 512) : (mixS s k).length = 512 := by simp [mixS, hs]; omega
set_option maxRecDepth 8000 in
theorem mixS_zero (s : List UInt8) : mixS s 0 = zs := by simp [mixS, zs]
set_option maxRecDepth 8000 in
theorem mixS_full (s : List UInt8) (hs : s.length = 512) : mixS s 512 = s := by
  unfold mixS
  rw [← hs, List.take_length, Nat.sub_self, List.replicate_zero, List.append_nil]
set_option maxRecDepth 8000 in
theorem mixS_set (s : List UInt8) (hs : s.length = 512) (k : Nat) (h : k < s.length) : (bv (mixS s k)).toArray.setIfInBounds k (.int .u8 ((s[k]).toNat : Int)) = (bv (mixS s (k + 1))).toArray := by
  have e : (mixS s k).set k s[k] = mixS s (k + 1) := by
    unfold mixS
    rw [List.set_append_right _ _ (by simp; omega), List.length_take, Nat.min_eq_left (Nat.le_of_lt h), Nat.sub_self, show 512 - k = (512 - (k + 1)) + 1 by omega, List.replicate_succ, List.set_cons_zero, List.take_succ_eq_append_getElem h, List.append_assoc]
    rfl
  rw [List.setIfInBounds_toArray, ← e]
  congr 1
  simp [bv, List.map_set]
set_option maxRecDepth 100000 in
set_option maxHeartbeats 4000000 in
theorem sl8_any {w : World} {v : Value} {n base : Nat} {l : List UInt8} (ho : w.ownsRow base 5 1 v n (bv l)) (hb : base ≤ w.heap.size) (hn : n ≤ 508) :
    Calls Try.prog 21 #[v] w fun e w' => e = .returned (sec (S.sealN (l ++ List.replicate (508 - n) 0))) ∧ Below base w w' := by
  have hz := z47
  have HL := Lib.hid (show l.length = n by have := ho.1; rw [bv_length] at this; simpa using this)
  have HO := Lib.hid (ho.alloc (.cells (bv zs).toArray 56))
  have NB := Lib.hid (show ∀ g, v.ownBlock = some g → g ≠ w.heap.size from fun g hg => by have := (ho.lt g hg).2; omega)
  have R0 := Lib.hid (Blk.new w 56 (bv zs).toArray)
  have BL := Lib.hid ((Below.refl base w).alloc hb (.cells (bv zs).toArray 56))
  have HB := Lib.hid hb
  clear ho hb
  go_enter Try.func21, Try.ntmps21
  go_wp2
  have HG0 := Lib.hid (show base ≤ w.heap.size from HB.out)
  generalize w.alloc (.cells (bv zs).toArray 56) = W0 at HO R0 BL ⊢
  generalize w.heap.size = g0 at NB R0 HG0 ⊢
  go_loopw [0] (fun u wr => ∃ j : Nat, n ≤ j ∧ j ≤ 508 ∧ wr.ownsRow base 5 1 u j (bv (l ++ List.replicate (j - n) 0)) ∧ (∀ g, u.ownBlock = some g → g ≠ g0) ∧ Blk wr g0 56 (bv zs).toArray ∧ Below base w wr) (fun u _ => 508 - lenV u)
  case atStart => exact ⟨n, Nat.le_refl _, hn, by rw [Nat.sub_self, List.replicate_zero, List.append_nil]; exact HO.out, NB.out, R0.out, BL.out⟩
  case round =>
    obtain ⟨j, h1, h2, hown, hne, hblk, hbel⟩ := hrel
    obtain ⟨A, cp, rfl⟩ := own_shape hown
    clear HO NB R0 BL
    have HWN := Lib.hid hown
    have NE := Lib.hid hne
    have R0 := Lib.hid hblk
    have BL := Lib.hid hbel
    clear hown hne hblk hbel
    by_cases hlt : j < 508
    · have i2 : (j : Int) < 508 := by omega
      have HBW := Lib.hid (show base ≤ wr.heap.size from Nat.le_trans HB.out BL.out.size)
      go_wp2_with (at_builtin; refine wpList_append_bytes _ rfl _ _ _ rfl Try.underlying22 S.infoU8 rfl (HWN.out.alloc _) rfl (rd_new _ 0 _ rfl) rfl (by omega) (Nat.le_trans HBW.out (by simp)) ?_; intro v' w1 hown1 hg1 hat1)
      obtain ⟨A', c', rfl⟩ := own_shape hown1
      have hb1 := below_append (BL.out.alloc HBW.out (.cells #[.int .u8 0] 5)) (HWN.out.alloc (.cells #[.int .u8 0] 5)) hg1 (Nat.le_refl _) (Nat.le_trans HBW.out (by simp))
      have R1 := Lib.hid (show Blk w1 g0 56 (bv zs).toArray from (hg1.block g0 (R0.out.alloc _).lt (fun e => NE.out g0 e.symm rfl)).trans (R0.out.alloc _))
      have NE1 := Lib.hid (show ∀ g, (Value.slice A' (j + 1) c').ownBlock = some g → g ≠ g0 from fun g hg => by
        rcases hat1 with e | e
        · exact NE.out g (e ▸ hg)
        · rw [e] at hg
          injection hg with hg
          have := R0.out.lt
          simp at hg
          omega)
      have HE := Lib.hid (show l ++ List.replicate (j - n) 0 ++ [0] = l ++ List.replicate (j + 1 - n) (0 : UInt8) by rw [show j + 1 - n = (j - n) + 1 by omega, List.replicate_succ', List.append_assoc])
      go_roundw
      case rel => exact ⟨j + 1, by omega, by omega, by rw [← HE.out]; exact hown1, NE1.out, R1.out, hb1⟩
      case measure => simp [lenV]; omega
    · obtain rfl : j = 508 := by omega
      have i2 : ¬ ((508 : Nat) : Int) < 508 := by decide
      have RD := Lib.hid (Rd.of_own HWN.out)
      have LN := Lib.hid (show (l ++ List.replicate (508 - n) (0 : UInt8)).length = 508 by rw [List.length_append, List.length_replicate, HL.out]; omega)
      obtain ⟨s, hs⟩ : ∃ s, s = S.sealN (l ++ List.replicate (508 - n) (0 : UInt8)) := ⟨_, rfl⟩
      go_wp2_with fail
      refine (S.rseal_any A 508 cp _ wr LN.out RD.out (by omega)).mono ?_
      rw [← hs]
      have HS := Lib.hid hs
      clear hs
      rintro e w1 ⟨v1, rfl, ho1, hb1⟩
      have LS := Lib.hid (show s.length = 512 by have := ho1.1; rw [bv_length] at this; simpa using this)
      obtain ⟨gs, c1, rfl, _⟩ := own_some ho1 (by omega)
      have RS := Lib.hid ((Rd.of_own ho1).alloc (.cells (bv zs).toArray 56))
      have GS := Lib.hid (show gs < w1.heap.size from (ho1.lt gs rfl).2)
      have R1 := Lib.hid ((R0.out.below hb1 R0.out.lt).alloc (.cells (bv zs).toArray 56))
      have B1 := Lib.hid ((BL.out.trans (hb1.mono (Nat.le_trans HB.out BL.out.size))).alloc (Nat.le_trans HB.out (Nat.le_trans BL.out.size hb1.size)) (.cells (bv zs).toArray 56))
      have K4 := Lib.hid (Blk.new w1 56 (bv zs).toArray)
      have G4 := Lib.hid (show base ≤ w1.heap.size ∧ g0 < w1.heap.size from ⟨Nat.le_trans HB.out (Nat.le_trans BL.out.size hb1.size), Nat.lt_of_lt_of_le R0.out.lt hb1.size⟩)
      clear ho1 hb1 R0 BL HWN NE RD
      go_wp2_with fail
      generalize w1.alloc (.cells (bv zs).toArray 56) = W2 at RS R1 B1 K4 ⊢
      generalize w1.heap.size = g4 at GS K4 G4 ⊢
      clear hz
      go_loopw [5] (fun i wr => ∃ k : Nat, k ≤ 512 ∧ i = .int .i64 (k : Int) ∧ Blk wr g4 56 (bv (mixS s k)).toArray ∧ Blk wr g0 56 (bv zs).toArray ∧ Rd wr (some ⟨gs, 0, none⟩) s ∧ Below base w wr) (fun i _ => 512 - (intOf i).toNat)
      case atStart => exact ⟨0, Nat.zero_le _, rfl, by rw [mixS_zero]; exact K4.out, R1.out, RS.out, B1.out⟩
      case round =>
        obtain ⟨k, hk, rfl, hb4, hb0, hrd, hbb⟩ := hrel
        clear K4 R1 RS B1
        have K4 := Lib.hid hb4
        have R1 := Lib.hid hb0
        have RS := Lib.hid hrd
        have B1 := Lib.hid hbb
        clear hb0 hrd hbb
        by_cases hlt : k < 512
        · have i3 : (0 : Int) ≤ (k : Int) := by omega
          have i4 : (k : Int) < 512 := by omega
          have hks : k < s.length := by rw [LS.out]; exact hlt
          have FS := Lib.hid (mixS_set s LS.out k hks)
          obtain ⟨b, off, e, hc⟩ := RS.out k hks
          injection e with e
          injection e with e1 e2
          subst e1 e2
          rw [Nat.zero_add] at hc
          have hfr := hb4.frozen k
          have hcell := (hb4.cell k).trans (show (bv (mixS s k)).toArray[k]? = some ((bv (mixS s k)).toArray[k]'(by rw [List.size_toArray, bv_length, mixS_length s LS.out k hk]; exact hlt)) from Array.getElem?_eq_getElem _)
          generalize (bv (mixS s k)).toArray[k]'(by rw [List.size_toArray, bv_length, mixS_length s LS.out k hk]; exact hlt) = u at hcell
          generalize s[k] = y at hc FS
          clear hb4
          go_wp2
          go_roundw
          case rel =>
            refine ⟨k + 1, by omega, by go_num, by rw [← FS.out]; exact K4.out.set_ k _, R1.out.far (by have := G4.out.2; show g0 ≠ g4; omega) _, fun j hj => ?_, B1.out.setCell G4.out.1 _⟩
            obtain ⟨b', off', e', hc'⟩ := RS.out j hj
            injection e' with e'
            injection e' with e1 e2
            subst e1 e2
            exact ⟨gs, 0, rfl, (World.cell?_of_block (a := ⟨gs, 0 + j, none⟩) (Below.heap_setCell _ _ _ gs (by have := GS.out; show gs ≠ g4; omega))).trans hc'⟩
          case measure => simp [intOf]; omega
        · obtain rfl : k = 512 := by omega
          have i4 : ¬ ((512 : Nat) : Int) < 512 := by decide
          rw [mixS_full s LS.out] at K4
          have hst := run_store_all (P := Try.prog) (bv s) (bv zs) (by rw [bv_length, bv_length, LS.out, zs_length]) (bv_one _) R1.out
          have J0 := Lib.hid (R1.out.setRow (bv s).toArray)
          have J := Lib.hid (below_setRow B1.out HG0.out (bv s).toArray)
          have hsl : (bv s).length = 512 := by rw [bv_length, LS.out]
          clear hb4
          go_wp2_with (refine wpList_load47 rfl (.tmp 4) rfl g4 0 rfl s K4.out.rangeAt LS.out ?_)
          exact bodyPost_ret (results_cell_row rfl _ _ g0 56 _ (0, 0) _ rfl J0.out Try.underlying56 rfl (by rw [List.size_toArray, bv_length, LS.out]; exact size47)) rfl ⟨by rw [← HS.out], J.out⟩
end Go.Proofs.Ytcfkoglehjkkdaa

/- headers: the sector of a header that may be. -/
import Derived.Test.YtcfkoglehjkkdaaHFld
namespace Go.Proofs.Ytcfkoglehjkkdaa
open Go.RowKit
attribute [local go_sem] Oper.semAt_some
theorem own_grown {w w' : World} {base n : Nat} {v : Value} {xs : List Value} (ho : w.ownsRow base 5 1 v n xs) (hg : w.grownBy w' v.ownBlock) (hb : base ≤ w.heap.size) : Below base w w' :=
  (Below.refl base w).grown hg hb (fun k hk => (ho.lt k hk).1)
/-- a block of functions is none of bytes -/
theorem own_blk6 {w w' : World} {base n g : Nat} {v : Value} {xs : List Value} {cs : Array Value} (ho : w.ownsRow base 5 1 v n xs) (h : Blk w g 127 cs) (hg : w.grownBy w' v.ownBlock) : Blk w' g 127 cs :=
  (hg.block g h.lt (fun e => by
    rcases ho.2 with ⟨hv, _⟩ | ⟨g', _, _, hv, _, hb, _⟩
    · rw [hv] at e; cases e
    · rw [hv] at e
      injection e with e
      have e : g = g' := e
      subst e
      unfold Blk at h
      rw [hb] at h
      injection h with h
      injection h with _ ht
      cases ht)).trans h
set_option maxRecDepth 100000 in
set_option maxHeartbeats 2000000 in
theorem fields_any (w : World) : Calls Try.prog 60 #[] w fun e w' => e = .returned (.slice (some ⟨w.heap.size, 0, none⟩) 6 6) ∧ Blk w' w.heap.size 127 #[.func (.func 72) #[] #[], .func (.func 73) #[] #[], .func (.func 75) #[] #[], .func (.func 76) #[] #[], .func (.func 77) #[] #[], .func (.func 78) #[] #[]] ∧ Below w.heap.size w w' := by
  go_enter Try.func60, Try.ntmps60
  go_wp2
  go_ret
  exact ⟨rfl, Blk.new _ _ _, (Below.refl _ _).alloc (Nat.le_refl _) _⟩
set_option maxRecDepth 8000 in
theorem run_arr (w : World) (a : Option Addr) (n c : Nat) (h : 512 ≤ n) : (Instr.arrayAt 56 (.slice a n c)).run Try.prog w = .ok (.pointer a) w := by
  have hu := run_underlying (P := Try.prog) Try.underlying56 w
  simp only [Instr.arrayAt, Sem.run_bind, hu, Result.andThen_ok]
  rw [if_neg (by omega)]
  rfl
set_option maxRecDepth 100000 in
set_option maxHeartbeats 4000000 in
theorem sector_any (e a o : Nat) (he : (e : Int) ≤ 9223372036854775807) (ha : (a : Int) ≤ 65535) (ho : (o : Int) ≤ 65535) (w : World) :
    Calls Try.prog 38 #[Hd.val ⟨e, a, o⟩] w fun r w' => r = .returned (sec (hdS e a o)) ∧ Below w.heap.size w w' := by
  have hz := z47
  have HE := Lib.hid he
  have HA := Lib.hid ha
  have HO := Lib.hid ho
  obtain ⟨zz, hzz⟩ : ∃ zz : List UInt8, zz = List.replicate 484 0 := ⟨_, rfl⟩
  have HZ := Lib.hid (show zz.length = 484 by rw [hzz, List.length_replicate])
  have HZF := Lib.hid (show FldAt 77 ⟨e, a, o⟩ zz 484 from hzz ▸ fld5 _)
  have HL := Lib.hid (show hdL e a o = [67, 72, 72, 68] ++ S.bytesLE 8 e ++ S.bytesLE 2 a ++ S.bytesLE 2 o ++ zz ++ S.bytesLE 8 e by rw [hzz]; rfl)
  have OBB := Lib.hid ((Below.refl w.heap.size w).alloc (Nat.le_refl _) (.cells (Hd.cs ⟨e, a, o⟩).toArray 28) |>.alloc (by simp) (.cells (bv zs).toArray 56))
  have B0 := Lib.hid ((Blk.new w 28 (Hd.cs ⟨e, a, o⟩).toArray).alloc (.cells (bv zs).toArray 56))
  have B1 := Lib.hid (blk_new1 w (.cells (Hd.cs ⟨e, a, o⟩).toArray 28) 56 (bv zs).toArray)
  clear he ha ho hzz
  go_enter Try.func38, Try.ntmps38
  go_wp2_with fail
  generalize (w.alloc (.cells (Hd.cs ⟨e, a, o⟩).toArray 28)).alloc (.cells (bv zs).toArray 56) = W at OBB B0 B1 ⊢
  refine (fields_any W).mono ?_
  rintro r W0 ⟨rfl, h6, hb⟩
  have F0 := Lib.hid h6
  have A0 := Lib.hid (OBB.out.trans (hb.mono OBB.out.size))
  have K0 := Lib.hid (B0.out.below hb B0.out.lt)
  have Z0 := Lib.hid (B1.out.below hb B1.out.lt)
  have R0 := Lib.hid (show W0.ownsRow W.heap.size 5 1 (.slice none 0 0) 0 (bv []) from World.ownsRow_nil W0 W.heap.size 5 1)
  have SZ0 := Lib.hid hb.size
  have SW := Lib.hid (show w.heap.size + 2 ≤ W.heap.size from B1.out.lt)
  clear h6 hb B0 B1 OBB
  go_wp2_with fail
  refine wp_loop_rounds 7 ?_
  rw [rounds_succ]
  have c0 := (F0.out.cell 0).trans (show _ = some (.func (.func 72) #[] #[]) from rfl)
  go_wp2_with (first
    | (refine wpList_load_mid rfl 28 (.tmp 1) rfl w.heap.size 0 rfl (Hd.cs ⟨e, a, o⟩) _ (Blk.rangeAt (l := Hd.cs ⟨e, a, o⟩) K0.out) Try.underlying28 rfl (size23 _) ?_)
    | (go_at_call 72; refine ((fld1 _) _).mono ?_; rintro r V0 ⟨A', c', rfl, hr, hb⟩; have D0 := Lib.hid hr; have FV0 := Lib.hid (F0.out.below hb F0.out.lt); have AV0 := Lib.hid (A0.out.trans (hb.mono A0.out.size)); have KV0 := Lib.hid (K0.out.below hb K0.out.lt); have ZV0 := Lib.hid (Z0.out.below hb Z0.out.lt); have RV0 := Lib.hid (own_blw R0.out hb); have SV0 := Lib.hid (Nat.le_trans SZ0.out hb.size); clear hr hb c0)
    | (at_builtin; refine wpList_append_bytes _ rfl (.tmp 12) (.tmp 15) _ rfl Try.underlying22 S.infoU8 rfl RV0.out rfl D0.out (by rfl) (by omega) SV0.out ?_; intro v1 W1 hown hg hat; simp only [Nat.zero_add, List.nil_append] at hown; have R1 := Lib.hid hown; have BG := own_grown RV0.out hg SV0.out; have SZ1 := Lib.hid (Nat.le_trans SV0.out hg.size); have A1 := Lib.hid (AV0.out.trans (BG.mono (by have := SW.out; omega))); have K1 := Lib.hid (KV0.out.below BG (by have := SW.out; omega)); have Z1 := Lib.hid (ZV0.out.below BG (by have := SW.out; omega)); have F1 := Lib.hid (own_blk6 RV0.out FV0.out hg); clear hown hg hat BG))
  rw [rounds_succ]
  have c1 := (F1.out.cell 1).trans (show _ = some (.func (.func 73) #[] #[]) from rfl)
  go_wp2_with (first
    | (refine wpList_load_mid rfl 28 (.tmp 1) rfl w.heap.size 0 rfl (Hd.cs ⟨e, a, o⟩) _ (Blk.rangeAt (l := Hd.cs ⟨e, a, o⟩) K1.out) Try.underlying28 rfl (size23 _) ?_)
    | (go_at_call 73; refine ((fld2 e a o HE.out) _).mono ?_; rintro r V1 ⟨A', c', rfl, hr, hb⟩; have D1 := Lib.hid hr; have FV1 := Lib.hid (F1.out.below hb F1.out.lt); have AV1 := Lib.hid (A1.out.trans (hb.mono A1.out.size)); have KV1 := Lib.hid (K1.out.below hb K1.out.lt); have ZV1 := Lib.hid (Z1.out.below hb Z1.out.lt); have RV1 := Lib.hid (own_blw R1.out hb); have SV1 := Lib.hid (Nat.le_trans SZ1.out hb.size); clear hr hb c1)
    | (at_builtin; refine wpList_append_bytes _ rfl (.tmp 12) (.tmp 15) _ rfl Try.underlying22 S.infoU8 rfl RV1.out rfl D1.out (by exact S.bytesLE_length _ _) (by omega) SV1.out ?_; intro v2 W2 hown hg hat; simp only [Nat.reduceAdd] at hown; have R2 := Lib.hid hown; have BG := own_grown RV1.out hg SV1.out; have SZ2 := Lib.hid (Nat.le_trans SV1.out hg.size); have A2 := Lib.hid (AV1.out.trans (BG.mono (by have := SW.out; omega))); have K2 := Lib.hid (KV1.out.below BG (by have := SW.out; omega)); have Z2 := Lib.hid (ZV1.out.below BG (by have := SW.out; omega)); have F2 := Lib.hid (own_blk6 RV1.out FV1.out hg); clear hown hg hat BG))
  rw [rounds_succ]
  have c2 := (F2.out.cell 2).trans (show _ = some (.func (.func 75) #[] #[]) from rfl)
  go_wp2_with (first
    | (refine wpList_load_mid rfl 28 (.tmp 1) rfl w.heap.size 0 rfl (Hd.cs ⟨e, a, o⟩) _ (Blk.rangeAt (l := Hd.cs ⟨e, a, o⟩) K2.out) Try.underlying28 rfl (size23 _) ?_)
    | (go_at_call 75; refine ((fld3 e a o HA.out) _).mono ?_; rintro r V2 ⟨A', c', rfl, hr, hb⟩; have D2 := Lib.hid hr; have FV2 := Lib.hid (F2.out.below hb F2.out.lt); have AV2 := Lib.hid (A2.out.trans (hb.mono A2.out.size)); have KV2 := Lib.hid (K2.out.below hb K2.out.lt); have ZV2 := Lib.hid (Z2.out.below hb Z2.out.lt); have RV2 := Lib.hid (own_blw R2.out hb); have SV2 := Lib.hid (Nat.le_trans SZ2.out hb.size); clear hr hb c2)
    | (at_builtin; refine wpList_append_bytes _ rfl (.tmp 12) (.tmp 15) _ rfl Try.underlying22 S.infoU8 rfl RV2.out rfl D2.out (by exact S.bytesLE_length _ _) (by omega) SV2.out ?_; intro v3 W3 hown hg hat; simp only [Nat.reduceAdd] at hown; have R3 := Lib.hid hown; have BG := own_grown RV2.out hg SV2.out; have SZ3 := Lib.hid (Nat.le_trans SV2.out hg.size); have A3 := Lib.hid (AV2.out.trans (BG.mono (by have := SW.out; omega))); have K3 := Lib.hid (KV2.out.below BG (by have := SW.out; omega)); have Z3 := Lib.hid (ZV2.out.below BG (by have := SW.out; omega)); have F3 := Lib.hid (own_blk6 RV2.out FV2.out hg); clear hown hg hat BG))
  rw [rounds_succ]
  have c3 := (F3.out.cell 3).trans (show _ = some (.func (.func 76) #[] #[]) from rfl)
  go_wp2_with (first
    | (refine wpList_load_mid rfl 28 (.tmp 1) rfl w.heap.size 0 rfl (Hd.cs ⟨e, a, o⟩) _ (Blk.rangeAt (l := Hd.cs ⟨e, a, o⟩) K3.out) Try.underlying28 rfl (size23 _) ?_)
    | (go_at_call 76; refine ((fld4 e a o HO.out) _).mono ?_; rintro r V3 ⟨A', c', rfl, hr, hb⟩; have D3 := Lib.hid hr; have FV3 := Lib.hid (F3.out.below hb F3.out.lt); have AV3 := Lib.hid (A3.out.trans (hb.mono A3.out.size)); have KV3 := Lib.hid (K3.out.below hb K3.out.lt); have ZV3 := Lib.hid (Z3.out.below hb Z3.out.lt); have RV3 := Lib.hid (own_blw R3.out hb); have SV3 := Lib.hid (Nat.le_trans SZ3.out hb.size); clear hr hb c3)
    | (at_builtin; refine wpList_append_bytes _ rfl (.tmp 12) (.tmp 15) _ rfl Try.underlying22 S.infoU8 rfl RV3.out rfl D3.out (by exact S.bytesLE_length _ _) (by omega) SV3.out ?_; intro v4 W4 hown hg hat; simp only [Nat.reduceAdd] at hown; have R4 := Lib.hid hown; have BG := own_grown RV3.out hg SV3.out; have SZ4 := Lib.hid (Nat.le_trans SV3.out hg.size); have A4 := Lib.hid (AV3.out.trans (BG.mono (by have := SW.out; omega))); have K4 := Lib.hid (KV3.out.below BG (by have := SW.out; omega)); have Z4 := Lib.hid (ZV3.out.below BG (by have := SW.out; omega)); have F4 := Lib.hid (own_blk6 RV3.out FV3.out hg); clear hown hg hat BG))
  rw [rounds_succ]
  have c4 := (F4.out.cell 4).trans (show _ = some (.func (.func 77) #[] #[]) from rfl)
  go_wp2_with (first
    | (refine wpList_load_mid rfl 28 (.tmp 1) rfl w.heap.size 0 rfl (Hd.cs ⟨e, a, o⟩) _ (Blk.rangeAt (l := Hd.cs ⟨e, a, o⟩) K4.out) Try.underlying28 rfl (size23 _) ?_)
    | (go_at_call 77; refine ((HZF.out) _).mono ?_; rintro r V4 ⟨A', c', rfl, hr, hb⟩; have D4 := Lib.hid hr; have FV4 := Lib.hid (F4.out.below hb F4.out.lt); have AV4 := Lib.hid (A4.out.trans (hb.mono A4.out.size)); have KV4 := Lib.hid (K4.out.below hb K4.out.lt); have ZV4 := Lib.hid (Z4.out.below hb Z4.out.lt); have RV4 := Lib.hid (own_blw R4.out hb); have SV4 := Lib.hid (Nat.le_trans SZ4.out hb.size); clear hr hb c4)
    | (at_builtin; refine wpList_append_bytes _ rfl (.tmp 12) (.tmp 15) _ rfl Try.underlying22 S.infoU8 rfl RV4.out rfl D4.out (by exact HZ.out) (by omega) SV4.out ?_; intro v5 W5 hown hg hat; simp only [Nat.reduceAdd] at hown; have R5 := Lib.hid hown; have BG := own_grown RV4.out hg SV4.out; have SZ5 := Lib.hid (Nat.le_trans SV4.out hg.size); have A5 := Lib.hid (AV4.out.trans (BG.mono (by have := SW.out; omega))); have K5 := Lib.hid (KV4.out.below BG (by have := SW.out; omega)); have Z5 := Lib.hid (ZV4.out.below BG (by have := SW.out; omega)); have F5 := Lib.hid (own_blk6 RV4.out FV4.out hg); clear hown hg hat BG))
  rw [rounds_succ]
  have c5 := (F5.out.cell 5).trans (show _ = some (.func (.func 78) #[] #[]) from rfl)
  go_wp2_with (first
    | (refine wpList_load_mid rfl 28 (.tmp 1) rfl w.heap.size 0 rfl (Hd.cs ⟨e, a, o⟩) _ (Blk.rangeAt (l := Hd.cs ⟨e, a, o⟩) K5.out) Try.underlying28 rfl (size23 _) ?_)
    | (go_at_call 78; refine ((fld6 e a o HE.out) _).mono ?_; rintro r V5 ⟨A', c', rfl, hr, hb⟩; have D5 := Lib.hid hr; have FV5 := Lib.hid (F5.out.below hb F5.out.lt); have AV5 := Lib.hid (A5.out.trans (hb.mono A5.out.size)); have KV5 := Lib.hid (K5.out.below hb K5.out.lt); have ZV5 := Lib.hid (Z5.out.below hb Z5.out.lt); have RV5 := Lib.hid (own_blw R5.out hb); have SV5 := Lib.hid (Nat.le_trans SZ5.out hb.size); clear hr hb c5)
    | (at_builtin; refine wpList_append_bytes _ rfl (.tmp 12) (.tmp 15) _ rfl Try.underlying22 S.infoU8 rfl RV5.out rfl D5.out (by exact S.bytesLE_length _ _) (by omega) SV5.out ?_; intro v6 W6 hown hg hat; simp only [Nat.reduceAdd] at hown; have R6 := Lib.hid hown; have BG := own_grown RV5.out hg SV5.out; have SZ6 := Lib.hid (Nat.le_trans SV5.out hg.size); have A6 := Lib.hid (AV5.out.trans (BG.mono (by have := SW.out; omega))); have K6 := Lib.hid (KV5.out.below BG (by have := SW.out; omega)); have Z6 := Lib.hid (ZV5.out.below BG (by have := SW.out; omega)); have F6 := Lib.hid (own_blk6 RV5.out FV5.out hg); clear hown hg hat BG))
  rw [rounds_succ]
  have HLL := Lib.hid (HL.out ▸ hdL_length e a o)
  obtain ⟨A7, c7, rfl⟩ := own_shape R6.out
  have R7 := Lib.hid (Rd.of_own R6.out)
  rw [← HL.out] at R7
  go_wp2_with fail
  refine (S.seal_any A7 508 c7 (hdL e a o) W6 (hdL_length e a o) R7.out (by omega)).mono ?_
  rintro r W7 ⟨v8, rfl, hown, hb⟩
  obtain ⟨A8, c8, rfl⟩ := own_shape hown
  obtain ⟨g8, rfl, hg8, _⟩ := own_addr' hown (by omega)
  have RG := Lib.hid (own_range hown)
  have Z7 := Lib.hid (Z6.out.below hb Z6.out.lt)
  have A8' := Lib.hid (A6.out.trans (hb.mono A6.out.size))
  have hll : (bv (hdS e a o)).length = 512 := by rw [bv_length, hdS_length]
  have hlz : (bv zs).length = 512 := by rw [bv_length, zs_length]
  have hsl := hdS_length e a o
  have hra := fun W : World => run_arr W (some ⟨g8, 0, none⟩) 512 c8 (Nat.le_refl _)
  clear hown hb hg8
  go_wp2_with (first
    | (refine wpList_load47 rfl (.tmp 20) rfl g8 0 rfl (hdS e a o) RG.out hsl ?_)
    | (refine wpList_store_row rfl 56 (.tmp 2) (.tmp 21) rfl (w.heap.size + 1) (bv (hdS e a o)).toArray rfl rfl 56 _ Z7.out (by rw [List.size_toArray, hll]; exact size47) (by rw [List.size_toArray, List.size_toArray, hll, hlz]) (bv_ones8 _) ?_))
  refine bodyPost_ret (results_cell_row (P := Try.prog) rfl _ _ (w.heap.size + 1) 56 _ (0, 0) _ rfl (Z7.out.setRow _) Try.underlying56 rfl (by rw [List.size_toArray, hll]; exact size47)) rfl ⟨rfl, below_setRow A8'.out (by omega) _⟩
end Go.Proofs.Ytcfkoglehjkkdaa

/- headers: Read, where Both and foremost have told. -/
import Derived.Test.YtcfkoglehjkkdaaHBoth
import Derived.Test.YtcfkoglehjkkdaaHOf
import Derived.Test.YtcfkoglehjkkdaaHWr
namespace Go.Proofs.Ytcfkoglehjkkdaa
open Go.RowKit
attribute [local go_sem] Oper.semAt_some
set_option maxRecDepth 8000 in
theorem results_read8 {fn : Func} {p q r : Tmp} (h : fn.results = #[.cell p 28, .tmp q, .tmp r]) (tmps : Array Value) (w : World) (g : Nat) (u : Hd) (hp : tmps.getD p undef = .pointer (some ⟨g, 0, none⟩)) (hg : Blk w g 28 u.cs.toArray) : (results fn tmps).run Try.prog w = .ok (.tuple #[u.val, tmps.getD q undef, tmps.getD r undef]) w := by
  have hp' : tmps[p]?.getD undef = .pointer (some ⟨g, 0, none⟩) := by simpa using hp
  have hl := run_loadVar_row (P := Try.prog) w g 28 28 u.cs.toArray (0, 0) _ hg Try.underlying28 rfl (by kernel_rfl)
  simp [results, h, hp', asAddr, hl]
set_option maxRecDepth 100000 in
set_option maxHeartbeats 4000000 in
theorem hread_any {w : World} {base p : Nat} {pl : Pl} {D2 : Dk} (hbase : ∀ k, w.heap.size ≤ k → ¬ pl.has p k) (h0 h1 : Hd) (b : Bool)
    (bc : ∀ W, Below w.heap.size w W → Calls Try.prog 20 #[.pointer (some ⟨p, 0, none⟩)] W fun r w' => r = .returned (.tuple #[.agg (cs2 h0 h1).toArray, .agg #[.bool true, .bool b], .int .i64 0]) ∧ DiskAt w' base p pl D2 ∧ Fr (pl.has p) W w')
    (k : Nat) (hk : k < 2) (u : Hd) (hu : ∀ W : World, W.rangeAt 0 0 [] → ∀ g, W.rangeAt g 0 (cs2 h0 h1) → W.rangeAt g (k * 3) u.cs)
    (fc : ∀ W : World, Calls Try.prog 45 #[.agg (cs2 h0 h1).toArray, .agg #[.bool true, .bool b], .func (.func 46) #[] #[]] W fun r w' => r = .returned (.tuple #[.int .i64 (k : Int), .bool true]) ∧ Below W.heap.size W w') :
    Calls Try.prog 18 #[.pointer (some ⟨p, 0, none⟩)] w fun r w' => r = .returned (.tuple #[u.val, .int .i64 (k : Int), .int .i64 0]) ∧ DiskAt w' base p pl D2 ∧ Fr (pl.has p) w w' := by
  have hz := z52
  have hz3 := z53
  have hz5 := z23
  have HNH := Lib.hid hbase
  have HBC := Lib.hid bc
  have HFC := Lib.hid fc
  have HU := Lib.hid hu
  have R0 := Lib.hid (Blk.new w 28 hd0.cs.toArray)
  have L0 := Lib.hid ((Below.refl w.heap.size w).alloc (Nat.le_refl _) (.cells hd0.cs.toArray 28))
  have i1 : (0 : Int) ≤ (k : Int) := by omega
  have i2 : (k : Int) < 2 := by omega
  clear hbase bc fc hu
  go_enter Try.func18, Try.ntmps18
  go_wp2_with fail
  refine (HBC.out _ L0.out).mono ?_
  rintro r W1 ⟨rfl, hd, hf⟩
  have D1 := Lib.hid hd
  have F1 := Lib.hid ((Fr.of_below (S := pl.has p) L0.out).trans hf)
  have R1 := Lib.hid (hf.keepBlk R0.out (HNH.out _ (Nat.le_refl _)))
  have GT := Lib.hid (show w.heap.size < W1.heap.size from R1.out.lt)
  clear hd hf R0 L0
  obtain ⟨V0, hV0⟩ : ∃ V, V = (W1.alloc (.cells (cs2 hd0 hd0).toArray 49)).alloc (.cells #[.bool false, .bool false] 50) := ⟨_, rfl⟩
  have P1 := Lib.hid (show Blk V0 W1.heap.size 49 (cs2 hd0 hd0).toArray from by rw [hV0]; exact (Blk.new W1 _ _).alloc _)
  have P2 := Lib.hid (show Blk V0 (W1.heap.size + 1) 50 #[.bool false, .bool false] from by rw [hV0]; exact blk_new1 W1 _ _ _)
  have D2' := Lib.hid (show DiskAt V0 base p pl D2 from by rw [hV0]; exact (D1.out.alloc _).alloc _)
  have F2 := Lib.hid (show Fr (pl.has p) w V0 from by rw [hV0]; exact (F1.out.alloc _).alloc _)
  have R2 := Lib.hid (show Blk V0 w.heap.size 28 hd0.cs.toArray from by rw [hV0]; exact (R1.out.alloc _).alloc _)
  obtain ⟨V1, hV1⟩ : ∃ V, V = V0.setRow W1.heap.size (cs2 h0 h1).toArray := ⟨_, rfl⟩
  obtain ⟨V2, hV2⟩ : ∃ V, V = V1.setRow (W1.heap.size + 1) #[.bool true, .bool b] := ⟨_, rfl⟩
  have f1 : Fr (fun k => k = W1.heap.size) V0 V1 := by rw [hV1]; exact setRow_fr8 _ _ _
  have f2 : Fr (fun k => k = W1.heap.size + 1) V1 V2 := by rw [hV2]; exact setRow_fr8 _ _ _
  have Q1 := Lib.hid (show Blk V1 W1.heap.size 49 (cs2 h0 h1).toArray from by rw [hV1]; exact setRow_heap V0 _ _ _ _ (0, 0) P1.out)
  have Q2 := Lib.hid (f1.keepBlk P2.out (by omega))
  have S1 := Lib.hid (f2.keepBlk Q1.out (by omega))
  have S2 := Lib.hid (show Blk V2 (W1.heap.size + 1) 50 #[.bool true, .bool b] from by rw [hV2]; exact setRow_heap V1 _ _ _ _ (0, 0) Q2.out)
  have D3 := Lib.hid ((D2'.out.fr f1 (fun k hk e => HNH.out k (by have := GT.out; omega) hk)).fr f2 (fun k hk e => HNH.out k (by have := GT.out; omega) hk))
  have F3 := Lib.hid ((F2.out.then_ f1 (fun i hi e => by have := GT.out; omega)).then_ f2 (fun i hi e => by have := GT.out; omega))
  have R3 := Lib.hid (f2.keepBlk (f1.keepBlk R2.out (by have := GT.out; omega)) (by have := GT.out; omega))
  clear f1 f2 D1 F1 R1 D2' F2 R2
  go_wp2_with (first
    | (refine wpList_store_row rfl 49 (.tmp 5) (.tmp 13) rfl W1.heap.size (cs2 h0 h1).toArray rfl rfl 49 (cs2 hd0 hd0).toArray (by rw [← hV0]; exact P1.out) (by kernel_rfl) rfl (cs2_one _ _) ?_; rw [← hV0, ← hV1])
    | (refine wpList_store_row rfl 50 (.tmp 6) (.tmp 14) rfl (W1.heap.size + 1) #[.bool true, .bool b] rfl rfl 50 _ Q2.out (by kernel_rfl) rfl (by simp [Value.oneCell']) ?_; rw [← hV2]; clear hV0 hV1 hV2 P1 P2 Q1 Q2)
    | (refine wpList_load_mid rfl 49 (.tmp 5) rfl W1.heap.size 0 rfl (cs2 h0 h1) _ (Blk.rangeAt (l := cs2 h0 h1) S1.out) Try.underlying49 rfl (size52 _ _) ?_)
    | (refine wpList_load_mid rfl 50 (.tmp 6) rfl (W1.heap.size + 1) 0 rfl [.bool true, .bool b] _ (Blk.rangeAt (l := [.bool true, .bool b]) S2.out) Try.underlying50 rfl (size53 _ _) ?_))
  refine (HFC.out _).mono ?_
  rintro r W4 ⟨rfl, hb⟩
  have T1 := Lib.hid (S1.out.below hb S1.out.lt)
  have D4 := Lib.hid (D3.out.below hb)
  have F4 := Lib.hid (F3.out.below hb)
  have R4 := Lib.hid (R3.out.below hb R3.out.lt)
  clear hb S1 S2 D3 F3 R3
  go_wp2_with (first
    | (refine wpList_load_mid rfl 28 (.tmp 30) rfl W1.heap.size (k * 3) rfl u.cs _ (HU.out W4 (fun j v hv => by simp at hv) _ (Blk.rangeAt (l := cs2 h0 h1) T1.out)) Try.underlying28 rfl (size23 _) ?_)
    | (refine wpList_store_row rfl 28 (.tmp 2) (.tmp 31) rfl w.heap.size u.cs.toArray rfl rfl 28 _ R4.out (by kernel_rfl) rfl (one23 _) ?_))
  exact bodyPost_ret (results_read8 rfl _ _ w.heap.size u rfl (R4.out.setRow _)) rfl ⟨rfl, D4.out.fr (setRow_fr8 _ _ _) (fun k hk e => HNH.out k (by omega) hk), F4.out.then_ (setRow_fr8 _ _ _) (fun i hi e => by omega)⟩
theorem cs2_at0 (h0 h1 : Hd) {W : World} {g : Nat} (h : W.rangeAt g 0 (cs2 h0 h1)) : W.rangeAt g (0 * 3) h0.cs := cs2_fst h
theorem cs2_at1 (h0 h1 : Hd) {W : World} {g : Nat} (h : W.rangeAt g 0 (cs2 h0 h1)) : W.rangeAt g (1 * 3) h1.cs := fun j v hv => by
  have := h (3 + j) v
  rw [Nat.zero_add] at this
  apply this
  unfold cs2
  rw [List.getElem?_append_right (by simp)]
  simpa using hv
end Go.Proofs.Ytcfkoglehjkkdaa

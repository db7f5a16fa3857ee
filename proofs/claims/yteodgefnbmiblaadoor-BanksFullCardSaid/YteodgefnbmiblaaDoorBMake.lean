/- banks: Make. -/
import Derived.Test.YteodgefnbmiblaaDoorBAn
namespace Go.Proofs.YteodgefnbmiblaaDoor
open Go.RowKit
set_option maxRecDepth 100000 in
set_option maxHeartbeats 2000000 in
theorem cl_make_yes {w : World} {base p : Nat} {A : Option Addr} {cap : Nat} {ps : List Nat} {os : List Oj} (h : StAt w base p A cap ps os) (L : List Oj) (xo : Int) (u : Oj) (K : Nat) (i : Int) (hK : w.cell? ⟨K, 0, none⟩ = some (.int .i64 i)) (r : Ky) (hC : ∀ W, Below w.heap.size w W → Calls Tryd.prog 27 #[bkv p xo u, .int .i64 i] W fun e w' => e = .returned r.val ∧ StAt w' base p A cap ps L ∧ Fr (fun k => k ∈ ps) W w') :
    Calls Tryd.prog 26 #[bkv p xo u, .pointer (some ⟨K, 0, none⟩)] w fun e w' => e = .returned r.val ∧ StAt w' base p A cap ps L ∧ Fr (fun k => k ∈ ps) w w' := by
  have hbl := bkc_len p xo u
  have HB := Lib.hid (((Below.refl w.heap.size w).alloc (Nat.le_refl _) (.cells (bkc p xo u).toArray 78)).alloc (by simp) (.cells (kl zk).toArray 33))
  have HK0 := Lib.hid ((Blk.new w 78 (bkc p xo u).toArray).alloc (.cells (kl zk).toArray 33))
  have HZ := Lib.hid (Blk.new_of (w.alloc (.cells (bkc p xo u).toArray 78)) 33 (kl zk).toArray (g := w.heap.size + 1) (by simp))
  have HC := Lib.hid (hC _ HB.out)
  have HSL := Lib.hid (fun k (hk : k ∈ ps) => (h.lt k (.inr (.inr hk))).2)
  have HP := Lib.hid (h.lt p (.inl rfl)).2
  have hK1 : ((w.alloc (.cells (bkc p xo u).toArray 78)).alloc (.cells #[.int .i64 0, .int .i64 0, .int .i64 0, .int .i64 0, .int .i64 0, .int .i64 0] 33)).cell? ⟨K, 0, none⟩ = some (.int .i64 i) := (HB.out.cell (World.block_lt_of_cell? w _ hK)).trans hK
  clear hC h hK
  go_enter Tryd.func26, Tryd.ntmps26
  go_wp2_with (first
    | (show wpList _ _ _ ({ dst := some 4, op := .load _ _, type := _, pos := _, after := _, guard := _ } :: _) _ _; refine wpList_yields (S := fun w' => BkAt w' w.heap.size 0 p xo u) (y_bk (by rfl) (.tmp 2) (by rfl) w.heap.size 0 (by rfl) p xo u (fun _ h => h)) HK0.out.bk ?_)
    | (go_at_call 27; refine HC.out.mono ?_; rintro e w2 ⟨rfl, hs, hf⟩; have S2 := Lib.hid hs; have F2 := Lib.hid ((Fr.of_below HB.out : Fr (fun k => k ∈ ps) w _).trans hf); have Z2 := Lib.hid (show Blk w2 (w.heap.size + 1) _ _ from (hf.block _ HZ.out.lt (fun hm => by have := (HSL.out _ hm); omega)).trans HZ.out); clear hs hf)
    | (refine wpList_store_row rfl 33 (.tmp 3) (.tmp 6) rfl (w.heap.size + 1) (kl r).toArray rfl rfl 33 (kl zk).toArray Z2.out size30 rfl (all_one (kl_one r)) ?_))
  refine bodyPost_ret (res_1 rfl _ _ (w.heap.size + 1) _ rfl (load_key r (Z2.out.setRow _))) rfl ⟨rfl, ?_⟩
  exact ⟨S2.out.keep fun k hk => setRow_other _ _ _ _ (fun e => S2.out.blk_ne Z2.out (by decide) (by have := HP.out; omega) (e ▸ hk)), F2.out.then_ (setRow_fr _ _ _) (fun i hi he => by omega)⟩
set_option maxRecDepth 100000 in
set_option maxHeartbeats 2000000 in
theorem cl_make_no {w : World} {base p : Nat} {A : Option Addr} {cap : Nat} {ps : List Nat} {os : List Oj} (h : StAt w base p A cap ps os) (L : List Oj) (xo : Int) (u : Oj) (K : Nat) (i : Int) (hK : w.cell? ⟨K, 0, none⟩ = some (.int .i64 i)) (n : Int) (hC : ∀ W, Below w.heap.size w W → Calls Tryd.prog 27 #[bkv p xo u, .int .i64 i] W fun e w' => e = .panicked (erc n) ∧ StAt w' base p A cap ps L ∧ Fr (fun k => k ∈ ps) W w') :
    Calls Tryd.prog 26 #[bkv p xo u, .pointer (some ⟨K, 0, none⟩)] w fun e w' => e = .panicked (erc n) ∧ StAt w' base p A cap ps L ∧ Fr (fun k => k ∈ ps) w w' := by
  have hbl := bkc_len p xo u
  have HB := Lib.hid (((Below.refl w.heap.size w).alloc (Nat.le_refl _) (.cells (bkc p xo u).toArray 78)).alloc (by simp) (.cells (kl zk).toArray 33))
  have HK0 := Lib.hid ((Blk.new w 78 (bkc p xo u).toArray).alloc (.cells (kl zk).toArray 33))
  have HZ := Lib.hid (Blk.new_of (w.alloc (.cells (bkc p xo u).toArray 78)) 33 (kl zk).toArray (g := w.heap.size + 1) (by simp))
  have HC := Lib.hid (hC _ HB.out)
  have HSL := Lib.hid (fun k (hk : k ∈ ps) => (h.lt k (.inr (.inr hk))).2)
  have HP := Lib.hid (h.lt p (.inl rfl)).2
  have hK1 : ((w.alloc (.cells (bkc p xo u).toArray 78)).alloc (.cells #[.int .i64 0, .int .i64 0, .int .i64 0, .int .i64 0, .int .i64 0, .int .i64 0] 33)).cell? ⟨K, 0, none⟩ = some (.int .i64 i) := (HB.out.cell (World.block_lt_of_cell? w _ hK)).trans hK
  clear hC h hK
  go_enter Tryd.func26, Tryd.ntmps26
  go_wp2_with (first
    | (show wpList _ _ _ ({ dst := some 4, op := .load _ _, type := _, pos := _, after := _, guard := _ } :: _) _ _; refine wpList_yields (S := fun w' => BkAt w' w.heap.size 0 p xo u) (y_bk (by rfl) (.tmp 2) (by rfl) w.heap.size 0 (by rfl) p xo u (fun _ h => h)) HK0.out.bk ?_)
    | (go_at_call 27; refine HC.out.mono ?_; rintro e w2 ⟨rfl, hs, hf⟩; have S2 := Lib.hid hs; have F2 := Lib.hid ((Fr.of_below HB.out : Fr (fun k => k ∈ ps) w _).trans hf); have Z2 := Lib.hid (show Blk w2 (w.heap.size + 1) _ _ from (hf.block _ HZ.out.lt (fun hm => by have := (HSL.out _ hm); omega)).trans HZ.out); clear hs hf))
  exact ⟨rfl, rfl, S2.out, F2.out⟩
section
variable {w : World} {base p : Nat} {A : Option Addr} {cap : Nat} {ps : List Nat} {os : List Oj}
set_option maxRecDepth 8000 in
theorem bmake_all (h : StAt w base p A cap ps os) (ho : okAll os.length os) (hn : 0 < os.length) (hN : os.length ≤ 64) (hT : TabB base w) (x : Ky) (kind : Int) :
    Calls Tryd.prog 10 #[pv p, x.val, .int .i64 kind] w fun e w' => e = .returned (.tuple #[(mkA os x kind).2.1.val, .int .i64 (mkA os x kind).2.2]) ∧ StAt w' base p A cap ps (mkA os x kind).1 ∧ Fr (fun k => k ∈ ps) w w' := by
  have hTB : ∀ {W}, Below w.heap.size w W → TabB base W := fun hW => hT.up h hW
  by_cases hE : bnkE os x = 0
  · obtain ⟨j, u, a, b, d⟩ := bnkE_d hE
    by_cases hk : kind = 1 ∨ kind = 2
    · cases hf : fnd os a (b + 1 - a) with
      | some i =>
        rw [mkA_some d hk hf]
        exact exp_make_s h _ x kind _ _ fun W K hW hK => bface_make_yes (h.below hW) _ x _ K (fun V hV => bask_d ((h.below hW).below hV) hn (hTB hW |>.up (h.below hW) hV).tab d) _ fun V hV => cl_make_yes ((h.below hW).below hV) _ x.o u K kind ((hV.cell (World.block_lt_of_cell? W _ hK)).trans hK) _ fun U hU => made_some (((h.below hW).below hV).below hU) ho ((hTB hW |>.up (h.below hW) hV).up ((h.below hW).below hV) hU) d hN kind hk hf
      | none =>
        rw [mkA_none d hk hf]
        exact exp_make_s h _ x kind _ _ fun W K hW hK => bface_make_no (h.below hW) _ x _ K (fun V hV => bask_d ((h.below hW).below hV) hn (hTB hW |>.up (h.below hW) hV).tab d) _ fun V hV => cl_make_no ((h.below hW).below hV) _ x.o u K kind ((hV.cell (World.block_lt_of_cell? W _ hK)).trans hK) _ fun U hU => made_none (((h.below hW).below hV).below hU) ho ((hTB hW |>.up (h.below hW) hV).up ((h.below hW).below hV) hU) d hN kind hk hf
    · rw [mkA_arg hE hk]
      exact exp_make_s h _ x kind _ _ fun W K hW hK => bface_make_no (h.below hW) _ x _ K (fun V hV => bask_d ((h.below hW).below hV) hn (hTB hW |>.up (h.below hW) hV).tab d) _ fun V hV => cl_make_no ((h.below hW).below hV) _ x.o u K kind ((hV.cell (World.block_lt_of_cell? W _ hK)).trans hK) _ fun U hU => (made_arg x.o u kind (fun e => hk (.inl e)) (fun e => hk (.inr e))).mono fun e w' q => ⟨q.1, (((h.below hW).below hV).below hU).below q.2, Fr.of_below q.2⟩
  · rw [mkA_e kind hE]
    refine (exp_make_b (pv p) x kind zk _ fun W K hW hK => bface_make_ask (pv p) x _ K fun V hV => bask_e ((h.below hW).below hV) hn (hTB hW |>.up (h.below hW) hV).tab x hE).mono ?_
    rintro e w' ⟨h1, h2⟩
    exact ⟨h1, h.below h2, Fr.of_below h2⟩
end
end Go.Proofs.YteodgefnbmiblaaDoor

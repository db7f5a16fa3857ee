/- banks: tried: what is done on a copy is laid into the store, or left. -/
import Derived.Test.YteodgefnbmiblaaDoorBSp
import Derived.Test.YteodgefnbmiblaaDoorBPat
namespace Go.Proofs.YteodgefnbmiblaaDoor
open Go.RowKit
set_option maxRecDepth 8000 in
theorem bkc_set (p q : Nat) (x : Int) (u : Oj) : (bkc p x u).toArray.setIfInBounds 164 (pv q) = (bkc q x u).toArray := by
  simp only [bkc, List.setIfInBounds_toArray]
  congr 1
  rw [List.set_append_right _ _ (by rw [u.len]; omega), u.len]
  rfl
-- the closure that splits the copy
set_option maxRecDepth 100000 in
set_option maxHeartbeats 2000000 in
theorem cl2_yes {w : World} {base p : Nat} {A : Option Addr} {cap : Nat} {ps : List Nat} {os : List Oj} (h : StAt w base p A cap ps os) (L : List Oj) (xo : Int) (u : Oj) (K : Nat) (i : Int) (hK : w.cell? ⟨K, 0, none⟩ = some (.int .i64 i)) (r : Ky) (hC : ∀ W, Below w.heap.size w W → Calls Tryd.prog 37 #[bkv p xo u, .int .i64 i] W fun e w' => e = .returned r.val ∧ StAt w' base p A cap ps L ∧ Fr (fun k => k ∈ ps) W w') :
    Calls Tryd.prog 36 #[bkv p xo u, .pointer (some ⟨K, 0, none⟩)] w fun e w' => e = .returned r.val ∧ StAt w' base p A cap ps L ∧ Fr (fun k => k ∈ ps) w w' := by
  have hbl := bkc_len p xo u
  have HB := Lib.hid (((Below.refl w.heap.size w).alloc (Nat.le_refl _) (.cells (bkc p xo u).toArray 78)).alloc (by simp) (.cells (kl zk).toArray 33))
  have HK0 := Lib.hid ((Blk.new w 78 (bkc p xo u).toArray).alloc (.cells (kl zk).toArray 33))
  have HZ := Lib.hid (Blk.new_of (w.alloc (.cells (bkc p xo u).toArray 78)) 33 (kl zk).toArray (g := w.heap.size + 1) (by simp))
  have HC := Lib.hid (hC _ HB.out)
  have HSL := Lib.hid (fun k (hk : k ∈ ps) => (h.lt k (.inr (.inr hk))).2)
  have HP := Lib.hid (h.lt p (.inl rfl)).2
  have hK1 : ((w.alloc (.cells (bkc p xo u).toArray 78)).alloc (.cells #[.int .i64 0, .int .i64 0, .int .i64 0, .int .i64 0, .int .i64 0, .int .i64 0] 33)).cell? ⟨K, 0, none⟩ = some (.int .i64 i) := (HB.out.cell (World.block_lt_of_cell? w _ hK)).trans hK
  clear hC h hK
  go_enter Tryd.func36, Tryd.ntmps36
  go_wp2_with (first
    | (show wpList _ _ _ ({ dst := some 4, op := .load _ _, type := _, pos := _, after := _, guard := _ } :: _) _ _; refine wpList_yields (S := fun w' => BkAt w' w.heap.size 0 p xo u) (y_bk (by rfl) (.tmp 2) (by rfl) w.heap.size 0 (by rfl) p xo u (fun _ h => h)) HK0.out.bk ?_)
    | (go_at_call 37; refine HC.out.mono ?_; rintro e w2 ⟨rfl, hs, hf⟩; have S2 := Lib.hid hs; have F2 := Lib.hid ((Fr.of_below HB.out : Fr (fun k => k ∈ ps) w _).trans hf); have Z2 := Lib.hid (show Blk w2 (w.heap.size + 1) _ _ from (hf.block _ HZ.out.lt (fun hm => by have := (HSL.out _ hm); omega)).trans HZ.out); clear hs hf)
    | (refine wpList_store_row rfl 33 (.tmp 3) (.tmp 6) rfl (w.heap.size + 1) (kl r).toArray rfl rfl 33 (kl zk).toArray Z2.out size30 rfl (all_one (kl_one r)) ?_))
  refine bodyPost_ret (res_1 rfl _ _ (w.heap.size + 1) _ rfl (load_key r (Z2.out.setRow _))) rfl ⟨rfl, ?_⟩
  exact ⟨S2.out.keep fun k hk => setRow_other _ _ _ _ (fun e => S2.out.blk_ne Z2.out (by decide) (by have := HP.out; omega) (e ▸ hk)), F2.out.then_ (setRow_fr _ _ _) (fun i hi he => by omega)⟩
set_option maxRecDepth 100000 in
set_option maxHeartbeats 2000000 in
theorem cl2_no {w : World} {base p : Nat} {A : Option Addr} {cap : Nat} {ps : List Nat} {os : List Oj} (h : StAt w base p A cap ps os) (xo : Int) (u : Oj) (K : Nat) (i : Int) (hK : w.cell? ⟨K, 0, none⟩ = some (.int .i64 i)) (n : Int) (hC : ∀ W, Below w.heap.size w W → Calls Tryd.prog 37 #[bkv p xo u, .int .i64 i] W fun e w' => e = .panicked (erc n) ∧ ∃ L, StAt w' base p A cap ps L ∧ Fr (fun k => k ∈ ps) W w') :
    Calls Tryd.prog 36 #[bkv p xo u, .pointer (some ⟨K, 0, none⟩)] w fun e w' => e = .panicked (erc n) ∧ ∃ L, StAt w' base p A cap ps L ∧ Fr (fun k => k ∈ ps) w w' := by
  have hbl := bkc_len p xo u
  have HB := Lib.hid (((Below.refl w.heap.size w).alloc (Nat.le_refl _) (.cells (bkc p xo u).toArray 78)).alloc (by simp) (.cells (kl zk).toArray 33))
  have HK0 := Lib.hid ((Blk.new w 78 (bkc p xo u).toArray).alloc (.cells (kl zk).toArray 33))
  have HZ := Lib.hid (Blk.new_of (w.alloc (.cells (bkc p xo u).toArray 78)) 33 (kl zk).toArray (g := w.heap.size + 1) (by simp))
  have HC := Lib.hid (hC _ HB.out)
  have HSL := Lib.hid (fun k (hk : k ∈ ps) => (h.lt k (.inr (.inr hk))).2)
  have HP := Lib.hid (h.lt p (.inl rfl)).2
  have hK1 : ((w.alloc (.cells (bkc p xo u).toArray 78)).alloc (.cells #[.int .i64 0, .int .i64 0, .int .i64 0, .int .i64 0, .int .i64 0, .int .i64 0] 33)).cell? ⟨K, 0, none⟩ = some (.int .i64 i) := (HB.out.cell (World.block_lt_of_cell? w _ hK)).trans hK
  clear hC h hK
  go_enter Tryd.func36, Tryd.ntmps36
  go_wp2_with (first
    | (show wpList _ _ _ ({ dst := some 4, op := .load _ _, type := _, pos := _, after := _, guard := _ } :: _) _ _; refine wpList_yields (S := fun w' => BkAt w' w.heap.size 0 p xo u) (y_bk (by rfl) (.tmp 2) (by rfl) w.heap.size 0 (by rfl) p xo u (fun _ h => h)) HK0.out.bk ?_)
    | (go_at_call 37; refine HC.out.mono ?_; rintro e w2 ⟨rfl, L, hs, hf⟩; have S2 := Lib.hid hs; have F2 := Lib.hid ((Fr.of_below HB.out : Fr (fun k => k ∈ ps) w _).trans hf); have Z2 := Lib.hid (show Blk w2 (w.heap.size + 1) _ _ from (hf.block _ HZ.out.lt (fun hm => by have := (HSL.out _ hm); omega)).trans HZ.out); clear hs hf))
  exact ⟨rfl, rfl, L, S2.out, F2.out⟩
/-- how all stands while the copy, which has L, is laid into the store, which has os -/
structure Tj (w W : World) (base p : Nat) (A : Option Addr) (cap : Nat) (ps : List Nat) (q : Nat) (A' : Option Addr) (cap' : Nat) (ps' : List Nat) (x : Int) (u : Oj) (L : List Oj) (r : Ky) (g6 : Nat) (os : List Oj) : Prop where
  fr : Fr (fun k => k ∈ ps) w W
  st : StAt W base p A cap ps os
  st2 : StAt W q q A' cap' ps' L
  b0 : Blk W w.heap.size 78 (bkc p x u).toArray
  b1 : Blk W (w.heap.size + 1) 33 (kl zk).toArray
  b2 : Blk W (w.heap.size + 1 + 1) 78 (bkc q x u).toArray
  b6 : Blk W g6 33 (kl r).toArray
  hp : p < w.heap.size
  hq : w.heap.size ≤ q
  lt : w.heap.size + 1 + 1 < g6
section
variable {w W W' : World} {base p : Nat} {A : Option Addr} {cap : Nat} {ps : List Nat} {q : Nat} {A' : Option Addr} {cap' : Nat} {ps' : List Nat} {x : Int} {u : Oj} {L os os' : List Oj} {r : Ky} {g6 : Nat}
set_option maxRecDepth 8000 in
theorem Tj.c0 (h : Tj w W base p A cap ps q A' cap' ps' x u L r g6 os) : W.cell? ⟨w.heap.size, 164, none⟩ = some (pv p) := by have := h.b0.bk.st; simpa using this
set_option maxRecDepth 8000 in
theorem Tj.c2 (h : Tj w W base p A cap ps q A' cap' ps' x u L r g6 os) : W.cell? ⟨w.heap.size + 1 + 1, 164, none⟩ = some (pv q) := by have := h.b2.bk.st; simpa using this
theorem Tj.below (h : Tj w W base p A cap ps q A' cap' ps' x u L r g6 os) (hb : Below W.heap.size W W') : Tj w W' base p A cap ps q A' cap' ps' x u L r g6 os := ⟨h.fr.trans (Fr.of_below hb), h.st.below hb, h.st2.below hb, h.b0.keep hb, h.b1.keep hb, h.b2.keep hb, h.b6.keep hb, h.hp, h.hq, h.lt⟩
theorem Tj.alloc (h : Tj w W base p A cap ps q A' cap' ps' x u L r g6 os) (o : Obj) : Tj w (W.alloc o) base p A cap ps q A' cap' ps' x u L r g6 os := h.below ((Below.refl _ _).alloc (Nat.le_refl _) o)
theorem Tj.put (h : Tj w W base p A cap ps q A' cap' ps' x u L r g6 os) (hf : Fr (fun k => k ∈ ps) W W') (hs : StAt W' base p A cap ps os') (hl : ∀ k ∈ ps, k < w.heap.size) : Tj w W' base p A cap ps q A' cap' ps' x u L r g6 os' :=
  ⟨h.fr.trans hf, hs, h.st2.fr hf (fun k hk hm => by have h1 := (h.st2.lt k hk).1; have h2 := hl k hm; have h3 := h.hq; omega), h.st.blkF hf h.b0 (by decide), h.st.blkF hf h.b1 (by decide), h.st.blkF hf h.b2 (by decide), h.st.blkF hf h.b6 (by decide), h.hp, h.hq, h.lt⟩
end
set_option maxRecDepth 100000 in
set_option maxHeartbeats 4000000 in
theorem tried_no {w : World} {base p : Nat} {A : Option Addr} {cap : Nat} {ps : List Nat} {os : List Oj} (h : StAt w base p A cap ps os) (hT : TabB base w) (hn : 0 < os.length) (hN : os.length ≤ 64) (x : Int) (u : Oj) (N : Nat) (n : Int) (hdo : ∀ W q A' cap' ps', Below w.heap.size w W → w.heap.size ≤ q → StAt W q q A' cap' ps' os → TabB q W → Calls Tryd.prog 36 #[bkv q x u, .pointer (some ⟨N, 0, none⟩)] W fun e w' => e = .panicked (erc n) ∧ ∃ L, StAt w' q q A' cap' ps' L ∧ Fr (fun k => k ∈ ps') W w') :
    Calls Tryd.prog 35 #[bkv p x u, .func (.func 36) #[] #[.pointer (some ⟨N, 0, none⟩)]] w fun e w' => e = .panicked (erc n) ∧ StAt w' base p A cap ps os ∧ Fr (fun k => k ∈ ps) w w' := by
  have hbl := bkc_len p x u
  have hz := z34
  have hz2 := zB
  have hol := oz_len
  have hbl2 := zbkc_len
  have HS := Lib.hid h
  have HT := Lib.hid hT
  have HN0 := Lib.hid hn
  have HNN := Lib.hid hN
  have HDO := Lib.hid hdo
  have HB2 := Lib.hid (show Below w.heap.size w (((w.alloc (.cells (bkc p x u).toArray 78)).alloc (.cells #[.int .i64 0, .int .i64 0, .int .i64 0, .int .i64 0, .int .i64 0, .int .i64 0] 33)).alloc (.cells (bkc p x u).toArray 78)) from (((Below.refl w.heap.size w).alloc (Nat.le_refl _) (.cells (bkc p x u).toArray 78)).alloc (by simp) (.cells #[.int .i64 0, .int .i64 0, .int .i64 0, .int .i64 0, .int .i64 0, .int .i64 0] 33)).alloc (by simp; omega) (.cells (bkc p x u).toArray 78))
  have HK0 := Lib.hid (show Blk (((w.alloc (.cells (bkc p x u).toArray 78)).alloc (.cells #[.int .i64 0, .int .i64 0, .int .i64 0, .int .i64 0, .int .i64 0, .int .i64 0] 33)).alloc (.cells (bkc p x u).toArray 78)) w.heap.size 78 (bkc p x u).toArray from ((Blk.new w _ _).alloc _).alloc _)
  have HK1 := Lib.hid (show Blk (((w.alloc (.cells (bkc p x u).toArray 78)).alloc (.cells #[.int .i64 0, .int .i64 0, .int .i64 0, .int .i64 0, .int .i64 0, .int .i64 0] 33)).alloc (.cells (bkc p x u).toArray 78)) (w.heap.size + 1) 33 (kl zk).toArray from (Blk.new_of (w.alloc (.cells (bkc p x u).toArray 78)) 33 (kl zk).toArray (g := w.heap.size + 1) (by simp)).alloc _)
  have HK2 := Lib.hid (show Blk (((w.alloc (.cells (bkc p x u).toArray 78)).alloc (.cells #[.int .i64 0, .int .i64 0, .int .i64 0, .int .i64 0, .int .i64 0, .int .i64 0] 33)).alloc (.cells (bkc p x u).toArray 78)) (w.heap.size + 2) 78 (bkc p x u).toArray from Blk.new_of _ _ _ (by simp))
  have SZ2 := Lib.hid (show ((((w.alloc (.cells (bkc p x u).toArray 78)).alloc (.cells #[.int .i64 0, .int .i64 0, .int .i64 0, .int .i64 0, .int .i64 0, .int .i64 0] 33)).alloc (.cells (bkc p x u).toArray 78))).heap.size = w.heap.size + 3 by simp)
  have HCP := Lib.hid (show ∀ W, Below w.heap.size w W → Calls Tryd.prog 9 #[pv p] W fun e w' => ∃ q, e = .returned (pv q) ∧ W.heap.size ≤ q ∧ (∃ A' cap' ps', StAt w' q q A' cap' ps' os) ∧ Below W.heap.size W w' from fun W hW => (copy_at (h.below hW) hn (by omega)).mono fun e w' q => ⟨W.heap.size, q.1, Nat.le_refl _, q.2.1, q.2.2⟩)
  have HK00 := Lib.hid (show Blk (w.alloc (.cells (bkc p x u).toArray 78)) w.heap.size 78 (bkc p x u).toArray from Blk.new w _ _)
  have HPL := Lib.hid (fun k (hk : k ∈ ps) => (h.lt k (.inr (.inr hk))).2)
  clear h hT hn hN hdo
  go_enter Tryd.func35, Tryd.ntmps35
  go_wp2_with (first
    | (show wpList _ _ _ ({ dst := some 11, op := .load _ _, type := _, pos := _, after := _, guard := _ } :: _) _ _; refine wpList_yields (S := fun w' => BkAt w' w.heap.size 0 p x u) (y_bk (by rfl) (.tmp 2) (by rfl) w.heap.size 0 (by rfl) p x u (fun _ h => h)) (by exact ((HK00.out.alloc _).bk)) ?_)
    | (show wpList _ _ _ ({ dst := none, op := .store _ (.tmp 5) (.tmp 11), type := _, pos := _, after := _, guard := _ } :: _) _ _; refine wpList_store_new (l := bkc p x u) (l0 := zbkc) (ty := 78) rfl (.tmp 5) (.tmp 11) (by rfl) (w.heap.size + 1 + 1) (by simp) (by rfl) (by rfl) (by rw [bkc_len]; exact sizeB) (by rw [bkc_len, zbkc_len]) (bkc_one _ _ _) ?_; generalize (((w.alloc (.cells (bkc p x u).toArray 78)).alloc (.cells #[.int .i64 0, .int .i64 0, .int .i64 0, .int .i64 0, .int .i64 0, .int .i64 0] 33)).alloc (.cells (bkc p x u).toArray 78)) = V2 at HB2 HK0 HK1 HK2 SZ2 ⊢; have c164 : V2.cell? ⟨w.heap.size, 164, none⟩ = some (pv p) := by { have := HK0.out.bk.st; simpa using this })
    | (go_at_call 9; refine (HCP.out _ HB2.out).mono ?_; rintro e w3 ⟨q, rfl, hq, ⟨A', cap', ps', hs2⟩, b3⟩; have HQ := Lib.hid (show w.heap.size + 3 ≤ q by have := SZ2.out; omega); have HB3 := Lib.hid (HB2.out.trans (b3.mono HB2.out.size)); have K03 := Lib.hid (HK0.out.keep b3); have K13 := Lib.hid (HK1.out.keep b3); have K23 := Lib.hid (show Blk w3 (w.heap.size + 1 + 1) _ _ from HK2.out.keep b3); have z2 : w3.frozen? ⟨w.heap.size + 1 + 1, 164, none⟩ = false := K23.out.frozen 164; have c2 : w3.cell? ⟨w.heap.size + 1 + 1, 164, none⟩ = some (pv p) := by { have := K23.out.bk.st; simpa using this }; have B4 := Lib.hid (HB3.out.setCell (p := ⟨w.heap.size + 1 + 1, 164, none⟩) (by show w.heap.size ≤ w.heap.size + 1 + 1; omega) (pv q)); have K04 := Lib.hid (Blk.far K03.out (p := ⟨w.heap.size + 1 + 1, 164, none⟩) (by show w.heap.size ≠ w.heap.size + 1 + 1; omega) (pv q)); have K14 := Lib.hid (Blk.far K13.out (p := ⟨w.heap.size + 1 + 1, 164, none⟩) (by show w.heap.size + 1 ≠ w.heap.size + 1 + 1; omega) (pv q)); have K24 := Lib.hid (show Blk (w3.setCell ⟨w.heap.size + 1 + 1, 164, none⟩ (pv q)) (w.heap.size + 1 + 1) 78 (bkc q x u).toArray from by { rw [← bkc_set p q x u]; exact K23.out.set_ 164 (pv q) }); have S24 := Lib.hid (hs2.keep (w' := w3.setCell ⟨w.heap.size + 1 + 1, 164, none⟩ (pv q)) fun k hk => Below.heap_setCell _ _ _ _ (fun e => by { have h1 := (hs2.lt k hk).1; have h2 := HQ.out; simp only at e; omega })); have T24 := Lib.hid (HT.out.lift (q := q) (B4.out.mono HS.out.base_le) (by have h1 := HS.out.base_le; have h2 := HQ.out; omega)); clear c164 hs2 hq b3)
    | (show wpList _ _ _ ({ dst := some 17, op := .load _ _, type := _, pos := _, after := _, guard := _ } :: _) _ _; refine wpList_yields (S := fun w' => BkAt w' (w.heap.size + 1 + 1) 0 q x u) (y_bk (by rfl) (.tmp 5) (by rfl) (w.heap.size + 1 + 1) 0 (by rfl) q x u (fun _ h => h)) K24.out.bk ?_)
    | (go_at_call 36; refine (HDO.out _ _ _ _ _ B4.out (by have := HQ.out; omega) S24.out T24.out).mono ?_; rintro e w5 ⟨rfl, L, hs5, hf5⟩; have B5 := Lib.hid (B4.out.trans ((below_lt hf5 B4.out.size (fun k hk => by have h1 := (S24.out.lt k (.inr (.inr hk))).1; have h2 := HQ.out; omega)))); clear hs5 hf5))
  exact ⟨rfl, rfl, HS.out.below B5.out, Fr.of_below B5.out⟩
set_option maxRecDepth 100000 in
set_option maxHeartbeats 4000000 in
theorem tried_yes {w : World} {base p : Nat} {A : Option Addr} {cap : Nat} {ps : List Nat} {os : List Oj} (h : StAt w base p A cap ps os) (hT : TabB base w) (hn : 0 < os.length) (hN : os.length ≤ 64) (x : Int) (u : Oj) (N : Nat) (r : Ky) (L : List Oj) (hl : L.length = os.length) (hlo : okAll os.length L) (hdo : ∀ W q A' cap' ps', Below w.heap.size w W → w.heap.size ≤ q → StAt W q q A' cap' ps' os → TabB q W → Calls Tryd.prog 36 #[bkv q x u, .pointer (some ⟨N, 0, none⟩)] W fun e w' => e = .returned r.val ∧ StAt w' q q A' cap' ps' L ∧ Fr (fun k => k ∈ ps') W w') :
    Calls Tryd.prog 35 #[bkv p x u, .func (.func 36) #[] #[.pointer (some ⟨N, 0, none⟩)]] w fun e w' => e = .returned r.val ∧ StAt w' base p A cap ps L ∧ Fr (fun k => k ∈ ps) w w' := by
  have HLL := Lib.hid hl
  have HLO := Lib.hid hlo
  clear hl hlo
  have hbl := bkc_len p x u
  have hz := z34
  have hz2 := zB
  have hol := oz_len
  have hbl2 := zbkc_len
  have HS := Lib.hid h
  have HT := Lib.hid hT
  have HN0 := Lib.hid hn
  have HNN := Lib.hid hN
  have HDO := Lib.hid hdo
  have HB2 := Lib.hid (show Below w.heap.size w (((w.alloc (.cells (bkc p x u).toArray 78)).alloc (.cells #[.int .i64 0, .int .i64 0, .int .i64 0, .int .i64 0, .int .i64 0, .int .i64 0] 33)).alloc (.cells (bkc p x u).toArray 78)) from (((Below.refl w.heap.size w).alloc (Nat.le_refl _) (.cells (bkc p x u).toArray 78)).alloc (by simp) (.cells #[.int .i64 0, .int .i64 0, .int .i64 0, .int .i64 0, .int .i64 0, .int .i64 0] 33)).alloc (by simp; omega) (.cells (bkc p x u).toArray 78))
  have HK0 := Lib.hid (show Blk (((w.alloc (.cells (bkc p x u).toArray 78)).alloc (.cells #[.int .i64 0, .int .i64 0, .int .i64 0, .int .i64 0, .int .i64 0, .int .i64 0] 33)).alloc (.cells (bkc p x u).toArray 78)) w.heap.size 78 (bkc p x u).toArray from ((Blk.new w _ _).alloc _).alloc _)
  have HK1 := Lib.hid (show Blk (((w.alloc (.cells (bkc p x u).toArray 78)).alloc (.cells #[.int .i64 0, .int .i64 0, .int .i64 0, .int .i64 0, .int .i64 0, .int .i64 0] 33)).alloc (.cells (bkc p x u).toArray 78)) (w.heap.size + 1) 33 (kl zk).toArray from (Blk.new_of (w.alloc (.cells (bkc p x u).toArray 78)) 33 (kl zk).toArray (g := w.heap.size + 1) (by simp)).alloc _)
  have HK2 := Lib.hid (show Blk (((w.alloc (.cells (bkc p x u).toArray 78)).alloc (.cells #[.int .i64 0, .int .i64 0, .int .i64 0, .int .i64 0, .int .i64 0, .int .i64 0] 33)).alloc (.cells (bkc p x u).toArray 78)) (w.heap.size + 2) 78 (bkc p x u).toArray from Blk.new_of _ _ _ (by simp))
  have SZ2 := Lib.hid (show ((((w.alloc (.cells (bkc p x u).toArray 78)).alloc (.cells #[.int .i64 0, .int .i64 0, .int .i64 0, .int .i64 0, .int .i64 0, .int .i64 0] 33)).alloc (.cells (bkc p x u).toArray 78))).heap.size = w.heap.size + 3 by simp)
  have HCP := Lib.hid (show ∀ W, Below w.heap.size w W → Calls Tryd.prog 9 #[pv p] W fun e w' => ∃ q, e = .returned (pv q) ∧ W.heap.size ≤ q ∧ (∃ A' cap' ps', StAt w' q q A' cap' ps' os) ∧ Below W.heap.size W w' from fun W hW => (copy_at (h.below hW) hn (by omega)).mono fun e w' q => ⟨W.heap.size, q.1, Nat.le_refl _, q.2.1, q.2.2⟩)
  have HK00 := Lib.hid (show Blk (w.alloc (.cells (bkc p x u).toArray 78)) w.heap.size 78 (bkc p x u).toArray from Blk.new w _ _)
  have HPL := Lib.hid (fun k (hk : k ∈ ps) => (h.lt k (.inr (.inr hk))).2)
  clear h hT hn hN hdo
  go_enter Tryd.func35, Tryd.ntmps35
  go_wp2_with (first
    | (show wpList _ _ _ ({ dst := some 11, op := .load _ _, type := _, pos := _, after := _, guard := _ } :: _) _ _; refine wpList_yields (S := fun w' => BkAt w' w.heap.size 0 p x u) (y_bk (by rfl) (.tmp 2) (by rfl) w.heap.size 0 (by rfl) p x u (fun _ h => h)) (by exact ((HK00.out.alloc _).bk)) ?_)
    | (show wpList _ _ _ ({ dst := none, op := .store _ (.tmp 5) (.tmp 11), type := _, pos := _, after := _, guard := _ } :: _) _ _; refine wpList_store_new (l := bkc p x u) (l0 := zbkc) (ty := 78) rfl (.tmp 5) (.tmp 11) (by rfl) (w.heap.size + 1 + 1) (by simp) (by rfl) (by rfl) (by rw [bkc_len]; exact sizeB) (by rw [bkc_len, zbkc_len]) (bkc_one _ _ _) ?_; generalize (((w.alloc (.cells (bkc p x u).toArray 78)).alloc (.cells #[.int .i64 0, .int .i64 0, .int .i64 0, .int .i64 0, .int .i64 0, .int .i64 0] 33)).alloc (.cells (bkc p x u).toArray 78)) = V2 at HB2 HK0 HK1 HK2 SZ2 ⊢; have c164 : V2.cell? ⟨w.heap.size, 164, none⟩ = some (pv p) := by { have := HK0.out.bk.st; simpa using this })
    | (go_at_call 9; refine (HCP.out _ HB2.out).mono ?_; rintro e w3 ⟨q, rfl, hq, ⟨A', cap', ps', hs2⟩, b3⟩; have HQ := Lib.hid (show w.heap.size + 3 ≤ q by have := SZ2.out; omega); have HB3 := Lib.hid (HB2.out.trans (b3.mono HB2.out.size)); have K03 := Lib.hid (HK0.out.keep b3); have K13 := Lib.hid (HK1.out.keep b3); have K23 := Lib.hid (show Blk w3 (w.heap.size + 1 + 1) _ _ from HK2.out.keep b3); have z2 : w3.frozen? ⟨w.heap.size + 1 + 1, 164, none⟩ = false := K23.out.frozen 164; have c2 : w3.cell? ⟨w.heap.size + 1 + 1, 164, none⟩ = some (pv p) := by { have := K23.out.bk.st; simpa using this }; have B4 := Lib.hid (HB3.out.setCell (p := ⟨w.heap.size + 1 + 1, 164, none⟩) (by show w.heap.size ≤ w.heap.size + 1 + 1; omega) (pv q)); have K04 := Lib.hid (Blk.far K03.out (p := ⟨w.heap.size + 1 + 1, 164, none⟩) (by show w.heap.size ≠ w.heap.size + 1 + 1; omega) (pv q)); have K14 := Lib.hid (Blk.far K13.out (p := ⟨w.heap.size + 1 + 1, 164, none⟩) (by show w.heap.size + 1 ≠ w.heap.size + 1 + 1; omega) (pv q)); have K24 := Lib.hid (show Blk (w3.setCell ⟨w.heap.size + 1 + 1, 164, none⟩ (pv q)) (w.heap.size + 1 + 1) 78 (bkc q x u).toArray from by { rw [← bkc_set p q x u]; exact K23.out.set_ 164 (pv q) }); have S24 := Lib.hid (hs2.keep (w' := w3.setCell ⟨w.heap.size + 1 + 1, 164, none⟩ (pv q)) fun k hk => Below.heap_setCell _ _ _ _ (fun e => by { have h1 := (hs2.lt k hk).1; have h2 := HQ.out; simp only at e; omega })); have T24 := Lib.hid (HT.out.lift (q := q) (B4.out.mono HS.out.base_le) (by have h1 := HS.out.base_le; have h2 := HQ.out; omega)); clear c164 hs2 hq b3)
    | (show wpList _ _ _ ({ dst := some 17, op := .load _ _, type := _, pos := _, after := _, guard := _ } :: _) _ _; refine wpList_yields (S := fun w' => BkAt w' (w.heap.size + 1 + 1) 0 q x u) (y_bk (by rfl) (.tmp 5) (by rfl) (w.heap.size + 1 + 1) 0 (by rfl) q x u (fun _ h => h)) K24.out.bk ?_)
    | (go_at_call 36; refine (HDO.out _ _ _ _ _ B4.out (by have := HQ.out; omega) S24.out T24.out).mono ?_; rintro e w5 ⟨rfl, hs5, hf5⟩; have B5 := Lib.hid (B4.out.trans ((below_lt hf5 B4.out.size (fun k hk => by have h1 := (S24.out.lt k (.inr (.inr hk))).1; have h2 := HQ.out; omega)))); have K05 := Lib.hid (S24.out.blkF hf5 K04.out (by decide)); have K15 := Lib.hid (S24.out.blkF hf5 K14.out (by decide)); have K25 := Lib.hid (S24.out.blkF hf5 K24.out (by decide)); have S25 := Lib.hid hs5; clear hs5 hf5)
    | (show wpList _ _ _ ({ dst := none, op := .store _ (.tmp 6) (.tmp 18), type := _, pos := _, after := _, guard := _ } :: _) _ _; refine wpList_store_new (l := kl r) (l0 := kl zk) (ty := 33) rfl (.tmp 6) (.tmp 18) (by rfl) _ rfl (by rfl) (by rfl) size30 rfl (kl_one _) ?_; have J6 := Lib.hid (show Tj w (w5.alloc (.cells (kl r).toArray 33)) base p A cap ps q A' cap' ps' x u L r w5.heap.size os from ⟨B5.out.alloc B5.out.size _ |> Fr.of_below, HS.out.below (B5.out.alloc B5.out.size _), S25.out.alloc _, K05.out.alloc _, K15.out.alloc _, K25.out.alloc _, Blk.new _ _ _, (HS.out.lt p (.inl rfl)).2, by have := HQ.out; omega, K25.out.lt⟩); generalize w5.alloc (.cells (kl r).toArray 33) = V6 at J6 ⊢; have c164 := J6.out.c0; have c264 := J6.out.c2; generalize w5.heap.size = g6 at J6)
    | (go_at_call 57; refine (unlike_eq J6.out.st J6.out.st2 HLL.out HN0.out (by have := HNN.out; omega)).mono ?_; rintro e w7 ⟨v, rfl, hv, b7⟩; obtain ⟨Av, cv, rfl⟩ := own_shape hv; have J7 := Lib.hid (J6.out.below b7); have R7 := Lib.hid (row_int hv rfl); clear hv b7 c164 c264))
  obtain ⟨nD, hnD⟩ : ∃ nD, (diffs os L os.length).length = nD := ⟨_, rfl⟩
  rw [hnD]
  have HND := Lib.hid hnD
  clear hnD
  go_loopw [25] (fun i wr => ∃ k : Nat, k ≤ nD ∧ i = .int .i64 (k : Int) ∧ Tj w wr base p A cap ps q A' cap' ps' x u L r g6 (pat os L ((diffs os L os.length).take k)) ∧ RowI wr Av (diffs os L os.length)) (fun i _ => nD - (intOf i).toNat)
  case atStart => exact ⟨0, Nat.zero_le _, rfl, J7.out, R7.out⟩
  case round =>
    obtain ⟨k, hk, rfl, hj, hr⟩ := hrel
    clear J7 R7
    by_cases hlt : k < nD
    · obtain ⟨z, hz0⟩ : ∃ z, (diffs os L os.length)[k]? = some z := ⟨_, List.getElem?_eq_getElem (by rw [HND.out]; exact hlt)⟩
      have HZ := Lib.hid hz0
      have HZL := Lib.hid (diffs_lt hz0)
      obtain ⟨g, cur, rfl, hgb, hgc⟩ := hr k z hz0
      have HJ := Lib.hid hj
      have HR := Lib.hid hr
      have d1 : decide ((k : Int) < (nD : Int)) = true := decide_eq_true (by omega)
      have d3 : (k : Int) < (nD : Int) := by omega
      have HLT := Lib.hid hlt
      have c264 := hj.c2
      obtain ⟨y, hy⟩ : ∃ y, L[z]? = some y := ⟨_, List.getElem?_eq_getElem (by rw [HLL.out]; exact HZL.out)⟩
      have HY := Lib.hid hy
      have HYOK := Lib.hid (show y.ok os.length from HLO.out _ (List.mem_of_getElem? hy))
      have HGET := Lib.hid (show Calls Tryd.prog 14 #[pv q, .int .i64 (z : Int)] wr fun e' w' => e' = .returned (.tuple #[y.val, .int .i64 0]) ∧ Below wr.heap.size wr w' from by
        obtain ⟨h1, h2⟩ := List.getElem?_eq_some_iff.1 hy
        have := get_at hj.st2 z h1
        rwa [h2] at this)
      have HTJ := Lib.hid (HT.out.fr HS.out hj.fr)
      have hk64 : (k : Int) ≤ 64 := by have h1 := HND.out; have h2 := diffs_le os L os.length; have h3 := HNN.out; omega
      clear hj hr hgb hlt hy hz0
      go_wp2_with (first
        | (go_at_call 14; refine HGET.out.mono ?_; rintro e w8 ⟨rfl, b8⟩; have J8 := Lib.hid ((HJ.out.below b8).alloc (.cells y.cells.toArray 47)); have R8 := Lib.hid ((HR.out.below b8).below ((Below.refl _ _).alloc (Nat.le_refl _) (.cells y.cells.toArray 47))); have T8 := Lib.hid ((HTJ.out.up HJ.out.st b8).below (((Below.refl _ w8).alloc (Nat.le_refl _) (.cells y.cells.toArray 47)).mono (HJ.out.below b8).st.base_le)); have G8 := Lib.hid (Blk.new w8 47 y.cells.toArray); clear b8 hgc c264)
        | (show wpList _ _ _ ({ dst := none, op := .store _ (.tmp 9) (.tmp 34), type := _, pos := _, after := _, guard := _ } :: _) _ _; refine wpList_store_last rfl (.tmp 9) (.tmp 34) rfl _ rfl rfl y oz rfl ?_; have c164 := J8.out.c0)
        | (show wpList _ _ _ ({ dst := some 39, op := .load _ _, type := _, pos := _, after := _, guard := _ } :: _) _ _; refine wpList_yields (S := fun w' => ObAt w' w8.heap.size 0 y) (y_ob (by rfl) (.tmp 9) (by rfl) w8.heap.size 0 (by rfl) y (fun _ h => h)) G8.out.ob ?_)
        | (go_at_call 54; refine (put_ok J8.out.st T8.out.tab z (by rw [pat_len]; exact HZL.out) y (by rw [pat_len]; exact HYOK.out)).mono ?_; rintro e w9 ⟨rfl, hs9, hf9⟩; have J9 := Lib.hid (J8.out.put hf9 hs9 HPL.out); have R9 := Lib.hid (R8.out.fr J8.out.st hf9); clear hs9 hf9 c164))
      go_roundw
      case rel => exact ⟨k + 1, by have := HLT.out; omega, by go_num, by
        have h1 := J9.out
        rw [List.take_succ_eq_append_getElem (by rw [HND.out]; exact HLT.out), pat_snoc, show (diffs os L os.length)[k]'(by rw [HND.out]; exact HLT.out) = z from Option.some.inj ((List.getElem?_eq_getElem _).symm.trans HZ.out), HY.out]
        exact h1, R9.out⟩
      case measure => simp [intOf]; omega
    · obtain rfl : nD = k := by omega
      have d1 : decide ((nD : Int) < (nD : Int)) = false := decide_eq_false (by omega)
      have HJ := Lib.hid (show Tj w wr base p A cap ps q A' cap' ps' x u L r g6 L by
        rw [List.take_of_length_le (by rw [HND.out]; exact Nat.le_refl _), pat_diffs os L HLL.out] at hj
        exact hj)
      clear hj hr hlt
      go_wp2_with (first
        | (show wpList _ _ _ ({ dst := some 42, op := .load _ _, type := _, pos := _, after := _, guard := _ } :: _) _ _; refine wpList_yields (S := fun w' => KeyAt w' g6 0 r) (y_kyB (by rfl) (.tmp 6) (by rfl) g6 0 (by rfl) r (fun _ h => h)) HJ.out.b6.six ?_)
        | (show wpList _ _ _ ({ dst := none, op := .store _ (.tmp 4) (.tmp 42), type := _, pos := _, after := _, guard := _ } :: _) _ _; refine wpList_store_big HJ.out.b1 rfl (.tmp 4) (.tmp 42) (ty := 33) (l := kl r) rfl (by rfl) (by rfl) size30 rfl (kl_one _) ?_))
      refine bodyPost_ret (res_1 rfl _ _ (w.heap.size + 1) _ rfl (load_key r (HJ.out.b1.setRow _))) rfl ⟨rfl, ?_⟩
      exact ⟨HJ.out.st.keep fun k hk => setRow_other _ _ _ _ (fun e => HJ.out.st.blk_ne HJ.out.b1 (by decide) (by have := HJ.out.hp; omega) (e ▸ hk)), HJ.out.fr.then_ (setRow_fr _ _ _) (fun i hi he => by omega)⟩
end Go.Proofs.YteodgefnbmiblaaDoor

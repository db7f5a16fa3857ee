/- nodes: all, prepared, change. -/
import Derived.Test.YtliakhknmckdgaaDoorNGot
namespace Go.Proofs.YtliakhknmckdgaaDoor
open Go.RowKit
/-- a node with other slots -/
def slotsAs (o : Oj) (s : List Ky) (hs : s.length = 16) : Oj := { o with s := s, hs := hs }
/-- what is got of each slot -/
noncomputable def gots (os : List Oj) (x : Ky) (u : Oj) : List Ky := u.s.map (gotK os x)
set_option maxRecDepth 8000 in
theorem gots_len (os : List Oj) (x : Ky) (u : Oj) : (gots os x u).length = 16 := by rw [gots, List.length_map, u.hs]
set_option maxRecDepth 8000 in
theorem weak_ok {x : Ky} (h : x.ok) : x.weak.ok := by
  by_cases h1 : x.k = 0 ∨ x.k = 1 ∨ x.k = 8
  · rw [weak_self h1]
    exact h
  · by_cases h2 : x.k = 2 ∨ x.k = 3
    · rw [weak_less h2]
      obtain ⟨n, hk, hn, o0, o1, c0, c1, l0, l1, r0, r1, hv⟩ := h
      have e8 : x.r.toNat < 8 := by
        have : kRts n ≤ 7 := by unfold kRts; split <;> (try split) <;> omega
        omega
      refine ⟨n, hk, hn, o0, o1, c0, c1, l0, l1, by simp, ?_, hv⟩
      rcases h2 with h2 | h2
      · have hn2 : n = 2 := by omega
        subst hn2
        rw [h2]
        have : ∀ r, r < 8 → lsN r 3 (rm 2) ≤ 7 := by decide
        have h7 := this _ e8
        have e7 : kRts 2 = 7 := rfl
        show ((lsN x.r.toNat 3 (rm 2) : Nat) : Int) ≤ kRts 2
        omega
      · have hn3 : n = 3 := by omega
        subst hn3
        rw [h2]
        have e1 : kRts 3 = 1 := rfl
        have : ∀ r, r < 2 → lsN r 3 (rm 3) ≤ 1 := by decide
        have h7 := this x.r.toNat (by omega)
        show ((lsN x.r.toNat 3 (rm 3) : Nat) : Int) ≤ kRts 3
        omega
    · rw [weak_void (by omega)]
      exact zk_ok
set_option maxRecDepth 8000 in
theorem gotK_ok (os : List Oj) (x y : Ky) : (gotK os x y).ok := by
  unfold gotK
  by_cases h : x.r / 2 % 2 = 1
  · rw [if_pos h]
    exact weak_ok (prepd_ok os y)
  · rw [if_neg h]
    exact prepd_ok os y
set_option maxRecDepth 8000 in
theorem kcs_snoc (n : Nat) (l : List Ky) (hl : l.length = n) (hn : n < 16) (z : Ky) : (kcs (l ++ List.replicate (16 - n) zk)).take (n * 6) ++ kl z ++ (kcs (l ++ List.replicate (16 - n) zk)).drop (n * 6 + (kl z).length) = kcs (l ++ [z] ++ List.replicate (16 - (n + 1)) zk) := by
  rw [kl_len, kcs_set _ n (by simp; omega)]
  congr 1
  rw [List.set_append_right _ _ (by omega), hl, Nat.sub_self, show 16 - n = (16 - (n + 1)) + 1 by omega, List.replicate_succ, List.set_cons_zero, List.append_assoc]
  rfl
set_option maxRecDepth 8000 in
theorem take_map_snoc (os : List Oj) (x : Ky) (u : Oj) (n : Nat) (hn : n < u.s.length) : (u.s.take n).map (gotK os x) ++ [gotK os x u.s[n]] = (u.s.take (n + 1)).map (gotK os x) := by
  rw [List.take_succ_eq_append_getElem hn, List.map_append]
  rfl
section
variable {w : World} {base p : Nat} {A : Option Addr} {cap : Nat} {ps : List Nat} {os : List Oj}
/-- how all stands ahead of a round -/
structure Alw (w wr : World) (p : Nat) (os : List Oj) (x : Ky) (u : Oj) (n : Nat) : Prop where
  bel : Below w.heap.size w wr
  ak : Blk wr w.heap.size 87 (akc p x u).toArray
  sl : Blk wr (w.heap.size + 1) 95 (kcs ((u.s.take n).map (gotK os x) ++ List.replicate (16 - n) zk)).toArray
set_option maxRecDepth 8000 in
theorem gots_any (h : StAt w base p A cap ps os) (hn : 0 < os.length) (hT : Tab w) (x : Ky) (u : Oj) (hok : x.ok) :
    Calls Tryd.prog 47 #[akv p x u] w fun e w' => e = .returned (.agg (kcs (gots os x u)).toArray) ∧ Below w.heap.size w w' := by
  have hz := z95
  have hbl := akc_len p x u
  have hbs := zks_len
  have HN := Lib.hid hn
  have HO := Lib.hid hok
  have HS := Lib.hid h
  have HT := Lib.hid hT
  have HI : Hid (Alw w ((w.alloc (.cells (akc p x u).toArray 87)).alloc (.cells (kcs zks).toArray 95)) p os x u 0) := ⟨((Below.refl w.heap.size w).alloc (Nat.le_refl _) (.cells (akc p x u).toArray 87)).alloc (by simp) (.cells (kcs zks).toArray 95), (Blk.new w 87 (akc p x u).toArray).alloc (.cells (kcs zks).toArray 95), Blk.new_of (w.alloc (.cells (akc p x u).toArray 87)) 95 (kcs zks).toArray (g := w.heap.size + 1) (by simp)⟩
  clear h hn hT hok
  go_enter Tryd.func47, Tryd.ntmps47
  go_wp2_with fail
  go_loopw [3, 4] (fun _ v wr => ∃ n : Nat, n ≤ 16 ∧ v = .int .i64 n ∧ Alw w wr p os x u n) (fun _ v _ => 17 - (intOf v).toNat)
  case atStart => exact ⟨0, by omega, rfl, HI.out⟩
  case round =>
    obtain ⟨n, hn, rfl, hi⟩ := hrel
    clear HI
    have HI := Lib.hid hi
    clear hi
    by_cases hlt : n < 16
    · have d0 : decide ((n : Int) < 16) = true := decide_eq_true (by omega)
      have d1 : (n : Int) < 16 := by omega
      have HL := Lib.hid hlt
      have hus : n < u.s.length := by rw [u.hs]; exact hlt
      obtain ⟨y, hy⟩ : ∃ y, u.s[n] = y := ⟨_, rfl⟩
      have HY := Lib.hid (show u.s[n]? = some y by rw [List.getElem?_eq_getElem hus, hy])
      have HSN := Lib.hid (show (u.s.take n).map (gotK os x) ++ [gotK os x y] = (u.s.take (n + 1)).map (gotK os x) by rw [← hy]; exact take_map_snoc os x u n hus)
      have HTL := Lib.hid (show ((u.s.take n).map (gotK os x)).length = n by rw [List.length_map, List.length_take]; omega)
      have HFT := Lib.hid (show n * 6 + (kl (gotK os x y)).length ≤ (kcs ((u.s.take n).map (gotK os x) ++ List.replicate (16 - n) zk)).length by rw [kl_len, kcs_length, List.length_append, HTL.out, List.length_replicate]; omega)
      obtain ⟨L1, hL1⟩ : ∃ L1, (u.s.take n).map (gotK os x) ++ [gotK os x y] ++ List.replicate (16 - (n + 1)) zk = L1 := ⟨_, rfl⟩
      have HSK := Lib.hid (hL1 ▸ kcs_snoc n _ HTL.out HL.out (gotK os x y))
      have HLE := Lib.hid hL1
      clear hlt hy hus hL1
      go_wp2_with (first
        | (refine wpList_yields (S := fun w' => AkAt w' w.heap.size 0 p x u) (y_ak (by rfl) (.tmp 1) (by rfl) w.heap.size 0 (by rfl) p x u (fun _ h => h)) HI.out.ak.ak ?_)
        | (go_at_call 37; refine (got_any (HS.out.below HI.out.bel) HN.out (HT.out.below HI.out.bel) x u n HL.out y HY.out HO.out).mono ?_; rintro e w1 ⟨rfl, b1⟩; have HB1 := Lib.hid (HI.out.bel.trans (b1.mono HI.out.bel.size)); have HK1 := Lib.hid (HI.out.ak.keep b1); have HL1 := Lib.hid (HI.out.sl.keep b1); clear b1)
        | (refine wpList_store_in HL1.out rfl (.tmp 11) (.tmp 10) (ty := 32) (l := kl (gotK os x y)) (off := n * 6) (by rfl) (by rfl) (by rfl) size30 HFT.out (kl_one _) HSK.out ?_))
      go_roundw
      case rel =>
        refine ⟨n + 1, by have := HL.out; omega, by go_num, below_setRow HB1.out (by omega) _, Blk.row_far HK1.out (by omega) _, ?_⟩
        rw [← HSN.out, HLE.out]
        exact HL1.out.setRow _
      case measure => simp [intOf]; omega
    · obtain rfl : n = 16 := by omega
      have d0 : decide ((16 : Int) < 16) = false := rfl
      have HL9 := Lib.hid (show Blk wr (w.heap.size + 1) 95 (kcs (gots os x u)).toArray by have := HI.out.sl; rw [List.take_of_length_le (by rw [u.hs]; omega)] at this; simpa [gots] using this)
      go_wp2_with (first
        | (refine wpList_yields (S := fun w' => w'.rangeAt (w.heap.size + 1) 0 (kcs (gots os x u))) (y_sl (by rfl) (.tmp 2) (by rfl) (w.heap.size + 1) 0 (by rfl) (gots os x u) (gots_len os x u) (fun _ h => h)) HL9.out.range ?_)
        | (refine wpList_store_big HL9.out rfl (.tmp 2) (.tmp 13) (ty := 95) (l := kcs (gots os x u)) rfl (by rfl) (by rfl) (by rw [kcs_len (gots_len os x u)]; exact size95) rfl (kcs_one _) ?_))
      exact bodyPost_ret (res_1 rfl _ _ (w.heap.size + 1) _ rfl (load_sl _ (gots_len os x u) (HL9.out.setRow _))) rfl ⟨rfl, below_setRow HI.out.bel (by omega) _⟩
end
end Go.Proofs.YtliakhknmckdgaaDoor

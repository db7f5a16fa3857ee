/- codec: number, by a writer, by a reader. -/
import Derived.Test.YtfclkkbmgclfgaaDoorCF
namespace Go.Proofs.YtfclkkbmgclfgaaDoor
open Go.RowKit
/-- the greatest number of two or four bytes -/
def gr (k : Nat) : Int := 256 ^ k - 1
set_option maxRecDepth 8000 in
theorem gr_of {k : Nat} (h : k = 2 ∨ k = 4) : greatestN k = some (gr k) := by
  rcases h with rfl | rfl <;> rfl
set_option maxRecDepth 8000 in
theorem rd_spl {w : World} {D : Nat} {td : TypeId} {cur : List Value} {l : List UInt8} (h : Blk w D td (spl cur 0 l).toArray) : Rd w (some ⟨D, 0, none⟩) l := by
  intro j hj
  refine ⟨D, 0, rfl, ?_⟩
  rw [h.cell]
  simp only [spl, List.take_zero, List.nil_append, List.getElem?_toArray]
  rw [List.getElem?_append_left (by rw [bv_length]; omega), bv_get, Nat.zero_add, List.getElem?_eq_getElem hj]
  rfl
set_option maxRecDepth 8000 in
theorem own_blk {w : World} {base n : Nat} {e : TypeId} {g cap : Nat} {xs : List Value} (h : w.ownsRow base e 1 (.slice (some ⟨g, 0, none⟩) n cap) n xs) : ∃ cur : List Value, Blk w g e cur.toArray ∧ n ≤ cur.length ∧ base ≤ g := by
  rcases h.2 with ⟨h', _⟩ | ⟨g', cap', cur, h', h1, h2, h3, h4, h5, h6⟩
  · cases h'
  · injection h' with ha hb hc
    injection ha with ha
    injection ha with ha
    subst ha; subst hc
    exact ⟨cur.toList, by show w.heap[g]? = some (.cells cur.toList.toArray e (0, 0)); simpa using h2, by simp; omega, h1⟩
set_option maxRecDepth 8000 in
theorem own_cell {w : World} {base n : Nat} {e : TypeId} {v : Value} {l : List UInt8} (hn : 0 < n) (h : w.ownsRow base e 1 v n (bv l)) : ∃ g cap, v = .slice (some ⟨g, 0, none⟩) n cap ∧ n ≤ cap ∧ base ≤ g ∧ g < w.heap.size ∧ Rd w (some ⟨g, 0, none⟩) l ∧ ∃ cur : List Value, Blk w g e cur.toArray ∧ n ≤ cur.length := by
  obtain ⟨g, cap, rfl, hc⟩ := own_some h hn
  obtain ⟨cur, hb, hcu, hbg⟩ := own_blk h
  exact ⟨g, cap, rfl, hc, hbg, hb.lt, Rd.of_own h, cur, hb, hcu⟩
set_option maxRecDepth 8000 in
set_option maxHeartbeats 800000 in
theorem numberI_w (g B K i : Nat) (t tk : TypeId) (n : Nat) (d : List UInt8) (N k : Nat) (cs : Array Value) (w : World) (hW : WrAt w g B t n d) (hK : Blk w K tk cs) (hv : cs[i]? = some (.int .i64 (N : Int))) (hk : k = 2 ∨ k = 4) (hN : N < 256 ^ k) (hfit : d.length + k ≤ n) (hg : K ≠ g) (hB : K ≠ B) :
    Calls Tryd.prog 46 #[wri g, .pointer (some ⟨K, i, none⟩), .int .i64 (k : Int)] w fun e w' => e = .returned (.tuple #[]) ∧ WrAt w' g B t n (d ++ bytesLE k N) ∧ Blk w' K tk cs ∧ Fr (fun j => j = g ∨ j = B ∨ j = K) w w' := by
  have hgr := gr_of hk
  have hle : (N : Int) ≤ gr k := by rcases hk with rfl | rfl <;> (simp only [gr]; omega)
  have hk0 : 0 < k := by omega
  have hc0 := (hK.cell i).trans hv
  have hm := met_w
  have hnum := numLE_bytesLE k N hN
  have HW := Lib.hid hW
  have HK := Lib.hid hK
  have HV := Lib.hid hv
  have HN := Lib.hid (And.intro hg hB)
  have HG := Lib.hid (And.intro hgr (And.intro hle hnum))
  have hl1 := hW.lt
  have hl2 := hW.ltB
  have hl3 := hK.lt
  clear hW hK hv hgr hle hk hN hnum
  go_enter Tryd.func46, Tryd.ntmps46
  go_wp2_with (first
    | (go_at_call 65; refine (put_yes N k (gr k) _ HG.out.1 HG.out.2.1).mono ?_; rintro e w1 ⟨v, rfl, hown, hb1⟩; obtain ⟨D, cap, rfl, hcap, hD0, hD1, hrd, -⟩ := own_cell hk0 hown; have hsz1 := hb1.size; have R1 := Lib.hid hrd; have B1 := Lib.hid hb1; clear hown hrd hb1 hc0)
    | (go_at_call 91; refine (wpass g B t n d (bytesLE k N) _ k _ _ (HW.out.below B1.out) (bytesLE_length k N) hk0 R1.out hfit (by intro a h; injection h with h; subst h; show D ≠ g; omega)).mono ?_; rintro e w2 ⟨rfl, hw2, hf2⟩; have hrd2 := R1.out.fr hf2 (by intro a h _; injection h with h; subst h; show ¬ (D = g ∨ D = B); omega); have hK2 := (hf2.block K (by omega) (by rintro (h | h); exact HN.out.1 h; exact HN.out.2 h)).trans (HK.out.keep B1.out); have H1 := Lib.hid hw2; have H2 := Lib.hid hf2; have H3 := Lib.hid hK2; have H4 := Lib.hid hrd2; have hsz2 := hf2.size; clear hw2 hf2 hK2 hrd2)
    | (go_at_call 66; refine (get_some _ k _ (bytesLE k N) (gr k) _ (bytesLE_length k N) H4.out HG.out.1).mono ?_; rintro e w3 ⟨rfl, hb3⟩; have hK3 := Blk.keep H3.out hb3; have hc3 := (Blk.cell hK3 i).trans HV.out; have hz3 := Blk.frozen hK3 i; have H5 := Lib.hid hb3; have H6 := Lib.hid hK3; clear hb3 hK3; rw [HG.out.2.2, if_pos HG.out.2.1]))
  go_end0
  have h3 := Blk.set_ H6.out i (.int .i64 (N : Int))
  rw [set_same HV.out] at h3
  have hf := (((Fr.of_below B1.out).trans (H2.out.mono (T := fun j => j = g ∨ j = B ∨ j = K) (fun j _ h => h.elim .inl (fun h => .inr (.inl h))))).below H5.out).setCell (p := ⟨K, i, none⟩) (fun _ => .inr (.inr rfl)) (.int .i64 (N : Int))
  exact ⟨rfl, (H1.out.below H5.out).keep (Below.heap_setCell _ _ _ _ (fun e => HN.out.1 e.symm)) (Below.heap_setCell _ _ _ _ (fun e => HN.out.2 e.symm)), h3, hf⟩
set_option maxRecDepth 8000 in
set_option maxHeartbeats 800000 in
theorem numberI_r (g s K i : Nat) (tk : TypeId) (l : List UInt8) (k : Nat) (cs : Array Value) (w : World) (hW : RdAt w g s l) (hK : Blk w K tk cs) (hv : cs[i]? = some (.int .i64 0)) (hk : k = 2 ∨ k = 4) (hkl : k ≤ l.length) (hg : K ≠ g) (hs : K ≠ s) :
    Calls Tryd.prog 46 #[rdi g, .pointer (some ⟨K, i, none⟩), .int .i64 (k : Int)] w fun e w' => e = .returned (.tuple #[]) ∧ RdAt w' g s (l.drop k) ∧ Blk w' K tk (cs.setIfInBounds i (.int .i64 (numLE (l.take k) : Int))) ∧ Fr (fun j => j = g ∨ j = K) w w' := by
  have hgr := gr_of hk
  have htl : (l.take k).length = k := by rw [List.length_take]; omega
  have hle : (numLE (l.take k) : Int) ≤ gr k := by
    have := numLE_lt (l.take k)
    rw [htl] at this
    rcases hk with rfl | rfl <;> (simp only [gr]; omega)
  have hle0 : ((0 : Nat) : Int) ≤ gr k := by omega
  have hk0 : 0 < k := by omega
  have hc0 := (hK.cell i).trans hv
  have hm := met_r
  have HW := Lib.hid hW
  have HK := Lib.hid hK
  have HV := Lib.hid hv
  have HN := Lib.hid (And.intro hg hs)
  have HG := Lib.hid (And.intro hgr (And.intro hle (And.intro hle0 htl)))
  have hl1 := hW.lt
  have hl2 := hW.lts
  have hl3 := hK.lt
  clear hW hK hv hgr hle hle0 hk htl
  go_enter Tryd.func46, Tryd.ntmps46
  go_wp2_with (first
    | (go_at_call 65; refine (put_yes 0 k (gr k) _ HG.out.1 HG.out.2.2.1).mono ?_; rintro e w1 ⟨v, rfl, hown, hb1⟩; obtain ⟨D, cap, rfl, hcap, hD0, hD1, hrd, cur, hbD, hcur⟩ := own_cell hk0 hown; have hsz1 := hb1.size; have R1 := Lib.hid hbD; have B1 := Lib.hid hb1; clear hown hrd hb1 hc0 hbD)
    | (go_at_call 93; refine (rpass g s D _ l cur 0 k _ _ (HW.out.below B1.out) R1.out hkl (by omega) (by omega) (by omega)).mono ?_; rintro e w2 ⟨rfl, hw2, hbD2, hf2⟩; have hrd2 := rd_spl hbD2; have hK2 := (hf2.block K (by omega) (by rintro (h | h); exact HN.out.1 h; omega)).trans (HK.out.keep B1.out); have H1 := Lib.hid hw2; have H2 := Lib.hid hf2; have H3 := Lib.hid hK2; have H4 := Lib.hid hrd2; have hsz2 := hf2.size; clear hw2 hf2 hK2 hrd2 hbD2)
    | (go_at_call 66; refine (get_some _ k _ (l.take k) (gr k) _ HG.out.2.2.2 H4.out HG.out.1).mono ?_; rintro e w3 ⟨rfl, hb3⟩; have hK3 := Blk.keep H3.out hb3; have hc3 := (Blk.cell hK3 i).trans HV.out; have hz3 := Blk.frozen hK3 i; have H5 := Lib.hid hb3; have H6 := Lib.hid hK3; clear hb3 hK3; rw [if_pos HG.out.2.1]))
  go_end0
  have h3 := Blk.set_ H6.out i (.int .i64 (numLE (l.take k) : Int))
  have hf := ((((Fr.of_below (S := fun j => j = g ∨ j = K) B1.out).then_ H2.out (fun j hj h => h.elim .inl (fun h => by omega))).below H5.out).setCell (p := ⟨K, i, none⟩) (fun _ => .inr rfl) (.int .i64 (numLE (l.take k) : Int)))
  have h1 := (H1.out.below H5.out).fr ((Fr.refl (fun j => j = K) _).setCell (p := ⟨K, i, none⟩) (fun _ => rfl) (.int .i64 (numLE (l.take k) : Int))) (fun e => HN.out.1 e.symm) (fun e => HN.out.2 e.symm)
  exact ⟨rfl, h1, h3, hf⟩
set_option maxRecDepth 8000 in
set_option maxHeartbeats 800000 in
theorem numberI_no (g s K i : Nat) (tk : TypeId) (l : List UInt8) (k : Nat) (cs : Array Value) (w : World) (hW : RdAt w g s l) (hK : Blk w K tk cs) (hv : cs[i]? = some (.int .i64 0)) (hk : k = 2 ∨ k = 4) (hkl : l.length < k) :
    Calls Tryd.prog 46 #[rdi g, .pointer (some ⟨K, i, none⟩), .int .i64 (k : Int)] w fun e w' => e = .panicked (erc 151) ∧ Below w.heap.size w w' := by
  have hgr := gr_of hk
  have hle0 : ((0 : Nat) : Int) ≤ gr k := by rcases hk with rfl | rfl <;> decide
  have hk0 : 0 < k := by omega
  have hc0 := (hK.cell i).trans hv
  have hm := met_r
  have HW := Lib.hid hW
  have HG := Lib.hid (And.intro hgr hle0)
  clear hW hK hv hgr hle0 hk
  go_enter Tryd.func46, Tryd.ntmps46
  go_wp2_with (first
    | (go_at_call 65; refine (put_yes 0 k (gr k) _ HG.out.1 HG.out.2).mono ?_; rintro e w1 ⟨v, rfl, hown, hb1⟩; obtain ⟨D, cap, rfl, hcap, hD0, hD1, hrd, -⟩ := own_cell hk0 hown; have B1 := Lib.hid hb1; clear hown hrd hb1 hc0)
    | (go_at_call 93; refine (rpass_no g s l _ k _ _ (HW.out.below B1.out) hkl).mono ?_; rintro e w2 ⟨rfl, rfl⟩))
  exact ⟨rfl, rfl, B1.out⟩
set_option maxRecDepth 8000 in
set_option maxHeartbeats 800000 in
theorem numberL_w (g B K i : Nat) (t tk : TypeId) (n : Nat) (d : List UInt8) (N k : Nat) (cs : Array Value) (w : World) (hW : WrAt w g B t n d) (hK : Blk w K tk cs) (hv : cs[i]? = some (.int .i64 (N : Int))) (hk : k = 2 ∨ k = 4) (hN : N < 256 ^ k) (hfit : d.length + k ≤ n) (hg : K ≠ g) (hB : K ≠ B) :
    Calls Tryd.prog 48 #[wri g, .pointer (some ⟨K, i, none⟩), .int .i64 (k : Int)] w fun e w' => e = .returned (.tuple #[]) ∧ WrAt w' g B t n (d ++ bytesLE k N) ∧ Blk w' K tk cs ∧ Fr (fun j => j = g ∨ j = B ∨ j = K) w w' := by
  have hgr := gr_of hk
  have hle : (N : Int) ≤ gr k := by rcases hk with rfl | rfl <;> (simp only [gr]; omega)
  have hk0 : 0 < k := by omega
  have hc0 := (hK.cell i).trans hv
  have hm := met_w
  have hnum := numLE_bytesLE k N hN
  have HW := Lib.hid hW
  have HK := Lib.hid hK
  have HV := Lib.hid hv
  have HN := Lib.hid (And.intro hg hB)
  have HG := Lib.hid (And.intro hgr (And.intro hle hnum))
  have hl1 := hW.lt
  have hl2 := hW.ltB
  have hl3 := hK.lt
  clear hW hK hv hgr hle hk hN hnum
  go_enter Tryd.func48, Tryd.ntmps48
  go_wp2_with (first
    | (go_at_call 65; refine (put_yes N k (gr k) _ HG.out.1 HG.out.2.1).mono ?_; rintro e w1 ⟨v, rfl, hown, hb1⟩; obtain ⟨D, cap, rfl, hcap, hD0, hD1, hrd, -⟩ := own_cell hk0 hown; have hsz1 := hb1.size; have R1 := Lib.hid hrd; have B1 := Lib.hid hb1; clear hown hrd hb1 hc0)
    | (go_at_call 91; refine (wpass g B t n d (bytesLE k N) _ k _ _ (HW.out.below B1.out) (bytesLE_length k N) hk0 R1.out hfit (by intro a h; injection h with h; subst h; show D ≠ g; omega)).mono ?_; rintro e w2 ⟨rfl, hw2, hf2⟩; have hrd2 := R1.out.fr hf2 (by intro a h _; injection h with h; subst h; show ¬ (D = g ∨ D = B); omega); have hK2 := (hf2.block K (by omega) (by rintro (h | h); exact HN.out.1 h; exact HN.out.2 h)).trans (HK.out.keep B1.out); have H1 := Lib.hid hw2; have H2 := Lib.hid hf2; have H3 := Lib.hid hK2; have H4 := Lib.hid hrd2; have hsz2 := hf2.size; clear hw2 hf2 hK2 hrd2)
    | (go_at_call 66; refine (get_some _ k _ (bytesLE k N) (gr k) _ (bytesLE_length k N) H4.out HG.out.1).mono ?_; rintro e w3 ⟨rfl, hb3⟩; have hK3 := Blk.keep H3.out hb3; have hc3 := (Blk.cell hK3 i).trans HV.out; have hz3 := Blk.frozen hK3 i; have H5 := Lib.hid hb3; have H6 := Lib.hid hK3; clear hb3 hK3; rw [HG.out.2.2, if_pos HG.out.2.1]))
  go_end0
  have h3 := Blk.set_ H6.out i (.int .i64 (N : Int))
  rw [set_same HV.out] at h3
  have hf := (((Fr.of_below B1.out).trans (H2.out.mono (T := fun j => j = g ∨ j = B ∨ j = K) (fun j _ h => h.elim .inl (fun h => .inr (.inl h))))).below H5.out).setCell (p := ⟨K, i, none⟩) (fun _ => .inr (.inr rfl)) (.int .i64 (N : Int))
  exact ⟨rfl, (H1.out.below H5.out).keep (Below.heap_setCell _ _ _ _ (fun e => HN.out.1 e.symm)) (Below.heap_setCell _ _ _ _ (fun e => HN.out.2 e.symm)), h3, hf⟩
set_option maxRecDepth 8000 in
set_option maxHeartbeats 800000 in
theorem numberL_r (g s K i : Nat) (tk : TypeId) (l : List UInt8) (k : Nat) (cs : Array Value) (w : World) (hW : RdAt w g s l) (hK : Blk w K tk cs) (hv : cs[i]? = some (.int .i64 0)) (hk : k = 2 ∨ k = 4) (hkl : k ≤ l.length) (hg : K ≠ g) (hs : K ≠ s) :
    Calls Tryd.prog 48 #[rdi g, .pointer (some ⟨K, i, none⟩), .int .i64 (k : Int)] w fun e w' => e = .returned (.tuple #[]) ∧ RdAt w' g s (l.drop k) ∧ Blk w' K tk (cs.setIfInBounds i (.int .i64 (numLE (l.take k) : Int))) ∧ Fr (fun j => j = g ∨ j = K) w w' := by
  have hgr := gr_of hk
  have htl : (l.take k).length = k := by rw [List.length_take]; omega
  have hle : (numLE (l.take k) : Int) ≤ gr k := by
    have := numLE_lt (l.take k)
    rw [htl] at this
    rcases hk with rfl | rfl <;> (simp only [gr]; omega)
  have hle0 : ((0 : Nat) : Int) ≤ gr k := by omega
  have hk0 : 0 < k := by omega
  have hc0 := (hK.cell i).trans hv
  have hm := met_r
  have HW := Lib.hid hW
  have HK := Lib.hid hK
  have HV := Lib.hid hv
  have HN := Lib.hid (And.intro hg hs)
  have HG := Lib.hid (And.intro hgr (And.intro hle (And.intro hle0 htl)))
  have hl1 := hW.lt
  have hl2 := hW.lts
  have hl3 := hK.lt
  clear hW hK hv hgr hle hle0 hk htl
  go_enter Tryd.func48, Tryd.ntmps48
  go_wp2_with (first
    | (go_at_call 65; refine (put_yes 0 k (gr k) _ HG.out.1 HG.out.2.2.1).mono ?_; rintro e w1 ⟨v, rfl, hown, hb1⟩; obtain ⟨D, cap, rfl, hcap, hD0, hD1, hrd, cur, hbD, hcur⟩ := own_cell hk0 hown; have hsz1 := hb1.size; have R1 := Lib.hid hbD; have B1 := Lib.hid hb1; clear hown hrd hb1 hc0 hbD)
    | (go_at_call 93; refine (rpass g s D _ l cur 0 k _ _ (HW.out.below B1.out) R1.out hkl (by omega) (by omega) (by omega)).mono ?_; rintro e w2 ⟨rfl, hw2, hbD2, hf2⟩; have hrd2 := rd_spl hbD2; have hK2 := (hf2.block K (by omega) (by rintro (h | h); exact HN.out.1 h; omega)).trans (HK.out.keep B1.out); have H1 := Lib.hid hw2; have H2 := Lib.hid hf2; have H3 := Lib.hid hK2; have H4 := Lib.hid hrd2; have hsz2 := hf2.size; clear hw2 hf2 hK2 hrd2 hbD2)
    | (go_at_call 66; refine (get_some _ k _ (l.take k) (gr k) _ HG.out.2.2.2 H4.out HG.out.1).mono ?_; rintro e w3 ⟨rfl, hb3⟩; have hK3 := Blk.keep H3.out hb3; have hc3 := (Blk.cell hK3 i).trans HV.out; have hz3 := Blk.frozen hK3 i; have H5 := Lib.hid hb3; have H6 := Lib.hid hK3; clear hb3 hK3; rw [if_pos HG.out.2.1]))
  go_end0
  have h3 := Blk.set_ H6.out i (.int .i64 (numLE (l.take k) : Int))
  have hf := ((((Fr.of_below (S := fun j => j = g ∨ j = K) B1.out).then_ H2.out (fun j hj h => h.elim .inl (fun h => by omega))).below H5.out).setCell (p := ⟨K, i, none⟩) (fun _ => .inr rfl) (.int .i64 (numLE (l.take k) : Int)))
  have h1 := (H1.out.below H5.out).fr ((Fr.refl (fun j => j = K) _).setCell (p := ⟨K, i, none⟩) (fun _ => rfl) (.int .i64 (numLE (l.take k) : Int))) (fun e => HN.out.1 e.symm) (fun e => HN.out.2 e.symm)
  exact ⟨rfl, h1, h3, hf⟩
set_option maxRecDepth 8000 in
set_option maxHeartbeats 800000 in
theorem numberL_no (g s K i : Nat) (tk : TypeId) (l : List UInt8) (k : Nat) (cs : Array Value) (w : World) (hW : RdAt w g s l) (hK : Blk w K tk cs) (hv : cs[i]? = some (.int .i64 0)) (hk : k = 2 ∨ k = 4) (hkl : l.length < k) :
    Calls Tryd.prog 48 #[rdi g, .pointer (some ⟨K, i, none⟩), .int .i64 (k : Int)] w fun e w' => e = .panicked (erc 151) ∧ Below w.heap.size w w' := by
  have hgr := gr_of hk
  have hle0 : ((0 : Nat) : Int) ≤ gr k := by rcases hk with rfl | rfl <;> decide
  have hk0 : 0 < k := by omega
  have hc0 := (hK.cell i).trans hv
  have hm := met_r
  have HW := Lib.hid hW
  have HG := Lib.hid (And.intro hgr hle0)
  clear hW hK hv hgr hle0 hk
  go_enter Tryd.func48, Tryd.ntmps48
  go_wp2_with (first
    | (go_at_call 65; refine (put_yes 0 k (gr k) _ HG.out.1 HG.out.2).mono ?_; rintro e w1 ⟨v, rfl, hown, hb1⟩; obtain ⟨D, cap, rfl, hcap, hD0, hD1, hrd, -⟩ := own_cell hk0 hown; have B1 := Lib.hid hb1; clear hown hrd hb1 hc0)
    | (go_at_call 93; refine (rpass_no g s l _ k _ _ (HW.out.below B1.out) hkl).mono ?_; rintro e w2 ⟨rfl, rfl⟩))
  exact ⟨rfl, rfl, B1.out⟩
theorem numberI_w2 (g B K i : Nat) (t tk : TypeId) (n : Nat) (d : List UInt8) (N : Nat) (cs : Array Value) (w : World) (hW : WrAt w g B t n d) (hK : Blk w K tk cs) (hv : cs[i]? = some (.int .i64 (N : Int))) (hN : N < 256 ^ 2) (hfit : d.length + 2 ≤ n) (hg : K ≠ g) (hB : K ≠ B) :
    Calls Tryd.prog 46 #[wri g, .pointer (some ⟨K, i, none⟩), .int .i64 2] w fun e w' => e = .returned (.tuple #[]) ∧ WrAt w' g B t n (d ++ bytesLE 2 N) ∧ Blk w' K tk cs ∧ Fr (fun j => j = g ∨ j = B ∨ j = K) w w' := numberI_w g B K i t tk n d N 2 cs w hW hK hv (.inl rfl) hN hfit hg hB
theorem numberI_r2 (g s K i : Nat) (tk : TypeId) (l : List UInt8) (cs : Array Value) (w : World) (hW : RdAt w g s l) (hK : Blk w K tk cs) (hv : cs[i]? = some (.int .i64 0)) (hkl : 2 ≤ l.length) (hg : K ≠ g) (hs : K ≠ s) :
    Calls Tryd.prog 46 #[rdi g, .pointer (some ⟨K, i, none⟩), .int .i64 2] w fun e w' => e = .returned (.tuple #[]) ∧ RdAt w' g s (l.drop 2) ∧ Blk w' K tk (cs.setIfInBounds i (.int .i64 (numLE (l.take 2) : Int))) ∧ Fr (fun j => j = g ∨ j = K) w w' := numberI_r g s K i tk l 2 cs w hW hK hv (.inl rfl) hkl hg hs
theorem numberI_no2 (g s K i : Nat) (tk : TypeId) (l : List UInt8) (cs : Array Value) (w : World) (hW : RdAt w g s l) (hK : Blk w K tk cs) (hv : cs[i]? = some (.int .i64 0)) (hkl : l.length < 2) :
    Calls Tryd.prog 46 #[rdi g, .pointer (some ⟨K, i, none⟩), .int .i64 2] w fun e w' => e = .panicked (erc 151) ∧ Below w.heap.size w w' := numberI_no g s K i tk l 2 cs w hW hK hv (.inl rfl) hkl
theorem numberL_w4 (g B K i : Nat) (t tk : TypeId) (n : Nat) (d : List UInt8) (N : Nat) (cs : Array Value) (w : World) (hW : WrAt w g B t n d) (hK : Blk w K tk cs) (hv : cs[i]? = some (.int .i64 (N : Int))) (hN : N < 256 ^ 4) (hfit : d.length + 4 ≤ n) (hg : K ≠ g) (hB : K ≠ B) :
    Calls Tryd.prog 48 #[wri g, .pointer (some ⟨K, i, none⟩), .int .i64 4] w fun e w' => e = .returned (.tuple #[]) ∧ WrAt w' g B t n (d ++ bytesLE 4 N) ∧ Blk w' K tk cs ∧ Fr (fun j => j = g ∨ j = B ∨ j = K) w w' := numberL_w g B K i t tk n d N 4 cs w hW hK hv (.inr rfl) hN hfit hg hB
theorem numberL_r4 (g s K i : Nat) (tk : TypeId) (l : List UInt8) (cs : Array Value) (w : World) (hW : RdAt w g s l) (hK : Blk w K tk cs) (hv : cs[i]? = some (.int .i64 0)) (hkl : 4 ≤ l.length) (hg : K ≠ g) (hs : K ≠ s) :
    Calls Tryd.prog 48 #[rdi g, .pointer (some ⟨K, i, none⟩), .int .i64 4] w fun e w' => e = .returned (.tuple #[]) ∧ RdAt w' g s (l.drop 4) ∧ Blk w' K tk (cs.setIfInBounds i (.int .i64 (numLE (l.take 4) : Int))) ∧ Fr (fun j => j = g ∨ j = K) w w' := numberL_r g s K i tk l 4 cs w hW hK hv (.inr rfl) hkl hg hs
theorem numberL_no4 (g s K i : Nat) (tk : TypeId) (l : List UInt8) (cs : Array Value) (w : World) (hW : RdAt w g s l) (hK : Blk w K tk cs) (hv : cs[i]? = some (.int .i64 0)) (hkl : l.length < 4) :
    Calls Tryd.prog 48 #[rdi g, .pointer (some ⟨K, i, none⟩), .int .i64 4] w fun e w' => e = .panicked (erc 151) ∧ Below w.heap.size w w' := numberL_no g s K i tk l 4 cs w hW hK hv (.inr rfl) hkl
end Go.Proofs.YtfclkkbmgclfgaaDoor

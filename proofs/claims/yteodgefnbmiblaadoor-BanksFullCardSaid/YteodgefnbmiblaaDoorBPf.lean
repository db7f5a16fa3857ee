/- banks: what stands behind a making, a giving, a split: plain. -/
import Derived.Test.YteodgefnbmiblaaDoorBSl
namespace Go.Proofs.YteodgefnbmiblaaDoor
open Go.RowKit
set_option maxRecDepth 8000 in
theorem key_ok {kk : Int} (hk : kk = 2 ∨ kk = 3 ∨ kk = 4) {o : Nat} {c : Int} (ho : o < 64) (hc : 0 ≤ c ∧ c ≤ 4294967295) : (⟨kk, (o : Int), c, 0, 0, 0⟩ : Ky).ok := by
  show OkK kk (o : Int) c 0 0 0
  rcases hk with rfl | rfl | rfl
  · exact ⟨2, rfl, by decide, by omega, (show (o : Int) ≤ kOid 2 by rw [show kOid 2 = 63 from rfl]; omega), hc.1, (show c ≤ kCnt 2 by rw [show kCnt 2 = 4294967295 from rfl]; exact hc.2), by decide, by decide, by decide, by decide, .inl rfl⟩
  · exact ⟨3, rfl, by decide, by omega, (show (o : Int) ≤ kOid 3 by rw [show kOid 3 = 63 from rfl]; omega), hc.1, (show c ≤ kCnt 3 by rw [show kCnt 3 = 4294967295 from rfl]; exact hc.2), by decide, by decide, by decide, by decide, .inl rfl⟩
  · exact ⟨4, rfl, by decide, by omega, (show (o : Int) ≤ kOid 4 by rw [show kOid 4 = 63 from rfl]; omega), hc.1, (show c ≤ kCnt 4 by rw [show kCnt 4 = 4294967295 from rfl]; exact hc.2), by decide, by decide, by decide, by decide, .inl rfl⟩
set_option maxRecDepth 8000 in
theorem named_mk {os : List Oj} {z : Ky} {j : Nat} {u : Oj} (hok : z.ok) (h2 : 2 ≤ z.k ∧ z.k ≤ 7) (ho : z.o = (j : Int)) (hu : os[j]? = some u) (hw : (if z.k = 3 then 2 else 1) = u.k) (hc : z.c = u.c) (hl : z.k ≠ 7 ∨ z.l = u.l) : named os z = some u := by
  have hof : z.of := ⟨hok, h2⟩
  rw [named_is hof, show z.o.toNat = j by omega, hu, Option.filter_some, if_pos]
  show z.cnt u.k u.c u.l = true
  refine cnt_yes ⟨hok, fun _ => ⟨?_, hc, hl⟩⟩
  unfold Ky.want
  rw [if_pos hof]
  exact hw
set_option maxRecDepth 8000 in
theorem NmD.w {os : List Oj} {x : Ky} {j : Nat} {u : Oj} (d : NmD os x j u) : (if x.k = 3 then 2 else 1) = u.k ∧ 2 ≤ x.k ∧ x.k ≤ 7 := by
  have hof := named_of (os := os) (x := x) (by rw [d.nm]; rfl)
  have := d.want
  unfold Ky.want at this
  rw [if_pos hof] at this
  exact ⟨this, hof.2⟩
/-- a key that counts goes on to count, where its object has the same kind, count and calls -/
theorem NmD.move {os os' : List Oj} {x : Ky} {j : Nat} {u u' : Oj} (d : NmD os x j u) (hu : os'[j]? = some u') (hk : u'.k = u.k) (hc : u'.c = u.c) (hl : u'.l = u.l) : named os' x = some u' :=
  named_mk d.ok d.w.2 d.o hu (by rw [hk]; exact d.w.1) (by rw [hc]; exact d.cc) (by rw [hl]; exact d.ll)
theorem slotAs_k (u : Oj) (i : Nat) (v : Ky) : (slotAs u i v).k = u.k ∧ (slotAs u i v).c = u.c ∧ (slotAs u i v).l = u.l := ⟨rfl, rfl, rfl⟩
/-- slots 0 and 1 are the numbers f and l -/
def bnkO (u : Oj) (f l : Int) : Oj := slotAs (slotAs u 0 (nK f)) 1 (nK l)
theorem bnkO_k (u : Oj) (f l : Int) : (bnkO u f l).k = u.k ∧ (bnkO u f l).c = u.c ∧ (bnkO u f l).l = u.l := ⟨rfl, rfl, rfl⟩
set_option maxRecDepth 8000 in
theorem bnkO_0 (u : Oj) (f l : Int) : sl0 (bnkO u f l) = nK f := by
  unfold sl0
  show ((((u.s.set 0 (nK f)).set 1 (nK l))[0]?).getD zk) = nK f
  rw [List.getElem?_set_ne (by decide), List.getElem?_set_self (by rw [u.hs]; decide)]
  rfl
set_option maxRecDepth 8000 in
theorem bnkO_1 (u : Oj) (f l : Int) : sl1 (bnkO u f l) = nK l := by
  unfold sl1
  show ((((u.s.set 0 (nK f)).set 1 (nK l))[1]?).getD zk) = nK l
  rw [List.getElem?_set_self (by rw [List.length_set, u.hs]; decide)]
  rfl
set_option maxRecDepth 8000 in
theorem putA_nk {os : List Oj} {z : Ky} {j : Nat} {u : Oj} (d : NmD os z j u) (hk : z.k = 2) (hr : z.r = 0) (i : Nat) (hi : i < 16) (v : Int) : (putA os z (i : Int) (nK v)).1 = os.set j (slotAs u i (nK v)) := by
  have ha : askN os z := ⟨by rw [d.nm]; rfl, hk⟩
  unfold putA
  rw [if_pos ha, if_pos (by rw [hr]; rfl), if_pos ⟨by omega, by omega⟩, if_pos (nK_may _ _), d.nm, nK_prepd]
  show os.set z.o.toNat (slotAs u ((i : Int)).toNat (nK v)) = _
  rw [show z.o.toNat = j by have := d.o; omega, Int.toNat_natCast]
set_option maxRecDepth 8000 in
theorem gvA_nk {os : List Oj} {z : Ky} {j : Nat} {u : Oj} (d : NmD os z j u) (hk : z.k = 2) (hr : z.r = 0) (f l : Int) : gvA os z f l = os.set j (bnkO u f l) := by
  have h0 := putA_nk d hk hr 0 (by decide) f
  unfold gvA
  rw [show ((0 : Int)) = ((0 : Nat) : Int) from rfl, h0]
  have hu' : (os.set j (slotAs u 0 (nK f)))[j]? = some (slotAs u 0 (nK f)) := List.getElem?_set_self d.lt
  obtain ⟨j2, d2⟩ := nm_d (d.move hu' rfl rfl rfl)
  obtain rfl : j = j2 := by have h1 := d.o; have h2 := d2.o; omega
  rw [show ((1 : Int)) = ((1 : Nat) : Int) from rfl, putA_nk d2 hk hr 1 (by decide) l, List.set_set]
  rfl
set_option maxRecDepth 8000 in
/-- what is no free object stays in a making -/
theorem mkL_keep {os : List Oj} {a b : Nat} {kind : Int} {i : Nat} {o : Oj} (h : os[i]? = some o) (hk : o.k ≠ 0) : (mkL os a b kind)[i]? = some o := by
  have ret : ∀ n, (retN os a n)[i]? = some o := fun n => by
    by_cases hr : i < a ∨ a + n ≤ i
    · rw [retN_out os a n i hr, h]
    · rw [retN_in os a n i (by omega) (by omega), h]
      show some (retO o) = some o
      unfold retO
      rw [if_neg hk]
  unfold mkL
  split
  · next j hj =>
    have hg := (fnd_some hj).2.1
    rw [List.getElem?_set_ne (fun e => by rw [e, h] at hg; exact hk hg.1), ret]
  · exact ret _
set_option maxRecDepth 8000 in
/-- what is made -/
theorem mkL_new {os : List Oj} {a b : Nat} {kind : Int} {j : Nat} (h : fnd os a (b + 1 - a) = some j) (hl : a + j < os.length) : (mkL os a b kind)[a + j]? = some (oKC kind (((os[a + j]?).getD oz).c + 1)) := by
  unfold mkL
  rw [h]
  exact List.getElem?_set_self (by rw [retN_len]; exact hl)
set_option maxRecDepth 8000 in
theorem BkD.nmd {os : List Oj} {x : Ky} {j : Nat} {u : Oj} {a b : Nat} (d : BkD os x j u a b) : NmD os x j u := by
  obtain ⟨j', e⟩ := nm_d d.nm
  obtain rfl : j = j' := by have h1 := d.o; have h2 := e.o; omega
  exact e
set_option maxRecDepth 8000 in
/-- a bank stays one, where its node stays -/
theorem BkD.stay {os os' : List Oj} {x : Ky} {j : Nat} {u : Oj} {a b : Nat} (d : BkD os x j u a b) (hl : os'.length = os.length) (hu : os'[j]? = some u) : BkD os' x j u a b := by
  have hlt : j < os'.length := by rw [hl]; exact d.lt
  have hat : os'[j] = u := by rw [List.getElem?_eq_getElem hlt] at hu; exact Option.some.inj hu
  exact ⟨d.nmd.move hu rfl rfl rfl, d.k, d.ok, d.o, hlt, hat, d.uk, d.k0, d.k1, d.v0, d.v1, d.ab, by rw [hl]; exact d.bl⟩
theorem BkD.made {os : List Oj} {x : Ky} {j : Nat} {u : Oj} {a b : Nat} (d : BkD os x j u a b) (a' b' : Nat) (kind : Int) : BkD (mkL os a' b' kind) x j u a b :=
  d.stay (mkL_len _ _ _ _) (mkL_keep (by rw [List.getElem?_eq_getElem d.lt, d.at_]) (by rw [d.uk]; decide))
set_option maxRecDepth 8000 in
/-- a node that is made a bank is one -/
theorem bnkO_d {os : List Oj} {x : Ky} {j : Nat} {u : Oj} {a b : Nat} (hn : named os x = some (bnkO u (a : Int) (b : Int))) (hk : x.k = 4) (hu : u.k = 1) (hx : x.o = (j : Int)) (hab : a ≤ b) (hb : b < os.length) : BkD os x j (bnkO u (a : Int) (b : Int)) a b := by
  obtain ⟨j', e⟩ := nm_d hn
  obtain rfl : j = j' := by have h2 := e.o; omega
  exact ⟨hn, hk, e.ok, hx, e.lt, e.at_, hu, by rw [bnkO_0]; rfl, by rw [bnkO_1]; rfl, by rw [bnkO_0]; rfl, by rw [bnkO_1]; rfl, hab, hb⟩
section
variable {os : List Oj} {x : Ky} {j : Nat} {u : Oj} {a b i m : Nat}
set_option maxRecDepth 8000 in
/-- what a split leaves -/
theorem spL_is (ho : okAll os.length os) (d : BkD os x j u a b) (hN : os.length ≤ 64) (hf : fnd os a (b + 1 - a) = some i) (m : Nat) :
    spL os x.o u (mkK os (a + i) 2) a b m = ((mkL os a b 1).set (a + i) (bnkO (oKC 1 (((os[a + i]?).getD oz).c + 1)) (m : Int) (b : Int))).set j (bnkO u (a : Int) ((m : Int) - 1)) ∧ a + i ≠ j ∧ (mkK os (a + i) 2).ok := by
  obtain ⟨h1, h2, h3⟩ := fnd_some hf
  have hl : a + i < os.length := by have := d.bl; omega
  have hq : os[a + i]? = some os[a + i] := List.getElem?_eq_getElem hl
  have hok := ho _ (List.getElem_mem hl)
  have hc : ((os[a + i]?).getD oz).c = os[a + i].c := by rw [hq]; rfl
  have hne : a + i ≠ j := fun e => by
    have h4 := d.at_
    rw [hq, Option.getD_some] at h2
    have h5 : os[a + i] = u := by
      have h6 : os[a + i]? = os[j]? := by rw [e]
      rw [hq, List.getElem?_eq_getElem d.lt, h4] at h6
      exact Option.some.inj h6
    have h7 := h2.1
    rw [h5, d.uk] at h7
    exact absurd h7 (by decide)
  have hkk : (mkK os (a + i) 2).ok := key_ok (.inl rfl) (by omega) (by rw [hc]; rw [hq, Option.getD_some] at h2; exact ⟨by have := hok.2.1.1; omega, by have := h2.2; omega⟩)
  refine ⟨?_, hne, hkk⟩
  have hnew := mkL_new (kind := 1) hf hl
  obtain ⟨j1, d1⟩ := nm_d (named_mk (z := mkK os (a + i) 2) hkk ⟨(by decide : (2 : Int) ≤ 2), (by decide : (2 : Int) ≤ 7)⟩ rfl hnew rfl rfl (.inl (by decide : (2 : Int) ≠ 7)))
  obtain rfl : a + i = j1 := by have := d1.o; exact Int.ofNat_inj.1 this
  unfold spL
  rw [gvA_nk d1 rfl rfl]
  have hu2 : ((mkL os a b 1).set (a + i) (bnkO (oKC 1 (((os[a + i]?).getD oz).c + 1)) (m : Int) (b : Int)))[j]? = some u := by
    rw [List.getElem?_set_ne hne]
    exact mkL_keep (by rw [List.getElem?_eq_getElem d.lt, d.at_]) (by rw [d.uk]; decide)
  have hxo := d.o
  have huc := (ho _ (d.at_ ▸ List.getElem_mem d.lt : u ∈ os)).2.1
  have hown : (ownK x.o u).ok := by
    unfold ownK
    rw [hxo]
    exact key_ok (.inl rfl) (by have := d.lt; omega) huc
  obtain ⟨j2, d2⟩ := nm_d (named_mk (z := ownK x.o u) hown ⟨(by decide : (2 : Int) ≤ 2), (by decide : (2 : Int) ≤ 7)⟩ hxo hu2 (by rw [d.uk]; rfl) rfl (.inl (by decide : (2 : Int) ≠ 7)))
  obtain rfl : j = j2 := by have h5 := d2.o; have h6 : (ownK x.o u).o = x.o := rfl; omega
  exact gvA_nk d2 rfl rfl _ _
set_option maxRecDepth 8000 in
/-- behind a split there are two banks -/
theorem spL_banks (ho : okAll os.length os) (d : BkD os x j u a b) (hN : os.length ≤ 64) (hf : fnd os a (b + 1 - a) = some i) (hm1 : a < m) (hm2 : m ≤ b) :
    BkD (spL os x.o u (mkK os (a + i) 2) a b m) x j (bnkO u (a : Int) (((m - 1 : Nat)) : Int)) a (m - 1) ∧ BkD (spL os x.o u (mkK os (a + i) 2) a b m) (bnkK (mkK os (a + i) 2)) (a + i) (bnkO (oKC 1 (((os[a + i]?).getD oz).c + 1)) (m : Int) (b : Int)) m b := by
  obtain ⟨e, hne, hkk⟩ := spL_is ho d hN hf m
  have hl : a + i < os.length := by have := d.bl; have := (fnd_some hf).1; omega
  have hlen := spL_len os x.o u (mkK os (a + i) 2) a b m
  have em : ((m : Int) - 1) = (((m - 1 : Nat)) : Int) := by omega
  rw [em] at e
  have g1 : (spL os x.o u (mkK os (a + i) 2) a b m)[j]? = some (bnkO u (a : Int) (((m - 1 : Nat)) : Int)) := by
    rw [e]
    exact List.getElem?_set_self (by rw [List.length_set, mkL_len]; exact d.lt)
  have g2 : (spL os x.o u (mkK os (a + i) 2) a b m)[a + i]? = some (bnkO (oKC 1 (((os[a + i]?).getD oz).c + 1)) (m : Int) (b : Int)) := by
    rw [e, List.getElem?_set_ne (fun h => hne h.symm)]
    exact List.getElem?_set_self (by rw [mkL_len]; exact hl)
  refine ⟨bnkO_d (d.nmd.move g1 rfl rfl rfl) d.k d.uk d.o (by omega) (by rw [hlen]; have := d.bl; omega), ?_⟩
  have hkb : (bnkK (mkK os (a + i) 2)).ok := by
    have h2 := (fnd_some hf).2.1
    have hq : os[a + i]? = some os[a + i] := List.getElem?_eq_getElem hl
    have hok := ho _ (List.getElem_mem hl)
    exact key_ok (.inr (.inr rfl)) (by omega) (by show 0 ≤ ((os[a + i]?).getD oz).c + 1 ∧ ((os[a + i]?).getD oz).c + 1 ≤ 4294967295; rw [hq, Option.getD_some] at h2 ⊢; exact ⟨by have := hok.2.1.1; omega, by have := h2.2; omega⟩)
  exact bnkO_d (named_mk hkb ⟨(by decide : (2 : Int) ≤ 4), (by decide : (4 : Int) ≤ 7)⟩ rfl g2 rfl rfl (.inl (by decide : (4 : Int) ≠ 7))) rfl rfl rfl hm2 (by rw [hlen]; exact d.bl)
end
end Go.Proofs.YteodgefnbmiblaaDoor

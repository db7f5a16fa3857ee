/- procs: Invoke, Answer, Become, Told: what each does, of any store. -/
import Derived.Test.YtljfddeolapeaaaDoorJFn
namespace Go.Proofs.YtljfddeolapeaaaDoor
open Go.RowKit
theorem invA_arg {os : List Oj} {i : Int} {x : Ky} {md : Int} {m : Mg} (h : ¬ (1 ≤ md ∧ md ≤ 3) ∨ ¬ x.may os.length ∨ ¬ mayM os m) : invA os i x md m = (os, 2) := if_pos h
set_option maxRecDepth 8000 in
theorem invA_run {os : List Oj} {i : Int} {x : Ky} {md : Int} {m : Mg} (h1 : 1 ≤ md ∧ md ≤ 3) (h2 : x.may os.length) (h3 : mayM os m) (h : stA os i ≠ some 1) : invA os i x md m = (os, 230) := by
  unfold invA
  rw [if_neg (by rintro (q | q | q) <;> contradiction), if_pos h]
set_option maxRecDepth 8000 in
theorem invA_gone {os : List Oj} {i : Int} {x : Ky} {md : Int} {m : Mg} (h1 : 1 ≤ md ∧ md ≤ 3) (h2 : x.may os.length) (h3 : mayM os m) (h4 : stA os i = some 1) (h : ¬ ((named os x).isSome = true ∧ (x.k = 6 ∨ x.k = 7) ∧ stA os x.o ≠ none)) : invA os i x md m = (os, 231) := by
  unfold invA
  rw [if_neg (by rintro (q | q | q) <;> contradiction), if_neg (fun q => q h4), if_pos h]
set_option maxRecDepth 8000 in
theorem invA_busy {os : List Oj} {i : Int} {x : Ky} {md : Int} {m : Mg} (h1 : 1 ≤ md ∧ md ≤ 3) (h2 : x.may os.length) (h3 : mayM os m) (h4 : stA os i = some 1) (h5 : (named os x).isSome = true ∧ (x.k = 6 ∨ x.k = 7) ∧ stA os x.o ≠ none) (h : x.k = 6 ∧ ¬ mayS_ md i x.o (objA os x.o) ∨ x.k = 7 ∧ stA os x.o ≠ some 2) : invA os i x md m = (os, 232) := by
  unfold invA
  rw [if_neg (by rintro (q | q | q) <;> contradiction), if_neg (fun q => q h4), if_neg (fun q => q h5), if_pos h]
set_option maxRecDepth 8000 in
theorem invA_calls {os : List Oj} {i : Int} {x : Ky} {md : Int} {m : Mg} (h1 : 1 ≤ md ∧ md ≤ 3) (h2 : x.may os.length) (h3 : mayM os m) (h4 : stA os i = some 1) (h5 : (named os x).isSome = true ∧ (x.k = 6 ∨ x.k = 7) ∧ stA os x.o ≠ none) (h6 : ¬ (x.k = 6 ∧ ¬ mayS_ md i x.o (objA os x.o) ∨ x.k = 7 ∧ stA os x.o ≠ some 2)) (h : x.k = 7 ∧ (objA os x.o).l = 4294967295 ∨ md = 1 ∧ (objA os i).l = 4294967295) : invA os i x md m = (os, 233) := by
  unfold invA
  rw [if_neg (by rintro (q | q | q) <;> contradiction), if_neg (fun q => q h4), if_neg (fun q => q h5), if_neg h6, if_pos h]
theorem invA_d {os : List Oj} {i : Int} {x : Ky} {md : Int} {m : Mg} (h1 : 1 ≤ md ∧ md ≤ 3) (h2 : x.may os.length) (h3 : mayM os m) (h4 : stA os i = some 1) (h5 : (named os x).isSome = true ∧ (x.k = 6 ∨ x.k = 7) ∧ stA os x.o ≠ none) (h6 : ¬ (x.k = 6 ∧ ¬ mayS_ md i x.o (objA os x.o) ∨ x.k = 7 ∧ stA os x.o ≠ some 2)) (h7 : ¬ (x.k = 7 ∧ (objA os x.o).l = 4294967295 ∨ md = 1 ∧ (objA os i).l = 4294967295)) : ∃ a b s, InvD os i x md m a b s := invA_ok0 (by
  unfold invA
  rw [if_neg (by rintro (q | q | q) <;> contradiction), if_neg (fun q => q h4), if_neg (fun q => q h5), if_neg h6, if_neg h7])
theorem goB_yes {md : Int} (h : 1 ≤ md ∧ md ≤ 3) : goB md = true := decide_eq_true h
theorem goB_no {md : Int} (h : ¬ (1 ≤ md ∧ md ≤ 3)) : goB md = false := decide_eq_false h
section
variable {w : World} {base p : Nat} {A : Option Addr} {cap : Nat} {ps : List Nat} {os : List Oj}
theorem prep_ok (h : StAt w base p A cap ps os) (hn : 0 < os.length) (hT : Tab w) (m : Mg) (hm : mayM os m) : Calls Tryd.prog 38 #[pv p, m.val] w fun e w' => e = .returned (cntM os m).val ∧ Below w.heap.size w w' := (prep_in h hn hT m hm.1).mono fun e w' q => ⟨by
  rcases q.1 with q | q
  · exact q.2
  · exact absurd hm.2 q.1, q.2⟩
set_option maxRecDepth 8000 in
theorem prep_bad (h : StAt w base p A cap ps os) (hn : 0 < os.length) (hT : Tab w) (m : Mg) (hm : ¬ mayM os m) : Calls Tryd.prog 38 #[pv p, m.val] w fun e w' => e = .panicked (erc 2) ∧ Below w.heap.size w w' := by
  by_cases hd : m.d.length ≤ 32
  · exact (prep_in h hn hT m hd).mono fun e w' q => ⟨by
      rcases q.1 with q | q
      · exact absurd ⟨hd, q.1⟩ hm
      · exact q.2, q.2⟩
  · exact prep_long (pv p) m hd
set_option maxRecDepth 8000 in
theorem ct_bad (h : StAt w base p A cap ps os) (hn : 0 < os.length) (hT : Tab w) (x : Ky) (hb : ¬ ((named os x).isSome = true ∧ (x.k = 6 ∨ x.k = 7) ∧ stA os x.o ≠ none)) : Calls Tryd.prog 40 #[pv p, x.val] w fun e w' => e = .panicked (erc 231) ∧ Below w.heap.size w w' := by
  by_cases hk : x.k = 6 ∨ x.k = 7
  · have hkb : comB x.k = true := decide_eq_true hk
    by_cases hx : (named os x).isSome = true
    · exact ct_s h hn hT x hkb hx (Classical.byContradiction fun q => hb ⟨hx, hk, q⟩)
    · exact ct_n h hn hT x hkb (by simpa using hx)
  · exact ct_l h hn hT x (decide_eq_false hk)
set_option maxRecDepth 8000 in
theorem ct_6 (h : StAt w base p A cap ps os) (hn : 0 < os.length) (hT : Tab w) (x : Ky) (hk : x.k = 6) (hx : (named os x).isSome = true) (s : Int) (hs : stA os x.o = some s) : Calls Tryd.prog 40 #[pv p, x.val] w fun e w' => e = .returned (.tuple #[jv (some ⟨p, 0, none⟩) x.o (objA os x.o), .func (.func 90) #[] #[]]) ∧ Below w.heap.size w w' := by
  have := ct_y h hn hT x s (decide_eq_true (by omega)) hx hs
  rwa [show comV x.k = .func (.func 90) #[] #[] by rw [hk]; rfl] at this
set_option maxRecDepth 8000 in
theorem ct_7 (h : StAt w base p A cap ps os) (hn : 0 < os.length) (hT : Tab w) (x : Ky) (hk : x.k = 7) (hx : (named os x).isSome = true) (s : Int) (hs : stA os x.o = some s) : Calls Tryd.prog 40 #[pv p, x.val] w fun e w' => e = .returned (.tuple #[jv (some ⟨p, 0, none⟩) x.o (objA os x.o), .func (.func 91) #[] #[]]) ∧ Below w.heap.size w w' := by
  have := ct_y h hn hT x s (decide_eq_true (by omega)) hx hs
  rwa [show comV x.k = .func (.func 91) #[] #[] by rw [hk]; rfl] at this
set_option maxRecDepth 8000 in
theorem inv_all (h : StAt w base p A cap ps os) (ho : okAll os.length os) (hn : 0 < os.length) (hN : os.length ≤ 64) (hT : TabB base w) (i : Int) (x : Ky) (md : Int) (m : Mg) :
    Calls Tryd.prog 14 #[pv p, .int .i64 i, x.val, .int .i64 md, m.val] w fun e w' => e = .returned (.int .i64 (invA os i x md m).2) ∧ StAt w' base p A cap ps (invA os i x md m).1 ∧ Fr (fun k => k ∈ ps) w w' := by
  have hTW : ∀ {W}, Below w.heap.size w W → Tab W := fun hW => (hT.up h hW).tab
  by_cases hmd : 1 ≤ md ∧ md ≤ 3
  · have hgb := goB_yes hmd
    by_cases hx : x.may os.length
    · by_cases hm : mayM os m
      · by_cases hr : stA os i = some 1
        · by_cases hg : (named os x).isSome = true ∧ (x.k = 6 ∨ x.k = 7) ∧ stA os x.o ≠ none
          · obtain ⟨s, hs⟩ := Option.ne_none_iff_exists'.1 hg.2.2
            by_cases hb : x.k = 6 ∧ ¬ mayS_ md i x.o (objA os x.o) ∨ x.k = 7 ∧ stA os x.o ≠ some 2
            · rw [invA_busy hmd hx hm hr hg hb]
              rcases hb with ⟨hk, hq⟩ | ⟨hk, hq⟩
              · exact inv_no h hn i x md m 232 fun W hW hc => ic_com_s_no hc hgb 232 (fun V hV => mh_yes (h.below (hW.trans (hV.mono hW.size))) hn (hTW (hW.trans (hV.mono hW.size))) x hx) _ (fun V hV => prep_ok (h.below (hW.trans (hV.mono hW.size))) hn (hTW (hW.trans (hV.mono hW.size))) m hm) _ (fun V hV => run_yes (h.below (hW.trans (hV.mono hW.size))) hn i hr) _ (fun V hV => ct_6 (h.below (hW.trans (hV.mono hW.size))) hn (hTW (hW.trans (hV.mono hW.size))) x hk hg.1 s hs) fun V g hI => bs_no hI hq
              · exact inv_no h hn i x md m 232 fun W hW hc => ic_com_r_no hc hgb 232 (fun V hV => mh_yes (h.below (hW.trans (hV.mono hW.size))) hn (hTW (hW.trans (hV.mono hW.size))) x hx) _ (fun V hV => prep_ok (h.below (hW.trans (hV.mono hW.size))) hn (hTW (hW.trans (hV.mono hW.size))) m hm) _ (fun V hV => run_yes (h.below (hW.trans (hV.mono hW.size))) hn i hr) _ (fun V hV => ct_7 (h.below (hW.trans (hV.mono hW.size))) hn (hTW (hW.trans (hV.mono hW.size))) x hk hg.1 s hs) fun V g hI => br_busy hI hq
            · by_cases hc7 : x.k = 7 ∧ (objA os x.o).l = 4294967295
              · rw [invA_calls hmd hx hm hr hg hb (.inl hc7)]
                have hk := hc7.1
                exact inv_no h hn i x md m 233 fun W hW hc => ic_com_r_no hc hgb 233 (fun V hV => mh_yes (h.below (hW.trans (hV.mono hW.size))) hn (hTW (hW.trans (hV.mono hW.size))) x hx) _ (fun V hV => prep_ok (h.below (hW.trans (hV.mono hW.size))) hn (hTW (hW.trans (hV.mono hW.size))) m hm) _ (fun V hV => run_yes (h.below (hW.trans (hV.mono hW.size))) hn i hr) _ (fun V hV => ct_7 (h.below (hW.trans (hV.mono hW.size))) hn (hTW (hW.trans (hV.mono hW.size))) x hk hg.1 s hs) fun V g hI => br_calls hI (Classical.byContradiction fun q => hb (.inr ⟨hk, q⟩)) hc7.2
              · by_cases hc1 : md = 1 ∧ (objA os i).l = 4294967295
                · rw [invA_calls hmd hx hm hr hg hb (.inr hc1)]
                  have hgv : goV md = .func (.func 70) #[] #[] := by rw [hc1.1]; rfl
                  rcases hg.2.1 with hk | hk
                  · exact inv_no h hn i x md m 233 fun W hW hc => ic_go_s_no hc hgb hgv 233 (fun V hV => mh_yes (h.below (hW.trans (hV.mono hW.size))) hn (hTW (hW.trans (hV.mono hW.size))) x hx) _ (fun V hV => prep_ok (h.below (hW.trans (hV.mono hW.size))) hn (hTW (hW.trans (hV.mono hW.size))) m hm) _ (fun V hV => run_yes (h.below (hW.trans (hV.mono hW.size))) hn i hr) _ (fun V hV => ct_6 (h.below (hW.trans (hV.mono hW.size))) hn (hTW (hW.trans (hV.mono hW.size))) x hk hg.1 s hs) _ (fun V g hI => (bs_ok hI (Classical.byContradiction fun q => hb (.inl ⟨hk, q⟩))).mono fun e w' q => ⟨q.1, Blk.keep hI q.2, Fr.of_below q.2⟩) fun V g hI => (ca_no hI hc1.2).mono fun e w' q => ⟨q.1, q.2 ▸ Below.refl _ _⟩
                  · have hl : (objA os x.o).l ≠ 4294967295 := fun q => hc7 ⟨hk, q⟩
                    obtain ⟨b, hb', hbl⟩ := stA_in hg.2.2
                    have h0 := (hb' ▸ objA_ok ho b hbl : (objA os x.o).ok os.length).2.2.1
                    exact inv_no h hn i x md m 233 fun W hW hc => ic_go_r_no hc hgb hgv 233 (fun V hV => mh_yes (h.below (hW.trans (hV.mono hW.size))) hn (hTW (hW.trans (hV.mono hW.size))) x hx) _ (fun V hV => prep_ok (h.below (hW.trans (hV.mono hW.size))) hn (hTW (hW.trans (hV.mono hW.size))) m hm) _ (fun V hV => run_yes (h.below (hW.trans (hV.mono hW.size))) hn i hr) _ (fun V hV => ct_7 (h.below (hW.trans (hV.mono hW.size))) hn (hTW (hW.trans (hV.mono hW.size))) x hk hg.1 s hs) _ (fun V g hI => br_ok hI (Classical.byContradiction fun q => hb (.inr ⟨hk, q⟩)) hl h0) fun V g hI => (ca_no hI hc1.2).mono fun e w' q => ⟨q.1, q.2 ▸ Below.refl _ _⟩
                · obtain ⟨a, b, s, d⟩ := invA_d hmd hx hm hr hg hb (by rintro (q | q) <;> contradiction)
                  rw [d.eq]
                  have hok1 := d.okI ho
                  have hok2 := d.okT ho hN
                  have hpl := (h.lt p (.inl rfl)).2
                  have hbl := h.base_le
                  have hd : (cntM os m).d.length ≤ 32 := hm.1
                  have hTF : ∀ {W W' : World} {g : Nat}, w.heap.size ≤ g → Below w.heap.size w W → Fr (fun k => k = g ∨ k ∈ ps) W W' → Tab W' := fun {W W' g} hg hW hf => (hT.below ((hW.mono hbl).trans (fr_below hf (Nat.le_trans hbl hW.size) fun j hj q => by
                    rcases q with q | q
                    · omega
                    · have := (h.lt j (.inr (.inr q))).1
                      omega))).tab
                  rcases hg.2.1 with hk | hk
                  · rw [show toO x.k (objA os x.o) = objA os x.o by unfold toO; rw [if_neg (by omega)]] at hok2 ⊢
                    have hms := d.start hk
                    have hcom : ∀ (V : World) (g : Nat), IvB V g (cntM os m) md (some ⟨p, 0, none⟩) i (objA os i) x.o (objA os x.o) zk → Calls Tryd.prog 90 #[.pointer (some ⟨g, 0, none⟩)] V fun e w' => e = .returned (.tuple #[]) ∧ IvB w' g (cntM os m) md (some ⟨p, 0, none⟩) i (objA os i) x.o (objA os x.o) zk ∧ Fr (fun k => k = g) V w' := fun V g hI => (bs_ok hI hms).mono fun e w' q => ⟨q.1, Blk.keep hI q.2, Fr.of_below q.2⟩
                    rcases (show md = 1 ∨ md = 2 ∨ md = 3 by omega) with rfl | rfl | rfl
                    · exact inv_yes h hn i x 1 m _ fun W hW hs hc => ic_yes_s_ca hs hc hgb rfl (fun V hV => mh_yes (h.below (hW.trans (hV.mono hW.size))) hn (hTW (hW.trans (hV.mono hW.size))) x hx) _ (fun V hV => prep_ok (h.below (hW.trans (hV.mono hW.size))) hn (hTW (hW.trans (hV.mono hW.size))) m hm) _ (fun V hV => run_yes (h.below (hW.trans (hV.mono hW.size))) hn i hr) _ (fun V hV => ct_6 (h.below (hW.trans (hV.mono hW.size))) hn (hTW (hW.trans (hV.mono hW.size))) x hk d.nm s d.st) _ hcom _ _ (fun V g hI => ca_yes hI (d.call rfl)) _ (fun V g hg hs' hV hI => done_any hI hs' (fun W' hf => hTF (Nat.le_trans hW.size hg) (hW.trans (hV.mono hW.size)) hf) (by have := hW.size; omega) a b d.hi d.ho d.ha d.hb hok1 hok2 hd)
                    · exact inv_yes h hn i x 2 m _ fun W hW hs hc => ic_yes_s_se hs hc hgb rfl (fun V hV => mh_yes (h.below (hW.trans (hV.mono hW.size))) hn (hTW (hW.trans (hV.mono hW.size))) x hx) _ (fun V hV => prep_ok (h.below (hW.trans (hV.mono hW.size))) hn (hTW (hW.trans (hV.mono hW.size))) m hm) _ (fun V hV => run_yes (h.below (hW.trans (hV.mono hW.size))) hn i hr) _ (fun V hV => ct_6 (h.below (hW.trans (hV.mono hW.size))) hn (hTW (hW.trans (hV.mono hW.size))) x hk d.nm s d.st) _ hcom _ _ (fun V g hI => (se_any V g).mono fun e w' q => ⟨q.1, q.2 ▸ hI, q.2 ▸ Fr.refl _ _⟩) _ (fun V g hg hs' hV hI => done_any hI hs' (fun W' hf => hTF (Nat.le_trans hW.size hg) (hW.trans (hV.mono hW.size)) hf) (by have := hW.size; omega) a b d.hi d.ho d.ha d.hb hok1 hok2 hd)
                    · exact inv_yes h hn i x 3 m _ fun W hW hs hc => ic_yes_s_le hs hc hgb rfl (fun V hV => mh_yes (h.below (hW.trans (hV.mono hW.size))) hn (hTW (hW.trans (hV.mono hW.size))) x hx) _ (fun V hV => prep_ok (h.below (hW.trans (hV.mono hW.size))) hn (hTW (hW.trans (hV.mono hW.size))) m hm) _ (fun V hV => run_yes (h.below (hW.trans (hV.mono hW.size))) hn i hr) _ (fun V hV => ct_6 (h.below (hW.trans (hV.mono hW.size))) hn (hTW (hW.trans (hV.mono hW.size))) x hk d.nm s d.st) _ hcom _ _ (fun V g hI => le_any hI) _ (fun V g hg hs' hV hI => done_any hI hs' (fun W' hf => hTF (Nat.le_trans hW.size hg) (hW.trans (hV.mono hW.size)) hf) (by have := hW.size; omega) a b d.hi d.ho d.ha d.hb hok1 hok2 hd)
                  · rw [show toO x.k (objA os x.o) = callsAs (objA os x.o) ((objA os x.o).l + 1) by unfold toO; rw [if_pos hk]] at hok2 ⊢
                    obtain ⟨hs2, hl⟩ := d.res hk
                    have h0 := (d.ho ▸ objA_ok ho b d.hb : (objA os x.o).ok os.length).2.2.1
                    have hcom : ∀ (V : World) (g : Nat), IvB V g (cntM os m) md (some ⟨p, 0, none⟩) i (objA os i) x.o (objA os x.o) zk → Calls Tryd.prog 91 #[.pointer (some ⟨g, 0, none⟩)] V fun e w' => e = .returned (.tuple #[]) ∧ IvB w' g (cntM os m) md (some ⟨p, 0, none⟩) i (objA os i) x.o (callsAs (objA os x.o) ((objA os x.o).l + 1)) zk ∧ Fr (fun k => k = g) V w' := fun V g hI => br_ok hI (by have := d.st; rw [hs2] at this; exact this) hl h0
                    rcases (show md = 1 ∨ md = 2 ∨ md = 3 by omega) with rfl | rfl | rfl
                    · exact inv_yes h hn i x 1 m _ fun W hW hs hc => ic_yes_r_ca hs hc hgb rfl (fun V hV => mh_yes (h.below (hW.trans (hV.mono hW.size))) hn (hTW (hW.trans (hV.mono hW.size))) x hx) _ (fun V hV => prep_ok (h.below (hW.trans (hV.mono hW.size))) hn (hTW (hW.trans (hV.mono hW.size))) m hm) _ (fun V hV => run_yes (h.below (hW.trans (hV.mono hW.size))) hn i hr) _ (fun V hV => ct_7 (h.below (hW.trans (hV.mono hW.size))) hn (hTW (hW.trans (hV.mono hW.size))) x hk d.nm s d.st) _ hcom _ _ (fun V g hI => ca_yes hI (d.call rfl)) _ (fun V g hg hs' hV hI => done_any hI hs' (fun W' hf => hTF (Nat.le_trans hW.size hg) (hW.trans (hV.mono hW.size)) hf) (by have := hW.size; omega) a b d.hi d.ho d.ha d.hb hok1 hok2 hd)
                    · exact inv_yes h hn i x 2 m _ fun W hW hs hc => ic_yes_r_se hs hc hgb rfl (fun V hV => mh_yes (h.below (hW.trans (hV.mono hW.size))) hn (hTW (hW.trans (hV.mono hW.size))) x hx) _ (fun V hV => prep_ok (h.below (hW.trans (hV.mono hW.size))) hn (hTW (hW.trans (hV.mono hW.size))) m hm) _ (fun V hV => run_yes (h.below (hW.trans (hV.mono hW.size))) hn i hr) _ (fun V hV => ct_7 (h.below (hW.trans (hV.mono hW.size))) hn (hTW (hW.trans (hV.mono hW.size))) x hk d.nm s d.st) _ hcom _ _ (fun V g hI => (se_any V g).mono fun e w' q => ⟨q.1, q.2 ▸ hI, q.2 ▸ Fr.refl _ _⟩) _ (fun V g hg hs' hV hI => done_any hI hs' (fun W' hf => hTF (Nat.le_trans hW.size hg) (hW.trans (hV.mono hW.size)) hf) (by have := hW.size; omega) a b d.hi d.ho d.ha d.hb hok1 hok2 hd)
                    · exact inv_yes h hn i x 3 m _ fun W hW hs hc => ic_yes_r_le hs hc hgb rfl (fun V hV => mh_yes (h.below (hW.trans (hV.mono hW.size))) hn (hTW (hW.trans (hV.mono hW.size))) x hx) _ (fun V hV => prep_ok (h.below (hW.trans (hV.mono hW.size))) hn (hTW (hW.trans (hV.mono hW.size))) m hm) _ (fun V hV => run_yes (h.below (hW.trans (hV.mono hW.size))) hn i hr) _ (fun V hV => ct_7 (h.below (hW.trans (hV.mono hW.size))) hn (hTW (hW.trans (hV.mono hW.size))) x hk d.nm s d.st) _ hcom _ _ (fun V g hI => le_any hI) _ (fun V g hg hs' hV hI => done_any hI hs' (fun W' hf => hTF (Nat.le_trans hW.size hg) (hW.trans (hV.mono hW.size)) hf) (by have := hW.size; omega) a b d.hi d.ho d.ha d.hb hok1 hok2 hd)
          · rw [invA_gone hmd hx hm hr hg]
            exact inv_no h hn i x md m 231 fun W hW hc => ic_no4 hc hgb 231 (fun V hV => mh_yes (h.below (hW.trans (hV.mono hW.size))) hn (hTW (hW.trans (hV.mono hW.size))) x hx) _ (fun V hV => prep_ok (h.below (hW.trans (hV.mono hW.size))) hn (hTW (hW.trans (hV.mono hW.size))) m hm) _ (fun V hV => run_yes (h.below (hW.trans (hV.mono hW.size))) hn i hr) (fun V hV => ct_bad (h.below (hW.trans (hV.mono hW.size))) hn (hTW (hW.trans (hV.mono hW.size))) x hg)
        · rw [invA_run hmd hx hm hr]
          exact inv_no h hn i x md m 230 fun W hW hc => ic_no3 hc hgb 230 (fun V hV => mh_yes (h.below (hW.trans (hV.mono hW.size))) hn (hTW (hW.trans (hV.mono hW.size))) x hx) _ (fun V hV => prep_ok (h.below (hW.trans (hV.mono hW.size))) hn (hTW (hW.trans (hV.mono hW.size))) m hm) (fun V hV => run_no (h.below (hW.trans (hV.mono hW.size))) hn i hr)
      · rw [invA_arg (.inr (.inr hm))]
        exact inv_no h hn i x md m 2 fun W hW hc => ic_no2 hc hgb 2 (fun V hV => mh_yes (h.below (hW.trans (hV.mono hW.size))) hn (hTW (hW.trans (hV.mono hW.size))) x hx) (fun V hV => prep_bad (h.below (hW.trans (hV.mono hW.size))) hn (hTW (hW.trans (hV.mono hW.size))) m hm)
    · rw [invA_arg (.inr (.inl hx))]
      exact inv_no h hn i x md m 2 fun W hW hc => ic_no1 hc hgb 2 (fun V hV => mh_no (h.below (hW.trans (hV.mono hW.size))) hn (hTW (hW.trans (hV.mono hW.size))) x hx)
  · rw [invA_arg (.inl hmd)]
    exact inv_no h hn i x md m 2 fun W hW hc => ic_mode hc (goB_no hmd)
set_option maxRecDepth 8000 in
theorem ans_all (h : StAt w base p A cap ps os) (ho : okAll os.length os) (hn : 0 < os.length) (hT : TabB base w) (i : Int) (m : Mg) :
    Calls Tryd.prog 24 #[pv p, .int .i64 i, m.val] w fun e w' => e = .returned (.int .i64 (ansA os i m).2) ∧ StAt w' base p A cap ps (ansA os i m).1 ∧ Fr (fun k => k ∈ ps) w w' := by
  have hTW : ∀ {W}, Below w.heap.size w W → Tab W := fun hW => (hT.up h hW).tab
  unfold ansA
  by_cases hm : mayM os m
  · rw [if_neg (fun q => q hm)]
    by_cases hr : stA os i = some 1
    · rw [if_neg (fun q => q hr)]
      obtain ⟨j, hij, hj⟩ := stA_in (os := os) (i := i) (by rw [hr]; simp)
      have hk1 : (objA os i).k = 1 := stN_k (u := objA os i) (by unfold stA at hr; rw [hr]; simp)
      have hok := handO_ok (hij ▸ objA_ok ho j hj : (objA os i).ok os.length) hk1 (cntM_may os m) (zk_may _)
      rw [show i.toNat = j by omega]
      exact ans_yes h hn i m _ fun W hW hs hc => an_yes hs (hT.up h hW) m i j hij hj hm.1 hok hc.1 hc.2.1 hc.2.2 (fun V hV => prep_ok (h.below (hW.trans (hV.mono hW.size))) hn (hTW (hW.trans (hV.mono hW.size))) m hm) (fun V hV => run_yes (h.below (hW.trans (hV.mono hW.size))) hn i hr)
    · rw [if_pos hr]
      exact ans_no h hn i m 230 fun W hW hc => an_no2 m i hc.1 hc.2.1 hc.2.2 (fun V hV => prep_ok (h.below (hW.trans (hV.mono hW.size))) hn (hTW (hW.trans (hV.mono hW.size))) m hm) 230 (fun V hV => run_no (h.below (hW.trans (hV.mono hW.size))) hn i hr)
  · rw [if_pos hm]
    exact ans_no h hn i m 2 fun W hW hc => an_no1 m i hc.1 hc.2.1 hc.2.2 2 (fun V hV => prep_bad (h.below (hW.trans (hV.mono hW.size))) hn (hTW (hW.trans (hV.mono hW.size))) m hm)
set_option maxRecDepth 8000 in
theorem bec_all (h : StAt w base p A cap ps os) (ho : okAll os.length os) (hn : 0 < os.length) (hT : TabB base w) (i s : Int) :
    Calls Tryd.prog 26 #[pv p, .int .i64 i, .int .i64 s] w fun e w' => e = .returned (.int .i64 (becA os i s).2) ∧ StAt w' base p A cap ps (becA os i s).1 ∧ Fr (fun k => k ∈ ps) w w' := by
  unfold becA
  by_cases hk : (objA os i).k = 1
  · rw [if_pos hk]
    by_cases hs : 0 ≤ s ∧ s ≤ 2
    · rw [if_pos hs]
      obtain ⟨j, hij, hj⟩ := objA_node (os := os) (i := i) (by rw [hk]; decide)
      rw [show i.toNat = j by omega]
      exact bec_yes h hn i s _ fun W hW hs' hc => be_yes hs' hn (hT.up h hW) i s j hij hj hk hs (slotAs_ok (hij ▸ objA_ok ho j hj) hk 2 (nmk_may _ _)) hc.1 hc.2.1 hc.2.2
    · rw [if_neg hs]
      exact bec_no h hn i s 2 fun W hW hc => be_no2 (h.below hW) hn i s hk hs hc.1 hc.2.1 hc.2.2
  · rw [if_neg hk]
    exact bec_no h hn i s 230 fun W hW hc => be_no1 (h.below hW) hn i s hk hc.1 hc.2.1 hc.2.2
set_option maxRecDepth 8000 in
theorem tol_all (h : StAt w base p A cap ps os) (hn : 0 < os.length) (hT : Tab w) (i : Int) : Calls Tryd.prog 21 #[pv p, .int .i64 i] w fun e w' => e = .returned (.tuple #[(tolA os i).1.val, .int .i64 (tolA os i).2]) ∧ Below w.heap.size w w' := by
  unfold tolA
  cases hs : stA os i with
  | none =>
    rw [if_pos rfl]
    exact tol_no h hn i hs
  | some s =>
    rw [if_neg (by simp)]
    exact tol_yes h hn hT i s hs
end
end Go.Proofs.YtljfddeolapeaaaDoor

/- The document's Clear and Clone. -/
import Derived.Test.YtliakhknmckdgaaDoorNRef3
import Derived.Test.YtliakhknmckdgaaDoorNPrd
namespace Go.Proofs.YtliakhknmckdgaaDoor
open Go.RowKit
section
variable {w : World} {A : Option Addr} {l : List Oj} {n cap : Nat}
set_option maxRecDepth 8000 in
theorem slots_fit (o : Oj) (s : List Ky) (hs : s.length = 16) : (o.cells.take 3 ++ kcs s ++ o.cells.drop (3 + (kcs s).length)) = (slotsAs o s hs).cells := by
  have h1 : (kcs o.s).length = 96 := kcs_len o.hs
  have h2 : (kcs s).length = 96 := kcs_len hs
  unfold Oj.cells slotsAs
  simp [h1, h2]
set_option maxRecDepth 8000 in
theorem zks_sz : (Tryd.prog.info? 57).map (·.size) = some (kcs zks).length := by rw [zks_len]; exact size31
set_option maxRecDepth 8000 in
theorem rclear_err (x : Ky) (e : Int) (he : e ≠ 0) (ha : ∀ W, Below w.heap.size w W → Calls Tryd.prog 28 #[.slice A n cap, x.val, .int .i64 2, .bool true] W fun e' w' => e' = .returned (.int .i64 e) ∧ Below W.heap.size W w') :
    Calls Tryd.prog 26 #[.slice A n cap, x.val] w fun e_ w' => e_ = .returned (.tuple #[.slice A n cap, .int .i64 e]) ∧ Below w.heap.size w w' := by
  have HB0 := Lib.hid ((Below.refl w.heap.size w).alloc (Nat.le_refl _) (.cells (kc x.k x.o x.c x.l x.r x.v) 32))
  have HK0 := Lib.hid (Blk.new_of w 32 (kc x.k x.o x.c x.l x.r x.v) (g := w.heap.size) (by simp))
  have HA := Lib.hid ha
  have de' : (e != 0) = true := by simpa using he
  clear ha he
  obtain ⟨c0, c1, c2, c3, c4, c5⟩ := HK0.out.six
  go_enter Tryd.func26, Tryd.ntmps26
  go_wp2_with (first
    | (go_at_call 28; refine (HA.out _ HB0.out).mono ?_; rintro e_ w1 ⟨rfl, b1⟩; have HB1 := Lib.hid (HB0.out.trans (b1.mono HB0.out.size)); clear b1))
  go_ret2
  exact ⟨rfl, HB1.out⟩
set_option maxRecDepth 100000 in
set_option maxHeartbeats 4000000 in
theorem rclear_yes (hr : RdO w A l) (hn : l.length = n) (hl : n ≤ 1000) (h0 : 0 < n) (x : Ky) (hx : (named l x).isSome = true) (hk : x.k = 2) (hok : x.ok) (hr4 : x.r % 4 = 0) (j : Nat) (hj : j < l.length) (hxo : x.o = (j : Int)) :
    Calls Tryd.prog 26 #[.slice A n cap, x.val] w fun e w' => ∃ g' c', e = .returned (.tuple #[.slice (some ⟨g', 0, none⟩) n c', .int .i64 0]) ∧ w.heap.size ≤ g' ∧ RdO w' (some ⟨g', 0, none⟩) (l.set j (slotsAs l[j] zks rfl)) ∧ Below w.heap.size w w' := by
  have hz := z34
  have hbo := oz_len
  have HB0 := Lib.hid ((Below.refl w.heap.size w).alloc (Nat.le_refl _) (.cells (kc x.k x.o x.c x.l x.r x.v) 32))
  have HK0 := Lib.hid (Blk.new_of w 32 (kc x.k x.o x.c x.l x.r x.v) (g := w.heap.size) (by simp))
  have HR0s := Lib.hid hr
  have HR0 := Lib.hid (hr.alloc (.cells (kc x.k x.o x.c x.l x.r x.v) 32))
  have HX := Lib.hid hx
  have HKK := Lib.hid hk
  have HO := Lib.hid hok
  have HR4 := Lib.hid hr4
  obtain ⟨b, off, rfl, hob⟩ := hr j hj
  obtain ⟨u, hu⟩ : ∃ u, l[j] = u := ⟨_, rfl⟩
  rw [hu] at hob ⊢
  have HOB := Lib.hid hob
  have HXO := Lib.hid hxo
  have dj : (j : Int) < (n : Int) := by omega
  have HJ := Lib.hid (show j < n by omega)
  obtain ⟨U, hU⟩ : ∃ U, slotsAs u zks rfl = U := ⟨_, rfl⟩
  have HFT := Lib.hid (show 3 + (kcs zks).length ≤ u.cells.length by rw [zks_len, u.len]; omega)
  have HSE := Lib.hid (hU ▸ slots_fit u zks rfl)
  rw [hU]
  clear hU hj hxo hob hu
  have HN := Lib.hid hn
  have HL := Lib.hid hl
  have H0 := Lib.hid h0
  clear hr hn hl h0 hx hk hok hr4
  obtain ⟨c0, c1, c2, c3, c4, c5⟩ := HK0.out.six
  go_enter Tryd.func26, Tryd.ntmps26
  go_wp2_with (first
    | (go_at_call 28; refine (rask_yes_t HR0.out HN.out HL.out H0.out x HX.out HKK.out HO.out HR4.out).mono ?_; rintro e w1 ⟨rfl, b1⟩; have HB1 := Lib.hid (HB0.out.trans (b1.mono HB0.out.size)); have HK1 := Lib.hid (HK0.out.keep b1); clear c0 c1 c2 c3 c4 c5; obtain ⟨c0, c1, c2, c3, c4, c5⟩ := HK1.out.six; replace c1 := cell_eq c1 HXO.out; clear b1)
    | (refine wpList_yields (S := fun w' => ObAt w' b (off + j * 163) u) (y_ob (by rfl) (.tmp 18) (by rfl) b (off + j * 163) (by rfl) u (fun _ h => h)) (HOB.out.below HB1.out) ?_)
    | (refine wpList_store_last rfl (.tmp 7) (.tmp 19) rfl w1.heap.size rfl rfl u oz rfl ?_)
    | (show wpList _ _ _ ({ dst := some 20, op := .build _ _, type := _, pos := _, after := _, guard := _ } :: _) _ _; refine wpList_yields (S := fun _ => True) (y_build (by rfl) (by rfl) built31) trivial ?_)
    | (refine wpList_store_mid (l0 := u.cells) (l := kcs zks) (l1 := U.cells) (off := 3) (ty := 57) rfl (.tmp 21) (.tmp 20) rfl w1.heap.size rfl (by rfl) (by rfl) zks_sz HFT.out (kcs_one _) HSE.out ?_; have HB2 := Lib.hid (HB1.out.alloc HB1.out.size (.cells U.cells.toArray 60)); have HU2 := Lib.hid (Blk.new w1 60 U.cells.toArray); have HK2 := Lib.hid (HK1.out.alloc (.cells U.cells.toArray 60)); clear c0 c1 c2 c3 c4 c5; obtain ⟨c0, c1, c2, c3, c4, c5⟩ := HK2.out.six; replace c1 := cell_eq c1 HXO.out)
    | (refine wpList_yields (S := fun w' => ObAt w' w1.heap.size 0 U) (y_ob (by rfl) (.tmp 7) (by rfl) w1.heap.size 0 (by rfl) U (fun _ h => h)) HU2.out.ob ?_)
    | (go_at_call 61; refine (rput_any (HR0s.out.below HB2.out) HN.out HL.out j HJ.out U rfl).mono ?_; rintro e y1 ⟨g9, c9, rfl, hg9, hr9, b9⟩; have HR9 := Lib.hid hr9; have HGG := Lib.hid (Nat.le_trans HB2.out.size hg9); have HB9 := Lib.hid (HB2.out.trans (b9.mono HB2.out.size)); clear b9 hr9 hg9))
  go_ret2
  exact ⟨g9, c9, rfl, HGG.out, HR9.out, HB9.out⟩
set_option maxRecDepth 8000 in
theorem rclone_err (x v : Ky) (e : Int) (he : e ≠ 0) (ha : ∀ W, Below w.heap.size w W → Calls Tryd.prog 28 #[.slice A n cap, x.val, .int .i64 2, .bool true] W fun e' w' => e' = .returned (.int .i64 e) ∧ Below W.heap.size W w') :
    Calls Tryd.prog 27 #[.slice A n cap, x.val, v.val] w fun e_ w' => e_ = .returned (.tuple #[.slice A n cap, .int .i64 e]) ∧ Below w.heap.size w w' := by
  have HB0 := Lib.hid (((Below.refl w.heap.size w).alloc (Nat.le_refl _) (.cells (kc x.k x.o x.c x.l x.r x.v) 32)).alloc (by simp) (.cells (kc v.k v.o v.c v.l v.r v.v) 32))
  have HK0 := Lib.hid ((Blk.new_of w 32 (kc x.k x.o x.c x.l x.r x.v) (g := w.heap.size) (by simp)).alloc (.cells (kc v.k v.o v.c v.l v.r v.v) 32))
  have HV0 := Lib.hid (Blk.new_of (w.alloc (.cells (kc x.k x.o x.c x.l x.r x.v) 32)) 32 (kc v.k v.o v.c v.l v.r v.v) (g := w.heap.size + 1) (by simp))
  have HA := Lib.hid ha
  have de : (e == 0) = false := by simpa using he
  have de' : (e != 0) = true := by simpa using he
  clear ha he
  obtain ⟨c0, c1, c2, c3, c4, c5⟩ := HK0.out.six
  obtain ⟨v0, v1, v2, v3, v4, v5⟩ := HV0.out.six
  go_enter Tryd.func27, Tryd.ntmps27
  go_wp2_with (first
    | (go_at_call 28; refine (HA.out _ HB0.out).mono ?_; rintro e_ w1 ⟨rfl, b1⟩; have HB1 := Lib.hid (HB0.out.trans (b1.mono HB0.out.size)); clear b1))
  go_ret2
  exact ⟨rfl, HB1.out⟩
set_option maxRecDepth 100000 in
set_option maxHeartbeats 4000000 in
theorem rclone_from (hr : RdO w A l) (hn : l.length = n) (hl : n ≤ 1000) (h0 : 0 < n) (x v : Ky) (hx : (named l x).isSome = true) (hk : x.k = 2) (hok : x.ok) (hr4 : x.r % 4 = 0) (e : Int) (he : e ≠ 0) (ha : ∀ W, Below w.heap.size w W → Calls Tryd.prog 28 #[.slice A n cap, v.val, .int .i64 2, .bool false] W fun e' w' => e' = .returned (.int .i64 e) ∧ Below W.heap.size W w') :
    Calls Tryd.prog 27 #[.slice A n cap, x.val, v.val] w fun e_ w' => e_ = .returned (.tuple #[.slice A n cap, .int .i64 e]) ∧ Below w.heap.size w w' := by
  have HB0 := Lib.hid (((Below.refl w.heap.size w).alloc (Nat.le_refl _) (.cells (kc x.k x.o x.c x.l x.r x.v) 32)).alloc (by simp) (.cells (kc v.k v.o v.c v.l v.r v.v) 32))
  have HK0 := Lib.hid ((Blk.new_of w 32 (kc x.k x.o x.c x.l x.r x.v) (g := w.heap.size) (by simp)).alloc (.cells (kc v.k v.o v.c v.l v.r v.v) 32))
  have HV0 := Lib.hid (Blk.new_of (w.alloc (.cells (kc x.k x.o x.c x.l x.r x.v) 32)) 32 (kc v.k v.o v.c v.l v.r v.v) (g := w.heap.size + 1) (by simp))
  have HR0s := Lib.hid hr
  have HR0 := Lib.hid ((hr.alloc (.cells (kc x.k x.o x.c x.l x.r x.v) 32)).alloc (.cells (kc v.k v.o v.c v.l v.r v.v) 32))
  have HX := Lib.hid hx
  have HKK := Lib.hid hk
  have HO := Lib.hid hok
  have HR4 := Lib.hid hr4
  have HA := Lib.hid ha
  have de : (e == 0) = false := by simpa using he
  have de' : (e != 0) = true := by simpa using he
  have M0 := Lib.hid True.intro
  clear ha he
  have HN := Lib.hid hn
  have HL := Lib.hid hl
  have H0 := Lib.hid h0
  clear hr hn hl h0 hx hk hok hr4
  obtain ⟨c0, c1, c2, c3, c4, c5⟩ := HK0.out.six
  obtain ⟨v0, v1, v2, v3, v4, v5⟩ := HV0.out.six
  go_enter Tryd.func27, Tryd.ntmps27
  go_wp2_with (first
    | (clear M0; go_at_call 28; refine (rask_yes_t HR0.out HN.out HL.out H0.out x HX.out HKK.out HO.out HR4.out).mono ?_; rintro e_ w1 ⟨rfl, b1⟩; have HB1 := Lib.hid (HB0.out.trans (b1.mono HB0.out.size)); have HK1 := Lib.hid (HK0.out.keep b1); have HV1 := Lib.hid (HV0.out.keep b1); have HR1 := Lib.hid (HR0.out.below b1); clear c0 c1 c2 c3 c4 c5 v0 v1 v2 v3 v4 v5; obtain ⟨c0, c1, c2, c3, c4, c5⟩ := HK1.out.six; obtain ⟨v0, v1, v2, v3, v4, v5⟩ := HV1.out.six; clear b1)
    | (go_at_call 28; refine (HA.out _ HB1.out).mono ?_; rintro e_ w2 ⟨rfl, b2⟩; have HB2 := Lib.hid (HB1.out.trans (b2.mono HB1.out.size)); clear b2))
  go_ret2
  exact ⟨rfl, HB2.out⟩
set_option maxRecDepth 8000 in
theorem gots_cut (os : List Oj) (y : Ky) (t u : Oj) (i : Nat) (hi : i < 16) : ((t.s.take i).map (gotK os y) ++ u.s.drop i).set i (gotK os y (t.s[i]'(by rw [t.hs]; exact hi))) = (t.s.take (i + 1)).map (gotK os y) ++ u.s.drop (i + 1) := by
  have ht : (t.s.take i).length = i := by rw [List.length_take, t.hs]; omega
  rw [List.set_append_right _ _ (by rw [List.length_map, ht]; exact Nat.le_refl _), List.length_map, ht, Nat.sub_self, List.drop_eq_getElem_cons (by rw [u.hs]; exact hi), List.set_cons_zero, List.take_succ_eq_append_getElem (by rw [t.hs]; exact hi), List.map_append]
  simp
set_option maxRecDepth 8000 in
theorem gots_cut_len (os : List Oj) (y : Ky) (t u : Oj) (i : Nat) (hi : i ≤ 16) : ((t.s.take i).map (gotK os y) ++ u.s.drop i).length = 16 := by
  rw [List.length_append, List.length_map, List.length_take, List.length_drop, t.hs, u.hs]; omega
/-- the object that is made by Clone, with i of its slots -/
noncomputable def cutO (os : List Oj) (y : Ky) (t u : Oj) (i : Nat) (hi : i ≤ 16) : Oj := slotsAs u ((t.s.take i).map (gotK os y) ++ u.s.drop i) (gots_cut_len os y t u i hi)
set_option maxRecDepth 8000 in
theorem cutO_zero (os : List Oj) (y : Ky) (t u : Oj) : cutO os y t u 0 (by omega) = u := by
  unfold cutO slotsAs
  simp
set_option maxRecDepth 8000 in
theorem cutO_all (os : List Oj) (y : Ky) (t u : Oj) : cutO os y t u 16 (by omega) = slotsAs u (gots os y t) (gots_len os y t) := by
  have h1 : (t.s.take 16) = t.s := List.take_of_length_le (by rw [t.hs]; omega)
  have h2 : (u.s.drop 16) = [] := List.drop_of_length_le (by rw [u.hs]; omega)
  unfold cutO slotsAs gots
  simp [h1, h2]
set_option maxRecDepth 8000 in
theorem cutO_succ (os : List Oj) (y : Ky) (t u : Oj) (i : Nat) (hi : i < 16) (z : Ky) (hz : t.s[i]? = some z) : slotAs (cutO os y t u i (by omega)) i (gotK os y z) = cutO os y t u (i + 1) hi := by
  have ht : i < t.s.length := by rw [t.hs]; exact hi
  rw [List.getElem?_eq_getElem ht] at hz
  injection hz with hz
  subst hz
  have := gots_cut os y t u i hi
  unfold cutO slotsAs slotAs
  simp only [this]
structure Clw (w wr : World) (g : Nat) (x v : Ky) (l : List Oj) (u t : Oj) (A : Option Addr) (n : Nat) : Prop where
  bel : Below w.heap.size w wr
  kx : Blk wr w.heap.size 32 (kc x.k x.o x.c x.l x.r x.v)
  kv : Blk wr (w.heap.size + 1) 32 (kc v.k v.o v.c v.l v.r v.v)
  ro : RdO wr A l
  ob : ∃ h : n ≤ 16, Blk wr g 60 (cutO l v t u n h).cells.toArray
set_option maxRecDepth 100000 in
set_option maxHeartbeats 4000000 in
theorem rclone_yes (hr : RdO w A l) (hn : l.length = n) (hl : n ≤ 1000) (h0 : 0 < n) (x v : Ky) (hx : (named l x).isSome = true) (hk : x.k = 2) (hok : x.ok) (hr4 : x.r % 4 = 0) (j : Nat) (hj : j < l.length) (hxo : x.o = (j : Int)) (hv : (named l v).isSome = true) (hvk : v.k = 2) (hvo : v.ok) (m : Nat) (hm : m < l.length) (hvm : v.o = (m : Int)) :
    Calls Tryd.prog 27 #[.slice A n cap, x.val, v.val] w fun e w' => ∃ g' c', e = .returned (.tuple #[.slice (some ⟨g', 0, none⟩) n c', .int .i64 0]) ∧ w.heap.size ≤ g' ∧ RdO w' (some ⟨g', 0, none⟩) (l.set j (slotsAs l[j] (gots l v l[m]) (gots_len l v l[m]))) ∧ Below w.heap.size w w' := by
  have hz := z34
  have hbo := oz_len
  have HB0 := Lib.hid (((Below.refl w.heap.size w).alloc (Nat.le_refl _) (.cells (kc x.k x.o x.c x.l x.r x.v) 32)).alloc (by simp) (.cells (kc v.k v.o v.c v.l v.r v.v) 32))
  have HK0 := Lib.hid ((Blk.new_of w 32 (kc x.k x.o x.c x.l x.r x.v) (g := w.heap.size) (by simp)).alloc (.cells (kc v.k v.o v.c v.l v.r v.v) 32))
  have HV0 := Lib.hid (Blk.new_of (w.alloc (.cells (kc x.k x.o x.c x.l x.r x.v) 32)) 32 (kc v.k v.o v.c v.l v.r v.v) (g := w.heap.size + 1) (by simp))
  have HR0s := Lib.hid hr
  have HR0 := Lib.hid ((hr.alloc (.cells (kc x.k x.o x.c x.l x.r x.v) 32)).alloc (.cells (kc v.k v.o v.c v.l v.r v.v) 32))
  have HX := Lib.hid hx
  have HKK := Lib.hid hk
  have HO := Lib.hid hok
  have HR4 := Lib.hid hr4
  have HVS := Lib.hid hv
  have HVK := Lib.hid hvk
  obtain ⟨b, off, hA, hob⟩ := hr j hj
  have HG := Lib.hid (fun (W : World) (h : RdO W A l) (i : Nat) (hi : i < 16) (z : Ky) (hz : (l[m]).s[i]? = some z) => rgot_any (cap := cap) h hn hl v m hm hvm i hi z hz hvo rfl)
  obtain ⟨u, hu⟩ : ∃ u, l[j] = u := ⟨_, rfl⟩
  obtain ⟨t, ht⟩ : ∃ t, l[m] = t := ⟨_, rfl⟩
  rw [hu] at hob ⊢
  rw [ht] at HG ⊢
  obtain ⟨U, hU⟩ : ∃ U, slotsAs u (gots l v t) (gots_len l v t) = U := ⟨_, rfl⟩
  have HUE := Lib.hid hU
  rw [hU]
  clear hU
  have HOB := Lib.hid hob
  have HXO := Lib.hid hxo
  have dj : (j : Int) < (n : Int) := by omega
  have HJ := Lib.hid (show j < n by omega)
  have M0 := Lib.hid True.intro
  subst hA
  clear hj hxo hob hu hm hvm hv hvk hvo ht
  have HN := Lib.hid hn
  have HL := Lib.hid hl
  have H0 := Lib.hid h0
  clear hr hn hl h0 hx hk hok hr4
  obtain ⟨c0, c1, c2, c3, c4, c5⟩ := HK0.out.six
  obtain ⟨v0, v1, v2, v3, v4, v5⟩ := HV0.out.six
  go_enter Tryd.func27, Tryd.ntmps27
  go_wp2_with (first
    | (clear M0; go_at_call 28; refine (rask_yes_t HR0.out HN.out HL.out H0.out x HX.out HKK.out HO.out HR4.out).mono ?_; rintro e_ w1 ⟨rfl, b1⟩; have HB1 := Lib.hid (HB0.out.trans (b1.mono HB0.out.size)); have HK1 := Lib.hid (HK0.out.keep b1); have HV1 := Lib.hid (HV0.out.keep b1); have HR1 := Lib.hid (HR0.out.below b1); clear c0 c1 c2 c3 c4 c5 v0 v1 v2 v3 v4 v5; obtain ⟨c0, c1, c2, c3, c4, c5⟩ := HK1.out.six; obtain ⟨v0, v1, v2, v3, v4, v5⟩ := HV1.out.six; clear b1)
    | (go_at_call 28; refine (rask_yes_f HR1.out HN.out HL.out H0.out v HVS.out HVK.out).mono ?_; rintro e_ w2 ⟨rfl, b2⟩; have HB2 := Lib.hid (HB1.out.trans (b2.mono HB1.out.size)); have HK2 := Lib.hid (HK1.out.keep b2); have HV2 := Lib.hid (HV1.out.keep b2); have HR2 := Lib.hid (HR1.out.below b2); clear c0 c1 c2 c3 c4 c5 v0 v1 v2 v3 v4 v5; obtain ⟨c0, c1, c2, c3, c4, c5⟩ := HK2.out.six; obtain ⟨v0, v1, v2, v3, v4, v5⟩ := HV2.out.six; replace c1 := cell_eq c1 HXO.out; have HS2 := Lib.hid (Nat.lt_of_lt_of_le HV1.out.lt b2.size); clear b2)
    | (refine wpList_yields (S := fun w' => ObAt w' b (off + j * 163) u) (y_ob (by rfl) (.tmp 26) (by rfl) b (off + j * 163) (by rfl) u (fun _ h => h)) (HOB.out.below HB2.out) ?_)
    | (refine wpList_store_last rfl (.tmp 9) (.tmp 27) rfl w2.heap.size rfl rfl u oz rfl ?_))
  have HI : Hid (Clw w (w2.alloc (.cells u.cells.toArray 60)) w2.heap.size x v l u t (some ⟨b, off, none⟩) 0) := ⟨HB2.out.alloc HB2.out.size _, HK2.out.alloc _, HV2.out.alloc _, HR2.out.alloc _, by omega, by rw [cutO_zero]; exact Blk.new w2 60 u.cells.toArray⟩
  generalize w2.heap.size = g at HI HS2 ⊢
  go_loopw [10] (fun q wr => ∃ i : Nat, i ≤ 16 ∧ q = .int .i64 i ∧ Clw w wr g x v l u t (some ⟨b, off, none⟩) i) (fun q _ => 17 - (intOf q).toNat)
  case atStart => exact ⟨0, by omega, rfl, HI.out⟩
  case round =>
    obtain ⟨i, hi, rfl, hc⟩ := hrel
    clear HI c0 c1 c2 c3 c4 c5 v0 v1 v2 v3 v4 v5
    have HI := Lib.hid hc
    obtain ⟨hi', hob'⟩ := hc.ob
    have HU := Lib.hid hob'
    clear hc hob'
    obtain ⟨c0, c1, c2, c3, c4, c5⟩ := HI.out.kx.six
    obtain ⟨v0, v1, v2, v3, v4, v5⟩ := HI.out.kv.six
    replace c1 := cell_eq c1 HXO.out
    by_cases hlt : i < 16
    · have d0 : decide ((i : Int) < 16) = true := decide_eq_true (by omega)
      have d1 : (i : Int) < 16 := by omega
      have HLT := Lib.hid hlt
      obtain ⟨z, hz'⟩ : ∃ z, t.s[i]? = some z := ⟨_, List.getElem?_eq_getElem (by rw [t.hs]; exact hlt)⟩
      have HZ := Lib.hid hz'
      obtain ⟨q, hq⟩ : ∃ q, cutO l v t u i hi' = q := ⟨_, rfl⟩
      have HSU : Hid (∃ h, slotAs q i (gotK l v z) = cutO l v t u (i + 1) h) := Lib.hid ⟨hlt, hq ▸ cutO_succ l v t u i hlt z hz'⟩
      rw [hq] at HU
      have HFT := Lib.hid (show 3 + i * 6 + (kl (gotK l v z)).length ≤ q.cells.length by rw [kl_len, q.len]; omega)
      have HSE := Lib.hid (slot_set q i hlt (gotK l v z))
      clear hlt hz' hq
      go_wp2_with (first
        | (go_at_call 29; refine (HG.out _ HI.out.ro i HLT.out z HZ.out).mono ?_; rintro e_ w3 ⟨rfl, b3⟩; have HB3 := Lib.hid (HI.out.bel.trans (b3.mono HI.out.bel.size)); have HU3 := Lib.hid (HU.out.keep b3); have HK3 := Lib.hid (HI.out.kx.keep b3); have HV3 := Lib.hid (HI.out.kv.keep b3); have HL3 := Lib.hid (HU3.out.lt); clear b3)
        | (refine wpList_store_in HU3.out rfl (.tmp 38) (.tmp 36) (ty := 32) (l := kl (gotK l v z)) (off := 3 + i * 6) (by rfl) (by rfl) (by rfl) size30 HFT.out (kl_one _) HSE.out ?_))
      go_roundw
      case rel =>
        have hb := below_setRow HB3.out (show w.heap.size ≤ g by have := HS2.out; omega) (slotAs q i (gotK l v z)).cells.toArray
        refine ⟨i + 1, by have := HLT.out; omega, by go_num, hb, Blk.row_far HK3.out (by have := HS2.out; omega) _, Blk.row_far HV3.out (by have := HS2.out; omega) _, HR0s.out.below hb, HLT.out, ?_⟩
        obtain ⟨_, hsu⟩ := HSU.out
        rw [← hsu]
        exact HU3.out.setRow _
      case measure => simp [intOf]; omega
    · obtain rfl : i = 16 := by omega
      have d0 : decide ((16 : Int) < 16) = false := rfl
      rw [cutO_all, HUE.out] at HU
      go_wp2_with (first
        | (refine wpList_yields (S := fun w' => ObAt w' g 0 U) (y_ob (by rfl) (.tmp 9) (by rfl) g 0 (by rfl) U (fun _ h => h)) HU.out.ob ?_)
        | (go_at_call 61; refine (rput_any HI.out.ro HN.out HL.out j HJ.out U rfl).mono ?_; rintro e_ y1 ⟨g9, c9, rfl, hg9, hr9, b9⟩; have HR9 := Lib.hid hr9; have HGG := Lib.hid (Nat.le_trans HI.out.bel.size hg9); have HB9 := Lib.hid (HI.out.bel.trans (b9.mono HI.out.bel.size)); clear b9 hr9 hg9))
      go_ret2
      exact ⟨g9, c9, rfl, HGG.out, HR9.out, HB9.out⟩
end
end Go.Proofs.YtliakhknmckdgaaDoor

/- The document's answers: Got, May. -/
import Derived.Test.YtliakhknmckdgaaDoorNRef
namespace Go.Proofs.YtliakhknmckdgaaDoor
open Go.RowKit
section
variable {w : World} {A : Option Addr} {l : List Oj} {n cap : Nat}
theorem cell_eq {w : World} {p : Addr} {a b : Int} (h : w.cell? p = some (.int .i64 a)) (e : a = b) : w.cell? p = some (.int .i64 b) := e ▸ h
set_option maxRecDepth 100000 in
set_option maxHeartbeats 2000000 in
theorem rgot_plain (hr : RdO w A l) (hn : l.length = n) (hl : n ≤ 1000) (x : Ky) (j : Nat) (hj : j < l.length) (hxo : x.o = (j : Int)) (i : Nat) (hi : i < 16) (y : Ky) (hy : (l[j]).s[i]? = some y) (hok : x.ok) (hrr : x.r / 2 % 2 ≠ 1) (q : Ky) (hq : prepd l y = q) :
    Calls Tryd.prog 29 #[.slice A n cap, x.val, .int .i64 (i : Int)] w fun e w' => e = .returned q.val ∧ Below w.heap.size w w' := by
  obtain ⟨b, off, rfl, hob⟩ := hr j hj
  obtain ⟨y', hy', hk⟩ := hob.slot hi
  rw [hy] at hy'
  injection hy' with hy'
  subst hy'
  have HR := Lib.hid ((hr.alloc (.cells (kc x.k x.o x.c x.l x.r x.v) 32)).alloc (.cells (kc 0 0 0 0 0 0) 32))
  have HB0 := Lib.hid (((Below.refl w.heap.size w).alloc (Nat.le_refl _) (.cells (kc x.k x.o x.c x.l x.r x.v) 32)).alloc (by simp) (.cells (kc 0 0 0 0 0 0) 32))
  have HK0 := Lib.hid ((Blk.new w 32 (kc x.k x.o x.c x.l x.r x.v)).alloc (.cells (kc 0 0 0 0 0 0) 32))
  have HZ0 := Lib.hid (Blk.new_of (w.alloc (.cells (kc x.k x.o x.c x.l x.r x.v) 32)) 32 (kc 0 0 0 0 0 0) (g := w.heap.size + 1) (by simp))
  obtain ⟨y0, y1, y2, y3, y4, y5⟩ := ((hk.alloc (.cells (kc x.k x.o x.c x.l x.r x.v) 32)).alloc (.cells (kc 0 0 0 0 0 0) 32)).six
  have x1 := cell_eq HK0.out.six.2.1 hxo
  have HN := Lib.hid hn
  have HL := Lib.hid hl
  have HQ := Lib.hid hq
  have HQO := Lib.hid (hq ▸ prepd_ok l y)
  have H0 := Lib.hid (show 0 < n by omega)
  have dj : (j : Int) < (n : Int) := by omega
  have di : (i : Int) < 16 := by omega
  obtain ⟨_, r, hr', _, hr8⟩ := ok_of hok
  obtain ⟨d, hd⟩ : ∃ d : Int, d = x.r / 2 := ⟨_, rfl⟩
  obtain ⟨m, hm⟩ : ∃ m : Int, m = x.r / 2 % 2 := ⟨_, rfl⟩
  have ed : x.r.tdiv 2 = d := by rw [hd]; exact Int.tdiv_eq_ediv_of_nonneg (by omega)
  have em : d.tmod 2 = m := by rw [hm, hd]; exact Int.tmod_eq_emod_of_nonneg (by omega)
  have d0 : -9223372036854775808 ≤ d := by omega
  have d1 : d ≤ 9223372036854775807 := by omega
  have m0 : -9223372036854775808 ≤ m := by omega
  have m1 : m ≤ 9223372036854775807 := by omega
  have dm : (m == 1) = false := by rw [hm]; simpa using hrr
  clear hr hn hl hj hxo hi hy hok hrr hq hob hk hr' hd hm
  go_enter Tryd.func29, Tryd.ntmps29
  go_wp2_with (first
    | (go_at_call 60; refine (rprep_n HR.out HN.out HL.out H0.out y HQ.out).mono ?_; rintro e w1 ⟨rfl, b1⟩; have HB1 := Lib.hid ((HB0.out.trans (b1.mono HB0.out.size)).alloc (Nat.le_trans HB0.out.size b1.size) (.cells (kl q).toArray 32)); have HK1 := Lib.hid ((HK0.out.keep b1).alloc (.cells (kl q).toArray 32)); have HZ1 := Lib.hid ((HZ0.out.keep b1).alloc (.cells (kl q).toArray 32)); clear x1 y0 y1 y2 y3 y4 y5; obtain ⟨c0, c1, c2, c3, c4, c5⟩ := HK1.out.six; obtain ⟨q0, q1, q2, q3, q4, q5⟩ := (Blk.new w1 32 (kl q).toArray).six; clear b1)
    | (refine wpList_store_new (l := kl q) (l0 := kl zk) (ty := 32) rfl (.tmp 7) (.tmp 17) (by rfl) _ rfl (by rfl) (by rfl) size30 rfl (kl_one _) ?_)
    | (refine wpList_store_ky (y := zk) HZ1.out rfl (.tmp 6) (.tmp 25) rfl (by rfl) q (by rfl) ?_))
  exact bodyPost_ret (results_key rfl _ _ (w.heap.size + 1) q rfl (HZ1.out.setRow _)) rfl ⟨rfl, below_setRow HB1.out (by omega) _⟩
set_option maxRecDepth 100000 in
set_option maxHeartbeats 2000000 in
theorem rgot_weak (hr : RdO w A l) (hn : l.length = n) (hl : n ≤ 1000) (x : Ky) (j : Nat) (hj : j < l.length) (hxo : x.o = (j : Int)) (i : Nat) (hi : i < 16) (y : Ky) (hy : (l[j]).s[i]? = some y) (hok : x.ok) (hrr : x.r / 2 % 2 = 1) (q : Ky) (hq : prepd l y = q) :
    Calls Tryd.prog 29 #[.slice A n cap, x.val, .int .i64 (i : Int)] w fun e w' => e = .returned q.weak.val ∧ Below w.heap.size w w' := by
  obtain ⟨b, off, rfl, hob⟩ := hr j hj
  obtain ⟨y', hy', hk⟩ := hob.slot hi
  rw [hy] at hy'
  injection hy' with hy'
  subst hy'
  have HR := Lib.hid ((hr.alloc (.cells (kc x.k x.o x.c x.l x.r x.v) 32)).alloc (.cells (kc 0 0 0 0 0 0) 32))
  have HB0 := Lib.hid (((Below.refl w.heap.size w).alloc (Nat.le_refl _) (.cells (kc x.k x.o x.c x.l x.r x.v) 32)).alloc (by simp) (.cells (kc 0 0 0 0 0 0) 32))
  have HK0 := Lib.hid ((Blk.new w 32 (kc x.k x.o x.c x.l x.r x.v)).alloc (.cells (kc 0 0 0 0 0 0) 32))
  have HZ0 := Lib.hid (Blk.new_of (w.alloc (.cells (kc x.k x.o x.c x.l x.r x.v) 32)) 32 (kc 0 0 0 0 0 0) (g := w.heap.size + 1) (by simp))
  obtain ⟨y0, y1, y2, y3, y4, y5⟩ := ((hk.alloc (.cells (kc x.k x.o x.c x.l x.r x.v) 32)).alloc (.cells (kc 0 0 0 0 0 0) 32)).six
  have x1 := cell_eq HK0.out.six.2.1 hxo
  have HN := Lib.hid hn
  have HL := Lib.hid hl
  have HQ := Lib.hid hq
  have HQO := Lib.hid (hq ▸ prepd_ok l y)
  have H0 := Lib.hid (show 0 < n by omega)
  have dj : (j : Int) < (n : Int) := by omega
  have di : (i : Int) < 16 := by omega
  obtain ⟨_, r, hr', _, hr8⟩ := ok_of hok
  obtain ⟨d, hd⟩ : ∃ d : Int, d = x.r / 2 := ⟨_, rfl⟩
  obtain ⟨m, hm⟩ : ∃ m : Int, m = x.r / 2 % 2 := ⟨_, rfl⟩
  have ed : x.r.tdiv 2 = d := by rw [hd]; exact Int.tdiv_eq_ediv_of_nonneg (by omega)
  have em : d.tmod 2 = m := by rw [hm, hd]; exact Int.tmod_eq_emod_of_nonneg (by omega)
  have d0 : -9223372036854775808 ≤ d := by omega
  have d1 : d ≤ 9223372036854775807 := by omega
  have m0 : -9223372036854775808 ≤ m := by omega
  have m1 : m ≤ 9223372036854775807 := by omega
  have dm : (m == 1) = true := by rw [hm]; simpa using hrr
  clear hr hn hl hj hxo hi hy hok hrr hq hob hk hr' hd hm
  go_enter Tryd.func29, Tryd.ntmps29
  go_wp2_with (first
    | (go_at_call 60; refine (rprep_n HR.out HN.out HL.out H0.out y HQ.out).mono ?_; rintro e w1 ⟨rfl, b1⟩; have HB1 := Lib.hid ((HB0.out.trans (b1.mono HB0.out.size)).alloc (Nat.le_trans HB0.out.size b1.size) (.cells (kl q).toArray 32)); have HK1 := Lib.hid ((HK0.out.keep b1).alloc (.cells (kl q).toArray 32)); have HZ1 := Lib.hid ((HZ0.out.keep b1).alloc (.cells (kl q).toArray 32)); clear x1 y0 y1 y2 y3 y4 y5; obtain ⟨c0, c1, c2, c3, c4, c5⟩ := HK1.out.six; obtain ⟨q0, q1, q2, q3, q4, q5⟩ := (Blk.new w1 32 (kl q).toArray).six; clear b1)
    | (refine wpList_store_new (l := kl q) (l0 := kl zk) (ty := 32) rfl (.tmp 7) (.tmp 17) (by rfl) _ rfl (by rfl) (by rfl) size30 rfl (kl_one _) ?_)
    | (go_at_call 32; refine (rweaken_ok q _ HQO.out).mono ?_; rintro e w2 ⟨rfl, b2⟩; have HB2 := Lib.hid (HB1.out.trans (b2.mono HB1.out.size)); have HZ2 := Lib.hid (HZ1.out.keep b2); clear b2 c0 c1 c2 c3 c4 c5 q0 q1 q2 q3 q4 q5)
    | (refine wpList_store_ky (y := zk) HZ2.out rfl (.tmp 6) (.tmp 24) rfl (by rfl) q.weak (by rfl) ?_))
  exact bodyPost_ret (results_key rfl _ _ (w.heap.size + 1) q.weak rfl (HZ2.out.setRow _)) rfl ⟨rfl, below_setRow HB2.out (by omega) _⟩
set_option maxRecDepth 8000 in
theorem rgot_any (hr : RdO w A l) (hn : l.length = n) (hl : n ≤ 1000) (x : Ky) (j : Nat) (hj : j < l.length) (hxo : x.o = (j : Int)) (i : Nat) (hi : i < 16) (y : Ky) (hy : (l[j]).s[i]? = some y) (hok : x.ok) {g : Ky} (hg : gotK l x y = g) :
    Calls Tryd.prog 29 #[.slice A n cap, x.val, .int .i64 (i : Int)] w fun e w' => e = .returned g.val ∧ Below w.heap.size w w' := by
  subst hg
  unfold gotK
  by_cases hrr : x.r / 2 % 2 = 1
  · rw [if_pos hrr]
    exact rgot_weak hr hn hl x j hj hxo i hi y hy hok hrr _ rfl
  · rw [if_neg hrr]
    exact rgot_plain hr hn hl x j hj hxo i hi y hy hok hrr _ rfl
set_option maxRecDepth 100000 in
set_option maxHeartbeats 2000000 in
theorem rmay_bad (n cap : Nat) (A : Option Addr) (v : Ky) (hv : ¬ v.ok) (w : World) :
    Calls Tryd.prog 18 #[.slice A n cap, v.val] w fun e w' => e = .returned (.bool false) ∧ Below w.heap.size w w' := by
  have HB0 := Lib.hid ((Below.refl w.heap.size w).alloc (Nat.le_refl _) (.cells (kc v.k v.o v.c v.l v.r v.v) 32))
  have HK0 := Lib.hid (Blk.new w 32 (kc v.k v.o v.c v.l v.r v.v))
  obtain ⟨c0, c1, c2, c3, c4, c5⟩ := HK0.out.six
  have HV := Lib.hid hv
  clear hv
  go_enter Tryd.func18, Tryd.ntmps18
  go_wp2_with (first
    | (go_at_call 31; refine (Ky.chk_no HV.out ▸ rchk_any v _).mono ?_; rintro e w1 ⟨rfl, b1⟩; have HB1 := Lib.hid (HB0.out.trans (b1.mono HB0.out.size)); have HK1 := Lib.hid (HK0.out.keep b1); clear c0 c1 c2 c3 c4 c5; obtain ⟨c0, c1, c2, c3, c4, c5⟩ := HK1.out.six; clear b1))
  go_ret
  exact ⟨rfl, HB1.out⟩
set_option maxRecDepth 100000 in
set_option maxHeartbeats 2000000 in
theorem rmay_of (n cap : Nat) (A : Option Addr) (v : Ky) (hv : v.of) (w : World) :
    Calls Tryd.prog 18 #[.slice A n cap, v.val] w fun e w' => e = .returned (.bool (decide (v.o < (n : Int)))) ∧ Below w.heap.size w w' := by
  have HB0 := Lib.hid ((Below.refl w.heap.size w).alloc (Nat.le_refl _) (.cells (kc v.k v.o v.c v.l v.r v.v) 32))
  have HK0 := Lib.hid (Blk.new w 32 (kc v.k v.o v.c v.l v.r v.v))
  obtain ⟨c0, c1, c2, c3, c4, c5⟩ := HK0.out.six
  have HV := Lib.hid hv
  clear hv
  go_enter Tryd.func18, Tryd.ntmps18
  go_wp2_with (first
    | (go_at_call 31; refine (Ky.chk_yes HV.out.1 ▸ rchk_any v _).mono ?_; rintro e w1 ⟨rfl, b1⟩; have HB1 := Lib.hid (HB0.out.trans (b1.mono HB0.out.size)); have HK1 := Lib.hid (HK0.out.keep b1); clear c0 c1 c2 c3 c4 c5; obtain ⟨c0, c1, c2, c3, c4, c5⟩ := HK1.out.six; clear b1)
    | (go_at_call 49; refine (rname_yes v _ HV.out).mono ?_; rintro e w2 ⟨rfl, b2⟩; have HB2 := Lib.hid (HB1.out.trans (b2.mono HB1.out.size)); clear b2))
  go_ret
  exact ⟨rfl, HB2.out⟩
set_option maxRecDepth 100000 in
set_option maxHeartbeats 2000000 in
theorem rmay_not (n cap : Nat) (A : Option Addr) (v : Ky) (hv : v.ok) (hf : ¬ v.of) (w : World) :
    Calls Tryd.prog 18 #[.slice A n cap, v.val] w fun e w' => e = .returned (.bool true) ∧ Below w.heap.size w w' := by
  have HB0 := Lib.hid ((Below.refl w.heap.size w).alloc (Nat.le_refl _) (.cells (kc v.k v.o v.c v.l v.r v.v) 32))
  have HK0 := Lib.hid (Blk.new w 32 (kc v.k v.o v.c v.l v.r v.v))
  obtain ⟨c0, c1, c2, c3, c4, c5⟩ := HK0.out.six
  have HV := Lib.hid hv
  have HF := Lib.hid hf
  have dn : decide ((-1 : Int) < (n : Int)) = true := decide_eq_true (by omega)
  clear hv hf
  go_enter Tryd.func18, Tryd.ntmps18
  go_wp2_with (first
    | (go_at_call 31; refine (Ky.chk_yes HV.out ▸ rchk_any v _).mono ?_; rintro e w1 ⟨rfl, b1⟩; have HB1 := Lib.hid (HB0.out.trans (b1.mono HB0.out.size)); have HK1 := Lib.hid (HK0.out.keep b1); clear c0 c1 c2 c3 c4 c5; obtain ⟨c0, c1, c2, c3, c4, c5⟩ := HK1.out.six; clear b1)
    | (go_at_call 49; refine (rname_no v _ HF.out).mono ?_; rintro e w2 ⟨rfl, b2⟩; have HB2 := Lib.hid (HB1.out.trans (b2.mono HB1.out.size)); clear b2))
  go_ret
  exact ⟨rfl, HB2.out⟩
set_option maxRecDepth 8000 in
theorem rmay_y (n cap : Nat) (A : Option Addr) (v : Ky) (hv : v.may n) (w : World) :
    Calls Tryd.prog 18 #[.slice A n cap, v.val] w fun e w' => e = .returned (.bool true) ∧ Below w.heap.size w w' := by
  by_cases hf : v.of
  · have := rmay_of n cap A v hf w
    rwa [show decide (v.o < (n : Int)) = true by simpa using hv.2 hf] at this
  · exact rmay_not n cap A v hv.1 hf w
set_option maxRecDepth 8000 in
theorem rmay_n (n cap : Nat) (A : Option Addr) (v : Ky) (hv : ¬ v.may n) (w : World) :
    Calls Tryd.prog 18 #[.slice A n cap, v.val] w fun e w' => e = .returned (.bool false) ∧ Below w.heap.size w w' := by
  by_cases hk : v.ok
  · by_cases hf : v.of
    · have := rmay_of n cap A v hf w
      rwa [show decide (v.o < (n : Int)) = false by simp; by_cases h : v.o < (n : Int); exact absurd ⟨hk, fun _ => h⟩ hv; omega] at this
    · exact absurd ⟨hk, fun h => absurd h hf⟩ hv
  · exact rmay_bad n cap A v hk w
end
end Go.Proofs.YtliakhknmckdgaaDoor

/- objects: the definition's Check. -/
import Derived.Test.YtjolojomgfcfbaaDoorR08
import Derived.Test.YtjolojomgfcfbaaDoorR09
import Derived.Laws.MakeOwn
import Derived.Laws.OwnMore
import Derived.Laws.CopyRow
namespace Go.Proofs.YtjolojomgfcfbaaDoor
open Go.RowKit
theorem zk_ok : zk.ok := ⟨0, rfl, by decide, by decide, by decide, by decide, by decide, by decide, by decide, by decide, by decide, .inl rfl⟩
theorem zk_may (n : Int) : zk.may n := ⟨zk_ok, fun h => absurd h.2.1 (by decide)⟩
set_option maxRecDepth 8000 in
theorem all_zk {s : List Ky} (hs : s.length = 16) : s = zks ↔ ∀ x ∈ s, x = zk := by
  unfold zks
  rw [List.eq_replicate_iff]
  simp [hs]
set_option maxRecDepth 8000 in
theorem all_zb {b : List UInt8} (hb : b.length = 64) : b = zbs ↔ ∀ x ∈ b, x = 0 := by
  unfold zbs
  rw [List.eq_replicate_iff]
  simp [hb]
/-- what the definition asks of an object first -/
def Oj.bad (n : Int) (o : Oj) : Prop := n < 1 ∨ 64 < n ∨ o.k < 0 ∨ 3 < o.k ∨ o.c < 0 ∨ 4294967295 < o.c ∨ o.l < 0 ∨ 4294967295 < o.l ∨ (o.k ≠ 1 ∧ o.l ≠ 0)
set_option maxRecDepth 8000 in
theorem ok_ref {n : Int} {o : Oj} : o.ok n ↔ ¬ o.bad n ∧ (∀ x ∈ o.s, x.may n ∧ (o.k = 1 ∨ x = zk)) ∧ (o.k = 1 ∨ o.k = 2 ∨ ∀ y ∈ o.b, y = 0) := by
  unfold Oj.ok Oj.bad Oj.has
  rw [all_zk o.hs, all_zb o.hb]
  unfold mayS
  constructor
  · rintro ⟨hm, hc, hl, h⟩
    rcases h with ⟨hk, h⟩ | ⟨hk, h1, h2⟩ | ⟨hk, h0, h1, h2⟩
    · exact ⟨by omega, fun x hx => ⟨h x hx, .inl hk⟩, .inl hk⟩
    · exact ⟨by omega, fun x hx => ⟨by rw [h2 x hx]; exact zk_may n, .inr (h2 x hx)⟩, .inr (.inl hk)⟩
    · exact ⟨by omega, fun x hx => ⟨by rw [h2 x hx]; exact zk_may n, .inr (h2 x hx)⟩, .inr (.inr h0)⟩
  · rintro ⟨hb, hs, hy⟩
    refine ⟨by omega, by omega, by omega, ?_⟩
    by_cases h1 : o.k = 1
    · exact .inl ⟨h1, fun x hx => (hs x hx).1⟩
    · have hz : ∀ x ∈ o.s, x = zk := fun x hx => (hs x hx).2.resolve_left h1
      have hl0 : o.l = 0 := Decidable.byContradiction fun hl => hb (.inr (.inr (.inr (.inr (.inr (.inr (.inr (.inr ⟨h1, hl⟩))))))))
      by_cases h2 : o.k = 2
      · exact .inr (.inl ⟨h2, hl0, hz⟩)
      · exact .inr (.inr ⟨by have h3 : ¬ o.k < 0 := fun h => hb (.inr (.inr (.inl h))); have h4 : ¬ 3 < o.k := fun h => hb (.inr (.inr (.inr (.inl h)))); omega, (hy.resolve_left h1).resolve_left h2, hl0, hz⟩)
set_option maxRecDepth 8000 in
theorem take_snoc_all {α : Type} {p : α → Prop} {s : List α} {k : Nat} (hk : k < s.length) (h : ∀ x ∈ s.take k, p x) (hx : p s[k]) : ∀ x ∈ s.take (k + 1), p x := by
  rw [List.take_succ_eq_append_getElem hk]
  intro y hy
  rcases List.mem_append.1 hy with h' | h'
  · exact h y h'
  · obtain rfl : y = s[k] := by simpa using h'
    exact hx
theorem take_snoc_x {α : Type} {p : α → Prop} {s : List α} {k : Nat} {x : α} (hk : k < s.length) (e : s[k] = x) (h : ∀ x ∈ s.take k, p x) (hx : p x) : ∀ x ∈ s.take (k + 1), p x := take_snoc_all hk h (e ▸ hx)
theorem slot_x {n : Int} {o : Oj} {k : Nat} {x : Ky} (h : o.ok n) (hk : k < o.s.length) (e : o.s[k] = x) : x.may n ∧ (o.k = 1 ∨ x = zk) := e ▸ (ok_ref.1 h).2.1 _ (List.getElem_mem hk)
set_option maxRecDepth 8000 in
theorem key_x {w : World} {g : Nat} {o : Oj} {k : Nat} {x : Ky} (h : ObAt w g 0 o) (hk : k < o.s.length) (e : o.s[k] = x) : KeyAt w g (3 + k * 6) x := by
  subst e
  have := key_of_range h.slots k hk
  rwa [Nat.zero_add] at this
set_option maxRecDepth 8000 in
theorem take_all {α : Type} {p : α → Prop} {s : List α} {k : Nat} (hk : s.length ≤ k) (h : ∀ x ∈ s.take k, p x) : ∀ x ∈ s, p x := by
  rwa [List.take_of_length_le hk] at h
set_option maxRecDepth 8000 in
set_option maxHeartbeats 1000000 in
theorem rchk_badA (o : Oj) (n : Int) (w : World) (h1 : o.k ≠ 1) (h2 : o.l ≠ 0) :
    Calls Tryd.prog 22 #[o.val, .int .i64 n] w fun e w' => e = .returned (.int .i64 2) ∧ Below w.heap.size w w' := by
  have HB := Lib.hid ((Below.refl w.heap.size w).alloc (Nat.le_refl _) (.cells o.cells.toArray 33))
  have HG := Lib.hid (Blk.new w 33 o.cells.toArray).ob
  obtain ⟨c0, c1, c2⟩ := HG.out.cells
  have e1 : (o.k != 1) = true := by simpa using h1
  have e2 : (o.l != 0) = true := by simpa using h2
  clear h1 h2
  go_enter Tryd.func22, Tryd.ntmps22
  go_wp2
  all_goals first
    | (go_ret; exact ⟨rfl, HB.out⟩)
    | (exfalso; have h := HP.out; omega)
set_option maxRecDepth 8000 in
set_option maxHeartbeats 1000000 in
theorem rchk_badB (o : Oj) (n : Int) (w : World) (h : o.bad n) (h1 : o.k = 1) :
    Calls Tryd.prog 22 #[o.val, .int .i64 n] w fun e w' => e = .returned (.int .i64 2) ∧ Below w.heap.size w w' := by
  have HB := Lib.hid ((Below.refl w.heap.size w).alloc (Nat.le_refl _) (.cells o.cells.toArray 33))
  have HG := Lib.hid (Blk.new w 33 o.cells.toArray).ob
  obtain ⟨c0, c1, c2⟩ := HG.out.cells
  have HP := Lib.hid (show n < 1 ∨ 64 < n ∨ o.k < 0 ∨ 3 < o.k ∨ o.c < 0 ∨ 4294967295 < o.c ∨ o.l < 0 ∨ 4294967295 < o.l from by unfold Oj.bad at h; rcases h with h | h | h | h | h | h | h | h | h; exact .inl h; exact .inr (.inl h); exact .inr (.inr (.inl h)); exact .inr (.inr (.inr (.inl h))); exact .inr (.inr (.inr (.inr (.inl h)))); exact .inr (.inr (.inr (.inr (.inr (.inl h))))); exact .inr (.inr (.inr (.inr (.inr (.inr (.inl h)))))); exact .inr (.inr (.inr (.inr (.inr (.inr (.inr h)))))); exact absurd h1 h.1)
  have e1 : (o.k != 1) = false := by simpa using h1
  clear h h1
  go_enter Tryd.func22, Tryd.ntmps22
  go_wp2
  all_goals first
    | (go_ret; exact ⟨rfl, HB.out⟩)
    | (exfalso; have h := HP.out; omega)
set_option maxRecDepth 8000 in
set_option maxHeartbeats 1000000 in
theorem rchk_badC (o : Oj) (n : Int) (w : World) (h : o.bad n) (h1 : o.k ≠ 1) (h2 : o.l = 0) :
    Calls Tryd.prog 22 #[o.val, .int .i64 n] w fun e w' => e = .returned (.int .i64 2) ∧ Below w.heap.size w w' := by
  have HB := Lib.hid ((Below.refl w.heap.size w).alloc (Nat.le_refl _) (.cells o.cells.toArray 33))
  have HG := Lib.hid (Blk.new w 33 o.cells.toArray).ob
  obtain ⟨c0, c1, c2⟩ := HG.out.cells
  have HP := Lib.hid (show n < 1 ∨ 64 < n ∨ o.k < 0 ∨ 3 < o.k ∨ o.c < 0 ∨ 4294967295 < o.c ∨ o.l < 0 ∨ 4294967295 < o.l from by unfold Oj.bad at h; rcases h with h | h | h | h | h | h | h | h | h; exact .inl h; exact .inr (.inl h); exact .inr (.inr (.inl h)); exact .inr (.inr (.inr (.inl h))); exact .inr (.inr (.inr (.inr (.inl h)))); exact .inr (.inr (.inr (.inr (.inr (.inl h))))); exact .inr (.inr (.inr (.inr (.inr (.inr (.inl h)))))); exact .inr (.inr (.inr (.inr (.inr (.inr (.inr h)))))); exact absurd h2 h.2)
  have e1 : (o.k != 1) = true := by simpa using h1
  have e2 : (o.l != 0) = false := by simpa using h2
  clear h h1 h2
  go_enter Tryd.func22, Tryd.ntmps22
  go_wp2
  all_goals first
    | (go_ret; exact ⟨rfl, HB.out⟩)
    | (exfalso; have h := HP.out; omega)
set_option maxRecDepth 8000 in
theorem rchk_bad (o : Oj) (n : Int) (w : World) (h : o.bad n) :
    Calls Tryd.prog 22 #[o.val, .int .i64 n] w fun e w' => e = .returned (.int .i64 2) ∧ Below w.heap.size w w' := by
  by_cases h1 : o.k = 1
  · exact rchk_badB o n w h h1
  · by_cases h2 : o.l = 0
    · exact rchk_badC o n w h h1 h2
    · exact rchk_badA o n w h1 h2
set_option maxRecDepth 8000 in
set_option maxHeartbeats 2000000 in
theorem rchk_1 (o : Oj) (n : Int) (w : World) (hbad : ¬ o.bad n) (hk : o.k = 1) :
    Calls Tryd.prog 22 #[o.val, .int .i64 n] w fun e w' => e = .returned (.int .i64 (o.chk n)) ∧ Below w.heap.size w w' := by
  have HB := Lib.hid ((Below.refl w.heap.size w).alloc (Nat.le_refl _) (.cells o.cells.toArray 33))
  have HG := Lib.hid (Blk.new w 33 o.cells.toArray).ob
  obtain ⟨c0, c1, c2⟩ := HG.out.cells
  have HP := Lib.hid hbad
  have HN := Lib.hid (show 1 ≤ n by unfold Oj.bad at hbad; omega)
  have HK := Lib.hid hk
  have d0 : decide (n < 1) = false := decide_eq_false (by unfold Oj.bad at hbad; omega)
  have d1 : decide (64 < n) = false := decide_eq_false (by unfold Oj.bad at hbad; omega)
  have d2 : decide (o.k < 0) = false := decide_eq_false (by unfold Oj.bad at hbad; omega)
  have d3 : decide (3 < o.k) = false := decide_eq_false (by unfold Oj.bad at hbad; omega)
  have d4 : decide (o.c < 0) = false := decide_eq_false (by unfold Oj.bad at hbad; omega)
  have d5 : decide (4294967295 < o.c) = false := decide_eq_false (by unfold Oj.bad at hbad; omega)
  have d6 : decide (o.l < 0) = false := decide_eq_false (by unfold Oj.bad at hbad; omega)
  have d7 : decide (4294967295 < o.l) = false := decide_eq_false (by unfold Oj.bad at hbad; omega)
  have e1 : (o.k != 1) = false := by simpa using hk
  clear hbad hk
  go_enter Tryd.func22, Tryd.ntmps22
  go_wp2
  clear c0 c1 c2 d0 d1 d2 d3 d4 d5 d6 d7
  generalize w.alloc (.cells o.cells.toArray 33) = w0 at HB HG ⊢
  go_loopw [6] (fun i wr => ∃ k : Nat, k ≤ 16 ∧ i = .int .i64 k ∧ Below w.heap.size w wr ∧ ObAt wr w.heap.size 0 o ∧ ∀ x ∈ o.s.take k, x.may n ∧ (o.k = 1 ∨ x = zk)) (fun i _ => 17 - (intOf i).toNat)
  case atStart => exact ⟨0, by omega, rfl, HB.out, HG.out, fun x hx => by simp at hx⟩
  case round =>
    obtain ⟨k, hk', rfl, hb, hg, hm⟩ := hrel
    clear HB HG
    have HB0 := Lib.hid hb
    have HO0 := Lib.hid hg
    have HM := Lib.hid hm
    clear hb hg hm
    by_cases hlt : k < 16
    · have hks : k < o.s.length := by rw [o.hs]; exact hlt
      have HKS := Lib.hid hks
      obtain ⟨x, hx⟩ : ∃ x, o.s[k] = x := ⟨_, rfl⟩
      have HX := Lib.hid hx
      obtain ⟨c0, c1, c2, c3, c4, c5⟩ := key_x HO0.out HKS.out HX.out
      clear hx hks
      by_cases hok : x.ok
      · have HOK := Lib.hid hok
        clear hok
        by_cases hof : x.of
        · have HOF := Lib.hid hof
          clear hof
          by_cases hq : x.o < n
          · have dq : decide (n ≤ x.o) = false := by simpa using hq
            have HQ := Lib.hid hq
            clear hq
            go_wp2_with (first
              | (go_at_call 32; refine (Ky.chk_yes HOK.out ▸ rchk_any x _).mono ?_; rintro e w1 ⟨rfl, b1⟩; have HB1 := Lib.hid (HB0.out.trans (b1.mono HB0.out.size)); have HO1 := Lib.hid (HO0.out.below b1); obtain ⟨c0, c1, c2, c3, c4, c5⟩ := key_x HO1.out HKS.out HX.out; clear b1)
              | (go_at_call 33; refine (rname_yes x _ HOF.out).mono ?_; rintro e w2 ⟨rfl, b2⟩; have HB2 := Lib.hid (HB1.out.trans (b2.mono HB1.out.size)); have HO2 := Lib.hid (HO1.out.below b2); clear c0 c1 c2 c3 c4 c5; obtain ⟨c0, c1, c2, c3, c4, c5⟩ := key_x HO2.out HKS.out HX.out; clear b2))
            go_roundw
            case rel => exact ⟨k + 1, by omega, by go_num, HB2.out, HO2.out, take_snoc_x HKS.out HX.out HM.out ⟨⟨HOK.out, fun _ => HQ.out⟩, .inl HK.out⟩⟩
            case measure => simp [intOf]; omega
          · have dq : decide (n ≤ x.o) = true := by simpa using hq
            have HQ := Lib.hid hq
            clear hq
            go_wp2_with (first
              | (go_at_call 32; refine (Ky.chk_yes HOK.out ▸ rchk_any x _).mono ?_; rintro e w1 ⟨rfl, b1⟩; have HB1 := Lib.hid (HB0.out.trans (b1.mono HB0.out.size)); have HO1 := Lib.hid (HO0.out.below b1); obtain ⟨c0, c1, c2, c3, c4, c5⟩ := key_x HO1.out HKS.out HX.out; clear b1)
              | (go_at_call 33; refine (rname_yes x _ HOF.out).mono ?_; rintro e w2 ⟨rfl, b2⟩; have HB2 := Lib.hid (HB1.out.trans (b2.mono HB1.out.size)); have HO2 := Lib.hid (HO1.out.below b2); clear c0 c1 c2 c3 c4 c5; obtain ⟨c0, c1, c2, c3, c4, c5⟩ := key_x HO2.out HKS.out HX.out; clear b2))
            go_ret
            exact ⟨ret_n (Oj.chk_no fun h => by have h' := (slot_x h HKS.out HX.out).1; have h1 := h'.2 HOF.out; have h2 := HQ.out; omega).symm, HB2.out⟩
        · have HOF := Lib.hid hof
          have dq : decide (n ≤ -1) = false := decide_eq_false (by have := HN.out; omega)
          clear hof
          go_wp2_with (first
            | (go_at_call 32; refine (Ky.chk_yes HOK.out ▸ rchk_any x _).mono ?_; rintro e w1 ⟨rfl, b1⟩; have HB1 := Lib.hid (HB0.out.trans (b1.mono HB0.out.size)); have HO1 := Lib.hid (HO0.out.below b1); obtain ⟨c0, c1, c2, c3, c4, c5⟩ := key_x HO1.out HKS.out HX.out; clear b1)
            | (go_at_call 33; refine (rname_no x _ HOF.out).mono ?_; rintro e w2 ⟨rfl, b2⟩; have HB2 := Lib.hid (HB1.out.trans (b2.mono HB1.out.size)); have HO2 := Lib.hid (HO1.out.below b2); clear c0 c1 c2 c3 c4 c5; obtain ⟨c0, c1, c2, c3, c4, c5⟩ := key_x HO2.out HKS.out HX.out; clear b2))
          go_roundw
          case rel => exact ⟨k + 1, by omega, by go_num, HB2.out, HO2.out, take_snoc_x HKS.out HX.out HM.out ⟨⟨HOK.out, fun h => absurd h HOF.out⟩, .inl HK.out⟩⟩
          case measure => simp [intOf]; omega
      · have HOK := Lib.hid hok
        clear hok
        go_wp2_with (first
          | (go_at_call 32; refine (Ky.chk_no HOK.out ▸ rchk_any x _).mono ?_; rintro e w1 ⟨rfl, b1⟩; have HB1 := Lib.hid (HB0.out.trans (b1.mono HB0.out.size)); have HO1 := Lib.hid (HO0.out.below b1); obtain ⟨c0, c1, c2, c3, c4, c5⟩ := key_x HO1.out HKS.out HX.out; clear b1))
        go_ret
        exact ⟨ret_n (Oj.chk_no fun h => by have h' := (slot_x h HKS.out HX.out).1; exact HOK.out h'.1).symm, HB1.out⟩
    · obtain rfl : k = 16 := by omega
      have HS := Lib.hid (take_all (Nat.le_of_eq o.hs) HM.out)
      clear HM
      go_wp2
      go_loopw [7] (fun i wr => ∃ k : Nat, k ≤ 64 ∧ i = .int .i64 k ∧ Below w.heap.size w wr ∧ ObAt wr w.heap.size 0 o) (fun i _ => 65 - (intOf i).toNat)
      case atStart => exact ⟨0, by omega, rfl, HB0.out, HO0.out⟩
      case round =>
        obtain ⟨k, hk', rfl, hb, hg⟩ := hrel
        clear HB0 HO0
        have HB0 := Lib.hid hb
        have HO0 := Lib.hid hg
        clear hb hg
        by_cases hlt : k < 64
        · have hks : k < o.b.length := by rw [o.hb]; exact hlt
          have HKS := Lib.hid hks
          clear hks
          go_wp2
          go_roundw
          case rel => exact ⟨k + 1, by omega, by go_num, HB0.out, HO0.out⟩
          case measure => simp [intOf]; omega
        · go_wp2
          go_ret
          exact ⟨ret_n (Oj.chk_yes (ok_ref.2 ⟨HP.out, HS.out, .inl HK.out⟩)).symm, HB0.out⟩
set_option maxRecDepth 8000 in
set_option maxHeartbeats 2000000 in
theorem rchk_2 (o : Oj) (n : Int) (w : World) (hbad : ¬ o.bad n) (hk : o.k = 2) :
    Calls Tryd.prog 22 #[o.val, .int .i64 n] w fun e w' => e = .returned (.int .i64 (o.chk n)) ∧ Below w.heap.size w w' := by
  have HB := Lib.hid ((Below.refl w.heap.size w).alloc (Nat.le_refl _) (.cells o.cells.toArray 33))
  have HG := Lib.hid (Blk.new w 33 o.cells.toArray).ob
  obtain ⟨c0, c1, c2⟩ := HG.out.cells
  have HP := Lib.hid hbad
  have HN := Lib.hid (show 1 ≤ n by unfold Oj.bad at hbad; omega)
  have HK := Lib.hid hk
  have d0 : decide (n < 1) = false := decide_eq_false (by unfold Oj.bad at hbad; omega)
  have d1 : decide (64 < n) = false := decide_eq_false (by unfold Oj.bad at hbad; omega)
  have d2 : decide (o.k < 0) = false := decide_eq_false (by unfold Oj.bad at hbad; omega)
  have d3 : decide (3 < o.k) = false := decide_eq_false (by unfold Oj.bad at hbad; omega)
  have d4 : decide (o.c < 0) = false := decide_eq_false (by unfold Oj.bad at hbad; omega)
  have d5 : decide (4294967295 < o.c) = false := decide_eq_false (by unfold Oj.bad at hbad; omega)
  have d6 : decide (o.l < 0) = false := decide_eq_false (by unfold Oj.bad at hbad; omega)
  have d7 : decide (4294967295 < o.l) = false := decide_eq_false (by unfold Oj.bad at hbad; omega)
  have e1 : (o.k != 1) = true := by simp; omega
  have e2 : (o.k != 2) = false := by simpa using hk
  have d8 : (o.l != 0) = false := by
    have : o.l = 0 := Decidable.byContradiction fun hl => hbad (.inr (.inr (.inr (.inr (.inr (.inr (.inr (.inr ⟨by omega, hl⟩))))))))
    simpa using this
  clear hbad hk
  go_enter Tryd.func22, Tryd.ntmps22
  go_wp2
  clear c0 c1 c2 d0 d1 d2 d3 d4 d5 d6 d7 d8
  generalize w.alloc (.cells o.cells.toArray 33) = w0 at HB HG ⊢
  go_loopw [6] (fun i wr => ∃ k : Nat, k ≤ 16 ∧ i = .int .i64 k ∧ Below w.heap.size w wr ∧ ObAt wr w.heap.size 0 o ∧ ∀ x ∈ o.s.take k, x.may n ∧ (o.k = 1 ∨ x = zk)) (fun i _ => 17 - (intOf i).toNat)
  case atStart => exact ⟨0, by omega, rfl, HB.out, HG.out, fun x hx => by simp at hx⟩
  case round =>
    obtain ⟨k, hk', rfl, hb, hg, hm⟩ := hrel
    clear HB HG
    have HB0 := Lib.hid hb
    have HO0 := Lib.hid hg
    have HM := Lib.hid hm
    clear hb hg hm
    by_cases hlt : k < 16
    · have hks : k < o.s.length := by rw [o.hs]; exact hlt
      have HKS := Lib.hid hks
      obtain ⟨x, hx⟩ : ∃ x, o.s[k] = x := ⟨_, rfl⟩
      have HX := Lib.hid hx
      obtain ⟨c0, c1, c2, c3, c4, c5⟩ := key_x HO0.out HKS.out HX.out
      clear hx hks
      by_cases hok : x.ok
      · have HOK := Lib.hid hok
        clear hok
        by_cases hof : x.of
        · have HOF := Lib.hid hof
          clear hof
          by_cases hq : x.o < n
          · have dq : decide (n ≤ x.o) = false := by simpa using hq
            have HQ := Lib.hid hq
            clear hq
            by_cases hz : x = zk
            · have DZ := Lib.hid (show (!decide (x = zk)) = false by simpa using hz)
              have HZ := Lib.hid hz
              clear hz
              go_wp2_with (first
                | (go_at_call 32; refine (Ky.chk_yes HOK.out ▸ rchk_any x _).mono ?_; rintro e w1 ⟨rfl, b1⟩; have HB1 := Lib.hid (HB0.out.trans (b1.mono HB0.out.size)); have HO1 := Lib.hid (HO0.out.below b1); obtain ⟨c0, c1, c2, c3, c4, c5⟩ := key_x HO1.out HKS.out HX.out; clear b1)
                | (go_at_call 33; refine (rname_yes x _ HOF.out).mono ?_; rintro e w2 ⟨rfl, b2⟩; have HB2 := Lib.hid (HB1.out.trans (b2.mono HB1.out.size)); have HO2 := Lib.hid (HO1.out.below b2); clear c0 c1 c2 c3 c4 c5; obtain ⟨c0, c1, c2, c3, c4, c5⟩ := key_x HO2.out HKS.out HX.out; clear b2)
                | (refine wpList_yields (S := fun _ => True) (DZ.out ▸ y_kyne (by rfl) (by rfl) x zk (by rfl) (by rfl)) trivial ?_))
              go_roundw
              case rel => exact ⟨k + 1, by omega, by go_num, HB2.out, HO2.out, take_snoc_x HKS.out HX.out HM.out ⟨⟨HOK.out, fun _ => HQ.out⟩, .inr HZ.out⟩⟩
              case measure => simp [intOf]; omega
            · have DZ := Lib.hid (show (!decide (x = zk)) = true by simpa using hz)
              have HZ := Lib.hid hz
              clear hz
              go_wp2_with (first
                | (go_at_call 32; refine (Ky.chk_yes HOK.out ▸ rchk_any x _).mono ?_; rintro e w1 ⟨rfl, b1⟩; have HB1 := Lib.hid (HB0.out.trans (b1.mono HB0.out.size)); have HO1 := Lib.hid (HO0.out.below b1); obtain ⟨c0, c1, c2, c3, c4, c5⟩ := key_x HO1.out HKS.out HX.out; clear b1)
                | (go_at_call 33; refine (rname_yes x _ HOF.out).mono ?_; rintro e w2 ⟨rfl, b2⟩; have HB2 := Lib.hid (HB1.out.trans (b2.mono HB1.out.size)); have HO2 := Lib.hid (HO1.out.below b2); clear c0 c1 c2 c3 c4 c5; obtain ⟨c0, c1, c2, c3, c4, c5⟩ := key_x HO2.out HKS.out HX.out; clear b2)
                | (refine wpList_yields (S := fun _ => True) (DZ.out ▸ y_kyne (by rfl) (by rfl) x zk (by rfl) (by rfl)) trivial ?_))
              go_ret
              exact ⟨ret_n (Oj.chk_no fun h => by have h' := (slot_x h HKS.out HX.out).2; exact h'.elim (fun e => by have := HK.out; omega) HZ.out).symm, HB2.out⟩
          · have dq : decide (n ≤ x.o) = true := by simpa using hq
            have HQ := Lib.hid hq
            clear hq
            go_wp2_with (first
              | (go_at_call 32; refine (Ky.chk_yes HOK.out ▸ rchk_any x _).mono ?_; rintro e w1 ⟨rfl, b1⟩; have HB1 := Lib.hid (HB0.out.trans (b1.mono HB0.out.size)); have HO1 := Lib.hid (HO0.out.below b1); obtain ⟨c0, c1, c2, c3, c4, c5⟩ := key_x HO1.out HKS.out HX.out; clear b1)
              | (go_at_call 33; refine (rname_yes x _ HOF.out).mono ?_; rintro e w2 ⟨rfl, b2⟩; have HB2 := Lib.hid (HB1.out.trans (b2.mono HB1.out.size)); have HO2 := Lib.hid (HO1.out.below b2); clear c0 c1 c2 c3 c4 c5; obtain ⟨c0, c1, c2, c3, c4, c5⟩ := key_x HO2.out HKS.out HX.out; clear b2))
            go_ret
            exact ⟨ret_n (Oj.chk_no fun h => by have h' := (slot_x h HKS.out HX.out).1; have h1 := h'.2 HOF.out; have h2 := HQ.out; omega).symm, HB2.out⟩
        · have HOF := Lib.hid hof
          have dq : decide (n ≤ -1) = false := decide_eq_false (by have := HN.out; omega)
          clear hof
          by_cases hz : x = zk
          · have DZ := Lib.hid (show (!decide (x = zk)) = false by simpa using hz)
            have HZ := Lib.hid hz
            clear hz
            go_wp2_with (first
              | (go_at_call 32; refine (Ky.chk_yes HOK.out ▸ rchk_any x _).mono ?_; rintro e w1 ⟨rfl, b1⟩; have HB1 := Lib.hid (HB0.out.trans (b1.mono HB0.out.size)); have HO1 := Lib.hid (HO0.out.below b1); obtain ⟨c0, c1, c2, c3, c4, c5⟩ := key_x HO1.out HKS.out HX.out; clear b1)
              | (go_at_call 33; refine (rname_no x _ HOF.out).mono ?_; rintro e w2 ⟨rfl, b2⟩; have HB2 := Lib.hid (HB1.out.trans (b2.mono HB1.out.size)); have HO2 := Lib.hid (HO1.out.below b2); clear c0 c1 c2 c3 c4 c5; obtain ⟨c0, c1, c2, c3, c4, c5⟩ := key_x HO2.out HKS.out HX.out; clear b2)
              | (refine wpList_yields (S := fun _ => True) (DZ.out ▸ y_kyne (by rfl) (by rfl) x zk (by rfl) (by rfl)) trivial ?_))
            go_roundw
            case rel => exact ⟨k + 1, by omega, by go_num, HB2.out, HO2.out, take_snoc_x HKS.out HX.out HM.out ⟨⟨HOK.out, fun h => absurd h HOF.out⟩, .inr HZ.out⟩⟩
            case measure => simp [intOf]; omega
          · have DZ := Lib.hid (show (!decide (x = zk)) = true by simpa using hz)
            have HZ := Lib.hid hz
            clear hz
            go_wp2_with (first
              | (go_at_call 32; refine (Ky.chk_yes HOK.out ▸ rchk_any x _).mono ?_; rintro e w1 ⟨rfl, b1⟩; have HB1 := Lib.hid (HB0.out.trans (b1.mono HB0.out.size)); have HO1 := Lib.hid (HO0.out.below b1); obtain ⟨c0, c1, c2, c3, c4, c5⟩ := key_x HO1.out HKS.out HX.out; clear b1)
              | (go_at_call 33; refine (rname_no x _ HOF.out).mono ?_; rintro e w2 ⟨rfl, b2⟩; have HB2 := Lib.hid (HB1.out.trans (b2.mono HB1.out.size)); have HO2 := Lib.hid (HO1.out.below b2); clear c0 c1 c2 c3 c4 c5; obtain ⟨c0, c1, c2, c3, c4, c5⟩ := key_x HO2.out HKS.out HX.out; clear b2)
              | (refine wpList_yields (S := fun _ => True) (DZ.out ▸ y_kyne (by rfl) (by rfl) x zk (by rfl) (by rfl)) trivial ?_))
            go_ret
            exact ⟨ret_n (Oj.chk_no fun h => by have h' := (slot_x h HKS.out HX.out).2; exact h'.elim (fun e => by have := HK.out; omega) HZ.out).symm, HB2.out⟩
      · have HOK := Lib.hid hok
        clear hok
        go_wp2_with (first
          | (go_at_call 32; refine (Ky.chk_no HOK.out ▸ rchk_any x _).mono ?_; rintro e w1 ⟨rfl, b1⟩; have HB1 := Lib.hid (HB0.out.trans (b1.mono HB0.out.size)); have HO1 := Lib.hid (HO0.out.below b1); obtain ⟨c0, c1, c2, c3, c4, c5⟩ := key_x HO1.out HKS.out HX.out; clear b1))
        go_ret
        exact ⟨ret_n (Oj.chk_no fun h => by have h' := (slot_x h HKS.out HX.out).1; exact HOK.out h'.1).symm, HB1.out⟩
    · obtain rfl : k = 16 := by omega
      have HS := Lib.hid (take_all (Nat.le_of_eq o.hs) HM.out)
      clear HM
      go_wp2
      go_loopw [7] (fun i wr => ∃ k : Nat, k ≤ 64 ∧ i = .int .i64 k ∧ Below w.heap.size w wr ∧ ObAt wr w.heap.size 0 o) (fun i _ => 65 - (intOf i).toNat)
      case atStart => exact ⟨0, by omega, rfl, HB0.out, HO0.out⟩
      case round =>
        obtain ⟨k, hk', rfl, hb, hg⟩ := hrel
        clear HB0 HO0
        have HB0 := Lib.hid hb
        have HO0 := Lib.hid hg
        clear hb hg
        by_cases hlt : k < 64
        · have hks : k < o.b.length := by rw [o.hb]; exact hlt
          have HKS := Lib.hid hks
          clear hks
          go_wp2
          go_roundw
          case rel => exact ⟨k + 1, by omega, by go_num, HB0.out, HO0.out⟩
          case measure => simp [intOf]; omega
        · go_wp2
          go_ret
          exact ⟨ret_n (Oj.chk_yes (ok_ref.2 ⟨HP.out, HS.out, .inr (.inl HK.out)⟩)).symm, HB0.out⟩
set_option maxRecDepth 8000 in
set_option maxHeartbeats 2000000 in
theorem rchk_x (o : Oj) (n : Int) (w : World) (hbad : ¬ o.bad n) (hk1 : o.k ≠ 1) (hk2 : o.k ≠ 2) :
    Calls Tryd.prog 22 #[o.val, .int .i64 n] w fun e w' => e = .returned (.int .i64 (o.chk n)) ∧ Below w.heap.size w w' := by
  have HB := Lib.hid ((Below.refl w.heap.size w).alloc (Nat.le_refl _) (.cells o.cells.toArray 33))
  have HG := Lib.hid (Blk.new w 33 o.cells.toArray).ob
  obtain ⟨c0, c1, c2⟩ := HG.out.cells
  have HP := Lib.hid hbad
  have HN := Lib.hid (show 1 ≤ n by unfold Oj.bad at hbad; omega)
  have HK1 := Lib.hid hk1
  have HK2 := Lib.hid hk2
  have d0 : decide (n < 1) = false := decide_eq_false (by unfold Oj.bad at hbad; omega)
  have d1 : decide (64 < n) = false := decide_eq_false (by unfold Oj.bad at hbad; omega)
  have d2 : decide (o.k < 0) = false := decide_eq_false (by unfold Oj.bad at hbad; omega)
  have d3 : decide (3 < o.k) = false := decide_eq_false (by unfold Oj.bad at hbad; omega)
  have d4 : decide (o.c < 0) = false := decide_eq_false (by unfold Oj.bad at hbad; omega)
  have d5 : decide (4294967295 < o.c) = false := decide_eq_false (by unfold Oj.bad at hbad; omega)
  have d6 : decide (o.l < 0) = false := decide_eq_false (by unfold Oj.bad at hbad; omega)
  have d7 : decide (4294967295 < o.l) = false := decide_eq_false (by unfold Oj.bad at hbad; omega)
  have e1 : (o.k != 1) = true := by simpa using hk1
  have e2 : (o.k != 2) = true := by simpa using hk2
  have d8 : (o.l != 0) = false := by
    have : o.l = 0 := Decidable.byContradiction fun hl => hbad (.inr (.inr (.inr (.inr (.inr (.inr (.inr (.inr ⟨hk1, hl⟩))))))))
    simpa using this
  clear hbad hk1 hk2
  go_enter Tryd.func22, Tryd.ntmps22
  go_wp2
  clear c0 c1 c2 d0 d1 d2 d3 d4 d5 d6 d7 d8
  generalize w.alloc (.cells o.cells.toArray 33) = w0 at HB HG ⊢
  go_loopw [6] (fun i wr => ∃ k : Nat, k ≤ 16 ∧ i = .int .i64 k ∧ Below w.heap.size w wr ∧ ObAt wr w.heap.size 0 o ∧ ∀ x ∈ o.s.take k, x.may n ∧ (o.k = 1 ∨ x = zk)) (fun i _ => 17 - (intOf i).toNat)
  case atStart => exact ⟨0, by omega, rfl, HB.out, HG.out, fun x hx => by simp at hx⟩
  case round =>
    obtain ⟨k, hk', rfl, hb, hg, hm⟩ := hrel
    clear HB HG
    have HB0 := Lib.hid hb
    have HO0 := Lib.hid hg
    have HM := Lib.hid hm
    clear hb hg hm
    by_cases hlt : k < 16
    · have hks : k < o.s.length := by rw [o.hs]; exact hlt
      have HKS := Lib.hid hks
      obtain ⟨x, hx⟩ : ∃ x, o.s[k] = x := ⟨_, rfl⟩
      have HX := Lib.hid hx
      obtain ⟨c0, c1, c2, c3, c4, c5⟩ := key_x HO0.out HKS.out HX.out
      clear hx hks
      by_cases hok : x.ok
      · have HOK := Lib.hid hok
        clear hok
        by_cases hof : x.of
        · have HOF := Lib.hid hof
          clear hof
          by_cases hq : x.o < n
          · have dq : decide (n ≤ x.o) = false := by simpa using hq
            have HQ := Lib.hid hq
            clear hq
            by_cases hz : x = zk
            · have DZ := Lib.hid (show (!decide (x = zk)) = false by simpa using hz)
              have HZ := Lib.hid hz
              clear hz
              go_wp2_with (first
                | (go_at_call 32; refine (Ky.chk_yes HOK.out ▸ rchk_any x _).mono ?_; rintro e w1 ⟨rfl, b1⟩; have HB1 := Lib.hid (HB0.out.trans (b1.mono HB0.out.size)); have HO1 := Lib.hid (HO0.out.below b1); obtain ⟨c0, c1, c2, c3, c4, c5⟩ := key_x HO1.out HKS.out HX.out; clear b1)
                | (go_at_call 33; refine (rname_yes x _ HOF.out).mono ?_; rintro e w2 ⟨rfl, b2⟩; have HB2 := Lib.hid (HB1.out.trans (b2.mono HB1.out.size)); have HO2 := Lib.hid (HO1.out.below b2); clear c0 c1 c2 c3 c4 c5; obtain ⟨c0, c1, c2, c3, c4, c5⟩ := key_x HO2.out HKS.out HX.out; clear b2)
                | (refine wpList_yields (S := fun _ => True) (DZ.out ▸ y_kyne (by rfl) (by rfl) x zk (by rfl) (by rfl)) trivial ?_))
              go_roundw
              case rel => exact ⟨k + 1, by omega, by go_num, HB2.out, HO2.out, take_snoc_x HKS.out HX.out HM.out ⟨⟨HOK.out, fun _ => HQ.out⟩, .inr HZ.out⟩⟩
              case measure => simp [intOf]; omega
            · have DZ := Lib.hid (show (!decide (x = zk)) = true by simpa using hz)
              have HZ := Lib.hid hz
              clear hz
              go_wp2_with (first
                | (go_at_call 32; refine (Ky.chk_yes HOK.out ▸ rchk_any x _).mono ?_; rintro e w1 ⟨rfl, b1⟩; have HB1 := Lib.hid (HB0.out.trans (b1.mono HB0.out.size)); have HO1 := Lib.hid (HO0.out.below b1); obtain ⟨c0, c1, c2, c3, c4, c5⟩ := key_x HO1.out HKS.out HX.out; clear b1)
                | (go_at_call 33; refine (rname_yes x _ HOF.out).mono ?_; rintro e w2 ⟨rfl, b2⟩; have HB2 := Lib.hid (HB1.out.trans (b2.mono HB1.out.size)); have HO2 := Lib.hid (HO1.out.below b2); clear c0 c1 c2 c3 c4 c5; obtain ⟨c0, c1, c2, c3, c4, c5⟩ := key_x HO2.out HKS.out HX.out; clear b2)
                | (refine wpList_yields (S := fun _ => True) (DZ.out ▸ y_kyne (by rfl) (by rfl) x zk (by rfl) (by rfl)) trivial ?_))
              go_ret
              exact ⟨ret_n (Oj.chk_no fun h => by have h' := (slot_x h HKS.out HX.out).2; exact h'.elim (fun e => by exact HK1.out e) HZ.out).symm, HB2.out⟩
          · have dq : decide (n ≤ x.o) = true := by simpa using hq
            have HQ := Lib.hid hq
            clear hq
            go_wp2_with (first
              | (go_at_call 32; refine (Ky.chk_yes HOK.out ▸ rchk_any x _).mono ?_; rintro e w1 ⟨rfl, b1⟩; have HB1 := Lib.hid (HB0.out.trans (b1.mono HB0.out.size)); have HO1 := Lib.hid (HO0.out.below b1); obtain ⟨c0, c1, c2, c3, c4, c5⟩ := key_x HO1.out HKS.out HX.out; clear b1)
              | (go_at_call 33; refine (rname_yes x _ HOF.out).mono ?_; rintro e w2 ⟨rfl, b2⟩; have HB2 := Lib.hid (HB1.out.trans (b2.mono HB1.out.size)); have HO2 := Lib.hid (HO1.out.below b2); clear c0 c1 c2 c3 c4 c5; obtain ⟨c0, c1, c2, c3, c4, c5⟩ := key_x HO2.out HKS.out HX.out; clear b2))
            go_ret
            exact ⟨ret_n (Oj.chk_no fun h => by have h' := (slot_x h HKS.out HX.out).1; have h1 := h'.2 HOF.out; have h2 := HQ.out; omega).symm, HB2.out⟩
        · have HOF := Lib.hid hof
          have dq : decide (n ≤ -1) = false := decide_eq_false (by have := HN.out; omega)
          clear hof
          by_cases hz : x = zk
          · have DZ := Lib.hid (show (!decide (x = zk)) = false by simpa using hz)
            have HZ := Lib.hid hz
            clear hz
            go_wp2_with (first
              | (go_at_call 32; refine (Ky.chk_yes HOK.out ▸ rchk_any x _).mono ?_; rintro e w1 ⟨rfl, b1⟩; have HB1 := Lib.hid (HB0.out.trans (b1.mono HB0.out.size)); have HO1 := Lib.hid (HO0.out.below b1); obtain ⟨c0, c1, c2, c3, c4, c5⟩ := key_x HO1.out HKS.out HX.out; clear b1)
              | (go_at_call 33; refine (rname_no x _ HOF.out).mono ?_; rintro e w2 ⟨rfl, b2⟩; have HB2 := Lib.hid (HB1.out.trans (b2.mono HB1.out.size)); have HO2 := Lib.hid (HO1.out.below b2); clear c0 c1 c2 c3 c4 c5; obtain ⟨c0, c1, c2, c3, c4, c5⟩ := key_x HO2.out HKS.out HX.out; clear b2)
              | (refine wpList_yields (S := fun _ => True) (DZ.out ▸ y_kyne (by rfl) (by rfl) x zk (by rfl) (by rfl)) trivial ?_))
            go_roundw
            case rel => exact ⟨k + 1, by omega, by go_num, HB2.out, HO2.out, take_snoc_x HKS.out HX.out HM.out ⟨⟨HOK.out, fun h => absurd h HOF.out⟩, .inr HZ.out⟩⟩
            case measure => simp [intOf]; omega
          · have DZ := Lib.hid (show (!decide (x = zk)) = true by simpa using hz)
            have HZ := Lib.hid hz
            clear hz
            go_wp2_with (first
              | (go_at_call 32; refine (Ky.chk_yes HOK.out ▸ rchk_any x _).mono ?_; rintro e w1 ⟨rfl, b1⟩; have HB1 := Lib.hid (HB0.out.trans (b1.mono HB0.out.size)); have HO1 := Lib.hid (HO0.out.below b1); obtain ⟨c0, c1, c2, c3, c4, c5⟩ := key_x HO1.out HKS.out HX.out; clear b1)
              | (go_at_call 33; refine (rname_no x _ HOF.out).mono ?_; rintro e w2 ⟨rfl, b2⟩; have HB2 := Lib.hid (HB1.out.trans (b2.mono HB1.out.size)); have HO2 := Lib.hid (HO1.out.below b2); clear c0 c1 c2 c3 c4 c5; obtain ⟨c0, c1, c2, c3, c4, c5⟩ := key_x HO2.out HKS.out HX.out; clear b2)
              | (refine wpList_yields (S := fun _ => True) (DZ.out ▸ y_kyne (by rfl) (by rfl) x zk (by rfl) (by rfl)) trivial ?_))
            go_ret
            exact ⟨ret_n (Oj.chk_no fun h => by have h' := (slot_x h HKS.out HX.out).2; exact h'.elim (fun e => by exact HK1.out e) HZ.out).symm, HB2.out⟩
      · have HOK := Lib.hid hok
        clear hok
        go_wp2_with (first
          | (go_at_call 32; refine (Ky.chk_no HOK.out ▸ rchk_any x _).mono ?_; rintro e w1 ⟨rfl, b1⟩; have HB1 := Lib.hid (HB0.out.trans (b1.mono HB0.out.size)); have HO1 := Lib.hid (HO0.out.below b1); obtain ⟨c0, c1, c2, c3, c4, c5⟩ := key_x HO1.out HKS.out HX.out; clear b1))
        go_ret
        exact ⟨ret_n (Oj.chk_no fun h => by have h' := (slot_x h HKS.out HX.out).1; exact HOK.out h'.1).symm, HB1.out⟩
    · obtain rfl : k = 16 := by omega
      have HS := Lib.hid (take_all (Nat.le_of_eq o.hs) HM.out)
      clear HM
      go_wp2
      go_loopw [7] (fun i wr => ∃ k : Nat, k ≤ 64 ∧ i = .int .i64 k ∧ Below w.heap.size w wr ∧ ObAt wr w.heap.size 0 o ∧ ∀ y ∈ o.b.take k, y = 0) (fun i _ => 65 - (intOf i).toNat)
      case atStart => exact ⟨0, by omega, rfl, HB0.out, HO0.out, fun x hx => by simp at hx⟩
      case round =>
        obtain ⟨k, hk', rfl, hb, hg, hy⟩ := hrel
        clear HB0 HO0
        have HB0 := Lib.hid hb
        have HO0 := Lib.hid hg
        have HY := Lib.hid hy
        clear hy
        clear hb hg
        by_cases hlt : k < 64
        · have hks : k < o.b.length := by rw [o.hb]; exact hlt
          have HKS := Lib.hid hks
          clear hks
          have e0 := byte_of_range HO0.out.bytes k HKS.out
          simp only [Nat.zero_add] at e0
          by_cases hz : o.b[k]'HKS.out = 0
          · have HZ := Lib.hid hz
            rw [hz] at e0
            clear hz
            go_wp2
            go_roundw
            case rel => exact ⟨k + 1, by omega, by go_num, HB0.out, HO0.out, take_snoc_all HKS.out HY.out HZ.out⟩
            case measure => simp [intOf]; omega
          · have HZ := Lib.hid hz
            have dz : (((o.b[k]'HKS.out).toNat : Int) != 0) = true := by
              have : (o.b[k]'HKS.out).toNat ≠ 0 := fun e => hz (UInt8.toNat_inj.1 (by simpa using e))
              simp
              omega
            obtain ⟨q, hq⟩ : ∃ q : Int, ((o.b[k]'HKS.out).toNat : Int) = q := ⟨_, rfl⟩
            rw [hq] at e0 dz
            clear hz hq
            go_wp2
            go_ret
            exact ⟨ret_n (Oj.chk_no fun h => by
              rcases (ok_ref.1 h).2.2 with h' | h' | h'
              · exact HK1.out h'
              · exact HK2.out h'
              · exact HZ.out (h' _ (List.getElem_mem HKS.out))).symm, HB0.out⟩
        · go_wp2
          go_ret
          exact ⟨ret_n (Oj.chk_yes (ok_ref.2 ⟨HP.out, HS.out, .inr (.inr (take_all (Nat.le_of_eq o.hb) (by have h := HY.out; rwa [show k = 64 by omega] at h)))⟩)).symm, HB0.out⟩
set_option maxRecDepth 8000 in
theorem rcheck_any (o : Oj) (n : Int) (w : World) :
    Calls Tryd.prog 22 #[o.val, .int .i64 n] w fun e w' => e = .returned (.int .i64 (o.chk n)) ∧ Below w.heap.size w w' := by
  by_cases hb : o.bad n
  · rw [Oj.chk_no fun h => (ok_ref.1 h).1 hb]; exact rchk_bad o n w hb
  · by_cases h1 : o.k = 1
    · exact rchk_1 o n w hb h1
    · by_cases h2 : o.k = 2
      · exact rchk_2 o n w hb h2
      · exact rchk_x o n w hb h1 h2
end Go.Proofs.YtjolojomgfcfbaaDoor
namespace Go.Proofs.YtjolojomgfcfbaaDoor
open Go.RowKit
set_option maxRecDepth 8000 in
theorem ownBlock_row (A : Option Addr) (n c : Nat) : (Value.slice A n c).ownBlock = rowOf A := by cases A <;> rfl
set_option maxRecDepth 8000 in
theorem info78 : (Tryd.prog.info? 79).map (fun i => (i.zero, i.size, i.bytes)) = some (some (.pointer none), 1, 8) := by kernel_rfl
section
variable {w : World} {base p : Nat} {A : Option Addr} {cap : Nat} {ps : List Nat} {os : List Oj}
set_option maxRecDepth 8000 in
theorem StAt.push (h : StAt w base p A cap ps os) (o : Oj) (t : TypeId) (cs : Array Value) {w' : World} {g cap' : Nat}
    (hown : w'.ownsRow base 79 1 (.slice (some ⟨g, 0, none⟩) (os.length + 1) cap') (os.length + 1) (ps.map pv ++ [pv w.heap.size]))
    (hg : ((w.alloc (.cells o.cells.toArray 33)).alloc (.cells cs t)).grownBy w' (rowOf A)) (hr : rowOf A = some g ∨ g = w.heap.size + 2) :
    StAt (w'.setCell ⟨p, 0, none⟩ (.slice (some ⟨g, 0, none⟩) (os.length + 1) cap')) base p (some ⟨g, 0, none⟩) cap' (ps ++ [w.heap.size]) (os ++ [o]) ∧
    Below base w (w'.setCell ⟨p, 0, none⟩ (.slice (some ⟨g, 0, none⟩) (os.length + 1) cap')) := by
  have hp := h.lt p (.inl rfl)
  have hl : (os ++ [o]).length = os.length + 1 := by simp
  have hsz : ((w.alloc (.cells o.cells.toArray 33)).alloc (.cells cs t)).heap.size = w.heap.size + 2 := by simp
  have hb2 : Below w.heap.size w ((w.alloc (.cells o.cells.toArray 33)).alloc (.cells cs t)) := ((Below.refl _ _).alloc (Nat.le_refl _) _).alloc (by simp) _
  have hgl : ∀ k, k < w.heap.size → rowOf A ≠ some k → w'.heap[k]? = w.heap[k]? := fun k hk hne => (hg.block k (by rw [hsz]; omega) (fun e => hne e.symm)).trans (hb2.block k hk)
  have hgp : g ≠ p := by
    rcases hr with hr | rfl
    · rintro rfl; exact h.pn hr
    · omega
  have hgb : ∀ b ∈ ps, g ≠ b := fun b hb => by
    have := h.lt b (.inr (.inr hb))
    rcases hr with hr | rfl
    · rintro rfl; exact (h.pps _ hb).2.2 hr
    · omega
  have hgB : g ≠ w.heap.size := by
    rcases hr with hr | rfl
    · have := h.own_lt hr; omega
    · omega
  have hset : ∀ k, k ≠ p → (w'.setCell ⟨p, 0, none⟩ (.slice (some ⟨g, 0, none⟩) (os.length + 1) cap')).heap[k]? = w'.heap[k]? := fun k hk => Below.heap_setCell _ _ _ _ hk
  have hA : rowOf A ≠ some w.heap.size := fun e => by have := h.own_lt e; omega
  refine ⟨⟨?_, ?_, by simp [h.len], ?_, h.pge, ?_, ?_, ?_⟩, ?_⟩
  · have hb : Blk w' p 62 #[.slice A os.length cap] := (hgl p hp.2 h.pn).trans h.blk
    have := hb.set_ 0 (.slice (some ⟨g, 0, none⟩) (os.length + 1) cap')
    rw [hl]
    simpa using this
  · rw [hl, List.map_append]
    exact own_keep hown fun k hk => hset k (by injection hk with hk; simp only at hk; omega)
  · intro i h1 h2
    rw [hl] at h1
    by_cases hi : i < os.length
    · have hi' : i < ps.length := by rw [h.len]; exact hi
      rw [List.getElem_append_left hi', List.getElem_append_left hi]
      have hb := h.pps _ (List.getElem_mem hi')
      exact (hset _ hb.2.1).trans ((hgl _ (h.lt _ (.inr (.inr (List.getElem_mem hi')))).2 hb.2.2).trans (h.obj i hi hi'))
    · obtain rfl : i = os.length := by omega
      have e1 : (os ++ [o])[os.length]'(by simp) = o := by simp
      have e2 : (ps ++ [w.heap.size])[os.length]'h2 = w.heap.size := by
        rw [List.getElem_append_right (by rw [h.len]; exact Nat.le_refl _)]
        simp
      rw [e1, e2]
      refine (hset _ (by omega)).trans ((hg.block _ (by rw [hsz]; omega) (fun e => hA e.symm)).trans ?_)
      exact (Blk.new w 33 o.cells.toArray).alloc _
  · intro e
    injection e with e
    exact hgp e
  · intro b hb
    rcases List.mem_append.1 hb with hb | hb
    · have := h.pps b hb
      refine ⟨this.1, this.2.1, fun e => ?_⟩
      injection e with e
      exact hgb b hb e
    · obtain rfl : b = w.heap.size := by simpa using hb
      refine ⟨by omega, by omega, fun e => ?_⟩
      injection e with e
      exact hgB e
  · rw [List.nodup_append]
    refine ⟨h.nd, by simp, fun a ha b hb => ?_⟩
    obtain rfl : b = w.heap.size := by simpa using hb
    have := h.lt a (.inr (.inr ha))
    omega
  · have hb : Below base w w' := (hb2.mono (by omega)).grown hg (by rw [hsz]; omega) fun k hk => (h.own_lt hk).1
    exact hb.setCell (p := ⟨p, 0, none⟩) hp.1 _
set_option maxRecDepth 8000 in
set_option maxHeartbeats 1000000 in
theorem add_at (h : StAt w base p A cap ps os) (hn : os.length ≤ 1000) (o : Oj) :
    Calls Tryd.prog 19 #[pv p, o.val] w fun e w' => e = .returned (.tuple #[]) ∧ ∃ A' cap', StAt w' base p A' cap' (ps ++ [w.heap.size]) (os ++ [o]) ∧ Below base w w' := by
  have HS := Lib.hid h
  have HN := Lib.hid hn
  have hp := h.lt p (.inl rfl)
  have c0 := (h.alloc (.cells o.cells.toArray 33)).c0
  have HOW := Lib.hid ((h.alloc (.cells o.cells.toArray 33)).alloc (.cells #[pv w.heap.size] 79)).own
  have HP := Lib.hid hp
  have HC := Lib.hid (((h.alloc (.cells o.cells.toArray 33)).alloc (.cells #[pv w.heap.size] 79)).blk)
  have HPN := Lib.hid h.pn
  obtain ⟨i0, hi, hz0, hz1, hz2⟩ := info_parts info78
  have HI := Lib.hid (show _ ∧ _ ∧ _ ∧ _ from ⟨hi, hz0, hz1, hz2⟩)
  clear h hn hp hi hz0 hz1 hz2
  go_enter Tryd.func19, Tryd.ntmps19
  go_wp2_with (refine wpList_append_lies _ rfl (.tmp 8) (.tmp 9) 60 rfl base 79 i0 (.pointer none) 1 8 Tryd.underlying60 HI.out.1 HI.out.2.1 HI.out.2.2.1 HI.out.2.2.2 rfl (by decide) (.slice A os.length cap) os.length (ps.map pv) (by rfl) HOW.out ⟨w.heap.size + 1, 0, none⟩ 1 1 [pv w.heap.size] (by first | rfl | simp) rfl ?_ (by simp [Value.oneCell']) (by decide) (by have := HN.out; simp only [maxLen]; omega) (by have := HN.out; omega) (by have := HP.out; simp; omega) _ rfl ?_)
  · intro j u hu
    rw [Addr.add_mid, Nat.zero_add]
    have := (Blk.new (w.alloc (.cells o.cells.toArray 33)) 79 #[pv w.heap.size]).cell j
    rw [World.size_alloc] at this
    rw [this]
    simpa using hu
  · intro g cap' w' hown hg hr _
    rw [ownBlock_row] at hg hr
    have hpush := HS.out.push o 79 #[pv w.heap.size] hown hg hr
    have hb : Blk w' p 62 #[.slice A os.length cap] := (hg.block p (by have := HP.out; simp; omega) (fun e => HPN.out e.symm)).trans HC.out
    have c1 := (hb.cell 0).trans rfl
    have f1 := hb.frozen 0
    have HPU := Lib.hid hpush
    clear hpush hb hown hg hr c0
    go_wp2
    go_end0
    exact ⟨rfl, _, _, HPU.out⟩
end
/-- the objects l lie from A on -/
def RdO (w : World) (A : Option Addr) (l : List Oj) : Prop := ∀ i (h : i < l.length), ∃ b off, A = some ⟨b, off, none⟩ ∧ ObAt w b (off + i * 163) l[i]
section
variable {w w' : World} {A : Option Addr} {l : List Oj}
theorem RdO.below (h : RdO w A l) (hb : Below w.heap.size w w') : RdO w' A l := fun i hi => by
  obtain ⟨b, off, e, ho⟩ := h i hi
  exact ⟨b, off, e, ho.below hb⟩
theorem RdO.alloc (h : RdO w A l) (o : Obj) : RdO (w.alloc o) A l := h.below ((Below.refl _ _).alloc (Nat.le_refl _) _)
theorem RdO.drew (h : RdO w A l) : RdO w.drew A l := h
end
theorem StAt.nil (w : World) (base : Nat) (hb : base ≤ w.heap.size) : StAt (w.alloc (.cells #[.slice none 0 0] 62)) base w.heap.size none 0 [] [] where
  blk := Blk.new w _ _
  own := ⟨rfl, .inl ⟨rfl, rfl⟩⟩
  len := rfl
  obj := fun i h => absurd h (by simp)
  pge := hb
  pn := fun e => by cases e
  pps := fun b hb => by cases hb
  nd := List.nodup_nil
/-- may these be a store -/
def okAll (n : Int) (l : List Oj) : Prop := ∀ x ∈ l, x.ok n
theorem ok_x {n : Int} {l : List Oj} {k : Nat} {x : Oj} (h : okAll n l) (hk : k < l.length) (e : l[k] = x) : x.ok n := e ▸ h _ (List.getElem_mem hk)
set_option maxRecDepth 8000 in
theorem take_x {α : Type} {l : List α} {k : Nat} {x : α} (hk : k < l.length) (e : l[k] = x) : l.take k ++ [x] = l.take (k + 1) := by rw [List.take_succ_eq_append_getElem hk, e]
set_option maxRecDepth 100000 in
set_option maxHeartbeats 2000000 in
theorem of_any (A : Option Addr) (l : List Oj) (cap : Nat) (w : World) (hT : Tab w) (hr : RdO w A l) (h1 : 1 ≤ l.length) (h2 : l.length ≤ 64) :
    Calls Tryd.prog 8 #[.slice A l.length cap] w fun e w' => ((∃ A' cap' ps, e = .returned (.tuple #[pv w.heap.size, .int .i64 0]) ∧ StAt w' w.heap.size w.heap.size A' cap' ps l ∧ okAll l.length l) ∨ (e = .returned (.tuple #[.pointer none, .int .i64 2]) ∧ ¬ okAll l.length l)) ∧ Below w.heap.size w w' := by
  have hz := z34
  have hbl := oz_len
  have DM := Lib.hid (show decide (1 ≤ (l.length : Int) ∧ (l.length : Int) ≤ 64) = true from decide_eq_true (by omega))
  have HT := Lib.hid (hT.alloc (.cells #[.slice none 0 0] 62))
  have HR := Lib.hid (hr.alloc (.cells #[.slice none 0 0] 62))
  have HB := Lib.hid ((Below.refl w.heap.size w).alloc (Nat.le_refl _) (.cells #[.slice none 0 0] 62))
  have HS := Lib.hid (StAt.nil w w.heap.size (Nat.le_refl _))
  have H2 := Lib.hid h2
  have HTW := Lib.hid hT
  have HRW := Lib.hid hr
  clear hT hr h1
  go_enter Tryd.func8, Tryd.ntmps8
  go_wp2_with (go_at_call 17; refine (DM.out ▸ many_any (l.length : Int) _).mono ?_; rintro e w1 ⟨rfl, rfl⟩)
  generalize w.alloc (.cells #[.slice none 0 0] 62) = w0 at HT HR HB HS ⊢
  go_loopw [6, 7, 16] (fun _ _ i wr => ∃ k : Nat, k ≤ l.length ∧ i = .int .i64 k ∧ Below w.heap.size w wr ∧ Tab wr ∧ RdO wr A l ∧ (∃ A' cap' ps, StAt wr w.heap.size w.heap.size A' cap' ps (l.take k)) ∧ okAll l.length (l.take k)) (fun _ _ i _ => l.length + 1 - (intOf i).toNat)
  case atStart => exact ⟨0, by omega, rfl, HB.out, HT.out, HR.out, ⟨_, _, _, HS.out⟩, fun x hx => by simp at hx⟩
  case round =>
    obtain ⟨k, hk, rfl, hb, ht, hrd, ⟨A', cap', ps, hs⟩, hok⟩ := hrel
    clear HT HR HB HS
    by_cases hlt : k < l.length
    · obtain ⟨b, off, rfl, hob⟩ := hrd k hlt
      obtain ⟨x, hx⟩ : ∃ x, l[k] = x := ⟨_, rfl⟩
      rw [hx] at hob
      have HB0 := Lib.hid (hb.alloc hb.size (.cells x.cells.toArray 33))
      have HT0 := Lib.hid (ht.alloc (.cells x.cells.toArray 33))
      have HO0 := Lib.hid hob
      have HR0 := Lib.hid (hrd.alloc (.cells x.cells.toArray 33))
      have HS0 := Lib.hid (hs.alloc (.cells x.cells.toArray 33))
      have HG0 := Lib.hid (Blk.new wr 33 x.cells.toArray)
      have HK := Lib.hid hok
      have HX := Lib.hid hx
      have HLT := Lib.hid hlt
      clear hb ht hrd hs hok hob hx
      by_cases hxo : x.ok l.length
      · have HXO := Lib.hid hxo
        clear hxo
        go_wp2_with (first
          | (refine wpList_yields (S := fun w' => ObAt w' b (off + k * 163) x) (y_ob (by rfl) (.tmp 18) (by rfl) b (off + k * 163) (by rfl) x (fun _ h => h)) HO0.out ?_)
          | (refine wpList_store_last rfl (.tmp 6) (.tmp 19) rfl _ rfl rfl x oz rfl ?_)
          | (refine wpList_yields (S := fun w' => ObAt w' wr.heap.size 0 x) (y_ob (by rfl) (.tmp 6) (by rfl) wr.heap.size 0 (by rfl) x (fun _ h => h)) HG0.out.ob ?_)
          | (refine wpList_yields (S := fun w' => ObAt w' wr.heap.size 0 x) (y_ob (by rfl) (.tmp 6) (by rfl) wr.heap.size 0 (by rfl) x (fun _ h => h)) HG1.out.ob ?_)
          | (go_at_call 18; refine (Oj.chk_yes HXO.out ▸ check_any x l.length _ HT0.out).mono ?_; rintro e w1 ⟨rfl, b1⟩; have HB1 := Lib.hid (HB0.out.trans (b1.mono HB0.out.size)); have HT1 := Lib.hid (HT0.out.below b1); have HR1 := Lib.hid (HR0.out.below b1); have HS1 := Lib.hid (HS0.out.below b1); have HG1 := Lib.hid (HG0.out.keep b1); clear b1)
          | (go_at_call 19; refine (add_at HS1.out (by have := H2.out; rw [List.length_take]; omega) x).mono ?_; rintro e w2 ⟨rfl, A2, cap2, hs2, b2⟩; have HB2 := Lib.hid (HB1.out.trans b2); have HT2 := Lib.hid (HTW.out.below HB2.out); have HR2 := Lib.hid (HRW.out.below HB2.out); have HS2 := Lib.hid hs2; clear b2 hs2))
        go_roundw
        case rel => exact ⟨k + 1, by omega, by go_num, HB2.out, HT2.out, HR2.out, ⟨_, _, _, take_x HLT.out HX.out ▸ HS2.out⟩, take_snoc_x HLT.out HX.out HK.out HXO.out⟩
        case measure => simp [intOf]; omega
      · have HXO := Lib.hid hxo
        clear hxo
        go_wp2_with (first
          | (refine wpList_yields (S := fun w' => ObAt w' b (off + k * 163) x) (y_ob (by rfl) (.tmp 18) (by rfl) b (off + k * 163) (by rfl) x (fun _ h => h)) HO0.out ?_)
          | (refine wpList_store_last rfl (.tmp 6) (.tmp 19) rfl _ rfl rfl x oz rfl ?_)
          | (refine wpList_yields (S := fun w' => ObAt w' wr.heap.size 0 x) (y_ob (by rfl) (.tmp 6) (by rfl) wr.heap.size 0 (by rfl) x (fun _ h => h)) HG0.out.ob ?_)
          | (refine wpList_yields (S := fun w' => ObAt w' wr.heap.size 0 x) (y_ob (by rfl) (.tmp 6) (by rfl) wr.heap.size 0 (by rfl) x (fun _ h => h)) HG1.out.ob ?_)
          | (go_at_call 18; refine (Oj.chk_no HXO.out ▸ check_any x l.length _ HT0.out).mono ?_; rintro e w1 ⟨rfl, b1⟩; have HB1 := Lib.hid (HB0.out.trans (b1.mono HB0.out.size)); have HT1 := Lib.hid (HT0.out.below b1); have HR1 := Lib.hid (HR0.out.below b1); have HS1 := Lib.hid (HS0.out.below b1); have HG1 := Lib.hid (HG0.out.keep b1); clear b1))
        go_ret2
        exact ⟨.inr ⟨rfl, fun h => HXO.out (ok_x h HLT.out HX.out)⟩, HB1.out⟩
    · obtain rfl : k = l.length := by omega
      rw [List.take_length] at hs hok
      go_wp2
      go_ret2
      exact ⟨.inl ⟨_, _, _, rfl, hs, hok⟩, hb⟩
end Go.Proofs.YtjolojomgfcfbaaDoor
namespace Go.Proofs.YtjolojomgfcfbaaDoor
open Go.RowKit
/-- may these be a store -/
def rightP (l : List Oj) : Prop := 1 ≤ l.length ∧ l.length ≤ 64 ∧ okAll l.length l
section
variable {w : World} {A : Option Addr} {l : List Oj} {cap : Nat}
set_option maxRecDepth 8000 in
theorem right_len (hn : ¬ (1 ≤ l.length ∧ l.length ≤ 64)) : Calls Tryd.prog 10 #[.slice A l.length cap] w fun e w' => e = .returned (.bool false) ∧ Below w.heap.size w w' := by
  by_cases h1 : l.length < 1
  · have d0 : decide (l.length < 1) = true := decide_eq_true h1
    have d0' : decide ((l.length : Int) < 1) = true := decide_eq_true (by omega)
    clear hn
    obtain ⟨n, hn⟩ : ∃ n, l.length = n := ⟨_, rfl⟩
    rw [hn] at d0 d0' ⊢
    obtain rfl : n = 0 := by omega
    go_enter Tryd.func10, Tryd.ntmps10
    go_wp2
    go_ret
    exact ⟨rfl, Below.refl _ _⟩
  · obtain ⟨n, hn'⟩ : ∃ n, l.length = n := ⟨_, rfl⟩
    rw [hn'] at hn h1 ⊢
    have d0 : decide ((n : Int) < 1) = false := decide_eq_false (by omega)
    have d1 : decide ((64 : Int) < (n : Int)) = true := decide_eq_true (by omega)
    go_enter Tryd.func10, Tryd.ntmps10
    go_wp2
    go_ret
    exact ⟨rfl, Below.refl _ _⟩
set_option maxRecDepth 100000 in
set_option maxHeartbeats 2000000 in
theorem right_in (hr : RdO w A l) (h1 : 1 ≤ l.length) (h2 : l.length ≤ 64) : Calls Tryd.prog 10 #[.slice A l.length cap] w fun e w' => ((e = .returned (.bool true) ∧ okAll l.length l) ∨ (e = .returned (.bool false) ∧ ¬ okAll l.length l)) ∧ Below w.heap.size w w' := by
  have HRW := Lib.hid hr
  have d0 : decide ((l.length : Int) < 1) = false := decide_eq_false (by omega)
  have d1 : decide ((64 : Int) < (l.length : Int)) = false := decide_eq_false (by omega)
  clear hr
  go_enter Tryd.func10, Tryd.ntmps10
  go_wp2
  go_loopw [3] (fun i wr => ∃ k : Nat, k ≤ l.length ∧ i = .int .i64 k ∧ Below w.heap.size w wr ∧ okAll l.length (l.take k)) (fun i _ => l.length + 1 - (intOf i).toNat)
  case atStart => exact ⟨0, by omega, rfl, Below.refl _ _, fun x hx => by simp at hx⟩
  case round =>
    obtain ⟨k, hk, rfl, hb, hok⟩ := hrel
    by_cases hlt : k < l.length
    · obtain ⟨b, off, rfl, hob⟩ := HRW.out k hlt
      obtain ⟨x, hx⟩ : ∃ x, l[k] = x := ⟨_, rfl⟩
      rw [hx] at hob
      have HO := Lib.hid (hob.below hb)
      have HB := Lib.hid hb
      have HK := Lib.hid hok
      have HX := Lib.hid hx
      have HLT := Lib.hid hlt
      clear hob hb hok hx
      by_cases hxo : x.ok l.length
      · have HXO := Lib.hid hxo
        clear hxo
        go_wp2_with (first
          | (refine wpList_yields (S := fun w' => ObAt w' b (off + k * 163) x) (y_ob (by rfl) (.tmp 20) (by rfl) b (off + k * 163) (by rfl) x (fun _ h => h)) HO.out ?_)
          | (go_at_call 22; refine (Oj.chk_yes HXO.out ▸ rcheck_any x l.length _).mono ?_; rintro e w1 ⟨rfl, b1⟩; have HB1 := Lib.hid (HB.out.trans (b1.mono HB.out.size)); clear b1))
        go_roundw
        case rel => exact ⟨k + 1, by omega, by go_num, HB1.out, take_snoc_x HLT.out HX.out HK.out HXO.out⟩
        case measure => simp [intOf]; omega
      · have HXO := Lib.hid hxo
        clear hxo
        go_wp2_with (first
          | (refine wpList_yields (S := fun w' => ObAt w' b (off + k * 163) x) (y_ob (by rfl) (.tmp 20) (by rfl) b (off + k * 163) (by rfl) x (fun _ h => h)) HO.out ?_)
          | (go_at_call 22; refine (Oj.chk_no HXO.out ▸ rcheck_any x l.length _).mono ?_; rintro e w1 ⟨rfl, b1⟩; have HB1 := Lib.hid (HB.out.trans (b1.mono HB.out.size)); clear b1))
        go_ret
        exact ⟨.inr ⟨rfl, fun h => HXO.out (ok_x h HLT.out HX.out)⟩, HB1.out⟩
    · obtain rfl : k = l.length := by omega
      rw [List.take_length] at hok
      go_wp2
      go_ret
      exact ⟨.inl ⟨rfl, hok⟩, hb⟩
set_option maxRecDepth 8000 in
theorem right_yes (hr : RdO w A l) (h : rightP l) : Calls Tryd.prog 10 #[.slice A l.length cap] w fun e w' => e = .returned (.bool true) ∧ Below w.heap.size w w' := by
  refine (right_in hr h.1 h.2.1).mono ?_
  rintro e w' ⟨⟨he, _⟩ | ⟨_, hno⟩, hb⟩
  · exact ⟨he, hb⟩
  · exact absurd h.2.2 hno
set_option maxRecDepth 8000 in
theorem right_no (hr : RdO w A l) (h : ¬ rightP l) : Calls Tryd.prog 10 #[.slice A l.length cap] w fun e w' => e = .returned (.bool false) ∧ Below w.heap.size w w' := by
  by_cases hn : 1 ≤ l.length ∧ l.length ≤ 64
  · refine (right_in hr hn.1 hn.2).mono ?_
    rintro e w' ⟨⟨_, hok⟩ | ⟨he, _⟩, hb⟩
    · exact absurd ⟨hn.1, hn.2, hok⟩ h
    · exact ⟨he, hb⟩
  · exact right_len hn
set_option maxRecDepth 8000 in
/-- a store of these, or none -/
theorem of_yes (hT : Tab w) (hr : RdO w A l) (h : rightP l) : Calls Tryd.prog 8 #[.slice A l.length cap] w fun e w' => e = .returned (.tuple #[pv w.heap.size, .int .i64 0]) ∧ (∃ A' cap' ps, StAt w' w.heap.size w.heap.size A' cap' ps l) ∧ Below w.heap.size w w' := by
  refine (of_any A l cap w hT hr h.1 h.2.1).mono ?_
  rintro e w' ⟨⟨A', cap', ps, he, hs, _⟩ | ⟨_, hno⟩, hb⟩
  · exact ⟨he, ⟨_, _, _, hs⟩, hb⟩
  · exact absurd h.2.2 hno
end
end Go.Proofs.YtjolojomgfcfbaaDoor
namespace Go.Proofs.YtjolojomgfcfbaaDoor
open Go.RowKit
section
variable {P : Program} {w : World} {b off : Nat} {t : TypeId} {l ys : List Value}
set_option maxRecDepth 8000 in
theorem run_storeVar_part (ty : TypeId) (hb : Blk w b t l.toArray) (hfit : off + ys.length ≤ l.length) (hi : (P.info? ty).map (·.size) = some ys.length) (h1 : ∀ u ∈ ys, u.oneCell' = true) :
    (storeVar ty ⟨b, off, none⟩ (.agg ys.toArray)).run P w = .ok () (w.setRow b (l.take off ++ ys ++ l.drop (off + ys.length)).toArray) := by
  have := run_storeCells_at P b off t ys 0 l.toArray w hb (by simpa using hfit) h1
  cases hq : P.info? ty with
  | none => simp [hq] at hi
  | some i =>
    have hs : ys.length = i.size := by simp [hq] at hi; omega
    simp only [Nat.add_zero] at this
    simp [storeVar, sizeOf, typeInfo, hq, Value.cells, hs, this]
set_option maxRecDepth 8000 in
theorem wp_store_part {o : Oper} {a : Act} {K : Act → World → Prop} {Q : Exit → Act → World → Prop} (ty : TypeId) (x y : Operand) (ho : o.op = .store ty x y) (hb : Blk w b t l.toArray) (hx : a.eval x = .pointer (some ⟨b, off, none⟩)) (hy : a.eval y = .agg ys.toArray)
    (hfit : off + ys.length ≤ l.length) (hi : (P.info? ty).map (·.size) = some ys.length) (h1 : ∀ u ∈ ys, u.oneCell' = true) (h : K (a.put o.dst undef) (w.setRow b (l.take off ++ ys ++ l.drop (off + ys.length)).toArray)) : o.wp P a w K Q := by
  unfold Oper.wp execOp
  simp only [ho, hx, hy, Instr.storeAt, Instr.sureAddr, Sem.run_bind, Sem.run_pure, Result.andThen_ok, run_storeVar_part ty hb hfit hi h1]
  exact h
end
set_option maxRecDepth 8000 in
theorem kl_one (y : Ky) : ∀ u ∈ kl y, u.oneCell' = true := by
  intro u h
  simp only [kl, List.mem_cons, List.not_mem_nil, or_false] at h
  rcases h with rfl | rfl | rfl | rfl | rfl | rfl <;> rfl
set_option maxRecDepth 8000 in
theorem kcs_set : ∀ (l : List Ky) (i : Nat) (_ : i < l.length) (y : Ky), (kcs l).take (i * 6) ++ kl y ++ (kcs l).drop (i * 6 + 6) = kcs (l.set i y)
  | x :: l, 0, _, y => by simp [kcs, kl]
  | x :: l, i + 1, h, y => by
    have := kcs_set l i (by simpa using h) y
    have e : (i + 1) * 6 = (kl x).length + i * 6 := by simp [kl]; omega
    rw [e, kcs, List.set_cons_succ, kcs, ← this, List.take_length_add_append, show (kl x).length + i * 6 + 6 = (kl x).length + (i * 6 + 6) by omega, List.drop_length_add_append]
    simp only [List.append_assoc]
/-- with another slot -/
def slotAs (o : Oj) (i : Nat) (y : Ky) : Oj := { o with s := o.s.set i y, hs := by rw [List.length_set]; exact o.hs }
set_option maxRecDepth 8000 in
theorem slot_set (o : Oj) (i : Nat) (hi : i < 16) (y : Ky) : (o.cells.take (3 + i * 6) ++ kl y ++ o.cells.drop (3 + i * 6 + (kl y).length)) = (slotAs o i y).cells := by
  have hl : (kcs o.s).length = 96 := by rw [kcs_length, o.hs]
  have := kcs_set o.s i (by rw [o.hs]; exact hi) y
  have h6 : (kl y).length = 6 := rfl
  unfold Oj.cells slotAs
  rw [h6, show 3 + i * 6 + 6 = (i * 6 + 6) + 3 by omega, show 3 + i * 6 = i * 6 + 3 by omega]
  simp only [List.take_succ_cons, List.drop_succ_cons, List.cons_append, List.cons.injEq, true_and]
  rw [List.take_append_of_le_length (by omega), List.drop_append_of_le_length (by omega), ← this]
  simp only [List.append_assoc]
end Go.Proofs.YtjolojomgfcfbaaDoor

/- objects: the definition's Check. -/
import Derived.Test.YtjfpmadnlpcpfaaDoorZO
namespace Go.Proofs.YtjfpmadnlpcpfaaDoor
open Go.RowKit
theorem zk_ok : zk.ok := ⟨0, rfl, by decide, by decide, by decide, by decide, by decide, by decide, by decide, by decide, by decide, .inl rfl⟩
theorem zk_may (n : Int) : zk.may n := ⟨zk_ok, fun h => absurd h.2.1 (by decide)⟩
set_option maxRecDepth 8000 in
theorem all_zk {s : List Ky} (hs : s.length = 16) : s = zks ↔ ∀ x ∈ s, x = zk := by
  unfold zks
  rw [List.eq_replicate_iff]
  simp [hs]
set_option maxRecDepth 8000 in
theorem all_zb {b : List UInt8} (hb : b.length = 64) : b = zbs ↔ ∀ x ∈ b, x = 0 := by
  unfold zbs
  rw [List.eq_replicate_iff]
  simp [hb]
/-- what the definition asks of an object first -/
def Oj.bad (n : Int) (o : Oj) : Prop := n < 1 ∨ 64 < n ∨ o.k < 0 ∨ 3 < o.k ∨ o.c < 0 ∨ 4294967295 < o.c ∨ o.l < 0 ∨ 4294967295 < o.l ∨ (o.k ≠ 1 ∧ o.l ≠ 0)
set_option maxRecDepth 8000 in
theorem ok_ref {n : Int} {o : Oj} : o.ok n ↔ ¬ o.bad n ∧ (∀ x ∈ o.s, x.may n ∧ (o.k = 1 ∨ x = zk)) ∧ (o.k = 1 ∨ o.k = 2 ∨ ∀ y ∈ o.b, y = 0) := by
  unfold Oj.ok Oj.bad Oj.has
  rw [all_zk o.hs, all_zb o.hb]
  unfold mayS
  constructor
  · rintro ⟨hm, hc, hl, h⟩
    rcases h with ⟨hk, h⟩ | ⟨hk, h1, h2⟩ | ⟨hk, h0, h1, h2⟩
    · exact ⟨by omega, fun x hx => ⟨h x hx, .inl hk⟩, .inl hk⟩
    · exact ⟨by omega, fun x hx => ⟨by rw [h2 x hx]; exact zk_may n, .inr (h2 x hx)⟩, .inr (.inl hk)⟩
    · exact ⟨by omega, fun x hx => ⟨by rw [h2 x hx]; exact zk_may n, .inr (h2 x hx)⟩, .inr (.inr h0)⟩
  · rintro ⟨hb, hs, hy⟩
    refine ⟨by omega, by omega, by omega, ?_⟩
    by_cases h1 : o.k = 1
    · exact .inl ⟨h1, fun x hx => (hs x hx).1⟩
    · have hz : ∀ x ∈ o.s, x = zk := fun x hx => (hs x hx).2.resolve_left h1
      have hl0 : o.l = 0 := Decidable.byContradiction fun hl => hb (.inr (.inr (.inr (.inr (.inr (.inr (.inr (.inr ⟨h1, hl⟩))))))))
      by_cases h2 : o.k = 2
      · exact .inr (.inl ⟨h2, hl0, hz⟩)
      · exact .inr (.inr ⟨by have h3 : ¬ o.k < 0 := fun h => hb (.inr (.inr (.inl h))); have h4 : ¬ 3 < o.k := fun h => hb (.inr (.inr (.inr (.inl h)))); omega, (hy.resolve_left h1).resolve_left h2, hl0, hz⟩)
set_option maxRecDepth 8000 in
theorem take_snoc_all {α : Type} {p : α → Prop} {s : List α} {k : Nat} (hk : k < s.length) (h : ∀ x ∈ s.take k, p x) (hx : p s[k]) : ∀ x ∈ s.take (k + 1), p x := by
  rw [List.take_succ_eq_append_getElem hk]
  intro y hy
  rcases List.mem_append.1 hy with h' | h'
  · exact h y h'
  · obtain rfl : y = s[k] := by simpa using h'
    exact hx
theorem take_snoc_x {α : Type} {p : α → Prop} {s : List α} {k : Nat} {x : α} (hk : k < s.length) (e : s[k] = x) (h : ∀ x ∈ s.take k, p x) (hx : p x) : ∀ x ∈ s.take (k + 1), p x := take_snoc_all hk h (e ▸ hx)
theorem slot_x {n : Int} {o : Oj} {k : Nat} {x : Ky} (h : o.ok n) (hk : k < o.s.length) (e : o.s[k] = x) : x.may n ∧ (o.k = 1 ∨ x = zk) := e ▸ (ok_ref.1 h).2.1 _ (List.getElem_mem hk)
set_option maxRecDepth 8000 in
theorem key_x {w : World} {g : Nat} {o : Oj} {k : Nat} {x : Ky} (h : ObAt w g 0 o) (hk : k < o.s.length) (e : o.s[k] = x) : KeyAt w g (3 + k * 6) x := by
  subst e
  have := key_of_range h.slots k hk
  rwa [Nat.zero_add] at this
set_option maxRecDepth 8000 in
theorem take_all {α : Type} {p : α → Prop} {s : List α} {k : Nat} (hk : s.length ≤ k) (h : ∀ x ∈ s.take k, p x) : ∀ x ∈ s, p x := by
  rwa [List.take_of_length_le hk] at h
set_option maxRecDepth 8000 in
set_option maxHeartbeats 1000000 in
theorem rchk_badA (o : Oj) (n : Int) (w : World) (h1 : o.k ≠ 1) (h2 : o.l ≠ 0) :
    Calls Tryd.prog 39 #[o.val, .int .i64 n] w fun e w' => e = .returned (.int .i64 2) ∧ Below w.heap.size w w' := by
  have HB := Lib.hid ((Below.refl w.heap.size w).alloc (Nat.le_refl _) (.cells o.cells.toArray 44))
  have HG := Lib.hid (Blk.new w 44 o.cells.toArray).ob
  obtain ⟨c0, c1, c2⟩ := HG.out.cells
  have e1 : (o.k != 1) = true := by simpa using h1
  have e2 : (o.l != 0) = true := by simpa using h2
  clear h1 h2
  go_enter Tryd.func39, Tryd.ntmps39
  go_wp2
  all_goals first
    | (go_ret; exact ⟨rfl, HB.out⟩)
    | (exfalso; have h := HP.out; omega)
set_option maxRecDepth 8000 in
set_option maxHeartbeats 1000000 in
theorem rchk_badB (o : Oj) (n : Int) (w : World) (h : o.bad n) (h1 : o.k = 1) :
    Calls Tryd.prog 39 #[o.val, .int .i64 n] w fun e w' => e = .returned (.int .i64 2) ∧ Below w.heap.size w w' := by
  have HB := Lib.hid ((Below.refl w.heap.size w).alloc (Nat.le_refl _) (.cells o.cells.toArray 44))
  have HG := Lib.hid (Blk.new w 44 o.cells.toArray).ob
  obtain ⟨c0, c1, c2⟩ := HG.out.cells
  have HP := Lib.hid (show n < 1 ∨ 64 < n ∨ o.k < 0 ∨ 3 < o.k ∨ o.c < 0 ∨ 4294967295 < o.c ∨ o.l < 0 ∨ 4294967295 < o.l from by unfold Oj.bad at h; rcases h with h | h | h | h | h | h | h | h | h; exact .inl h; exact .inr (.inl h); exact .inr (.inr (.inl h)); exact .inr (.inr (.inr (.inl h))); exact .inr (.inr (.inr (.inr (.inl h)))); exact .inr (.inr (.inr (.inr (.inr (.inl h))))); exact .inr (.inr (.inr (.inr (.inr (.inr (.inl h)))))); exact .inr (.inr (.inr (.inr (.inr (.inr (.inr h)))))); exact absurd h1 h.1)
  have e1 : (o.k != 1) = false := by simpa using h1
  clear h h1
  go_enter Tryd.func39, Tryd.ntmps39
  go_wp2
  all_goals first
    | (go_ret; exact ⟨rfl, HB.out⟩)
    | (exfalso; have h := HP.out; omega)
set_option maxRecDepth 8000 in
set_option maxHeartbeats 1000000 in
theorem rchk_badC (o : Oj) (n : Int) (w : World) (h : o.bad n) (h1 : o.k ≠ 1) (h2 : o.l = 0) :
    Calls Tryd.prog 39 #[o.val, .int .i64 n] w fun e w' => e = .returned (.int .i64 2) ∧ Below w.heap.size w w' := by
  have HB := Lib.hid ((Below.refl w.heap.size w).alloc (Nat.le_refl _) (.cells o.cells.toArray 44))
  have HG := Lib.hid (Blk.new w 44 o.cells.toArray).ob
  obtain ⟨c0, c1, c2⟩ := HG.out.cells
  have HP := Lib.hid (show n < 1 ∨ 64 < n ∨ o.k < 0 ∨ 3 < o.k ∨ o.c < 0 ∨ 4294967295 < o.c ∨ o.l < 0 ∨ 4294967295 < o.l from by unfold Oj.bad at h; rcases h with h | h | h | h | h | h | h | h | h; exact .inl h; exact .inr (.inl h); exact .inr (.inr (.inl h)); exact .inr (.inr (.inr (.inl h))); exact .inr (.inr (.inr (.inr (.inl h)))); exact .inr (.inr (.inr (.inr (.inr (.inl h))))); exact .inr (.inr (.inr (.inr (.inr (.inr (.inl h)))))); exact .inr (.inr (.inr (.inr (.inr (.inr (.inr h)))))); exact absurd h2 h.2)
  have e1 : (o.k != 1) = true := by simpa using h1
  have e2 : (o.l != 0) = false := by simpa using h2
  clear h h1 h2
  go_enter Tryd.func39, Tryd.ntmps39
  go_wp2
  all_goals first
    | (go_ret; exact ⟨rfl, HB.out⟩)
    | (exfalso; have h := HP.out; omega)
set_option maxRecDepth 8000 in
theorem rchk_bad (o : Oj) (n : Int) (w : World) (h : o.bad n) :
    Calls Tryd.prog 39 #[o.val, .int .i64 n] w fun e w' => e = .returned (.int .i64 2) ∧ Below w.heap.size w w' := by
  by_cases h1 : o.k = 1
  · exact rchk_badB o n w h h1
  · by_cases h2 : o.l = 0
    · exact rchk_badC o n w h h1 h2
    · exact rchk_badA o n w h1 h2
set_option maxRecDepth 8000 in
set_option maxHeartbeats 2000000 in
theorem rchk_1 (o : Oj) (n : Int) (w : World) (hbad : ¬ o.bad n) (hk : o.k = 1) :
    Calls Tryd.prog 39 #[o.val, .int .i64 n] w fun e w' => e = .returned (.int .i64 (o.chk n)) ∧ Below w.heap.size w w' := by
  have HB := Lib.hid ((Below.refl w.heap.size w).alloc (Nat.le_refl _) (.cells o.cells.toArray 44))
  have HG := Lib.hid (Blk.new w 44 o.cells.toArray).ob
  obtain ⟨c0, c1, c2⟩ := HG.out.cells
  have HP := Lib.hid hbad
  have HN := Lib.hid (show 1 ≤ n by unfold Oj.bad at hbad; omega)
  have HK := Lib.hid hk
  have d0 : decide (n < 1) = false := decide_eq_false (by unfold Oj.bad at hbad; omega)
  have d1 : decide (64 < n) = false := decide_eq_false (by unfold Oj.bad at hbad; omega)
  have d2 : decide (o.k < 0) = false := decide_eq_false (by unfold Oj.bad at hbad; omega)
  have d3 : decide (3 < o.k) = false := decide_eq_false (by unfold Oj.bad at hbad; omega)
  have d4 : decide (o.c < 0) = false := decide_eq_false (by unfold Oj.bad at hbad; omega)
  have d5 : decide (4294967295 < o.c) = false := decide_eq_false (by unfold Oj.bad at hbad; omega)
  have d6 : decide (o.l < 0) = false := decide_eq_false (by unfold Oj.bad at hbad; omega)
  have d7 : decide (4294967295 < o.l) = false := decide_eq_false (by unfold Oj.bad at hbad; omega)
  have e1 : (o.k != 1) = false := by simpa using hk
  clear hbad hk
  go_enter Tryd.func39, Tryd.ntmps39
  go_wp2
  clear c0 c1 c2 d0 d1 d2 d3 d4 d5 d6 d7
  generalize w.alloc (.cells o.cells.toArray 44) = w0 at HB HG ⊢
  go_loopw [6] (fun i wr => ∃ k : Nat, k ≤ 16 ∧ i = .int .i64 k ∧ Below w.heap.size w wr ∧ ObAt wr w.heap.size 0 o ∧ ∀ x ∈ o.s.take k, x.may n ∧ (o.k = 1 ∨ x = zk)) (fun i _ => 17 - (intOf i).toNat)
  case atStart => exact ⟨0, by omega, rfl, HB.out, HG.out, fun x hx => by simp at hx⟩
  case round =>
    obtain ⟨k, hk', rfl, hb, hg, hm⟩ := hrel
    clear HB HG
    have HB0 := Lib.hid hb
    have HO0 := Lib.hid hg
    have HM := Lib.hid hm
    clear hb hg hm
    by_cases hlt : k < 16
    · have hks : k < o.s.length := by rw [o.hs]; exact hlt
      have HKS := Lib.hid hks
      obtain ⟨x, hx⟩ : ∃ x, o.s[k] = x := ⟨_, rfl⟩
      have HX := Lib.hid hx
      obtain ⟨c0, c1, c2, c3, c4, c5⟩ := key_x HO0.out HKS.out HX.out
      clear hx hks
      by_cases hok : x.ok
      · have HOK := Lib.hid hok
        clear hok
        by_cases hof : x.of
        · have HOF := Lib.hid hof
          clear hof
          by_cases hq : x.o < n
          · have dq : decide (n ≤ x.o) = false := by simpa using hq
            have HQ := Lib.hid hq
            clear hq
            go_wp2_with (first
              | (go_at_call 27; refine (Ky.chk_yes HOK.out ▸ rchk_any x _).mono ?_; rintro e w1 ⟨rfl, b1⟩; have HB1 := Lib.hid (HB0.out.trans (b1.mono HB0.out.size)); have HO1 := Lib.hid (HO0.out.below b1); obtain ⟨c0, c1, c2, c3, c4, c5⟩ := key_x HO1.out HKS.out HX.out; clear b1)
              | (go_at_call 61; refine (rname_yes x _ HOF.out).mono ?_; rintro e w2 ⟨rfl, b2⟩; have HB2 := Lib.hid (HB1.out.trans (b2.mono HB1.out.size)); have HO2 := Lib.hid (HO1.out.below b2); clear c0 c1 c2 c3 c4 c5; obtain ⟨c0, c1, c2, c3, c4, c5⟩ := key_x HO2.out HKS.out HX.out; clear b2))
            go_roundw
            case rel => exact ⟨k + 1, by omega, by go_num, HB2.out, HO2.out, take_snoc_x HKS.out HX.out HM.out ⟨⟨HOK.out, fun _ => HQ.out⟩, .inl HK.out⟩⟩
            case measure => simp [intOf]; omega
          · have dq : decide (n ≤ x.o) = true := by simpa using hq
            have HQ := Lib.hid hq
            clear hq
            go_wp2_with (first
              | (go_at_call 27; refine (Ky.chk_yes HOK.out ▸ rchk_any x _).mono ?_; rintro e w1 ⟨rfl, b1⟩; have HB1 := Lib.hid (HB0.out.trans (b1.mono HB0.out.size)); have HO1 := Lib.hid (HO0.out.below b1); obtain ⟨c0, c1, c2, c3, c4, c5⟩ := key_x HO1.out HKS.out HX.out; clear b1)
              | (go_at_call 61; refine (rname_yes x _ HOF.out).mono ?_; rintro e w2 ⟨rfl, b2⟩; have HB2 := Lib.hid (HB1.out.trans (b2.mono HB1.out.size)); have HO2 := Lib.hid (HO1.out.below b2); clear c0 c1 c2 c3 c4 c5; obtain ⟨c0, c1, c2, c3, c4, c5⟩ := key_x HO2.out HKS.out HX.out; clear b2))
            go_ret
            exact ⟨ret_n (Oj.chk_no fun h => by have h' := (slot_x h HKS.out HX.out).1; have h1 := h'.2 HOF.out; have h2 := HQ.out; omega).symm, HB2.out⟩
        · have HOF := Lib.hid hof
          have dq : decide (n ≤ -1) = false := decide_eq_false (by have := HN.out; omega)
          clear hof
          go_wp2_with (first
            | (go_at_call 27; refine (Ky.chk_yes HOK.out ▸ rchk_any x _).mono ?_; rintro e w1 ⟨rfl, b1⟩; have HB1 := Lib.hid (HB0.out.trans (b1.mono HB0.out.size)); have HO1 := Lib.hid (HO0.out.below b1); obtain ⟨c0, c1, c2, c3, c4, c5⟩ := key_x HO1.out HKS.out HX.out; clear b1)
            | (go_at_call 61; refine (rname_no x _ HOF.out).mono ?_; rintro e w2 ⟨rfl, b2⟩; have HB2 := Lib.hid (HB1.out.trans (b2.mono HB1.out.size)); have HO2 := Lib.hid (HO1.out.below b2); clear c0 c1 c2 c3 c4 c5; obtain ⟨c0, c1, c2, c3, c4, c5⟩ := key_x HO2.out HKS.out HX.out; clear b2))
          go_roundw
          case rel => exact ⟨k + 1, by omega, by go_num, HB2.out, HO2.out, take_snoc_x HKS.out HX.out HM.out ⟨⟨HOK.out, fun h => absurd h HOF.out⟩, .inl HK.out⟩⟩
          case measure => simp [intOf]; omega
      · have HOK := Lib.hid hok
        clear hok
        go_wp2_with (first
          | (go_at_call 27; refine (Ky.chk_no HOK.out ▸ rchk_any x _).mono ?_; rintro e w1 ⟨rfl, b1⟩; have HB1 := Lib.hid (HB0.out.trans (b1.mono HB0.out.size)); have HO1 := Lib.hid (HO0.out.below b1); obtain ⟨c0, c1, c2, c3, c4, c5⟩ := key_x HO1.out HKS.out HX.out; clear b1))
        go_ret
        exact ⟨ret_n (Oj.chk_no fun h => by have h' := (slot_x h HKS.out HX.out).1; exact HOK.out h'.1).symm, HB1.out⟩
    · obtain rfl : k = 16 := by omega
      have HS := Lib.hid (take_all (Nat.le_of_eq o.hs) HM.out)
      clear HM
      go_wp2
      go_loopw [7] (fun i wr => ∃ k : Nat, k ≤ 64 ∧ i = .int .i64 k ∧ Below w.heap.size w wr ∧ ObAt wr w.heap.size 0 o) (fun i _ => 65 - (intOf i).toNat)
      case atStart => exact ⟨0, by omega, rfl, HB0.out, HO0.out⟩
      case round =>
        obtain ⟨k, hk', rfl, hb, hg⟩ := hrel
        clear HB0 HO0
        have HB0 := Lib.hid hb
        have HO0 := Lib.hid hg
        clear hb hg
        by_cases hlt : k < 64
        · have hks : k < o.b.length := by rw [o.hb]; exact hlt
          have HKS := Lib.hid hks
          clear hks
          go_wp2
          go_roundw
          case rel => exact ⟨k + 1, by omega, by go_num, HB0.out, HO0.out⟩
          case measure => simp [intOf]; omega
        · go_wp2
          go_ret
          exact ⟨ret_n (Oj.chk_yes (ok_ref.2 ⟨HP.out, HS.out, .inl HK.out⟩)).symm, HB0.out⟩
set_option maxRecDepth 8000 in
set_option maxHeartbeats 2000000 in
theorem rchk_2 (o : Oj) (n : Int) (w : World) (hbad : ¬ o.bad n) (hk : o.k = 2) :
    Calls Tryd.prog 39 #[o.val, .int .i64 n] w fun e w' => e = .returned (.int .i64 (o.chk n)) ∧ Below w.heap.size w w' := by
  have HB := Lib.hid ((Below.refl w.heap.size w).alloc (Nat.le_refl _) (.cells o.cells.toArray 44))
  have HG := Lib.hid (Blk.new w 44 o.cells.toArray).ob
  obtain ⟨c0, c1, c2⟩ := HG.out.cells
  have HP := Lib.hid hbad
  have HN := Lib.hid (show 1 ≤ n by unfold Oj.bad at hbad; omega)
  have HK := Lib.hid hk
  have d0 : decide (n < 1) = false := decide_eq_false (by unfold Oj.bad at hbad; omega)
  have d1 : decide (64 < n) = false := decide_eq_false (by unfold Oj.bad at hbad; omega)
  have d2 : decide (o.k < 0) = false := decide_eq_false (by unfold Oj.bad at hbad; omega)
  have d3 : decide (3 < o.k) = false := decide_eq_false (by unfold Oj.bad at hbad; omega)
  have d4 : decide (o.c < 0) = false := decide_eq_false (by unfold Oj.bad at hbad; omega)
  have d5 : decide (4294967295 < o.c) = false := decide_eq_false (by unfold Oj.bad at hbad; omega)
  have d6 : decide (o.l < 0) = false := decide_eq_false (by unfold Oj.bad at hbad; omega)
  have d7 : decide (4294967295 < o.l) = false := decide_eq_false (by unfold Oj.bad at hbad; omega)
  have e1 : (o.k != 1) = true := by simp; omega
  have e2 : (o.k != 2) = false := by simpa using hk
  have d8 : (o.l != 0) = false := by
    have : o.l = 0 := Decidable.byContradiction fun hl => hbad (.inr (.inr (.inr (.inr (.inr (.inr (.inr (.inr ⟨by omega, hl⟩))))))))
    simpa using this
  clear hbad hk
  go_enter Tryd.func39, Tryd.ntmps39
  go_wp2
  clear c0 c1 c2 d0 d1 d2 d3 d4 d5 d6 d7 d8
  generalize w.alloc (.cells o.cells.toArray 44) = w0 at HB HG ⊢
  go_loopw [6] (fun i wr => ∃ k : Nat, k ≤ 16 ∧ i = .int .i64 k ∧ Below w.heap.size w wr ∧ ObAt wr w.heap.size 0 o ∧ ∀ x ∈ o.s.take k, x.may n ∧ (o.k = 1 ∨ x = zk)) (fun i _ => 17 - (intOf i).toNat)
  case atStart => exact ⟨0, by omega, rfl, HB.out, HG.out, fun x hx => by simp at hx⟩
  case round =>
    obtain ⟨k, hk', rfl, hb, hg, hm⟩ := hrel
    clear HB HG
    have HB0 := Lib.hid hb
    have HO0 := Lib.hid hg
    have HM := Lib.hid hm
    clear hb hg hm
    by_cases hlt : k < 16
    · have hks : k < o.s.length := by rw [o.hs]; exact hlt
      have HKS := Lib.hid hks
      obtain ⟨x, hx⟩ : ∃ x, o.s[k] = x := ⟨_, rfl⟩
      have HX := Lib.hid hx
      obtain ⟨c0, c1, c2, c3, c4, c5⟩ := key_x HO0.out HKS.out HX.out
      clear hx hks
      by_cases hok : x.ok
      · have HOK := Lib.hid hok
        clear hok
        by_cases hof : x.of
        · have HOF := Lib.hid hof
          clear hof
          by_cases hq : x.o < n
          · have dq : decide (n ≤ x.o) = false := by simpa using hq
            have HQ := Lib.hid hq
            clear hq
            by_cases hz : x = zk
            · have DZ := Lib.hid (show (!decide (x = zk)) = false by simpa using hz)
              have HZ := Lib.hid hz
              clear hz
              go_wp2_with (first
                | (go_at_call 27; refine (Ky.chk_yes HOK.out ▸ rchk_any x _).mono ?_; rintro e w1 ⟨rfl, b1⟩; have HB1 := Lib.hid (HB0.out.trans (b1.mono HB0.out.size)); have HO1 := Lib.hid (HO0.out.below b1); obtain ⟨c0, c1, c2, c3, c4, c5⟩ := key_x HO1.out HKS.out HX.out; clear b1)
                | (go_at_call 61; refine (rname_yes x _ HOF.out).mono ?_; rintro e w2 ⟨rfl, b2⟩; have HB2 := Lib.hid (HB1.out.trans (b2.mono HB1.out.size)); have HO2 := Lib.hid (HO1.out.below b2); clear c0 c1 c2 c3 c4 c5; obtain ⟨c0, c1, c2, c3, c4, c5⟩ := key_x HO2.out HKS.out HX.out; clear b2)
                | (refine wpList_yields (S := fun _ => True) (DZ.out ▸ y_kyne (by rfl) (by rfl) x zk (by rfl) (by rfl)) trivial ?_))
              go_roundw
              case rel => exact ⟨k + 1, by omega, by go_num, HB2.out, HO2.out, take_snoc_x HKS.out HX.out HM.out ⟨⟨HOK.out, fun _ => HQ.out⟩, .inr HZ.out⟩⟩
              case measure => simp [intOf]; omega
            · have DZ := Lib.hid (show (!decide (x = zk)) = true by simpa using hz)
              have HZ := Lib.hid hz
              clear hz
              go_wp2_with (first
                | (go_at_call 27; refine (Ky.chk_yes HOK.out ▸ rchk_any x _).mono ?_; rintro e w1 ⟨rfl, b1⟩; have HB1 := Lib.hid (HB0.out.trans (b1.mono HB0.out.size)); have HO1 := Lib.hid (HO0.out.below b1); obtain ⟨c0, c1, c2, c3, c4, c5⟩ := key_x HO1.out HKS.out HX.out; clear b1)
                | (go_at_call 61; refine (rname_yes x _ HOF.out).mono ?_; rintro e w2 ⟨rfl, b2⟩; have HB2 := Lib.hid (HB1.out.trans (b2.mono HB1.out.size)); have HO2 := Lib.hid (HO1.out.below b2); clear c0 c1 c2 c3 c4 c5; obtain ⟨c0, c1, c2, c3, c4, c5⟩ := key_x HO2.out HKS.out HX.out; clear b2)
                | (refine wpList_yields (S := fun _ => True) (DZ.out ▸ y_kyne (by rfl) (by rfl) x zk (by rfl) (by rfl)) trivial ?_))
              go_ret
              exact ⟨ret_n (Oj.chk_no fun h => by have h' := (slot_x h HKS.out HX.out).2; exact h'.elim (fun e => by have := HK.out; omega) HZ.out).symm, HB2.out⟩
          · have dq : decide (n ≤ x.o) = true := by simpa using hq
            have HQ := Lib.hid hq
            clear hq
            go_wp2_with (first
              | (go_at_call 27; refine (Ky.chk_yes HOK.out ▸ rchk_any x _).mono ?_; rintro e w1 ⟨rfl, b1⟩; have HB1 := Lib.hid (HB0.out.trans (b1.mono HB0.out.size)); have HO1 := Lib.hid (HO0.out.below b1); obtain ⟨c0, c1, c2, c3, c4, c5⟩ := key_x HO1.out HKS.out HX.out; clear b1)
              | (go_at_call 61; refine (rname_yes x _ HOF.out).mono ?_; rintro e w2 ⟨rfl, b2⟩; have HB2 := Lib.hid (HB1.out.trans (b2.mono HB1.out.size)); have HO2 := Lib.hid (HO1.out.below b2); clear c0 c1 c2 c3 c4 c5; obtain ⟨c0, c1, c2, c3, c4, c5⟩ := key_x HO2.out HKS.out HX.out; clear b2))
            go_ret
            exact ⟨ret_n (Oj.chk_no fun h => by have h' := (slot_x h HKS.out HX.out).1; have h1 := h'.2 HOF.out; have h2 := HQ.out; omega).symm, HB2.out⟩
        · have HOF := Lib.hid hof
          have dq : decide (n ≤ -1) = false := decide_eq_false (by have := HN.out; omega)
          clear hof
          by_cases hz : x = zk
          · have DZ := Lib.hid (show (!decide (x = zk)) = false by simpa using hz)
            have HZ := Lib.hid hz
            clear hz
            go_wp2_with (first
              | (go_at_call 27; refine (Ky.chk_yes HOK.out ▸ rchk_any x _).mono ?_; rintro e w1 ⟨rfl, b1⟩; have HB1 := Lib.hid (HB0.out.trans (b1.mono HB0.out.size)); have HO1 := Lib.hid (HO0.out.below b1); obtain ⟨c0, c1, c2, c3, c4, c5⟩ := key_x HO1.out HKS.out HX.out; clear b1)
              | (go_at_call 61; refine (rname_no x _ HOF.out).mono ?_; rintro e w2 ⟨rfl, b2⟩; have HB2 := Lib.hid (HB1.out.trans (b2.mono HB1.out.size)); have HO2 := Lib.hid (HO1.out.below b2); clear c0 c1 c2 c3 c4 c5; obtain ⟨c0, c1, c2, c3, c4, c5⟩ := key_x HO2.out HKS.out HX.out; clear b2)
              | (refine wpList_yields (S := fun _ => True) (DZ.out ▸ y_kyne (by rfl) (by rfl) x zk (by rfl) (by rfl)) trivial ?_))
            go_roundw
            case rel => exact ⟨k + 1, by omega, by go_num, HB2.out, HO2.out, take_snoc_x HKS.out HX.out HM.out ⟨⟨HOK.out, fun h => absurd h HOF.out⟩, .inr HZ.out⟩⟩
            case measure => simp [intOf]; omega
          · have DZ := Lib.hid (show (!decide (x = zk)) = true by simpa using hz)
            have HZ := Lib.hid hz
            clear hz
            go_wp2_with (first
              | (go_at_call 27; refine (Ky.chk_yes HOK.out ▸ rchk_any x _).mono ?_; rintro e w1 ⟨rfl, b1⟩; have HB1 := Lib.hid (HB0.out.trans (b1.mono HB0.out.size)); have HO1 := Lib.hid (HO0.out.below b1); obtain ⟨c0, c1, c2, c3, c4, c5⟩ := key_x HO1.out HKS.out HX.out; clear b1)
              | (go_at_call 61; refine (rname_no x _ HOF.out).mono ?_; rintro e w2 ⟨rfl, b2⟩; have HB2 := Lib.hid (HB1.out.trans (b2.mono HB1.out.size)); have HO2 := Lib.hid (HO1.out.below b2); clear c0 c1 c2 c3 c4 c5; obtain ⟨c0, c1, c2, c3, c4, c5⟩ := key_x HO2.out HKS.out HX.out; clear b2)
              | (refine wpList_yields (S := fun _ => True) (DZ.out ▸ y_kyne (by rfl) (by rfl) x zk (by rfl) (by rfl)) trivial ?_))
            go_ret
            exact ⟨ret_n (Oj.chk_no fun h => by have h' := (slot_x h HKS.out HX.out).2; exact h'.elim (fun e => by have := HK.out; omega) HZ.out).symm, HB2.out⟩
      · have HOK := Lib.hid hok
        clear hok
        go_wp2_with (first
          | (go_at_call 27; refine (Ky.chk_no HOK.out ▸ rchk_any x _).mono ?_; rintro e w1 ⟨rfl, b1⟩; have HB1 := Lib.hid (HB0.out.trans (b1.mono HB0.out.size)); have HO1 := Lib.hid (HO0.out.below b1); obtain ⟨c0, c1, c2, c3, c4, c5⟩ := key_x HO1.out HKS.out HX.out; clear b1))
        go_ret
        exact ⟨ret_n (Oj.chk_no fun h => by have h' := (slot_x h HKS.out HX.out).1; exact HOK.out h'.1).symm, HB1.out⟩
    · obtain rfl : k = 16 := by omega
      have HS := Lib.hid (take_all (Nat.le_of_eq o.hs) HM.out)
      clear HM
      go_wp2
      go_loopw [7] (fun i wr => ∃ k : Nat, k ≤ 64 ∧ i = .int .i64 k ∧ Below w.heap.size w wr ∧ ObAt wr w.heap.size 0 o) (fun i _ => 65 - (intOf i).toNat)
      case atStart => exact ⟨0, by omega, rfl, HB0.out, HO0.out⟩
      case round =>
        obtain ⟨k, hk', rfl, hb, hg⟩ := hrel
        clear HB0 HO0
        have HB0 := Lib.hid hb
        have HO0 := Lib.hid hg
        clear hb hg
        by_cases hlt : k < 64
        · have hks : k < o.b.length := by rw [o.hb]; exact hlt
          have HKS := Lib.hid hks
          clear hks
          go_wp2
          go_roundw
          case rel => exact ⟨k + 1, by omega, by go_num, HB0.out, HO0.out⟩
          case measure => simp [intOf]; omega
        · go_wp2
          go_ret
          exact ⟨ret_n (Oj.chk_yes (ok_ref.2 ⟨HP.out, HS.out, .inr (.inl HK.out)⟩)).symm, HB0.out⟩
set_option maxRecDepth 8000 in
set_option maxHeartbeats 2000000 in
theorem rchk_x (o : Oj) (n : Int) (w : World) (hbad : ¬ o.bad n) (hk1 : o.k ≠ 1) (hk2 : o.k ≠ 2) :
    Calls Tryd.prog 39 #[o.val, .int .i64 n] w fun e w' => e = .returned (.int .i64 (o.chk n)) ∧ Below w.heap.size w w' := by
  have HB := Lib.hid ((Below.refl w.heap.size w).alloc (Nat.le_refl _) (.cells o.cells.toArray 44))
  have HG := Lib.hid (Blk.new w 44 o.cells.toArray).ob
  obtain ⟨c0, c1, c2⟩ := HG.out.cells
  have HP := Lib.hid hbad
  have HN := Lib.hid (show 1 ≤ n by unfold Oj.bad at hbad; omega)
  have HK1 := Lib.hid hk1
  have HK2 := Lib.hid hk2
  have d0 : decide (n < 1) = false := decide_eq_false (by unfold Oj.bad at hbad; omega)
  have d1 : decide (64 < n) = false := decide_eq_false (by unfold Oj.bad at hbad; omega)
  have d2 : decide (o.k < 0) = false := decide_eq_false (by unfold Oj.bad at hbad; omega)
  have d3 : decide (3 < o.k) = false := decide_eq_false (by unfold Oj.bad at hbad; omega)
  have d4 : decide (o.c < 0) = false := decide_eq_false (by unfold Oj.bad at hbad; omega)
  have d5 : decide (4294967295 < o.c) = false := decide_eq_false (by unfold Oj.bad at hbad; omega)
  have d6 : decide (o.l < 0) = false := decide_eq_false (by unfold Oj.bad at hbad; omega)
  have d7 : decide (4294967295 < o.l) = false := decide_eq_false (by unfold Oj.bad at hbad; omega)
  have e1 : (o.k != 1) = true := by simpa using hk1
  have e2 : (o.k != 2) = true := by simpa using hk2
  have d8 : (o.l != 0) = false := by
    have : o.l = 0 := Decidable.byContradiction fun hl => hbad (.inr (.inr (.inr (.inr (.inr (.inr (.inr (.inr ⟨hk1, hl⟩))))))))
    simpa using this
  clear hbad hk1 hk2
  go_enter Tryd.func39, Tryd.ntmps39
  go_wp2
  clear c0 c1 c2 d0 d1 d2 d3 d4 d5 d6 d7 d8
  generalize w.alloc (.cells o.cells.toArray 44) = w0 at HB HG ⊢
  go_loopw [6] (fun i wr => ∃ k : Nat, k ≤ 16 ∧ i = .int .i64 k ∧ Below w.heap.size w wr ∧ ObAt wr w.heap.size 0 o ∧ ∀ x ∈ o.s.take k, x.may n ∧ (o.k = 1 ∨ x = zk)) (fun i _ => 17 - (intOf i).toNat)
  case atStart => exact ⟨0, by omega, rfl, HB.out, HG.out, fun x hx => by simp at hx⟩
  case round =>
    obtain ⟨k, hk', rfl, hb, hg, hm⟩ := hrel
    clear HB HG
    have HB0 := Lib.hid hb
    have HO0 := Lib.hid hg
    have HM := Lib.hid hm
    clear hb hg hm
    by_cases hlt : k < 16
    · have hks : k < o.s.length := by rw [o.hs]; exact hlt
      have HKS := Lib.hid hks
      obtain ⟨x, hx⟩ : ∃ x, o.s[k] = x := ⟨_, rfl⟩
      have HX := Lib.hid hx
      obtain ⟨c0, c1, c2, c3, c4, c5⟩ := key_x HO0.out HKS.out HX.out
      clear hx hks
      by_cases hok : x.ok
      · have HOK := Lib.hid hok
        clear hok
        by_cases hof : x.of
        · have HOF := Lib.hid hof
          clear hof
          by_cases hq : x.o < n
          · have dq : decide (n ≤ x.o) = false := by simpa using hq
            have HQ := Lib.hid hq
            clear hq
            by_cases hz : x = zk
            · have DZ := Lib.hid (show (!decide (x = zk)) = false by simpa using hz)
              have HZ := Lib.hid hz
              clear hz
              go_wp2_with (first
                | (go_at_call 27; refine (Ky.chk_yes HOK.out ▸ rchk_any x _).mono ?_; rintro e w1 ⟨rfl, b1⟩; have HB1 := Lib.hid (HB0.out.trans (b1.mono HB0.out.size)); have HO1 := Lib.hid (HO0.out.below b1); obtain ⟨c0, c1, c2, c3, c4, c5⟩ := key_x HO1.out HKS.out HX.out; clear b1)
                | (go_at_call 61; refine (rname_yes x _ HOF.out).mono ?_; rintro e w2 ⟨rfl, b2⟩; have HB2 := Lib.hid (HB1.out.trans (b2.mono HB1.out.size)); have HO2 := Lib.hid (HO1.out.below b2); clear c0 c1 c2 c3 c4 c5; obtain ⟨c0, c1, c2, c3, c4, c5⟩ := key_x HO2.out HKS.out HX.out; clear b2)
                | (refine wpList_yields (S := fun _ => True) (DZ.out ▸ y_kyne (by rfl) (by rfl) x zk (by rfl) (by rfl)) trivial ?_))
              go_roundw
              case rel => exact ⟨k + 1, by omega, by go_num, HB2.out, HO2.out, take_snoc_x HKS.out HX.out HM.out ⟨⟨HOK.out, fun _ => HQ.out⟩, .inr HZ.out⟩⟩
              case measure => simp [intOf]; omega
            · have DZ := Lib.hid (show (!decide (x = zk)) = true by simpa using hz)
              have HZ := Lib.hid hz
              clear hz
              go_wp2_with (first
                | (go_at_call 27; refine (Ky.chk_yes HOK.out ▸ rchk_any x _).mono ?_; rintro e w1 ⟨rfl, b1⟩; have HB1 := Lib.hid (HB0.out.trans (b1.mono HB0.out.size)); have HO1 := Lib.hid (HO0.out.below b1); obtain ⟨c0, c1, c2, c3, c4, c5⟩ := key_x HO1.out HKS.out HX.out; clear b1)
                | (go_at_call 61; refine (rname_yes x _ HOF.out).mono ?_; rintro e w2 ⟨rfl, b2⟩; have HB2 := Lib.hid (HB1.out.trans (b2.mono HB1.out.size)); have HO2 := Lib.hid (HO1.out.below b2); clear c0 c1 c2 c3 c4 c5; obtain ⟨c0, c1, c2, c3, c4, c5⟩ := key_x HO2.out HKS.out HX.out; clear b2)
                | (refine wpList_yields (S := fun _ => True) (DZ.out ▸ y_kyne (by rfl) (by rfl) x zk (by rfl) (by rfl)) trivial ?_))
              go_ret
              exact ⟨ret_n (Oj.chk_no fun h => by have h' := (slot_x h HKS.out HX.out).2; exact h'.elim (fun e => by exact HK1.out e) HZ.out).symm, HB2.out⟩
          · have dq : decide (n ≤ x.o) = true := by simpa using hq
            have HQ := Lib.hid hq
            clear hq
            go_wp2_with (first
              | (go_at_call 27; refine (Ky.chk_yes HOK.out ▸ rchk_any x _).mono ?_; rintro e w1 ⟨rfl, b1⟩; have HB1 := Lib.hid (HB0.out.trans (b1.mono HB0.out.size)); have HO1 := Lib.hid (HO0.out.below b1); obtain ⟨c0, c1, c2, c3, c4, c5⟩ := key_x HO1.out HKS.out HX.out; clear b1)
              | (go_at_call 61; refine (rname_yes x _ HOF.out).mono ?_; rintro e w2 ⟨rfl, b2⟩; have HB2 := Lib.hid (HB1.out.trans (b2.mono HB1.out.size)); have HO2 := Lib.hid (HO1.out.below b2); clear c0 c1 c2 c3 c4 c5; obtain ⟨c0, c1, c2, c3, c4, c5⟩ := key_x HO2.out HKS.out HX.out; clear b2))
            go_ret
            exact ⟨ret_n (Oj.chk_no fun h => by have h' := (slot_x h HKS.out HX.out).1; have h1 := h'.2 HOF.out; have h2 := HQ.out; omega).symm, HB2.out⟩
        · have HOF := Lib.hid hof
          have dq : decide (n ≤ -1) = false := decide_eq_false (by have := HN.out; omega)
          clear hof
          by_cases hz : x = zk
          · have DZ := Lib.hid (show (!decide (x = zk)) = false by simpa using hz)
            have HZ := Lib.hid hz
            clear hz
            go_wp2_with (first
              | (go_at_call 27; refine (Ky.chk_yes HOK.out ▸ rchk_any x _).mono ?_; rintro e w1 ⟨rfl, b1⟩; have HB1 := Lib.hid (HB0.out.trans (b1.mono HB0.out.size)); have HO1 := Lib.hid (HO0.out.below b1); obtain ⟨c0, c1, c2, c3, c4, c5⟩ := key_x HO1.out HKS.out HX.out; clear b1)
              | (go_at_call 61; refine (rname_no x _ HOF.out).mono ?_; rintro e w2 ⟨rfl, b2⟩; have HB2 := Lib.hid (HB1.out.trans (b2.mono HB1.out.size)); have HO2 := Lib.hid (HO1.out.below b2); clear c0 c1 c2 c3 c4 c5; obtain ⟨c0, c1, c2, c3, c4, c5⟩ := key_x HO2.out HKS.out HX.out; clear b2)
              | (refine wpList_yields (S := fun _ => True) (DZ.out ▸ y_kyne (by rfl) (by rfl) x zk (by rfl) (by rfl)) trivial ?_))
            go_roundw
            case rel => exact ⟨k + 1, by omega, by go_num, HB2.out, HO2.out, take_snoc_x HKS.out HX.out HM.out ⟨⟨HOK.out, fun h => absurd h HOF.out⟩, .inr HZ.out⟩⟩
            case measure => simp [intOf]; omega
          · have DZ := Lib.hid (show (!decide (x = zk)) = true by simpa using hz)
            have HZ := Lib.hid hz
            clear hz
            go_wp2_with (first
              | (go_at_call 27; refine (Ky.chk_yes HOK.out ▸ rchk_any x _).mono ?_; rintro e w1 ⟨rfl, b1⟩; have HB1 := Lib.hid (HB0.out.trans (b1.mono HB0.out.size)); have HO1 := Lib.hid (HO0.out.below b1); obtain ⟨c0, c1, c2, c3, c4, c5⟩ := key_x HO1.out HKS.out HX.out; clear b1)
              | (go_at_call 61; refine (rname_no x _ HOF.out).mono ?_; rintro e w2 ⟨rfl, b2⟩; have HB2 := Lib.hid (HB1.out.trans (b2.mono HB1.out.size)); have HO2 := Lib.hid (HO1.out.below b2); clear c0 c1 c2 c3 c4 c5; obtain ⟨c0, c1, c2, c3, c4, c5⟩ := key_x HO2.out HKS.out HX.out; clear b2)
              | (refine wpList_yields (S := fun _ => True) (DZ.out ▸ y_kyne (by rfl) (by rfl) x zk (by rfl) (by rfl)) trivial ?_))
            go_ret
            exact ⟨ret_n (Oj.chk_no fun h => by have h' := (slot_x h HKS.out HX.out).2; exact h'.elim (fun e => by exact HK1.out e) HZ.out).symm, HB2.out⟩
      · have HOK := Lib.hid hok
        clear hok
        go_wp2_with (first
          | (go_at_call 27; refine (Ky.chk_no HOK.out ▸ rchk_any x _).mono ?_; rintro e w1 ⟨rfl, b1⟩; have HB1 := Lib.hid (HB0.out.trans (b1.mono HB0.out.size)); have HO1 := Lib.hid (HO0.out.below b1); obtain ⟨c0, c1, c2, c3, c4, c5⟩ := key_x HO1.out HKS.out HX.out; clear b1))
        go_ret
        exact ⟨ret_n (Oj.chk_no fun h => by have h' := (slot_x h HKS.out HX.out).1; exact HOK.out h'.1).symm, HB1.out⟩
    · obtain rfl : k = 16 := by omega
      have HS := Lib.hid (take_all (Nat.le_of_eq o.hs) HM.out)
      clear HM
      go_wp2
      go_loopw [7] (fun i wr => ∃ k : Nat, k ≤ 64 ∧ i = .int .i64 k ∧ Below w.heap.size w wr ∧ ObAt wr w.heap.size 0 o ∧ ∀ y ∈ o.b.take k, y = 0) (fun i _ => 65 - (intOf i).toNat)
      case atStart => exact ⟨0, by omega, rfl, HB0.out, HO0.out, fun x hx => by simp at hx⟩
      case round =>
        obtain ⟨k, hk', rfl, hb, hg, hy⟩ := hrel
        clear HB0 HO0
        have HB0 := Lib.hid hb
        have HO0 := Lib.hid hg
        have HY := Lib.hid hy
        clear hy
        clear hb hg
        by_cases hlt : k < 64
        · have hks : k < o.b.length := by rw [o.hb]; exact hlt
          have HKS := Lib.hid hks
          clear hks
          have e0 := byte_of_range HO0.out.bytes k HKS.out
          simp only [Nat.zero_add] at e0
          by_cases hz : o.b[k]'HKS.out = 0
          · have HZ := Lib.hid hz
            rw [hz] at e0
            clear hz
            go_wp2
            go_roundw
            case rel => exact ⟨k + 1, by omega, by go_num, HB0.out, HO0.out, take_snoc_all HKS.out HY.out HZ.out⟩
            case measure => simp [intOf]; omega
          · have HZ := Lib.hid hz
            have dz : (((o.b[k]'HKS.out).toNat : Int) != 0) = true := by
              have : (o.b[k]'HKS.out).toNat ≠ 0 := fun e => hz (UInt8.toNat_inj.1 (by simpa using e))
              simp
              omega
            obtain ⟨q, hq⟩ : ∃ q : Int, ((o.b[k]'HKS.out).toNat : Int) = q := ⟨_, rfl⟩
            rw [hq] at e0 dz
            clear hz hq
            go_wp2
            go_ret
            exact ⟨ret_n (Oj.chk_no fun h => by
              rcases (ok_ref.1 h).2.2 with h' | h' | h'
              · exact HK1.out h'
              · exact HK2.out h'
              · exact HZ.out (h' _ (List.getElem_mem HKS.out))).symm, HB0.out⟩
        · go_wp2
          go_ret
          exact ⟨ret_n (Oj.chk_yes (ok_ref.2 ⟨HP.out, HS.out, .inr (.inr (take_all (Nat.le_of_eq o.hb) (by have h := HY.out; rwa [show k = 64 by omega] at h)))⟩)).symm, HB0.out⟩
set_option maxRecDepth 8000 in
theorem rcheck_any (o : Oj) (n : Int) (w : World) :
    Calls Tryd.prog 39 #[o.val, .int .i64 n] w fun e w' => e = .returned (.int .i64 (o.chk n)) ∧ Below w.heap.size w w' := by
  by_cases hb : o.bad n
  · rw [Oj.chk_no fun h => (ok_ref.1 h).1 hb]; exact rchk_bad o n w hb
  · by_cases h1 : o.k = 1
    · exact rchk_1 o n w hb h1
    · by_cases h2 : o.k = 2
      · exact rchk_2 o n w hb h2
      · exact rchk_x o n w hb h1 h2
end Go.Proofs.YtjfpmadnlpcpfaaDoor

/- The law SumsSealed holds for every slice of bytes: sums.Sealed tells what the definition tells, in memory of its own, and the bytes stay. No condition. -/
import Derived.Test.YtgpggodabalakaaBump
namespace Go.Proofs.Ytgpggodabalakaa
open Go.RowKit
/-- are these bytes sealed? -/
def okB (l : List UInt8) : Bool := decide (4 ≤ l.length) && (numLE (l.drop (l.length - 4)) == crcN (l.take (l.length - 4)))
/-- what is told of them -/
def outL (l : List UInt8) : List UInt8 := if okB l then l.take (l.length - 4) else []
theorem okB_ref (l : List UInt8) (k : Nat) (hl : l.length = k + 4) : ((st (sealN (l.take k))).toList == (st l).toList) = (numLE (l.drop k) == crcN (l.take k)) := by
  rw [st_toList, st_toList, Bool.eq_iff_iff, beq_iff_eq, beq_iff_eq]
  have hd : (l.drop k).length = 4 := by simp; omega
  constructor
  · intro h
    have h1 : sealN (l.take k) = l.take k ++ l.drop k := by rw [List.take_append_drop]; exact h
    unfold sealN at h1
    have h2 := List.append_cancel_left h1
    rw [← h2, numLE_bytesLE 4 _ (by have := crcN_lt (l.take k); omega)]
  · intro h
    unfold sealN
    rw [← h]
    have := bytesLE_numLE (l.drop k)
    rw [hd] at this
    rw [this, List.take_append_drop]
theorem sealed_either (A : Option Addr) (n c : Nat) (l : List UInt8) (w : World) (hn : l.length = n) (hc : n ≤ c) (hr : Rd w A l) (hbig : n ≤ 100000) :
    Calls Try.prog 22 #[.slice A n c] w fun e w' => ∃ v, e = .returned (.tuple #[v, .bool (okB l)]) ∧ w'.ownsRow w.heap.size 5 1 v (outL l).length (bv (outL l)) ∧ Below w.heap.size w w' := by
  by_cases h4 : n < 4
  · have e : okB l = false := by unfold okB; rw [decide_eq_false (by omega)]; rfl
    unfold outL
    rw [e]
    exact (sealed_short A n c w h4).mono fun e w' ⟨he, hw⟩ => ⟨_, he, World.ownsRow_nil _ _ _ _, by rw [hw]; exact Below.refl _ _⟩
  · obtain ⟨k, rfl⟩ : ∃ k, n = k + 4 := ⟨n - 4, by omega⟩
    have e : okB l = (numLE (l.drop k) == crcN (l.take k)) := by unfold okB; rw [decide_eq_true (by omega), Bool.true_and, hn, Nat.add_sub_cancel]
    unfold outL
    rw [e]
    by_cases hq : numLE (l.drop k) = crcN (l.take k)
    · rw [beq_iff_eq.2 hq, if_pos rfl, hn, Nat.add_sub_cancel, List.length_take_of_le (by omega)]
      exact sealed_yes A k c l w hn hc hr (by omega) (by rw [hq]; simp)
    · rw [beq_eq_false_iff_ne.2 hq]
      exact (sealed_not A k c l w hn hc hr (by omega) (by rw [bne_iff_ne]; omega)).mono fun e w' ⟨he, hw⟩ => ⟨_, he, World.ownsRow_nil _ _ _ _, hw⟩
theorem rsealed_either (A : Option Addr) (n c : Nat) (l : List UInt8) (w : World) (hn : l.length = n) (hc : n ≤ c) (hr : Rd w A l) (hbig : n ≤ 100000) :
    Calls Try.prog 23 #[.slice A n c] w fun e w' => ∃ v, e = .returned (.tuple #[v, .bool (okB l)]) ∧ w'.ownsRow w.heap.size 5 1 v (outL l).length (bv (outL l)) ∧ Below w.heap.size w w' := by
  by_cases h4 : n < 4
  · have e : okB l = false := by unfold okB; rw [decide_eq_false (by omega)]; rfl
    unfold outL
    rw [e]
    exact (rsealed_short A n c w h4).mono fun e w' ⟨he, hw⟩ => ⟨_, he, World.ownsRow_nil _ _ _ _, by rw [hw]; exact Below.refl _ _⟩
  · obtain ⟨k, rfl⟩ : ∃ k, n = k + 4 := ⟨n - 4, by omega⟩
    have e : okB l = (numLE (l.drop k) == crcN (l.take k)) := by unfold okB; rw [decide_eq_true (by omega), Bool.true_and, hn, Nat.add_sub_cancel]
    have := rsealed_any (okB l) A k c l w hn hc hr (by omega) (by rw [okB_ref l k hn, e])
    refine this.mono fun e w' ⟨v, he, hown, hb⟩ => ⟨v, he, ?_, hb⟩
    unfold outL
    rw [hn, Nat.add_sub_cancel]
    cases h : okB l
    · simpa [h] using hown
    · rw [h] at hown
      simp only [if_true] at hown ⊢
      rw [List.length_take_of_le (by omega)]
      exact hown
theorem kept_apart {w w' : World} {B n : Nat} {e : TypeId} {v u : Value} {xs : List Value} (h : w.ownsRow B e 1 v n xs) (hg : w.grownBy w' u.ownBlock) (hu : ∀ k, u.ownBlock = some k → k < B) : w'.ownsRow B e 1 v n xs := by
  refine h.kept hg ?_
  cases hv : v.ownBlock with
  | none => exact .inl rfl
  | some j =>
    right
    have hj := (h.lt j hv).1
    intro he
    have := hu j he.symm
    omega
end Go.Proofs.Ytgpggodabalakaa
namespace Go.Proofs.Ytgpggodabalakaa.sumsSealed
open Go.ChangeShapes Go.WideShapes Go.ChangeAt Go.RowKit
set_option maxHeartbeats 800000 in
theorem walk_long (A : Option Addr) (n c : Nat) (w : World) (h : 3000 < n) :
    Calls Try.prog 8 #[.slice A n c] w fun e w' => e = .returned (.bool true) ∧ Below w.heap.size w w' := by
  go_enter Try.func8, Try.ntmps8
  go_wp2_with (go_at_call 11; refine (works_any _).mono ?_; rintro e w9 ⟨rfl, hb9⟩)
  go_ret
  exact ⟨rfl, hb9⟩
set_option maxHeartbeats 1600000 in
theorem walk_short (A : Option Addr) (n c : Nat) (l : List UInt8) (w : World) (hs : n ≤ 3000) (hn : l.length = n) (hnc : n ≤ c) (hr : Rd w A l) :
    Calls Try.prog 8 #[.slice A n c] w fun e w' => e = .returned (.bool true) ∧ Below w.heap.size w w' := by
  have HR := Lib.hid hr
  have HN := Lib.hid hn
  have HR0 := Lib.hid (hr.below (below_lit0 w))
  clear hr hn
  go_enter Try.func8, Try.ntmps8
  go_wp2_with (first
    | (at_builtin; refine wpList_append_bytes _ rfl (.tmp 14) (.tmp 15) _ rfl Try.underlying22 infoU8 rfl (lit0 w) rfl HR0.out HN.out (by omega) (by simp) ?_; intro v1 w1 hown1 hg1 hat1; simp only [Nat.zero_add, List.nil_append] at hown1; have HB1 := Lib.hid (below_append (below_lit0 w) (lit0 w) hg1 (Nat.le_refl _) (by simp)); obtain ⟨C, cap, hv1, _⟩ := own_slice hown1; have hcap : n ≤ cap := own_cap (hv1 ▸ hown1); have HO1 := Lib.hid (hv1 ▸ hown1); subst hv1; clear hown1 hg1 hat1)
    | fail)
  refine (sealed_either C n cap l w1 HN.out hcap (Rd.of_own HO1.out) (by omega)).mono ?_
  rintro e w2 ⟨v2, rfl, hown2, hb2⟩
  have HO2 := Lib.hid hown2
  have HB2 := Lib.hid (HB1.out.trans (hb2.mono HB1.out.size))
  have HM2 := Lib.hid (own_below HO1.out hb2)
  have hz12 := hb2.size
  clear hown2 hb2
  go_wp2_with fail
  refine (rsealed_either A n c l w2 HN.out hnc (HR.out.below HB2.out) (by omega)).mono ?_
  rintro e w3 ⟨v3, rfl, hown3, hb3⟩
  have HO3 := Lib.hid hown3
  have HO2' := Lib.hid (own_below HO2.out hb3)
  have HB3 := Lib.hid (HB2.out.trans (hb3.mono HB2.out.size))
  have HM3 := Lib.hid (own_below HM2.out hb3)
  have hwas := run_str (P := Try.prog) w3 Try.underlying22 Try.underlying5 Try.underlying9 (c := cap) HN.out (Rd.of_own HM3.out)
  have HCB := Lib.hid (fun j hj => HO1.out.lt j hj)
  have HW2 := Lib.hid hz12
  clear hown3 hb3 hz12
  go_wp2_with fail
  go_loopw [9] (fun i wr => ∃ k : Nat, k ≤ n ∧ i = .int .i64 k ∧ wr.ownsRow w.heap.size 5 1 (.slice C n cap) n (bv (bump k l)) ∧ w3.grownBy wr (Value.slice C n cap).ownBlock) (fun i _ => n - (intOf i).toNat)
  case atStart => exact ⟨0, by omega, rfl, by rw [bump_zero]; exact HM3.out, World.grownBy.refl _ _⟩
  case round =>
    obtain ⟨k, hk, rfl, hown, hgr⟩ := hrel
    by_cases hlt : k < n
    · obtain ⟨g, cap', hv, _⟩ := own_some hown (by omega)
      injection hv with hv1 hv2 hv3
      subst hv1
      subst hv3
      have hkL : k < l.length := by have := HN.out; omega
      have hc := hown.cellAt k (by omega)
      have hf := hown.frozenAt k
      rw [bv_get, bump_get k l k (Nat.le_refl _) hkL] at hc
      simp only [Option.map_some] at hc
      have HS := Lib.hid (hown.stored k (.int .u8 ((l[k] + 1).toNat : Int)))
      have HG := Lib.hid hgr
      have HU := Lib.hid (u8_succ l[k])
      have HX := Lib.hid (bump_set k l hkL)
      clear hown hgr
      go_wp2
      go_roundw
      case rel =>
        rw [HU.out]
        have h1 := HS.out.1
        rw [HX.out] at h1
        exact ⟨k + 1, by omega, by go_num, h1, grow_trans HG.out HS.out.2⟩
      case measure => simp [intOf]; omega
    · obtain rfl : k = n := by omega
      have hO3 := kept_apart HO3.out hgr (fun j hj => by have := (HM2.out.lt j hj).2; exact this)
      have hO2 := kept_apart HO2'.out hgr (fun j hj => (HCB.out j hj).2)
      have hBr := HB3.out.grown hgr HB3.out.size (fun j hj => (HCB.out j hj).1)
      obtain ⟨X, cx, rfl, _⟩ := own_slice hO2
      obtain ⟨Y, cy, rfl, _⟩ := own_slice hO3
      have hs1 := run_str (P := Try.prog) wr Try.underlying22 Try.underlying5 Try.underlying9 (c := cx) rfl (Rd.of_own hO2)
      have hs2 := run_str (P := Try.prog) wr Try.underlying22 Try.underlying5 Try.underlying9 (c := cy) rfl (Rd.of_own hO3)
      have hs3 := run_str (P := Try.prog) wr Try.underlying22 Try.underlying5 Try.underlying9 (c := c) HN.out (HR.out.below hBr)
      have HBr := Lib.hid hBr
      clear hO2 hO3 hBr hown hgr
      go_wp2_with (go_at_call 11; refine (works_any _).mono ?_; rintro e w9 ⟨rfl, hb9⟩)
      go_ret
      exact ⟨rfl, HBr.out.trans (hb9.mono HBr.out.size)⟩
theorem walk (w : World) (A : Option Addr) (n c : Nat) (zs : List Int) (r0 : IsRow .u8 w A n c zs) :
    Calls Try.prog 8 #[.slice A n c] w fun e w' => e = .returned (.bool true) ∧ Below w.heap.size w w' := by
  obtain ⟨l, hn, hnc, hr⟩ := row_bytes r0
  by_cases hs : 3000 < n
  · exact walk_long A n c w hs
  · exact walk_short A n c l w (by omega) hn hnc hr
set_option maxRecDepth 100000 in
theorem lifted (os : Os) (started : os.Started) (H : Type) (enc : TypeId × Value → H) :
    ReturnsInHanded {} Try.checked os 8 .any (Rows.sumsSealedSpec.pre6 enc Try.prog Try.f8 Rows.sumsSealedRow.domain false) (Rows.sumsSealedSpec.post enc Try.prog Try.f8 false true false false) := by
  refine returnsInHanded_of_change (C := Try.checked) own started (by kernel_rfl) Try.func8
    (ChangeSpec.witness6 (enc := enc) (C := Try.checked) false ⟨#[], #[.slice none 0 0], []⟩ 8 (by kernel_rfl) (by kernel_rfl) (by kernel_rfl) (by kernel_rfl)) ?_
  intro W base args ds gs before hval0 hW hcnd _
  have hval : ∀ (j : Nat) t v, Try.f8.params[j]? = some t → args[j]? = some v → Value.okWide Try.prog W .any base t v := hval0
  have hW' := hW
  obtain ⟨p, q, hA0, hV, rfl, hfz, hnd⟩ := hW
  have hA : DataW.TrodAll enc Try.prog W 0 (fun _ => true) true Try.f8.params.toList args.toList ds p := hA0
  rw [Try.params8] at hA hval
  obtain ⟨v0, vs0, d0, ds0, p0, q0, hargs, rfl, rfl, h0, t0⟩ := trodAll_cons hA
  obtain ⟨rfl, rfl, rfl⟩ := trodAll_nil t0
  obtain rfl : args = #[v0] := by cases args; simp_all
  obtain ⟨rfl, rfl⟩ := trodVars_none hV
  obtain ⟨a0, len0, cap0, rfl⟩ := okWide_slice Try.underlying22 (hval 0 22 v0 rfl rfl)
  have k0 := h0
  have lt0 : ∀ x ∈ p0, x.block < W.heap.size := by obtain ⟨m, hm⟩ := k0; exact DataW.trod_lt m _ _ _ hm
  obtain ⟨z0, r0⟩ : ∃ zs, IsRow .u8 W a0 len0 cap0 zs := by
    obtain ⟨fuel, hf⟩ := h0
    rcases open_ints Try.underlying22 Try.underlying5 (by kernel_rfl) hf with ⟨hcs, _⟩ | ⟨x, l, c, zs, hcs, _, hl, hm, hz, _, hcell, hwz⟩
    · simp [Value.cells] at hcs
      obtain ⟨rfl, rfl, rfl⟩ := hcs
      exact ⟨[], .inl ⟨rfl, rfl, rfl, rfl⟩⟩
    · simp [Value.cells] at hcs
      obtain ⟨rfl, rfl, rfl⟩ := hcs
      exact ⟨zs, .inr ⟨_, rfl, hl, hm, by simpa using hz, hcell, hwz⟩⟩
  clear hA0 hval0
  refine (walk W a0 len0 cap0 z0 r0).mono fun e W' ⟨he, bel⟩ => ?_
  subst he
  exact ⟨_, rfl, _, _, _, [], _, [], hW', trodAll_mk1 (shut_bool Try.underlying4 _), (trodAll_cons_mk (Below.trod laidOut (by kernel_rfl) (of_decide_eq_true (by kernel_rfl)) k0 bel lt0) trodAll_mk0), rfl, bel.frame _, fun h => by cases h⟩
theorem over : Rows.sumsSealedRow.holds Try.pinned (OpenSpec.ofChange Rows.sumsSealedSpec) :=
  OpenClaim.holds_of_wide 8 Try.f8 rfl rfl rfl rfl rfl rfl rfl ⟨rfl, rfl, rfl, rfl, rfl⟩ rfl rfl rfl rfl rfl (by kernel_rfl) Try.func8 (by kernel_rfl)
    (of_decide_eq_true (by kernel_rfl)) (by unfold Func.isWrapper; first | (rw [if_pos (by decide +kernel)]; kernel_rfl) | (rw [if_neg (by decide +kernel)]; exact ⟨rfl, rfl⟩))
    (fun os started H enc _ => lifted os started H enc)
theorem proved : Rows.SumsSealedSaid := over
end Go.Proofs.Ytgpggodabalakaa.sumsSealed

/- volume: Spot. -/
import Derived.Test.YtpihllgdgolgpaaDoorVBou
namespace Go.Proofs.YtpihllgdgolgpaaDoor
open Go.RowKit
attribute [local go_sem] Oper.semAt_some
abbrev set3 (w : World) (g : Nat) (a b c : Value) : World := ((w.setCell ⟨g, 0, none⟩ a).setCell ⟨g, 1, none⟩ b).setCell ⟨g, 2, none⟩ c
theorem below_set3 {w : World} {B : Nat} {a : World} {g : Nat} (h : Below B a w) (hg : B ≤ g) (v0 v1 v2 : Value) : Below B a (set3 w g v0 v1 v2) :=
  ((h.setCell (p := ⟨g, 0, none⟩) hg v0).setCell (p := ⟨g, 1, none⟩) hg v1).setCell (p := ⟨g, 2, none⟩) hg v2
set_option maxRecDepth 8000 in
theorem Blk.set3 {w : World} {g : Nat} {t : TypeId} {a b c a' b' c' : Value} (h : Blk w g t #[a, b, c]) : Blk (set3 w g a' b' c') g t #[a', b', c'] := by
  have := ((h.set_ 0 a').set_ 1 b').set_ 2 c'
  simpa using this
set_option maxRecDepth 8000 in
theorem rows_in (n : Int) (h : 1 ≤ n ∧ n ≤ 64) : ∀ r ∈ partsL n, 0 ≤ r.f ∧ r.f ≤ r.t ∧ r.t ≤ 212 := by
  intro r hr
  simp only [partsL, List.mem_cons, List.not_mem_nil, or_false] at hr
  rcases hr with rfl | rfl | rfl | rfl | rfl | rfl | rfl | rfl <;> refine ⟨?_, ?_, ?_⟩ <;> simp only <;> omega
theorem pof_in : ∀ (l : List Pt) (s : Int) (r : Pt), pofF l s = some r → r ∈ l ∧ r.f ≤ s ∧ s < r.t
  | [], s, r, h => by cases h
  | q :: l, s, r, h => by
    rw [pofF] at h
    split at h
    · cases h
    · split at h
      · obtain rfl := Option.some.inj h
        exact ⟨by simp, by omega, by assumption⟩
      · have := pof_in l s r h
        exact ⟨by simp [this.1], this.2⟩
/-- which place a sector is, and the error -/
def sptP (n s : Int) : Sp × Int := if 1 ≤ n ∧ n ≤ 64 then (match pofF (partsL n) s with | none => (⟨0, 0, 0⟩, 4) | some r => (⟨r.k, r.a, s - r.f⟩, 0)) else (⟨0, 0, 0⟩, 2)
set_option maxRecDepth 8000 in
set_option maxHeartbeats 2000000 in
theorem spot_any (n s : Int) (w : World) :
    Calls Tryd.prog 14 #[plan n, .int .i64 s] w fun e w' => e = .returned (.tuple #[(sptP n s).1.val, .int .i64 (sptP n s).2]) ∧ Below w.heap.size w w' := by
  have HB := Lib.hid (((Below.refl w.heap.size w).alloc (Nat.le_refl _) (.cells #[.int .i64 n] 23)).alloc (by simp) (.cells #[.int .i64 0, .int .i64 0, .int .i64 0] 30))
  have HS := Lib.hid (show Blk ((w.alloc (.cells #[.int .i64 n] 23)).alloc (.cells #[.int .i64 0, .int .i64 0, .int .i64 0] 30)) (w.heap.size + 1) 30 #[.int .i64 0, .int .i64 0, .int .i64 0] by have := Blk.new (w.alloc (.cells #[.int .i64 n] 23)) 30 #[.int .i64 0, .int .i64 0, .int .i64 0]; simpa using this)
  by_cases hr : 1 ≤ n ∧ n ≤ 64
  · cases hp : pofF (partsL n) s with
    | none =>
      have HV := Lib.hid (show pofV (partsL n) s = .tuple #[Pt.val ⟨0, 0, 0, 0⟩, .bool false] by unfold pofV; rw [hp])
      have HE := Lib.hid (show sptP n s = (⟨0, 0, 0⟩, 4) by unfold sptP; rw [if_pos hr, hp])
      have HRI := Lib.hid hr
      clear hr hp
      go_enter Tryd.func14, Tryd.ntmps14
      go_wp2_with (first
        | (go_at_call 9; refine (parts_yes n _ HRI.out).mono ?_; rintro r w1 ⟨⟨g, c, rfl, hrd⟩, hb⟩; have HB1 := Lib.hid (HB.out.trans (hb.mono HB.out.size)); have HS1 := Lib.hid (HS.out.keep hb); have HP1 := Lib.hid hrd; clear hrd hb)
        | (go_at_call 21; refine (partof_any (partsL n) 8 rfl (by decide) _ _ s _ HP1.out).mono ?_; rw [HV.out]; rintro r w2 ⟨rfl, hb⟩; have HB2 := Lib.hid ((HB1.out.trans (hb.mono HB1.out.size)).alloc (Nat.le_trans HB1.out.size hb.size) (.cells #[.int .i64 0, .int .i64 0, .int .i64 0, .int .i64 0] 40)); have HS2 := Lib.hid ((HS1.out.keep hb).alloc (.cells #[.int .i64 0, .int .i64 0, .int .i64 0, .int .i64 0] 40)); obtain ⟨c0, c1, c2⟩ := HS2.out.three; have f0 := HS2.out.frozen 0; have f1 := HS2.out.frozen 1; have f2 := HS2.out.frozen 2; clear hb))
      obtain ⟨y0, y1, y2⟩ := (HS2.out.set3 (a' := .int .i64 0) (b' := .int .i64 0) (c' := .int .i64 0)).three
      refine bodyPost_ret (v := .tuple #[Sp.val ⟨0, 0, 0⟩, .int .i64 4]) (by simp [results, Tryd.results14, go_sem, y0, y1, y2]) rfl ?_
      exact ⟨by rw [HE.out], below_set3 HB2.out (by omega) _ _ _⟩
    | some r =>
      obtain ⟨hmem, h1, h2⟩ := pof_in _ _ _ hp
      have h3 := rows_in n hr r hmem
      have HV := Lib.hid (show pofV (partsL n) s = .tuple #[r.val, .bool true] by unfold pofV; rw [hp])
      have HE := Lib.hid (show sptP n s = (⟨r.k, r.a, s - r.f⟩, 0) by unfold sptP; rw [if_pos hr, hp])
      have HRI := Lib.hid hr
      have HC := Lib.hid (show (0 ≤ r.f ∧ r.f ≤ 100000) ∧ (0 ≤ s ∧ s ≤ 100000) by omega)
      obtain ⟨k, a, f, t⟩ := r
      clear hr hp hmem h1 h2 h3
      go_enter Tryd.func14, Tryd.ntmps14
      go_wp2_with (first
        | (go_at_call 9; refine (parts_yes n _ HRI.out).mono ?_; rintro r w1 ⟨⟨g, c, rfl, hrd⟩, hb⟩; have HB1 := Lib.hid (HB.out.trans (hb.mono HB.out.size)); have HS1 := Lib.hid (HS.out.keep hb); have HP1 := Lib.hid hrd; clear hrd hb)
        | (go_at_call 21; refine (partof_any (partsL n) 8 rfl (by decide) _ _ s _ HP1.out).mono ?_; rw [HV.out]; rintro r w2 ⟨rfl, hb⟩; have HB2 := Lib.hid ((HB1.out.trans (hb.mono HB1.out.size)).alloc (Nat.le_trans HB1.out.size hb.size) (.cells #[.int .i64 k, .int .i64 a, .int .i64 f, .int .i64 t] 40)); have HS2 := Lib.hid ((HS1.out.keep hb).alloc (.cells #[.int .i64 k, .int .i64 a, .int .i64 f, .int .i64 t] 40)); clear hb)
        | (go_at_call 18; refine (pspot_any ⟨k, a, f, t⟩ s _ HC.out.1 HC.out.2).mono ?_; rintro r w3 ⟨rfl, hb⟩; have HB3 := Lib.hid (HB2.out.trans (hb.mono HB2.out.size)); have HS3 := Lib.hid (HS2.out.keep hb); obtain ⟨c0, c1, c2⟩ := HS3.out.three; have f0 := HS3.out.frozen 0; have f1 := HS3.out.frozen 1; have f2 := HS3.out.frozen 2; clear hb))
      obtain ⟨y0, y1, y2⟩ := (HS3.out.set3 (a' := .int .i64 k) (b' := .int .i64 a) (c' := .int .i64 (s - f))).three
      refine bodyPost_ret (v := .tuple #[Sp.val ⟨k, a, s - f⟩, .int .i64 0]) (by simp [results, Tryd.results14, go_sem, y0, y1, y2]) rfl ?_
      exact ⟨by rw [HE.out], below_set3 HB3.out (by omega) _ _ _⟩
  · have HE := Lib.hid (show sptP n s = (⟨0, 0, 0⟩, 2) by unfold sptP; rw [if_neg hr])
    have HRI := Lib.hid hr
    clear hr
    go_enter Tryd.func14, Tryd.ntmps14
    go_wp2_with (go_at_call 9; refine (parts_no n _ HRI.out).mono ?_; rintro r w1 ⟨rfl, hb⟩; have HB1 := Lib.hid (HB.out.trans (hb.mono HB.out.size)); have HS1 := Lib.hid (HS.out.keep hb); obtain ⟨c0, c1, c2⟩ := HS1.out.three; have f0 := HS1.out.frozen 0; have f1 := HS1.out.frozen 1; have f2 := HS1.out.frozen 2; clear hb)
    obtain ⟨y0, y1, y2⟩ := (HS1.out.set3 (a' := .int .i64 0) (b' := .int .i64 0) (c' := .int .i64 0)).three
    refine bodyPost_ret (v := .tuple #[Sp.val ⟨0, 0, 0⟩, .int .i64 2]) (by simp [results, Tryd.results14, go_sem, y0, y1, y2]) rfl ?_
    exact ⟨by rw [HE.out], below_set3 HB1.out (by omega) _ _ _⟩
end Go.Proofs.YtpihllgdgolgpaaDoor

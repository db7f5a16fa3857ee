/- volume: which plan has a size. -/
import Derived.Test.YtpihllgdgolgpaaDoorVPart
namespace Go.Proofs.YtpihllgdgolgpaaDoor
open Go.RowKit
attribute [local go_sem] Oper.semAt_some
/-- how many objects, where so many sectors are a plan's -/
def fitN (s : Int) : Int := if 23 ≤ s ∧ s ≤ 212 ∧ (s - 20) % 3 = 0 then (s - 20) / 3 else 0
def fitB (s : Int) : Bool := decide (23 ≤ s ∧ s ≤ 212 ∧ (s - 20) % 3 = 0)
set_option maxRecDepth 8000 in
theorem fit_yes {s n : Int} (h : 1 ≤ n ∧ n ≤ 64) (e : 20 + 3 * n = s) : fitN s = n ∧ fitB s = true := by
  have : 23 ≤ s ∧ s ≤ 212 ∧ (s - 20) % 3 = 0 := by omega
  exact ⟨by unfold fitN; rw [if_pos this]; omega, decide_eq_true this⟩
set_option maxRecDepth 8000 in
theorem fit_no {s : Int} (h : ∀ m : Nat, m < 64 → 20 + 3 * ((m : Int) + 1) ≠ s) : fitN s = 0 ∧ fitB s = false := by
  have : ¬ (23 ≤ s ∧ s ≤ 212 ∧ (s - 20) % 3 = 0) := fun ⟨h1, h2, h3⟩ => h ((s - 23) / 3).toNat (by omega) (by omega)
  exact ⟨by unfold fitN; rw [if_neg this], decide_eq_false this⟩
section
variable {P : Program}
set_option maxRecDepth 8000 in
theorem res_1 {fn : Func} {p : Tmp} {t : TypeId} (h : fn.results = #[.cell p t]) (tmps : Array Value) (w : World) (g : Nat) (v : Value) (hp : tmps.getD p undef = .pointer (some ⟨g, 0, none⟩)) (hl : (loadVar t ⟨g, 0, none⟩).run P w = .ok v w) : (results fn tmps).run P w = .ok v w := by
  have hp' : tmps[p]?.getD undef = .pointer (some ⟨g, 0, none⟩) := by simpa using hp
  simp [results, h, hp', asAddr, hl]
set_option maxRecDepth 8000 in
theorem res_1t {fn : Func} {p q : Tmp} {t : TypeId} (h : fn.results = #[.cell p t, .tmp q]) (tmps : Array Value) (w : World) (g : Nat) (v u : Value) (hp : tmps.getD p undef = .pointer (some ⟨g, 0, none⟩)) (hq : tmps.getD q undef = u) (hl : (loadVar t ⟨g, 0, none⟩).run P w = .ok v w) : (results fn tmps).run P w = .ok (.tuple #[v, u]) w := by
  have hp' : tmps[p]?.getD undef = .pointer (some ⟨g, 0, none⟩) := by simpa using hp
  have hq' : tmps[q]?.getD undef = u := by simpa using hq
  simp [results, h, hp', hq', asAddr, hl]
end
set_option maxRecDepth 8000 in
set_option maxHeartbeats 4000000 in
theorem fits_any (s : Int) (w : World) : Calls Tryd.prog 12 #[.int .i64 s] w fun r w' => r = .returned (.tuple #[plan (fitN s), .bool (fitB s)]) ∧ Below w.heap.size w w' := by
  have HB := Lib.hid ((Below.refl w.heap.size w).alloc (Nat.le_refl _) (.cells #[.int .i64 0] 23))
  have HG := Lib.hid (Blk.new w 23 #[.int .i64 0])
  go_enter Tryd.func12, Tryd.ntmps12
  go_wp2
  go_loopw [8] (fun i wr => ∃ k : Nat, k ≤ 64 ∧ i = .int .i64 k ∧ Below w.heap.size w wr ∧ Blk wr w.heap.size 23 #[.int .i64 0] ∧ ∀ m : Nat, m < k → 20 + 3 * ((m : Int) + 1) ≠ s) (fun i _ => 65 - (intOf i).toNat)
  case atStart => exact ⟨0, by omega, rfl, HB.out, HG.out, fun m hm => by omega⟩
  case round =>
    clear HB HG
    obtain ⟨k, hk, rfl, hb, hg, hno⟩ := hrel
    have HB := Lib.hid hb
    have HG := Lib.hid hg
    have HNO := Lib.hid hno
    clear hb hg hno
    by_cases hlt : k < 64
    · have d0 : decide ((k : Int) < 64) = true := decide_eq_true (by omega)
      by_cases hs : 20 + 3 * ((k : Int) + 1) = s
      · have ds : (20 + 3 * ((k : Int) + 1) == s) = true := by simpa using hs
        obtain ⟨e1, e2⟩ := fit_yes (n := (k : Int) + 1) (by omega) hs
        have E1 := Lib.hid e1
        have E2 := Lib.hid e2
        clear e1 e2 hs
        go_wp2_with (go_at_call 11; refine (size_any _ _).mono ?_; rw [if_pos (show 1 ≤ (k : Int) + 1 ∧ (k : Int) + 1 ≤ 64 by omega), if_pos (show 1 ≤ (k : Int) + 1 ∧ (k : Int) + 1 ≤ 64 by omega)]; rintro r w1 ⟨rfl, hb1⟩; obtain ⟨hp, hb2⟩ := box1 hb1; have G1 := Lib.hid (HG.out.keep hb2); have B1 := Lib.hid (HB.out.trans (hb2.mono HB.out.size)); have c1 := G1.out.one; have f1 := G1.out.frozen 0; have c2 := hp.one; clear hb1 hb2 hp)
        have S1 := (G1.out.set_ 0 (.int .i64 ((k : Int) + 1))).one
        refine bodyPost_ret (v := .tuple #[plan ((k : Int) + 1), .bool true]) (by simp [results, Tryd.results12, go_sem, S1]) rfl ?_
        exact ⟨by rw [E1.out, E2.out], B1.out.setCell (p := ⟨w.heap.size, 0, none⟩) (Nat.le_refl _) _⟩
      · have ds : (20 + 3 * ((k : Int) + 1) == s) = false := by simpa using hs
        have HS := Lib.hid hs
        clear hs
        go_wp2_with (go_at_call 11; refine (size_any _ _).mono ?_; rw [if_pos (show 1 ≤ (k : Int) + 1 ∧ (k : Int) + 1 ≤ 64 by omega), if_pos (show 1 ≤ (k : Int) + 1 ∧ (k : Int) + 1 ≤ 64 by omega)]; rintro r w1 ⟨rfl, hb1⟩; obtain ⟨hp, hb2⟩ := box1 hb1; have G1 := Lib.hid (HG.out.keep hb2); have B1 := Lib.hid (HB.out.trans (hb2.mono HB.out.size)); clear hb1 hb2 hp)
        go_roundw
        case rel =>
          refine ⟨k + 1, by omega, by go_num, B1.out, G1.out, fun m hm => ?_⟩
          rcases Nat.lt_or_ge m k with h | h
          · exact HNO.out m h
          · obtain rfl : m = k := by omega
            exact HS.out
        case measure => simp [intOf]; omega
    · obtain rfl : k = 64 := by omega
      obtain ⟨e1, e2⟩ := fit_no HNO.out
      have E1 := Lib.hid e1
      have E2 := Lib.hid e2
      clear e1 e2
      have c1 := HG.out.one
      have f1 := HG.out.frozen 0
      go_wp2
      have S1 := (HG.out.set_ 0 (.int .i64 0)).one
      refine bodyPost_ret (v := .tuple #[plan 0, .bool false]) (by simp [results, Tryd.results12, go_sem, S1]) rfl ?_
      exact ⟨by rw [E1.out, E2.out], HB.out.setCell (p := ⟨w.heap.size, 0, none⟩) (Nat.le_refl _) _⟩
end Go.Proofs.YtpihllgdgolgpaaDoor

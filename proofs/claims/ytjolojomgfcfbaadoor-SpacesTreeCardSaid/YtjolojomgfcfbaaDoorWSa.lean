/- spaces: Store of any outcome in one. -/
import Derived.Test.YtjolojomgfcfbaaDoorWSo
namespace Go.Proofs.YtjolojomgfcfbaaDoor
open Go.RowKit
section
variable {w : World} {base q : Nat} {A : Option Addr} {cap : Nat} {ps : List Nat} {os : List Oj}
set_option maxRecDepth 8000 in
theorem pgK_r {x : Ky} (h : pgN os x) (r : Nat) : (pgK x r).r = 0 ∨ (pgK x r).r = 1 := by
  obtain ⟨j, u, d⟩ := pgN_d h
  unfold pgK
  split
  · exact d.r
  · exact .inr rfl
set_option maxRecDepth 8000 in
theorem sstore_all (h : StAt w base q A cap ps os) (hn : 0 < os.length) (ho : okAll os.length os) (hT : Tab w) (x : Ky) (a : Int) (ha : a ≤ 9223372036854775807) (t : List UInt8) :
    Calls Tryd.prog 7 #[pv q, x.val, .int .i64 a, .string (st t)] w fun e w' => e = .returned (.tuple #[(storeA os x a t).2.1.val, .int .i64 (storeA os x a t).2.2]) ∧ StAt w' base q A cap ps (storeA os x a t).1 ∧ Fr (fun k => k ∈ ps) w w' := by
  have lift : ∀ {v : Value} {os' : List Oj}, os' = os → Calls Tryd.prog 7 #[pv q, x.val, .int .i64 a, .string (st t)] w (fun e w' => e = .returned v ∧ Below w.heap.size w w') → Calls Tryd.prog 7 #[pv q, x.val, .int .i64 a, .string (st t)] w (fun e w' => e = .returned v ∧ StAt w' base q A cap ps os' ∧ Fr (fun k => k ∈ ps) w w') := fun e hc => hc.mono fun e' w' hb => ⟨hb.1, by rw [e]; exact h.below hb.2, Fr.of_below hb.2⟩
  by_cases hr : refA os x a (t.length : Int) = 0
  · obtain ⟨an, rfl⟩ : ∃ an : Nat, a = (an : Int) := ⟨a.toNat, by have := (refA_0 hr).2.1; omega⟩
    have es : storeA os x (an : Int) t = ((((goneW os x (an : Int)).hold (t.length : Int)).wr).put os t, (((goneW os x (an : Int)).hold (t.length : Int)).wr).fa (an : Int), 0) := by unfold storeA; rw [if_pos hr]
    rw [es]
    cases hO : goneW os x (an : Int) with
    | fault k kp => exact lift rfl (sstore_fault h hn ho hT x an (by omega) t hr hO)
    | found y b kp d =>
      have hb := (stepW_at hO).1
      obtain ⟨xp, hp, r, hy⟩ := (stepW_at hO).2
      have hyr : y.r = 0 ∨ y.r = 1 := by rw [hy]; exact pgK_r hp r
      by_cases hc : 64 < (b : Int) + (t.length : Int)
      · rw [show (Wo.found y b kp d).hold (t.length : Int) = .fault 5 kp from if_pos hc]
        exact lift rfl (sstore_cross h hn ho hT x an (by omega) t hr (by omega) hO hc)
      · rw [show (Wo.found y b kp d).hold (t.length : Int) = .found y b kp d from if_neg hc]
        by_cases h0 : y.r = 0
        · rw [show (Wo.found y b kp d).wr = .found y b kp d from if_pos h0]
          exact sstore_yes h hn ho hT x an (by omega) t hr (by omega) hO h0 hc
        · rw [show (Wo.found y b kp d).wr = .fault 6 kp from if_neg h0]
          exact lift rfl (sstore_right h hn ho hT x an (by omega) t hr (by omega) hO (by omega) hc)
  · have es : storeA os x a t = (os, zfa, refA os x a (t.length : Int)) := by unfold storeA; rw [if_neg hr]
    rw [es]
    exact lift rfl (sstore_e x a _ t hr fun W hW => refused_any (h.below hW) hn (hT.below hW) x a _ rfl)
set_option maxRecDepth 8000 in
theorem storeA_len (os : List Oj) (x : Ky) (a : Int) (t : List UInt8) : (storeA os x a t).1.length = os.length := by
  unfold storeA
  split
  · show (Wo.put os t _).length = _
    unfold Wo.put
    split
    · rfl
    · exact wrA_len _ _ _ _
  · rfl
set_option maxRecDepth 8000 in
theorem storeA_ok {os : List Oj} (ho : okAll os.length os) (x : Ky) (a : Int) (t : List UInt8) : okAll os.length (storeA os x a t).1 := by
  unfold storeA
  split
  · show okAll os.length (Wo.put os t _)
    unfold Wo.put
    split
    · exact ho
    · exact wrA_ok ho _ _ _
  · exact ho
end
end Go.Proofs.YtjolojomgfcfbaaDoor

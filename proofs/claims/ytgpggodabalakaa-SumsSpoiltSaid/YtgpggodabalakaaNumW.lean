/- The walks: step, numberOf, num. -/
import Derived.Test.YtgpggodabalakaaRows
import Derived.Test.YtgpggodabalakaaRd
import Derived.Test.YtgpggodabalakaaNum
namespace Go.Proofs.Ytgpggodabalakaa
open Go.RowKit
theorem ret_int {k : IntKind} {a b : Int} (h : a = b) : Ending.returned (.int k a) = .returned (.int k b) := by rw [h]
set_option maxHeartbeats 400000 in
theorem step_any (s : Nat) (w : World) (h : s < 4294967296) :
    Calls Try.prog 31 #[.int .u32 (s : Int)] w fun e w' => e = .returned (.int .u32 (stepN s : Int)) ∧ w = w' := by
  have ha := u32_and1 s h
  have hx := u32_xor_nat (s / 2) 3988292384 (by omega) (by omega)
  go_enter Try.func31, Try.ntmps31
  go_wp2
  · have h0 : ((s : Int) % 2 == 0) = true := by assumption
    go_ret
    have h1 : s % 2 = 0 := by have : (s : Int) % 2 = 0 := by simpa using h0
                              omega
    exact ⟨ret_int (by rw [stepN, if_pos h1]; omega), rfl⟩
  · have h0 : ((s : Int) % 2 == 0) = false := by assumption
    go_ret
    exact ⟨ret_int (by rw [stepN, if_neg (by intro h1; have : (s : Int) % 2 = 0 := by omega
                                             simp [this] at h0), ← hx]; congr 1), rfl⟩
set_option maxHeartbeats 400000 in
theorem num_any (n : Int) (w : World) : Calls Try.prog 17 #[.int .i64 n] w fun e w' => e = .returned (.int .i64 n) ∧ w = w' := by
  go_enter Try.func17, Try.ntmps17
  go_wp2
  go_ret
  exact ⟨rfl, rfl⟩
set_option maxHeartbeats 400000 in
theorem numberOf_any (A : Option Addr) (n c : Nat) (l : List UInt8) (w : World) (hn : l.length = n) (h8 : n ≤ 8) (hr : Rd w A l) :
    Calls Try.prog 28 #[.slice A n c] w fun e w' => e = .returned (.int .u64 (numLE l : Int)) ∧ w = w' := by
  have HR := Lib.hid hr
  clear hr
  go_enter Try.func28, Try.ntmps28
  go_wp2
  go_loop [3, 4, 5, 8] (fun a _ _ i => ∃ k : Nat, k ≤ n ∧ i = .int .i64 k ∧ a = .int .u64 (numLE (l.take k) : Int)) (fun _ _ _ i => n - (intOf i).toNat)
  case atStart => exact ⟨0, Nat.zero_le _, rfl, rfl⟩
  case round =>
    obtain ⟨k, hk, rfl, rfl⟩ := hrel
    by_cases hlt : k < n
    · obtain ⟨b, off, rfl, hc⟩ := HR.out k (by omega)
      go_wp2
      go_round
      case rel =>
        refine ⟨k + 1, by omega, by go_num, ?_⟩
        have hl := numLE_lt (l.take k)
        rw [List.length_take_of_le (by omega)] at hl
        rw [or_step _ k _ (by omega) hl, numLE_take l k (by omega)]
      case measure => simp [intOf]; omega
    · go_wp2
      go_ret
      exact ⟨ret_int (by rw [List.take_of_length_le (by omega)]), rfl⟩
end Go.Proofs.Ytgpggodabalakaa

/- the definition's with. -/
import Derived.Test.YtmpibbgciajnkaaDoorKLess
namespace Go.Proofs.YtmpibbgciajnkaaDoor
open Go.RowKit
def b1 (r q b : Nat) : Nat := if r / b % 2 = 1 ∨ q / b % 2 = 1 then b else 0
def wiN (r q k : Nat) : Nat := (if 1 ≤ k then b1 r q 1 else 0) + (if 2 ≤ k then b1 r q 2 else 0) + (if 3 ≤ k then b1 r q 4 else 0)
theorem wiN_or : ∀ r, r < 8 → ∀ q, q < 8 → wiN r q 3 = r ||| q := by decide
theorem wiN_le : ∀ r, r < 8 → ∀ q, q < 8 → ∀ k, k < 4 → wiN r q k ≤ 7 := by decide
theorem wiN_step (r q k b : Nat) (hk : k < 3) (hb : b = 2 ^ k) : wiN r q (k + 1) = wiN r q k + (if r / b % 2 = 1 ∨ q / b % 2 = 1 then b else 0) := by
  subst hb
  have : k = 0 ∨ k = 1 ∨ k = 2 := by omega
  rcases this with rfl | rfl | rfl <;> simp [wiN, b1] <;> omega
theorem ret_i {a b : Int} (h : a = b) : Ending.returned (.int .i64 a) = .returned (.int .i64 b) := by rw [h]
theorem b1_yes {r q b : Nat} (h : r / b % 2 = 1 ∨ q / b % 2 = 1) : (if r / b % 2 = 1 ∨ q / b % 2 = 1 then b else 0) = b := if_pos h
theorem b1_no {r q b : Nat} (h : ¬ (r / b % 2 = 1 ∨ q / b % 2 = 1)) : (if r / b % 2 = 1 ∨ q / b % 2 = 1 then b else 0) = 0 := if_neg h
set_option maxHeartbeats 1000000 in
theorem with_any (r q : Nat) (w : World) (hr : r < 8) (hq : q < 8) :
    Calls Tryd.prog 38 #[.int .i64 r, .int .i64 q] w fun e w' => e = .returned (.int .i64 ((r ||| q : Nat) : Int)) ∧ w = w' := by
  have HO := Lib.hid (wiN_or r hr q hq)
  have HL := Lib.hid (fun k hk => wiN_le r hr q hq k hk)
  go_enter Tryd.func38, Tryd.ntmps38
  go_wp2
  go_loop [5, 6] (fun n i => ∃ k b : Nat, k ≤ 3 ∧ b = 2 ^ k ∧ i = .int .i64 b ∧ n = .int .i64 (wiN r q k)) (fun _ i => 8 - (intOf i).toNat)
  case atStart => exact ⟨0, 1, by omega, rfl, rfl, rfl⟩
  case round =>
    obtain ⟨k, b, hk, hb, rfl, rfl⟩ := hrel
    have hcase : k = 0 ∨ k = 1 ∨ k = 2 ∨ k = 3 := by omega
    obtain ⟨n, hn⟩ : ∃ n, n = wiN r q k := ⟨_, rfl⟩
    have hn7 : n ≤ 7 := by rw [hn]; exact HL.out k (by omega)
    have HN := Lib.hid hn
    rw [← hn]
    clear hn
    rcases hcase with rfl | rfl | rfl | rfl
    · obtain rfl : b = 1 := hb
      have HS := Lib.hid (wiN_step r q 0 1 (by omega) rfl)
      by_cases h1 : r / 1 % 2 = 1
      · have d1 : (((r : Nat) : Int) % 2 == 1) = true := by simp; omega
        go_wp2
        go_round
        case rel => exact ⟨0 + 1, 2, by omega, rfl, rfl, by rw [HS.out, b1_yes (.inl h1), ← HN.out]; rfl⟩
        case measure => simp [intOf]
      · by_cases h2 : q / 1 % 2 = 1
        · have d1 : (((r : Nat) : Int) % 2 == 1) = false := by simp; omega
          have d2 : (((q : Nat) : Int) % 2 == 1) = true := by simp; omega
          go_wp2
          go_round
          case rel => exact ⟨0 + 1, 2, by omega, rfl, rfl, by rw [HS.out, b1_yes (.inr h2), ← HN.out]; rfl⟩
          case measure => simp [intOf]
        · have d1 : (((r : Nat) : Int) % 2 == 1) = false := by simp; omega
          have d2 : (((q : Nat) : Int) % 2 == 1) = false := by simp; omega
          go_wp2
          go_round
          case rel => exact ⟨0 + 1, 2, by omega, rfl, rfl, by rw [HS.out, b1_no (by omega), ← HN.out]; rfl⟩
          case measure => simp [intOf]
    · obtain rfl : b = 2 := hb
      have HS := Lib.hid (wiN_step r q 1 2 (by omega) rfl)
      by_cases h1 : r / 2 % 2 = 1
      · have d1 : (((r : Nat) : Int) / 2 % 2 == 1) = true := by simp; omega
        go_wp2
        go_round
        case rel => exact ⟨1 + 1, 4, by omega, rfl, rfl, by rw [HS.out, b1_yes (.inl h1), ← HN.out]; rfl⟩
        case measure => simp [intOf]
      · by_cases h2 : q / 2 % 2 = 1
        · have d1 : (((r : Nat) : Int) / 2 % 2 == 1) = false := by simp; omega
          have d2 : (((q : Nat) : Int) / 2 % 2 == 1) = true := by simp; omega
          go_wp2
          go_round
          case rel => exact ⟨1 + 1, 4, by omega, rfl, rfl, by rw [HS.out, b1_yes (.inr h2), ← HN.out]; rfl⟩
          case measure => simp [intOf]
        · have d1 : (((r : Nat) : Int) / 2 % 2 == 1) = false := by simp; omega
          have d2 : (((q : Nat) : Int) / 2 % 2 == 1) = false := by simp; omega
          go_wp2
          go_round
          case rel => exact ⟨1 + 1, 4, by omega, rfl, rfl, by rw [HS.out, b1_no (by omega), ← HN.out]; rfl⟩
          case measure => simp [intOf]
    · obtain rfl : b = 4 := hb
      have HS := Lib.hid (wiN_step r q 2 4 (by omega) rfl)
      by_cases h1 : r / 4 % 2 = 1
      · have d1 : (((r : Nat) : Int) / 4 % 2 == 1) = true := by simp; omega
        go_wp2
        go_round
        case rel => exact ⟨2 + 1, 8, by omega, rfl, rfl, by rw [HS.out, b1_yes (.inl h1), ← HN.out]; rfl⟩
        case measure => simp [intOf]
      · by_cases h2 : q / 4 % 2 = 1
        · have d1 : (((r : Nat) : Int) / 4 % 2 == 1) = false := by simp; omega
          have d2 : (((q : Nat) : Int) / 4 % 2 == 1) = true := by simp; omega
          go_wp2
          go_round
          case rel => exact ⟨2 + 1, 8, by omega, rfl, rfl, by rw [HS.out, b1_yes (.inr h2), ← HN.out]; rfl⟩
          case measure => simp [intOf]
        · have d1 : (((r : Nat) : Int) / 4 % 2 == 1) = false := by simp; omega
          have d2 : (((q : Nat) : Int) / 4 % 2 == 1) = false := by simp; omega
          go_wp2
          go_round
          case rel => exact ⟨2 + 1, 8, by omega, rfl, rfl, by rw [HS.out, b1_no (by omega), ← HN.out]; rfl⟩
          case measure => simp [intOf]
    · obtain rfl : b = 8 := hb
      go_wp2
      go_ret
      exact ⟨ret_i (by rw [HN.out, HO.out]), rfl⟩
end Go.Proofs.YtmpibbgciajnkaaDoor

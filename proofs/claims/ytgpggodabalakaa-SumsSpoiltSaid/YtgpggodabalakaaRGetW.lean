/- The walk: the document's own Get. -/
import Derived.Test.YtgpggodabalakaaRefW
namespace Go.Proofs.Ytgpggodabalakaa
open Go.RowKit
theorem numLE_drop (l : List UInt8) (k : Nat) (h : k < l.length) : numLE (l.drop k) = l[k].toNat + 256 * numLE (l.drop (k + 1)) := by
  rw [List.drop_eq_getElem_cons h, numLE]
theorem numLE_drop_lt (l : List UInt8) (k : Nat) (hk : k ≤ l.length) (h : numLE l ≤ 9223372036854775807) : numLE (l.drop k) ≤ 9223372036854775807 := by
  induction k with
  | zero => simpa using h
  | succ k ih =>
    have h1 := ih (by omega)
    rw [numLE_drop l k (by omega)] at h1
    omega
theorem beq_int_ne (a b : Int) (h : a ≠ b) : (a == b) = false := by simpa using h
set_option maxHeartbeats 400000 in
theorem rget_none (A : Option Addr) (n c : Nat) (w : World) (h : ¬ Wide n) :
    Calls Try.prog 19 #[.slice A n c] w fun e w' => e = .returned (.tuple #[.int .i64 0, .bool false]) ∧ w = w' := by
  have HW := Lib.hid h
  clear h
  go_enter Try.func19, Try.ntmps19
  go_wp2_with (go_at_call 27; refine (wide_no _ _ HW.out).mono ?_; rintro e w' ⟨rfl, rfl⟩)
  go_ret2
  exact ⟨rfl, rfl⟩
set_option maxHeartbeats 400000 in
theorem rget_big (A : Option Addr) (c : Nat) (l : List UInt8) (w : World) (hn : l.length = 8) (hr : Rd w A l) (h : 127 < (l[7]'(by omega)).toNat) :
    Calls Try.prog 19 #[.slice A (8 : Nat) c] w fun e w' => e = .returned (.tuple #[.int .i64 0, .bool false]) ∧ w = w' := by
  obtain ⟨b, off, rfl, hc⟩ := hr 7 (by omega)
  have HR := Lib.hid hr
  have HW := Lib.hid (show Wide ((8 : Nat) : Int) from .inr (.inr rfl))
  have hlt : (127 : Int) < ((l[7]'(by omega)).toNat : Int) := by omega
  clear hr h
  go_enter Try.func19, Try.ntmps19
  go_wp2_with (go_at_call 27; refine (wide_yes _ _ HW.out).mono ?_; rintro e w' ⟨rfl, rfl⟩)
  go_ret2
  exact ⟨rfl, rfl⟩
theorem w64_of (x : Int) (h0 : 0 ≤ x) (h : x ≤ 9223372036854775807) : wrap64 x = x := by
  unfold wrap64
  omega
theorem rget_loop (n : Nat) (l : List UInt8) (hn : l.length = n) (k : Nat) (hk : k + 1 ≤ n) (h : numLE l ≤ 9223372036854775807) :
    wrap64 (wrap64 ((numLE (l.drop (k + 1)) : Int) * 256) + wrap64 ((l[k]'(by omega)).toNat : Int)) = (numLE (l.drop k) : Int) := by
  have h1 := numLE_drop_lt l k (by omega) h
  rw [numLE_drop l k (by omega)] at h1 ⊢
  rw [w64_of ((l[k]'(by omega)).toNat : Int) (by omega) (by omega), w64_of ((numLE (l.drop (k + 1)) : Int) * 256) (by omega) (by omega), w64_of _ (by omega) (by omega)]
  omega
set_option maxHeartbeats 800000 in
theorem rget_yes1 (A : Option Addr) (n c : Nat) (l : List UInt8) (w : World) (HN : Hid (l.length = n)) (HR : Hid (Rd w A l)) (HW : Hid (Wide n)) (hn8 : n ≤ 8) (HL : Hid (numLE l ≤ 9223372036854775807)) (hg' : ((n : Int) == 8) = false) :
    Calls Try.prog 19 #[.slice A n c] w fun e w' => e = .returned (.tuple #[.int .i64 (numLE l : Int), .bool true]) ∧ w = w' := by
  go_enter Try.func19, Try.ntmps19
  go_wp2_with (go_at_call 27; refine (wide_yes _ _ HW.out).mono ?_; rintro e w' ⟨rfl, rfl⟩)
  go_loop [4, 5] (fun a i => ∃ k : Nat, k ≤ n ∧ i = .int .i64 ((k : Int) - 1) ∧ a = .int .i64 (numLE (l.drop k) : Int)) (fun _ i => (intOf i + 1).toNat)
  case atStart => exact ⟨n, by omega, rfl, by rw [List.drop_eq_nil_of_le (by have := HN.out; omega)]; rfl⟩
  case round =>
    obtain ⟨k, hk, rfl, rfl⟩ := hrel
    cases k with
    | zero =>
      have hge : ¬ (0 : Int) ≤ ((0 : Nat) : Int) - 1 := by omega
      go_wp2
      go_ret2
      exact ⟨rfl, rfl⟩
    | succ k =>
      obtain ⟨b, off, hA, hc⟩ := HR.out k (by have := HN.out; omega)
      subst hA
      have hge : (0 : Int) ≤ ((k + 1 : Nat) : Int) - 1 := by omega
      have hidx : (((k + 1 : Nat) : Int) - 1) = (k : Int) := by omega
      have hstep := Lib.hid (rget_loop n l HN.out k (by omega) HL.out)
      rw [hidx]
      clear hidx hge
      have hk0 : k < n := by omega
      go_wp2
      go_round
      case rel => exact ⟨k, by omega, rfl, congrArg (Value.int .i64) hstep.out⟩
      case measure => simp [intOf]
set_option maxHeartbeats 800000 in
theorem rget_yes2 (b off : Nat) (n c : Nat) (x : Int) (l : List UInt8) (w : World) (HN : Hid (l.length = n)) (HR : Hid (Rd w (some ⟨b, off, none⟩) l)) (HW : Hid (Wide n)) (hn8 : n ≤ 8) (h8 : 7 < n) (HL : Hid (numLE l ≤ 9223372036854775807)) (hg' : ((n : Int) == 8) = true)
    (hc7 : w.cell? ⟨b, off + 7, none⟩ = some (.int .u8 x)) (hx : ¬ 127 < x) :
    Calls Try.prog 19 #[.slice (some ⟨b, off, none⟩) n c] w fun e w' => e = .returned (.tuple #[.int .i64 (numLE l : Int), .bool true]) ∧ w = w' := by
  go_enter Try.func19, Try.ntmps19
  go_wp2_with (go_at_call 27; refine (wide_yes _ _ HW.out).mono ?_; rintro e w' ⟨rfl, rfl⟩)
  go_loop [4, 5] (fun a i => ∃ k : Nat, k ≤ n ∧ i = .int .i64 ((k : Int) - 1) ∧ a = .int .i64 (numLE (l.drop k) : Int)) (fun _ i => (intOf i + 1).toNat)
  case atStart => exact ⟨n, by omega, rfl, by rw [List.drop_eq_nil_of_le (by have := HN.out; omega)]; rfl⟩
  case round =>
    obtain ⟨k, hk, rfl, rfl⟩ := hrel
    cases k with
    | zero =>
      have hge : ¬ (0 : Int) ≤ ((0 : Nat) : Int) - 1 := by omega
      go_wp2
      go_ret2
      exact ⟨rfl, rfl⟩
    | succ k =>
      obtain ⟨b, off, hA, hc⟩ := HR.out k (by have := HN.out; omega)
      injection hA with hA
      injection hA with hA1 hA2 _
      subst hA1
      subst hA2
      have hge : (0 : Int) ≤ ((k + 1 : Nat) : Int) - 1 := by omega
      have hidx : (((k + 1 : Nat) : Int) - 1) = (k : Int) := by omega
      have hstep := Lib.hid (rget_loop n l HN.out k (by omega) HL.out)
      rw [hidx]
      clear hidx hge
      have hk0 : k < n := by omega
      go_wp2
      go_round
      case rel => exact ⟨k, by omega, rfl, congrArg (Value.int .i64) hstep.out⟩
      case measure => simp [intOf]
theorem rget_yes (A : Option Addr) (n c : Nat) (l : List UInt8) (w : World) (hn : l.length = n) (hr : Rd w A l) (hw : Wide n) (h : numLE l ≤ 9223372036854775807) (h7 : ∀ h : n = 8, (l[7]'(by omega)).toNat ≤ 127) :
    Calls Try.prog 19 #[.slice A n c] w fun e w' => e = .returned (.tuple #[.int .i64 (numLE l : Int), .bool true]) ∧ w = w' := by
  have hn8 : n ≤ 8 := by rcases hw with h | h | h <;> omega
  by_cases e8 : n = 8
  · obtain ⟨b, off, rfl, hc⟩ := hr 7 (by omega)
    have hx := h7 e8
    exact rget_yes2 b off n c _ l w hn hr hw hn8 (by omega) h (by simp; omega) hc (by omega)
  · exact rget_yes1 A n c l w hn hr hw hn8 h (by simp; omega)
end Go.Proofs.Ytgpggodabalakaa

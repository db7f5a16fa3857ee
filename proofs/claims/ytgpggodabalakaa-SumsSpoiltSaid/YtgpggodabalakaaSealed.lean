/- The walks: Sealed. -/
import Derived.Test.YtgpggodabalakaaSeal
import Derived.Deep.RegionWith
import Derived.WalkSpells
namespace Go.Proofs.Ytgpggodabalakaa
open Go.RowKit
theorem Rd.cut {w : World} {A : Option Addr} {l : List UInt8} (h : Rd w A l) (k c : Nat) (hc : l.length ≤ c) (hk : k ≤ l.length) : Rd w (if c = k then A else A.map (·.add k)) (l.drop k) := by
  split
  · intro j hj
    simp at hj
    omega
  · intro j hj
    have hj' : k + j < l.length := by simp at hj; omega
    obtain ⟨b, off, rfl, hcell⟩ := h (k + j) hj'
    refine ⟨b, off + k, ?_, ?_⟩
    · simp [add_flat]
    · rw [Nat.add_assoc, hcell]
      simp
set_option maxHeartbeats 800000 in
theorem sealed_short (A : Option Addr) (n c : Nat) (w : World) (h : n < 4) :
    Calls Try.prog 22 #[.slice A n c] w fun e w' => e = .returned (.tuple #[.slice none 0 0, .bool false]) ∧ w = w' := by
  have h4 : (n : Int) < 4 := by omega
  go_enter Try.func22, Try.ntmps22
  go_wp2
  go_ret2
  exact ⟨rfl, rfl⟩
set_option maxHeartbeats 800000 in
theorem sealed_not (A : Option Addr) (n c : Nat) (l : List UInt8) (w : World) (hn : l.length = n + 4) (hc : n + 4 ≤ c) (hr : Rd w A l) (hbig : n ≤ 100000) (hq : ((numLE (l.drop n) : Int) != (crcN (l.take n) : Int)) = true) :
    Calls Try.prog 22 #[.slice A (n + 4) c] w fun e w' => e = .returned (.tuple #[.slice none 0 0, .bool false]) ∧ Below w.heap.size w w' := by
  have h4 : ¬ (((n + 4 : Nat) : Int) < 4) := by omega
  have hsub : (((n + 4 : Nat) : Int) - 4) = (n : Int) := by omega
  have hcn : ¬ c = n := by omega
  have hD := hr.cut n c (by omega) (by omega)
  rw [if_neg hcn] at hD
  have HD := Lib.hid hD
  have HT := Lib.hid (hr.take n)
  have HDL := Lib.hid (show (l.drop n).length = 4 by simp; omega)
  have HTL := Lib.hid (show (l.take n).length = n by simp; omega)
  have hcv := wrap_u64_lt (crcN (l.take n)) (by have := crcN_lt (l.take n); omega)
  have hi1 : (0 : Int) ≤ (n : Int) := by omega
  have hi2 : (n : Int) ≤ ((n + 4 : Nat) : Int) := by omega
  have hi3 : ((n + 4 : Nat) : Int) ≤ (c : Int) := by omega
  have hi4 : (n : Int) ≤ (c : Int) := by omega
  clear hr hn hD
  go_enter Try.func22, Try.ntmps22
  go_wp2_with fail
  go_region_with (first
    | (go_at_call 28; refine (numberOf_any _ 4 _ (l.drop n) _ HDL.out (by omega) HD.out.drew).mono ?_; rintro e w' ⟨rfl, rfl⟩)
    | (go_at_call 12; refine (crc_any _ _ _ (l.take n) _ HTL.out HT.out.drew (by omega)).mono ?_; rintro e w1 ⟨rfl, hb1⟩))
  all_goals go_wp2
  all_goals go_ret2
  all_goals exact ⟨rfl, (Below.refl _ w).drew.trans hb1⟩
set_option maxHeartbeats 800000 in
theorem sealed_yes (A : Option Addr) (n c : Nat) (l : List UInt8) (w : World) (hn : l.length = n + 4) (hc : n + 4 ≤ c) (hr : Rd w A l) (hbig : n ≤ 100000) (hq : ((numLE (l.drop n) : Int) != (crcN (l.take n) : Int)) = false) :
    Calls Try.prog 22 #[.slice A (n + 4) c] w fun e w' => ∃ v, e = .returned (.tuple #[v, .bool true]) ∧ w'.ownsRow w.heap.size 5 1 v n (bv (l.take n)) ∧ Below w.heap.size w w' := by
  have h4 : ¬ (((n + 4 : Nat) : Int) < 4) := by omega
  have hsub : (((n + 4 : Nat) : Int) - 4) = (n : Int) := by omega
  have hcn : ¬ c = n := by omega
  have hD := hr.cut n c (by omega) (by omega)
  rw [if_neg hcn] at hD
  have HD := Lib.hid hD
  have HT := Lib.hid (hr.take n)
  have HDL := Lib.hid (show (l.drop n).length = 4 by simp; omega)
  have HTL := Lib.hid (show (l.take n).length = n by simp; omega)
  have hcv := wrap_u64_lt (crcN (l.take n)) (by have := crcN_lt (l.take n); omega)
  have hi1 : (0 : Int) ≤ (n : Int) := by omega
  have hi2 : (n : Int) ≤ ((n + 4 : Nat) : Int) := by omega
  have hi3 : ((n + 4 : Nat) : Int) ≤ (c : Int) := by omega
  have hi4 : (n : Int) ≤ (c : Int) := by omega
  clear hr hn hD
  go_enter Try.func22, Try.ntmps22
  go_wp2_with fail
  go_region_with (first
    | (go_at_call 28; refine (numberOf_any _ 4 _ (l.drop n) _ HDL.out (by omega) HD.out.drew).mono ?_; rintro e w' ⟨rfl, rfl⟩)
    | (go_at_call 12; refine (crc_any _ _ _ (l.take n) _ HTL.out HT.out.drew (by omega)).mono ?_; rintro e w1 ⟨rfl, hb1⟩))
  all_goals
    have hbel := (Below.refl w.heap.size w).drew.trans hb1
    have hds := Lib.hid (rds_one w1 A n c (l.take n) 22 HTL.out (HT.out.below hbel))
    have hfl := Lib.hid (show flat [l.take n] = l.take n by simp [flat])
    have hsz := hbel.size
    go_wp2_with (go_at_call 29; refine (joined_any _ 1 _ [l.take n] _ rfl hds.out (by rw [hfl.out, HTL.out]; omega) (by omega)).mono ?_; rintro e w3 ⟨v3, rfl, hown3, hb3⟩)
    rw [hfl.out, HTL.out] at hown3
    go_ret2
    exact ⟨_, rfl, own_base hown3 (by simp; omega), (hbel.alloc hsz _).trans (hb3.mono (by simp; omega))⟩
end Go.Proofs.Ytgpggodabalakaa

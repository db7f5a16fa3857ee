/- The walk: sums.Get. -/
import Derived.Test.YtgpggodabalakaaPutW
namespace Go.Proofs.Ytgpggodabalakaa
open Go.RowKit
theorem gt_dec (a b : Nat) (h : b < a) : ((b : Int) < (a : Int)) := by omega
theorem greatestN_len {n : Nat} {g : Int} (h : greatestN n = some g) : n ≤ 8 ∧ 0 ≤ g ∧ g ≤ 9223372036854775807 := by
  unfold greatestN at h
  split at h
  · injection h; omega
  · split at h
    · injection h; omega
    · split at h
      · injection h; omega
      · cases h
theorem wrap_i64_of (x : Int) (h0 : 0 ≤ x) (h : x ≤ 9223372036854775807) : IntKind.i64.wrap x = x := by
  simp only [IntKind.wrap, IntKind.bits, IntKind.signed]
  simp
  omega
theorem wrap_u64_of (x : Int) (h0 : 0 ≤ x) (h : x ≤ 9223372036854775807) : IntKind.u64.wrap x = x := by
  simp only [IntKind.wrap, IntKind.bits, IntKind.signed]
  simp
  omega
set_option maxHeartbeats 400000 in
theorem get_none (A : Option Addr) (n c : Nat) (w : World) (h : greatestN n = none) :
    Calls Try.prog 18 #[.slice A n c] w fun e w' => e = .returned (.tuple #[.int .i64 0, .int .i64 2]) ∧ Below w.heap.size w w' := by
  have hl := gLook (w.alloc (.map gEs 3)) w.heap.size n (heap_alloc_new w _)
  have hbel := (Below.refl w.heap.size w).alloc (Nat.le_refl _) (.map gEs 3)
  rw [h] at hl
  clear h
  simp only [Option.getD_none, Option.isSome_none] at hl
  go_enter Try.func18, Try.ntmps18
  go_wp2_with (go_at_call 25; refine (greatest_any _).mono ?_; rintro e w' ⟨rfl, rfl⟩)
  go_ret2
  exact ⟨rfl, hbel⟩
set_option maxHeartbeats 400000 in
theorem get_some (A : Option Addr) (n c : Nat) (l : List UInt8) (g : Int) (w : World) (hn : l.length = n) (hr : Rd w A l) (h : greatestN n = some g) :
    Calls Try.prog 18 #[.slice A n c] w fun e w' => e = .returned (if (numLE l : Int) ≤ g then .tuple #[.int .i64 (numLE l : Int), .int .i64 0] else .tuple #[.int .i64 0, .int .i64 2]) ∧ Below w.heap.size w w' := by
  have hl := gLook (w.alloc (.map gEs 3)) w.heap.size n (heap_alloc_new w _)
  have hbel := (Below.refl w.heap.size w).alloc (Nat.le_refl _) (.map gEs 3)
  have hr2 := hr.alloc (.map gEs 3)
  obtain ⟨h8, hg0, hg1⟩ := greatestN_len h
  have hcv := wrap_u64_of g hg0 hg1
  have HN := Lib.hid hn
  have HR := Lib.hid hr2
  rw [h] at hl
  simp only [Option.getD_some, Option.isSome_some] at hl
  by_cases hle : (numLE l : Int) ≤ g
  · have hlt : ¬ g < (numLE l : Int) := by omega
    have hcw := wrap_i64_of (numLE l) (by omega) (by omega)
    rw [if_pos hle]
    clear h hg0 hg1 hn hr hr2 hle
    go_enter Try.func18, Try.ntmps18
    go_wp2_with (first | (go_at_call 25; refine (greatest_any _).mono ?_; rintro e w' ⟨rfl, rfl⟩) | (go_at_call 28; refine (numberOf_any _ _ _ _ _ HN.out h8 HR.out).mono ?_; rintro e w' ⟨rfl, rfl⟩))
    go_ret2
    exact ⟨rfl, hbel⟩
  · have hlt : g < (numLE l : Int) := by omega
    rw [if_neg hle]
    clear h hg0 hg1 hn hr hr2 hle
    go_enter Try.func18, Try.ntmps18
    go_wp2_with (first | (go_at_call 25; refine (greatest_any _).mono ?_; rintro e w' ⟨rfl, rfl⟩) | (go_at_call 28; refine (numberOf_any _ _ _ _ _ HN.out h8 HR.out).mono ?_; rintro e w' ⟨rfl, rfl⟩))
    go_ret2
    exact ⟨rfl, hbel⟩
end Go.Proofs.Ytgpggodabalakaa

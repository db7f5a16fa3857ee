/- The walks: sums.Put, sums.Get. -/
import Derived.Test.YtgpggodabalakaaMap
namespace Go.Proofs.Ytgpggodabalakaa
open Go.RowKit
theorem greatestN_some {b : Int} {g : Int} (h : greatestN b = some g) : ∃ k : Nat, b = (k : Int) ∧ k ≤ 8 ∧ g < 256 ^ k ∧ 0 ≤ g := by
  unfold greatestN at h
  split at h
  · injection h with h; exact ⟨2, by omega, by omega, by omega, by omega⟩
  · split at h
    · injection h with h; exact ⟨4, by omega, by omega, by omega, by omega⟩
    · split at h
      · injection h with h; exact ⟨8, by omega, by omega, by omega, by omega⟩
      · cases h
set_option maxHeartbeats 400000 in
theorem put_no (n b : Int) (w : World) (h : greatestN b = none ∨ n < 0 ∨ (∃ g, greatestN b = some g ∧ g < n)) :
    Calls Try.prog 15 #[.int .i64 n, .int .i64 b] w fun e w' => e = .returned (.tuple #[.slice none 0 0, .int .i64 2]) ∧ Below w.heap.size w w' := by
  have hl := gLook (w.alloc (.map gEs 3)) w.heap.size b (heap_alloc_new w _)
  have hbel := (Below.refl w.heap.size w).alloc (Nat.le_refl _) (.map gEs 3)
  cases hg : greatestN b with
  | none =>
    rw [hg] at hl
    clear hg h
    simp only [Option.getD_none, Option.isSome_none] at hl
    go_enter Try.func15, Try.ntmps15
    go_wp2_with (go_at_call 25; refine (greatest_any _).mono ?_; rintro e w' ⟨rfl, rfl⟩)
    go_ret2
    exact ⟨rfl, hbel⟩
  | some g =>
    rw [hg] at hl h
    simp only [reduceCtorEq, Option.some.injEq, exists_eq_left', false_or] at h
    simp only [Option.getD_some, Option.isSome_some] at hl
    clear hg
    by_cases h0 : n < 0
    · clear h
      go_enter Try.func15, Try.ntmps15
      go_wp2_with (go_at_call 25; refine (greatest_any _).mono ?_; rintro e w' ⟨rfl, rfl⟩)
      go_ret2
      exact ⟨rfl, hbel⟩
    · have h1 : g < n := by omega
      clear h
      go_enter Try.func15, Try.ntmps15
      go_wp2_with (go_at_call 25; refine (greatest_any _).mono ?_; rintro e w' ⟨rfl, rfl⟩)
      go_ret2
      exact ⟨rfl, hbel⟩
theorem conv_u64 (N : Nat) (h : (N : Int) ≤ 9223372036854775807) : IntKind.u64.wrap (N : Int) = (N : Int) := wrap_u64_lt N (by omega)
set_option maxHeartbeats 400000 in
theorem put_yes (N k : Nat) (g : Int) (w : World) (hg : greatestN k = some g) (h1 : (N : Int) ≤ g) :
    Calls Try.prog 15 #[.int .i64 (N : Int), .int .i64 (k : Int)] w fun e w' => ∃ v, e = .returned (.tuple #[v, .int .i64 0]) ∧ w'.ownsRow w.heap.size 5 1 v k (bv (bytesLE k N)) ∧ Below w.heap.size w w' := by
  have hl := gLook (w.alloc (.map gEs 3)) w.heap.size k (heap_alloc_new w _)
  have hbel := (Below.refl w.heap.size w).alloc (Nat.le_refl _) (.map gEs 3)
  obtain ⟨k', hk, h8, hgl, _⟩ := greatestN_some hg
  have hk8 : k ≤ 8 := by omega
  have hg63 : g ≤ 9223372036854775807 := by
    unfold greatestN at hg
    split at hg
    · injection hg; omega
    · split at hg
      · injection hg; omega
      · split at hg
        · injection hg; omega
        · cases hg
  have hcv := conv_u64 N (by omega)
  rw [hg] at hl
  simp only [Option.getD_some, Option.isSome_some] at hl
  clear hg hk h8 hgl hg63
  have hn0 : ¬ (N : Int) < 0 := by omega
  have hn1 : ¬ g < (N : Int) := by omega
  have HB := Lib.hid hbel
  clear hbel
  go_enter Try.func15, Try.ntmps15
  go_wp2_with (first | (go_at_call 25; refine (greatest_any _).mono ?_; rintro e w' ⟨rfl, rfl⟩) | (go_at_call 26; refine (bytesOf_any _ _ _ hk8).mono ?_; rintro e w' ⟨v, rfl, hown, hb2⟩))
  go_ret2
  exact ⟨v, rfl, own_base hown (by simp), HB.out.trans (hb2.mono (by simp))⟩
end Go.Proofs.Ytgpggodabalakaa

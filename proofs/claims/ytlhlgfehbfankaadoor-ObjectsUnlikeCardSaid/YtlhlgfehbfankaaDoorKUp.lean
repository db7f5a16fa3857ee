/- keys: upTo of each kind; the definition's names: words. -/
import Derived.Test.YtlhlgfehbfankaaDoorProg
import Derived.Test.YtlhlgfehbfankaaDoorRd
import Derived.Deep.QuietTactic
import Derived.BigQuiet
namespace Go.Proofs.YtlhlgfehbfankaaDoor
open Go.RowKit
theorem upI_yes (n g : Int) (w : World) (h0 : 0 ≤ n) (h1 : n ≤ g) : Calls Tryd.prog 48 #[.int .i64 n, .int .i64 g] w fun e w' => e = .returned (.bool true) ∧ w = w' := by
  go_enter Tryd.func48, Tryd.ntmps48
  go_wp2
  go_ret
  exact ⟨rfl, rfl⟩
theorem upI_no (n g : Int) (w : World) (h : n < 0 ∨ g < n) : Calls Tryd.prog 48 #[.int .i64 n, .int .i64 g] w fun e w' => e = .returned (.bool false) ∧ w = w' := by
  by_cases h0 : 0 ≤ n
  · have h1 : ¬ n ≤ g := by omega
    have d1 : decide (n ≤ g) = false := by simpa using h1
    go_enter Tryd.func48, Tryd.ntmps48
    go_wp2
    go_ret
    exact ⟨rfl, rfl⟩
  · have d1 : decide (0 ≤ n) = false := by simpa using h0
    go_enter Tryd.func48, Tryd.ntmps48
    go_wp2
    go_ret
    exact ⟨rfl, rfl⟩
theorem upJ_yes (n g : Int) (w : World) (h0 : 0 ≤ n) (h1 : n ≤ g) : Calls Tryd.prog 49 #[.int .i64 n, .int .i64 g] w fun e w' => e = .returned (.bool true) ∧ w = w' := by
  go_enter Tryd.func49, Tryd.ntmps49
  go_wp2
  go_ret
  exact ⟨rfl, rfl⟩
theorem upJ_no (n g : Int) (w : World) (h : n < 0 ∨ g < n) : Calls Tryd.prog 49 #[.int .i64 n, .int .i64 g] w fun e w' => e = .returned (.bool false) ∧ w = w' := by
  by_cases h0 : 0 ≤ n
  · have h1 : ¬ n ≤ g := by omega
    have d1 : decide (n ≤ g) = false := by simpa using h1
    go_enter Tryd.func49, Tryd.ntmps49
    go_wp2
    go_ret
    exact ⟨rfl, rfl⟩
  · have d1 : decide (0 ≤ n) = false := by simpa using h0
    go_enter Tryd.func49, Tryd.ntmps49
    go_wp2
    go_ret
    exact ⟨rfl, rfl⟩
theorem upR_yes (n g : Int) (w : World) (h0 : 0 ≤ n) (h1 : n ≤ g) : Calls Tryd.prog 50 #[.int .i64 n, .int .i64 g] w fun e w' => e = .returned (.bool true) ∧ w = w' := by
  go_enter Tryd.func50, Tryd.ntmps50
  go_wp2
  go_ret
  exact ⟨rfl, rfl⟩
theorem upR_no (n g : Int) (w : World) (h : n < 0 ∨ g < n) : Calls Tryd.prog 50 #[.int .i64 n, .int .i64 g] w fun e w' => e = .returned (.bool false) ∧ w = w' := by
  by_cases h0 : 0 ≤ n
  · have h1 : ¬ n ≤ g := by omega
    have d1 : decide (n ≤ g) = false := by simpa using h1
    go_enter Tryd.func50, Tryd.ntmps50
    go_wp2
    go_ret
    exact ⟨rfl, rfl⟩
  · have d1 : decide (0 ≤ n) = false := by simpa using h0
    go_enter Tryd.func50, Tryd.ntmps50
    go_wp2
    go_ret
    exact ⟨rfl, rfl⟩
end Go.Proofs.YtlhlgfehbfankaaDoor

/- law 8: a disk of the law; small. -/
import Derived.Test.YtcfkoglehjkkdaaHWk
namespace Go.Proofs.Ytcfkoglehjkkdaa
open Go.RowKit
attribute [local go_sem] Oper.semAt_some
/-- a disk of the law: its sectors, its two heads, its fails -/
structure Ds where
  s : Int
  A0 : Option Addr
  n0 : Nat
  c0 : Nat
  A1 : Option Addr
  n1 : Nat
  c1 : Nat
  A2 : Option Addr
  n2 : Nat
  c2 : Nat
abbrev Ds.cs (d : Ds) : List Value := [.int .i64 d.s, .slice d.A0 d.n0 d.c0, .slice d.A1 d.n1 d.c1, .slice d.A2 d.n2 d.c2]
abbrev Ds.val (d : Ds) : Value := .agg #[.int .i64 d.s, .slice d.A0 d.n0 d.c0, .slice d.A1 d.n1 d.c1, .slice d.A2 d.n2 d.c2]
abbrev Ds.ok (d : Ds) : Prop := 1 ≤ d.s ∧ d.s ≤ 220 ∧ d.n0 ≤ 512 ∧ d.n1 ≤ 512 ∧ d.n2 ≤ 20
set_option maxRecDepth 8000 in
set_option maxHeartbeats 1600000 in
theorem small_yes (w : World) (d : Ds) (h : d.ok) : Calls Try.prog 7 #[d.val] w fun e w' => e = .returned (.bool true) ∧ Below w.heap.size w w' := by
  obtain ⟨s, A0, n0, c0, A1, n1, c1, A2, n2, c2⟩ := d
  obtain ⟨h1, h2, h3, h4, h5⟩ := h
  simp only at h1 h2 h3 h4 h5
  have k3 : (n0 : Int) ≤ 512 := by omega
  have k4 : (n1 : Int) ≤ 512 := by omega
  have k5 : (n2 : Int) ≤ 20 := by omega
  have L := Lib.hid ((Below.refl w.heap.size w).alloc (Nat.le_refl _) (.cells #[.int .i64 s, .slice A0 n0 c0, .slice A1 n1 c1, .slice A2 n2 c2] 26))
  go_enter Try.func7, Try.ntmps7
  go_wp2
  go_ret
  exact ⟨rfl, L.out⟩
set_option maxRecDepth 8000 in
set_option maxHeartbeats 4000000 in
theorem small_no (w : World) (d : Ds) (h : ¬ d.ok) : Calls Try.prog 7 #[d.val] w fun e w' => e = .returned (.bool false) ∧ Below w.heap.size w w' := by
  obtain ⟨s, A0, n0, c0, A1, n1, c1, A2, n2, c2⟩ := d
  have hc : ¬ 1 ≤ s ∨ (1 ≤ s ∧ ¬ s ≤ 220) ∨ (1 ≤ s ∧ s ≤ 220 ∧ ¬ (n0 : Int) ≤ 512) ∨ (1 ≤ s ∧ s ≤ 220 ∧ (n0 : Int) ≤ 512 ∧ ¬ (n1 : Int) ≤ 512) ∨ (1 ≤ s ∧ s ≤ 220 ∧ (n0 : Int) ≤ 512 ∧ (n1 : Int) ≤ 512 ∧ ¬ (n2 : Int) ≤ 20) := by
    simp only [Ds.ok] at h
    omega
  clear h
  have L := Lib.hid ((Below.refl w.heap.size w).alloc (Nat.le_refl _) (.cells #[.int .i64 s, .slice A0 n0 c0, .slice A1 n1 c1, .slice A2 n2 c2] 26))
  have N3 : ∀ n : Nat, ¬ (n : Int) ≤ 512 → ¬ n ≤ 512 := fun n hn hh => hn (by omega)
  have N5 : ∀ n : Nat, ¬ (n : Int) ≤ 20 → ¬ n ≤ 20 := fun n hn hh => hn (by omega)
  rcases hc with h1 | ⟨h1, h2⟩ | ⟨h1, h2, h3⟩ | ⟨h1, h2, h3, h4⟩ | ⟨h1, h2, h3, h4, h5⟩
  · clear N3 N5
    go_enter Try.func7, Try.ntmps7
    go_wp2
    go_ret
    exact ⟨rfl, L.out⟩
  · clear N3 N5
    go_enter Try.func7, Try.ntmps7
    go_wp2
    go_ret
    exact ⟨rfl, L.out⟩
  · have k3 := N3 _ h3
    clear N3 N5
    go_enter Try.func7, Try.ntmps7
    go_wp2
    go_ret
    exact ⟨rfl, L.out⟩
  · have k4 := N3 _ h4
    clear N3 N5
    go_enter Try.func7, Try.ntmps7
    go_wp2
    go_ret
    exact ⟨rfl, L.out⟩
  · have k5 := N5 _ h5
    clear N3 N5
    go_enter Try.func7, Try.ntmps7
    go_wp2
    go_ret
    exact ⟨rfl, L.out⟩
end Go.Proofs.Ytcfkoglehjkkdaa

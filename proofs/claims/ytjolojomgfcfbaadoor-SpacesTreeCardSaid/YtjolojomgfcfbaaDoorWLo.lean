/- spaces: Load, Store, of any outcome. -/
import Derived.Test.YtjolojomgfcfbaaDoorWLs
namespace Go.Proofs.YtjolojomgfcfbaaDoor
open Go.RowKit
section
variable {w : World} {base q : Nat} {A : Option Addr} {cap : Nat} {ps : List Nat} {os : List Oj}
set_option maxRecDepth 8000 in
theorem ld_st (b off : Nat) (s : ByteArray) (w : World) (h : w.cell? ⟨b, off, none⟩ = some (.string s)) : (loadVar 9 ⟨b, off, none⟩).run Tryd.prog w = .ok (.string s) w := by simp [go_sem, h]
theorem stepW_at {os : List Oj} : ∀ {n : Nat} {s : Ws} {y : Ky} {a : Nat} {kp : Ky} {d : Nat}, runW os n s = .found y a kp d → a < 64 ∧ (∃ x, pgN os x ∧ ∃ r, y = pgK x r)
  | 0, s, y, a, kp, d, h => by cases h
  | n + 1, s, y, a, kp, d, h => by
    rw [run_succ] at h
    cases hs : stepW os s with
    | inr t => rw [hs] at h; exact stepW_at h
    | inl o =>
      rw [hs] at h
      simp only at h
      subst h
      unfold stepW at hs
      split at hs
      · next hp =>
        split at hs
        · cases hs
        · next hl =>
          injection hs with hs
          injection hs with h1 h2 h3 h4
          exact ⟨by omega, s.x, hp, s.r, h1.symm⟩
      · split at hs
        · split at hs
          · cases hs
          · split at hs
            · split at hs
              · cases hs
              · cases hs
            · cases hs
        · cases hs
end
end Go.Proofs.YtjolojomgfcfbaaDoor

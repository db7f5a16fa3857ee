/- objects: the definition's Check. -/
import Derived.Test.YtfclkkbmgclfgaaDoorZO
namespace Go.Proofs.YtfclkkbmgclfgaaDoor
open Go.RowKit
theorem zk_ok : zk.ok := ⟨0, rfl, by decide, by decide, by decide, by decide, by decide, by decide, by decide, by decide, by decide, .inl rfl⟩
theorem zk_may (n : Int) : zk.may n := ⟨zk_ok, fun h => absurd h.2.1 (by decide)⟩
set_option maxRecDepth 8000 in
theorem all_zk {s : List Ky} (hs : s.length = 16) : s = zks ↔ ∀ x ∈ s, x = zk := by
  unfold zks
  rw [List.eq_replicate_iff]
  simp [hs]
set_option maxRecDepth 8000 in
theorem all_zb {b : List UInt8} (hb : b.length = 64) : b = zbs ↔ ∀ x ∈ b, x = 0 := by
  unfold zbs
  rw [List.eq_replicate_iff]
  simp [hb]
/-- what the definition asks of an object first -/
def Oj.bad (n : Int) (o : Oj) : Prop := n < 1 ∨ 64 < n ∨ o.k < 0 ∨ 3 < o.k ∨ o.c < 0 ∨ 4294967295 < o.c ∨ o.l < 0 ∨ 4294967295 < o.l ∨ (o.k ≠ 1 ∧ o.l ≠ 0)
set_option maxRecDepth 8000 in
theorem ok_ref {n : Int} {o : Oj} : o.ok n ↔ ¬ o.bad n ∧ (∀ x ∈ o.s, x.may n ∧ (o.k = 1 ∨ x = zk)) ∧ (o.k = 1 ∨ o.k = 2 ∨ ∀ y ∈ o.b, y = 0) := by
  unfold Oj.ok Oj.bad Oj.has
  rw [all_zk o.hs, all_zb o.hb]
  unfold mayS
  constructor
  · rintro ⟨hm, hc, hl, h⟩
    rcases h with ⟨hk, h⟩ | ⟨hk, h1, h2⟩ | ⟨hk, h0, h1, h2⟩
    · exact ⟨by omega, fun x hx => ⟨h x hx, .inl hk⟩, .inl hk⟩
    · exact ⟨by omega, fun x hx => ⟨by rw [h2 x hx]; exact zk_may n, .inr (h2 x hx)⟩, .inr (.inl hk)⟩
    · exact ⟨by omega, fun x hx => ⟨by rw [h2 x hx]; exact zk_may n, .inr (h2 x hx)⟩, .inr (.inr h0)⟩
  · rintro ⟨hb, hs, hy⟩
    refine ⟨by omega, by omega, by omega, ?_⟩
    by_cases h1 : o.k = 1
    · exact .inl ⟨h1, fun x hx => (hs x hx).1⟩
    · have hz : ∀ x ∈ o.s, x = zk := fun x hx => (hs x hx).2.resolve_left h1
      have hl0 : o.l = 0 := Decidable.byContradiction fun hl => hb (.inr (.inr (.inr (.inr (.inr (.inr (.inr (.inr ⟨h1, hl⟩))))))))
      by_cases h2 : o.k = 2
      · exact .inr (.inl ⟨h2, hl0, hz⟩)
      · exact .inr (.inr ⟨by have h3 : ¬ o.k < 0 := fun h => hb (.inr (.inr (.inl h))); have h4 : ¬ 3 < o.k := fun h => hb (.inr (.inr (.inr (.inl h)))); omega, (hy.resolve_left h1).resolve_left h2, hl0, hz⟩)
set_option maxRecDepth 8000 in
theorem take_snoc_all {α : Type} {p : α → Prop} {s : List α} {k : Nat} (hk : k < s.length) (h : ∀ x ∈ s.take k, p x) (hx : p s[k]) : ∀ x ∈ s.take (k + 1), p x := by
  rw [List.take_succ_eq_append_getElem hk]
  intro y hy
  rcases List.mem_append.1 hy with h' | h'
  · exact h y h'
  · obtain rfl : y = s[k] := by simpa using h'
    exact hx
theorem take_snoc_x {α : Type} {p : α → Prop} {s : List α} {k : Nat} {x : α} (hk : k < s.length) (e : s[k] = x) (h : ∀ x ∈ s.take k, p x) (hx : p x) : ∀ x ∈ s.take (k + 1), p x := take_snoc_all hk h (e ▸ hx)
theorem slot_x {n : Int} {o : Oj} {k : Nat} {x : Ky} (h : o.ok n) (hk : k < o.s.length) (e : o.s[k] = x) : x.may n ∧ (o.k = 1 ∨ x = zk) := e ▸ (ok_ref.1 h).2.1 _ (List.getElem_mem hk)
set_option maxRecDepth 8000 in
theorem key_x {w : World} {g : Nat} {o : Oj} {k : Nat} {x : Ky} (h : ObAt w g 0 o) (hk : k < o.s.length) (e : o.s[k] = x) : KeyAt w g (3 + k * 6) x := by
  subst e
  have := key_of_range h.slots k hk
  rwa [Nat.zero_add] at this
set_option maxRecDepth 8000 in
theorem take_all {α : Type} {p : α → Prop} {s : List α} {k : Nat} (hk : s.length ≤ k) (h : ∀ x ∈ s.take k, p x) : ∀ x ∈ s, p x := by
  rwa [List.take_of_length_le hk] at h
end Go.Proofs.YtfclkkbmgclfgaaDoor

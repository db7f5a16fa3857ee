/- codec: Get, the program's and the definition's. -/
import Derived.Test.YtjfpmadnlpcpfaaDoorFr8
namespace Go.Proofs.YtjfpmadnlpcpfaaDoor
open Go.RowKit
set_option maxRecDepth 8000 in
theorem get_both (l : List UInt8) (hl : l.length = 512) (n : Int) : ∃ (v : Oj) (e0 : Int),
    (∀ (W : World), Tab W → Calls Tryd.prog 19 #[sv l, .int .i64 n] W fun e w' => e = .returned (.tuple #[v.val, .int .i64 e0]) ∧ Below W.heap.size W w') ∧
    (∀ (W : World), Calls Tryd.prog 20 #[sv l, .int .i64 n] W fun e w' => e = .returned (.tuple #[v.val, .int .i64 e0]) ∧ Below W.heap.size W w') := by
  by_cases hn : 1 ≤ n ∧ n ≤ 64
  · by_cases hs : sumok l
    · by_cases hg : Gok n l
      · refine ⟨obof (l.take 508), 0, fun W hT => cget_yes l hl n W hT hn hs hg, fun W => (rcget_3 l hl n W hn hs).mono ?_⟩
        rintro e w' ⟨⟨v, e0, rfl, h⟩, hb⟩
        rcases h with ⟨_, rfl, rfl⟩ | ⟨h, _⟩
        · exact ⟨rfl, hb⟩
        · exact absurd hg h
      · refine ⟨oz, 151, fun W hT => cget_no l hl n 151 W hT (.inr (.inr ⟨hn, hs, hg, rfl⟩)), fun W => (rcget_3 l hl n W hn hs).mono ?_⟩
        rintro e w' ⟨⟨v, e0, rfl, h⟩, hb⟩
        rcases h with ⟨h, _⟩ | ⟨_, rfl, rfl⟩
        · exact absurd h hg
        · exact ⟨rfl, hb⟩
    · exact ⟨oz, 150, fun W hT => cget_no l hl n 150 W hT (.inr (.inl ⟨hn, hs, rfl⟩)), fun W => rcget_sum l hl n W hn hs⟩
  · exact ⟨oz, 2, fun W hT => cget_no l hl n 2 W hT (.inl ⟨hn, rfl⟩), fun W => rcget_arg l n W hn⟩
end Go.Proofs.YtjfpmadnlpcpfaaDoor

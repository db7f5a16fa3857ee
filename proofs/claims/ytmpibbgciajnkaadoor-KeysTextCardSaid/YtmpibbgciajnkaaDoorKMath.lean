/- keys: weak, less, within: what follows. -/
import Derived.Test.YtmpibbgciajnkaaDoorKAny
namespace Go.Proofs.YtmpibbgciajnkaaDoor
open Go.RowKit
theorem rm_cases (k : Int) : rm k = 0 ∨ rm k = 1 ∨ rm k = 7 := by
  unfold rm kRts
  split
  · exact .inr (.inr rfl)
  · split
    · exact .inr (.inl rfl)
    · exact .inl rfl
theorem ls_le : ∀ m, m = 0 ∨ m = 1 ∨ m = 7 → ∀ r, r ≤ m → ∀ q, lsN r q m ≤ m := by
  intro m hm r hr q
  rcases hm with rfl | rfl | rfl
  · have : r = 0 := by omega
    subst this
    simp [lsN]
  · have h : r ||| (q &&& 1) < 2 ^ 1 := Nat.or_lt_two_pow (by omega) (Nat.and_lt_two_pow _ (by decide))
    unfold lsN
    omega
  · have h : r ||| (q &&& 7) < 2 ^ 3 := Nat.or_lt_two_pow (by omega) (Nat.and_lt_two_pow _ (by decide))
    unfold lsN
    omega
theorem ls_idem : ∀ m, m < 8 → ∀ r, r < 8 → ∀ q, q < 8 → lsN (lsN r q m) q m = lsN r q m := by decide
theorem ls_in : ∀ m, m < 8 → ∀ r, r < 8 → ∀ q, q < 8 → lsN r q m = lsN r (lsN r q m) m := by decide
theorem ls_anti : ∀ m, m < 8 → ∀ r, r < 8 → ∀ q, q < 8 → r = lsN q r m → q = lsN r q m → r = q := by decide
theorem bit_ls (r q m i : Nat) : (lsN r q m).testBit i = (r.testBit i || (q.testBit i && m.testBit i)) := by simp [lsN]
theorem ls_trans0 (m a b c : Nat) (h : a = lsN b a m) (h' : b = lsN c b m) : a = lsN c a m := by
  apply Nat.eq_of_testBit_eq
  intro i
  have e := congrArg (fun n => n.testBit i) h
  have e' := congrArg (fun n => n.testBit i) h'
  simp only [bit_ls] at e e' ⊢
  revert e e'
  cases a.testBit i <;> cases b.testBit i <;> cases c.testBit i <;> cases m.testBit i <;> decide
theorem ls_mono0 (m a b q : Nat) (h : a = lsN b a m) : lsN a q m = lsN (lsN b q m) (lsN a q m) m := by
  apply Nat.eq_of_testBit_eq
  intro i
  have e := congrArg (fun n => n.testBit i) h
  simp only [bit_ls] at e ⊢
  revert e
  cases a.testBit i <;> cases b.testBit i <;> cases q.testBit i <;> cases m.testBit i <;> decide
theorem ok_mk {k o c l v : Int} {n : Nat} (h : OkK k o c l n v) (q : Nat) : OkK k o c l (lsN n q (rm k) : Nat) v := by
  obtain ⟨m, rfl, h0, h1, h2, h3, h4, h5, h6, h7, h8, h9⟩ := h
  rw [rm_eq] at h8
  exact ⟨m, rfl, h0, h1, h2, h3, h4, h5, h6, by omega, by rw [rm_eq]; have := ls_le _ (rm_cases m) n (by omega) q; omega, h9⟩
theorem less_ok {x : Ky} (h : x.ok) (q : Nat) : (x.less q).ok := by
  obtain ⟨k, o, c, l, r, v⟩ := x
  obtain ⟨_, n, hn, _, _⟩ := ok_of h
  simp only at hn
  subst hn
  rw [less_mk]
  exact ok_mk h q
theorem zero_ok : (⟨0, 0, 0, 0, 0, 0⟩ : Ky).ok := ⟨0, rfl, by decide, by decide, by decide, by decide, by decide, by decide, by decide, by decide, by decide, .inl rfl⟩
theorem weak_is {x : Ky} : x.weak = x ∨ x.weak = x.less 3 ∨ x.weak = ⟨0, 0, 0, 0, 0, 0⟩ := by
  unfold Ky.weak
  split
  · exact .inl rfl
  · split
    · exact .inr (.inl rfl)
    · exact .inr (.inr rfl)
theorem weak_ok {x : Ky} (h : x.ok) : x.weak.ok := by
  rcases weak_is (x := x) with e | e | e
  · rw [e]; exact h
  · rw [e]; exact less_ok h 3
  · rw [e]; exact zero_ok
theorem less_less {x : Ky} (h : x.ok) (q : Nat) (hq : q < 8) : (x.less q).less q = x.less q := by
  obtain ⟨k, o, c, l, r, v⟩ := x
  obtain ⟨_, n, hn, _, h8⟩ := ok_of h
  simp only at hn
  subst hn
  rw [less_mk, less_mk, ls_idem _ (rm_lt k) n h8 q hq]
theorem weak_weak {x : Ky} (h : x.ok) : x.weak.weak = x.weak := by
  by_cases h1 : x.k = 0 ∨ x.k = 1 ∨ x.k = 8
  · rw [weak_self h1, weak_self h1]
  · by_cases h2 : x.k = 2 ∨ x.k = 3
    · have e : x.weak = x.less 3 := weak_less h2
      rw [e]
      have e2 : (x.less 3).weak = (x.less 3).less 3 := weak_less (x := x.less 3) h2
      rw [e2, less_less h 3 (by decide)]
    · rw [weak_void (x := x) (by omega)]
      rfl
theorem in_less {x : Ky} (h : x.ok) (q : Nat) (hq : q < 8) : Ky.In (x.less q) x := by
  refine ⟨less_ok h q, h, .inr ?_⟩
  obtain ⟨k, o, c, l, r, v⟩ := x
  obtain ⟨_, n, hn, _, h8⟩ := ok_of h
  simp only at hn
  subst hn
  rw [less_mk, less_mk, Int.toNat_natCast, ← ls_in _ (rm_lt k) n h8 q hq]
theorem in_self {x : Ky} (h : x.ok) : Ky.In x x := by
  refine ⟨h, h, .inr ?_⟩
  obtain ⟨k, o, c, l, r, v⟩ := x
  obtain ⟨_, n, hn, _, h8⟩ := ok_of h
  simp only at hn
  subst hn
  rw [less_mk, Int.toNat_natCast, lsN_self _ (rm_lt k) n h8]
theorem in_weak {x : Ky} (h : x.ok) : Ky.In x.weak x := by
  rcases weak_is (x := x) with e | e | e
  · rw [e]; exact in_self h
  · rw [e]; exact in_less h 3 (by decide)
  · rw [e]; exact ⟨zero_ok, h, .inl rfl⟩
/-- two keys of one kind -/
theorem in_parts {a b : Ky} (h : Ky.In a b) (h0 : a.k ≠ 0) : ∃ (k o c l v : Int) (n n' : Nat), a = ⟨k, o, c, l, n, v⟩ ∧ b = ⟨k, o, c, l, n', v⟩ ∧ n < 8 ∧ n' < 8 ∧ n = lsN n' n (rm k) := by
  obtain ⟨h1, h2, h3⟩ := h
  have h3 := h3.resolve_left h0
  obtain ⟨k, o, c, l, r, v⟩ := a
  obtain ⟨k', o', c', l', r', v'⟩ := b
  obtain ⟨_, n, hn, _, h8⟩ := ok_of h1
  obtain ⟨_, n', hn', _, h8'⟩ := ok_of h2
  simp only at hn hn'
  subst hn hn'
  rw [less_mk] at h3
  simp only [Int.toNat_natCast, Ky.mk.injEq] at h3
  obtain ⟨rfl, rfl, rfl, rfl, e, rfl⟩ := h3
  exact ⟨k, o, c, l, v, n, n', rfl, rfl, h8, h8', by omega⟩
theorem in_mk {k o c l v : Int} {n n' : Nat} (h1 : (⟨k, o, c, l, n, v⟩ : Ky).ok) (h2 : (⟨k, o, c, l, n', v⟩ : Ky).ok) (e : n = lsN n' n (rm k)) : Ky.In ⟨k, o, c, l, n, v⟩ ⟨k, o, c, l, n', v⟩ :=
  ⟨h1, h2, .inr (by rw [less_mk, Int.toNat_natCast, ← e])⟩
theorem void_key {x : Ky} (h : x.ok) (h0 : x.k = 0) : x = ⟨0, 0, 0, 0, 0, 0⟩ := by
  obtain ⟨k, o, c, l, r, v⟩ := x
  simp only at h0
  subst h0
  obtain ⟨rfl, rfl, rfl, rfl, rfl⟩ := void_all h
  rfl
theorem in_anti {a b : Ky} (h : Ky.In a b) (h' : Ky.In b a) : a = b := by
  by_cases h0 : a.k = 0
  · have hb : b.k = 0 := by
      rcases h'.2.2 with e | e
      · exact e
      · rw [e]; exact h0
    rw [void_key h.1 h0, void_key h.2.1 hb]
  · obtain ⟨k, o, c, l, v, n, n', rfl, rfl, h8, h8', e⟩ := in_parts h h0
    obtain ⟨k2, o2, c2, l2, v2, m, m', ea, eb, _, _, e2⟩ := in_parts h' h0
    simp only [Ky.mk.injEq] at ea eb
    have : m = n' := by omega
    have : m' = n := by omega
    subst m m'
    obtain ⟨rfl, _⟩ := ea
    rw [ls_anti _ (rm_lt k) n h8 n' h8' e e2]
theorem in_trans {a b c : Ky} (h : Ky.In a b) (h' : Ky.In b c) : Ky.In a c := by
  by_cases h0 : a.k = 0
  · exact ⟨h.1, h'.2.1, .inl h0⟩
  · obtain ⟨k, o, cc, l, v, n, n', rfl, rfl, h8, h8', e⟩ := in_parts h h0
    obtain ⟨k2, o2, c2, l2, v2, m, m', ea, rfl, _, hm8, e2⟩ := in_parts h' h0
    simp only [Ky.mk.injEq] at ea
    obtain ⟨rfl, rfl, rfl, rfl, en, rfl⟩ := ea
    have : m = n' := by omega
    subst m
    exact in_mk h.1 h'.2.1 (ls_trans0 _ n n' m' e e2)
theorem in_less_mono {a b : Ky} (h : Ky.In a b) (h0 : a.k ≠ 0) (q : Nat) : Ky.In (a.less q) (b.less q) := by
  have h1 := less_ok h.1 q
  have h2 := less_ok h.2.1 q
  obtain ⟨k, o, c, l, v, n, n', rfl, rfl, h8, h8', e⟩ := in_parts h h0
  rw [less_mk] at h1 h2 ⊢
  rw [less_mk]
  exact in_mk h1 h2 (ls_mono0 _ n n' q e)
theorem in_weak_mono {a b : Ky} (h : Ky.In a b) : Ky.In a.weak b.weak := by
  by_cases h0 : a.k = 0
  · rw [weak_self (.inl h0)]
    exact ⟨h.1, weak_ok h.2.1, .inl h0⟩
  · have hk : a.k = b.k := by
      have := h.2.2.resolve_left h0
      rw [this]
      rfl
    by_cases h1 : a.k = 1 ∨ a.k = 8
    · rw [weak_self (.inr h1), weak_self (by omega)]
      exact h
    · by_cases h2 : a.k = 2 ∨ a.k = 3
      · have e1 : a.weak = a.less 3 := weak_less h2
        have e2 : b.weak = b.less 3 := weak_less (by omega)
        rw [e1, e2]
        exact in_less_mono h h0 3
      · have e : a.weak = ⟨0, 0, 0, 0, 0, 0⟩ := weak_void (by omega)
        have ok := weak_ok h.2.1
        rw [e]
        exact ⟨zero_ok, ok, .inl rfl⟩
theorem kchk_yes (x : Ky) (w : World) (hT : Tab w) (h : x.ok) : Calls Tryd.prog 14 #[x.val] w fun e w' => e = .returned (.int .i64 0) ∧ Below w.heap.size w w' := chk_ok _ _ _ _ _ _ w hT h
theorem kchk_no (x : Ky) (w : World) (hT : Tab w) (h : ¬ x.ok) : Calls Tryd.prog 14 #[x.val] w fun e w' => e = .returned (.int .i64 2) ∧ Below w.heap.size w w' := chk_no _ _ _ _ _ _ w hT h
end Go.Proofs.YtmpibbgciajnkaaDoor

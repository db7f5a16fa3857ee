/- keys: what each function answers, for every key, by the program and by the definition alike. -/
import Derived.Test.YtmpibbgciajnkaaDoorKRi0
import Derived.Test.YtmpibbgciajnkaaDoorKRi1
import Derived.Test.YtmpibbgciajnkaaDoorKRi2
import Derived.Test.YtmpibbgciajnkaaDoorKRi3
namespace Go.Proofs.YtmpibbgciajnkaaDoor
open Go.RowKit
structure Ky where
  (k o c l r v : Int)
abbrev Ky.val (x : Ky) : Value := .agg (kc x.k x.o x.c x.l x.r x.v)
def Ky.ok (x : Ky) : Prop := OkK x.k x.o x.c x.l x.r x.v
noncomputable def Ky.okB (x : Ky) : Bool := @decide x.ok (Classical.propDecidable _)
theorem Ky.okB_yes {x : Ky} (h : x.ok) : x.okB = true := by unfold Ky.okB; simpa using h
theorem Ky.okB_no {x : Ky} (h : ¬ x.ok) : x.okB = false := by unfold Ky.okB; simpa using h
/-- weak -/
def Ky.weak (x : Ky) : Ky := if x.k = 0 ∨ x.k = 1 ∨ x.k = 8 then x else if x.k = 2 ∨ x.k = 3 then { x with r := (lsN x.r.toNat 3 (rm x.k) : Nat) } else ⟨0, 0, 0, 0, 0, 0⟩
/-- less by Rights -/
def Ky.less (x : Ky) (q : Nat) : Ky := { x with r := (lsN x.r.toNat q (rm x.k) : Nat) }
theorem ok_of {x : Ky} (h : x.ok) : (0 ≤ x.k ∧ x.k ≤ 10) ∧ ∃ n : Nat, x.r = n ∧ n ≤ rm x.k ∧ n < 8 := ⟨okK_in h, okK_r h⟩
theorem weak_self {x : Ky} (h : x.k = 0 ∨ x.k = 1 ∨ x.k = 8) : x.weak = x := if_pos h
theorem weak_less {x : Ky} (h : x.k = 2 ∨ x.k = 3) : x.weak = { x with r := (lsN x.r.toNat 3 (rm x.k) : Nat) } := by
  unfold Ky.weak
  rw [if_neg (by omega), if_pos h]
theorem weak_void {x : Ky} (h : x.k ≠ 0 ∧ x.k ≠ 1 ∧ x.k ≠ 8 ∧ x.k ≠ 2 ∧ x.k ≠ 3) : x.weak = ⟨0, 0, 0, 0, 0, 0⟩ := by
  unfold Ky.weak
  rw [if_neg (by omega), if_neg (by omega)]
theorem weaken_ok (x : Ky) (w : World) (hT : Tab w) (h : x.ok) :
    Calls Tryd.prog 21 #[x.val] w fun e w' => e = .returned (.tuple #[x.weak.val, .int .i64 0]) ∧ Below w.heap.size w w' := by
  obtain ⟨k, o, c, l, r, v⟩ := x
  by_cases h1 : k = 0 ∨ k = 1 ∨ k = 8
  · rw [weak_self h1]
    exact weaken_self k o c l r v w hT h h1
  · by_cases h2 : k = 2 ∨ k = 3
    · rw [weak_less h2]
      obtain ⟨_, n, hn, _, h8⟩ := ok_of h
      simp only at hn
      subst hn
      exact weaken_less k o c l v n w hT h h2 h8
    · rw [weak_void (by simp; omega)]
      exact weaken_void k o c l r v w hT h (by omega)
theorem lsN_or (r q : Nat) (hq : q < 8) : lsN r q 7 = r ||| q := by
  have : ∀ q, q < 8 → q &&& 7 = q := by decide
  unfold lsN
  rw [this q hq]
theorem lsN_one : ∀ q, q < 8 → ∀ r, r < 8 → lsN r q 1 = r ||| (q % 2) := by decide
theorem lsN_page : ∀ r, r < 2 → lsN r 3 1 = 1 := by decide
theorem lsN_zero (r q : Nat) : lsN r q 0 = r := by simp [lsN]
theorem rm_other {k : Int} (h2 : k ≠ 2) (h3 : k ≠ 3) : rm k = 0 := by
  unfold rm kRts
  rw [if_neg (by omega), if_neg (by omega)]
  rfl
/-- a void key -/
theorem void_all {o c l r v : Int} (h : OkK 0 o c l r v) : o = 0 ∧ c = 0 ∧ l = 0 ∧ r = 0 ∧ v = 0 := by
  obtain ⟨n, h0, _, h1, h2, h3, h4, h5, h6, h7, h8, h9⟩ := h
  obtain rfl : n = 0 := by omega
  simp [kOid, kCnt, kCall, kRts, kVal] at h2 h4 h6 h8 h9
  omega
theorem rweaken_ok (x : Ky) (w : World) (h : x.ok) :
    Calls Tryd.prog 23 #[x.val] w fun e w' => e = .returned x.weak.val ∧ Below w.heap.size w w' := by
  obtain ⟨k, o, c, l, r, v⟩ := x
  obtain ⟨_, n, hn, hm, h8⟩ := ok_of h
  simp only at hn hm
  subst hn
  by_cases h2 : k = 2
  · subst h2
    rw [weak_less (.inl rfl)]
    have := rwk_2 o c l v n w h8
    rw [← lsN_or n 3 (by decide)] at this
    exact this
  · by_cases h3 : k = 3
    · subst h3
      rw [weak_less (.inr rfl)]
      have e : lsN n 3 1 = 1 := lsN_page n (by have : rm 3 = 1 := rfl; omega)
      have := rwk_3 o c l n v w
      rw [show (1 : Int) = ((lsN n 3 1 : Nat) : Int) by rw [e]; rfl] at this
      exact this
    · by_cases h1 : k = 1
      · subst h1
        rw [weak_self (.inr (.inl rfl))]
        exact rwk_1 o c l n v w
      · by_cases h8' : k = 8
        · subst h8'
          rw [weak_self (.inr (.inr rfl))]
          exact rwk_8 o c l n v w
        · by_cases h0 : k = 0
          · subst h0
            rw [weak_self (.inl rfl)]
            obtain ⟨rfl, rfl, rfl, e, rfl⟩ := void_all h
            have e' : n = 0 := by have : ((n : Nat) : Int) = 0 := e; omega
            subst e'
            exact rwk_v 0 0 0 0 0 0 w (by omega)
          · rw [weak_void (by simp; omega)]
            exact rwk_v k o c l n v w (by omega)
theorem lesss_any (x : Ky) (q : Nat) (w : World) (hT : Tab w) (h : x.ok) (hq : q < 8) :
    Calls Tryd.prog 22 #[x.val, .int .i64 q] w fun e w' => e = .returned (.tuple #[(x.less q).val, .int .i64 0]) ∧ Below w.heap.size w w' := by
  obtain ⟨k, o, c, l, r, v⟩ := x
  obtain ⟨_, n, hn, _, h8⟩ := ok_of h
  simp only at hn
  subst hn
  exact lesss_ok k o c l v n q w hT h h8 hq
theorem less_mk (k o c l v : Int) (n q : Nat) : (⟨k, o, c, l, (n : Int), v⟩ : Ky).less q = ⟨k, o, c, l, (lsN n q (rm k) : Nat), v⟩ := rfl
theorem rless_any (x : Ky) (q : Nat) (w : World) (h : x.ok) (hq : q < 8) :
    Calls Tryd.prog 24 #[x.val, .int .i64 q] w fun e w' => e = .returned (x.less q).val ∧ Below w.heap.size w w' := by
  obtain ⟨k, o, c, l, r, v⟩ := x
  obtain ⟨_, n, hn, hm, h8⟩ := ok_of h
  simp only at hn hm
  subst hn
  by_cases h2 : k = 2
  · subst h2
    have := rls_2 o c l v n q w h8 hq
    rw [← lsN_or n q hq] at this
    exact this
  · by_cases h3 : k = 3
    · subst h3
      have := rls_3 o c l v n q w h8 hq
      rw [← lsN_one q hq n h8] at this
      exact this
    · refine (rls_o k o c l n v q w ⟨h2, h3⟩).mono fun e w' ⟨he, hb⟩ => ⟨?_, hb⟩
      rw [he, less_mk, rm_other h2 h3, lsN_zero]
/-- is a key within another one -/
def Ky.In (a b : Ky) : Prop := a.ok ∧ b.ok ∧ (a.k = 0 ∨ a = b.less a.r.toNat)
noncomputable def Ky.inB (a b : Ky) : Bool := @decide (Ky.In a b) (Classical.propDecidable _)
theorem Ky.inB_yes {a b : Ky} (h : Ky.In a b) : Ky.inB a b = true := by unfold Ky.inB; simpa using h
theorem Ky.inB_no {a b : Ky} (h : ¬ Ky.In a b) : Ky.inB a b = false := by unfold Ky.inB; simpa using h
theorem within_any (a b : Ky) (w : World) (hT : Tab w) :
    Calls Tryd.prog 25 #[a.val, b.val] w fun e w' => e = .returned (.bool (Ky.inB a b)) ∧ Below w.heap.size w w' := by
  by_cases h : a.ok ∧ b.ok
  · obtain ⟨h1, h2⟩ := h
    by_cases h0 : a.k = 0
    · rw [Ky.inB_yes ⟨h1, h2, .inl h0⟩]
      obtain ⟨k, o, c, l, r, v⟩ := a
      simp only at h0
      subst h0
      exact within_void o c l r v _ _ _ _ _ _ w hT h1 h2
    · have e : Ky.inB a b = sameK a.k a.o a.c a.l a.r a.v b.k b.o b.c b.l (lsN b.r.toNat a.r.toNat (rm b.k) : Nat) b.v := by
        rw [Bool.eq_iff_iff]
        unfold sameK Ky.inB
        simp only [decide_eq_true_eq]
        constructor
        · rintro ⟨_, _, h | h⟩
          · exact absurd h h0
          · exact ⟨by have := congrArg Ky.k h; exact this, by have := congrArg Ky.o h; exact this, by have := congrArg Ky.c h; exact this, by have := congrArg Ky.l h; exact this, by have := congrArg Ky.r h; exact this, by have := congrArg Ky.v h; exact this⟩
        · rintro ⟨e0, e1, e2, e3, e4, e5⟩
          refine ⟨h1, h2, .inr ?_⟩
          obtain ⟨k, o, c, l, r, v⟩ := a
          simp only at e0 e1 e2 e3 e4 e5
          unfold Ky.less
          rw [e0, e1, e2, e3, e5]
          simp only [Ky.mk.injEq, true_and, and_true]
          exact e4
      rw [e]
      obtain ⟨k, o, c, l, r, v⟩ := a
      obtain ⟨k', o', c', l', r', v'⟩ := b
      obtain ⟨_, n, hn, _, h8⟩ := ok_of h1
      obtain ⟨_, n', hn', _, h8'⟩ := ok_of h2
      simp only at hn hn'
      subst hn hn'
      exact within_eq k o c l v k' o' c' l' v' n n' w hT h1 h2 h0 h8 h8'
  · rw [Ky.inB_no (fun x => h ⟨x.1, x.2.1⟩)]
    exact within_no _ _ _ _ _ _ _ _ _ _ _ _ w hT (by by_cases h1 : a.ok; exact .inr (fun h2 => h ⟨h1, h2⟩); exact .inl h1)
end Go.Proofs.YtmpibbgciajnkaaDoor

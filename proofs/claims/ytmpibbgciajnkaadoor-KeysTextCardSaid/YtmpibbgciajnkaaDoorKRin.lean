/- the definition's Within, for every two keys. -/
import Derived.Test.YtmpibbgciajnkaaDoorKSpec
namespace Go.Proofs.YtmpibbgciajnkaaDoor
open Go.RowKit
theorem lsN_self : ∀ m, m < 8 → ∀ r, r < 8 → lsN r r m = r := by decide
theorem lsN_one' : ∀ r, r < 2 → ∀ q, q < 2 → lsN r q 1 = r ||| q := by decide
theorem In_iff {a b : Ky} (h1 : a.ok) (h2 : b.ok) (h0 : a.k ≠ 0) : Ky.In a b ↔ a = b.less a.r.toNat := ⟨fun h => h.2.2.resolve_left h0, fun h => ⟨h1, h2, .inr h⟩⟩
/-- a node's key, a page's key: what it does not name -/
theorem lv_of {k o c l r v : Int} (h : OkK k o c l r v) (hk : k = 2 ∨ k = 3) : l = 0 ∧ v = 0 := by
  obtain ⟨n, rfl, _, _, _, _, _, h5, h6, _, _, h9⟩ := h
  have : n = 2 ∨ n = 3 := by omega
  rcases this with rfl | rfl <;> simp [kCall, kVal] at h6 h9 <;> omega
theorem rwithin_any (a b : Ky) (w : World) :
    Calls Tryd.prog 26 #[a.val, b.val] w fun e w' => e = .returned (.bool (Ky.inB a b)) ∧ Below w.heap.size w w' := by
  by_cases h : a.ok ∧ b.ok
  · obtain ⟨h1, h2⟩ := h
    by_cases h0 : a.k = 0
    · rw [Ky.inB_yes ⟨h1, h2, .inl h0⟩]
      obtain ⟨k, o, c, l, r, v⟩ := a
      simp only at h0
      subst h0
      exact rwi_void o c l r v _ _ _ _ _ _ w h1 h2
    · have hI := In_iff h1 h2 h0
      have bI : ∀ t : Bool, (a = b.less a.r.toNat ↔ t = true) → Ky.inB a b = t := by
        intro t ht
        cases t with
        | false => exact Ky.inB_no (fun h => by simpa using ht.1 (hI.1 h))
        | true => exact Ky.inB_yes (hI.2 (ht.2 rfl))
      clear hI
      obtain ⟨k, o, c, l, r, v⟩ := a
      obtain ⟨k', o', c', l', r', v'⟩ := b
      obtain ⟨_, n, hn, hm, h8⟩ := ok_of h1
      obtain ⟨_, n', hn', hm', h8'⟩ := ok_of h2
      simp only at hn hn' h0 hm hm' bI
      subst hn hn'
      rw [less_mk] at bI
      simp only [Int.toNat_natCast, Ky.mk.injEq] at bI
      by_cases h23 : k = 2 ∨ k = 3
      · by_cases hk : k = k'
        · subst hk
          by_cases ho : o = o'
          · subst ho
            by_cases hc : c = c'
            · subst hc
              obtain ⟨rfl, rfl⟩ := lv_of h1 h23
              obtain ⟨rfl, rfl⟩ := lv_of h2 h23
              by_cases hr : n = n'
              · subst hr
                rw [bI true (by simp [lsN_self _ (rm_lt k) n h8])]
                exact rwi_same _ _ _ _ _ _ w h1 h2 h0
              · have e : lsN n' n (rm k) = n ||| n' := by
                  rcases h23 with rfl | rfl
                  · rw [show rm 2 = 7 from rfl, lsN_or n' n h8, Nat.or_comm]
                  · have h7 : rm 3 = 1 := rfl
                    rw [h7, lsN_one' n' (by omega) n (by omega), Nat.or_comm]
                rw [e] at bI
                rw [bI (((n ||| n' : Nat) : Int) == (n : Int)) (by simp; omega)]
                rcases h23 with rfl | rfl
                · exact rwi_2r o c 0 0 n n' w h1 h2 h8 h8' hr
                · exact rwi_3r o c 0 0 n n' w h1 h2 h8 h8' hr
            · rw [bI false (by simp; intros; omega)]
              rcases h23 with rfl | rfl
              · exact rwi_2c o c l n v c' l' n' v' w h1 h2 hc
              · exact rwi_3c o c l n v c' l' n' v' w h1 h2 hc
          · rw [bI false (by simp; intros; omega)]
            rcases h23 with rfl | rfl
            · exact rwi_2o o c l n v o' c' l' n' v' w h1 h2 ho
            · exact rwi_3o o c l n v o' c' l' n' v' w h1 h2 ho
        · rw [bI false (by simp; intros; omega)]
          rcases h23 with rfl | rfl
          · exact rwi_2k o c l n v k' o' c' l' n' v' w h1 h2 hk
          · exact rwi_3k o c l n v k' o' c' l' n' v' w h1 h2 hk
      · have hz : k = k' → lsN n' n (rm k') = n' := fun e => by rw [rm_other (by omega) (by omega), lsN_zero]
        by_cases hk : k = k'
        · subst hk
          have hz := hz rfl
          rw [hz] at bI
          by_cases h_o : o = o'
          · subst h_o
            by_cases h_c : c = c'
            · subst h_c
              by_cases h_l : l = l'
              · subst h_l
                by_cases h_n : n = n'
                · subst h_n
                  by_cases h_v : v = v'
                  · subst h_v
                    rw [bI true (by simp)]
                    exact rwi_same _ _ _ _ _ _ w h1 h2 h0
                  · rw [bI false (by simp; intros; omega)]
                    exact rwi_dv k o c l n v v' w h1 h2 h0 (by omega) (by omega) (by omega)
                · rw [bI false (by simp; intros; omega)]
                  exact rwi_dr k o c l n v n' v' w h1 h2 h0 (by omega) (by omega) (by omega)
              · rw [bI false (by simp; intros; omega)]
                exact rwi_dl k o c l n v l' n' v' w h1 h2 h0 (by omega) (by omega) (by omega)
            · rw [bI false (by simp; intros; omega)]
              exact rwi_dc k o c l n v c' l' n' v' w h1 h2 h0 (by omega) (by omega) (by omega)
          · rw [bI false (by simp; intros; omega)]
            exact rwi_do k o c l n v o' c' l' n' v' w h1 h2 h0 (by omega) (by omega) (by omega)
        · rw [bI false (by simp; intros; omega)]
          exact rwi_dk k o c l n v k' o' c' l' n' v' w h1 h2 h0 (by omega) (by omega) (by omega)
  · rw [Ky.inB_no (fun x => h ⟨x.1, x.2.1⟩)]
    exact rwi_no _ _ _ _ _ _ _ _ _ _ _ _ w (by by_cases h1 : a.ok; exact .inr (fun h2 => h ⟨h1, h2⟩); exact .inl h1)
end Go.Proofs.YtmpibbgciajnkaaDoor

/- law 8: what HeadersTurns wants of headers, of the disk that never fails, of bits that are turned. -/
import Derived.Test.YtjfcmoappbfnjaaHG
import Derived.Test.YtjfcmoappbfnjaaP12
import Derived.Test.YtjfcmoappbfnjaaP09
import Derived.Test.YtjfcmoappbfnjaaP19
import Derived.WalkMore
import Derived.ScopeJumps
import Derived.Test.YtjfcmoappbfnjaaP10
import Derived.Test.YtjfcmoappbfnjaaP11
import Derived.Test.YtjfcmoappbfnjaaP20
import Derived.DeepKeys
namespace Go.Proofs.Ytjfcmoappbfnjaa
open List renaming getElem_toArray → zq1, getElem_cons_succ → zq2, getElem_cons_zero → zq3, setIfInBounds_toArray → zq4, set_cons_zero → zq5, set_cons_succ → zq6
/-- so many bytes from a place on -/
abbrev cutB (l : List UInt8) (k n : Nat) : List UInt8 := (l.drop k).take n
def eB (l : List UInt8) : Nat := S.numLE (cutB l 4 8)
def aB (l : List UInt8) : Nat := S.numLE (cutB l 12 2)
def oB (l : List UInt8) : Nat := S.numLE (cutB l 14 2)
/-- is it sealed, marked, with noughts, with the Edition twice? -/
abbrev formB (l : List UInt8) : Prop := S.numLE (l.drop 508) = S.crcN (l.take 508) ∧ cutB l 0 4 = [67, 72, 72, 68] ∧ cutB l 16 484 = List.replicate 484 0 ∧ cutB l 4 8 = cutB l 500 8
abbrev okB (l : List UInt8) : Prop := eB l ≤ 9223372036854775807 ∧ aB l < 2 ∧ 1 ≤ oB l ∧ oB l ≤ 64
def gotB (z : Nat) (l : List UInt8) : Bool := decide (okB l ∧ 20 + 3 * oB l = z ∧ l = hdS (eB l) (aB l) (oB l))
def gotH (z : Nat) (l : List UInt8) : Hd := if gotB z l then ⟨eB l, aB l, oB l⟩ else ⟨0, 0, 0⟩
set_option maxRecDepth 8000 in
theorem cutB_length {l : List UInt8} (hl : l.length = 512) (k n : Nat) (h : k + n ≤ 512) : (cutB l k n).length = n := by
  simp only [cutB, List.length_take, List.length_drop]
  omega
set_option maxRecDepth 8000 in
theorem cutB_take (l : List UInt8) (k n : Nat) (h : k + n ≤ 508) : cutB (l.take 508) k n = cutB l k n := by
  unfold cutB
  rw [List.drop_take, List.take_take, Nat.min_eq_left (by omega)]
set_option maxRecDepth 8000 in
theorem cutB_add (l : List UInt8) (k a b : Nat) : cutB l k (a + b) = cutB l k a ++ cutB l (k + a) b := by
  unfold cutB
  rw [List.take_add, List.drop_drop]
set_option maxRecDepth 8000 in
theorem le_cut {l : List UInt8} (hl : l.length = 512) (k n : Nat) (h : k + n ≤ 512) : S.bytesLE n (S.numLE (cutB l k n)) = cutB l k n := by
  have := S.bytesLE_numLE (cutB l k n)
  rw [cutB_length hl k n h] at this
  exact this
set_option maxRecDepth 8000 in
theorem form_is {l : List UInt8} (hl : l.length = 512) (h : formB l) : l = hdS (eB l) (aB l) (oB l) := by
  obtain ⟨h1, h2, h3, h4⟩ := h
  have hL : l.take 508 = hdL (eB l) (aB l) (oB l) := by
    have e0 : l.take 508 = cutB l 0 508 := by simp [cutB]
    rw [e0, show (508 : Nat) = 4 + (8 + (2 + (2 + (484 + 8)))) from rfl, cutB_add, cutB_add, cutB_add, cutB_add, cutB_add, h2, h3]
    unfold hdL eB aB oB
    rw [le_cut hl 4 8 (by omega), le_cut hl 12 2 (by omega), le_cut hl 14 2 (by omega)]
    simp only [Nat.zero_add, Nat.reduceAdd, List.append_assoc]
    rw [h4]
  unfold hdS
  rw [← hL]
  unfold S.sealN
  rw [← h1]
  have h5 : (l.drop 508).length = 4 := by rw [List.length_drop, hl]
  have h6 := S.bytesLE_numLE (l.drop 508)
  rw [h5] at h6
  rw [h6, List.take_append_drop]
set_option maxRecDepth 8000 in
theorem is_form {l : List UInt8} {e a o : Nat} (h : l = hdS e a o) : formB l := by
  have ht : l.take 508 = hdL e a o := by rw [h]; exact hdS_take e a o
  refine ⟨?_, ?_, ?_, ?_⟩
  · rw [ht, h, hdS_drop, S.numLE_bytesLE 4 _ (by have := S.crcN_lt (hdL e a o); omega)]
  · rw [← cutB_take l 0 4 (by omega), ht]
    have := hd_cut0 e a o
    simpa [cutB] using this
  · rw [← cutB_take l 16 484 (by omega), ht]
    exact hd_cut16 e a o
  · rw [← cutB_take l 4 8 (by omega), ← cutB_take l 500 8 (by omega), ht]
    show ((hdL e a o).drop 4).take 8 = ((hdL e a o).drop 500).take 8
    rw [hd_cut4, hd_cut500]
theorem form_iff {l : List UInt8} (hl : l.length = 512) : l = hdS (eB l) (aB l) (oB l) ↔ formB l := ⟨is_form, form_is hl⟩
set_option maxRecDepth 8000 in
theorem aB_lt (l : List UInt8) (hl : l.length = 512) : aB l < 65536 := by
  have := S.numLE_lt (cutB l 12 2)
  rw [cutB_length hl 12 2 (by omega)] at this
  exact this
set_option maxRecDepth 8000 in
theorem oB_lt (l : List UInt8) (hl : l.length = 512) : oB l < 65536 := by
  have := S.numLE_lt (cutB l 14 2)
  rw [cutB_length hl 14 2 (by omega)] at this
  exact this
set_option maxRecDepth 8000 in
theorem okB_no {l : List UInt8} (h : okB l) : Hd.no ⟨eB l, aB l, oB l⟩ = 0 := by
  unfold Hd.no
  rw [if_pos (by simp only; omega)]
set_option maxRecDepth 8000 in
theorem okB_not {l : List UInt8} (he : eB l ≤ 9223372036854775807) (h : ¬ okB l) : Hd.no ⟨eB l, aB l, oB l⟩ = 2 := by
  unfold Hd.no
  rw [if_neg (by simp only; omega)]
end Go.Proofs.Ytjfcmoappbfnjaa

namespace Go.Proofs.Ytjfcmoappbfnjaa
open List renaming getElem_toArray → zq1, getElem_cons_succ → zq2, getElem_cons_zero → zq3, setIfInBounds_toArray → zq4, set_cons_zero → zq5, set_cons_succ → zq6
/-- the first k bytes of the new, the rest of the old -/
def tornL (N old : List UInt8) (k : Nat) : List UInt8 := N.take k ++ old.drop k
set_option maxRecDepth 8000 in
theorem tornL_get {N old : List UInt8} (hN : N.length = 512) {k : Nat} (hk : k ≤ 512) (x : Nat) : (tornL N old k)[x]? = if x < k then N[x]? else old[x]? := by
  unfold tornL
  have hl : (N.take k).length = k := by rw [List.length_take, hN]; omega
  by_cases hx : x < k
  · rw [if_pos hx, List.getElem?_append_left (by omega), List.getElem?_take, if_pos hx]
  · rw [if_neg hx, List.getElem?_append_right (by omega), hl, List.getElem?_drop, show k + (x - k) = x by omega]
set_option maxRecDepth 8000 in
theorem cutB_get (l : List UInt8) (i n j : Nat) : (cutB l i n)[j]? = if j < n then l[i + j]? else none := by
  unfold cutB
  rw [List.getElem?_take]
  split
  · rw [List.getElem?_drop]
  · rfl
set_option maxRecDepth 8000 in
theorem torn_lo {N old : List UInt8} (hN : N.length = 512) {k : Nat} (hk : k ≤ 512) (i n : Nat) (h : i + n ≤ k) : cutB (tornL N old k) i n = cutB N i n := by
  apply List.ext_getElem?
  intro j
  rw [cutB_get, cutB_get]
  split
  · rw [tornL_get hN hk, if_pos (by omega)]
  · rfl
set_option maxRecDepth 8000 in
theorem torn_hi {N old : List UInt8} (hN : N.length = 512) {k : Nat} (hk : k ≤ 512) (i n : Nat) (h : k ≤ i) : cutB (tornL N old k) i n = cutB old i n := by
  apply List.ext_getElem?
  intro j
  rw [cutB_get, cutB_get]
  split
  · rw [tornL_get hN hk, if_neg (by omega)]
  · rfl
set_option maxRecDepth 8000 in
theorem hdS_cut (e a o : Nat) : cutB (hdS e a o) 4 8 = S.bytesLE 8 e ∧ cutB (hdS e a o) 12 2 = S.bytesLE 2 a ∧ cutB (hdS e a o) 14 2 = S.bytesLE 2 o ∧ cutB (hdS e a o) 500 8 = S.bytesLE 8 e := by
  refine ⟨?_, ?_, ?_, ?_⟩
  · rw [← cutB_take _ 4 8 (by omega), hdS_take]
    exact hd_cut4 e a o
  · rw [← cutB_take _ 12 2 (by omega), hdS_take]
    exact hd_cut12 e a o
  · rw [← cutB_take _ 14 2 (by omega), hdS_take]
    exact hd_cut14 e a o
  · rw [← cutB_take _ 500 8 (by omega), hdS_take]
    exact hd_cut500 e a o
set_option maxRecDepth 8000 in
theorem zs_cut (i n : Nat) (h : i + n ≤ 512) : cutB zs i n = List.replicate n 0 := by
  unfold cutB zs
  rw [List.drop_replicate, List.take_replicate, Nat.min_eq_left (by omega)]
theorem numLE_zero : ∀ n : Nat, S.numLE (List.replicate n 0) = 0
  | 0 => rfl
  | n + 1 => by
    rw [List.replicate_succ', S.numLE_snoc, numLE_zero n]
    simp
set_option maxRecDepth 8000 in
/-- a torn sector that is a header is the new one, or what lay there -/
theorem torn_is {e a o z : Nat} (he : e ≤ 9223372036854775807) (ha : a < 2) (ho : o ≤ 64) {old : List UInt8} (hold : old = zs ∨ ∃ e' a' o', old = hdS e' a' o' ∧ e' ≤ 9223372036854775807 ∧ a' < 2 ∧ o' ≤ 64 ∧ e' ≠ e) {k : Nat} (hk : k ≤ 512) (hg : gotB z (tornL (hdS e a o) old k) = true) :
    tornL (hdS e a o) old k = hdS e a o ∨ tornL (hdS e a o) old k = old := by
  have hN := hdS_length e a o
  obtain ⟨hok, _, hm⟩ := of_decide_eq_true hg
  obtain ⟨_, _, _, h48⟩ := is_form hm
  obtain ⟨c4, c12, c14, _⟩ := hdS_cut e a o
  have ne : S.numLE (S.bytesLE 8 e) = e := S.numLE_bytesLE 8 e (by omega)
  have na : S.numLE (S.bytesLE 2 a) = a := S.numLE_bytesLE 2 a (by omega)
  have no : S.numLE (S.bytesLE 2 o) = o := S.numLE_bytesLE 2 o (by omega)
  by_cases h16 : 16 ≤ k
  · left
    have q1 : eB (tornL (hdS e a o) old k) = e := by unfold eB; rw [torn_lo hN hk 4 8 (by omega), c4, ne]
    have q2 : aB (tornL (hdS e a o) old k) = a := by unfold aB; rw [torn_lo hN hk 12 2 (by omega), c12, na]
    have q3 : oB (tornL (hdS e a o) old k) = o := by unfold oB; rw [torn_lo hN hk 14 2 (by omega), c14, no]
    rw [q1, q2, q3] at hm
    exact hm
  · rw [torn_hi hN hk 500 8 (by omega)] at h48
    rcases hold with rfl | ⟨e', a', o', rfl, he', ha', ho', hne⟩
    · have hk15 : 14 < k := by
        rcases Nat.lt_or_ge 14 k with h | h
        · exact h
        · exfalso
          have : oB (tornL (hdS e a o) zs k) = 0 := by unfold oB; rw [torn_hi hN hk 14 2 (by omega), zs_cut 14 2 (by omega), numLE_zero]
          have := hok.2.2.1
          omega
      obtain rfl : k = 15 := by omega
      left
      have c14' : cutB (tornL (hdS e a o) zs 15) 14 2 = S.bytesLE 2 o := by
        rw [← c14]
        apply List.ext_getElem?
        intro j
        rw [cutB_get, cutB_get]
        by_cases hj : j < 2
        · rw [if_pos hj, if_pos hj, tornL_get hN hk]
          by_cases hj0 : j = 0
          · subst hj0
            rw [if_pos (by omega)]
          · obtain rfl : j = 1 := by omega
            rw [if_neg (by omega)]
            have h1 : (cutB (hdS e a o) 14 2)[1]? = (hdS e a o)[14 + 1]? := by rw [cutB_get, if_pos (by omega)]
            rw [← h1, c14]
            have h2 : S.bytesLE 2 o = [UInt8.ofNat (o % 256), UInt8.ofNat (o / 256 % 256)] := rfl
            rw [h2, show o / 256 = 0 by omega]
            rfl
        · rw [if_neg hj, if_neg hj]
      have q1 : eB (tornL (hdS e a o) zs 15) = e := by unfold eB; rw [torn_lo hN hk 4 8 (by omega), c4, ne]
      have q2 : aB (tornL (hdS e a o) zs 15) = a := by unfold aB; rw [torn_lo hN hk 12 2 (by omega), c12, na]
      have q3 : oB (tornL (hdS e a o) zs 15) = o := by unfold oB; rw [c14', no]
      rw [q1, q2, q3] at hm
      exact hm
    · obtain ⟨_, d12, d14, d500⟩ := hdS_cut e' a' o'
      have ne' : S.numLE (S.bytesLE 8 e') = e' := S.numLE_bytesLE 8 e' (by omega)
      have na' : S.numLE (S.bytesLE 2 a') = a' := S.numLE_bytesLE 2 a' (by omega)
      have no' : S.numLE (S.bytesLE 2 o') = o' := S.numLE_bytesLE 2 o' (by omega)
      have q1 : eB (tornL (hdS e a o) (hdS e' a' o') k) = e' := by unfold eB; rw [h48, d500, ne']
      by_cases h12 : 12 ≤ k
      · exfalso
        have : eB (tornL (hdS e a o) (hdS e' a' o') k) = e := by unfold eB; rw [torn_lo hN hk 4 8 (by omega), c4, ne]
        omega
      · right
        have q2 : aB (tornL (hdS e a o) (hdS e' a' o') k) = a' := by unfold aB; rw [torn_hi hN hk 12 2 (by omega), d12, na']
        have q3 : oB (tornL (hdS e a o) (hdS e' a' o') k) = o' := by unfold oB; rw [torn_hi hN hk 14 2 (by omega), d14, no']
        rw [q1, q2, q3] at hm
        exact hm
end Go.Proofs.Ytjfcmoappbfnjaa

namespace Go.Proofs.Ytjfcmoappbfnjaa
open List renaming getElem_toArray → zq1, getElem_cons_succ → zq2, getElem_cons_zero → zq3, setIfInBounds_toArray → zq4, set_cons_zero → zq5, set_cons_succ → zq6
theorem okS_hd (e a o : Nat) : S.okB (hdS e a o) = true := S.okB_seal _
set_option maxRecDepth 8000 in
theorem got_okS {z : Nat} {l : List UInt8} (h : gotB z l = true) : S.okB l = true := by
  obtain ⟨_, _, hm⟩ := of_decide_eq_true h
  rw [hm]
  exact okS_hd _ _ _
set_option maxRecDepth 8000 in
/-- the turned bits as a number, from a place on: none, and it is the header; some, and it is none -/
theorem burst8 {e a o z f B : Nat} {l : List UInt8} (hl : l.length = 512) (hn : S.numLE l = S.numLE (hdS e a o) ^^^ (2 ^ f * B)) (hf : f ≤ 4096) (hB : B < 4294967296) : (B = 0 ∧ l = hdS e a o) ∨ (B ≠ 0 ∧ gotB z l = false) := by
  have h0 := hdS_length e a o
  have hb := S.okB_burst (hdS e a o) l f B (by omega) (by omega) (okS_hd e a o) hn (by omega) hB
  by_cases hz : B = 0
  · left
    subst hz
    rw [Nat.mul_zero, Nat.xor_zero] at hn
    refine ⟨rfl, ?_⟩
    rw [← S.bytesLE_numLE l, ← S.bytesLE_numLE (hdS e a o), hl, h0, hn]
  · right
    rw [decide_eq_false hz] at hb
    refine ⟨hz, ?_⟩
    cases hg : gotB z l with
    | false => rfl
    | true => rw [got_okS hg] at hb; cases hb
set_option maxRecDepth 8000 in
/-- a header's own sector has it -/
theorem got_self {e a o z : Nat} (he : e ≤ 9223372036854775807) (ha : a < 2) (ho1 : 1 ≤ o) (ho : o ≤ 64) (hz : 20 + 3 * o = z) : gotB z (hdS e a o) = true ∧ gotH z (hdS e a o) = ⟨e, a, o⟩ := by
  obtain ⟨c4, c12, c14, _⟩ := hdS_cut e a o
  have q1 : eB (hdS e a o) = e := by unfold eB; rw [c4]; exact S.numLE_bytesLE 8 e (by omega)
  have q2 : aB (hdS e a o) = a := by unfold aB; rw [c12]; exact S.numLE_bytesLE 2 a (by omega)
  have q3 : oB (hdS e a o) = o := by unfold oB; rw [c14]; exact S.numLE_bytesLE 2 o (by omega)
  have hg : gotB z (hdS e a o) = true := by
    unfold gotB
    rw [decide_eq_true_iff]
    refine ⟨⟨?_, ?_, ?_, ?_⟩, ?_, ?_⟩
    · rw [q1]; exact he
    · rw [q2]; exact ha
    · rw [q3]; exact ho1
    · rw [q3]; exact ho
    · rw [q3]; exact hz
    · rw [q1, q2, q3]
  refine ⟨hg, ?_⟩
  unfold gotH
  rw [hg, if_pos rfl, q1, q2, q3]
set_option maxRecDepth 8000 in
/-- noughts have none -/
theorem got_zs (z : Nat) : gotB z zs = false := by
  cases hg : gotB z zs with
  | false => rfl
  | true =>
    obtain ⟨hok, _, _⟩ := of_decide_eq_true hg
    have : oB zs = 0 := by unfold oB; rw [zs_cut 14 2 (by omega), numLE_zero]
    have := hok.2.2.1
    omega
set_option maxRecDepth 8000 in
/-- one bit more of a row of bits -/
theorem burst_step8 {l l0 : List UInt8} {f k B q r : Nat} (b : UInt8) (hq : q < l.length) (hqe : q = (f + k) / 8) (hre : r = (f + k) % 8) (hb : b.toNat = 2 ^ r) (hB : B < 2 ^ k) (h : S.numLE l = S.numLE l0 ^^^ (2 ^ f * B)) : S.numLE (l.set q (l[q] ^^^ b)) = S.numLE l0 ^^^ (2 ^ f * (2 ^ k + B)) := by
  rw [S.numLE_set l q _ hq, h, hb, hqe, hre, S.bit_at, Nat.xor_assoc, S.burst_more f k B hB]
end Go.Proofs.Ytjfcmoappbfnjaa

namespace Go.Proofs.Ytjfcmoappbfnjaa
open List renaming getElem_toArray → zq1, getElem_cons_succ → zq2, getElem_cons_zero → zq3, setIfInBounds_toArray → zq4, set_cons_zero → zq5, set_cons_succ → zq6
set_option maxRecDepth 8000 in
theorem laid_nil8 {D : Dk} (kf : Nat → Nat) (h : D.waits = []) : D.laid kf = D.lasts := by
  unfold Dk.laid Dk.nums
  rw [h]
  rfl
set_option maxRecDepth 8000 in
theorem laid_one8 {D : Dk} (kf : Nat → Nat) {n : Nat} {N : List UInt8} (h : D.waits = [(n, N)]) : D.laid kf = upL D.lasts n (tornL N (D.lasts n) (kf 0)) := by
  unfold Dk.laid Dk.nums
  rw [h]
  rfl
set_option maxRecDepth 8000 in
theorem torn_full8 {N old : List UInt8} (hN : N.length = 512) (ho : old.length = 512) : tornL N old 512 = N := by
  unfold tornL
  rw [List.take_of_length_le (by omega), List.drop_eq_nil_of_le (by omega), List.append_nil]
theorem flushed_nil8 {D : Dk} (h : D.waits = []) : D.flushed.lasts = D.lasts := laid_nil8 (fun _ => 512) h
set_option maxRecDepth 8000 in
theorem flushed_one8 {D : Dk} {n : Nat} {N : List UInt8} (h : D.waits = [(n, N)]) (hN : N.length = 512) (ho : (D.lasts n).length = 512) : D.flushed.lasts = upL D.lasts n N := by
  refine (laid_one8 (fun _ => 512) h).trans ?_
  rw [torn_full8 hN ho]
theorem crashed_one8 {D : Dk} {c : Cr} {n : Nat} {N : List UInt8} (h : D.waits = [(n, N)]) : (D.crashed c).lasts = upL D.lasts n (tornL N (D.lasts n) (c.kn 0)) := laid_one8 _ h
/-- what lies in a slot, once it was written and flushed: a header that was taken, else noughts -/
def slotL (ok : Bool) (h : Hd) : List UInt8 := if ok then hdS h.e.toNat h.a.toNat h.o.toNat else zs
set_option maxRecDepth 8000 in
theorem upL_self8 (L : Nat → List UInt8) (n : Nat) (l : List UInt8) : upL L n l n = l := by simp [upL]
set_option maxRecDepth 8000 in
theorem upL_other8 (L : Nat → List UInt8) {n k : Nat} (l : List UInt8) (h : k ≠ n) : upL L n l k = L k := by simp [upL, h]
set_option maxRecDepth 8000 in
/-- what was taken is told as it was given -/
theorem got_hd8 {h : Hd} {z : Nat} (hh : h.ok) (hm : h.e ≤ 9223372036854775807) (hz : 20 + 3 * h.o = (z : Int)) : gotB z (hdS h.e.toNat h.a.toNat h.o.toNat) = true ∧ gotH z (hdS h.e.toNat h.a.toNat h.o.toNat) = h := by
  obtain ⟨h1, h2, h3, h4, h5⟩ := hh
  obtain ⟨g1, g2⟩ := got_self (e := h.e.toNat) (a := h.a.toNat) (o := h.o.toNat) (z := z) (by omega) (by omega) (by omega) (by omega) (by omega)
  refine ⟨g1, g2.trans ?_⟩
  obtain ⟨e, a, o⟩ := h
  simp only [Hd.mk.injEq]
  dsimp only at h1 h2 h3 h4 h5
  refine ⟨?_, ?_, ?_⟩ <;> omega
set_option maxRecDepth 8000 in
/-- what a slot tells behind New, a Write and a Flush -/
theorem got_slot8 {h : Hd} {z : Nat} {ok : Bool} (hok : ok = true ↔ h.ok) (hm : h.e ≤ 9223372036854775807) (hz : 20 + 3 * h.o = (z : Int)) : gotB z (slotL ok h) = ok ∧ (ok = true → gotH z (slotL ok h) = h) := by
  cases ok with
  | false => exact ⟨got_zs z, fun e => by cases e⟩
  | true => exact ⟨(got_hd8 (hok.1 rfl) hm hz).1, fun _ => (got_hd8 (hok.1 rfl) hm hz).2⟩
set_option maxRecDepth 8000 in
/-- what a slot tells behind a crash that tore a write of it -/
theorem got_torn8 {h g : Hd} {z k : Nat} {ok : Bool} (hg : g.ok) (hgm : g.e ≤ 9223372036854775807) (hgz : 20 + 3 * g.o = (z : Int)) (hok : ok = true ↔ h.ok) (hm : h.e ≤ 9223372036854775807) (hz : 20 + 3 * h.o = (z : Int)) (hne : h.e ≠ g.e) (hk : k ≤ 512)
    (ht : gotB z (tornL (hdS g.e.toNat g.a.toNat g.o.toNat) (slotL ok h) k) = true) : gotH z (tornL (hdS g.e.toNat g.a.toNat g.o.toNat) (slotL ok h) k) = g ∨ ok = true ∧ gotH z (tornL (hdS g.e.toNat g.a.toNat g.o.toNat) (slotL ok h) k) = h := by
  obtain ⟨g1, g2, g3, g4, g5⟩ := hg
  have ho : slotL ok h = zs ∨ ∃ e' a' o', slotL ok h = hdS e' a' o' ∧ e' ≤ 9223372036854775807 ∧ a' < 2 ∧ o' ≤ 64 ∧ e' ≠ g.e.toNat := by
    cases ok with
    | false => exact .inl rfl
    | true =>
      obtain ⟨h1, h2, h3, h4, h5⟩ := hok.1 rfl
      exact .inr ⟨h.e.toNat, h.a.toNat, h.o.toNat, rfl, by omega, by omega, by omega, by omega⟩
  rcases torn_is (by omega) (by omega) (by omega) ho hk ht with e | e
  · left
    rw [e]
    exact (got_hd8 ⟨g1, g2, g3, g4, g5⟩ hgm hgz).2
  · right
    rw [e] at ht ⊢
    obtain ⟨q1, q2⟩ := got_slot8 hok hm hz
    exact ⟨q1 ▸ ht, q2 (q1 ▸ ht)⟩
end Go.Proofs.Ytjfcmoappbfnjaa

namespace Go.Proofs.Ytjfcmoappbfnjaa
open List renaming getElem_toArray → zq1, getElem_cons_succ → zq2, getElem_cons_zero → zq3, setIfInBounds_toArray → zq4, set_cons_zero → zq5, set_cons_succ → zq6
/-- is the bit of that round turned? -/
def hitT (f : Int) (b n : Nat) : Bool := decide (0 ≤ f) && (decide (f < 4096) && (decide (f + (n : Int) < 4096) && decide (b / 2 ^ n % 2 = 1)))
/-- the turned bits of the first rounds, as a number -/
def numT (f : Int) (b : Nat) : Nat → Nat
  | 0 => 0
  | n + 1 => if hitT f b n then 2 ^ n + numT f b n else numT f b n
/-- the disk behind the first rounds -/
def dkT (D : Dk) (s : Nat) (f : Int) (b : Nat) : Nat → Dk
  | 0 => D
  | n + 1 => if hitT f b n then (dkT D s f b n).spoilt s ((f.toNat + n) / 8) (UInt8.ofNat (2 ^ ((f.toNat + n) % 8))) else dkT D s f b n
set_option maxRecDepth 8000 in
theorem hitT_yes {f : Int} {b n : Nat} (h : hitT f b n = true) : 0 ≤ f ∧ f < 4096 ∧ f + (n : Int) < 4096 ∧ b / 2 ^ n % 2 = 1 := by
  simpa [hitT] using h
set_option maxRecDepth 8000 in
theorem numT_lt (f : Int) (b : Nat) : ∀ n, numT f b n < 2 ^ n
  | 0 => by simp [numT]
  | n + 1 => by
    have h := numT_lt f b n
    have e : (2 : Nat) ^ (n + 1) = 2 ^ n + 2 ^ n := by rw [Nat.pow_succ]; omega
    unfold numT
    split <;> omega
set_option maxRecDepth 8000 in
/-- a bit was turned: the number is not nought; it stays so -/
theorem numT_hit {f : Int} {b n : Nat} (h : hitT f b n = true) : numT f b (n + 1) ≠ 0 := by
  have : 0 < 2 ^ n := Nat.two_pow_pos n
  unfold numT
  rw [if_pos h]
  omega
set_option maxRecDepth 8000 in
theorem numT_miss {f : Int} {b n : Nat} (h : hitT f b n = false) : numT f b (n + 1) = numT f b n := by
  rw [numT, h]
  rfl
theorem dkT_keeps (D : Dk) (s : Nat) (f : Int) (b : Nat) : ∀ n, (dkT D s f b n).size = D.size ∧ (dkT D s f b n).steps = D.steps ∧ (dkT D s f b n).frm = D.frm ∧ (dkT D s f b n).fails = D.fails ∧ (D.waits = [] → (dkT D s f b n).waits = [])
  | 0 => ⟨rfl, rfl, rfl, rfl, fun h => h⟩
  | n + 1 => by
    obtain ⟨h1, h2, h3, h4, h5⟩ := dkT_keeps D s f b n
    unfold dkT
    split
    · refine ⟨h1, h2, h3, h4, fun h => ?_⟩
      show (dkT D s f b n).waits.map _ = []
      rw [h5 h, List.map_nil]
    · exact ⟨h1, h2, h3, h4, h5⟩
theorem dkT_other (D : Dk) {s k : Nat} (f : Int) (b : Nat) (hk : k ≠ s) : ∀ n, (dkT D s f b n).lasts k = D.lasts k
  | 0 => rfl
  | n + 1 => by
    have h := dkT_other D f b hk n
    unfold dkT
    split
    · exact (upL_other8 _ _ hk).trans h
    · exact h
theorem dkT_len (D : Dk) (s : Nat) (f : Int) (b : Nat) (hl : (D.lasts s).length = 512) : ∀ n, ((dkT D s f b n).lasts s).length = 512
  | 0 => hl
  | n + 1 => by
    have h := dkT_len D s f b hl n
    unfold dkT
    split
    · show (upL _ s _ s).length = 512
      rw [upL_self8, turnL_length, h]
    · exact h
set_option maxRecDepth 8000 in
theorem bit_u8 (r : Nat) (h : r < 8) : (UInt8.ofNat (2 ^ r)).toNat = 2 ^ r := by
  rcases r with _ | _ | _ | _ | _ | _ | _ | _ | r <;> first | rfl | omega
/-- the slot's sector, as a number: the turned bits over what lay there -/
theorem dkT_num (D : Dk) (s : Nat) (f : Int) (b : Nat) (hl : (D.lasts s).length = 512) : ∀ n, S.numLE ((dkT D s f b n).lasts s) = S.numLE (D.lasts s) ^^^ (2 ^ f.toNat * numT f b n)
  | 0 => by rw [numT, Nat.mul_zero, Nat.xor_zero]; rfl
  | n + 1 => by
    have h := dkT_num D s f b hl n
    have hn := dkT_len D s f b hl n
    cases hh : hitT f b n with
    | false => rw [numT_miss hh, dkT, hh]; exact h
    | true =>
      obtain ⟨h0, h1, h2, _⟩ := hitT_yes hh
      rw [numT, dkT, if_pos hh, if_pos hh]
      show S.numLE (upL _ s _ s) = _
      rw [upL_self8, turnL_set _ _ _ (by rw [hn]; omega)]
      exact burst_step8 _ _ rfl rfl (bit_u8 _ (by omega)) (numT_lt f b n) h
set_option maxRecDepth 8000 in
/-- behind all rounds: no bit was turned and the header is told, or one was and none is -/
theorem dkT_end (D : Dk) {s : Nat} {f : Int} {b z e a o : Nat} (hl : D.lasts s = hdS e a o) : (numT f b 32 = 0 ∧ (dkT D s f b 32).lasts s = hdS e a o) ∨ (numT f b 32 ≠ 0 ∧ gotB z ((dkT D s f b 32).lasts s) = false) := by
  have h0 : (D.lasts s).length = 512 := by rw [hl]; exact hdS_length _ _ _
  have hn := dkT_num D s f b h0 32
  rw [hl] at hn
  by_cases hf : f.toNat ≤ 4096
  · exact burst8 (dkT_len D s f b h0 32) hn hf (numT_lt f b 32)
  · left
    have hz : ∀ n, numT f b n = 0 ∧ dkT D s f b n = D := by
      intro n
      induction n with
      | zero => exact ⟨rfl, rfl⟩
      | succ n ih =>
        have hm : hitT f b n = false := by
          cases hh : hitT f b n with
          | false => rfl
          | true => have := hitT_yes hh; omega
        exact ⟨(numT_miss hm).trans ih.1, by rw [dkT, hm]; exact ih.2⟩
    exact ⟨(hz 32).1, by rw [(hz 32).2]; exact hl⟩
end Go.Proofs.Ytjfcmoappbfnjaa

namespace Go.Proofs.Ytjfcmoappbfnjaa
open List renaming getElem_toArray → zq1, getElem_cons_succ → zq2, getElem_cons_zero → zq3, setIfInBounds_toArray → zq4, set_cons_zero → zq5, set_cons_succ → zq6
open Go.RowKit
attribute [local go_sem] Oper.semAt_some
/-- a write of a header into a slot that is refused -/
abbrev bad8 (z : Nat) (n : Int) (h : Hd) : Prop := n < 0 ∨ 1 < n ∨ ¬ h.ok ∨ 20 + 3 * h.o ≠ (z : Int)
def hdB (h : Hd) : List UInt8 := hdS h.e.toNat h.a.toNat h.o.toNat
theorem hdB_length (h : Hd) : (hdB h).length = 512 := hdS_length _ _ _
section
variable {w : World} {B p : Nat} {pl : Pl} {D : Dk} {R : Rf} {s z : Nat}
set_option maxRecDepth 100000 in
set_option maxHeartbeats 4000000 in
theorem hwrite_bad_n (hd : DiskAt w B p pl D) (hz : 1 ≤ D.size) (n : Int) (h : Hd) (hn : n < 0) : Calls Try.prog 11 #[.pointer (some ⟨p, 0, none⟩), .int .i64 n, h.val] w fun r w' => r = .returned (.int .i64 2) ∧ Below w.heap.size w w' := by
  have D0 := Lib.hid (hd.alloc (.cells h.cs.toArray 28))
  have K0 := Lib.hid (Blk.new w 28 h.cs.toArray)
  have L0 := Lib.hid ((Below.refl w.heap.size w).alloc (Nat.le_refl _) (.cells h.cs.toArray 28))
  have s0 : ((D.size : Int) == 0) = false := beq_eq_false_iff_ne.2 (by omega)
  have n0 : decide (n < 0) = true := decide_eq_true hn
  clear hn
  clear hd hz
  go_enter Try.func11, Try.ntmps11
  go_wp2_with (go_at_call 35; refine (size_at D0.out).mono ?_; rintro r w' ⟨rfl, rfl⟩)
  generalize w.alloc (.cells h.cs.toArray 28) = W at D0 K0 L0 ⊢
  have K1 := Lib.hid (blk_drew K0.out)
  have D1 := Lib.hid D0.out.drew
  have L1 := Lib.hid L0.out.drew
  refine wp_region_only (S := fun w' => Blk w' w.heap.size 28 h.cs.toArray) (by kernel_rfl) K1.out (fun hHeld => ?_)
  refine wpAnyH_take (i := 0) (v := ?v1) rfl (by kernel_rfl) (by kernel_rfl) (by kernel_rfl) (fun _ _ _ h => h) (Or.inl ⟨by rfl, ?hy1⟩) hHeld ?rest1
  case hy1 =>
    intro w' hSw
    try dsimp only at hSw
    go_simp
    first | done | with_reducible rfl
  try simp only [Act.put, zq1, zq3, zq4, zq5, zq6]
  refine wpAnyH_take (i := 1) (v := ?v2) rfl (by kernel_rfl) (by kernel_rfl) (by kernel_rfl) (fun _ _ _ h => h) (Or.inl ⟨by rfl, ?hy2⟩) hHeld ?rest2
  case hy2 =>
    intro w' hSw
    try dsimp only at hSw
    go_simp
    first | done | with_reducible rfl
  try simp only [Act.put, zq1, zq2, zq3, zq4, zq5, zq6]
  refine wpAnyH_take (i := 2) (v := ?v3) rfl (by kernel_rfl) (by kernel_rfl) (by kernel_rfl) (fun _ _ _ h => h) (Or.inl ⟨by rfl, ?hy3⟩) hHeld ?rest3
  case hy3 =>
    intro w' hSw
    try dsimp only at hSw
    go_simp
    first | done | with_reducible rfl
  try simp only [Act.put, zq1, zq2, zq3, zq4, zq5, zq6]
  refine wpAnyH_take (i := 3) (v := undef) rfl (by kernel_rfl) (by kernel_rfl) (by kernel_rfl) (fun _ _ _ h => h) (Or.inr ⟨by rfl, rfl⟩) hHeld ?_
  try simp only [Act.put, zq1, zq2, zq3, zq4, zq5, zq6]
  refine wpAnyH_take (i := 4) (v := undef) rfl (by kernel_rfl) (by kernel_rfl) (by kernel_rfl) (fun _ _ _ h => h) (Or.inr ⟨by rfl, rfl⟩) hHeld ?_
  try simp only [Act.put, zq1, zq2, zq3, zq4, zq5, zq6]
  refine wpAnyH_take (i := 5) (v := ?v4) rfl (by kernel_rfl) (by kernel_rfl) (by kernel_rfl) (fun _ _ _ h => h) (Or.inl ⟨by rfl, ?hy4⟩) hHeld ?rest4
  case hy4 =>
    intro w' hSw
    try dsimp only at hSw
    go_simp
    first | done | with_reducible rfl
  try simp only [Act.put, zq1, zq2, zq3, zq4, zq5, zq6]
  refine wpAnyH_take (i := 6) (v := ?v5) rfl (by kernel_rfl) (by kernel_rfl) (by kernel_rfl) (fun _ _ _ h => h) (Or.inl ⟨by rfl, ?hy5⟩) hHeld ?rest5
  case hy5 =>
    intro w' hSw
    try dsimp only at hSw
    go_simp
    first | done | with_reducible rfl
  try simp only [Act.put, zq1, zq2, zq3, zq4, zq5, zq6]
  refine wpAnyH_take (i := 7) (v := undef) rfl (by kernel_rfl) (by kernel_rfl) (by kernel_rfl) (fun _ _ _ h => h) (Or.inr ⟨by rfl, rfl⟩) hHeld ?_
  try simp only [Act.put, zq1, zq2, zq3, zq4, zq5, zq6]
  refine wpAnyH_take (i := 8) (v := undef) rfl (by kernel_rfl) (by kernel_rfl) (by kernel_rfl) (fun _ _ _ h => h) (Or.inr ⟨by rfl, rfl⟩) hHeld ?_
  try simp only [Act.put, zq1, zq2, zq3, zq4, zq5, zq6]
  refine wpAnyH_take (i := 9) (v := undef) rfl (by kernel_rfl) (by kernel_rfl) (by kernel_rfl) (fun _ _ _ h => h) (Or.inr ⟨by rfl, rfl⟩) hHeld ?_
  try simp only [Act.put, zq1, zq2, zq3, zq4, zq5, zq6]
  refine wpAnyH_take (i := 10) (v := ?v6) rfl (by kernel_rfl) (by kernel_rfl) (by kernel_rfl) (fun _ _ _ h => h) (Or.inl ⟨by rfl, ?hy6⟩) hHeld ?rest6
  case hy6 =>
    intro w' hSw
    try dsimp only at hSw
    go_simp
    first | done | with_reducible rfl
  try simp only [Act.put, zq1, zq2, zq3, zq4, zq5, zq6]
  refine wpAnyH_take (i := 11) (v := ?v7) rfl (by kernel_rfl) (by kernel_rfl) (by kernel_rfl) (fun _ _ _ h => h) (Or.inl ⟨by rfl, ?hy7⟩) hHeld ?rest7
  case hy7 =>
    intro w' hSw
    try dsimp only at hSw
    go_simp
    first | done | with_reducible rfl
  try simp only [Act.put, zq1, zq2, zq3, zq4, zq5, zq6]
  refine wpAnyH_take (i := 12) (v := undef) rfl (by kernel_rfl) (by kernel_rfl) (by kernel_rfl) (fun _ _ _ h => h) (Or.inr ⟨by rfl, rfl⟩) hHeld ?_
  try simp only [Act.put, zq1, zq2, zq3, zq4, zq5, zq6]
  refine wpAnyH_take (i := 13) (v := undef) rfl (by kernel_rfl) (by kernel_rfl) (by kernel_rfl) (fun _ _ _ h => h) (Or.inr ⟨by rfl, rfl⟩) hHeld ?_
  try simp only [Act.put, zq1, zq2, zq3, zq4, zq5, zq6]
  refine wpAnyH_take (i := 14) (v := undef) rfl (by kernel_rfl) (by kernel_rfl) (by kernel_rfl) (fun _ _ _ h => h) (Or.inr ⟨by rfl, rfl⟩) hHeld ?_
  try simp only [Act.put, zq1, zq2, zq3, zq4, zq5, zq6]
  refine wpAnyH_take (i := 15) (v := undef) rfl (by kernel_rfl) (by kernel_rfl) (by kernel_rfl) (fun _ _ _ h => h) (Or.inr ⟨by rfl, rfl⟩) hHeld ?_
  try simp only [Act.put, zq1, zq2, zq3, zq4, zq5, zq6]
  refine wpAnyH_take (i := 16) (v := undef) rfl (by kernel_rfl) (by kernel_rfl) (by kernel_rfl) (fun _ _ _ h => h) (Or.inr ⟨by rfl, rfl⟩) hHeld ?_
  try simp only [Act.put, zq1, zq2, zq3, zq4, zq5, zq6]
  refine wpAnyH_take (i := 17) (v := ?v8) rfl (by kernel_rfl) (by kernel_rfl) (by kernel_rfl) (fun _ _ _ h => h) (Or.inl ⟨by rfl, ?hy8⟩) hHeld ?rest8
  case hy8 =>
    intro w' hSw
    try dsimp only at hSw
    go_simp
    first | done | with_reducible rfl
  try simp only [Act.put, zq1, zq2, zq3, zq4, zq5, zq6]
  refine wpAnyH_done (by kernel_rfl) ?_ _
  refine OnlyN.normal ?_
  try clear hHeld
  go_wp2_with fail
  go_ret
  exact ⟨rfl, L1.out⟩
set_option maxRecDepth 100000 in
set_option maxHeartbeats 4000000 in
theorem hwrite_bad_m (hd : DiskAt w B p pl D) (hz : 1 ≤ D.size) (n : Int) (h : Hd) (hn : ¬ n < 0) (hm : 1 < n) : Calls Try.prog 11 #[.pointer (some ⟨p, 0, none⟩), .int .i64 n, h.val] w fun r w' => r = .returned (.int .i64 2) ∧ Below w.heap.size w w' := by
  have D0 := Lib.hid (hd.alloc (.cells h.cs.toArray 28))
  have K0 := Lib.hid (Blk.new w 28 h.cs.toArray)
  have L0 := Lib.hid ((Below.refl w.heap.size w).alloc (Nat.le_refl _) (.cells h.cs.toArray 28))
  have s0 : ((D.size : Int) == 0) = false := beq_eq_false_iff_ne.2 (by omega)
  have n0 : decide (n < 0) = false := decide_eq_false hn
  have n2 : decide (2 ≤ n) = true := decide_eq_true (by omega)
  clear hn hm
  clear hd hz
  go_enter Try.func11, Try.ntmps11
  go_wp2_with (go_at_call 35; refine (size_at D0.out).mono ?_; rintro r w' ⟨rfl, rfl⟩)
  generalize w.alloc (.cells h.cs.toArray 28) = W at D0 K0 L0 ⊢
  have K1 := Lib.hid (blk_drew K0.out)
  have D1 := Lib.hid D0.out.drew
  have L1 := Lib.hid L0.out.drew
  refine wp_region_only (S := fun w' => Blk w' w.heap.size 28 h.cs.toArray) (by kernel_rfl) K1.out (fun hHeld => ?_)
  refine wpAnyH_take (i := 0) (v := ?v9) rfl (by kernel_rfl) (by kernel_rfl) (by kernel_rfl) (fun _ _ _ h => h) (Or.inl ⟨by rfl, ?hy9⟩) hHeld ?rest9
  case hy9 =>
    intro w' hSw
    try dsimp only at hSw
    go_simp
    first | done | with_reducible rfl
  try simp only [Act.put, zq1, zq3, zq4, zq5, zq6]
  refine wpAnyH_take (i := 1) (v := ?v10) rfl (by kernel_rfl) (by kernel_rfl) (by kernel_rfl) (fun _ _ _ h => h) (Or.inl ⟨by rfl, ?hy10⟩) hHeld ?rest10
  case hy10 =>
    intro w' hSw
    try dsimp only at hSw
    go_simp
    first | done | with_reducible rfl
  try simp only [Act.put, zq1, zq2, zq3, zq4, zq5, zq6]
  refine wpAnyH_take (i := 2) (v := ?v11) rfl (by kernel_rfl) (by kernel_rfl) (by kernel_rfl) (fun _ _ _ h => h) (Or.inl ⟨by rfl, ?hy11⟩) hHeld ?rest11
  case hy11 =>
    intro w' hSw
    try dsimp only at hSw
    go_simp
    first | done | with_reducible rfl
  try simp only [Act.put, zq1, zq2, zq3, zq4, zq5, zq6]
  refine wpAnyH_take (i := 3) (v := ?v12) rfl (by kernel_rfl) (by kernel_rfl) (by kernel_rfl) (fun _ _ _ h => h) (Or.inl ⟨by rfl, ?hy12⟩) hHeld ?rest12
  case hy12 =>
    intro w' hSw
    try dsimp only at hSw
    go_simp
    first | done | with_reducible rfl
  try simp only [Act.put, zq1, zq2, zq3, zq4, zq5, zq6]
  refine wpAnyH_take (i := 4) (v := ?v13) rfl (by kernel_rfl) (by kernel_rfl) (by kernel_rfl) (fun _ _ _ h => h) (Or.inl ⟨by rfl, ?hy13⟩) hHeld ?rest13
  case hy13 =>
    intro w' hSw
    try dsimp only at hSw
    go_simp
    first | done | with_reducible rfl
  try simp only [Act.put, zq1, zq2, zq3, zq4, zq5, zq6]
  refine wpAnyH_take (i := 5) (v := ?v14) rfl (by kernel_rfl) (by kernel_rfl) (by kernel_rfl) (fun _ _ _ h => h) (Or.inl ⟨by rfl, ?hy14⟩) hHeld ?rest14
  case hy14 =>
    intro w' hSw
    try dsimp only at hSw
    go_simp
    first | done | with_reducible rfl
  try simp only [Act.put, zq1, zq2, zq3, zq4, zq5, zq6]
  refine wpAnyH_take (i := 6) (v := ?v15) rfl (by kernel_rfl) (by kernel_rfl) (by kernel_rfl) (fun _ _ _ h => h) (Or.inl ⟨by rfl, ?hy15⟩) hHeld ?rest15
  case hy15 =>
    intro w' hSw
    try dsimp only at hSw
    go_simp
    first | done | with_reducible rfl
  try simp only [Act.put, zq1, zq2, zq3, zq4, zq5, zq6]
  refine wpAnyH_take (i := 7) (v := undef) rfl (by kernel_rfl) (by kernel_rfl) (by kernel_rfl) (fun _ _ _ h => h) (Or.inr ⟨by rfl, rfl⟩) hHeld ?_
  try simp only [Act.put, zq1, zq2, zq3, zq4, zq5, zq6]
  refine wpAnyH_take (i := 8) (v := undef) rfl (by kernel_rfl) (by kernel_rfl) (by kernel_rfl) (fun _ _ _ h => h) (Or.inr ⟨by rfl, rfl⟩) hHeld ?_
  try simp only [Act.put, zq1, zq2, zq3, zq4, zq5, zq6]
  refine wpAnyH_take (i := 9) (v := undef) rfl (by kernel_rfl) (by kernel_rfl) (by kernel_rfl) (fun _ _ _ h => h) (Or.inr ⟨by rfl, rfl⟩) hHeld ?_
  try simp only [Act.put, zq1, zq2, zq3, zq4, zq5, zq6]
  refine wpAnyH_take (i := 10) (v := ?v16) rfl (by kernel_rfl) (by kernel_rfl) (by kernel_rfl) (fun _ _ _ h => h) (Or.inl ⟨by rfl, ?hy16⟩) hHeld ?rest16
  case hy16 =>
    intro w' hSw
    try dsimp only at hSw
    go_simp
    first | done | with_reducible rfl
  try simp only [Act.put, zq1, zq2, zq3, zq4, zq5, zq6]
  refine wpAnyH_take (i := 11) (v := ?v17) rfl (by kernel_rfl) (by kernel_rfl) (by kernel_rfl) (fun _ _ _ h => h) (Or.inl ⟨by rfl, ?hy17⟩) hHeld ?rest17
  case hy17 =>
    intro w' hSw
    try dsimp only at hSw
    go_simp
    first | done | with_reducible rfl
  try simp only [Act.put, zq1, zq2, zq3, zq4, zq5, zq6]
  refine wpAnyH_take (i := 12) (v := undef) rfl (by kernel_rfl) (by kernel_rfl) (by kernel_rfl) (fun _ _ _ h => h) (Or.inr ⟨by rfl, rfl⟩) hHeld ?_
  try simp only [Act.put, zq1, zq2, zq3, zq4, zq5, zq6]
  refine wpAnyH_take (i := 13) (v := undef) rfl (by kernel_rfl) (by kernel_rfl) (by kernel_rfl) (fun _ _ _ h => h) (Or.inr ⟨by rfl, rfl⟩) hHeld ?_
  try simp only [Act.put, zq1, zq2, zq3, zq4, zq5, zq6]
  refine wpAnyH_take (i := 14) (v := undef) rfl (by kernel_rfl) (by kernel_rfl) (by kernel_rfl) (fun _ _ _ h => h) (Or.inr ⟨by rfl, rfl⟩) hHeld ?_
  try simp only [Act.put, zq1, zq2, zq3, zq4, zq5, zq6]
  refine wpAnyH_take (i := 15) (v := undef) rfl (by kernel_rfl) (by kernel_rfl) (by kernel_rfl) (fun _ _ _ h => h) (Or.inr ⟨by rfl, rfl⟩) hHeld ?_
  try simp only [Act.put, zq1, zq2, zq3, zq4, zq5, zq6]
  refine wpAnyH_take (i := 16) (v := undef) rfl (by kernel_rfl) (by kernel_rfl) (by kernel_rfl) (fun _ _ _ h => h) (Or.inr ⟨by rfl, rfl⟩) hHeld ?_
  try simp only [Act.put, zq1, zq2, zq3, zq4, zq5, zq6]
  refine wpAnyH_take (i := 17) (v := ?v18) rfl (by kernel_rfl) (by kernel_rfl) (by kernel_rfl) (fun _ _ _ h => h) (Or.inl ⟨by rfl, ?hy18⟩) hHeld ?rest18
  case hy18 =>
    intro w' hSw
    try dsimp only at hSw
    go_simp
    first | done | with_reducible rfl
  try simp only [Act.put, zq1, zq2, zq3, zq4, zq5, zq6]
  refine wpAnyH_done (by kernel_rfl) ?_ _
  refine OnlyN.normal ?_
  try clear hHeld
  go_wp2_with fail
  go_ret
  exact ⟨rfl, L1.out⟩
set_option maxRecDepth 100000 in
set_option maxHeartbeats 4000000 in
theorem hwrite_bad_h (hd : DiskAt w B p pl D) (hz : 1 ≤ D.size) (n : Int) (h : Hd) (hn : ¬ n < 0) (hm : ¬ 1 < n) (hk : ¬ h.ok) : Calls Try.prog 11 #[.pointer (some ⟨p, 0, none⟩), .int .i64 n, h.val] w fun r w' => r = .returned (.int .i64 2) ∧ Below w.heap.size w w' := by
  have D0 := Lib.hid (hd.alloc (.cells h.cs.toArray 28))
  have K0 := Lib.hid (Blk.new w 28 h.cs.toArray)
  have L0 := Lib.hid ((Below.refl w.heap.size w).alloc (Nat.le_refl _) (.cells h.cs.toArray 28))
  have s0 : ((D.size : Int) == 0) = false := beq_eq_false_iff_ne.2 (by omega)
  have n0 : decide (n < 0) = false := decide_eq_false hn
  have n2 : decide (2 ≤ n) = false := decide_eq_false (by omega)
  have HNO := Lib.hid (show h.no = 2 by unfold Hd.no; rw [if_neg hk])
  clear hn hm hk
  clear hd hz
  go_enter Try.func11, Try.ntmps11
  go_wp2_with (go_at_call 35; refine (size_at D0.out).mono ?_; rintro r w' ⟨rfl, rfl⟩)
  generalize w.alloc (.cells h.cs.toArray 28) = W at D0 K0 L0 ⊢
  have K1 := Lib.hid (blk_drew K0.out)
  have D1 := Lib.hid D0.out.drew
  have L1 := Lib.hid L0.out.drew
  refine wp_region_only (S := fun w' => Blk w' w.heap.size 28 h.cs.toArray) (by kernel_rfl) K1.out (fun hHeld => ?_)
  refine wpAnyH_take (i := 0) (v := ?v19) rfl (by kernel_rfl) (by kernel_rfl) (by kernel_rfl) (fun _ _ _ h => h) (Or.inl ⟨by rfl, ?hy19⟩) hHeld ?rest19
  case hy19 =>
    intro w' hSw
    try dsimp only at hSw
    go_simp
    first | done | with_reducible rfl
  try simp only [Act.put, zq1, zq3, zq4, zq5, zq6]
  refine wpAnyH_take (i := 1) (v := ?v20) rfl (by kernel_rfl) (by kernel_rfl) (by kernel_rfl) (fun _ _ _ h => h) (Or.inl ⟨by rfl, ?hy20⟩) hHeld ?rest20
  case hy20 =>
    intro w' hSw
    try dsimp only at hSw
    go_simp
    first | done | with_reducible rfl
  try simp only [Act.put, zq1, zq2, zq3, zq4, zq5, zq6]
  refine wpAnyH_take (i := 2) (v := ?v21) rfl (by kernel_rfl) (by kernel_rfl) (by kernel_rfl) (fun _ _ _ h => h) (Or.inl ⟨by rfl, ?hy21⟩) hHeld ?rest21
  case hy21 =>
    intro w' hSw
    try dsimp only at hSw
    go_simp
    first | done | with_reducible rfl
  try simp only [Act.put, zq1, zq2, zq3, zq4, zq5, zq6]
  refine wpAnyH_take (i := 3) (v := ?v22) rfl (by kernel_rfl) (by kernel_rfl) (by kernel_rfl) (fun _ _ _ h => h) (Or.inl ⟨by rfl, ?hy22⟩) hHeld ?rest22
  case hy22 =>
    intro w' hSw
    try dsimp only at hSw
    go_simp
    first | done | with_reducible rfl
  try simp only [Act.put, zq1, zq2, zq3, zq4, zq5, zq6]
  refine wpAnyH_take (i := 4) (v := ?v23) rfl (by kernel_rfl) (by kernel_rfl) (by kernel_rfl) (fun _ _ _ h => h) (Or.inl ⟨by rfl, ?hy23⟩) hHeld ?rest23
  case hy23 =>
    intro w' hSw
    try dsimp only at hSw
    go_simp
    first | done | with_reducible rfl
  try simp only [Act.put, zq1, zq2, zq3, zq4, zq5, zq6]
  refine wpAnyH_take (i := 5) (v := ?v24) rfl (by kernel_rfl) (by kernel_rfl) (by kernel_rfl) (fun _ _ _ h => h) (Or.inl ⟨by rfl, ?hy24⟩) hHeld ?rest24
  case hy24 =>
    intro w' hSw
    try dsimp only at hSw
    go_simp
    first | done | with_reducible rfl
  try simp only [Act.put, zq1, zq2, zq3, zq4, zq5, zq6]
  refine wpAnyH_take (i := 6) (v := ?v25) rfl (by kernel_rfl) (by kernel_rfl) (by kernel_rfl) (fun _ _ _ h => h) (Or.inl ⟨by rfl, ?hy25⟩) hHeld ?rest25
  case hy25 =>
    intro w' hSw
    try dsimp only at hSw
    go_simp
    first | done | with_reducible rfl
  try simp only [Act.put, zq1, zq2, zq3, zq4, zq5, zq6]
  refine wpAnyH_take (i := 7) rfl (by kernel_rfl) (by kernel_rfl) (by kernel_rfl) (fun _ _ _ h => h) (yieldsIf_load_mid (by rfl) 28 (.tmp 5) (by rfl) w.heap.size 0 (by rfl) h.cs _ (fun w' hSw => Blk.rangeAt (l := h.cs) hSw) Try.underlying28 rfl (size23 _)) hHeld ?_
  try simp only [Act.put, zq1, zq2, zq3, zq4, zq5, zq6]
  refine wpAnyH_ready (rs := [8]) (by kernel_rfl) (by simp) ?_
  refine AllReadyH.cons (by rfl) (fun K hK => ?_) AllReadyH.nil
  go_simp
  refine (check_any h _).mono ?_
  rw [HNO.out]
  rintro r W2 ⟨rfl, hb⟩
  have K2 := Lib.hid (K1.out.below hb K1.out.lt)
  have D2 := Lib.hid (D1.out.below hb)
  have L2 := Lib.hid (L1.out.trans (hb.mono L1.out.size))
  clear hb hHeld
  refine hK.out _ _ K2.out (fun hHeld => ?_)
  clear hK K
  try simp only [Act.put, zq1, zq2, zq3, zq4, zq5, zq6]
  refine wpAnyH_take (i := 9) (v := ?v26) rfl (by kernel_rfl) (by kernel_rfl) (by kernel_rfl) (fun _ _ _ h => h) (Or.inl ⟨by rfl, ?hy26⟩) hHeld ?rest26
  case hy26 =>
    intro w' hSw
    try dsimp only at hSw
    go_simp
    first | done | with_reducible rfl
  try simp only [Act.put, zq1, zq2, zq3, zq4, zq5, zq6]
  refine wpAnyH_take (i := 10) (v := ?v27) rfl (by kernel_rfl) (by kernel_rfl) (by kernel_rfl) (fun _ _ _ h => h) (Or.inl ⟨by rfl, ?hy27⟩) hHeld ?rest27
  case hy27 =>
    intro w' hSw
    try dsimp only at hSw
    go_simp
    first | done | with_reducible rfl
  try simp only [Act.put, zq1, zq2, zq3, zq4, zq5, zq6]
  refine wpAnyH_take (i := 11) (v := ?v28) rfl (by kernel_rfl) (by kernel_rfl) (by kernel_rfl) (fun _ _ _ h => h) (Or.inl ⟨by rfl, ?hy28⟩) hHeld ?rest28
  case hy28 =>
    intro w' hSw
    try dsimp only at hSw
    go_simp
    first | done | with_reducible rfl
  try simp only [Act.put, zq1, zq2, zq3, zq4, zq5, zq6]
  refine wpAnyH_take (i := 12) (v := undef) rfl (by kernel_rfl) (by kernel_rfl) (by kernel_rfl) (fun _ _ _ h => h) (Or.inr ⟨by rfl, rfl⟩) hHeld ?_
  try simp only [Act.put, zq1, zq2, zq3, zq4, zq5, zq6]
  refine wpAnyH_take (i := 13) (v := undef) rfl (by kernel_rfl) (by kernel_rfl) (by kernel_rfl) (fun _ _ _ h => h) (Or.inr ⟨by rfl, rfl⟩) hHeld ?_
  try simp only [Act.put, zq1, zq2, zq3, zq4, zq5, zq6]
  refine wpAnyH_take (i := 14) (v := undef) rfl (by kernel_rfl) (by kernel_rfl) (by kernel_rfl) (fun _ _ _ h => h) (Or.inr ⟨by rfl, rfl⟩) hHeld ?_
  try simp only [Act.put, zq1, zq2, zq3, zq4, zq5, zq6]
  refine wpAnyH_take (i := 15) (v := undef) rfl (by kernel_rfl) (by kernel_rfl) (by kernel_rfl) (fun _ _ _ h => h) (Or.inr ⟨by rfl, rfl⟩) hHeld ?_
  try simp only [Act.put, zq1, zq2, zq3, zq4, zq5, zq6]
  refine wpAnyH_take (i := 16) (v := undef) rfl (by kernel_rfl) (by kernel_rfl) (by kernel_rfl) (fun _ _ _ h => h) (Or.inr ⟨by rfl, rfl⟩) hHeld ?_
  try simp only [Act.put, zq1, zq2, zq3, zq4, zq5, zq6]
  refine wpAnyH_take (i := 17) (v := ?v29) rfl (by kernel_rfl) (by kernel_rfl) (by kernel_rfl) (fun _ _ _ h => h) (Or.inl ⟨by rfl, ?hy29⟩) hHeld ?rest29
  case hy29 =>
    intro w' hSw
    try dsimp only at hSw
    go_simp
    first | done | with_reducible rfl
  try simp only [Act.put, zq1, zq2, zq3, zq4, zq5, zq6]
  refine wpAnyH_done (by kernel_rfl) ?_ _
  refine OnlyN.normal ?_
  try clear hHeld
  go_wp2_with fail
  go_ret
  exact ⟨rfl, L2.out⟩
set_option maxRecDepth 100000 in
set_option maxHeartbeats 4000000 in
theorem hwrite_bad_z (hd : DiskAt w B p pl D) (hz : 1 ≤ D.size) (n : Int) (h : Hd) (hn : ¬ n < 0) (hm : ¬ 1 < n) (hk : h.ok) (hq0 : 20 + 3 * h.o ≠ (D.size : Int)) : Calls Try.prog 11 #[.pointer (some ⟨p, 0, none⟩), .int .i64 n, h.val] w fun r w' => r = .returned (.int .i64 2) ∧ Below w.heap.size w w' := by
  have D0 := Lib.hid (hd.alloc (.cells h.cs.toArray 28))
  have K0 := Lib.hid (Blk.new w 28 h.cs.toArray)
  have L0 := Lib.hid ((Below.refl w.heap.size w).alloc (Nat.le_refl _) (.cells h.cs.toArray 28))
  have s0 : ((D.size : Int) == 0) = false := beq_eq_false_iff_ne.2 (by omega)
  have n0 : decide (n < 0) = false := decide_eq_false hn
  have n2 : decide (2 ≤ n) = false := decide_eq_false (by omega)
  have HNO := Lib.hid (show h.no = 0 by unfold Hd.no; rw [if_pos hk])
  have HO2 := Lib.hid (show 1 ≤ h.o ∧ h.o ≤ 64 by omega)
  have hq : ((20 + 3 * h.o) == (D.size : Int)) = false := beq_eq_false_iff_ne.2 hq0
  clear hn hm hk hq0
  clear hd hz
  go_enter Try.func11, Try.ntmps11
  go_wp2_with (go_at_call 35; refine (size_at D0.out).mono ?_; rintro r w' ⟨rfl, rfl⟩)
  generalize w.alloc (.cells h.cs.toArray 28) = W at D0 K0 L0 ⊢
  have K1 := Lib.hid (blk_drew K0.out)
  have D1 := Lib.hid D0.out.drew
  have L1 := Lib.hid L0.out.drew
  refine wp_region_only (S := fun w' => Blk w' w.heap.size 28 h.cs.toArray) (by kernel_rfl) K1.out (fun hHeld => ?_)
  refine wpAnyH_take (i := 0) (v := ?v30) rfl (by kernel_rfl) (by kernel_rfl) (by kernel_rfl) (fun _ _ _ h => h) (Or.inl ⟨by rfl, ?hy30⟩) hHeld ?rest30
  case hy30 =>
    intro w' hSw
    try dsimp only at hSw
    go_simp
    first | done | with_reducible rfl
  try simp only [Act.put, zq1, zq3, zq4, zq5, zq6]
  refine wpAnyH_take (i := 1) (v := ?v31) rfl (by kernel_rfl) (by kernel_rfl) (by kernel_rfl) (fun _ _ _ h => h) (Or.inl ⟨by rfl, ?hy31⟩) hHeld ?rest31
  case hy31 =>
    intro w' hSw
    try dsimp only at hSw
    go_simp
    first | done | with_reducible rfl
  try simp only [Act.put, zq1, zq2, zq3, zq4, zq5, zq6]
  refine wpAnyH_take (i := 2) (v := ?v32) rfl (by kernel_rfl) (by kernel_rfl) (by kernel_rfl) (fun _ _ _ h => h) (Or.inl ⟨by rfl, ?hy32⟩) hHeld ?rest32
  case hy32 =>
    intro w' hSw
    try dsimp only at hSw
    go_simp
    first | done | with_reducible rfl
  try simp only [Act.put, zq1, zq2, zq3, zq4, zq5, zq6]
  refine wpAnyH_take (i := 3) (v := ?v33) rfl (by kernel_rfl) (by kernel_rfl) (by kernel_rfl) (fun _ _ _ h => h) (Or.inl ⟨by rfl, ?hy33⟩) hHeld ?rest33
  case hy33 =>
    intro w' hSw
    try dsimp only at hSw
    go_simp
    first | done | with_reducible rfl
  try simp only [Act.put, zq1, zq2, zq3, zq4, zq5, zq6]
  refine wpAnyH_take (i := 4) (v := ?v34) rfl (by kernel_rfl) (by kernel_rfl) (by kernel_rfl) (fun _ _ _ h => h) (Or.inl ⟨by rfl, ?hy34⟩) hHeld ?rest34
  case hy34 =>
    intro w' hSw
    try dsimp only at hSw
    go_simp
    first | done | with_reducible rfl
  try simp only [Act.put, zq1, zq2, zq3, zq4, zq5, zq6]
  refine wpAnyH_take (i := 5) (v := ?v35) rfl (by kernel_rfl) (by kernel_rfl) (by kernel_rfl) (fun _ _ _ h => h) (Or.inl ⟨by rfl, ?hy35⟩) hHeld ?rest35
  case hy35 =>
    intro w' hSw
    try dsimp only at hSw
    go_simp
    first | done | with_reducible rfl
  try simp only [Act.put, zq1, zq2, zq3, zq4, zq5, zq6]
  refine wpAnyH_take (i := 6) (v := ?v36) rfl (by kernel_rfl) (by kernel_rfl) (by kernel_rfl) (fun _ _ _ h => h) (Or.inl ⟨by rfl, ?hy36⟩) hHeld ?rest36
  case hy36 =>
    intro w' hSw
    try dsimp only at hSw
    go_simp
    first | done | with_reducible rfl
  try simp only [Act.put, zq1, zq2, zq3, zq4, zq5, zq6]
  refine wpAnyH_take (i := 7) rfl (by kernel_rfl) (by kernel_rfl) (by kernel_rfl) (fun _ _ _ h => h) (yieldsIf_load_mid (by rfl) 28 (.tmp 5) (by rfl) w.heap.size 0 (by rfl) h.cs _ (fun w' hSw => Blk.rangeAt (l := h.cs) hSw) Try.underlying28 rfl (size23 _)) hHeld ?_
  try simp only [Act.put, zq1, zq2, zq3, zq4, zq5, zq6]
  refine wpAnyH_ready (rs := [8]) (by kernel_rfl) (by simp) ?_
  refine AllReadyH.cons (by rfl) (fun K hK => ?_) AllReadyH.nil
  go_simp
  refine (check_any h _).mono ?_
  rw [HNO.out]
  rintro r W2 ⟨rfl, hb⟩
  have K2 := Lib.hid (K1.out.below hb K1.out.lt)
  have D2 := Lib.hid (D1.out.below hb)
  have L2 := Lib.hid (L1.out.trans (hb.mono L1.out.size))
  clear hb hHeld
  refine hK.out _ _ K2.out (fun hHeld => ?_)
  clear hK K
  try simp only [Act.put, zq1, zq2, zq3, zq4, zq5, zq6]
  refine wpAnyH_take (i := 9) (v := ?v37) rfl (by kernel_rfl) (by kernel_rfl) (by kernel_rfl) (fun _ _ _ h => h) (Or.inl ⟨by rfl, ?hy37⟩) hHeld ?rest37
  case hy37 =>
    intro w' hSw
    try dsimp only at hSw
    go_simp
    first | done | with_reducible rfl
  try simp only [Act.put, zq1, zq2, zq3, zq4, zq5, zq6]
  refine wpAnyH_take (i := 10) (v := ?v38) rfl (by kernel_rfl) (by kernel_rfl) (by kernel_rfl) (fun _ _ _ h => h) (Or.inl ⟨by rfl, ?hy38⟩) hHeld ?rest38
  case hy38 =>
    intro w' hSw
    try dsimp only at hSw
    go_simp
    first | done | with_reducible rfl
  try simp only [Act.put, zq1, zq2, zq3, zq4, zq5, zq6]
  refine wpAnyH_take (i := 11) (v := ?v39) rfl (by kernel_rfl) (by kernel_rfl) (by kernel_rfl) (fun _ _ _ h => h) (Or.inl ⟨by rfl, ?hy39⟩) hHeld ?rest39
  case hy39 =>
    intro w' hSw
    try dsimp only at hSw
    go_simp
    first | done | with_reducible rfl
  try simp only [Act.put, zq1, zq2, zq3, zq4, zq5, zq6]
  refine wpAnyH_take (i := 12) rfl (by kernel_rfl) (by kernel_rfl) (by kernel_rfl) (fun _ _ _ h => h) (yieldsIf_load_mid (by rfl) 28 (.tmp 5) (by rfl) w.heap.size 0 (by rfl) h.cs _ (fun w' hSw => Blk.rangeAt (l := h.cs) hSw) Try.underlying28 rfl (size23 _)) hHeld ?_
  try simp only [Act.put, zq1, zq2, zq3, zq4, zq5, zq6]
  refine wpAnyH_take (i := 13) (v := ?v40) rfl (by kernel_rfl) (by kernel_rfl) (by kernel_rfl) (fun _ _ _ h => h) (Or.inl ⟨by rfl, ?hy40⟩) hHeld ?rest40
  case hy40 =>
    intro w' hSw
    try dsimp only at hSw
    go_simp
    first | done | with_reducible rfl
  try simp only [Act.put, zq1, zq2, zq3, zq4, zq5, zq6]
  refine wpAnyH_ready (rs := [14]) (by kernel_rfl) (by simp) ?_
  refine AllReadyH.cons (by rfl) (fun K hK => ?_) AllReadyH.nil
  go_simp
  refine (size_at D2.out).mono ?_
  rintro r w' ⟨rfl, rfl⟩
  clear hHeld
  refine hK.out _ _ K2.out (fun hHeld => ?_)
  clear hK K
  try simp only [Act.put, zq1, zq2, zq3, zq4, zq5, zq6]
  refine wpAnyH_ready (rs := [15]) (by kernel_rfl) (by simp) ?_
  refine AllReadyH.cons (by rfl) (fun K hK => ?_) AllReadyH.nil
  go_simp
  refine (fits_any h HO2.out _ _).mono ?_
  rintro r W3 ⟨rfl, hb⟩
  have K3 := Lib.hid (K2.out.below hb K2.out.lt)
  have D3 := Lib.hid (D2.out.below hb)
  have L3 := Lib.hid (L2.out.trans (hb.mono L2.out.size))
  clear hb hHeld
  refine hK.out _ _ K3.out (fun hHeld => ?_)
  clear hK K
  try dsimp only
  refine wpAnyH_take (i := 16) (v := ?v41) rfl (by kernel_rfl) (by kernel_rfl) (by kernel_rfl) (fun _ _ _ h => h) (Or.inl ⟨by rfl, ?hy41⟩) hHeld ?rest41
  case hy41 =>
    intro w' hSw
    try dsimp only at hSw
    go_simp
    first | done | with_reducible rfl
  try simp only [Act.put, zq1, zq2, zq3, zq4, zq5, zq6]
  refine wpAnyH_take (i := 17) (v := ?v42) rfl (by kernel_rfl) (by kernel_rfl) (by kernel_rfl) (fun _ _ _ h => h) (Or.inl ⟨by rfl, ?hy42⟩) hHeld ?rest42
  case hy42 =>
    intro w' hSw
    try dsimp only at hSw
    go_simp
    first | done | with_reducible rfl
  try simp only [Act.put, zq1, zq2, zq3, zq4, zq5, zq6]
  refine wpAnyH_done (by kernel_rfl) ?_ _
  refine OnlyN.normal ?_
  try clear hHeld
  go_wp2_with fail
  go_ret
  exact ⟨rfl, L3.out⟩
set_option maxRecDepth 8000 in
theorem hwrite_bad (hd : DiskAt w B p pl D) (hz : 1 ≤ D.size) (n : Int) (h : Hd) (hb : bad8 D.size n h) : Calls Try.prog 11 #[.pointer (some ⟨p, 0, none⟩), .int .i64 n, h.val] w fun r w' => r = .returned (.int .i64 2) ∧ Below w.heap.size w w' := by
  by_cases hn : n < 0
  · exact hwrite_bad_n hd hz n h hn
  · by_cases hm : 1 < n
    · exact hwrite_bad_m hd hz n h hn hm
    · by_cases hk : h.ok
      · exact hwrite_bad_z hd hz n h hn hm hk ((hb.resolve_left hn).resolve_left hm |>.resolve_left (fun x => x hk))
      · exact hwrite_bad_h hd hz n h hn hm hk
end
end Go.Proofs.Ytjfcmoappbfnjaa

namespace Go.Proofs.Ytjfcmoappbfnjaa
open List renaming getElem_toArray → zq1, getElem_cons_succ → zq2, getElem_cons_zero → zq3, setIfInBounds_toArray → zq4, set_cons_zero → zq5, set_cons_succ → zq6
open Go.RowKit
/-- a disk that never fails -/
def Calm (w : World) (B p : Nat) (pl : Pl) (z : Nat) (L : Nat → List UInt8) (ws : List (Nat × List UInt8)) (k : Nat) : Prop :=
  ∃ D : Dk, DiskAt w B p pl D ∧ D.size = z ∧ D.lasts = L ∧ D.waits = ws ∧ D.steps = k ∧ D.fails = fun _ => false
set_option maxRecDepth 8000 in
theorem calm_next {D : Dk} (h : D.fails = fun _ => false) : D.next = false := by
  unfold Dk.next
  rw [h]
set_option maxRecDepth 8000 in
theorem calm_fails {D : Dk} (h : D.fails = fun _ => false) : D.stepped.fails = fun _ => false := by
  funext x
  show delS D.fails _ x = false
  rw [h]
  simp [delS]
section
variable {w : World} {B p : Nat} {pl : Pl} {z k : Nat} {L : Nat → List UInt8}
set_option maxRecDepth 8000 in
theorem calm_write (hc : Calm w B p pl z L [] k) (hB : B ≤ w.heap.size) (n : Nat) (hn : n < 2) (h : Hd) (hm : h.e ≤ 9223372036854775807) (hz : 20 + 3 * h.o = (z : Int)) (hk : k < 1000000) :
    Calls Try.prog 11 #[.pointer (some ⟨p, 0, none⟩), .int .i64 (n : Int), h.val] w fun r w' => r = .returned (.int .i64 (if h.ok then 0 else 2)) ∧ ∃ pl', Calm w' B p pl' z L (if h.ok then [(n, hdB h)] else []) (if h.ok then k + 1 else k) ∧ Fr (pl.has p) w w' ∧ ∀ q, pl'.has p q → pl.has p q ∨ w.heap.size ≤ q := by
  obtain ⟨D, hd, h1, h2, h3, h4, h5⟩ := hc
  by_cases hh : h.ok
  · rw [if_pos hh, if_pos hh, if_pos hh]
    obtain ⟨g1, g2, g3, g4, g5⟩ := hh
    obtain ⟨e, a, o⟩ := h
    dsimp only at g1 g2 g3 g4 g5 hm hz
    obtain ⟨e, rfl⟩ := Int.eq_ofNat_of_zero_le g1
    obtain ⟨a, rfl⟩ := Int.eq_ofNat_of_zero_le g2
    obtain ⟨o, rfl⟩ := Int.eq_ofNat_of_zero_le (show 0 ≤ o by omega)
    refine (hwrite_goes hd hB (by rw [h3]; simp) n e a o hn hm (by omega) (by omega) (by omega) (by omega) (calm_next h5)).mono ?_
    rintro r w' ⟨rfl, v, hd', hf, hq⟩
    refine ⟨rfl, _, ⟨_, hd', h1, h2, ?_, ?_, calm_fails h5⟩, hf, hq⟩
    · show D.waits ++ _ = _
      rw [h3]
      rfl
    · show D.steps + 1 = _
      rw [h4]
  · rw [if_neg hh, if_neg hh, if_neg hh]
    refine (hwrite_bad hd hd.size1 n h (.inr (.inr (.inl hh)))).mono ?_
    rintro r w' ⟨rfl, hb⟩
    exact ⟨rfl, pl, ⟨D, hd.below hb, h1, h2, h3, h4, h5⟩, (Fr.refl (pl.has p) w).below hb, fun q hq => .inl hq⟩
set_option maxRecDepth 8000 in
theorem calm_flush0 (hc : Calm w B p pl z L [] k) (hk : k < 1000000) :
    Calls Try.prog 24 #[.pointer (some ⟨p, 0, none⟩)] w fun r w' => r = .returned (.int .i64 0) ∧ Calm w' B p { pl with wv := .slice none 0 0 } z L [] (k + 1) ∧ Fr (pl.has p) w w' := by
  obtain ⟨D, hd, h1, h2, h3, h4, h5⟩ := hc
  refine (flush_goes hd (by rw [h3]; simp) (by omega) (calm_next h5)).mono ?_
  rintro r w' ⟨rfl, hd', hf⟩
  exact ⟨rfl, ⟨_, hd', h1, (flushed_nil8 (D := D.stepped) h3).trans h2, rfl, by show D.steps + 1 = _; rw [h4], calm_fails h5⟩, hf⟩
set_option maxRecDepth 8000 in
theorem calm_flush1 {n : Nat} {N : List UInt8} (hc : Calm w B p pl z L [(n, N)] k) (hN : N.length = 512) (hk : k < 1000000) :
    Calls Try.prog 24 #[.pointer (some ⟨p, 0, none⟩)] w fun r w' => r = .returned (.int .i64 0) ∧ Calm w' B p { pl with wv := .slice none 0 0 } z (upL L n N) [] (k + 1) ∧ Fr (pl.has p) w w' := by
  obtain ⟨D, hd, h1, h2, h3, h4, h5⟩ := hc
  refine (flush_goes hd (by rw [h3]; simp) (by omega) (calm_next h5)).mono ?_
  rintro r w' ⟨rfl, hd', hf⟩
  refine ⟨rfl, ⟨_, hd', h1, (flushed_one8 (D := D.stepped) h3 hN (hd.lens n)).trans ?_, rfl, by show D.steps + 1 = _; rw [h4], calm_fails h5⟩, hf⟩
  show upL D.lasts n N = _
  rw [h2]
end
end Go.Proofs.Ytjfcmoappbfnjaa

namespace Go.Proofs.Ytjfcmoappbfnjaa
open List renaming getElem_toArray → zq1, getElem_cons_succ → zq2, getElem_cons_zero → zq3, setIfInBounds_toArray → zq4, set_cons_zero → zq5, set_cons_succ → zq6
open Go.RowKit
attribute [local go_sem] Oper.semAt_some
theorem yields_neq145b {ops : Array Oper} {S : World → Prop} {o : Oper} {a : Act} (hw : Region.wanted o (yielded ops a.tmps) = true) (x y : Operand) (ho : o.op = .binOp .neq 138 x y 138) (l l' : List UInt8) (b : Bool) (hq : (!(l == l')) = b) (hx : a.eval x = sec l) (hy : a.eval y = sec l') (h : l.length = 8) (h' : l'.length = 8) : YieldsIf Try.prog ops S o (.bool b) a := hq ▸ yields_neq145 hw x y ho l l' hx hy h h'
set_option maxRecDepth 100000 in
set_option maxHeartbeats 4000000 in
theorem said_fine {w : World} (g c : Nat) (l : List UInt8) (hl : l.length = 512) (hc : 508 ≤ c) (hr : Rd w (some ⟨g, 0, none⟩) (l.take 508)) (he : eB l ≤ 9223372036854775807) :
    Calls Try.prog 68 #[.slice (some ⟨g, 0, none⟩) 508 c] w fun r w' => r = .returned (.tuple #[Hd.val ⟨eB l, aB l, oB l⟩, .int .i64 (Hd.no ⟨eB l, aB l, oB l⟩)]) ∧ Below w.heap.size w w' := by
  have hz := z23
  have C4 := Lib.hid (show ((l.take 508).drop 4).take 8 = S.bytesLE 8 (eB l) from (cutB_take l 4 8 (by omega)).trans (le_cut hl 4 8 (by omega)).symm)
  have C12 := Lib.hid (show ((l.take 508).drop 12).take 2 = S.bytesLE 2 (aB l) from (cutB_take l 12 2 (by omega)).trans (le_cut hl 12 2 (by omega)).symm)
  have C14 := Lib.hid (show ((l.take 508).drop 14).take 2 = S.bytesLE 2 (oB l) from (cutB_take l 14 2 (by omega)).trans (le_cut hl 14 2 (by omega)).symm)
  have ha := aB_lt l hl
  have ho := oB_lt l hl
  obtain ⟨e, hee⟩ : ∃ e, eB l = e := ⟨_, rfl⟩
  obtain ⟨a, haa⟩ : ∃ a, aB l = a := ⟨_, rfl⟩
  obtain ⟨o, hoo⟩ : ∃ o, oB l = o := ⟨_, rfl⟩
  rw [hee] at C4 he ⊢
  rw [haa] at C12 ha ⊢
  rw [hoo] at C14 ho ⊢
  obtain ⟨no, hno⟩ : ∃ no, Hd.no ⟨(e : Int), (a : Int), (o : Int)⟩ = no := ⟨_, rfl⟩
  rw [hno]
  have HK := Lib.hid hno
  have HE := Lib.hid (show (e : Int) ≤ 9223372036854775807 by omega)
  have HA := Lib.hid (show (a : Int) ≤ 65535 by omega)
  have HO := Lib.hid (show (o : Int) ≤ 65535 by omega)
  clear hee haa hoo hno ha ho
  have R0 := Lib.hid (hr.alloc (.cells (Hd.cs ⟨0, 0, 0⟩).toArray 28))
  have B0 := Lib.hid (Blk.new w 28 (Hd.cs ⟨0, 0, 0⟩).toArray)
  have L0 := Lib.hid ((Below.refl w.heap.size w).alloc (Nat.le_refl _) (.cells (Hd.cs ⟨0, 0, 0⟩).toArray 28))
  have c4 : 4 ≤ c := by omega
  have c12 : 12 ≤ c := by omega
  have c14 : 14 ≤ c := by omega
  have c16 : 16 ≤ c := by omega
  have e1 : (c = 4) = False := eq_false (by omega)
  clear hr he hl
  go_enter Try.func68, Try.ntmps68
  go_wp2_with fail
  refine (get_num e 8 9223372036854775807 rfl HE.out (some ⟨g, 4, none⟩) (c - 4) _ (by have := (R0.out.drop 4).take 8; rw [C4.out, Nat.zero_add] at this; exact this)).mono ?_
  rintro r W1 ⟨rfl, hb⟩
  have R1 := Lib.hid (R0.out.below hb)
  have B1 := Lib.hid (B0.out.below hb B0.out.lt)
  have L1 := Lib.hid (L0.out.trans (hb.mono L0.out.size))
  clear hb R0 B0 L0
  go_wp2_with fail
  refine (get_num a 2 65535 rfl HA.out (some ⟨g, 12, none⟩) (c - 12) _ (by have := (R1.out.drop 12).take 2; rw [C12.out, Nat.zero_add] at this; exact this)).mono ?_
  rintro r W2 ⟨rfl, hb⟩
  have R2 := Lib.hid (R1.out.below hb)
  have B2 := Lib.hid (B1.out.below hb B1.out.lt)
  have L2 := Lib.hid (L1.out.trans (hb.mono L1.out.size))
  clear hb R1 B1 L1
  go_wp2_with fail
  refine (get_num o 2 65535 rfl HO.out (some ⟨g, 14, none⟩) (c - 14) _ (by have := (R2.out.drop 14).take 2; rw [C14.out, Nat.zero_add] at this; exact this)).mono ?_
  rintro r W3 ⟨rfl, hb⟩
  have B3 := Lib.hid (B2.out.below hb B2.out.lt)
  have L3 := Lib.hid (L2.out.trans (hb.mono L2.out.size))
  clear hb R2 B2 L2
  have N4 := Lib.hid (blk_drew (Blk.new W3 28 (Hd.cs ⟨e, a, o⟩).toArray))
  have B4 := Lib.hid (blk_drew (B3.out.alloc (.cells (Hd.cs ⟨e, a, o⟩).toArray 28)))
  have L4 := Lib.hid ((L3.out.alloc L3.out.size (.cells (Hd.cs ⟨e, a, o⟩).toArray 28)).drew)
  have SZ := Lib.hid (show w.heap.size < W3.heap.size from B3.out.lt)
  clear B3 L3
  go_wp2_with fail
  refine wp_region_only (S := fun w' => Blk w' W3.heap.size 28 (Hd.cs ⟨e, a, o⟩).toArray) (by kernel_rfl) N4.out (fun hHeld => ?_)
  refine wpAnyH_take (i := 0) rfl (by kernel_rfl) (by kernel_rfl) (by kernel_rfl) (fun _ _ _ h => h) (yieldsIf_load_mid (by rfl) 28 (.tmp 10) (by rfl) W3.heap.size 0 (by rfl) (Hd.cs ⟨e, a, o⟩) _ (fun w' hSw => Blk.rangeAt (l := (Hd.cs ⟨e, a, o⟩)) hSw) Try.underlying28 rfl (size23 _)) hHeld ?_
  try simp only [Act.put, zq1, zq3, zq4, zq5, zq6]
  refine wpAnyH_take (i := 1) rfl (by kernel_rfl) (by kernel_rfl) (by kernel_rfl) (fun _ _ _ h => h) (yieldsIf_load_mid (by rfl) 28 (.tmp 10) (by rfl) W3.heap.size 0 (by rfl) (Hd.cs ⟨e, a, o⟩) _ (fun w' hSw => Blk.rangeAt (l := (Hd.cs ⟨e, a, o⟩)) hSw) Try.underlying28 rfl (size23 _)) hHeld ?_
  try simp only [Act.put, zq1, zq2, zq3, zq4, zq5, zq6]
  refine wpAnyH_ready (rs := [2]) (by kernel_rfl) (by simp) ?_
  refine AllReadyH.cons (by rfl) (fun K hK => ?_) AllReadyH.nil
  go_simp
  refine (check_any ⟨e, a, o⟩ _).mono ?_
  rw [HK.out]
  rintro r W5 ⟨rfl, hb⟩
  have N5 := Lib.hid (N4.out.below hb N4.out.lt)
  have B5 := Lib.hid (B4.out.below hb B4.out.lt)
  have L5 := Lib.hid (L4.out.trans (hb.mono L4.out.size))
  clear hb hHeld
  refine hK.out _ _ N5.out (fun hHeld => ?_)
  clear hK K
  try simp only [Act.put, zq1, zq2, zq3, zq4, zq5, zq6]
  refine wpAnyH_ready (rs := [3]) (by kernel_rfl) (by simp) ?_
  refine AllReadyH.cons (by rfl) (fun K hK => ?_) AllReadyH.nil
  refine step_store8 rfl 28 (.tmp 2) (.tmp 37) rfl (by rfl) (Hd.cs ⟨e, a, o⟩).toArray (Hd.cs ⟨0, 0, 0⟩).toArray 28 (by rfl) B5.out (by kernel_rfl) rfl (one23 _) ?_
  intro W6 j6 f6
  have B6 := Lib.hid j6
  have N6 := Lib.hid (f6.keepBlk N5.out (by have := SZ.out; omega))
  have L6 := Lib.hid (L5.out.trans (f6.to_below (fun k e => by omega) L5.out.size))
  clear hHeld j6 f6 N5 B5 L5
  refine hK.out _ _ N6.out (fun hHeld => ?_)
  clear hK K
  try simp only [Act.put, zq1, zq2, zq3]
  refine wpAnyH_take (i := 4) (v := ?v1) rfl (by kernel_rfl) (by kernel_rfl) (by kernel_rfl) (fun _ _ _ h => h) (Or.inl ⟨by rfl, ?hy1⟩) hHeld ?rest1
  case hy1 =>
    intro w' hSw
    try dsimp only at hSw
    go_simp
    first | done | with_reducible rfl
  try simp only [Act.put, zq1, zq2, zq3, zq4, zq5, zq6]
  refine wpAnyH_done (by kernel_rfl) ?_ _
  refine OnlyN.normal ?_
  clear hHeld
  go_wp2_with fail
  exact bodyPost_ret (results_hd rfl _ _ w.heap.size ⟨e, a, o⟩ rfl B6.out) rfl ⟨rfl, L6.out⟩
set_option maxRecDepth 100000 in
set_option maxHeartbeats 4000000 in
theorem said_big {w : World} (g c : Nat) (l : List UInt8) (hl : l.length = 512) (hc : 508 ≤ c) (hr : Rd w (some ⟨g, 0, none⟩) (l.take 508)) (he : ¬ eB l ≤ 9223372036854775807) :
    Calls Try.prog 68 #[.slice (some ⟨g, 0, none⟩) 508 c] w fun r w' => r = .returned (.tuple #[Hd.val ⟨0, 0, 0⟩, .int .i64 2]) ∧ Below w.heap.size w w' := by
  have hz := z23
  have R0 := Lib.hid (hr.alloc (.cells (Hd.cs ⟨0, 0, 0⟩).toArray 28))
  have B0 := Lib.hid (Blk.new w 28 (Hd.cs ⟨0, 0, 0⟩).toArray)
  have L0 := Lib.hid ((Below.refl w.heap.size w).alloc (Nat.le_refl _) (.cells (Hd.cs ⟨0, 0, 0⟩).toArray 28))
  have C4 := Lib.hid (show ((l.take 508).drop 4).take 8 = cutB l 4 8 from cutB_take l 4 8 (by omega))
  have L8 := Lib.hid (cutB_length hl 4 8 (by omega))
  have HE := Lib.hid (show ¬ (S.numLE (cutB l 4 8) : Int) ≤ 9223372036854775807 by unfold eB at he; omega)
  have c4 : 4 ≤ c := by omega
  have c12 : 12 ≤ c := by omega
  have e1 : (c = 4) = False := eq_false (by omega)
  clear hr he hl
  go_enter Try.func68, Try.ntmps68
  go_wp2_with fail
  refine (S.get_some (some ⟨g, 4, none⟩) 8 (c - 4) (cutB l 4 8) 9223372036854775807 _ L8.out (by have := (R0.out.drop 4).take 8; rw [C4.out, Nat.zero_add] at this; exact this) rfl).mono ?_
  rw [if_neg (by have := HE.out; omega)]
  rintro r W1 ⟨rfl, hb⟩
  have B1 := Lib.hid (B0.out.below hb B0.out.lt)
  have L1 := Lib.hid (L0.out.trans (hb.mono L0.out.size))
  clear hb R0 B0 L0
  go_wp2_with (first
    | (refine wpList_store_row rfl 28 (.tmp 2) (.tmp 19) rfl w.heap.size (Hd.cs ⟨0, 0, 0⟩).toArray rfl rfl 28 _ B1.out (by kernel_rfl) rfl (one23 _) ?_))
  exact bodyPost_ret (results_hd rfl _ _ w.heap.size ⟨0, 0, 0⟩ rfl (B1.out.setRow _)) rfl ⟨rfl, L1.out.trans ((setRow_fr8 _ _ _).to_below (fun k e => by omega) L1.out.size)⟩
set_option maxRecDepth 100000 in
set_option maxHeartbeats 4000000 in
theorem headerOf_mark {w : World} (l : List UInt8) (hl : l.length = 512) (hq : ((S.numLE (l.drop 508) : Int) != (S.crcN (l.take 508) : Int)) = false) (q1 : ¬ cutB l 0 4 = [67, 72, 72, 68]) :
    Calls Try.prog 50 #[sec l] w fun r w' => r = .returned (.tuple #[Hd.val ⟨0, 0, 0⟩, .bool false]) ∧ Below w.heap.size w w' := by
  have hz := z23
  have HLN := Lib.hid hl
  have hbl : (bv l).length = 512 := by rw [bv_length, hl]
  have B0 := Lib.hid ((Blk.new w 56 (bv l).toArray).alloc (.cells (Hd.cs ⟨0, 0, 0⟩).toArray 28))
  have B1 := Lib.hid (blk_new1 w (.cells (bv l).toArray 56) 28 (Hd.cs ⟨0, 0, 0⟩).toArray)
  have L0 := Lib.hid (((Below.refl w.heap.size w).alloc (Nat.le_refl _) (.cells (bv l).toArray 56)).alloc (by simp) (.cells (Hd.cs ⟨0, 0, 0⟩).toArray 28))
  obtain ⟨zz, hzz⟩ : ∃ zz : List UInt8, zz = List.replicate 484 0 := ⟨_, rfl⟩
  have HZ := Lib.hid (show zz.length = 484 by rw [hzz, List.length_replicate])
  have HZZ := Lib.hid hzz
  have C0 := Lib.hid (show (l.take 508).take 4 = cutB l 0 4 from (show _ = ((l.take 508).drop 0).take 4 from rfl).trans (cutB_take l 0 4 (by omega)))
  have C16 := Lib.hid (show ((l.take 508).drop 16).take 484 = cutB l 16 484 from cutB_take l 16 484 (by omega))
  have C4 := Lib.hid (show ((l.take 508).drop 4).take 8 = cutB l 4 8 from cutB_take l 4 8 (by omega))
  have C500 := Lib.hid (show ((l.take 508).drop 500).take 8 = cutB l 500 8 from cutB_take l 500 8 (by omega))
  have N16 := Lib.hid (cutB_length hl 16 484 (by omega))
  have N4 := Lib.hid (cutB_length hl 4 8 (by omega))
  have N500 := Lib.hid (cutB_length hl 500 8 (by omega))
  have HQ := Lib.hid hq
  have hn1 : ((st (cutB l 0 4)).toList == [67, 72, 72, 68]) = false := by rw [st_toList]; exact beq_eq_false_iff_ne.2 q1
  clear q1
  clear hl hq hzz
  go_enter Try.func50, Try.ntmps50
  go_wp2_with fail
  refine wp_scope_jumps 0 (fun a' w' => (∃ t4 t5 t6 t7 t8 t9 t10 t11 t12 t13 t14 t15 t16 t17 t18 t19 t20 t21 t22 t23 t24 t25 t26 t27 t28 t29 t30 t31 t32 t33 t34 t35 t36 t37 t38 t39 t40 t41 t42 t43 : Value, a' = { tmps := #[sec l, .pointer (some ⟨w.heap.size, 0, none⟩), .pointer (some ⟨w.heap.size + 1, 0, none⟩), .bool false, t4, t5, t6, t7, t8, t9, t10, t11, t12, t13, t14, t15, t16, t17, t18, t19, t20, t21, t22, t23, t24, t25, t26, t27, t28, t29, t30, t31, t32, t33, t34, t35, t36, t37, t38, t39, t40, t41, t42, t43], defers := [] }) ∧ (∃ u : Hd, Blk w' (w.heap.size + 1) 28 u.cs.toArray) ∧ Below w.heap.size w w') (fun _ _ => 0) rfl ?first ?pass
  case first =>
    go_wp2_with fail
    refine (S.sealed_yes (some ⟨w.heap.size, 0, none⟩) 508 512 l _ HLN.out (by omega) (rd_bv B0.out) (by omega) HQ.out).mono ?_
    rintro r W1 ⟨v, rfl, hown, hb⟩
    obtain ⟨A', c, rfl⟩ := own_shape hown
    obtain ⟨g, rfl, hg, hgl⟩ := own_addr' hown (by omega)
    have hc := own_cap hown
    have RG := Lib.hid (own_range hown)
    have RR := Lib.hid (Rd.of_own hown)
    have B2 := Lib.hid (B1.out.below hb B1.out.lt)
    have L1 := Lib.hid (L0.out.trans (hb.mono L0.out.size))
    have hcv : (convert 22 9 (.slice (some ⟨g, 0, none⟩) 4 c)).run Try.prog W1 = .ok (.string (st (cutB l 0 4))) W1 := by
      have h4 := RR.out.take 4
      rw [C0.out] at h4
      exact run_str W1 Try.underlying22 Try.underlying5 Try.underlying9 (cutB_length HLN.out 0 4 (by omega)) h4
    have hr1 := fun W : World => arr_run Try.underlying137 W (some ⟨g, 16, none⟩) 484 (c - 16) (Nat.le_refl _)
    have hr2 := fun W : World => arr_run Try.underlying138 W (some ⟨g, 4, none⟩) 8 (c - 4) (Nat.le_refl _)
    have hr3 := fun W : World => arr_run Try.underlying138 W (some ⟨g, 500, none⟩) 8 (c - 500) (Nat.le_refl _)
    have c4 : 4 ≤ c := by omega
    have c12 : 12 ≤ c := by omega
    have c500 : 500 ≤ c := by omega
    have k12 : (12 : Int) ≤ (c : Int) := by omega
    have k508 : (508 : Int) ≤ (c : Int) := by omega
    have k500 : (500 : Int) ≤ (c : Int) := by omega
    have e4 : ¬ c = 4 := by omega
    have e16 : ¬ c = 16 := by omega
    have e500 : ¬ c = 500 := by omega
    clear hown hb hg hgl B0 B1 L0 hbl
    go_wp2_with fail
    go_step3
    exact ⟨rfl, ⟨_, _, _, _, _, _, _, _, _, _, _, _, _, _, _, _, _, _, _, _, _, _, _, _, _, _, _, _, _, _, _, _, _, _, _, _, _, _, _, _, rfl⟩, ⟨_, B2.out⟩, L1.out⟩
  case pass =>
    rintro a' W9 ⟨⟨t4, t5, t6, t7, t8, t9, t10, t11, t12, t13, t14, t15, t16, t17, t18, t19, t20, t21, t22, t23, t24, t25, t26, t27, t28, t29, t30, t31, t32, t33, t34, t35, t36, t37, t38, t39, t40, t41, t42, t43, rfl⟩, ⟨u, b2⟩, l2⟩
    have B9 := Lib.hid b2
    have L9 := Lib.hid l2
    clear b2 l2
    go_wp2_with (first
      | (refine wpList_store_row rfl 28 (.tmp 2) (.tmp 43) rfl (w.heap.size + 1) (Hd.cs ⟨0, 0, 0⟩).toArray rfl rfl 28 _ B9.out (by kernel_rfl) rfl (one23 _) ?_))
    simp only [Exit.jump]
    exact bodyPost_ret (results_hd rfl _ _ (w.heap.size + 1) ⟨0, 0, 0⟩ rfl (B9.out.setRow _)) rfl ⟨rfl, below_setRow L9.out (by omega) _⟩
set_option maxRecDepth 100000 in
set_option maxHeartbeats 4000000 in
theorem headerOf_noughts {w : World} (l : List UInt8) (hl : l.length = 512) (hq : ((S.numLE (l.drop 508) : Int) != (S.crcN (l.take 508) : Int)) = false) (q1 : cutB l 0 4 = [67, 72, 72, 68]) (q2 : ¬ cutB l 16 484 = List.replicate 484 0) :
    Calls Try.prog 50 #[sec l] w fun r w' => r = .returned (.tuple #[Hd.val ⟨0, 0, 0⟩, .bool false]) ∧ Below w.heap.size w w' := by
  have hz := z23
  have HLN := Lib.hid hl
  have hbl : (bv l).length = 512 := by rw [bv_length, hl]
  have B0 := Lib.hid ((Blk.new w 56 (bv l).toArray).alloc (.cells (Hd.cs ⟨0, 0, 0⟩).toArray 28))
  have B1 := Lib.hid (blk_new1 w (.cells (bv l).toArray 56) 28 (Hd.cs ⟨0, 0, 0⟩).toArray)
  have L0 := Lib.hid (((Below.refl w.heap.size w).alloc (Nat.le_refl _) (.cells (bv l).toArray 56)).alloc (by simp) (.cells (Hd.cs ⟨0, 0, 0⟩).toArray 28))
  obtain ⟨zz, hzz⟩ : ∃ zz : List UInt8, zz = List.replicate 484 0 := ⟨_, rfl⟩
  have HZ := Lib.hid (show zz.length = 484 by rw [hzz, List.length_replicate])
  have HZZ := Lib.hid hzz
  have C0 := Lib.hid (show (l.take 508).take 4 = cutB l 0 4 from (show _ = ((l.take 508).drop 0).take 4 from rfl).trans (cutB_take l 0 4 (by omega)))
  have C16 := Lib.hid (show ((l.take 508).drop 16).take 484 = cutB l 16 484 from cutB_take l 16 484 (by omega))
  have C4 := Lib.hid (show ((l.take 508).drop 4).take 8 = cutB l 4 8 from cutB_take l 4 8 (by omega))
  have C500 := Lib.hid (show ((l.take 508).drop 500).take 8 = cutB l 500 8 from cutB_take l 500 8 (by omega))
  have N16 := Lib.hid (cutB_length hl 16 484 (by omega))
  have N4 := Lib.hid (cutB_length hl 4 8 (by omega))
  have N500 := Lib.hid (cutB_length hl 500 8 (by omega))
  have HQ := Lib.hid hq
  have Q1 := Lib.hid q1
  clear q1
  have Q2 := Lib.hid (show (!(cutB l 16 484 == zz)) = true by rw [hzz]; simpa using q2)
  clear q2
  clear hl hq hzz
  go_enter Try.func50, Try.ntmps50
  go_wp2_with fail
  refine wp_scope_jumps 0 (fun a' w' => (∃ t4 t5 t6 t7 t8 t9 t10 t11 t12 t13 t14 t15 t16 t17 t18 t19 t20 t21 t22 t23 t24 t25 t26 t27 t28 t29 t30 t31 t32 t33 t34 t35 t36 t37 t38 t39 t40 t41 t42 t43 : Value, a' = { tmps := #[sec l, .pointer (some ⟨w.heap.size, 0, none⟩), .pointer (some ⟨w.heap.size + 1, 0, none⟩), .bool false, t4, t5, t6, t7, t8, t9, t10, t11, t12, t13, t14, t15, t16, t17, t18, t19, t20, t21, t22, t23, t24, t25, t26, t27, t28, t29, t30, t31, t32, t33, t34, t35, t36, t37, t38, t39, t40, t41, t42, t43], defers := [] }) ∧ (∃ u : Hd, Blk w' (w.heap.size + 1) 28 u.cs.toArray) ∧ Below w.heap.size w w') (fun _ _ => 0) rfl ?first ?pass
  case first =>
    go_wp2_with fail
    refine (S.sealed_yes (some ⟨w.heap.size, 0, none⟩) 508 512 l _ HLN.out (by omega) (rd_bv B0.out) (by omega) HQ.out).mono ?_
    rintro r W1 ⟨v, rfl, hown, hb⟩
    obtain ⟨A', c, rfl⟩ := own_shape hown
    obtain ⟨g, rfl, hg, hgl⟩ := own_addr' hown (by omega)
    have hc := own_cap hown
    have RG := Lib.hid (own_range hown)
    have RR := Lib.hid (Rd.of_own hown)
    have B2 := Lib.hid (B1.out.below hb B1.out.lt)
    have L1 := Lib.hid (L0.out.trans (hb.mono L0.out.size))
    have hcv : (convert 22 9 (.slice (some ⟨g, 0, none⟩) 4 c)).run Try.prog W1 = .ok (.string (st (cutB l 0 4))) W1 := by
      have h4 := RR.out.take 4
      rw [C0.out] at h4
      exact run_str W1 Try.underlying22 Try.underlying5 Try.underlying9 (cutB_length HLN.out 0 4 (by omega)) h4
    rw [Q1.out] at hcv
    replace hcv : (convert 22 9 (.slice (some ⟨g, 0, none⟩) 4 c)).run Try.prog W1 = .ok (.string ⟨#[67, 72, 72, 68]⟩) W1 := hcv
    have hr1 := fun W : World => arr_run Try.underlying137 W (some ⟨g, 16, none⟩) 484 (c - 16) (Nat.le_refl _)
    have hr2 := fun W : World => arr_run Try.underlying138 W (some ⟨g, 4, none⟩) 8 (c - 4) (Nat.le_refl _)
    have hr3 := fun W : World => arr_run Try.underlying138 W (some ⟨g, 500, none⟩) 8 (c - 500) (Nat.le_refl _)
    have c4 : 4 ≤ c := by omega
    have c12 : 12 ≤ c := by omega
    have c500 : 500 ≤ c := by omega
    have k12 : (12 : Int) ≤ (c : Int) := by omega
    have k508 : (508 : Int) ≤ (c : Int) := by omega
    have k500 : (500 : Int) ≤ (c : Int) := by omega
    have e4 : ¬ c = 4 := by omega
    have e16 : ¬ c = 16 := by omega
    have e500 : ¬ c = 500 := by omega
    clear hown hb hg hgl B0 B1 L0 hbl
    go_wp2_with (first
      | (refine wpList_load_mid rfl 137 (.tmp 22) rfl g 16 rfl (bv (cutB l 16 484)) _ (hd_range8 RG.out C16.out) Try.underlying137 rfl (by rw [bv_length, N16.out]; exact size144) ?_)
      | (refine wpList_y8 (S := fun _ => True) (yields_build144 zz HZZ.out (by rfl) rfl) trivial ?_)
      | (refine wpList_y8 (S := fun _ => True) (yields_neq144 (by rfl) (.tmp 23) (.tmp 24) rfl (cutB l 16 484) zz (by rfl) (by rfl) N16.out HZ.out) trivial ?_; rw [Q2.out]))
    go_step3
    exact ⟨rfl, ⟨_, _, _, _, _, _, _, _, _, _, _, _, _, _, _, _, _, _, _, _, _, _, _, _, _, _, _, _, _, _, _, _, _, _, _, _, _, _, _, _, rfl⟩, ⟨_, B2.out⟩, L1.out⟩
  case pass =>
    rintro a' W9 ⟨⟨t4, t5, t6, t7, t8, t9, t10, t11, t12, t13, t14, t15, t16, t17, t18, t19, t20, t21, t22, t23, t24, t25, t26, t27, t28, t29, t30, t31, t32, t33, t34, t35, t36, t37, t38, t39, t40, t41, t42, t43, rfl⟩, ⟨u, b2⟩, l2⟩
    have B9 := Lib.hid b2
    have L9 := Lib.hid l2
    clear b2 l2
    go_wp2_with (first
      | (refine wpList_store_row rfl 28 (.tmp 2) (.tmp 43) rfl (w.heap.size + 1) (Hd.cs ⟨0, 0, 0⟩).toArray rfl rfl 28 _ B9.out (by kernel_rfl) rfl (one23 _) ?_))
    simp only [Exit.jump]
    exact bodyPost_ret (results_hd rfl _ _ (w.heap.size + 1) ⟨0, 0, 0⟩ rfl (B9.out.setRow _)) rfl ⟨rfl, below_setRow L9.out (by omega) _⟩
set_option maxRecDepth 100000 in
set_option maxHeartbeats 4000000 in
theorem headerOf_ed {w : World} (l : List UInt8) (hl : l.length = 512) (hq : ((S.numLE (l.drop 508) : Int) != (S.crcN (l.take 508) : Int)) = false) (q1 : cutB l 0 4 = [67, 72, 72, 68]) (q2 : cutB l 16 484 = List.replicate 484 0) (q3 : ¬ cutB l 4 8 = cutB l 500 8) :
    Calls Try.prog 50 #[sec l] w fun r w' => r = .returned (.tuple #[Hd.val ⟨0, 0, 0⟩, .bool false]) ∧ Below w.heap.size w w' := by
  have hz := z23
  have HLN := Lib.hid hl
  have hbl : (bv l).length = 512 := by rw [bv_length, hl]
  have B0 := Lib.hid ((Blk.new w 56 (bv l).toArray).alloc (.cells (Hd.cs ⟨0, 0, 0⟩).toArray 28))
  have B1 := Lib.hid (blk_new1 w (.cells (bv l).toArray 56) 28 (Hd.cs ⟨0, 0, 0⟩).toArray)
  have L0 := Lib.hid (((Below.refl w.heap.size w).alloc (Nat.le_refl _) (.cells (bv l).toArray 56)).alloc (by simp) (.cells (Hd.cs ⟨0, 0, 0⟩).toArray 28))
  obtain ⟨zz, hzz⟩ : ∃ zz : List UInt8, zz = List.replicate 484 0 := ⟨_, rfl⟩
  have HZ := Lib.hid (show zz.length = 484 by rw [hzz, List.length_replicate])
  have HZZ := Lib.hid hzz
  have C0 := Lib.hid (show (l.take 508).take 4 = cutB l 0 4 from (show _ = ((l.take 508).drop 0).take 4 from rfl).trans (cutB_take l 0 4 (by omega)))
  have C16 := Lib.hid (show ((l.take 508).drop 16).take 484 = cutB l 16 484 from cutB_take l 16 484 (by omega))
  have C4 := Lib.hid (show ((l.take 508).drop 4).take 8 = cutB l 4 8 from cutB_take l 4 8 (by omega))
  have C500 := Lib.hid (show ((l.take 508).drop 500).take 8 = cutB l 500 8 from cutB_take l 500 8 (by omega))
  have N16 := Lib.hid (cutB_length hl 16 484 (by omega))
  have N4 := Lib.hid (cutB_length hl 4 8 (by omega))
  have N500 := Lib.hid (cutB_length hl 500 8 (by omega))
  have HQ := Lib.hid hq
  have Q1 := Lib.hid q1
  clear q1
  have Q2 := Lib.hid (show (!(cutB l 16 484 == zz)) = false by rw [hzz, q2]; simp)
  clear q2
  have Q3 := Lib.hid (show (!(cutB l 4 8 == cutB l 500 8)) = true by simpa using q3)
  clear q3
  clear hl hq hzz
  go_enter Try.func50, Try.ntmps50
  go_wp2_with fail
  refine wp_scope_jumps 0 (fun a' w' => (∃ t4 t5 t6 t7 t8 t9 t10 t11 t12 t13 t14 t15 t16 t17 t18 t19 t20 t21 t22 t23 t24 t25 t26 t27 t28 t29 t30 t31 t32 t33 t34 t35 t36 t37 t38 t39 t40 t41 t42 t43 : Value, a' = { tmps := #[sec l, .pointer (some ⟨w.heap.size, 0, none⟩), .pointer (some ⟨w.heap.size + 1, 0, none⟩), .bool false, t4, t5, t6, t7, t8, t9, t10, t11, t12, t13, t14, t15, t16, t17, t18, t19, t20, t21, t22, t23, t24, t25, t26, t27, t28, t29, t30, t31, t32, t33, t34, t35, t36, t37, t38, t39, t40, t41, t42, t43], defers := [] }) ∧ (∃ u : Hd, Blk w' (w.heap.size + 1) 28 u.cs.toArray) ∧ Below w.heap.size w w') (fun _ _ => 0) rfl ?first ?pass
  case first =>
    go_wp2_with fail
    refine (S.sealed_yes (some ⟨w.heap.size, 0, none⟩) 508 512 l _ HLN.out (by omega) (rd_bv B0.out) (by omega) HQ.out).mono ?_
    rintro r W1 ⟨v, rfl, hown, hb⟩
    obtain ⟨A', c, rfl⟩ := own_shape hown
    obtain ⟨g, rfl, hg, hgl⟩ := own_addr' hown (by omega)
    have hc := own_cap hown
    have RG := Lib.hid (own_range hown)
    have RR := Lib.hid (Rd.of_own hown)
    have B2 := Lib.hid (B1.out.below hb B1.out.lt)
    have L1 := Lib.hid (L0.out.trans (hb.mono L0.out.size))
    have hcv : (convert 22 9 (.slice (some ⟨g, 0, none⟩) 4 c)).run Try.prog W1 = .ok (.string (st (cutB l 0 4))) W1 := by
      have h4 := RR.out.take 4
      rw [C0.out] at h4
      exact run_str W1 Try.underlying22 Try.underlying5 Try.underlying9 (cutB_length HLN.out 0 4 (by omega)) h4
    rw [Q1.out] at hcv
    replace hcv : (convert 22 9 (.slice (some ⟨g, 0, none⟩) 4 c)).run Try.prog W1 = .ok (.string ⟨#[67, 72, 72, 68]⟩) W1 := hcv
    have hr1 := fun W : World => arr_run Try.underlying137 W (some ⟨g, 16, none⟩) 484 (c - 16) (Nat.le_refl _)
    have hr2 := fun W : World => arr_run Try.underlying138 W (some ⟨g, 4, none⟩) 8 (c - 4) (Nat.le_refl _)
    have hr3 := fun W : World => arr_run Try.underlying138 W (some ⟨g, 500, none⟩) 8 (c - 500) (Nat.le_refl _)
    have c4 : 4 ≤ c := by omega
    have c12 : 12 ≤ c := by omega
    have c500 : 500 ≤ c := by omega
    have k12 : (12 : Int) ≤ (c : Int) := by omega
    have k508 : (508 : Int) ≤ (c : Int) := by omega
    have k500 : (500 : Int) ≤ (c : Int) := by omega
    have e4 : ¬ c = 4 := by omega
    have e16 : ¬ c = 16 := by omega
    have e500 : ¬ c = 500 := by omega
    clear hown hb hg hgl B0 B1 L0 hbl
    go_wp2_with (first
      | (refine wpList_load_mid rfl 137 (.tmp 22) rfl g 16 rfl (bv (cutB l 16 484)) _ (hd_range8 RG.out C16.out) Try.underlying137 rfl (by rw [bv_length, N16.out]; exact size144) ?_)
      | (refine wpList_y8 (S := fun _ => True) (yields_build144 zz HZZ.out (by rfl) rfl) trivial ?_)
      | (refine wpList_y8 (S := fun _ => True) (yields_neq144 (by rfl) (.tmp 23) (.tmp 24) rfl (cutB l 16 484) zz (by rfl) (by rfl) N16.out HZ.out) trivial ?_; rw [Q2.out]))
    refine wp_region_only (S := fun w' => w'.rangeAt g 0 (bv (l.take 508))) (by kernel_rfl) RG.out (fun hHeld => ?_)
    refine wpAnyH_take (i := 0) (v := ?v1) rfl (by kernel_rfl) (by kernel_rfl) (by kernel_rfl) (fun _ _ _ h => h) (Or.inl ⟨by rfl, ?hy1⟩) hHeld ?rest1
    case hy1 =>
      intro w' hSw
      try dsimp only at hSw
      go_simp
      first | done | with_reducible rfl
    try simp only [Act.put, zq1, zq3, zq4, zq5, zq6]
    refine wpAnyH_take (i := 1) (v := ?v2) rfl (by kernel_rfl) (by kernel_rfl) (by kernel_rfl) (fun _ _ _ h => h) (Or.inl ⟨by rfl, ?hy2⟩) hHeld ?rest2
    case hy2 =>
      intro w' hSw
      try dsimp only at hSw
      go_simp
      first | done | with_reducible rfl
    try simp only [Act.put, zq1, zq2, zq3, zq4, zq5, zq6]
    refine wpAnyH_take (i := 2) (v := ?v3) rfl (by kernel_rfl) (by kernel_rfl) (by kernel_rfl) (fun _ _ _ h => h) (Or.inl ⟨by rfl, ?hy3⟩) hHeld ?rest3
    case hy3 =>
      intro w' hSw
      try dsimp only at hSw
      go_simp
      first | done | with_reducible rfl
    try simp only [Act.put, zq1, zq2, zq3, zq4, zq5, zq6]
    refine wpAnyH_take (i := 3) rfl (by kernel_rfl) (by kernel_rfl) (by kernel_rfl) (fun _ _ _ h => h) (yieldsIf_load_mid (by rfl) 138 (.tmp 28) (by rfl) g 4 (by rfl) (bv (cutB l 4 8)) _ (fun w' hSw => hd_range8 hSw C4.out) Try.underlying138 rfl (by rw [bv_length, N4.out]; exact size145)) hHeld ?_
    try simp only [Act.put, zq1, zq2, zq3, zq4, zq5, zq6]
    refine wpAnyH_take (i := 4) (v := ?v4) rfl (by kernel_rfl) (by kernel_rfl) (by kernel_rfl) (fun _ _ _ h => h) (Or.inl ⟨by rfl, ?hy4⟩) hHeld ?rest4
    case hy4 =>
      intro w' hSw
      try dsimp only at hSw
      go_simp
      first | done | with_reducible rfl
    try simp only [Act.put, zq1, zq2, zq3, zq4, zq5, zq6]
    refine wpAnyH_take (i := 5) (v := ?v5) rfl (by kernel_rfl) (by kernel_rfl) (by kernel_rfl) (fun _ _ _ h => h) (Or.inl ⟨by rfl, ?hy5⟩) hHeld ?rest5
    case hy5 =>
      intro w' hSw
      try dsimp only at hSw
      go_simp
      first | done | with_reducible rfl
    try simp only [Act.put, zq1, zq2, zq3, zq4, zq5, zq6]
    refine wpAnyH_take (i := 6) (v := ?v6) rfl (by kernel_rfl) (by kernel_rfl) (by kernel_rfl) (fun _ _ _ h => h) (Or.inl ⟨by rfl, ?hy6⟩) hHeld ?rest6
    case hy6 =>
      intro w' hSw
      try dsimp only at hSw
      go_simp
      first | done | with_reducible rfl
    try simp only [Act.put, zq1, zq2, zq3, zq4, zq5, zq6]
    refine wpAnyH_take (i := 7) rfl (by kernel_rfl) (by kernel_rfl) (by kernel_rfl) (fun _ _ _ h => h) (yieldsIf_load_mid (by rfl) 138 (.tmp 32) (by rfl) g 500 (by rfl) (bv (cutB l 500 8)) _ (fun w' hSw => hd_range8 hSw C500.out) Try.underlying138 rfl (by rw [bv_length, N500.out]; exact size145)) hHeld ?_
    try simp only [Act.put, zq1, zq2, zq3, zq4, zq5, zq6]
    refine wpAnyH_take (i := 8) rfl (by kernel_rfl) (by kernel_rfl) (by kernel_rfl) (fun _ _ _ h => h) (yields_neq145b (by rfl) (.tmp 29) (.tmp 33) (by rfl) (cutB l 4 8) (cutB l 500 8) _ Q3.out (by rfl) (by rfl) N4.out N500.out) hHeld ?_
    try simp only [Act.put, zq1, zq2, zq3, zq4, zq5, zq6]
    refine wpAnyH_done (by kernel_rfl) ?_ _
    refine OnlyN.normal ?_
    try clear hHeld
    replace RR := Lib.hid (show Rd W1.drew (some ⟨g, 0, none⟩) (l.take 508) from RR.out)
    replace B2 := Lib.hid (blk_drew B2.out)
    replace L1 := Lib.hid L1.out.drew
    go_wp2_with fail
    go_step3
    exact ⟨rfl, ⟨_, _, _, _, _, _, _, _, _, _, _, _, _, _, _, _, _, _, _, _, _, _, _, _, _, _, _, _, _, _, _, _, _, _, _, _, _, _, _, _, rfl⟩, ⟨_, B2.out⟩, L1.out⟩
  case pass =>
    rintro a' W9 ⟨⟨t4, t5, t6, t7, t8, t9, t10, t11, t12, t13, t14, t15, t16, t17, t18, t19, t20, t21, t22, t23, t24, t25, t26, t27, t28, t29, t30, t31, t32, t33, t34, t35, t36, t37, t38, t39, t40, t41, t42, t43, rfl⟩, ⟨u, b2⟩, l2⟩
    have B9 := Lib.hid b2
    have L9 := Lib.hid l2
    clear b2 l2
    go_wp2_with (first
      | (refine wpList_store_row rfl 28 (.tmp 2) (.tmp 43) rfl (w.heap.size + 1) (Hd.cs ⟨0, 0, 0⟩).toArray rfl rfl 28 _ B9.out (by kernel_rfl) rfl (one23 _) ?_))
    simp only [Exit.jump]
    exact bodyPost_ret (results_hd rfl _ _ (w.heap.size + 1) ⟨0, 0, 0⟩ rfl (B9.out.setRow _)) rfl ⟨rfl, below_setRow L9.out (by omega) _⟩
set_option maxRecDepth 100000 in
set_option maxHeartbeats 4000000 in
theorem headerOf_big {w : World} (l : List UInt8) (hl : l.length = 512) (hq : ((S.numLE (l.drop 508) : Int) != (S.crcN (l.take 508) : Int)) = false) (q1 : cutB l 0 4 = [67, 72, 72, 68]) (q2 : cutB l 16 484 = List.replicate 484 0) (q3 : cutB l 4 8 = cutB l 500 8) (he : ¬ eB l ≤ 9223372036854775807) :
    Calls Try.prog 50 #[sec l] w fun r w' => r = .returned (.tuple #[Hd.val ⟨0, 0, 0⟩, .bool false]) ∧ Below w.heap.size w w' := by
  have hz := z23
  have HLN := Lib.hid hl
  have hbl : (bv l).length = 512 := by rw [bv_length, hl]
  have B0 := Lib.hid ((Blk.new w 56 (bv l).toArray).alloc (.cells (Hd.cs ⟨0, 0, 0⟩).toArray 28))
  have B1 := Lib.hid (blk_new1 w (.cells (bv l).toArray 56) 28 (Hd.cs ⟨0, 0, 0⟩).toArray)
  have L0 := Lib.hid (((Below.refl w.heap.size w).alloc (Nat.le_refl _) (.cells (bv l).toArray 56)).alloc (by simp) (.cells (Hd.cs ⟨0, 0, 0⟩).toArray 28))
  obtain ⟨zz, hzz⟩ : ∃ zz : List UInt8, zz = List.replicate 484 0 := ⟨_, rfl⟩
  have HZ := Lib.hid (show zz.length = 484 by rw [hzz, List.length_replicate])
  have HZZ := Lib.hid hzz
  have C0 := Lib.hid (show (l.take 508).take 4 = cutB l 0 4 from (show _ = ((l.take 508).drop 0).take 4 from rfl).trans (cutB_take l 0 4 (by omega)))
  have C16 := Lib.hid (show ((l.take 508).drop 16).take 484 = cutB l 16 484 from cutB_take l 16 484 (by omega))
  have C4 := Lib.hid (show ((l.take 508).drop 4).take 8 = cutB l 4 8 from cutB_take l 4 8 (by omega))
  have C500 := Lib.hid (show ((l.take 508).drop 500).take 8 = cutB l 500 8 from cutB_take l 500 8 (by omega))
  have N16 := Lib.hid (cutB_length hl 16 484 (by omega))
  have N4 := Lib.hid (cutB_length hl 4 8 (by omega))
  have N500 := Lib.hid (cutB_length hl 500 8 (by omega))
  have HQ := Lib.hid hq
  have Q1 := Lib.hid q1
  clear q1
  have Q2 := Lib.hid (show (!(cutB l 16 484 == zz)) = false by rw [hzz, q2]; simp)
  clear q2
  have Q3 := Lib.hid (show (!(cutB l 4 8 == cutB l 500 8)) = false by rw [q3]; simp)
  clear q3
  have HE := Lib.hid he
  clear he
  clear hl hq hzz
  go_enter Try.func50, Try.ntmps50
  go_wp2_with fail
  refine wp_scope_jumps 0 (fun a' w' => (∃ t4 t5 t6 t7 t8 t9 t10 t11 t12 t13 t14 t15 t16 t17 t18 t19 t20 t21 t22 t23 t24 t25 t26 t27 t28 t29 t30 t31 t32 t33 t34 t35 t36 t37 t38 t39 t40 t41 t42 t43 : Value, a' = { tmps := #[sec l, .pointer (some ⟨w.heap.size, 0, none⟩), .pointer (some ⟨w.heap.size + 1, 0, none⟩), .bool false, t4, t5, t6, t7, t8, t9, t10, t11, t12, t13, t14, t15, t16, t17, t18, t19, t20, t21, t22, t23, t24, t25, t26, t27, t28, t29, t30, t31, t32, t33, t34, t35, t36, t37, t38, t39, t40, t41, t42, t43], defers := [] }) ∧ (∃ u : Hd, Blk w' (w.heap.size + 1) 28 u.cs.toArray) ∧ Below w.heap.size w w') (fun _ _ => 0) rfl ?first ?pass
  case first =>
    go_wp2_with fail
    refine (S.sealed_yes (some ⟨w.heap.size, 0, none⟩) 508 512 l _ HLN.out (by omega) (rd_bv B0.out) (by omega) HQ.out).mono ?_
    rintro r W1 ⟨v, rfl, hown, hb⟩
    obtain ⟨A', c, rfl⟩ := own_shape hown
    obtain ⟨g, rfl, hg, hgl⟩ := own_addr' hown (by omega)
    have hc := own_cap hown
    have RG := Lib.hid (own_range hown)
    have RR := Lib.hid (Rd.of_own hown)
    have B2 := Lib.hid (B1.out.below hb B1.out.lt)
    have L1 := Lib.hid (L0.out.trans (hb.mono L0.out.size))
    have hcv : (convert 22 9 (.slice (some ⟨g, 0, none⟩) 4 c)).run Try.prog W1 = .ok (.string (st (cutB l 0 4))) W1 := by
      have h4 := RR.out.take 4
      rw [C0.out] at h4
      exact run_str W1 Try.underlying22 Try.underlying5 Try.underlying9 (cutB_length HLN.out 0 4 (by omega)) h4
    rw [Q1.out] at hcv
    replace hcv : (convert 22 9 (.slice (some ⟨g, 0, none⟩) 4 c)).run Try.prog W1 = .ok (.string ⟨#[67, 72, 72, 68]⟩) W1 := hcv
    have hr1 := fun W : World => arr_run Try.underlying137 W (some ⟨g, 16, none⟩) 484 (c - 16) (Nat.le_refl _)
    have hr2 := fun W : World => arr_run Try.underlying138 W (some ⟨g, 4, none⟩) 8 (c - 4) (Nat.le_refl _)
    have hr3 := fun W : World => arr_run Try.underlying138 W (some ⟨g, 500, none⟩) 8 (c - 500) (Nat.le_refl _)
    have c4 : 4 ≤ c := by omega
    have c12 : 12 ≤ c := by omega
    have c500 : 500 ≤ c := by omega
    have k12 : (12 : Int) ≤ (c : Int) := by omega
    have k508 : (508 : Int) ≤ (c : Int) := by omega
    have k500 : (500 : Int) ≤ (c : Int) := by omega
    have e4 : ¬ c = 4 := by omega
    have e16 : ¬ c = 16 := by omega
    have e500 : ¬ c = 500 := by omega
    clear hown hb hg hgl B0 B1 L0 hbl
    go_wp2_with (first
      | (refine wpList_load_mid rfl 137 (.tmp 22) rfl g 16 rfl (bv (cutB l 16 484)) _ (hd_range8 RG.out C16.out) Try.underlying137 rfl (by rw [bv_length, N16.out]; exact size144) ?_)
      | (refine wpList_y8 (S := fun _ => True) (yields_build144 zz HZZ.out (by rfl) rfl) trivial ?_)
      | (refine wpList_y8 (S := fun _ => True) (yields_neq144 (by rfl) (.tmp 23) (.tmp 24) rfl (cutB l 16 484) zz (by rfl) (by rfl) N16.out HZ.out) trivial ?_; rw [Q2.out]))
    refine wp_region_only (S := fun w' => w'.rangeAt g 0 (bv (l.take 508))) (by kernel_rfl) RG.out (fun hHeld => ?_)
    refine wpAnyH_take (i := 0) (v := ?v7) rfl (by kernel_rfl) (by kernel_rfl) (by kernel_rfl) (fun _ _ _ h => h) (Or.inl ⟨by rfl, ?hy7⟩) hHeld ?rest7
    case hy7 =>
      intro w' hSw
      try dsimp only at hSw
      go_simp
      first | done | with_reducible rfl
    try simp only [Act.put, zq1, zq3, zq4, zq5, zq6]
    refine wpAnyH_take (i := 1) (v := ?v8) rfl (by kernel_rfl) (by kernel_rfl) (by kernel_rfl) (fun _ _ _ h => h) (Or.inl ⟨by rfl, ?hy8⟩) hHeld ?rest8
    case hy8 =>
      intro w' hSw
      try dsimp only at hSw
      go_simp
      first | done | with_reducible rfl
    try simp only [Act.put, zq1, zq2, zq3, zq4, zq5, zq6]
    refine wpAnyH_take (i := 2) (v := ?v9) rfl (by kernel_rfl) (by kernel_rfl) (by kernel_rfl) (fun _ _ _ h => h) (Or.inl ⟨by rfl, ?hy9⟩) hHeld ?rest9
    case hy9 =>
      intro w' hSw
      try dsimp only at hSw
      go_simp
      first | done | with_reducible rfl
    try simp only [Act.put, zq1, zq2, zq3, zq4, zq5, zq6]
    refine wpAnyH_take (i := 3) rfl (by kernel_rfl) (by kernel_rfl) (by kernel_rfl) (fun _ _ _ h => h) (yieldsIf_load_mid (by rfl) 138 (.tmp 28) (by rfl) g 4 (by rfl) (bv (cutB l 4 8)) _ (fun w' hSw => hd_range8 hSw C4.out) Try.underlying138 rfl (by rw [bv_length, N4.out]; exact size145)) hHeld ?_
    try simp only [Act.put, zq1, zq2, zq3, zq4, zq5, zq6]
    refine wpAnyH_take (i := 4) (v := ?v10) rfl (by kernel_rfl) (by kernel_rfl) (by kernel_rfl) (fun _ _ _ h => h) (Or.inl ⟨by rfl, ?hy10⟩) hHeld ?rest10
    case hy10 =>
      intro w' hSw
      try dsimp only at hSw
      go_simp
      first | done | with_reducible rfl
    try simp only [Act.put, zq1, zq2, zq3, zq4, zq5, zq6]
    refine wpAnyH_take (i := 5) (v := ?v11) rfl (by kernel_rfl) (by kernel_rfl) (by kernel_rfl) (fun _ _ _ h => h) (Or.inl ⟨by rfl, ?hy11⟩) hHeld ?rest11
    case hy11 =>
      intro w' hSw
      try dsimp only at hSw
      go_simp
      first | done | with_reducible rfl
    try simp only [Act.put, zq1, zq2, zq3, zq4, zq5, zq6]
    refine wpAnyH_take (i := 6) (v := ?v12) rfl (by kernel_rfl) (by kernel_rfl) (by kernel_rfl) (fun _ _ _ h => h) (Or.inl ⟨by rfl, ?hy12⟩) hHeld ?rest12
    case hy12 =>
      intro w' hSw
      try dsimp only at hSw
      go_simp
      first | done | with_reducible rfl
    try simp only [Act.put, zq1, zq2, zq3, zq4, zq5, zq6]
    refine wpAnyH_take (i := 7) rfl (by kernel_rfl) (by kernel_rfl) (by kernel_rfl) (fun _ _ _ h => h) (yieldsIf_load_mid (by rfl) 138 (.tmp 32) (by rfl) g 500 (by rfl) (bv (cutB l 500 8)) _ (fun w' hSw => hd_range8 hSw C500.out) Try.underlying138 rfl (by rw [bv_length, N500.out]; exact size145)) hHeld ?_
    try simp only [Act.put, zq1, zq2, zq3, zq4, zq5, zq6]
    refine wpAnyH_take (i := 8) rfl (by kernel_rfl) (by kernel_rfl) (by kernel_rfl) (fun _ _ _ h => h) (yields_neq145b (by rfl) (.tmp 29) (.tmp 33) (by rfl) (cutB l 4 8) (cutB l 500 8) _ Q3.out (by rfl) (by rfl) N4.out N500.out) hHeld ?_
    try simp only [Act.put, zq1, zq2, zq3, zq4, zq5, zq6]
    refine wpAnyH_done (by kernel_rfl) ?_ _
    refine OnlyN.normal ?_
    try clear hHeld
    replace RR := Lib.hid (show Rd W1.drew (some ⟨g, 0, none⟩) (l.take 508) from RR.out)
    replace B2 := Lib.hid (blk_drew B2.out)
    replace L1 := Lib.hid L1.out.drew
    go_wp2_with (first
      | (go_at_call 68; refine (said_big g c l HLN.out hc RR.out HE.out).mono ?_; rintro r W2 ⟨rfl, hb⟩; have B3 := Lib.hid (B2.out.below hb B2.out.lt); have L2 := Lib.hid (L1.out.trans (hb.mono L1.out.size)); clear hb)
      | (refine wpList_store_row rfl 28 (.tmp 2) (.tmp 38) rfl (w.heap.size + 1) (Hd.cs ⟨0, 0, 0⟩).toArray rfl rfl 28 _ B3.out (by kernel_rfl) rfl (one23 _) ?_; have B4 := Lib.hid (B3.out.setRow (Hd.cs ⟨0, 0, 0⟩).toArray); have L3 := Lib.hid (show Below w.heap.size w (W2.setRow (w.heap.size + 1) (Hd.cs ⟨0, 0, 0⟩).toArray) from below_setRow L2.out (by omega) (Hd.cs ⟨0, 0, 0⟩).toArray)))
    go_step3
    exact ⟨rfl, ⟨_, _, _, _, _, _, _, _, _, _, _, _, _, _, _, _, _, _, _, _, _, _, _, _, _, _, _, _, _, _, _, _, _, _, _, _, _, _, _, _, rfl⟩, ⟨_, B4.out⟩, L3.out⟩
  case pass =>
    rintro a' W9 ⟨⟨t4, t5, t6, t7, t8, t9, t10, t11, t12, t13, t14, t15, t16, t17, t18, t19, t20, t21, t22, t23, t24, t25, t26, t27, t28, t29, t30, t31, t32, t33, t34, t35, t36, t37, t38, t39, t40, t41, t42, t43, rfl⟩, ⟨u, b2⟩, l2⟩
    have B9 := Lib.hid b2
    have L9 := Lib.hid l2
    clear b2 l2
    go_wp2_with (first
      | (refine wpList_store_row rfl 28 (.tmp 2) (.tmp 43) rfl (w.heap.size + 1) (Hd.cs ⟨0, 0, 0⟩).toArray rfl rfl 28 _ B9.out (by kernel_rfl) rfl (one23 _) ?_))
    simp only [Exit.jump]
    exact bodyPost_ret (results_hd rfl _ _ (w.heap.size + 1) ⟨0, 0, 0⟩ rfl (B9.out.setRow _)) rfl ⟨rfl, below_setRow L9.out (by omega) _⟩
set_option maxRecDepth 100000 in
set_option maxHeartbeats 4000000 in
theorem headerOf_bad {w : World} (l : List UInt8) (hl : l.length = 512) (hq : ((S.numLE (l.drop 508) : Int) != (S.crcN (l.take 508) : Int)) = false) (q1 : cutB l 0 4 = [67, 72, 72, 68]) (q2 : cutB l 16 484 = List.replicate 484 0) (q3 : cutB l 4 8 = cutB l 500 8) (he : eB l ≤ 9223372036854775807) (hk : ¬ okB l) :
    Calls Try.prog 50 #[sec l] w fun r w' => r = .returned (.tuple #[Hd.val ⟨0, 0, 0⟩, .bool false]) ∧ Below w.heap.size w w' := by
  have hz := z23
  have HLN := Lib.hid hl
  have hbl : (bv l).length = 512 := by rw [bv_length, hl]
  have B0 := Lib.hid ((Blk.new w 56 (bv l).toArray).alloc (.cells (Hd.cs ⟨0, 0, 0⟩).toArray 28))
  have B1 := Lib.hid (blk_new1 w (.cells (bv l).toArray 56) 28 (Hd.cs ⟨0, 0, 0⟩).toArray)
  have L0 := Lib.hid (((Below.refl w.heap.size w).alloc (Nat.le_refl _) (.cells (bv l).toArray 56)).alloc (by simp) (.cells (Hd.cs ⟨0, 0, 0⟩).toArray 28))
  obtain ⟨zz, hzz⟩ : ∃ zz : List UInt8, zz = List.replicate 484 0 := ⟨_, rfl⟩
  have HZ := Lib.hid (show zz.length = 484 by rw [hzz, List.length_replicate])
  have HZZ := Lib.hid hzz
  have C0 := Lib.hid (show (l.take 508).take 4 = cutB l 0 4 from (show _ = ((l.take 508).drop 0).take 4 from rfl).trans (cutB_take l 0 4 (by omega)))
  have C16 := Lib.hid (show ((l.take 508).drop 16).take 484 = cutB l 16 484 from cutB_take l 16 484 (by omega))
  have C4 := Lib.hid (show ((l.take 508).drop 4).take 8 = cutB l 4 8 from cutB_take l 4 8 (by omega))
  have C500 := Lib.hid (show ((l.take 508).drop 500).take 8 = cutB l 500 8 from cutB_take l 500 8 (by omega))
  have N16 := Lib.hid (cutB_length hl 16 484 (by omega))
  have N4 := Lib.hid (cutB_length hl 4 8 (by omega))
  have N500 := Lib.hid (cutB_length hl 500 8 (by omega))
  have HQ := Lib.hid hq
  have Q1 := Lib.hid q1
  clear q1
  have Q2 := Lib.hid (show (!(cutB l 16 484 == zz)) = false by rw [hzz, q2]; simp)
  clear q2
  have Q3 := Lib.hid (show (!(cutB l 4 8 == cutB l 500 8)) = false by rw [q3]; simp)
  clear q3
  have HK := Lib.hid (okB_not he hk)
  clear hk
  have HE := Lib.hid he
  clear he
  clear hl hq hzz
  go_enter Try.func50, Try.ntmps50
  go_wp2_with fail
  refine wp_scope_jumps 0 (fun a' w' => (∃ t4 t5 t6 t7 t8 t9 t10 t11 t12 t13 t14 t15 t16 t17 t18 t19 t20 t21 t22 t23 t24 t25 t26 t27 t28 t29 t30 t31 t32 t33 t34 t35 t36 t37 t38 t39 t40 t41 t42 t43 : Value, a' = { tmps := #[sec l, .pointer (some ⟨w.heap.size, 0, none⟩), .pointer (some ⟨w.heap.size + 1, 0, none⟩), .bool false, t4, t5, t6, t7, t8, t9, t10, t11, t12, t13, t14, t15, t16, t17, t18, t19, t20, t21, t22, t23, t24, t25, t26, t27, t28, t29, t30, t31, t32, t33, t34, t35, t36, t37, t38, t39, t40, t41, t42, t43], defers := [] }) ∧ (∃ u : Hd, Blk w' (w.heap.size + 1) 28 u.cs.toArray) ∧ Below w.heap.size w w') (fun _ _ => 0) rfl ?first ?pass
  case first =>
    go_wp2_with fail
    refine (S.sealed_yes (some ⟨w.heap.size, 0, none⟩) 508 512 l _ HLN.out (by omega) (rd_bv B0.out) (by omega) HQ.out).mono ?_
    rintro r W1 ⟨v, rfl, hown, hb⟩
    obtain ⟨A', c, rfl⟩ := own_shape hown
    obtain ⟨g, rfl, hg, hgl⟩ := own_addr' hown (by omega)
    have hc := own_cap hown
    have RG := Lib.hid (own_range hown)
    have RR := Lib.hid (Rd.of_own hown)
    have B2 := Lib.hid (B1.out.below hb B1.out.lt)
    have L1 := Lib.hid (L0.out.trans (hb.mono L0.out.size))
    have hcv : (convert 22 9 (.slice (some ⟨g, 0, none⟩) 4 c)).run Try.prog W1 = .ok (.string (st (cutB l 0 4))) W1 := by
      have h4 := RR.out.take 4
      rw [C0.out] at h4
      exact run_str W1 Try.underlying22 Try.underlying5 Try.underlying9 (cutB_length HLN.out 0 4 (by omega)) h4
    rw [Q1.out] at hcv
    replace hcv : (convert 22 9 (.slice (some ⟨g, 0, none⟩) 4 c)).run Try.prog W1 = .ok (.string ⟨#[67, 72, 72, 68]⟩) W1 := hcv
    have hr1 := fun W : World => arr_run Try.underlying137 W (some ⟨g, 16, none⟩) 484 (c - 16) (Nat.le_refl _)
    have hr2 := fun W : World => arr_run Try.underlying138 W (some ⟨g, 4, none⟩) 8 (c - 4) (Nat.le_refl _)
    have hr3 := fun W : World => arr_run Try.underlying138 W (some ⟨g, 500, none⟩) 8 (c - 500) (Nat.le_refl _)
    have c4 : 4 ≤ c := by omega
    have c12 : 12 ≤ c := by omega
    have c500 : 500 ≤ c := by omega
    have k12 : (12 : Int) ≤ (c : Int) := by omega
    have k508 : (508 : Int) ≤ (c : Int) := by omega
    have k500 : (500 : Int) ≤ (c : Int) := by omega
    have e4 : ¬ c = 4 := by omega
    have e16 : ¬ c = 16 := by omega
    have e500 : ¬ c = 500 := by omega
    clear hown hb hg hgl B0 B1 L0 hbl
    go_wp2_with (first
      | (refine wpList_load_mid rfl 137 (.tmp 22) rfl g 16 rfl (bv (cutB l 16 484)) _ (hd_range8 RG.out C16.out) Try.underlying137 rfl (by rw [bv_length, N16.out]; exact size144) ?_)
      | (refine wpList_y8 (S := fun _ => True) (yields_build144 zz HZZ.out (by rfl) rfl) trivial ?_)
      | (refine wpList_y8 (S := fun _ => True) (yields_neq144 (by rfl) (.tmp 23) (.tmp 24) rfl (cutB l 16 484) zz (by rfl) (by rfl) N16.out HZ.out) trivial ?_; rw [Q2.out]))
    refine wp_region_only (S := fun w' => w'.rangeAt g 0 (bv (l.take 508))) (by kernel_rfl) RG.out (fun hHeld => ?_)
    refine wpAnyH_take (i := 0) (v := ?v13) rfl (by kernel_rfl) (by kernel_rfl) (by kernel_rfl) (fun _ _ _ h => h) (Or.inl ⟨by rfl, ?hy13⟩) hHeld ?rest13
    case hy13 =>
      intro w' hSw
      try dsimp only at hSw
      go_simp
      first | done | with_reducible rfl
    try simp only [Act.put, zq1, zq3, zq4, zq5, zq6]
    refine wpAnyH_take (i := 1) (v := ?v14) rfl (by kernel_rfl) (by kernel_rfl) (by kernel_rfl) (fun _ _ _ h => h) (Or.inl ⟨by rfl, ?hy14⟩) hHeld ?rest14
    case hy14 =>
      intro w' hSw
      try dsimp only at hSw
      go_simp
      first | done | with_reducible rfl
    try simp only [Act.put, zq1, zq2, zq3, zq4, zq5, zq6]
    refine wpAnyH_take (i := 2) (v := ?v15) rfl (by kernel_rfl) (by kernel_rfl) (by kernel_rfl) (fun _ _ _ h => h) (Or.inl ⟨by rfl, ?hy15⟩) hHeld ?rest15
    case hy15 =>
      intro w' hSw
      try dsimp only at hSw
      go_simp
      first | done | with_reducible rfl
    try simp only [Act.put, zq1, zq2, zq3, zq4, zq5, zq6]
    refine wpAnyH_take (i := 3) rfl (by kernel_rfl) (by kernel_rfl) (by kernel_rfl) (fun _ _ _ h => h) (yieldsIf_load_mid (by rfl) 138 (.tmp 28) (by rfl) g 4 (by rfl) (bv (cutB l 4 8)) _ (fun w' hSw => hd_range8 hSw C4.out) Try.underlying138 rfl (by rw [bv_length, N4.out]; exact size145)) hHeld ?_
    try simp only [Act.put, zq1, zq2, zq3, zq4, zq5, zq6]
    refine wpAnyH_take (i := 4) (v := ?v16) rfl (by kernel_rfl) (by kernel_rfl) (by kernel_rfl) (fun _ _ _ h => h) (Or.inl ⟨by rfl, ?hy16⟩) hHeld ?rest16
    case hy16 =>
      intro w' hSw
      try dsimp only at hSw
      go_simp
      first | done | with_reducible rfl
    try simp only [Act.put, zq1, zq2, zq3, zq4, zq5, zq6]
    refine wpAnyH_take (i := 5) (v := ?v17) rfl (by kernel_rfl) (by kernel_rfl) (by kernel_rfl) (fun _ _ _ h => h) (Or.inl ⟨by rfl, ?hy17⟩) hHeld ?rest17
    case hy17 =>
      intro w' hSw
      try dsimp only at hSw
      go_simp
      first | done | with_reducible rfl
    try simp only [Act.put, zq1, zq2, zq3, zq4, zq5, zq6]
    refine wpAnyH_take (i := 6) (v := ?v18) rfl (by kernel_rfl) (by kernel_rfl) (by kernel_rfl) (fun _ _ _ h => h) (Or.inl ⟨by rfl, ?hy18⟩) hHeld ?rest18
    case hy18 =>
      intro w' hSw
      try dsimp only at hSw
      go_simp
      first | done | with_reducible rfl
    try simp only [Act.put, zq1, zq2, zq3, zq4, zq5, zq6]
    refine wpAnyH_take (i := 7) rfl (by kernel_rfl) (by kernel_rfl) (by kernel_rfl) (fun _ _ _ h => h) (yieldsIf_load_mid (by rfl) 138 (.tmp 32) (by rfl) g 500 (by rfl) (bv (cutB l 500 8)) _ (fun w' hSw => hd_range8 hSw C500.out) Try.underlying138 rfl (by rw [bv_length, N500.out]; exact size145)) hHeld ?_
    try simp only [Act.put, zq1, zq2, zq3, zq4, zq5, zq6]
    refine wpAnyH_take (i := 8) rfl (by kernel_rfl) (by kernel_rfl) (by kernel_rfl) (fun _ _ _ h => h) (yields_neq145b (by rfl) (.tmp 29) (.tmp 33) (by rfl) (cutB l 4 8) (cutB l 500 8) _ Q3.out (by rfl) (by rfl) N4.out N500.out) hHeld ?_
    try simp only [Act.put, zq1, zq2, zq3, zq4, zq5, zq6]
    refine wpAnyH_done (by kernel_rfl) ?_ _
    refine OnlyN.normal ?_
    try clear hHeld
    replace RR := Lib.hid (show Rd W1.drew (some ⟨g, 0, none⟩) (l.take 508) from RR.out)
    replace B2 := Lib.hid (blk_drew B2.out)
    replace L1 := Lib.hid L1.out.drew
    go_wp2_with (first
      | (go_at_call 68; refine (said_fine g c l HLN.out hc RR.out HE.out).mono ?_; rw [HK.out]; rintro r W2 ⟨rfl, hb⟩; have B3 := Lib.hid (B2.out.below hb B2.out.lt); have L2 := Lib.hid (L1.out.trans (hb.mono L1.out.size)); clear hb)
      | (refine wpList_store_row rfl 28 (.tmp 2) (.tmp 38) rfl (w.heap.size + 1) (Hd.cs ⟨eB l, aB l, oB l⟩).toArray rfl rfl 28 _ B3.out (by kernel_rfl) rfl (one23 _) ?_; have B4 := Lib.hid (B3.out.setRow (Hd.cs ⟨eB l, aB l, oB l⟩).toArray); have L3 := Lib.hid (show Below w.heap.size w (W2.setRow (w.heap.size + 1) (Hd.cs ⟨eB l, aB l, oB l⟩).toArray) from below_setRow L2.out (by omega) (Hd.cs ⟨eB l, aB l, oB l⟩).toArray)))
    go_step3
    exact ⟨rfl, ⟨_, _, _, _, _, _, _, _, _, _, _, _, _, _, _, _, _, _, _, _, _, _, _, _, _, _, _, _, _, _, _, _, _, _, _, _, _, _, _, _, rfl⟩, ⟨_, B4.out⟩, L3.out⟩
  case pass =>
    rintro a' W9 ⟨⟨t4, t5, t6, t7, t8, t9, t10, t11, t12, t13, t14, t15, t16, t17, t18, t19, t20, t21, t22, t23, t24, t25, t26, t27, t28, t29, t30, t31, t32, t33, t34, t35, t36, t37, t38, t39, t40, t41, t42, t43, rfl⟩, ⟨u, b2⟩, l2⟩
    have B9 := Lib.hid b2
    have L9 := Lib.hid l2
    clear b2 l2
    go_wp2_with (first
      | (refine wpList_store_row rfl 28 (.tmp 2) (.tmp 43) rfl (w.heap.size + 1) (Hd.cs ⟨0, 0, 0⟩).toArray rfl rfl 28 _ B9.out (by kernel_rfl) rfl (one23 _) ?_))
    simp only [Exit.jump]
    exact bodyPost_ret (results_hd rfl _ _ (w.heap.size + 1) ⟨0, 0, 0⟩ rfl (B9.out.setRow _)) rfl ⟨rfl, below_setRow L9.out (by omega) _⟩
set_option maxRecDepth 8000 in
theorem headerOf_any {w : World} (l : List UInt8) (hl : l.length = 512) :
    Calls Try.prog 50 #[sec l] w fun r w' => r = .returned (.tuple #[Hd.val (if okB l ∧ l = hdS (eB l) (aB l) (oB l) then ⟨eB l, aB l, oB l⟩ else ⟨0, 0, 0⟩), .bool (decide (okB l ∧ l = hdS (eB l) (aB l) (oB l)))]) ∧ Below w.heap.size w w' := by
  by_cases h : okB l ∧ l = hdS (eB l) (aB l) (oB l)
  · rw [if_pos h, decide_eq_true h]
    obtain ⟨h1, h2⟩ := h
    have h3 : Calls Try.prog 50 #[sec (hdS (eB l) (aB l) (oB l))] w _ := headerOf_yes (eB l) (aB l) (oB l) (by omega) (by omega) (by omega) (okB_no h1)
    rw [← h2] at h3
    exact h3
  · rw [if_neg h, decide_eq_false h]
    rw [form_iff hl] at h
    by_cases hq : S.numLE (l.drop 508) = S.crcN (l.take 508)
    · have hq' : ((S.numLE (l.drop 508) : Int) != (S.crcN (l.take 508) : Int)) = false := by rw [hq]; simp
      by_cases q1 : cutB l 0 4 = [67, 72, 72, 68]
      · by_cases q2 : cutB l 16 484 = List.replicate 484 0
        · by_cases q3 : cutB l 4 8 = cutB l 500 8
          · by_cases he : eB l ≤ 9223372036854775807
            · exact headerOf_bad l hl hq' q1 q2 q3 he (fun hk => h ⟨hk, hq, q1, q2, q3⟩)
            · exact headerOf_big l hl hq' q1 q2 q3 he
          · exact headerOf_ed l hl hq' q1 q2 q3
        · exact headerOf_noughts l hl hq' q1 q2
      · exact headerOf_mark l hl hq' q1
    · exact headerOf_no l hl (by simpa using fun h => hq (by exact_mod_cast h))
end Go.Proofs.Ytjfcmoappbfnjaa

namespace Go.Proofs.Ytjfcmoappbfnjaa
open List renaming getElem_toArray → zq1, getElem_cons_succ → zq2, getElem_cons_zero → zq3, setIfInBounds_toArray → zq4, set_cons_zero → zq5, set_cons_succ → zq6
open Go.RowKit
attribute [local go_sem] Oper.semAt_some
attribute [local go_sem] run_store_bv run_store_wc run_store_bv_drew run_store_wc_drew
set_option maxRecDepth 8000 in
theorem got_cases (z : Nat) (l : List UInt8) (hl : l.length = 512) : ∃ (u : Hd) (ok : Bool), (∀ W : World, Calls Try.prog 50 #[sec l] W fun r w' => r = .returned (.tuple #[u.val, .bool ok]) ∧ Below W.heap.size W w') ∧
    ((ok = true ∧ (1 ≤ u.o ∧ u.o ≤ 64) ∧ (20 + 3 * u.o == (z : Int)) = true ∧ gotH z l = u ∧ gotB z l = true) ∨ (ok = true ∧ (1 ≤ u.o ∧ u.o ≤ 64) ∧ (20 + 3 * u.o == (z : Int)) = false ∧ gotH z l = hd0 ∧ gotB z l = false) ∨ (ok = false ∧ gotH z l = hd0 ∧ gotB z l = false)) := by
  refine ⟨_, _, fun W => headerOf_any l hl, ?_⟩
  by_cases h : okB l ∧ l = hdS (eB l) (aB l) (oB l)
  · rw [if_pos h, decide_eq_true h]
    by_cases hz : 20 + 3 * oB l = z
    · have hg : gotB z l = true := decide_eq_true ⟨h.1, hz, h.2⟩
      exact .inl ⟨rfl, by simp only; omega, by rw [beq_iff_eq]; simp only; omega, by unfold gotH; rw [hg]; rfl, hg⟩
    · have hg : gotB z l = false := decide_eq_false (fun x => hz x.2.1)
      exact .inr (.inl ⟨rfl, by simp only; omega, by rw [beq_eq_false_iff_ne]; simp only; omega, by unfold gotH; rw [hg]; rfl, hg⟩)
  · rw [if_neg h, decide_eq_false h]
    have hg : gotB z l = false := decide_eq_false (fun x => h ⟨x.1, x.2.2⟩)
    exact .inr (.inr ⟨rfl, by unfold gotH; rw [hg]; rfl, hg⟩)
set_option maxRecDepth 100000 in
set_option maxHeartbeats 8000000 in
theorem both_ok {w : World} {base p : Nat} {pl : Pl} {D : Dk} (hd : DiskAt w base p pl D) (hN : D.waits.length ≤ 1000000) (hs : D.steps < 999990) (hz2 : 2 ≤ D.size) (hf0 : D.next = false) (hf1 : D.stepped.next = false) :
    Calls Try.prog 20 #[.pointer (some ⟨p, 0, none⟩)] w fun r w' => r = .returned (.tuple #[.agg (cs2 (gotH D.size (D.reads 0)) (gotH D.size (D.reads 1))).toArray, .agg #[.bool (gotB D.size (D.reads 0)), .bool (gotB D.size (D.reads 1))], .int .i64 0]) ∧ DiskAt w' base p pl D.stepped.stepped ∧ Fr (pl.has p) w w' := by
  have hz := z52
  have hz3 := z53
  have hz22 := z112
  have hz4 := z47
  have hz5 := z23
  have Z2 := Lib.hid hz2
  have L0 := Lib.hid (show (D.reads 0).length = 512 from readL_length _ _ _ (hd.lens 0) (fun x hx => (hd.wlens x hx).1))
  have L1 := Lib.hid (show (D.reads 1).length = 512 from readL_length _ _ _ (hd.lens 1) (fun x hx => (hd.wlens x hx).1))
  obtain ⟨u0, k0, ho0, cc0⟩ := got_cases D.size (D.reads 0) L0.out
  obtain ⟨u1, k1, ho1, cc1⟩ := got_cases D.size (D.reads 1) L1.out
  obtain ⟨g0, hg0⟩ : ∃ g, gotH D.size (D.reads 0) = g := ⟨_, rfl⟩
  obtain ⟨g1, hg1⟩ : ∃ g, gotH D.size (D.reads 1) = g := ⟨_, rfl⟩
  obtain ⟨a, ha⟩ : ∃ g, gotB D.size (D.reads 0) = g := ⟨_, rfl⟩
  obtain ⟨b, hb⟩ : ∃ g, gotB D.size (D.reads 1) = g := ⟨_, rfl⟩
  rw [hg0, ha] at cc0
  rw [hg1, hb] at cc1
  rw [hg0, hg1, ha, hb]
  have HO0 := Lib.hid ho0
  have HO1 := Lib.hid ho1
  have CC0 := Lib.hid cc0
  have CC1 := Lib.hid cc1
  have HN := Lib.hid hN
  have HS := Lib.hid hs
  have HF0 := Lib.hid hf0
  have HF1 := Lib.hid hf1
  have B0 := Lib.hid (bt_new hd)
  have hi0 := index112_0 (D.reads 0) (D.reads 1) L0.out
  have hi1 := index112_1 (D.reads 0) (D.reads 1) L0.out L1.out
  have m0 : (D.reads 0).length = zs.length := by rw [L0.out, zs_length]
  have m1 : (D.reads 1).length = zs.length := by rw [L1.out, zs_length]
  have n0 : (bv (D.reads 0)).length = 512 := by rw [bv_length, L0.out]
  have n1 : (bv (D.reads 1)).length = 512 := by rw [bv_length, L1.out]
  have hl2 : (D.reads 0 ++ D.reads 1).length = zs2.length := by rw [List.length_append, L0.out, L1.out, zs2_length]
  have hb2 : (bv (D.reads 0 ++ D.reads 1)).length = 1024 := by rw [bv_length, hl2, zs2_length]
  clear hd hN hs hf0 hf1 hz2 ho0 ho1 cc0 cc1 hg0 hg1 ha hb
  go_enter Try.func20, Try.ntmps20
  go_wp2_with fail
  generalize (((w.alloc (.cells (cs2 hd0 hd0).toArray 49)).alloc (.cells #[.bool false, .bool false] 50)).alloc (.cells (cs2 hd0 hd0).toArray 49)).alloc (.cells #[.bool false, .bool false] 50) = W at B0 ⊢
  refine (sectors_any B0.out.da HN.out Z2.out HS.out HF0.out HF1.out).mono ?_
  rintro r W1 ⟨rfl, hd1, hf1⟩
  have B1 := Lib.hid (B0.out.moved hd1 hf1)
  clear hd1 hf1 B0
  have GB := Lib.hid (Blk.new W1 108 (bv (D.reads 0 ++ D.reads 1)).toArray)
  have B2 := Lib.hid (B1.out.alloc (.cells (bv (D.reads 0 ++ D.reads 1)).toArray 108))
  go_wp2_with (refine wpList_load_mid rfl 108 (.tmp 7) rfl W1.heap.size 0 rfl (bv (D.reads 0 ++ D.reads 1)) _ GB.out.rangeAt Try.underlying108 rfl (by rw [hb2]; exact size112) ?_)
  generalize W1.alloc (.cells (bv (D.reads 0 ++ D.reads 1)).toArray 108) = U0 at GB B2 ⊢
  have A0 := Lib.hid B2.out
  clear GB B2 B1 hl2 hb2
  go_loopw [24] (fun i wr => (i = .int .i64 0 ∧ Bt w base p pl D.stepped.stepped hd0 hd0 false false wr) ∨ (i = .int .i64 1 ∧ Bt w base p pl D.stepped.stepped g0 hd0 a false wr) ∨ (i = .int .i64 2 ∧ Bt w base p pl D.stepped.stepped g0 g1 a b wr)) (fun i _ => 2 - (intOf i).toNat)
  case atStart => exact .inl ⟨rfl, A0.out⟩
  case round =>
    rcases hrel with ⟨rfl, hbt⟩ | ⟨rfl, hbt⟩ | ⟨rfl, hbt⟩
    · have A := Lib.hid hbt
      clear hbt A0
      have PB := Lib.hid (A.out.alloc (.cells (bv (D.reads 0)).toArray 56))
      have PR := Lib.hid (Blk.new wr 56 (bv (D.reads 0)).toArray)
      go_wp2_with (first
        | (refine wpList_load47 rfl (.tmp 10) rfl wr.heap.size 0 rfl (D.reads 0) PR.out.rangeAt L0.out ?_)
        | (go_at_call 50; refine (HO0.out _).mono ?_; rintro r Y ⟨rfl, hb⟩; have C := Lib.hid (PB.out.next hb); have N := Lib.hid (blk_drew (Blk.new Y 28 (Hd.cs u0).toArray)); have B := Lib.hid ((C.out.alloc (.cells (Hd.cs u0).toArray 28)).drew); clear hb PB PR))
      rcases CC0.out with ⟨rfl, q1, q2, rfl, rfl⟩ | ⟨rfl, q1, q2, rfl, rfl⟩ | ⟨rfl, rfl, rfl⟩
      · have Q1 := Lib.hid q1
        have Q2 := Lib.hid q2
        clear q1 q2
        refine wp_region_only (S := fun w' => Blk w' Y.heap.size 28 (Hd.cs g0).toArray) (by kernel_rfl) N.out (fun hHeld => ?_)
        refine wpAnyH_take (i := 0) (v := ?v1) rfl (by kernel_rfl) (by kernel_rfl) (by kernel_rfl) (fun _ _ _ h => h) (Or.inl ⟨by rfl, ?hy1⟩) hHeld ?rest1
        case hy1 =>
          intro w' hSw
          try dsimp only at hSw
          go_simp
          first | done | with_reducible rfl
        try simp only [Act.put, zq1, zq3, zq4, zq5, zq6]
        refine wpAnyH_take (i := 1) (v := ?v2) rfl (by kernel_rfl) (by kernel_rfl) (by kernel_rfl) (fun _ _ _ h => h) (Or.inl ⟨by rfl, ?hy2⟩) hHeld ?rest2
        case hy2 =>
          intro w' hSw
          try dsimp only at hSw
          go_simp
          first | done | with_reducible rfl
        try simp only [Act.put, zq1, zq2, zq3, zq4, zq5, zq6]
        refine wpAnyH_take (i := 2) rfl (by kernel_rfl) (by kernel_rfl) (by kernel_rfl) (fun _ _ _ h => h) (yieldsIf_load_mid (by rfl) 28 (.tmp 11) (by rfl) Y.heap.size 0 (by rfl) (Hd.cs g0) _ (fun w' hSw => Blk.rangeAt (l := Hd.cs g0) hSw) Try.underlying28 rfl (size23 _)) hHeld ?_
        try simp only [Act.put, zq1, zq2, zq3, zq4, zq5, zq6]
        refine wpAnyH_take (i := 3) (v := ?v3) rfl (by kernel_rfl) (by kernel_rfl) (by kernel_rfl) (fun _ _ _ h => h) (Or.inl ⟨by rfl, ?hy3⟩) hHeld ?rest3
        case hy3 =>
          intro w' hSw
          try dsimp only at hSw
          go_simp
          first | done | with_reducible rfl
        try simp only [Act.put, zq1, zq2, zq3, zq4, zq5, zq6]
        refine wpAnyH_ready (rs := [4]) (by kernel_rfl) (by simp) ?_
        refine AllReadyH.cons (by rfl) (fun K hK => ?_) AllReadyH.nil
        go_simp
        refine (size_at B.out.da).mono ?_
        rintro r w' ⟨rfl, rfl⟩
        clear hHeld
        refine hK.out _ _ N.out (fun hHeld => ?_)
        clear hK K
        try simp only [Act.put, zq1, zq2, zq3, zq4, zq5, zq6]
        refine wpAnyH_ready (rs := [5]) (by kernel_rfl) (by simp) ?_
        refine AllReadyH.cons (by rfl) (fun K hK => ?_) AllReadyH.nil
        go_simp
        refine (fits_any g0 Q1.out _ _).mono ?_
        rw [show D.stepped.stepped.size = D.size from rfl, Q2.out]
        rintro r X ⟨rfl, hb⟩
        replace N := Lib.hid (N.out.below hb N.out.lt)
        replace B := Lib.hid (B.out.next hb)
        clear hb hHeld
        refine hK.out _ _ N.out (fun hHeld => ?_)
        clear hK K
        try dsimp only
        refine wpAnyH_take (i := 6) (v := ?v4) rfl (by kernel_rfl) (by kernel_rfl) (by kernel_rfl) (fun _ _ _ h => h) (Or.inl ⟨by rfl, ?hy4⟩) hHeld ?rest4
        case hy4 =>
          intro w' hSw
          try dsimp only at hSw
          go_simp
          first | done | with_reducible rfl
        try simp only [Act.put, zq1, zq2, zq3, zq4, zq5, zq6]
        refine wpAnyH_done (by kernel_rfl) ?_ _
        refine OnlyN.normal ?_
        clear hHeld
        obtain ⟨V, hV⟩ : ∃ V, V = X.setRow (w.heap.size + 1 + 1) ((cs2 hd0 hd0).take 0 ++ Hd.cs g0 ++ (cs2 hd0 hd0).drop (0 + (Hd.cs g0).length)).toArray := ⟨_, rfl⟩
        have P := Lib.hid (show Bt w base p pl D.stepped.stepped g0 hd0 false false V from by rw [hV]; exact B.out.put5 g0 hd0)
        have c := (P.out.h6.cell 0).trans (show _ = some (.bool false) from rfl)
        have f := P.out.h6.frozen 0
        go_wp2_with (first
          | (refine wpList_load_mid rfl 28 (.tmp 11) rfl Y.heap.size 0 rfl (Hd.cs g0) _ (Blk.rangeAt (l := Hd.cs g0) N.out) Try.underlying28 rfl (size23 _) ?_)
          | (refine wpList_store_mid8 (off := 0) (l := cs2 hd0 hd0) (ys := Hd.cs g0) rfl 28 (.tmp 43) (.tmp 42) rfl B.out.h5 rfl rfl (by simp [cs2]) (size23 _) (by simp [Value.oneCell']) ?_; rw [← hV]; clear hV))
        go_roundw
        case rel => exact .inr (.inl ⟨rfl, P.out.put6a⟩)
        case measure => simp [intOf]
      · have Q1 := Lib.hid q1
        have Q2 := Lib.hid q2
        clear q1 q2
        refine wp_region_only (S := fun w' => Blk w' Y.heap.size 28 (Hd.cs u0).toArray) (by kernel_rfl) N.out (fun hHeld => ?_)
        refine wpAnyH_take (i := 0) (v := ?v5) rfl (by kernel_rfl) (by kernel_rfl) (by kernel_rfl) (fun _ _ _ h => h) (Or.inl ⟨by rfl, ?hy5⟩) hHeld ?rest5
        case hy5 =>
          intro w' hSw
          try dsimp only at hSw
          go_simp
          first | done | with_reducible rfl
        try simp only [Act.put, zq1, zq3, zq4, zq5, zq6]
        refine wpAnyH_take (i := 1) (v := ?v6) rfl (by kernel_rfl) (by kernel_rfl) (by kernel_rfl) (fun _ _ _ h => h) (Or.inl ⟨by rfl, ?hy6⟩) hHeld ?rest6
        case hy6 =>
          intro w' hSw
          try dsimp only at hSw
          go_simp
          first | done | with_reducible rfl
        try simp only [Act.put, zq1, zq2, zq3, zq4, zq5, zq6]
        refine wpAnyH_take (i := 2) rfl (by kernel_rfl) (by kernel_rfl) (by kernel_rfl) (fun _ _ _ h => h) (yieldsIf_load_mid (by rfl) 28 (.tmp 11) (by rfl) Y.heap.size 0 (by rfl) (Hd.cs u0) _ (fun w' hSw => Blk.rangeAt (l := Hd.cs u0) hSw) Try.underlying28 rfl (size23 _)) hHeld ?_
        try simp only [Act.put, zq1, zq2, zq3, zq4, zq5, zq6]
        refine wpAnyH_take (i := 3) (v := ?v7) rfl (by kernel_rfl) (by kernel_rfl) (by kernel_rfl) (fun _ _ _ h => h) (Or.inl ⟨by rfl, ?hy7⟩) hHeld ?rest7
        case hy7 =>
          intro w' hSw
          try dsimp only at hSw
          go_simp
          first | done | with_reducible rfl
        try simp only [Act.put, zq1, zq2, zq3, zq4, zq5, zq6]
        refine wpAnyH_ready (rs := [4]) (by kernel_rfl) (by simp) ?_
        refine AllReadyH.cons (by rfl) (fun K hK => ?_) AllReadyH.nil
        go_simp
        refine (size_at B.out.da).mono ?_
        rintro r w' ⟨rfl, rfl⟩
        clear hHeld
        refine hK.out _ _ N.out (fun hHeld => ?_)
        clear hK K
        try simp only [Act.put, zq1, zq2, zq3, zq4, zq5, zq6]
        refine wpAnyH_ready (rs := [5]) (by kernel_rfl) (by simp) ?_
        refine AllReadyH.cons (by rfl) (fun K hK => ?_) AllReadyH.nil
        go_simp
        refine (fits_any u0 Q1.out _ _).mono ?_
        rw [show D.stepped.stepped.size = D.size from rfl, Q2.out]
        rintro r X ⟨rfl, hb⟩
        replace N := Lib.hid (N.out.below hb N.out.lt)
        replace B := Lib.hid (B.out.next hb)
        clear hb hHeld
        refine hK.out _ _ N.out (fun hHeld => ?_)
        clear hK K
        try dsimp only
        refine wpAnyH_take (i := 6) (v := ?v8) rfl (by kernel_rfl) (by kernel_rfl) (by kernel_rfl) (fun _ _ _ h => h) (Or.inl ⟨by rfl, ?hy8⟩) hHeld ?rest8
        case hy8 =>
          intro w' hSw
          try dsimp only at hSw
          go_simp
          first | done | with_reducible rfl
        try simp only [Act.put, zq1, zq2, zq3, zq4, zq5, zq6]
        refine wpAnyH_done (by kernel_rfl) ?_ _
        refine OnlyN.normal ?_
        clear hHeld
        go_wp2_with fail
        go_roundw
        case rel => exact .inr (.inl ⟨rfl, B.out⟩)
        case measure => simp [intOf]
      · skip
        refine wp_region_only (S := fun _ => True) (by kernel_rfl) trivial (fun hHeld => ?_)
        refine wpAnyH_take (i := 0) (v := ?v9) rfl (by kernel_rfl) (by kernel_rfl) (by kernel_rfl) (fun _ _ _ h => h) (Or.inl ⟨by rfl, ?hy9⟩) hHeld ?rest9
        case hy9 =>
          intro w' hSw
          try dsimp only at hSw
          go_simp
          first | done | with_reducible rfl
        try simp only [Act.put, zq1, zq3, zq4, zq5, zq6]
        refine wpAnyH_take (i := 1) (v := ?v10) rfl (by kernel_rfl) (by kernel_rfl) (by kernel_rfl) (fun _ _ _ h => h) (Or.inl ⟨by rfl, ?hy10⟩) hHeld ?rest10
        case hy10 =>
          intro w' hSw
          try dsimp only at hSw
          go_simp
          first | done | with_reducible rfl
        try simp only [Act.put, zq1, zq2, zq3, zq4, zq5, zq6]
        refine wpAnyH_take (i := 2) (v := undef) rfl (by kernel_rfl) (by kernel_rfl) (by kernel_rfl) (fun _ _ _ h => h) (Or.inr ⟨by rfl, rfl⟩) hHeld ?_
        try simp only [Act.put, zq1, zq2, zq3, zq4, zq5, zq6]
        refine wpAnyH_take (i := 3) (v := undef) rfl (by kernel_rfl) (by kernel_rfl) (by kernel_rfl) (fun _ _ _ h => h) (Or.inr ⟨by rfl, rfl⟩) hHeld ?_
        try simp only [Act.put, zq1, zq2, zq3, zq4, zq5, zq6]
        refine wpAnyH_take (i := 4) (v := undef) rfl (by kernel_rfl) (by kernel_rfl) (by kernel_rfl) (fun _ _ _ h => h) (Or.inr ⟨by rfl, rfl⟩) hHeld ?_
        try simp only [Act.put, zq1, zq2, zq3, zq4, zq5, zq6]
        refine wpAnyH_take (i := 5) (v := undef) rfl (by kernel_rfl) (by kernel_rfl) (by kernel_rfl) (fun _ _ _ h => h) (Or.inr ⟨by rfl, rfl⟩) hHeld ?_
        try simp only [Act.put, zq1, zq2, zq3, zq4, zq5, zq6]
        refine wpAnyH_take (i := 6) (v := ?v11) rfl (by kernel_rfl) (by kernel_rfl) (by kernel_rfl) (fun _ _ _ h => h) (Or.inl ⟨by rfl, ?hy11⟩) hHeld ?rest11
        case hy11 =>
          intro w' hSw
          try dsimp only at hSw
          go_simp
          first | done | with_reducible rfl
        try simp only [Act.put, zq1, zq2, zq3, zq4, zq5, zq6]
        refine wpAnyH_done (by kernel_rfl) ?_ _
        refine OnlyN.normal ?_
        clear hHeld
        go_wp2_with fail
        go_roundw
        case rel => exact .inr (.inl ⟨rfl, B.out⟩)
        case measure => simp [intOf]
    · have A := Lib.hid hbt
      clear hbt A0
      have PB := Lib.hid (A.out.alloc (.cells (bv (D.reads 1)).toArray 56))
      have PR := Lib.hid (Blk.new wr 56 (bv (D.reads 1)).toArray)
      go_wp2_with (first
        | (refine wpList_load47 rfl (.tmp 10) rfl wr.heap.size 0 rfl (D.reads 1) PR.out.rangeAt L1.out ?_)
        | (go_at_call 50; refine (HO1.out _).mono ?_; rintro r Y ⟨rfl, hb⟩; have C := Lib.hid (PB.out.next hb); have N := Lib.hid (blk_drew (Blk.new Y 28 (Hd.cs u1).toArray)); have B := Lib.hid ((C.out.alloc (.cells (Hd.cs u1).toArray 28)).drew); clear hb PB PR))
      rcases CC1.out with ⟨rfl, q1, q2, rfl, rfl⟩ | ⟨rfl, q1, q2, rfl, rfl⟩ | ⟨rfl, rfl, rfl⟩
      · have Q1 := Lib.hid q1
        have Q2 := Lib.hid q2
        clear q1 q2
        refine wp_region_only (S := fun w' => Blk w' Y.heap.size 28 (Hd.cs g1).toArray) (by kernel_rfl) N.out (fun hHeld => ?_)
        refine wpAnyH_take (i := 0) (v := ?v12) rfl (by kernel_rfl) (by kernel_rfl) (by kernel_rfl) (fun _ _ _ h => h) (Or.inl ⟨by rfl, ?hy12⟩) hHeld ?rest12
        case hy12 =>
          intro w' hSw
          try dsimp only at hSw
          go_simp
          first | done | with_reducible rfl
        try simp only [Act.put, zq1, zq3, zq4, zq5, zq6]
        refine wpAnyH_take (i := 1) (v := ?v13) rfl (by kernel_rfl) (by kernel_rfl) (by kernel_rfl) (fun _ _ _ h => h) (Or.inl ⟨by rfl, ?hy13⟩) hHeld ?rest13
        case hy13 =>
          intro w' hSw
          try dsimp only at hSw
          go_simp
          first | done | with_reducible rfl
        try simp only [Act.put, zq1, zq2, zq3, zq4, zq5, zq6]
        refine wpAnyH_take (i := 2) rfl (by kernel_rfl) (by kernel_rfl) (by kernel_rfl) (fun _ _ _ h => h) (yieldsIf_load_mid (by rfl) 28 (.tmp 11) (by rfl) Y.heap.size 0 (by rfl) (Hd.cs g1) _ (fun w' hSw => Blk.rangeAt (l := Hd.cs g1) hSw) Try.underlying28 rfl (size23 _)) hHeld ?_
        try simp only [Act.put, zq1, zq2, zq3, zq4, zq5, zq6]
        refine wpAnyH_take (i := 3) (v := ?v14) rfl (by kernel_rfl) (by kernel_rfl) (by kernel_rfl) (fun _ _ _ h => h) (Or.inl ⟨by rfl, ?hy14⟩) hHeld ?rest14
        case hy14 =>
          intro w' hSw
          try dsimp only at hSw
          go_simp
          first | done | with_reducible rfl
        try simp only [Act.put, zq1, zq2, zq3, zq4, zq5, zq6]
        refine wpAnyH_ready (rs := [4]) (by kernel_rfl) (by simp) ?_
        refine AllReadyH.cons (by rfl) (fun K hK => ?_) AllReadyH.nil
        go_simp
        refine (size_at B.out.da).mono ?_
        rintro r w' ⟨rfl, rfl⟩
        clear hHeld
        refine hK.out _ _ N.out (fun hHeld => ?_)
        clear hK K
        try simp only [Act.put, zq1, zq2, zq3, zq4, zq5, zq6]
        refine wpAnyH_ready (rs := [5]) (by kernel_rfl) (by simp) ?_
        refine AllReadyH.cons (by rfl) (fun K hK => ?_) AllReadyH.nil
        go_simp
        refine (fits_any g1 Q1.out _ _).mono ?_
        rw [show D.stepped.stepped.size = D.size from rfl, Q2.out]
        rintro r X ⟨rfl, hb⟩
        replace N := Lib.hid (N.out.below hb N.out.lt)
        replace B := Lib.hid (B.out.next hb)
        clear hb hHeld
        refine hK.out _ _ N.out (fun hHeld => ?_)
        clear hK K
        try dsimp only
        refine wpAnyH_take (i := 6) (v := ?v15) rfl (by kernel_rfl) (by kernel_rfl) (by kernel_rfl) (fun _ _ _ h => h) (Or.inl ⟨by rfl, ?hy15⟩) hHeld ?rest15
        case hy15 =>
          intro w' hSw
          try dsimp only at hSw
          go_simp
          first | done | with_reducible rfl
        try simp only [Act.put, zq1, zq2, zq3, zq4, zq5, zq6]
        refine wpAnyH_done (by kernel_rfl) ?_ _
        refine OnlyN.normal ?_
        clear hHeld
        obtain ⟨V, hV⟩ : ∃ V, V = X.setRow (w.heap.size + 1 + 1) ((cs2 g0 hd0).take 3 ++ Hd.cs g1 ++ (cs2 g0 hd0).drop (3 + (Hd.cs g1).length)).toArray := ⟨_, rfl⟩
        have P := Lib.hid (show Bt w base p pl D.stepped.stepped g0 g1 a false V from by rw [hV]; exact B.out.put5 g0 g1)
        have c := (P.out.h6.cell 1).trans (show _ = some (.bool false) from rfl)
        have f := P.out.h6.frozen 1
        go_wp2_with (first
          | (refine wpList_load_mid rfl 28 (.tmp 11) rfl Y.heap.size 0 rfl (Hd.cs g1) _ (Blk.rangeAt (l := Hd.cs g1) N.out) Try.underlying28 rfl (size23 _) ?_)
          | (refine wpList_store_mid8 (off := 3) (l := cs2 g0 hd0) (ys := Hd.cs g1) rfl 28 (.tmp 43) (.tmp 42) rfl B.out.h5 rfl rfl (by simp [cs2]) (size23 _) (by simp [Value.oneCell']) ?_; rw [← hV]; clear hV))
        go_roundw
        case rel => exact .inr (.inr ⟨rfl, P.out.put6b⟩)
        case measure => simp [intOf]
      · have Q1 := Lib.hid q1
        have Q2 := Lib.hid q2
        clear q1 q2
        refine wp_region_only (S := fun w' => Blk w' Y.heap.size 28 (Hd.cs u1).toArray) (by kernel_rfl) N.out (fun hHeld => ?_)
        refine wpAnyH_take (i := 0) (v := ?v16) rfl (by kernel_rfl) (by kernel_rfl) (by kernel_rfl) (fun _ _ _ h => h) (Or.inl ⟨by rfl, ?hy16⟩) hHeld ?rest16
        case hy16 =>
          intro w' hSw
          try dsimp only at hSw
          go_simp
          first | done | with_reducible rfl
        try simp only [Act.put, zq1, zq3, zq4, zq5, zq6]
        refine wpAnyH_take (i := 1) (v := ?v17) rfl (by kernel_rfl) (by kernel_rfl) (by kernel_rfl) (fun _ _ _ h => h) (Or.inl ⟨by rfl, ?hy17⟩) hHeld ?rest17
        case hy17 =>
          intro w' hSw
          try dsimp only at hSw
          go_simp
          first | done | with_reducible rfl
        try simp only [Act.put, zq1, zq2, zq3, zq4, zq5, zq6]
        refine wpAnyH_take (i := 2) rfl (by kernel_rfl) (by kernel_rfl) (by kernel_rfl) (fun _ _ _ h => h) (yieldsIf_load_mid (by rfl) 28 (.tmp 11) (by rfl) Y.heap.size 0 (by rfl) (Hd.cs u1) _ (fun w' hSw => Blk.rangeAt (l := Hd.cs u1) hSw) Try.underlying28 rfl (size23 _)) hHeld ?_
        try simp only [Act.put, zq1, zq2, zq3, zq4, zq5, zq6]
        refine wpAnyH_take (i := 3) (v := ?v18) rfl (by kernel_rfl) (by kernel_rfl) (by kernel_rfl) (fun _ _ _ h => h) (Or.inl ⟨by rfl, ?hy18⟩) hHeld ?rest18
        case hy18 =>
          intro w' hSw
          try dsimp only at hSw
          go_simp
          first | done | with_reducible rfl
        try simp only [Act.put, zq1, zq2, zq3, zq4, zq5, zq6]
        refine wpAnyH_ready (rs := [4]) (by kernel_rfl) (by simp) ?_
        refine AllReadyH.cons (by rfl) (fun K hK => ?_) AllReadyH.nil
        go_simp
        refine (size_at B.out.da).mono ?_
        rintro r w' ⟨rfl, rfl⟩
        clear hHeld
        refine hK.out _ _ N.out (fun hHeld => ?_)
        clear hK K
        try simp only [Act.put, zq1, zq2, zq3, zq4, zq5, zq6]
        refine wpAnyH_ready (rs := [5]) (by kernel_rfl) (by simp) ?_
        refine AllReadyH.cons (by rfl) (fun K hK => ?_) AllReadyH.nil
        go_simp
        refine (fits_any u1 Q1.out _ _).mono ?_
        rw [show D.stepped.stepped.size = D.size from rfl, Q2.out]
        rintro r X ⟨rfl, hb⟩
        replace N := Lib.hid (N.out.below hb N.out.lt)
        replace B := Lib.hid (B.out.next hb)
        clear hb hHeld
        refine hK.out _ _ N.out (fun hHeld => ?_)
        clear hK K
        try dsimp only
        refine wpAnyH_take (i := 6) (v := ?v19) rfl (by kernel_rfl) (by kernel_rfl) (by kernel_rfl) (fun _ _ _ h => h) (Or.inl ⟨by rfl, ?hy19⟩) hHeld ?rest19
        case hy19 =>
          intro w' hSw
          try dsimp only at hSw
          go_simp
          first | done | with_reducible rfl
        try simp only [Act.put, zq1, zq2, zq3, zq4, zq5, zq6]
        refine wpAnyH_done (by kernel_rfl) ?_ _
        refine OnlyN.normal ?_
        clear hHeld
        go_wp2_with fail
        go_roundw
        case rel => exact .inr (.inr ⟨rfl, B.out⟩)
        case measure => simp [intOf]
      · skip
        refine wp_region_only (S := fun _ => True) (by kernel_rfl) trivial (fun hHeld => ?_)
        refine wpAnyH_take (i := 0) (v := ?v20) rfl (by kernel_rfl) (by kernel_rfl) (by kernel_rfl) (fun _ _ _ h => h) (Or.inl ⟨by rfl, ?hy20⟩) hHeld ?rest20
        case hy20 =>
          intro w' hSw
          try dsimp only at hSw
          go_simp
          first | done | with_reducible rfl
        try simp only [Act.put, zq1, zq3, zq4, zq5, zq6]
        refine wpAnyH_take (i := 1) (v := ?v21) rfl (by kernel_rfl) (by kernel_rfl) (by kernel_rfl) (fun _ _ _ h => h) (Or.inl ⟨by rfl, ?hy21⟩) hHeld ?rest21
        case hy21 =>
          intro w' hSw
          try dsimp only at hSw
          go_simp
          first | done | with_reducible rfl
        try simp only [Act.put, zq1, zq2, zq3, zq4, zq5, zq6]
        refine wpAnyH_take (i := 2) (v := undef) rfl (by kernel_rfl) (by kernel_rfl) (by kernel_rfl) (fun _ _ _ h => h) (Or.inr ⟨by rfl, rfl⟩) hHeld ?_
        try simp only [Act.put, zq1, zq2, zq3, zq4, zq5, zq6]
        refine wpAnyH_take (i := 3) (v := undef) rfl (by kernel_rfl) (by kernel_rfl) (by kernel_rfl) (fun _ _ _ h => h) (Or.inr ⟨by rfl, rfl⟩) hHeld ?_
        try simp only [Act.put, zq1, zq2, zq3, zq4, zq5, zq6]
        refine wpAnyH_take (i := 4) (v := undef) rfl (by kernel_rfl) (by kernel_rfl) (by kernel_rfl) (fun _ _ _ h => h) (Or.inr ⟨by rfl, rfl⟩) hHeld ?_
        try simp only [Act.put, zq1, zq2, zq3, zq4, zq5, zq6]
        refine wpAnyH_take (i := 5) (v := undef) rfl (by kernel_rfl) (by kernel_rfl) (by kernel_rfl) (fun _ _ _ h => h) (Or.inr ⟨by rfl, rfl⟩) hHeld ?_
        try simp only [Act.put, zq1, zq2, zq3, zq4, zq5, zq6]
        refine wpAnyH_take (i := 6) (v := ?v22) rfl (by kernel_rfl) (by kernel_rfl) (by kernel_rfl) (fun _ _ _ h => h) (Or.inl ⟨by rfl, ?hy22⟩) hHeld ?rest22
        case hy22 =>
          intro w' hSw
          try dsimp only at hSw
          go_simp
          first | done | with_reducible rfl
        try simp only [Act.put, zq1, zq2, zq3, zq4, zq5, zq6]
        refine wpAnyH_done (by kernel_rfl) ?_ _
        refine OnlyN.normal ?_
        clear hHeld
        go_wp2_with fail
        go_roundw
        case rel => exact .inr (.inr ⟨rfl, B.out⟩)
        case measure => simp [intOf]
    · have A2 := Lib.hid hbt
      clear hbt A0
      go_wp2_with fail
      have A3 := Lib.hid A2.out.drew
      refine wp_region_only (S := fun w' => Blk w' (w.heap.size + 1 + 1) 49 (cs2 g0 g1).toArray ∧ Blk w' (w.heap.size + 1 + 1 + 1) 50 #[.bool a, .bool b]) (by kernel_rfl) ⟨A3.out.h5, A3.out.h6⟩ (fun hHeld => ?_)
      refine wpAnyH_take (i := 0) rfl (by kernel_rfl) (by kernel_rfl) (by kernel_rfl) (fun _ _ _ h => h) (yieldsIf_load_mid (by rfl) 49 (.tmp 5) (by rfl) (w.heap.size + 1 + 1) 0 (by rfl) (cs2 g0 g1) _ (fun w' hSw => Blk.rangeAt (l := cs2 g0 g1) hSw.1) Try.underlying49 rfl (size52 _ _)) hHeld ?_
      try simp only [Act.put, zq1, zq3, zq4, zq5, zq6]
      refine wpAnyH_take (i := 1) rfl (by kernel_rfl) (by kernel_rfl) (by kernel_rfl) (fun _ _ _ h => h) (yieldsIf_load_mid (by rfl) 50 (.tmp 6) (by rfl) (w.heap.size + 1 + 1 + 1) 0 (by rfl) [.bool a, .bool b] _ (fun w' hSw => Blk.rangeAt (l := [.bool a, .bool b]) hSw.2) Try.underlying50 rfl (size53 _ _)) hHeld ?_
      try simp only [Act.put, zq1, zq2, zq3, zq4, zq5, zq6]
      refine wpAnyH_ready (rs := [2]) (by kernel_rfl) (by simp) ?_
      refine AllReadyH.cons (by rfl) (fun K hK => ?_) AllReadyH.nil
      refine step_store8 rfl 49 (.tmp 2) (.tmp 46) rfl (by rfl) (cs2 g0 g1).toArray (cs2 hd0 hd0).toArray 49 (by rfl) A3.out.h2 (by kernel_rfl) rfl (cs2_one _ _) ?_
      intro W6 j6 f6
      have J6 := Lib.hid j6
      have K6 := Lib.hid (f6.keepBlk A3.out.h3 (by omega))
      have K5 := Lib.hid (f6.keepBlk A3.out.h5 (by omega))
      have K4 := Lib.hid (f6.keepBlk A3.out.h6 (by omega))
      have D6 := Lib.hid (A3.out.da.fr f6 (fun k hk e => A3.out.nh k (by omega) hk))
      have F6 := Lib.hid (A3.out.fr.then_ f6 (fun i hi e => by omega))
      clear hHeld j6 f6
      refine hK.out _ _ ⟨K5.out, K4.out⟩ (fun hHeld => ?_)
      clear hK K
      try simp only [Act.put, zq1, zq2, zq3]
      refine wpAnyH_ready (rs := [3]) (by kernel_rfl) (by simp) ?_
      refine AllReadyH.cons (by rfl) (fun K hK => ?_) AllReadyH.nil
      refine step_store8 rfl 50 (.tmp 3) (.tmp 47) rfl (by rfl) #[.bool a, .bool b] #[.bool false, .bool false] 50 (by rfl) K6.out (by kernel_rfl) rfl (by simp [Value.oneCell']) ?_
      intro W7 j7 f7
      have J7 := Lib.hid j7
      have M7 := Lib.hid (f7.keepBlk J6.out (by omega))
      have M5 := Lib.hid (f7.keepBlk K5.out (by omega))
      have M4 := Lib.hid (f7.keepBlk K4.out (by omega))
      have D7 := Lib.hid (D6.out.fr f7 (fun k hk e => A3.out.nh k (by omega) hk))
      have F7 := Lib.hid (F6.out.then_ f7 (fun i hi e => by omega))
      clear hHeld j7 f7
      refine hK.out _ _ ⟨M5.out, M4.out⟩ (fun hHeld => ?_)
      clear hK K
      try simp only [Act.put, zq1, zq2, zq3]
      refine wpAnyH_take (i := 4) (v := ?v23) rfl (by kernel_rfl) (by kernel_rfl) (by kernel_rfl) (fun _ _ _ h => h) (Or.inl ⟨by rfl, ?hy23⟩) hHeld ?rest23
      case hy23 =>
        intro w' hSw
        try dsimp only at hSw
        go_simp
        first | done | with_reducible rfl
      try simp only [Act.put, zq1, zq2, zq3, zq4, zq5, zq6]
      refine wpAnyH_done (by kernel_rfl) ?_ _
      refine OnlyN.normal ?_
      clear hHeld
      go_wp2_with fail
      exact bodyPost_ret (results_both rfl _ _ w.heap.size (w.heap.size + 1) g0 g1 a b rfl rfl M7.out J7.out) rfl ⟨rfl, D7.out, F7.out⟩
end Go.Proofs.Ytjfcmoappbfnjaa

namespace Go.Proofs.Ytjfcmoappbfnjaa
open List renaming getElem_toArray → zq1, getElem_cons_succ → zq2, getElem_cons_zero → zq3, setIfInBounds_toArray → zq4, set_cons_zero → zq5, set_cons_succ → zq6
open Go.RowKit
section
variable {w : World} {B p : Nat} {pl : Pl} {z k : Nat} {L : Nat → List UInt8}
set_option maxRecDepth 8000 in
theorem calm_both (hc : Calm w B p pl z L [] k) (hz : 2 ≤ z) (hk : k < 999990) :
    Calls Try.prog 20 #[.pointer (some ⟨p, 0, none⟩)] w fun r w' => r = .returned (.tuple #[.agg (cs2 (gotH z (L 0)) (gotH z (L 1))).toArray, .agg #[.bool (gotB z (L 0)), .bool (gotB z (L 1))], .int .i64 0]) ∧ Calm w' B p pl z L [] (k + 2) ∧ Fr (pl.has p) w w' := by
  obtain ⟨D, hd, h1, h2, h3, h4, h5⟩ := hc
  have hr : ∀ n, D.reads n = L n := by
    intro n
    unfold Dk.reads
    rw [h3, h2]
    rfl
  refine (both_ok hd (by rw [h3]; simp) (by omega) (by omega) (calm_next h5) (calm_next (calm_fails h5))).mono ?_
  rintro r w' ⟨rfl, hd', hf⟩
  refine ⟨by rw [hr, hr, h1], ⟨_, hd', h1, h2, h3, ?_, calm_fails (calm_fails h5)⟩, hf⟩
  show D.steps + 1 + 1 = _
  rw [h4]
set_option maxRecDepth 8000 in
/-- a crash with one write that waits: the other disk, which never fails -/
theorem calm_crash {n : Nat} {N : List UInt8} (hc : Calm w B p pl z L [(n, N)] k) (c : Cr) (A : Option Addr) (cap : Nat) (hr : RdB w A c.keep) (hc0 : 0 ≤ c.bytes) (hc5 : c.bytes ≤ 512) :
    Calls Try.prog 25 #[.pointer (some ⟨p, 0, none⟩), c.val A cap] w fun e w' => ∃ p' m, e = .returned (.tuple #[.pointer (some ⟨p', 0, none⟩), .int .i64 0]) ∧ Calm w' w.heap.size p' (leftPl m) z (upL L n (tornL N (L n) (c.kn 0))) [] 0 ∧ Calm w' B p pl z L [(n, N)] k ∧ Below w.heap.size w w' := by
  obtain ⟨D, hd, h1, h2, h3, h4, h5⟩ := hc
  refine (crash_ok hd (by rw [h3]; simp) c A cap hr hc0 hc5).mono ?_
  rintro r w' ⟨p', m, rfl, hd', hb⟩
  refine ⟨p', m, rfl, ⟨_, hd', h1, ?_, rfl, rfl, rfl⟩, ⟨D, hd.below hb, h1, h2, h3, h4, h5⟩, hb⟩
  rw [crashed_one8 h3, h2]
set_option maxRecDepth 8000 in
/-- one round of the loop, where its bit is turned -/
theorem spoil_hit {D : Dk} {s n : Nat} {f : Int} {b : Nat} (hd : DiskAt w B p pl (dkT D s f b n)) (hw : D.waits = []) (hs : s < D.size) (hh : hitT f b n = true) :
    Calls Try.prog 26 #[.pointer (some ⟨p, 0, none⟩), .int .i64 (s : Int), .int .i64 (((f.toNat + n) / 8 : Nat) : Int), .int .u8 ((2 ^ ((f.toNat + n) % 8) : Nat) : Int)] w fun e w' => e = .returned (.int .i64 0) ∧ DiskAt w' B p pl (dkT D s f b (n + 1)) ∧ Fr (pl.has p) w w' := by
  obtain ⟨k1, _, _, _, k5⟩ := dkT_keeps D s f b n
  obtain ⟨h0, h1, h2, _⟩ := hitT_yes hh
  have h := spoil_goes hd (by rw [k5 hw]; simp) s ((f.toNat + n) / 8) (UInt8.ofNat (2 ^ ((f.toNat + n) % 8))) (by rw [k1]; exact hs) (by omega)
  rw [bit_u8 _ (by omega)] at h
  rw [dkT, if_pos hh]
  exact h
set_option maxRecDepth 8000 in
theorem dkT_skip {D : Dk} {s n : Nat} {f : Int} {b : Nat} (hh : hitT f b n = false) : dkT D s f b (n + 1) = dkT D s f b n := by
  rw [dkT, hh]
  rfl
set_option maxRecDepth 8000 in
/-- behind the loop -/
theorem calm_turned {D : Dk} {s : Nat} {f : Int} {b : Nat} (hd : DiskAt w B p pl (dkT D s f b 32)) (h1 : D.size = z) (h3 : D.waits = []) (h4 : D.steps = k) (h5 : D.fails = fun _ => false) : Calm w B p pl z (dkT D s f b 32).lasts [] k := by
  obtain ⟨k1, k2, _, k4, k5⟩ := dkT_keeps D s f b 32
  exact ⟨_, hd, k1.trans h1, rfl, k5 h3, k2.trans h4, k4.trans h5⟩
end
end Go.Proofs.Ytjfcmoappbfnjaa

namespace Go.Proofs.Ytjfcmoappbfnjaa
open List renaming getElem_toArray → zq1, getElem_cons_succ → zq2, getElem_cons_zero → zq3, setIfInBounds_toArray → zq4, set_cons_zero → zq5, set_cons_succ → zq6
open Go.RowKit
/-- the sectors behind a write and a flush -/
def putL (L : Nat → List UInt8) (n : Nat) (h : Hd) : Nat → List UInt8 := if h.ok then upL L n (hdB h) else L
set_option maxRecDepth 8000 in
theorem putL_self (L : Nat → List UInt8) (n : Nat) (h : Hd) (hz : L n = zs) : putL L n h n = slotL (decide h.ok) h := by
  unfold putL
  by_cases hh : h.ok
  · rw [if_pos hh, upL_self8, decide_eq_true hh]; rfl
  · rw [if_neg hh, hz, decide_eq_false hh]; rfl
set_option maxRecDepth 8000 in
theorem putL_other (L : Nat → List UInt8) {n k : Nat} (h : Hd) (hk : k ≠ n) : putL L n h k = L k := by
  unfold putL
  by_cases hh : h.ok
  · rw [if_pos hh, upL_other8 _ _ hk]
  · rw [if_neg hh]
/-- behind both rounds -/
def twoL (x y : Hd) : Nat → List UInt8 := putL (putL (fun _ => zs) 0 x) 1 y
set_option maxRecDepth 8000 in
theorem twoL_0 (x y : Hd) : twoL x y 0 = slotL (decide x.ok) x := by
  unfold twoL
  rw [putL_other _ _ (by omega), putL_self _ _ _ rfl]
set_option maxRecDepth 8000 in
theorem twoL_1 (x y : Hd) : twoL x y 1 = slotL (decide y.ok) y := by
  unfold twoL
  exact putL_self _ _ _ (putL_other _ _ (by omega))
set_option maxRecDepth 8000 in
theorem calm_flushP {w : World} {B p : Nat} {pl : Pl} {z k n : Nat} {L : Nat → List UInt8} {h : Hd} (hc : Calm w B p pl z L (if h.ok then [(n, hdB h)] else []) k) (hk : k < 1000000) :
    Calls Try.prog 24 #[.pointer (some ⟨p, 0, none⟩)] w fun r w' => r = .returned (.int .i64 0) ∧ Calm w' B p { pl with wv := .slice none 0 0 } z (putL L n h) [] (k + 1) ∧ Fr (pl.has p) w w' := by
  unfold putL
  by_cases hh : h.ok
  · rw [if_pos hh] at hc ⊢
    exact calm_flush1 hc (hdB_length h) hk
  · rw [if_neg hh] at hc ⊢
    exact calm_flush0 hc hk
set_option maxRecDepth 8000 in
/-- a slot that was not written again tells what it told -/
theorem slot_stays {h : Hd} {z : Nat} (hm : h.e ≤ 9223372036854775807) (hz : 20 + 3 * h.o = (z : Int)) : gotB z (slotL (decide h.ok) h) = decide h.ok ∧ (h.ok → gotH z (slotL (decide h.ok) h) = h) := by
  obtain ⟨h1, h2⟩ := got_slot8 (ok := decide h.ok) decide_eq_true_iff hm hz
  exact ⟨h1, fun hh => h2 (decide_eq_true hh)⟩
set_option maxRecDepth 8000 in
/-- a torn slot tells nothing, the new header, or the one it told before -/
theorem slot_torn {h g : Hd} {z k : Nat} (hg : g.ok) (hgm : g.e ≤ 9223372036854775807) (hgz : 20 + 3 * g.o = (z : Int)) (hm : h.e ≤ 9223372036854775807) (ho : h.o = g.o) (hne : h.e ≠ g.e) (hk : k ≤ 512) (ht : gotB z (tornL (hdB g) (slotL (decide h.ok) h) k) = true) :
    gotH z (tornL (hdB g) (slotL (decide h.ok) h) k) = g ∨ h.ok ∧ gotH z (tornL (hdB g) (slotL (decide h.ok) h) k) = h := by
  rcases got_torn8 (ok := decide h.ok) hg hgm hgz decide_eq_true_iff hm (by rw [ho]; exact hgz) hne hk ht with e | ⟨e1, e2⟩
  · exact .inl e
  · exact .inr ⟨of_decide_eq_true e1, e2⟩
set_option maxRecDepth 8000 in
/-- behind the rounds that turn bits: the header is told just where none was turned -/
theorem slot_turned {D : Dk} {s z b : Nat} {f : Int} {g : Hd} (hg : g.ok) (hgm : g.e ≤ 9223372036854775807) (hgz : 20 + 3 * g.o = (z : Int)) (hl : D.lasts s = hdB g) : gotB z ((dkT D s f b 32).lasts s) = decide (numT f b 32 = 0) ∧ (numT f b 32 = 0 → gotH z ((dkT D s f b 32).lasts s) = g) := by
  rcases dkT_end (z := z) (f := f) (b := b) D hl with ⟨h1, h2⟩ | ⟨h1, h2⟩
  · rw [h2, decide_eq_true h1]
    exact ⟨(got_hd8 hg hgm hgz).1, fun _ => (got_hd8 hg hgm hgz).2⟩
  · rw [decide_eq_false h1]
    exact ⟨h2, fun e => absurd e h1⟩
end Go.Proofs.Ytjfcmoappbfnjaa

namespace Go.Proofs.Ytjfcmoappbfnjaa.V
open List renaming getElem_toArray → zq1, getElem_cons_succ → zq2, getElem_cons_zero → zq3, setIfInBounds_toArray → zq4, set_cons_zero → zq5, set_cons_succ → zq6
open Go.RowKit
attribute [local go_sem] Oper.semAt_some
/-- the place of a sector -/
def plc (n i : Nat) : Sp :=
  if i < 2 then ⟨1, 0, i⟩ else if i < 3 then ⟨2, 0, 0⟩ else if i < 11 then ⟨3, 0, i - 3⟩ else if i < 11 + n then ⟨4, 0, i - 11⟩ else if i < 12 + n then ⟨2, 1, 0⟩ else if i < 20 + n then ⟨3, 1, i - 12 - n⟩ else if i < 20 + 2 * n then ⟨4, 1, i - 20 - n⟩ else ⟨5, 0, i - 20 - 2 * n⟩
def preS (n m : Nat) : List Sp := (List.range m).map (plc n)
set_option maxRecDepth 8000 in
theorem preS_snoc (n m : Nat) (x : Sp) (h : plc n m = x) : preS n m ++ [x] = preS n (m + 1) := by simp [preS, List.range_succ, h]
/-- what holds while the places come up -/
structure SA (w0 w : World) (b : Nat) (n : Int) (v : Value) (nn m : Nat) : Prop where
  box : Blk w b 80 #[.int .i64 n]
  own : w.ownsRow (b + 1) 121 3 v m (scs (preS nn m))
  size : b + 1 ≤ w.heap.size
  below : Below b w0 w
theorem SA.next {w0 w w' : World} {b : Nat} {n : Int} {v : Value} {nn m : Nat} (h : SA w0 w b n v nn m) (hb : Below (b + 1) w w') {u : Value} {x : Sp} (ho : w'.ownsRow (b + 1) 121 3 u (m + 1) (scs (preS nn m ++ [x]))) (hx : plc nn m = x) : SA w0 w' b n u nn (m + 1) :=
  ⟨h.box.below hb (Nat.lt_succ_self _), by rw [← preS_snoc nn m x hx]; exact ho, Nat.le_trans h.size hb.size, h.below.trans (hb.mono (Nat.le_succ _))⟩
end Go.Proofs.Ytjfcmoappbfnjaa.V

namespace Go.Proofs.Ytjfcmoappbfnjaa
open List renaming getElem_toArray → zq1, getElem_cons_succ → zq2, getElem_cons_zero → zq3, setIfInBounds_toArray → zq4, set_cons_zero → zq5, set_cons_succ → zq6
open Go.RowKit
attribute [local go_sem] Oper.semAt_some
end Go.Proofs.Ytjfcmoappbfnjaa

namespace Go.Proofs.Ytjfcmoappbfnjaa
open List renaming getElem_toArray → zq1, getElem_cons_succ → zq2, getElem_cons_zero → zq3, setIfInBounds_toArray → zq4, set_cons_zero → zq5, set_cons_succ → zq6
open Go.RowKit
attribute [local go_sem] Oper.semAt_some
section
variable {P : Program} {w : World} {b off : Nat} {t : TypeId} {l ys : List Value}
end
/-- while the document's Both looks at both -/
structure Rt (w0 : World) (r : Rp) (R : Rf) (s z : Nat) (h0 h1 : Hd) (a b : Bool) (W : World) : Prop where
  d1 : Blk W w0.heap.size 33 #[.slice r.A1 r.n1 r.c1, .slice r.A2 r.n2 r.c2, .int .i64 (s : Int), .slice r.A3 r.n3 r.c3]
  d2 : Blk W (w0.heap.size + 1) 33 #[.slice none 0 0, .slice none 0 0, .int .i64 0, .slice none 0 0]
  d3 : Blk W (w0.heap.size + 1 + 1) 49 (cs2 hd0 hd0).toArray
  d4 : Blk W (w0.heap.size + 1 + 1 + 1) 50 #[.bool false, .bool false]
  d6 : Blk W (w0.heap.size + 1 + 1 + 1 + 1) 49 (cs2 h0 h1).toArray
  d7 : Blk W (w0.heap.size + 1 + 1 + 1 + 1 + 1) 50 #[.bool a, .bool b]
  rf : RefAt W r R z
  be : Below w0.heap.size w0 W
  lt : ∀ k, r.at_ R k → k < w0.heap.size
section
variable {w0 W W' : World} {r : Rp} {R : Rf} {s s' z : Nat} {h0 h1 : Hd} {a b : Bool}
theorem Rt.next (h : Rt w0 r R s z h0 h1 a b W) (hb : Below W.heap.size W W') : Rt w0 r R s z h0 h1 a b W' :=
  ⟨h.d1.below hb h.d1.lt, h.d2.below hb h.d2.lt, h.d3.below hb h.d3.lt, h.d4.below hb h.d4.lt, h.d6.below hb h.d6.lt, h.d7.below hb h.d7.lt, h.rf.below hb, h.be.trans (hb.mono h.be.size), h.lt⟩
theorem Rt.alloc (h : Rt w0 r R s z h0 h1 a b W) (o : Obj) : Rt w0 r R s z h0 h1 a b (W.alloc o) := h.next ((Below.refl _ W).alloc (Nat.le_refl _) o)
theorem Rt.drew (h : Rt w0 r R s z h0 h1 a b W) : Rt w0 r R s z h0 h1 a b W.drew := h.next (Below.drew (Below.refl _ W))
theorem Rt.far {g : Nat} (h : Rt w0 r R s z h0 h1 a b W) (hf : Fr (fun k => k = g) W W') (hg : w0.heap.size + 1 + 1 + 1 + 1 + 1 < g) : Rt w0 r R s z h0 h1 a b W' :=
  ⟨hf.keepBlk h.d1 (by omega), hf.keepBlk h.d2 (by omega), hf.keepBlk h.d3 (by omega), hf.keepBlk h.d4 (by omega), hf.keepBlk h.d6 (by omega), hf.keepBlk h.d7 (by omega), h.rf.fr hf (fun k hk e => by have := h.lt k hk; omega), h.be.trans (hf.to_below (fun k e => by omega) h.be.size), h.lt⟩
end
end Go.Proofs.Ytjfcmoappbfnjaa

namespace Go.Proofs.Ytjfcmoappbfnjaa
open List renaming getElem_toArray → zq1, getElem_cons_succ → zq2, getElem_cons_zero → zq3, setIfInBounds_toArray → zq4, set_cons_zero → zq5, set_cons_succ → zq6
open Go.RowKit
attribute [local go_sem] Oper.semAt_some
end Go.Proofs.Ytjfcmoappbfnjaa

namespace Go.Proofs.Ytjfcmoappbfnjaa
open List renaming getElem_toArray → zq1, getElem_cons_succ → zq2, getElem_cons_zero → zq3, setIfInBounds_toArray → zq4, set_cons_zero → zq5, set_cons_succ → zq6
open Go.RowKit
attribute [local go_sem] Oper.semAt_some
attribute [local go_sem] run_store_bv run_store_wc run_store_bv_drew run_store_wc_drew
end Go.Proofs.Ytjfcmoappbfnjaa

namespace Go.Proofs.Ytjfcmoappbfnjaa
open List renaming getElem_toArray → zq1, getElem_cons_succ → zq2, getElem_cons_zero → zq3, setIfInBounds_toArray → zq4, set_cons_zero → zq5, set_cons_succ → zq6
open Go.RowKit
attribute [local go_sem] Oper.semAt_some
end Go.Proofs.Ytjfcmoappbfnjaa

namespace Go.Proofs.Ytjfcmoappbfnjaa
open List renaming getElem_toArray → zq1, getElem_cons_succ → zq2, getElem_cons_zero → zq3, setIfInBounds_toArray → zq4, set_cons_zero → zq5, set_cons_succ → zq6
open Go.RowKit
section
variable {w : World} {R : Rf} {s z : Nat}
end
end Go.Proofs.Ytjfcmoappbfnjaa

namespace Go.Proofs.Ytjfcmoappbfnjaa
open List renaming getElem_toArray → zq1, getElem_cons_succ → zq2, getElem_cons_zero → zq3, setIfInBounds_toArray → zq4, set_cons_zero → zq5, set_cons_succ → zq6
open Go.RowKit
attribute [local go_sem] Oper.semAt_some
set_option maxRecDepth 8000 in
theorem eqIn23 (w : World) (d : Nat) (g : Hd) : (Op.equalIn (d + 2) 28 g.val g.val).run Try.prog w = .ok true w := by
  go_simp
section
variable {ops : Array Oper} {S : World → Prop} {o : Oper} {a : Act}
set_option maxRecDepth 8000 in
theorem y_ne23 (hw : Region.wanted o (yielded ops a.tmps) = true) (x y : Operand) (ho : o.op = .binOp .neq 28 x y 28) (g : Hd) (hx : a.eval x = g.val) (hy : a.eval y = g.val) : YieldsIf Try.prog ops S o (.bool false) a :=
  .inl ⟨hw, fun w _ => by
    have h := eqIn23 w 9998 g
    have hb : (binOp .neq 28 g.val g.val).run Try.prog w = .ok (.bool false) w := by
      simp only [binOp]
      simp [show ∀ x y, Op.equal 28 x y = Op.equalIn (9998 + 2) 28 x y from fun _ _ => rfl, h]
    unfold execOp
    simp only [ho, hx, hy, Sem.run_bind, run_eqGuard_agg (P := Try.prog) w .neq 28 x y _ _ (by kernel_rfl), hb, Result.andThen_ok, Sem.run_pure]⟩
end
end Go.Proofs.Ytjfcmoappbfnjaa

namespace Go.Proofs.Ytjfcmoappbfnjaa
open List renaming getElem_toArray → zq1, getElem_cons_succ → zq2, getElem_cons_zero → zq3, setIfInBounds_toArray → zq4, set_cons_zero → zq5, set_cons_succ → zq6
open Go.RowKit Go.ChangeShapes Go.WideShapes Go.ChangeAt
attribute [local go_sem] Oper.semAt_some
end Go.Proofs.Ytjfcmoappbfnjaa

namespace Go.Proofs.Ytjfcmoappbfnjaa
open List renaming getElem_toArray → zq1, getElem_cons_succ → zq2, getElem_cons_zero → zq3, setIfInBounds_toArray → zq4, set_cons_zero → zq5, set_cons_succ → zq6
open Go.RowKit Go.ChangeShapes Go.WideShapes Go.ChangeAt
section
variable {H : Type} {enc : TypeId × Value → H} {W : World} {base : Nat} {held : Bool} {d : DataW H} {p : List MemPlace}
set_option maxRecDepth 8000 in
theorem okWide_arr8 {P : Program} {w : World} {r : Reach} {b0 n : Nat} {t e : TypeId} {v : Value} (ht : P.underlying t = some (.array n e)) (h : Value.okWide P w r b0 t v) : ∃ cs, v = .agg cs ∧ cs.size = P.cellsOf t := by
  simp only [Value.okWide, ht] at h
  obtain ⟨cs, h1, h2, _⟩ := h
  exact ⟨cs, h1, h2⟩
set_option maxRecDepth 8000 in
theorem open_crash8 {r : Reach} {b0 : Nat} {v : Value} (hv : Value.okWide Try.prog W r b0 62 v) (h : DataW.Trod enc Try.prog W base (fun _ => true) held 62 v d p) :
    ∃ (KA : Option Addr) (kc : Nat) (cr : Cr), v = .agg #[.slice KA cr.keep.length kc, .int .i64 cr.torn, .int .i64 cr.bytes] ∧ RdB W KA cr.keep := by
  obtain ⟨cs, rfl, _⟩ := okWide_struct Try.underlying62 hv
  obtain ⟨fu, hf⟩ := h
  obtain ⟨zs, m, _, _, hl, hzn, hzl⟩ := DataW.trod_struct Try.underlying62 hf
  rw [show Try.prog.cellsOf 62 = 3 by kernel_rfl] at hl
  obtain ⟨cs⟩ := cs
  simp only [Value.cells] at hl hzl
  match zs, hzn with
  | [z0, z1, z2], _ =>
    have k0 : DataW.trod enc Try.prog W base (fun _ => true) held m 60 ((cs.drop 0).take (Try.prog.cellsOf 60)) = some z0 := hzl 0 _ rfl
    have k1 : DataW.trod enc Try.prog W base (fun _ => true) held m 3 ((cs.drop 1).take (Try.prog.cellsOf 3)) = some z1 := hzl 1 _ rfl
    have k2 : DataW.trod enc Try.prog W base (fun _ => true) held m 3 ((cs.drop 2).take (Try.prog.cellsOf 3)) = some z2 := hzl 2 _ rfl
    rw [show Try.prog.cellsOf 3 = 1 by kernel_rfl] at k1 k2
    rw [show Try.prog.cellsOf 60 = 1 by kernel_rfl] at k0
    match cs, hl with
    | [c5, c6, c7], _ =>
      simp only [List.drop_zero, List.take_succ_cons, List.take_zero, List.drop_succ_cons] at k0 k1 k2
      obtain ⟨A5, p5, l5, e5, _, r5, _⟩ := bools_lie k0
      obtain ⟨n6, e6, _, _⟩ := DataW.trod_int Try.underlying3 k1
      obtain ⟨n7, e7, _, _⟩ := DataW.trod_int Try.underlying3 k2
      simp only [List.cons.injEq, and_true] at e5 e6 e7
      subst e5 e6 e7
      exact ⟨A5, p5, ⟨l5, n6, n7⟩, rfl, r5⟩
set_option maxRecDepth 8000 in
theorem hd_lies {fuel : Nat} {cs : List Value} {x : DataW H × List MemPlace} (h : DataW.trod enc Try.prog W base (fun _ => true) held fuel 28 cs = some x) : ∃ u : Hd, cs = u.cs ∧ u.e ≤ 9223372036854775807 := by
  obtain ⟨zs, m, _, _, hl, hzn, hzl⟩ := DataW.trod_struct Try.underlying28 h
  rw [show Try.prog.cellsOf 28 = 3 by kernel_rfl] at hl
  match zs, hzn with
  | [z0, z1, z2], _ =>
    have k0 : DataW.trod enc Try.prog W base (fun _ => true) held m 2 ((cs.drop 0).take (Try.prog.cellsOf 2)) = some z0 := hzl 0 _ rfl
    have k1 : DataW.trod enc Try.prog W base (fun _ => true) held m 3 ((cs.drop 1).take (Try.prog.cellsOf 3)) = some z1 := hzl 1 _ rfl
    have k2 : DataW.trod enc Try.prog W base (fun _ => true) held m 3 ((cs.drop 2).take (Try.prog.cellsOf 3)) = some z2 := hzl 2 _ rfl
    rw [show Try.prog.cellsOf 3 = 1 by kernel_rfl] at k1 k2
    rw [show Try.prog.cellsOf 2 = 1 by kernel_rfl] at k0
    match cs, hl with
    | [c5, c6, c7], _ =>
      simp only [List.drop_zero, List.take_succ_cons, List.take_zero, List.drop_succ_cons] at k0 k1 k2
      obtain ⟨n5, e5, _, w5⟩ := DataW.trod_int Try.underlying2 k0
      obtain ⟨n6, e6, _, _⟩ := DataW.trod_int Try.underlying3 k1
      obtain ⟨n7, e7, _, _⟩ := DataW.trod_int Try.underlying3 k2
      simp only [List.cons.injEq, and_true] at e5 e6 e7
      subst e5 e6 e7
      refine ⟨⟨n5, n6, n7⟩, rfl, ?_⟩
      have h2 : IntKind.i64.max = 9223372036854775807 := rfl
      simp only [Lit.wf, Bool.and_eq_true, decide_eq_true_eq] at w5
      simp only
      omega
set_option maxRecDepth 8000 in
theorem open_h3 {r : Reach} {b0 : Nat} {v : Value} (hv : Value.okWide Try.prog W r b0 59 v) (h : DataW.Trod enc Try.prog W base (fun _ => true) held 59 v d p) :
    ∃ x y z : Hd, v = .agg (x.cs ++ y.cs ++ z.cs).toArray ∧ x.e ≤ 9223372036854775807 ∧ y.e ≤ 9223372036854775807 ∧ z.e ≤ 9223372036854775807 := by
  obtain ⟨cs, rfl, _⟩ := okWide_arr8 Try.underlying59 hv
  obtain ⟨fu, hf⟩ := h
  obtain ⟨xs, m, _, _, hl, hxn, hxl⟩ := DataW.trod_array Try.underlying59 hf
  obtain ⟨cs⟩ := cs
  simp only [Value.cells] at hl hxl
  match xs, hxn with
  | [z0, z1, z2], _ =>
    have j0 := hxl 0 (by decide)
    have j1 := hxl 1 (by decide)
    have j2 := hxl 2 (by decide)
    rw [show Try.prog.cellsOf 28 = 3 by kernel_rfl] at j0 j1 j2
    obtain ⟨x, e0, w0⟩ := hd_lies j0
    obtain ⟨y, e1, w1⟩ := hd_lies j1
    obtain ⟨z, e2, w2⟩ := hd_lies j2
    rw [show Try.prog.cellsOf 59 = 9 by kernel_rfl] at hl
    refine ⟨x, y, z, ?_, w0, w1, w2⟩
    have : cs = x.cs ++ y.cs ++ z.cs := by
      rw [← e0, ← e1, ← e2]
      simp only [Nat.zero_mul, List.drop_zero, Nat.one_mul, Nat.reduceMul]
      rw [← List.take_append_drop 3 cs]
      match cs, hl with
      | [c1, c2, c3, c4, c5, c6, c7, c8, c9], _ => rfl
    rw [this]
set_option maxRecDepth 8000 in
theorem open_turn {r : Reach} {b0 : Nat} {v : Value} (hv : Value.okWide Try.prog W r b0 65 v) (h : DataW.Trod enc Try.prog W base (fun _ => true) held 65 v d p) :
    ∃ (f : Int) (b : Nat), v = .agg #[.int .i64 f, .int .u32 (b : Int)] ∧ b < 4294967296 := by
  obtain ⟨cs, rfl, _⟩ := okWide_struct Try.underlying65 hv
  obtain ⟨fu, hf⟩ := h
  obtain ⟨zs, m, _, _, hl, hzn, hzl⟩ := DataW.trod_struct Try.underlying65 hf
  rw [show Try.prog.cellsOf 65 = 2 by kernel_rfl] at hl
  obtain ⟨cs⟩ := cs
  simp only [Value.cells] at hl hzl
  match zs, hzn with
  | [z0, z1], _ =>
    have k0 : DataW.trod enc Try.prog W base (fun _ => true) held m 3 ((cs.drop 0).take (Try.prog.cellsOf 3)) = some z0 := hzl 0 _ rfl
    have k1 : DataW.trod enc Try.prog W base (fun _ => true) held m 63 ((cs.drop 1).take (Try.prog.cellsOf 63)) = some z1 := hzl 1 _ rfl
    rw [show Try.prog.cellsOf 3 = 1 by kernel_rfl] at k0
    rw [show Try.prog.cellsOf 63 = 1 by kernel_rfl] at k1
    match cs, hl with
    | [c5, c6], _ =>
      simp only [List.drop_zero, List.take_succ_cons, List.take_zero, List.drop_succ_cons] at k0 k1
      obtain ⟨n5, e5, _, _⟩ := DataW.trod_int Try.underlying3 k0
      obtain ⟨n6, e6, _, w6⟩ := DataW.trod_int Try.underlying63 k1
      simp only [List.cons.injEq, and_true] at e5 e6
      subst e5 e6
      have h1 : IntKind.u32.min = 0 := rfl
      have h2 : IntKind.u32.max = 4294967295 := rfl
      simp only [Lit.wf, Bool.and_eq_true, decide_eq_true_eq] at w6
      obtain ⟨b, rfl⟩ := Int.eq_ofNat_of_zero_le (show 0 ≤ n6 by omega)
      exact ⟨n5, b, rfl, by omega⟩
end
end Go.Proofs.Ytjfcmoappbfnjaa

namespace Go.Proofs.Ytjfcmoappbfnjaa
open List renaming getElem_toArray → zq1, getElem_cons_succ → zq2, getElem_cons_zero → zq3, setIfInBounds_toArray → zq4, set_cons_zero → zq5, set_cons_succ → zq6
open Go.RowKit
set_option maxRecDepth 8000 in
theorem Calm.lt {w : World} {B p : Nat} {pl : Pl} {z k : Nat} {L : Nat → List UInt8} {ws : List (Nat × List UInt8)} (h : Calm w B p pl z L ws k) : ∀ q, pl.has p q → q < w.heap.size ∧ B ≤ q := by
  obtain ⟨D, hd, _⟩ := h
  exact hd.lt
set_option maxRecDepth 8000 in
theorem Calm.below {w w' : World} {B p : Nat} {pl : Pl} {z k : Nat} {L : Nat → List UInt8} {ws : List (Nat × List UInt8)} (h : Calm w B p pl z L ws k) (hb : Below w.heap.size w w') : Calm w' B p pl z L ws k := by
  obtain ⟨D, hd, r⟩ := h
  exact ⟨D, hd.below hb, r⟩
set_option maxRecDepth 8000 in
theorem Calm.fr {w w' : World} {B p : Nat} {pl : Pl} {z k : Nat} {L : Nat → List UInt8} {ws : List (Nat × List UInt8)} {S : Nat → Prop} (h : Calm w B p pl z L ws k) (hf : Fr S w w') (hS : ∀ k, pl.has p k → ¬ S k) : Calm w' B p pl z L ws k := by
  obtain ⟨D, hd, r⟩ := h
  exact ⟨D, hd.fr hf hS, r⟩
/-- blocks of the law, apart from one another and from the disk -/
structure Bl (s : Nat) (w0 w : World) (E : List (Nat × TypeId × Array Value)) (pl : Pl) : Prop where
  bl : ∀ e ∈ E, Blk w e.1 e.2.1 e.2.2
  hn : ∀ e ∈ E, ¬ pl.has (s + 4) e.1
  nd : (E.map Prod.fst).Nodup
  be : Below s w0 w
  lt : ∀ q, pl.has (s + 4) q → q < w.heap.size ∧ s + 3 ≤ q
theorem Bl.at_ {s : Nat} {w0 w : World} {E : List (Nat × TypeId × Array Value)} {pl : Pl} (h : Bl s w0 w E pl) (i : Nat) {g : Nat} {t : TypeId} {c : Array Value} (he : E[i]? = some (g, t, c)) : Blk w g t c := h.bl _ (List.mem_of_getElem? he)
theorem Bl.fr {s : Nat} {w0 w w' : World} {E : List (Nat × TypeId × Array Value)} {pl pl' : Pl} (h : Bl s w0 w E pl) (hf : Fr (pl.has (s + 4)) w w') (hs : s ≤ w.heap.size) (hq : ∀ q, pl'.has (s + 4) q → pl.has (s + 4) q ∨ w.heap.size ≤ q) (hlt : ∀ q, pl'.has (s + 4) q → q < w'.heap.size ∧ s + 3 ≤ q) : Bl s w0 w' E pl' where
  bl := fun e he => hf.keepBlk (h.bl e he) (h.hn e he)
  hn := fun e he hk => (hq _ hk).elim (h.hn e he) (fun hh => by have := (h.bl e he).lt; omega)
  nd := h.nd
  be := h.be.trans (hf.to_below (fun k hk => by have := (h.lt k hk).2; omega) hs)
  lt := hlt
theorem Bl.below {s : Nat} {w0 w w' : World} {E : List (Nat × TypeId × Array Value)} {pl : Pl} (h : Bl s w0 w E pl) (hs : s ≤ w.heap.size) (hb : Below w.heap.size w w') : Bl s w0 w' E pl :=
  h.fr (Fr.of_below hb) hs (fun _ hk => .inl hk) (fun q hk => ⟨Nat.lt_of_lt_of_le (h.lt q hk).1 hb.size, (h.lt q hk).2⟩)
set_option maxRecDepth 8000 in
theorem Bl.push {s : Nat} {w0 w : World} {E : List (Nat × TypeId × Array Value)} {pl : Pl} (h : Bl s w0 w E pl) (hs : s ≤ w.heap.size) (t : TypeId) (c : Array Value) : Bl s w0 (w.alloc (.cells c t)) ((w.heap.size, t, c) :: E) pl where
  bl := fun e he => by
    rcases List.mem_cons.1 he with rfl | he
    · exact Blk.new w t c
    · exact (h.bl e he).alloc _
  hn := fun e he hk => by
    rcases List.mem_cons.1 he with rfl | he
    · have := (h.lt _ hk).1
      exact absurd this (Nat.lt_irrefl _)
    · exact h.hn e he hk
  nd := by
    rw [List.map_cons, List.nodup_cons]
    refine ⟨fun hm => ?_, h.nd⟩
    obtain ⟨e, he, hh⟩ := List.mem_map.1 hm
    have := (h.bl e he).lt
    simp only at hh
    omega
  be := h.be.alloc hs _
  lt := fun q hk => ⟨by have := (h.lt q hk).1; simp; omega, (h.lt q hk).2⟩
set_option maxRecDepth 8000 in
theorem Bl.set {s : Nat} {w0 w w' : World} {E : List (Nat × TypeId × Array Value)} {pl : Pl} (h : Bl s w0 w E pl) (hs : s ≤ w.heap.size) (i : Nat) {g : Nat} {t : TypeId} {c c' : Array Value} (he : E[i]? = some (g, t, c)) (hg : s ≤ g) (hf : Fr (fun k => k = g) w w') (hb : Blk w' g t c') : Bl s w0 w' (E.set i (g, t, c')) pl where
  bl := fun e hm => by
    obtain ⟨j, hj⟩ := List.mem_iff_getElem?.1 hm
    rw [List.getElem?_set] at hj
    by_cases hij : i = j
    · rw [if_pos hij] at hj
      split at hj
      · injection hj with hj
        subst hj
        exact hb
      · cases hj
    · rw [if_neg hij] at hj
      refine hf.keepBlk (h.bl e (List.mem_of_getElem? hj)) (fun hh => hij ?_)
      have h1 : (E.map Prod.fst)[j]? = some g := by rw [List.getElem?_map, hj, ← hh]; rfl
      have h2 : (E.map Prod.fst)[i]? = some g := by rw [List.getElem?_map, he]; rfl
      obtain ⟨l1, e1⟩ := List.getElem?_eq_some_iff.1 h1
      obtain ⟨l2, e2⟩ := List.getElem?_eq_some_iff.1 h2
      have hp := List.pairwise_iff_getElem.1 h.nd
      rcases Nat.lt_trichotomy i j with hlt | rfl | hlt
      · exact absurd (e2.trans e1.symm) (hp i j l2 l1 hlt)
      · rfl
      · exact absurd (e1.trans e2.symm) (hp j i l1 l2 hlt)
  hn := fun e hm hk => by
    obtain ⟨j, hj⟩ := List.mem_iff_getElem?.1 hm
    rw [List.getElem?_set] at hj
    by_cases hij : i = j
    · rw [if_pos hij] at hj
      split at hj
      · injection hj with hj
        subst hj
        exact h.hn _ (List.mem_of_getElem? he) hk
      · cases hj
    · rw [if_neg hij] at hj
      exact h.hn e (List.mem_of_getElem? hj) hk
  nd := by
    have h2 : (E.map Prod.fst)[i]? = some g := by rw [List.getElem?_map, he]; rfl
    obtain ⟨l2, e2⟩ := List.getElem?_eq_some_iff.1 h2
    rw [List.map_set, show (E.map Prod.fst).set i g = E.map Prod.fst by rw [← e2]; exact List.set_getElem_self l2]
    exact h.nd
  be := h.be.trans (hf.to_below (fun k e => by omega) hs)
  lt := fun q hk => ⟨Nat.lt_of_lt_of_le (h.lt q hk).1 hf.size, (h.lt q hk).2⟩
/-- the law's blocks and its disk, behind at most m steps -/
def Un (s : Nat) (w0 w : World) (E : List (Nat × TypeId × Array Value)) (zz : Nat) (U : Nat → List UInt8) (ws : List (Nat × List UInt8)) (m : Nat) : Prop :=
  ∃ pl k, Bl s w0 w E pl ∧ Calm w (s + 3) (s + 4) pl zz U ws k ∧ k ≤ m ∧ s + 5 ≤ w.heap.size
section
variable {s : Nat} {w0 w w' : World} {E : List (Nat × TypeId × Array Value)} {zz m : Nat} {U : Nat → List UInt8} {ws : List (Nat × List UInt8)}
set_option maxRecDepth 8000 in
theorem Un.at_ (h : Un s w0 w E zz U ws m) (i : Nat) {g : Nat} {t : TypeId} {c : Array Value} (he : E[i]? = some (g, t, c)) : Blk w g t c := by
  obtain ⟨pl, k, hb, _⟩ := h
  exact hb.at_ i he
set_option maxRecDepth 8000 in
theorem Un.be (h : Un s w0 w E zz U ws m) : Below s w0 w := by
  obtain ⟨pl, k, hb, _⟩ := h
  exact hb.be
set_option maxRecDepth 8000 in
theorem Un.size (h : Un s w0 w E zz U ws m) : s + 5 ≤ w.heap.size := by
  obtain ⟨pl, k, _, _, _, hs⟩ := h
  exact hs
set_option maxRecDepth 8000 in
theorem Un.below (h : Un s w0 w E zz U ws m) (hb : Below w.heap.size w w') : Un s w0 w' E zz U ws m := by
  obtain ⟨pl, k, h1, h2, h3, h4⟩ := h
  exact ⟨pl, k, h1.below (by omega) hb, h2.below hb, h3, Nat.le_trans h4 hb.size⟩
theorem Un.drew (h : Un s w0 w E zz U ws m) : Un s w0 w.drew E zz U ws m := h.below (Below.refl w.heap.size w).drew
set_option maxRecDepth 8000 in
theorem Un.push (h : Un s w0 w E zz U ws m) (t : TypeId) (c : Array Value) : Un s w0 (w.alloc (.cells c t)) ((w.heap.size, t, c) :: E) zz U ws m := by
  obtain ⟨pl, k, h1, h2, h3, h4⟩ := h
  exact ⟨pl, k, h1.push (by omega) t c, h2.below (Below.heap8 w _), h3, by simp; omega⟩
set_option maxRecDepth 8000 in
theorem Un.set (h : Un s w0 w E zz U ws m) (i : Nat) {g : Nat} {t : TypeId} {c c' : Array Value} (he : E[i]? = some (g, t, c)) (hg : s ≤ g) (hf : Fr (fun k => k = g) w w') (hb : Blk w' g t c') : Un s w0 w' (E.set i (g, t, c')) zz U ws m := by
  obtain ⟨pl, k, h1, h2, h3, h4⟩ := h
  exact ⟨pl, k, h1.set (by omega) i he hg hf hb, h2.fr hf (fun q hk e => h1.hn _ (List.mem_of_getElem? he) (e ▸ hk)), h3, Nat.le_trans h4 hf.size⟩
theorem Un.cell (h : Un s w0 w E zz U ws m) (i : Nat) {g : Nat} {t : TypeId} {c : Array Value} (he : E[i]? = some (g, t, c)) (hg : s ≤ g) (j : Nat) (v : Value) : Un s w0 (w.setCell ⟨g, j, none⟩ v) (E.set i (g, t, c.setIfInBounds j v)) zz U ws m :=
  h.set i he hg (Fr.setCell (p := ⟨g, j, none⟩) (Fr.refl (fun k => k = g) w) (fun _ => rfl) v) ((h.at_ i he).set_ j v)
set_option maxRecDepth 8000 in
/-- a write of a header -/
theorem un_write (h : Un s w0 w E zz U [] m) (n : Nat) (hn : n < 2) (u : Hd) (hm : u.e ≤ 9223372036854775807) (hz : 20 + 3 * u.o = (zz : Int)) (hk : m < 1000000) :
    Calls Try.prog 11 #[.pointer (some ⟨s + 4, 0, none⟩), .int .i64 (n : Int), u.val] w fun r w' => r = .returned (.int .i64 (if u.ok then 0 else 2)) ∧ Un s w0 w' E zz U (if u.ok then [(n, hdB u)] else []) (m + 1) := by
  obtain ⟨pl, k, h1, h2, h3, h4⟩ := h
  refine (calm_write h2 (by omega) n hn u hm hz (by omega)).mono ?_
  rintro r w' ⟨rfl, pl', hc, hf, hq⟩
  exact ⟨rfl, pl', _, h1.fr hf (by omega) hq hc.lt, hc, by split <;> omega, Nat.le_trans h4 hf.size⟩
set_option maxRecDepth 8000 in
/-- the flush behind it -/
theorem un_flush {n : Nat} {u : Hd} (h : Un s w0 w E zz U (if u.ok then [(n, hdB u)] else []) m) (hk : m < 1000000) :
    Calls Try.prog 24 #[.pointer (some ⟨s + 4, 0, none⟩)] w fun r w' => r = .returned (.int .i64 0) ∧ Un s w0 w' E zz (putL U n u) [] (m + 1) := by
  obtain ⟨pl, k, h1, h2, h3, h4⟩ := h
  refine (calm_flushP h2 (by omega)).mono ?_
  rintro r w' ⟨rfl, hc, hf⟩
  exact ⟨rfl, _, _, h1.fr hf (by omega) (fun q hq => .inl (by rcases hq with hq | hq | hq | hq; exact .inl hq; exact .inr (.inl hq); cases hq; exact .inr (.inr (.inr hq)))) hc.lt, hc, by omega, Nat.le_trans h4 hf.size⟩
theorem un_check (h : Un s w0 w E zz U ws m) (u : Hd) : Calls Try.prog 23 #[u.val] w fun r w' => r = .returned (.int .i64 u.no) ∧ Un s w0 w' E zz U ws m :=
  (check_any u w).mono fun _ _ ⟨e, hb⟩ => ⟨e, h.below hb⟩
theorem un_works (h : Un s w0 w E zz U ws m) : Calls Try.prog 8 #[] w fun r w' => r = .returned (.bool true) ∧ Un s w0 w' E zz U ws m :=
  (works8_any w).mono fun _ _ ⟨e, hb⟩ => ⟨e, h.below hb⟩
set_option maxRecDepth 8000 in
/-- both headers of the disk -/
theorem un_both (h : Un s w0 w E zz U [] m) (hz : 2 ≤ zz) (hk : m < 999990) :
    Calls Try.prog 20 #[.pointer (some ⟨s + 4, 0, none⟩)] w fun r w' => r = .returned (.tuple #[.agg (cs2 (gotH zz (U 0)) (gotH zz (U 1))).toArray, .agg #[.bool (gotB zz (U 0)), .bool (gotB zz (U 1))], .int .i64 0]) ∧ Un s w0 w' E zz U [] (m + 2) := by
  obtain ⟨pl, k, h1, h2, h3, h4⟩ := h
  refine (calm_both h2 hz (by omega)).mono ?_
  rintro r w' ⟨rfl, hc, hf⟩
  exact ⟨rfl, _, _, h1.fr hf (by omega) (fun q hq => .inl hq) hc.lt, hc, by omega, Nat.le_trans h4 hf.size⟩
/-- the same, all of it ahead of the block B' -/
def UnB (B' : Nat) (s : Nat) (w0 w : World) (E : List (Nat × TypeId × Array Value)) (zz : Nat) (U : Nat → List UInt8) (ws : List (Nat × List UInt8)) (m : Nat) : Prop :=
  ∃ pl k, Bl s w0 w E pl ∧ Calm w (s + 3) (s + 4) pl zz U ws k ∧ k ≤ m ∧ s + 5 ≤ w.heap.size ∧ (∀ e ∈ E, e.1 < B') ∧ (∀ q, pl.has (s + 4) q → q < B') ∧ s ≤ B'
set_option maxRecDepth 8000 in
/-- a crash -/
theorem un_crash {n : Nat} {N : List UInt8} (h : Un s w0 w E zz U [(n, N)] m) (c : Cr) (A : Option Addr) (cap : Nat) (hr : RdB w0 A c.keep) (hs : w0.heap.size = s) (hc0 : 0 ≤ c.bytes) (hc5 : c.bytes ≤ 512) :
    Calls Try.prog 25 #[.pointer (some ⟨s + 4, 0, none⟩), c.val A cap] w fun e w' => ∃ p' pl' B', e = .returned (.tuple #[.pointer (some ⟨p', 0, none⟩), .int .i64 0]) ∧ Calm w' B' p' pl' zz (upL U n (tornL N (U n) (c.kn 0))) [] 0 ∧ UnB B' s w0 w' E zz U [(n, N)] m := by
  obtain ⟨pl, k, h1, h2, h3, h4⟩ := h
  refine (calm_crash h2 c A cap (hr.below (hs ▸ h1.be)) hc0 hc5).mono ?_
  rintro r w' ⟨p', m', rfl, hc, hc', hb⟩
  exact ⟨p', _, _, rfl, hc, pl, k, h1.below (by omega) hb, hc', h3, Nat.le_trans h4 hb.size, fun e he => (h1.bl e he).lt, fun q hq => (h2.lt q hq).1, by omega⟩
set_option maxRecDepth 8000 in
/-- both headers of what the crash leaves -/
theorem un_bothB {B' p' : Nat} {pl' : Pl} {V : Nat → List UInt8} (h : UnB B' s w0 w E zz U ws m) (hc : Calm w B' p' pl' zz V [] 0) (hz : 2 ≤ zz) :
    Calls Try.prog 20 #[.pointer (some ⟨p', 0, none⟩)] w fun r w' => r = .returned (.tuple #[.agg (cs2 (gotH zz (V 0)) (gotH zz (V 1))).toArray, .agg #[.bool (gotB zz (V 0)), .bool (gotB zz (V 1))], .int .i64 0]) ∧ Un s w0 w' E zz U ws m := by
  obtain ⟨pl, k, h1, h2, h3, h4, h5, h6, h7⟩ := h
  refine (calm_both hc hz (by omega)).mono ?_
  rintro r w' ⟨rfl, _, hf⟩
  have hS : ∀ q, pl'.has p' q → B' ≤ q := fun q hq => (hc.lt q hq).2
  refine ⟨rfl, pl, k, ⟨fun e he => hf.keepBlk (h1.bl e he) (fun hq => by have := hS _ hq; have := h5 e he; omega), h1.hn, h1.nd, h1.be.trans (hf.to_below (fun q hq => by have := hS _ hq; omega) (by omega)), fun q hq => ⟨Nat.lt_of_lt_of_le (h1.lt q hq).1 hf.size, (h1.lt q hq).2⟩⟩, h2.fr hf (fun q hq hq' => by have := hS _ hq'; have := h6 q hq; omega), h3, Nat.le_trans h4 hf.size⟩
/-- within the loop that turns bits -/
def Vn (s : Nat) (w0 w : World) (E : List (Nat × TypeId × Array Value)) (D : Dk) (sl : Nat) (f : Int) (b n : Nat) : Prop :=
  ∃ pl, Bl s w0 w E pl ∧ DiskAt w (s + 3) (s + 4) pl (dkT D sl f b n) ∧ s + 5 ≤ w.heap.size
set_option maxRecDepth 8000 in
/-- the loop begins -/
theorem Un.vn (h : Un s w0 w E zz U [] m) (sl : Nat) (f : Int) (b : Nat) : ∃ D : Dk, Vn s w0 w E D sl f b 0 ∧ D.size = zz ∧ D.lasts = U ∧ D.waits = [] ∧ D.steps ≤ m ∧ D.fails = fun _ => false := by
  obtain ⟨pl, k, h1, ⟨D, hd, d1, d2, d3, d4, d5⟩, h3, h4⟩ := h
  exact ⟨D, ⟨pl, h1, hd, h4⟩, d1, d2, d3, by omega, d5⟩
set_option maxRecDepth 8000 in
/-- the loop ends -/
theorem Vn.un {D : Dk} {sl : Nat} {f : Int} {b : Nat} (h : Vn s w0 w E D sl f b 32) (d1 : D.size = zz) (d3 : D.waits = []) (d4 : D.steps ≤ m) (d5 : D.fails = fun _ => false) : Un s w0 w E zz (dkT D sl f b 32).lasts [] m := by
  obtain ⟨pl, h1, h2, h4⟩ := h
  exact ⟨pl, D.steps, h1, calm_turned h2 d1 d3 rfl d5, d4, h4⟩
set_option maxRecDepth 8000 in
theorem Vn.at_ {D : Dk} {sl n : Nat} {f : Int} {b : Nat} (h : Vn s w0 w E D sl f b n) (i : Nat) {g : Nat} {t : TypeId} {c : Array Value} (he : E[i]? = some (g, t, c)) : Blk w g t c := by
  obtain ⟨pl, hb, _⟩ := h
  exact hb.at_ i he
set_option maxRecDepth 8000 in
theorem Vn.skip {D : Dk} {sl n : Nat} {f : Int} {b : Nat} (h : Vn s w0 w E D sl f b n) (hh : hitT f b n = false) : Vn s w0 w E D sl f b (n + 1) := by
  obtain ⟨pl, h1, h2, h4⟩ := h
  exact ⟨pl, h1, by rw [dkT_skip hh]; exact h2, h4⟩
set_option maxRecDepth 8000 in
theorem vn_spoil {D : Dk} {sl n : Nat} {f : Int} {b : Nat} (h : Vn s w0 w E D sl f b n) (hw : D.waits = []) (hs : sl < D.size) (hh : hitT f b n = true) :
    Calls Try.prog 26 #[.pointer (some ⟨s + 4, 0, none⟩), .int .i64 (sl : Int), .int .i64 (((f.toNat + n) / 8 : Nat) : Int), .int .u8 ((2 ^ ((f.toNat + n) % 8) : Nat) : Int)] w fun e w' => e = .returned (.int .i64 0) ∧ Vn s w0 w' E D sl f b (n + 1) := by
  obtain ⟨pl, h1, h2, h4⟩ := h
  refine (spoil_hit h2 hw hs hh).mono ?_
  rintro r w' ⟨rfl, hd, hf⟩
  exact ⟨rfl, pl, h1.fr hf (by omega) (fun q hq => .inl hq) hd.lt, hd, Nat.le_trans h4 hf.size⟩
set_option maxRecDepth 8000 in
/-- the law's disk is made -/
theorem un_new (w0 w : World) (E : List (Nat × TypeId × Array Value)) (n : Nat) (h1 : 1 ≤ n) (h2 : n ≤ 4096) (hs : w.heap.size = s + 3) (hE : ∀ e ∈ E, Blk w e.1 e.2.1 e.2.2) (nd : (E.map Prod.fst).Nodup) (be : Below s w0 w) :
    Calls Try.prog 22 #[.int .i64 (n : Int)] w fun e w' => e = .returned (.tuple #[.pointer (some ⟨s + 4, 0, none⟩), .int .i64 0]) ∧ Un s w0 w' E n (fun _ => zs) [] 0 ∧ w'.heap.size = s + 5 := by
  refine (new_yes w n h1 h2).mono ?_
  rintro e w' ⟨rfl, rfl⟩
  have hd := new_at w n h1 h2
  have hb : Below w.heap.size w _ := ((Below.refl w.heap.size w).alloc (Nat.le_refl _) (.map #[] 0)).alloc (by simp) (.cells (dcells (newPl w.heap.size) (newDk n)) 90)
  have hz : ((w.alloc (.map #[] 0)).alloc (.cells (dcells (newPl w.heap.size) (newDk n)) 90)).heap.size = s + 5 := by simp; omega
  generalize (w.alloc (.map #[] 0)).alloc (.cells (dcells (newPl w.heap.size) (newDk n)) 90) = W at hd hb hz ⊢
  have hbs : Below s w W := hb.mono (by omega)
  have hE' : ∀ e ∈ E, Blk W e.1 e.2.1 e.2.2 := fun e he => (hE e he).below hb (hE e he).lt
  have hl : ∀ e ∈ E, e.1 < s + 3 := fun e he => hs ▸ (hE e he).lt
  rw [hs] at hd ⊢
  exact ⟨rfl, ⟨newPl (s + 3), 0, ⟨hE', fun e he hk => by have h3 := (hd.lt _ hk).2; have h4 := hl e he; omega, nd, be.trans hbs, hd.lt⟩, ⟨newDk n, hd, rfl, rfl, rfl, rfl, rfl⟩, Nat.le_refl _, by omega⟩, hz⟩
end
end Go.Proofs.Ytjfcmoappbfnjaa

namespace Go.Proofs.Ytjfcmoappbfnjaa
open List renaming getElem_toArray → zq1, getElem_cons_succ → zq2, getElem_cons_zero → zq3, setIfInBounds_toArray → zq4, set_cons_zero → zq5, set_cons_succ → zq6
open Go.RowKit
attribute [local go_sem] Oper.semAt_some
set_option maxRecDepth 8000 in
theorem blk_new2 (w : World) (o o' : Obj) (t : TypeId) (cs : Array Value) : Blk (((w.alloc o).alloc o').alloc (.cells cs t)) (w.heap.size + 2) t cs := by
  have h := Blk.new ((w.alloc o).alloc o') t cs
  rwa [show ((w.alloc o).alloc o').heap.size = w.heap.size + 2 by simp] at h
/-- three headers' cells -/
abbrev c9 (X Y Z : Hd) : Array Value := #[.int .i64 X.e, .int .i64 X.a, .int .i64 X.o, .int .i64 Y.e, .int .i64 Y.a, .int .i64 Y.o, .int .i64 Z.e, .int .i64 Z.a, .int .i64 Z.o]
set_option maxRecDepth 8000 in
theorem rng9 {w : World} {g : Nat} {t : TypeId} {X Y Z : Hd} (h : Blk w g t (c9 X Y Z)) : w.rangeAt g 0 X.cs ∧ w.rangeAt g 3 Y.cs ∧ w.rangeAt g 6 Z.cs := by
  refine ⟨?_, ?_, ?_⟩ <;> refine h.range _ _ (fun j v hv => ?_) <;>
  · match j, hv with
    | 0, hv => exact hv
    | 1, hv => exact hv
    | 2, hv => exact hv
    | n + 3, hv => simp [Hd.cs] at hv
set_option maxRecDepth 8000 in
theorem rng6 {w : World} {g : Nat} {t : TypeId} {X Y : Hd} (h : Blk w g t (cs2 X Y).toArray) : w.rangeAt g 0 X.cs ∧ w.rangeAt g 3 Y.cs := by
  refine ⟨?_, ?_⟩ <;> refine h.range _ _ (fun j v hv => ?_) <;>
  · match j, hv with
    | 0, hv => exact hv
    | 1, hv => exact hv
    | 2, hv => exact hv
    | n + 3, hv => simp [Hd.cs] at hv
set_option maxRecDepth 8000 in
theorem eqIn23n (w : World) (d : Nat) {g h : Hd} (hh : g.e ≠ h.e) : (Op.equalIn (d + 2) 28 g.val h.val).run Try.prog w = .ok false w := by
  have hq : (g.e == h.e) = false := beq_eq_false_iff_ne.2 hh
  go_simp
section
variable {ops : Array Oper} {S : World → Prop} {o : Oper} {a : Act}
set_option maxRecDepth 8000 in
theorem y_ne23n (hw : Region.wanted o (yielded ops a.tmps) = true) (x y : Operand) (ho : o.op = .binOp .neq 28 x y 28) (g k : Hd) (hh : g.e ≠ k.e) (hx : a.eval x = g.val) (hy : a.eval y = k.val) : YieldsIf Try.prog ops S o (.bool true) a :=
  .inl ⟨hw, fun w _ => by
    have h := eqIn23n w 9998 hh
    have hb : (binOp .neq 28 g.val k.val).run Try.prog w = .ok (.bool true) w := by
      simp only [binOp]
      simp [show ∀ x y, Op.equal 28 x y = Op.equalIn (9998 + 2) 28 x y from fun _ _ => rfl, h]
    unfold execOp
    simp only [ho, hx, hy, Sem.run_bind, run_eqGuard_agg (P := Try.prog) w .neq 28 x y _ _ (by kernel_rfl), hb, Result.andThen_ok, Sem.run_pure]⟩
set_option maxRecDepth 8000 in
theorem y_eq23 (hw : Region.wanted o (yielded ops a.tmps) = true) (x y : Operand) (ho : o.op = .binOp .eql 28 x y 28) (g : Hd) (hx : a.eval x = g.val) (hy : a.eval y = g.val) : YieldsIf Try.prog ops S o (.bool true) a :=
  .inl ⟨hw, fun w _ => by
    have h := eqIn23 w 9998 g
    have hb : (binOp .eql 28 g.val g.val).run Try.prog w = .ok (.bool true) w := by
      simp only [binOp]
      simp [show ∀ x y, Op.equal 28 x y = Op.equalIn (9998 + 2) 28 x y from fun _ _ => rfl, h]
    unfold execOp
    simp only [ho, hx, hy, Sem.run_bind, run_eqGuard_agg (P := Try.prog) w .eql 28 x y _ _ (by kernel_rfl), hb, Result.andThen_ok, Sem.run_pure]⟩
end
section
variable {s : Nat} {w0 w w' : World} {E : List (Nat × TypeId × Array Value)} {zz m : Nat} {U : Nat → List UInt8} {ws : List (Nat × List UInt8)}
set_option maxRecDepth 8000 in
theorem no_beq (u : Hd) : (u.no == 0) = decide u.ok ∧ (u.no != 0) = !decide u.ok := by
  unfold Hd.no
  by_cases h : u.ok
  · rw [if_pos h, decide_eq_true h]
    exact ⟨rfl, rfl⟩
  · rw [if_neg h, decide_eq_false h]
    exact ⟨rfl, rfl⟩
set_option maxRecDepth 8000 in
theorem un_writeq (h : Un s w0 w E zz U [] m) (n : Nat) (ni : Int) (hni : ni = (n : Int)) (hn : n < 2) (u : Hd) (hm : u.e ≤ 9223372036854775807) (hz : 20 + 3 * u.o = (zz : Int)) (hk : m < 1000000) (bu : Bool) (hb : bu = decide u.ok) :
    Calls Try.prog 11 #[.pointer (some ⟨s + 4, 0, none⟩), .int .i64 ni, u.val] w fun r w' => ∃ q : Int, r = .returned (.int .i64 q) ∧ (q == 0) = bu ∧ (q != 0) = (!bu) ∧ Un s w0 w' E zz U (if u.ok then [(n, hdB u)] else []) (m + 1) := by
  subst hni hb
  refine (un_write h n hn u hm hz hk).mono ?_
  rintro r w' ⟨rfl, hu⟩
  refine ⟨_, rfl, ?_, ?_, hu⟩
  · by_cases hh : u.ok <;> simp [hh]
  · by_cases hh : u.ok <;> simp [hh]
theorem un_checkq (h : Un s w0 w E zz U ws m) (u : Hd) (bu : Bool) (hb : bu = decide u.ok) : Calls Try.prog 23 #[u.val] w fun r w' => ∃ q : Int, r = .returned (.int .i64 q) ∧ (q == 0) = bu ∧ (q != 0) = (!bu) ∧ Un s w0 w' E zz U ws m :=
  (un_check h u).mono fun r w' ⟨e, hh⟩ => ⟨_, e, (no_beq u).1.trans hb.symm, (no_beq u).2.trans (by rw [hb]), hh⟩
set_option maxRecDepth 8000 in
theorem Un.push2 (h : Un s w0 w E zz U ws m) (t t' : TypeId) (c c' : Array Value) : Un s w0 ((w.alloc (.cells c t)).alloc (.cells c' t')) ((w.heap.size + 1, t', c') :: (w.heap.size, t, c) :: E) zz U ws m := by
  have h2 := (h.push t c).push t' c'
  rwa [show (w.alloc (.cells c t)).heap.size = w.heap.size + 1 by simp] at h2
end
set_option maxRecDepth 8000 in
/-- behind the crash: the other slot tells what it told, the slot nothing, the new header, or what it told -/
theorem seen_crash {zz sl o k : Nat} {U : Nat → List UInt8} {X Y z : Hd} {bo : Bool} (hne : o ≠ sl) (hs : U sl = slotL (decide X.ok) X) (ho : U o = slotL (decide Y.ok) Y) (hbo : bo = decide Y.ok) (zk : z.ok) (mz : z.e ≤ 9223372036854775807) (hz : 20 + 3 * z.o = (zz : Int))
    (mx : X.e ≤ 9223372036854775807) (my : Y.e ≤ 9223372036854775807) (xo : X.o = z.o) (yz : 20 + 3 * Y.o = (zz : Int)) (hd : X.e ≠ z.e) (hk : k ≤ 512) :
    gotB zz (upL U sl (tornL (hdB z) (U sl) k) o) = bo ∧ (bo = true → gotH zz (upL U sl (tornL (hdB z) (U sl) k) o) = Y) ∧ (gotB zz (upL U sl (tornL (hdB z) (U sl) k) sl) = true → gotH zz (upL U sl (tornL (hdB z) (U sl) k) sl) = z ∨ X.ok ∧ gotH zz (upL U sl (tornL (hdB z) (U sl) k) sl) = X) := by
  rw [upL_other8 _ _ hne, upL_self8, ho, hs, hbo]
  obtain ⟨s1, s2⟩ := slot_stays (h := Y) my yz
  exact ⟨s1, fun h => s2 (of_decide_eq_true h), slot_torn zk mz hz mx xo hd hk⟩
set_option maxRecDepth 8000 in
/-- behind the rounds that turn bits -/
theorem seen_turned {zz sl o b : Nat} {f : Int} {U : Nat → List UInt8} {Y z : Hd} {bo : Bool} {D : Dk} (hne : o ≠ sl) (ho : U o = slotL (decide Y.ok) Y) (hbo : bo = decide Y.ok) (zk : z.ok) (mz : z.e ≤ 9223372036854775807) (hz : 20 + 3 * z.o = (zz : Int))
    (my : Y.e ≤ 9223372036854775807) (yz : 20 + 3 * Y.o = (zz : Int)) (hl : D.lasts = putL U sl z) :
    gotB zz ((dkT D sl f b 32).lasts o) = bo ∧ gotB zz ((dkT D sl f b 32).lasts sl) = decide (numT f b 32 = 0) ∧ (numT f b 32 = 0 → gotH zz ((dkT D sl f b 32).lasts sl) = z) := by
  have h1 : D.lasts sl = hdB z := by rw [hl, putL, if_pos zk, upL_self8]
  rw [dkT_other D f b hne 32, hl, putL_other U z hne, ho, hbo]
  exact ⟨(slot_stays (h := Y) my yz).1, slot_turned zk mz hz h1⟩
theorem region_mid8 {P : Program} {id : Nat} {ops : Array Oper} {Q : Exit → Act → World → Prop} {a : Act} {w : World} (F : Act → (Nat → Value) → Act) (W : World) (H : (Code.region id ops true).wp P (fun e a' w' => e = .normal ∧ w' = W ∧ a' = F a (fun i => a'.tmps.getD i undef)) a w) (K : ∀ v, Q .normal (F a v) W) : (Code.region id ops true).wp P Q a w :=
  Code.wp_mono (fun e a' w' ⟨e1, e2, e3⟩ => by subst e1 e2; rw [e3]; exact K _) H
set_option maxRecDepth 8000 in
theorem bit_eq (b n : Nat) : (((b : Int) / 2 ^ n).tmod 2 == 1) = decide (b / 2 ^ n % 2 = 1) := by
  have h : (b : Int) / 2 ^ n = ((b / 2 ^ n : Nat) : Int) := by simp
  rw [h]
  generalize b / 2 ^ n = q
  rw [Int.tmod_eq_emod_of_nonneg (Int.natCast_nonneg q), Bool.eq_iff_iff, beq_iff_eq, decide_eq_true_eq]
  omega
set_option maxRecDepth 8000 in
theorem vn_spoilq {s : Nat} {w0 w : World} {E : List (Nat × TypeId × Array Value)} {D : Dk} {sl n : Nat} {f : Int} {b : Nat} (h : Vn s w0 w E D sl f b n) (hw : D.waits = []) (si : Int) (hsi : si = (sl : Int)) (hs : sl < D.size) (hh : hitT f b n = true) :
    Calls Try.prog 26 #[.pointer (some ⟨s + 4, 0, none⟩), .int .i64 si, .int .i64 ((f + (n : Int)) / 8), .int .u8 (2 ^ ((f + (n : Int)) % 8).toNat % 256)] w fun e w' => e = .returned (.int .i64 0) ∧ Vn s w0 w' E D sl f b (n + 1) := by
  have h0 := (hitT_yes hh).1
  have e1 : (f + (n : Int)) / 8 = (((f.toNat + n) / 8 : Nat) : Int) := by omega
  have e2 : ((f + (n : Int)) % 8).toNat = (f.toNat + n) % 8 := by omega
  have e3 : ∀ k : Nat, k < 8 → ((2 : Int) ^ k % 256) = ((2 ^ k : Nat) : Int) := by decide
  rw [hsi, e1, e2, e3 _ (by omega)]
  exact vn_spoil h hw hs hh
end Go.Proofs.Ytjfcmoappbfnjaa

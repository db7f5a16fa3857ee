/- headers, plain: which header 512 bytes have. -/
import Derived.Test.YtcfkoglehjkkdaaHP0
import Derived.Test.YtcfkoglehjkkdaaHHd
import Derived.Test.YtcfkoglehjkkdaaHCut
namespace Go.Proofs.Ytcfkoglehjkkdaa
/-- so many bytes from a place on -/
abbrev cutB (l : List UInt8) (k n : Nat) : List UInt8 := (l.drop k).take n
def eB (l : List UInt8) : Nat := S.numLE (cutB l 4 8)
def aB (l : List UInt8) : Nat := S.numLE (cutB l 12 2)
def oB (l : List UInt8) : Nat := S.numLE (cutB l 14 2)
/-- is it sealed, marked, with noughts, with the Edition twice? -/
abbrev formB (l : List UInt8) : Prop := S.numLE (l.drop 508) = S.crcN (l.take 508) ∧ cutB l 0 4 = [67, 72, 72, 68] ∧ cutB l 16 484 = List.replicate 484 0 ∧ cutB l 4 8 = cutB l 500 8
abbrev okB (l : List UInt8) : Prop := eB l ≤ 9223372036854775807 ∧ aB l < 2 ∧ 1 ≤ oB l ∧ oB l ≤ 64
def gotB (z : Nat) (l : List UInt8) : Bool := decide (okB l ∧ 20 + 3 * oB l = z ∧ l = hdS (eB l) (aB l) (oB l))
def gotH (z : Nat) (l : List UInt8) : Hd := if gotB z l then ⟨eB l, aB l, oB l⟩ else ⟨0, 0, 0⟩
set_option maxRecDepth 8000 in
theorem cutB_length {l : List UInt8} (hl : l.length = 512) (k n : Nat) (h : k + n ≤ 512) : (cutB l k n).length = n := by
  simp only [cutB, List.length_take, List.length_drop]
  omega
set_option maxRecDepth 8000 in
theorem cutB_take (l : List UInt8) (k n : Nat) (h : k + n ≤ 508) : cutB (l.take 508) k n = cutB l k n := by
  unfold cutB
  rw [List.drop_take, List.take_take, Nat.min_eq_left (by omega)]
set_option maxRecDepth 8000 in
theorem cutB_add (l : List UInt8) (k a b : Nat) : cutB l k (a + b) = cutB l k a ++ cutB l (k + a) b := by
  unfold cutB
  rw [List.take_add, List.drop_drop]
set_option maxRecDepth 8000 in
theorem le_cut {l : List UInt8} (hl : l.length = 512) (k n : Nat) (h : k + n ≤ 512) : S.bytesLE n (S.numLE (cutB l k n)) = cutB l k n := by
  have := S.bytesLE_numLE (cutB l k n)
  rw [cutB_length hl k n h] at this
  exact this
set_option maxRecDepth 8000 in
theorem form_is {l : List UInt8} (hl : l.length = 512) (h : formB l) : l = hdS (eB l) (aB l) (oB l) := by
  obtain ⟨h1, h2, h3, h4⟩ := h
  have hL : l.take 508 = hdL (eB l) (aB l) (oB l) := by
    have e0 : l.take 508 = cutB l 0 508 := by simp [cutB]
    rw [e0, show (508 : Nat) = 4 + (8 + (2 + (2 + (484 + 8)))) from rfl, cutB_add, cutB_add, cutB_add, cutB_add, cutB_add, h2, h3]
    unfold hdL eB aB oB
    rw [le_cut hl 4 8 (by omega), le_cut hl 12 2 (by omega), le_cut hl 14 2 (by omega)]
    simp only [Nat.zero_add, Nat.reduceAdd, List.append_assoc]
    rw [h4]
  unfold hdS
  rw [← hL]
  unfold S.sealN
  rw [← h1]
  have h5 : (l.drop 508).length = 4 := by rw [List.length_drop, hl]
  have h6 := S.bytesLE_numLE (l.drop 508)
  rw [h5] at h6
  rw [h6, List.take_append_drop]
set_option maxRecDepth 8000 in
theorem is_form {l : List UInt8} {e a o : Nat} (h : l = hdS e a o) : formB l := by
  have ht : l.take 508 = hdL e a o := by rw [h]; exact hdS_take e a o
  refine ⟨?_, ?_, ?_, ?_⟩
  · rw [ht, h, hdS_drop, S.numLE_bytesLE 4 _ (by have := S.crcN_lt (hdL e a o); omega)]
  · rw [← cutB_take l 0 4 (by omega), ht]
    have := hd_cut0 e a o
    simpa [cutB] using this
  · rw [← cutB_take l 16 484 (by omega), ht]
    exact hd_cut16 e a o
  · rw [← cutB_take l 4 8 (by omega), ← cutB_take l 500 8 (by omega), ht]
    show ((hdL e a o).drop 4).take 8 = ((hdL e a o).drop 500).take 8
    rw [hd_cut4, hd_cut500]
theorem form_iff {l : List UInt8} (hl : l.length = 512) : l = hdS (eB l) (aB l) (oB l) ↔ formB l := ⟨is_form, form_is hl⟩
set_option maxRecDepth 8000 in
theorem aB_lt (l : List UInt8) (hl : l.length = 512) : aB l < 65536 := by
  have := S.numLE_lt (cutB l 12 2)
  rw [cutB_length hl 12 2 (by omega)] at this
  exact this
set_option maxRecDepth 8000 in
theorem oB_lt (l : List UInt8) (hl : l.length = 512) : oB l < 65536 := by
  have := S.numLE_lt (cutB l 14 2)
  rw [cutB_length hl 14 2 (by omega)] at this
  exact this
set_option maxRecDepth 8000 in
theorem top_iff {x : List UInt8} (hx : x.length = 8) : S.numLE x ≤ 9223372036854775807 ↔ (x[7]'(by omega)).toNat ≤ 127 := by
  have h := S.numLE_take x 7 (by omega)
  rw [List.take_of_length_le (by omega)] at h
  have h2 := S.numLE_lt (x.take 7)
  rw [List.length_take, hx] at h2
  simp only [Nat.reduceLeDiff, Nat.min_eq_left] at h2
  constructor
  · intro h3
    rcases Nat.lt_or_ge 127 (x[7]'(by omega)).toNat with h4 | h4
    · rw [h] at h3
      omega
    · exact h4
  · intro h3
    rw [h]
    omega
set_option maxRecDepth 8000 in
theorem eB_iff {l : List UInt8} (hl : l.length = 512) : eB l ≤ 9223372036854775807 ↔ (l[11]'(by omega)).toNat ≤ 127 := by
  unfold eB
  rw [top_iff (cutB_length hl 4 8 (by omega))]
  have : (cutB l 4 8)[7]'(by rw [cutB_length hl 4 8 (by omega)]; decide) = l[11]'(by omega) := by simp [cutB]
  rw [this]
set_option maxRecDepth 8000 in
theorem okB_no {l : List UInt8} (h : okB l) : Hd.no ⟨eB l, aB l, oB l⟩ = 0 := by
  unfold Hd.no
  rw [if_pos (by simp only; omega)]
set_option maxRecDepth 8000 in
theorem okB_not {l : List UInt8} (he : eB l ≤ 9223372036854775807) (h : ¬ okB l) : Hd.no ⟨eB l, aB l, oB l⟩ = 2 := by
  unfold Hd.no
  rw [if_neg (by simp only; omega)]
end Go.Proofs.Ytcfkoglehjkkdaa

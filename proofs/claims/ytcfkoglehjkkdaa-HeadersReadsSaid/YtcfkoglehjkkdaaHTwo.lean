/- headers: Read of two headers, and of one beside what is not sealed. -/
import Derived.Test.YtcfkoglehjkkdaaHRead
namespace Go.Proofs.Ytcfkoglehjkkdaa
open Go.RowKit
section
variable {w : World} {base p : Nat} {pl : Pl} {D : Dk}
set_option maxRecDepth 8000 in
theorem hread_two (hd : DiskAt w base p pl D) (hN : D.waits.length ≤ 1000000) (hs : D.steps < 999990) (hf0 : D.next = false) (hf1 : D.stepped.next = false) (e0 a0 e1 a1 o : Nat)
    (he0 : (e0 : Int) ≤ 9223372036854775807) (ha0 : a0 < 2) (he1 : (e1 : Int) ≤ 9223372036854775807) (ha1 : a1 < 2) (ho : 1 ≤ o ∧ o ≤ 64) (hz : D.size = 20 + 3 * o) (r0 : D.reads 0 = hdS e0 a0 o) (r1 : D.reads 1 = hdS e1 a1 o) :
    Calls Try.prog 18 #[.pointer (some ⟨p, 0, none⟩)] w fun r w' => r = .returned (if e0 < e1 then .tuple #[Hd.val ⟨e1, a1, o⟩, .int .i64 1, .int .i64 0] else .tuple #[Hd.val ⟨e0, a0, o⟩, .int .i64 0, .int .i64 0]) ∧ DiskAt w' base p pl D.stepped.stepped ∧ Fr (pl.has p) w w' := by
  have hno : ∀ e a : Nat, a < 2 → Hd.no ⟨e, a, o⟩ = 0 := fun e a ha => by unfold Hd.no; rw [if_pos (by simp only; omega)]
  have hq : (20 + 3 * (o : Int) == (D.size : Int)) = true := beq_iff_eq.2 (by omega)
  have bc := fun (W : World) (hb : Below w.heap.size w W) => both_two (hd.below hb) hN hs hf0 hf1 ⟨e0, a0, o⟩ ⟨e1, a1, o⟩ (by simp only; omega) hq (by simp only; omega) hq
    (fun W => by rw [r0]; exact headerOf_yes e0 a0 o he0 (by omega) (by omega) (hno e0 a0 ha0)) (fun W => by rw [r1]; exact headerOf_yes e1 a1 o he1 (by omega) (by omega) (hno e1 a1 ha1))
  by_cases hlt : e0 < e1
  · rw [if_pos hlt]
    exact hread_any (fun k hk => hd.not_new hk) _ _ true bc 1 (by omega) ⟨e1, a1, o⟩ (fun W _ g h => cs2_at1 _ _ h) (fun W => fore_later _ _ W (decide_eq_true (by simp only; omega)))
  · rw [if_neg hlt]
    exact hread_any (fun k hk => hd.not_new hk) _ _ true bc 0 (by omega) ⟨e0, a0, o⟩ (fun W _ g h => cs2_at0 _ _ h) (fun W => fore_first _ _ W (decide_eq_false (by simp only; omega)))
set_option maxRecDepth 8000 in
theorem hread_one (hd : DiskAt w base p pl D) (hN : D.waits.length ≤ 1000000) (hs : D.steps < 999990) (hf0 : D.next = false) (hf1 : D.stepped.next = false) (e0 a0 o : Nat)
    (he0 : (e0 : Int) ≤ 9223372036854775807) (ha0 : a0 < 2) (ho : 1 ≤ o ∧ o ≤ 64) (hz : D.size = 20 + 3 * o) (r0 : D.reads 0 = hdS e0 a0 o) (r1 : ((S.numLE ((D.reads 1).drop 508) : Int) != (S.crcN ((D.reads 1).take 508) : Int)) = true) :
    Calls Try.prog 18 #[.pointer (some ⟨p, 0, none⟩)] w fun r w' => r = .returned (.tuple #[Hd.val ⟨e0, a0, o⟩, .int .i64 0, .int .i64 0]) ∧ DiskAt w' base p pl D.stepped.stepped ∧ Fr (pl.has p) w w' := by
  have hno : Hd.no ⟨e0, a0, o⟩ = 0 := by unfold Hd.no; rw [if_pos (by simp only; omega)]
  have hq : (20 + 3 * (o : Int) == (D.size : Int)) = true := beq_iff_eq.2 (by omega)
  have hl1 : (D.reads 1).length = 512 := readL_length _ _ _ (hd.lens 1) (fun x hx => (hd.wlens x hx).1)
  have bc := fun (W : World) (hb : Below w.heap.size w W) => both_one (hd.below hb) hN hs hf0 hf1 ⟨e0, a0, o⟩ (by simp only; omega) hq
    (fun W => by rw [r0]; exact headerOf_yes e0 a0 o he0 (by omega) (by omega) hno) (fun W => headerOf_no (D.reads 1) hl1 r1)
  exact hread_any (fun k hk => hd.not_new hk) _ _ false bc 0 (by omega) ⟨e0, a0, o⟩ (fun W _ g h => cs2_at0 _ _ h) (fun W => fore_one _ _ W)
end
set_option maxRecDepth 8000 in
theorem spoilt_b : ((S.numLE ((turnL (hdS 5 0 1) 5 1).drop 508) : Int) != (S.crcN ((turnL (hdS 5 0 1) 5 1).take 508) : Int)) = true := by decide +kernel
end Go.Proofs.Ytcfkoglehjkkdaa

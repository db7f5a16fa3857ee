/- disk: the walk of step: what a step does ahead of its function, which is told by its contract. -/
import Derived.Test.YtokbghpddgfnpaaLay
import Derived.BigQuiet
import Derived.Deep.QuietTactic
namespace Go.Proofs.Ytokbghpddgfnpaa
open Go.RowKit
/-- the disk behind a step that is numbered: one step more; its number is named no more -/
def Dk.stepped (D : Dk) : Dk := { D with steps := D.steps + 1, fails := delS D.fails ((D.steps : Int) - (D.frm : Int)) }
/-- does the next step fail? -/
def Dk.next (D : Dk) : Bool := D.fails ((D.steps : Int) - (D.frm : Int))
set_option maxRecDepth 20000 in
set_option maxHeartbeats 800000 in
theorem step_fails {w : World} {base p : Nat} {pl : Pl} {D : Dk} (h : DiskAt w base p pl D) (hf : D.next = true) (hs : D.steps < 1000000) (fv : Value) :
    Calls Try.prog 39 #[.pointer (some ⟨p, 0, none⟩), fv] w fun e w' => e = .returned (.int .i64 120) ∧ DiskAt w' base p pl D.stepped ∧ Fr (pl.has p) w w' := by
  have hz := z99
  have c3 := h.c3
  have c4 := h.c4
  have c5 := h.c5
  have hfr := h.frm
  have s1 : (0 : Int) ≤ (D.steps : Int) - (D.frm : Int) := by omega
  have s2 : (D.steps : Int) - (D.frm : Int) ≤ 1000000 := by omega
  have s3 : (D.steps : Int) ≤ 1000000 := by omega
  go_enter Try.func39, Try.ntmps39
  go_wp2_with fail
  go_quiet (fail)
  have H := Lib.hid (h.drewN nq)
  have FR := Lib.hid ((Fr.refl (pl.has p) w).drewN nq)
  generalize w.drewN nq = W at H FR ⊢
  have hlk := H.out.set.look ((D.steps : Int) - (D.frm : Int))
  rw [show D.fails ((D.steps : Int) - (D.frm : Int)) = true from hf] at hlk
  have HS := Lib.hid (H.out.alloc (.cells #[] 91))
  have c5W := H.out.c5
  have c5' := HS.out.c5
  clear h c3 c4 c5 hf
  go_wp2_with ((refine wpList_del75 rfl (.tmp 29) (.tmp 30) rfl _ _ rfl rfl _ HS.out.set ?_; intro w2 hd2 hg2; have H2 := Lib.hid (HS.out.deleted hd2 hg2); have FR2 := Lib.hid ((FR.out.alloc (.cells #[] 91)).grown hg2 (fun i e _ => .inr (.inr (.inr e)))); have d3 := H2.out.c3; have f3 := H2.out.blk.frozen 3; clear hd2 hg2))
  go_ret
  exact ⟨rfl, H2.out.counted (D.steps + 1) (by show D.frm ≤ D.steps + 1; omega), FR2.out.setCell (fun _ => .inl rfl) _⟩
set_option maxRecDepth 20000 in
set_option maxHeartbeats 800000 in
theorem step_goes {w : World} {base p : Nat} {pl : Pl} {D : Dk} (h : DiskAt w base p pl D) (hf : D.next = false) (hs : D.steps < 1000000) (g : FuncId) (caps : Array Value) (R : World → Prop)
    (hdo : ∀ W, DiskAt W base p pl D.stepped → Fr (pl.has p) w W → Calls Try.prog g caps W fun e w' => e = .returned (.tuple #[]) ∧ R w')
    (hgo : ∀ w : World, (callFunc g caps).run Try.prog w = .ok (.enter g caps) w) :
    Calls Try.prog 39 #[.pointer (some ⟨p, 0, none⟩), .func (.func g) #[] caps] w fun e w' => e = .returned (.int .i64 0) ∧ R w' := by
  have hz := z99
  have c3 := h.c3
  have c4 := h.c4
  have c5 := h.c5
  have hfr := h.frm
  have s1 : (0 : Int) ≤ (D.steps : Int) - (D.frm : Int) := by omega
  have s2 : (D.steps : Int) - (D.frm : Int) ≤ 1000000 := by omega
  have s3 : (D.steps : Int) ≤ 1000000 := by omega
  have HD := Lib.hid hdo
  clear hdo
  go_enter Try.func39, Try.ntmps39
  go_wp2_with fail
  go_quiet (fail)
  have H := Lib.hid (h.drewN nq)
  have FR := Lib.hid ((Fr.refl (pl.has p) w).drewN nq)
  generalize w.drewN nq = W at H FR ⊢
  have hlk := H.out.set.look ((D.steps : Int) - (D.frm : Int))
  rw [show D.fails ((D.steps : Int) - (D.frm : Int)) = false from hf] at hlk
  have HS := Lib.hid (H.out.alloc (.cells #[] 91))
  have c5W := H.out.c5
  have c5' := HS.out.c5
  clear h c3 c4 c5 hf
  go_wp2_with ((refine wpList_del75 rfl (.tmp 29) (.tmp 30) rfl _ _ rfl rfl _ HS.out.set ?_; intro w2 hd2 hg2; have H2 := Lib.hid (HS.out.deleted hd2 hg2); have FR2 := Lib.hid ((FR.out.alloc (.cells #[] 91)).grown hg2 (fun i e _ => .inr (.inr (.inr e)))); have d3 := H2.out.c3; have f3 := H2.out.blk.frozen 3; clear hd2 hg2))
  refine (HD.out _ (H2.out.counted (D.steps + 1) (by show D.frm ≤ D.steps + 1; omega)) (FR2.out.setCell (fun _ => .inl rfl) _)).mono ?_
  rintro e w3 ⟨rfl, h3⟩
  have HR := Lib.hid h3
  clear h3
  go_wp2
  go_ret
  exact ⟨rfl, HR.out⟩
end Go.Proofs.Ytokbghpddgfnpaa

/- law 12: the objects of known: plain. -/
import Derived.Test.YteodgefnbmiblaaDoorBAn
namespace Go.Proofs.YteodgefnbmiblaaDoor
open Go.RowKit
/-- the objects of the node that is made -/
def kb0 : Oj := oKC 1 1
def kb1 : Oj := slotAs kb0 0 ⟨1, 0, 0, 0, 0, 1⟩
def kb2 : Oj := slotAs kb1 1 ⟨1, 0, 0, 0, 0, 2⟩
def kbx : Ky := ⟨4, 0, 1, 0, 0, 0⟩
def kbs : List Oj := [kb2, oKC 0 4, oz]
set_option maxRecDepth 8000 in
theorem kbx_ok : kbx.ok := by
  show OkK 4 0 1 0 0 0
  exact ⟨4, rfl, by decide, by decide, by decide, by decide, by decide, by decide, by decide, by decide, by decide, .inl rfl⟩
set_option maxRecDepth 8000 in
theorem kb2_ok : kb2.ok 3 := by
  have h1 : (⟨1, 0, 0, 0, 0, 1⟩ : Ky).may 3 := ⟨⟨1, rfl, by decide, by decide, by decide, by decide, by decide, by decide, by decide, by decide, by decide, .inr rfl⟩, fun h => absurd h.2.1 (by decide)⟩
  have h2 : (⟨1, 0, 0, 0, 0, 2⟩ : Ky).may 3 := ⟨⟨1, rfl, by decide, by decide, by decide, by decide, by decide, by decide, by decide, by decide, by decide, .inr rfl⟩, fun h => absurd h.2.1 (by decide)⟩
  exact ⟨⟨by decide, by decide⟩, ⟨by decide, by decide⟩, ⟨by decide, by decide⟩, .inl ⟨rfl, set_may (set_may (zks_may 3) 0 h1) 1 h2⟩⟩
set_option maxRecDepth 8000 in
theorem kbs_right : rightP kbs := by
  refine ⟨by decide, by decide, ?_⟩
  intro y hy
  simp only [kbs, List.mem_cons, List.not_mem_nil, or_false] at hy
  rcases hy with rfl | rfl | rfl
  · exact kb2_ok
  · exact oKC_ok ⟨by decide, by decide⟩ (.inl rfl) ⟨by decide, by decide⟩
  · exact oKC_ok (k := 0) (c := 0) ⟨by decide, by decide⟩ (.inl rfl) ⟨by decide, by decide⟩
set_option maxRecDepth 8000 in
theorem kbs_d : BkD kbs kbx 0 kb2 1 2 := by
  have hof : kbx.of := ⟨kbx_ok, by decide, by decide⟩
  refine ⟨?_, rfl, kbx_ok, rfl, by decide, rfl, rfl, rfl, rfl, rfl, rfl, by decide, by decide⟩
  rw [named_is hof]
  show ((some kb2).filter fun o => kbx.cn o) = some kb2
  rw [Option.filter_some, if_pos]
  show kbx.cnt kb2.k kb2.c kb2.l = true
  refine cnt_yes ⟨kbx_ok, fun _ => ⟨?_, rfl, .inl (by decide)⟩⟩
  unfold Ky.want
  rw [if_pos hof]
  rfl
theorem kbs_mk : mkA kbs kbx 1 = (mkL kbs 1 2 1, ⟨2, 1, 5, 0, 0, 0⟩, 0) := mkA_some kbs_d (.inl rfl) (i := 0) (fnd_is (by decide) (by decide) (fun i hi => absurd hi (Nat.not_lt_zero i)))
end Go.Proofs.YteodgefnbmiblaaDoor

/- nodes: what each call does, of any store, by the program and by the document. -/
import Derived.Test.YtedlacdijkggjaaDoorNAns
namespace Go.Proofs.YtedlacdijkggjaaDoor
open Go.RowKit
section
variable {w : World} {base p : Nat} {A : Option Addr} {cap : Nat} {ps : List Nat} {os : List Oj}
theorem askN_no {os : List Oj} {x : Ky} (h : ¬ askN os x) : ¬ ((named os x).isSome = true ∧ x.k = 2) := h
set_option maxRecDepth 8000 in
theorem AskD.slot {os : List Oj} {x : Ky} {j : Nat} {u : Oj} (_ : AskD os x j u) {i : Nat} (hi : i < 16) : u.s[i]? = some ((u.s[i]?).getD zk) := by
  rw [List.getElem?_eq_getElem (by rw [u.hs]; exact hi)]
  rfl
end
section
variable {w : World} {A : Option Addr} {l : List Oj} {n cap : Nat}
set_option maxRecDepth 8000 in
theorem rask_f (hr : RdO w A l) (hn : l.length = n) (hl : n ≤ 1000) (h0 : 0 < n) (x : Ky) :
    Calls Tryd.prog 46 #[.slice A n cap, x.val, .int .i64 2, .bool false] w fun e w' => e = .returned (.int .i64 (askA l x)) ∧ Below w.heap.size w w' := by
  unfold askA
  split
  · next ha => exact rask_yes_f hr hn hl h0 x ha.1 ha.2
  · next ha =>
    by_cases hs : (named l x).isSome = true
    · exact rask_kind_f hr hn hl h0 x hs fun hk => ha ⟨hs, hk⟩
    · exact rask_un_f hr hn hl h0 x (by simpa using hs)
set_option maxRecDepth 8000 in
theorem rask_t (hr : RdO w A l) (hn : l.length = n) (hl : n ≤ 1000) (h0 : 0 < n) (x : Ky) :
    Calls Tryd.prog 46 #[.slice A n cap, x.val, .int .i64 2, .bool true] w fun e w' => e = .returned (.int .i64 (opnA l x)) ∧ Below w.heap.size w w' := by
  unfold opnA
  split
  · next ha =>
    obtain ⟨j, u, d⟩ := askN_d ha
    split
    · next h4 => exact rask_yes_t hr hn hl h0 x ha.1 ha.2 d.ok h4
    · next h4 => exact rask_right_t hr hn hl h0 x ha.1 ha.2 d.ok _ rfl h4
  · next ha =>
    by_cases hs : (named l x).isSome = true
    · exact rask_kind_t hr hn hl h0 x hs fun hk => ha ⟨hs, hk⟩
    · exact rask_un_t hr hn hl h0 x (by simpa using hs)
theorem askA_no {os : List Oj} {x : Ky} (h : ¬ askN os x) : askA os x = 190 := if_neg h
theorem opnA_no {os : List Oj} {x : Ky} (h : ¬ askN os x) : opnA os x = 190 := if_neg h
set_option maxRecDepth 8000 in
theorem opnA_r {os : List Oj} {x : Ky} (h : askN os x) (hr : ¬ x.r % 4 = 0) : opnA os x = 191 := by unfold opnA; rw [if_pos h, if_neg hr]
end
end Go.Proofs.YtedlacdijkggjaaDoor

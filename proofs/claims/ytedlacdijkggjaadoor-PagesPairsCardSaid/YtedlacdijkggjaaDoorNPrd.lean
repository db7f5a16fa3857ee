/- nodes: prepared. -/
import Derived.Test.YtedlacdijkggjaaDoorNAll
namespace Go.Proofs.YtedlacdijkggjaaDoor
open Go.RowKit
set_option maxRecDepth 8000 in
theorem ak_slots (p : Nat) (x : Ky) (u : Oj) (s : List Ky) (hs : s.length = 16) : (akc p x u).take 10 ++ kcs s ++ (akc p x u).drop (10 + (kcs s).length) = akc p x (slotsAs u s hs) := by
  have h96 := kcs_len hs
  have hl : (kcs u.s).length = 96 := kcs_len u.hs
  rw [h96]
  unfold akc Oj.cells slotsAs
  simp only [kl, List.cons_append, List.nil_append, List.take_succ_cons, List.take_zero, List.drop_succ_cons]
  rw [List.drop_append_of_le_length (by omega), List.drop_of_length_le (by omega)]
  simp
set_option maxRecDepth 8000 in
theorem zks_eq {l : List Ky} (hl : l.length = 16) : (kcs zks).length = (kcs l).length := by rw [zks_len, kcs_len hl]
section
variable {w : World} {base p : Nat} {A : Option Addr} {cap : Nat} {ps : List Nat} {os : List Oj}
theorem put_x (h : StAt w base p A cap ps os) (hT : Tab w) (i : Nat) (hi : i < os.length) (o : Oj) (hc : o.ok os.length) {n : Int} (hn : n = (i : Int)) :
    Calls Tryd.prog 41 #[pv p, .int .i64 n, o.val] w fun e' w' => e' = .returned (.int .i64 0) ∧ StAt w' base p A cap ps (os.set i o) ∧ Fr (fun k => k ∈ ps) w w' := hn ▸ put_ok h hT i hi o hc
end
end Go.Proofs.YtedlacdijkggjaaDoor

/- headers, of the document: number and low, by Get and Put of stage 1. -/
import Derived.Test.YtcfkoglehjkkdaaHNilR
namespace Go.Proofs.Ytcfkoglehjkkdaa
open Go.RowKit
attribute [local go_sem] Oper.semAt_some
set_option maxRecDepth 8000 in
set_option maxHeartbeats 1000000 in
theorem rnum8 (A : Option Addr) (n c : Nat) (l : List UInt8) (w : World) (hn : l.length = n) (hr : Rd w A l) (hw : S.Wide n) (h : S.numLE l ≤ 9223372036854775807) (h7 : ∀ h : n = 8, (l[7]'(by omega)).toNat ≤ 127) :
    Calls Try.prog 65 #[.slice A n c] w fun e w' => e = .returned (.int .i64 (S.numLE l : Int)) ∧ w = w' := by
  have HG := Lib.hid (S.rget_yes A n c l w hn hr hw h h7)
  clear hn hr hw h h7
  go_enter Try.func65, Try.ntmps65
  go_wp2_with (go_at_call 83; refine HG.out.mono ?_; rintro e w' ⟨rfl, rfl⟩)
  go_ret
  exact ⟨rfl, rfl⟩
set_option maxRecDepth 8000 in
set_option maxHeartbeats 1000000 in
theorem rlow8 (N k : Nat) (w : World) (hw : S.Wide k) (hN : (N : Int) ≤ 9223372036854775807) :
    Calls Try.prog 58 #[.int .i64 (N : Int), .int .i64 (k : Int)] w fun e w' => ∃ v, e = .returned v ∧ w'.ownsRow w.heap.size 5 1 v k (bv (S.bytesLE k N)) ∧ Below w.heap.size w w' := by
  have HP := Lib.hid (S.rput_yes N k w hw hN)
  clear hw hN
  go_enter Try.func58, Try.ntmps58
  go_wp2_with (go_at_call 69; refine HP.out.mono ?_; rintro e w' ⟨v, rfl, ho, hb⟩; have HO := Lib.hid ho; have HB := Lib.hid hb; clear ho hb)
  go_ret
  exact ⟨_, rfl, HO.out, HB.out⟩
end Go.Proofs.Ytcfkoglehjkkdaa

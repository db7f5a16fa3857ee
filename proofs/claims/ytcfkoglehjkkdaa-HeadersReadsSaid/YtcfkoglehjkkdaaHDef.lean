/- headers: words: a header's bytes, its sector. -/
import Derived.Test.YtcfkoglehjkkdaaP05
import Derived.Test.YtcfkoglehjkkdaaP02
import Derived.Test.YtcfkoglehjkkdaaP10
namespace Go.Proofs.Ytcfkoglehjkkdaa
open Go.RowKit
/-- a header, as it is told by plain data -/
structure Hd where
  e : Int
  a : Int
  o : Int
deriving DecidableEq
abbrev Hd.cs (h : Hd) : List Value := [.int .i64 h.e, .int .i64 h.a, .int .i64 h.o]
abbrev Hd.val (h : Hd) : Value := .agg #[.int .i64 h.e, .int .i64 h.a, .int .i64 h.o]
/-- may it be? -/
abbrev Hd.ok (h : Hd) : Prop := 0 ≤ h.e ∧ 0 ≤ h.a ∧ h.a < 2 ∧ 1 ≤ h.o ∧ h.o ≤ 64
/-- the bytes that are sealed -/
def hdL (e a o : Nat) : List UInt8 := [67, 72, 72, 68] ++ S.bytesLE 8 e ++ S.bytesLE 2 a ++ S.bytesLE 2 o ++ List.replicate 484 0 ++ S.bytesLE 8 e
def hdS (e a o : Nat) : List UInt8 := S.sealN (hdL e a o)
set_option maxRecDepth 8000 in
theorem hdL_length (e a o : Nat) : (hdL e a o).length = 508 := by simp [hdL, S.bytesLE_length]
set_option maxRecDepth 8000 in
theorem hdS_length (e a o : Nat) : (hdS e a o).length = 512 := by unfold hdS; rw [S.sealN_length, hdL_length]
set_option maxRecDepth 8000 in
theorem hdS_take (e a o : Nat) : (hdS e a o).take 508 = hdL e a o := by unfold hdS S.sealN; exact List.take_left' (hdL_length e a o)
set_option maxRecDepth 8000 in
theorem hdS_drop (e a o : Nat) : (hdS e a o).drop 508 = S.bytesLE 4 (S.crcN (hdL e a o)) := by unfold hdS S.sealN; exact List.drop_left' (hdL_length e a o)
set_option maxRecDepth 8000 in
theorem hdS_ok (e a o : Nat) : ((S.numLE ((hdS e a o).drop 508) : Int) != (S.crcN ((hdS e a o).take 508) : Int)) = false := by
  rw [hdS_drop, hdS_take, S.numLE_bytesLE 4 _ (by have := S.crcN_lt (hdL e a o); omega)]
  simp
set_option maxRecDepth 8000 in
theorem zero23 : (Try.prog.info? 28).map (fun i => (i.zero, i.size)) = some (some (.agg #[.int .i64 0, .int .i64 0, .int .i64 0]), 3) := by kernel_rfl
theorem z23 (w : World) : (zeroValue 28).run Try.prog w = .ok (.agg #[.int .i64 0, .int .i64 0, .int .i64 0]) w := (zero_of_info zero23).1 w
set_option maxRecDepth 8000 in
theorem size23 (h : Hd) : (Try.prog.info? 28).map (·.size) = some h.cs.length := by kernel_rfl
end Go.Proofs.Ytcfkoglehjkkdaa

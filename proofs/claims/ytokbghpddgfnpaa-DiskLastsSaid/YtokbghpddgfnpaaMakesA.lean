/- law 2: DiskMakes, the walk. -/
import Derived.Test.YtokbghpddgfnpaaOf
import Derived.Test.YtokbghpddgfnpaaOwn
namespace Go.Proofs.Ytokbghpddgfnpaa.diskMakes
open Go.RowKit
attribute [local go_sem] Oper.semAt_some
set_option maxRecDepth 8000 in
theorem wrap_i64_of (x : Int) (h0 : 0 ≤ x) (h1 : x ≤ 9223372036854775807) : IntKind.i64.wrap x = x := by
  simp only [IntKind.wrap, IntKind.bits, IntKind.signed]
  simp
  omega
theorem rd77 (w : World) (t : TypeId) : Rd (w.alloc (.cells #[.int .u8 77] t)) (some ⟨w.heap.size, 0, none⟩) [77] := rd_new w 77 t rfl
theorem run_strB (w : World) {A : Option Addr} {c : Nat} {l : List UInt8} (hr : Rd w A l) : (convert 22 9 (.slice A l.length c)).run Try.prog w = .ok (.string (st l)) w := run_str w Try.underlying22 Try.underlying5 Try.underlying9 rfl hr
set_option maxRecDepth 8000 in
theorem cut_more (g k cap : Nat) (h : k + 1 ≤ cap) (hk : k ≤ 20000) (W : World) : (Instr.slice 22 (.slice (some ⟨g, 0, none⟩) k cap) none (some (.int .i64 ((k : Int) + 1))) none).run Try.prog W = .ok (.slice (some ⟨g, 0, none⟩) (k + 1) cap) W := by
  have hw2 : (0 : Int) ≤ (k : Int) + 1 := by omega
  have hw3 : (k : Int) + 1 ≤ (cap : Int) := by omega
  have hw4 : ((k : Int) + 1).toNat = k + 1 := by omega
  have hw1 : IntKind.i64.wrap ((k : Int) + 1) = (k : Int) + 1 := wrap_i64_of _ hw2 (by omega)
  go_simp
theorem secs_zs : ∀ s : Nat, secs (fun _ => zs) s = List.replicate (s * 512) 0
  | 0 => rfl
  | s + 1 => by
    rw [secs_succ, secs_zs s, zs, List.replicate_append_replicate]
    exact congrArg (fun n => List.replicate n (0 : UInt8)) (by omega)
theorem secs_take (l : List UInt8) (s : Nat) : ∀ k, k ≤ s → secs (ofL l s) k = l.take (k * 512)
  | 0, _ => by simp [secs]
  | k + 1, h => by
    rw [secs_succ, secs_take l s k (by omega), show (k + 1) * 512 = k * 512 + 512 by omega, List.take_add]
    unfold ofL chunk
    rw [if_pos (by omega)]
set_option maxRecDepth 8000 in
theorem secs_of (l : List UInt8) (s : Nat) (hl : l.length = s * 512) : secs (ofL l s) s = l := by
  rw [secs_take l s s (Nat.le_refl _), List.take_of_length_le (by omega)]
set_option maxRecDepth 8000 in
theorem made_rd (W : World) (N : Nat) : Rd (W.alloc (.cells (madeCells #[.int .u8 0] N) 5)) (some ⟨W.heap.size, 0, none⟩) (List.replicate N 0) := by
  have e : madeCells #[.int .u8 0] N = (bv (List.replicate N 0)).toArray := by
    rw [bv_replicate]
    apply Array.ext
    · simp [size_madeCells]
    · intro i h1 h2
      simp [madeCells, Nat.mod_one]
  rw [e]
  exact rd_blk (Blk.new W 5 (bv (List.replicate N 0)).toArray) 0 _ (fun j hj => by rw [Nat.zero_add, bv_get, List.getElem?_eq_getElem hj]; rfl)
set_option maxRecDepth 8000 in
theorem of_zero (w : World) (A : Option Addr) (n cap : Nat) (h : n = 0) :
    Calls Try.prog 32 #[.slice A n cap] w fun e w' => e = .returned (.tuple #[.pointer none, .int .i64 2]) ∧ w = w' := by
  subst h
  exact of_none w A cap
end Go.Proofs.Ytokbghpddgfnpaa.diskMakes

/- The walk: works. -/
import Derived.Test.YtgpggodabalakaaRSealed
import Derived.Lib.SlBytesConst
import Derived.Laws.IdiomStrings
namespace Go.Proofs.Ytgpggodabalakaa
open Go.RowKit
theorem put_258 (w : World) : Calls Try.prog 15 #[.int .i64 258, .int .i64 2] w fun e w' => ∃ v, e = .returned (.tuple #[v, .int .i64 0]) ∧ w'.ownsRow w.heap.size 5 1 v 2 (bv [2, 1]) ∧ Below w.heap.size w w' :=
  put_yes 258 2 65535 w rfl (by omega)
theorem get_258 (A : Option Addr) (c : Nat) (w : World) (hr : Rd w A [2, 1]) : Calls Try.prog 18 #[.slice A 2 c] w fun e w' => e = .returned (.tuple #[.int .i64 258, .int .i64 0]) ∧ Below w.heap.size w w' :=
  get_some A 2 c [2, 1] 65535 w rfl hr rfl
theorem crc_check : crcN [49, 50, 51, 52, 53, 54, 55, 56, 57] = 3421780262 := by decide +kernel
theorem rd_cells (w : World) (l : List UInt8) (t : TypeId) (m : Nat × Nat) : Rd (w.alloc (.cells (bv l).toArray t m)) (some ⟨w.heap.size, 0, none⟩) l := by
  intro j hj
  refine ⟨_, _, rfl, ?_⟩
  rw [Nat.zero_add, World.cell?_alloc_mark, List.getElem?_toArray, bv_get, List.getElem?_eq_getElem hj]
  rfl
theorem rd_check (w : World) (t : TypeId) (m : Nat × Nat) : Rd (w.alloc (.cells #[.int .u8 49, .int .u8 50, .int .u8 51, .int .u8 52, .int .u8 53, .int .u8 54, .int .u8 55, .int .u8 56, .int .u8 57] t m)) (some ⟨w.heap.size, 0, none⟩) [49, 50, 51, 52, 53, 54, 55, 56, 57] := rd_cells w [49, 50, 51, 52, 53, 54, 55, 56, 57] t m
theorem rd_a (w : World) (t : TypeId) (m : Nat × Nat) : Rd (w.alloc (.cells #[.int .u8 97] t m)) (some ⟨w.heap.size, 0, none⟩) [97] := rd_cells w [97] t m
theorem seal_a : sealN [97] = [97, 67, 190, 183, 232] := by decide +kernel
set_option maxHeartbeats 1600000 in
theorem works_any (w : World) : Calls Try.prog 11 #[] w fun e w' => e = .returned (.bool true) ∧ Below w.heap.size w w' := by
  go_enter Try.func11, Try.ntmps11
  go_wp2_with fail
  refine (put_258 _).mono ?_
  rintro e w1 ⟨v1, rfl, hown1, hb1⟩
  obtain ⟨g1, c1, rfl, hc1⟩ := own_some hown1 (by omega)
  have HR1 := Lib.hid (Rd.of_own hown1)
  clear hown1
  go_wp2_with fail
  refine (get_258 _ _ _ HR1.out).mono ?_
  rintro e w2 ⟨rfl, hb2⟩
  have HR2 := Lib.hid (HR1.out.below hb2)
  have kc := fun (w : World) (C : Array Value) (n c : Nat) => Lib.run_convert_bytes_const (P := Try.prog) w 22 5 C n c Try.underlying22 Try.underlying5
  go_wp2_with fail
  refine (seal_any _ 1 _ [97] _ rfl (rd_a _ _ _) (by omega)).mono ?_
  rintro e w3 ⟨v3, rfl, hown3, hb3⟩
  rw [show 1 + 4 = 5 from rfl, seal_a] at hown3
  obtain ⟨g3, c3, rfl, hc3⟩ := own_some hown3 (by omega)
  have HR3 := Lib.hid (Rd.of_own hown3)
  clear hown3
  go_wp2_with fail
  refine (sealed_yes _ 1 _ [97, 67, 190, 183, 232] _ rfl (by omega) HR3.out (by omega) (by decide +kernel)).mono ?_
  rintro e w4 ⟨v4, rfl, hown4, hb4⟩
  obtain ⟨g4, c4, rfl, hc4⟩ := own_some hown4 (by omega)
  have HR4 := Lib.hid (Rd.of_own hown4)
  clear hown4
  go_wp2_with fail
  refine (crc_any _ 9 _ [49, 50, 51, 52, 53, 54, 55, 56, 57] _ rfl (rd_check _ _ _) (by omega)).mono ?_
  rintro e w5 ⟨rfl, hb5⟩
  rw [crc_check]
  have b2 := hb1.trans (hb2.mono hb1.size)
  have b2' := b2.alloc b2.size (.cells #[.int .u8 97] 5 (1, 2))
  have b3 := b2'.trans (hb3.mono b2'.size)
  have b4 := b3.trans (hb4.mono b3.size)
  have c4' := (Below.refl w4.heap.size w4).alloc (Nat.le_refl _) (.cells #[.int .u8 49, .int .u8 50, .int .u8 51, .int .u8 52, .int .u8 53, .int .u8 54, .int .u8 55, .int .u8 56, .int .u8 57] 5 (9, 10))
  have c5 := c4'.trans (hb5.mono c4'.size)
  have b5 := b4.trans (c5.mono b4.size)
  have c2' := (Below.refl w2.heap.size w2).alloc (Nat.le_refl _) (.cells #[.int .u8 97] 5 (1, 2))
  have c3' := c2'.trans (hb3.mono c2'.size)
  have c4'' := c3'.trans (hb4.mono c3'.size)
  have c5' := c4''.trans (c5.mono c4''.size)
  have hs1 : (convert 22 9 (.slice (some ⟨g1, 0, none⟩) 2 c1)).run Try.prog w5 = .ok (.string ⟨#[2, 1]⟩) w5 := run_str w5 Try.underlying22 Try.underlying5 Try.underlying9 rfl (HR2.out.below c5')
  have hs2 : (convert 22 9 (.slice (some ⟨g4, 0, none⟩) 1 c4)).run Try.prog w5 = .ok (.string ⟨#[97]⟩) w5 := run_str w5 Try.underlying22 Try.underlying5 Try.underlying9 rfl (HR4.out.below c5)
  have HB := Lib.hid b5
  clear b2 b2' b3 b4 c4' c5 b5 c2' c3' c4'' c5' hb1 hb2 hb3 hb4 hb5
  go_wp2_with (go_at_call 17; refine (num_any _ _).mono ?_; rintro e w' ⟨rfl, rfl⟩)
  go_ret
  exact ⟨rfl, HB.out⟩
end Go.Proofs.Ytgpggodabalakaa

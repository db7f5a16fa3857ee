/- headers: the fields of a header, its sector. -/
import Derived.Test.YtcfkoglehjkkdaaHDef
import Derived.Lib.SmallJoins
namespace Go.Proofs.Ytcfkoglehjkkdaa
open Go.RowKit
attribute [local go_sem] Oper.semAt_some
set_option maxRecDepth 100000 in
theorem number_any (N k : Nat) (g : Int) (w : World) (hg : S.greatestN k = some g) (h1 : (N : Int) ≤ g) :
    Calls Try.prog 74 #[.int .i64 (N : Int), .int .i64 (k : Int)] w fun e w' => ∃ A c, e = .returned (.slice A k c) ∧ Rd w' A (S.bytesLE k N) ∧ Below w.heap.size w w' := by
  have HG := Lib.hid hg
  have H1 := Lib.hid h1
  clear hg h1
  go_enter Try.func74, Try.ntmps74
  go_wp2_with (go_at_call 90; refine (S.put_yes N k g w HG.out H1.out).mono ?_; rintro e w' ⟨v, rfl, hown, hb⟩; obtain ⟨A, c, rfl⟩ := own_shape hown; have HR := Lib.hid (Rd.of_own hown); have HB := Lib.hid hb; clear hown hb)
  go_ret
  exact ⟨A, c, rfl, HR.out, HB.out⟩
set_option maxRecDepth 8000 in
theorem blk_new1 (w : World) (o : Obj) (t : TypeId) (cs : Array Value) : Blk ((w.alloc o).alloc (.cells cs t)) (w.heap.size + 1) t cs := by
  have := Blk.new (w.alloc o) t cs
  simpa using this
theorem rd_bv {w : World} {g : Nat} {t : TypeId} {l : List UInt8} (h : Blk w g t (bv l).toArray) : Rd w (some ⟨g, 0, none⟩) l := rd_blk h 0 _ (fun j hj => by rw [Nat.zero_add, bv_get, List.getElem?_eq_getElem hj]; rfl)
set_option maxRecDepth 8000 in
theorem own_blw {w w' : World} {base n size : Nat} {e : TypeId} {v : Value} {xs : List Value} (h : w.ownsRow base e size v n xs) (hb : Below w.heap.size w w') : w'.ownsRow base e size v n xs := by
  refine h.kept (row := none) ⟨hb.os, hb.tape, hb.output, hb.size, fun k hk _ => hb.block k hk⟩ ?_
  cases hv : v.ownBlock with
  | none => exact .inl rfl
  | some k => exact .inr (by simp)
set_option maxRecDepth 8000 in
theorem own_addr' {w : World} {base n c size : Nat} {A : Option Addr} {e : TypeId} {xs : List Value} (h : w.ownsRow base e size (.slice A n c) n xs) (hn : 0 < n) : ∃ g, A = some ⟨g, 0, none⟩ ∧ base ≤ g ∧ g < w.heap.size := by
  rcases h.2 with ⟨_, h0⟩ | ⟨g', cap', cur, hv, hb, hg, _⟩
  · omega
  · injection hv with e1 _ _
    exact ⟨g', e1, hb, (Array.getElem?_eq_some_iff.1 hg).1⟩
theorem own_range {w : World} {base n c g size : Nat} {e : TypeId} {xs : List Value} (h : w.ownsRow base e size (.slice (some ⟨g, 0, none⟩) n c) n xs) : w.rangeAt g 0 xs := fun j v hv => by
  rcases h.2 with ⟨h0, _⟩ | ⟨g', cap', cur, hv', hb, hg, h1, h2, h3, h4⟩
  · cases h0
  · injection hv' with e1 _ _
    injection e1 with e1
    injection e1 with e1
    subst e1
    rw [Nat.zero_add, cell_of_row w g j cur e (0, 0) hg]
    rw [← h4, List.getElem?_take] at hv
    split at hv
    · simpa using hv
    · cases hv
set_option maxRecDepth 8000 in
theorem bv_ones8 (S : List UInt8) : (bv S).toArray.all (fun x => x.oneCell') = true := by
  rw [Array.all_eq_true_iff_forall_mem]
  intro u hu
  exact bv_one S u (by simpa using hu)
/-- what a field tells -/
def FldAt (f : Nat) (h : Hd) (l : List UInt8) (n : Nat) : Prop := ∀ w : World, Calls Try.prog f #[h.val] w fun e w' => ∃ A c, e = .returned (.slice A n c) ∧ Rd w' A l ∧ Below w.heap.size w w'
set_option maxRecDepth 100000 in
theorem fld1 (h : Hd) : FldAt 72 h [67, 72, 72, 68] 4 := fun w => by
  obtain ⟨W1, hW1⟩ : ∃ W1, W1 = w.alloc (.cells #[.int .i64 h.e, .int .i64 h.a, .int .i64 h.o] 28) := ⟨_, rfl⟩
  have hcv := Go.Joins.run_convert_bytes_const_at (P := Try.prog) W1 22 5 #[.int .u8 67, .int .u8 72, .int .u8 72, .int .u8 68] 4 4 (w.heap.size + 1) (by rw [hW1]; simp) Try.underlying22 Try.underlying5
  have HC := Lib.hid (fun j => Go.Joins.cell_alloc_mark_at W1 #[.int .u8 67, .int .u8 72, .int .u8 72, .int .u8 68] 5 (4, 5) (w.heap.size + 1) j (by rw [hW1]; simp))
  have HB := Lib.hid (show Below w.heap.size w (W1.alloc (.cells #[.int .u8 67, .int .u8 72, .int .u8 72, .int .u8 68] 5 (4, 5))) from by rw [hW1]; exact ((Below.refl w.heap.size w).alloc (Nat.le_refl _) _).alloc (by simp) _)
  rw [hW1] at hcv
  go_enter Try.func72, Try.ntmps72
  go_wp2
  rw [← hW1]
  go_ret
  refine ⟨_, _, rfl, fun j hj => ⟨_, 0, rfl, ?_⟩, HB.out⟩
  rw [Nat.zero_add]
  refine (HC.out j).trans ?_
  have hj' : j < 4 := hj
  match j, hj' with
  | 0, _ => rfl
  | 1, _ => rfl
  | 2, _ => rfl
  | 3, _ => rfl
set_option maxRecDepth 100000 in
theorem fld2 (e a o : Nat) (he : (e : Int) ≤ 9223372036854775807) : FldAt 73 ⟨e, a, o⟩ (S.bytesLE 8 e) 8 := fun w => by
  have HE := Lib.hid he
  have HB := Lib.hid ((Below.refl w.heap.size w).alloc (Nat.le_refl _) (.cells #[.int .i64 (e : Int), .int .i64 (a : Int), .int .i64 (o : Int)] 28))
  clear he
  go_enter Try.func73, Try.ntmps73
  go_wp2_with (go_at_call 74; refine (number_any e 8 9223372036854775807 _ rfl HE.out).mono ?_; rintro r w' ⟨A, c, rfl, hr, hb⟩; have HR := Lib.hid hr; have HB2 := Lib.hid (HB.out.trans (hb.mono HB.out.size)); clear hr hb)
  go_ret
  exact ⟨A, c, rfl, HR.out, HB2.out⟩
set_option maxRecDepth 100000 in
theorem fld3 (e a o : Nat) (ha : (a : Int) ≤ 65535) : FldAt 75 ⟨e, a, o⟩ (S.bytesLE 2 a) 2 := fun w => by
  have HE := Lib.hid ha
  have HB := Lib.hid ((Below.refl w.heap.size w).alloc (Nat.le_refl _) (.cells #[.int .i64 (e : Int), .int .i64 (a : Int), .int .i64 (o : Int)] 28))
  clear ha
  go_enter Try.func75, Try.ntmps75
  go_wp2_with (go_at_call 74; refine (number_any a 2 65535 _ rfl HE.out).mono ?_; rintro r w' ⟨A, c, rfl, hr, hb⟩; have HR := Lib.hid hr; have HB2 := Lib.hid (HB.out.trans (hb.mono HB.out.size)); clear hr hb)
  go_ret
  exact ⟨A, c, rfl, HR.out, HB2.out⟩
set_option maxRecDepth 100000 in
theorem fld4 (e a o : Nat) (ho : (o : Int) ≤ 65535) : FldAt 76 ⟨e, a, o⟩ (S.bytesLE 2 o) 2 := fun w => by
  have HE := Lib.hid ho
  have HB := Lib.hid ((Below.refl w.heap.size w).alloc (Nat.le_refl _) (.cells #[.int .i64 (e : Int), .int .i64 (a : Int), .int .i64 (o : Int)] 28))
  clear ho
  go_enter Try.func76, Try.ntmps76
  go_wp2_with (go_at_call 74; refine (number_any o 2 65535 _ rfl HE.out).mono ?_; rintro r w' ⟨A, c, rfl, hr, hb⟩; have HR := Lib.hid hr; have HB2 := Lib.hid (HB.out.trans (hb.mono HB.out.size)); clear hr hb)
  go_ret
  exact ⟨A, c, rfl, HR.out, HB2.out⟩
set_option maxRecDepth 8000 in
theorem madeN (n : Nat) : madeCells #[.int .u8 0] n = (bv (List.replicate n 0)).toArray := by
  apply Array.ext
  · simp [madeCells, bv_length]
  · intro i h1 h2
    simp [madeCells, bv, Nat.mod_one]
set_option maxRecDepth 100000 in
theorem fld5 (h : Hd) : FldAt 77 h (List.replicate 484 0) 484 := fun w => by
  have hmk := fun W : World => show (Instr.makeSlice 22 (.int .i64 484) (.int .i64 484)).run Try.prog W = .ok (.slice (some ⟨W.heap.size, 0, none⟩) 484 484) (W.alloc (.cells (madeCells #[.int .u8 0] 484) 5)) from run_make_row' (P := Try.prog) 22 5 (.int .u8 0) 1 Try.underlying22 S.infoU8 rfl .i64 .i64 484 (by omega) (by omega) W
  obtain ⟨zz, hzz⟩ : ∃ zz : List UInt8, zz = List.replicate 484 0 := ⟨_, rfl⟩
  rw [← hzz]
  have HZ := Lib.hid (show zz.length = 484 by rw [hzz, List.length_replicate])
  have HM := Lib.hid (show madeCells #[.int .u8 0] 484 = (bv zz).toArray by rw [hzz]; exact madeN 484)
  clear hzz
  simp only [HM.out] at hmk
  go_enter Try.func77, Try.ntmps77
  go_wp2
  go_ret
  exact ⟨_, _, rfl, rd_bv (blk_new1 w (.cells #[.int .i64 h.e, .int .i64 h.a, .int .i64 h.o] 28) 5 (bv zz).toArray), ((Below.refl w.heap.size w).alloc (Nat.le_refl _) _).alloc (by simp) _⟩
set_option maxRecDepth 100000 in
theorem fld6 (e a o : Nat) (he : (e : Int) ≤ 9223372036854775807) : FldAt 78 ⟨e, a, o⟩ (S.bytesLE 8 e) 8 := fun w => by
  have HE := Lib.hid he
  have HB := Lib.hid ((Below.refl w.heap.size w).alloc (Nat.le_refl _) (.cells #[.int .i64 (e : Int), .int .i64 (a : Int), .int .i64 (o : Int)] 28))
  clear he
  go_enter Try.func78, Try.ntmps78
  go_wp2_with (go_at_call 74; refine (number_any e 8 9223372036854775807 _ rfl HE.out).mono ?_; rintro r w' ⟨A, c, rfl, hr, hb⟩; have HR := Lib.hid hr; have HB2 := Lib.hid (HB.out.trans (hb.mono HB.out.size)); clear hr hb)
  go_ret
  exact ⟨A, c, rfl, HR.out, HB2.out⟩
end Go.Proofs.Ytcfkoglehjkkdaa

/- law 8: what HeadersTurns wants of headers, of the disk that never fails, of bits that are turned. -/
import Derived.Test.YtjfcmoappbfnjaaP05
import Derived.Test.YtjfcmoappbfnjaaP02
import Derived.Test.YtjfcmoappbfnjaaP10
import Derived.Lib.SmallJoins
import Derived.Test.YtjfcmoappbfnjaaP12
import Derived.Test.YtjfcmoappbfnjaaP11
import Derived.WalkMore
import Derived.ScopeJumps
import Derived.Test.YtjfcmoappbfnjaaP13
import Derived.Deep.Slices
import Derived.SizedLaws
import Derived.Test.YtjfcmoappbfnjaaP14
import Derived.Test.YtjfcmoappbfnjaaP15
import Derived.Test.YtjfcmoappbfnjaaP19
import Derived.StillTailTactics
import Derived.Test.YtjfcmoappbfnjaaP18
import Derived.Test.YtjfcmoappbfnjaaP07
import Derived.ArgAppend
namespace Go.Proofs.Ytjfcmoappbfnjaa.S
open List renaming getElem_toArray → zq1, getElem_cons_succ → zq2, getElem_cons_zero → zq3, setIfInBounds_toArray → zq4, set_cons_zero → zq5, set_cons_succ → zq6
open Go.RowKit
/-- are these bytes sealed? -/
def okB (l : List UInt8) : Bool := decide (4 ≤ l.length) && (numLE (l.drop (l.length - 4)) == crcN (l.take (l.length - 4)))
set_option maxRecDepth 8000 in
theorem xor_low (m Y x : Nat) (hx : x < 2 ^ m) : (2 ^ m * Y) ^^^ x = 2 ^ m * Y + x := by
  have hp : 0 < 2 ^ m := Nat.pow_pos (by omega)
  have h1 : ((2 ^ m * Y) ^^^ x) / 2 ^ m = Y := by
    rw [Nat.xor_div_two_pow, Nat.mul_div_cancel_left _ hp, Nat.div_eq_of_lt hx, Nat.xor_zero]
  have h2 : ((2 ^ m * Y) ^^^ x) % 2 ^ m = x := by
    rw [Nat.xor_mod_two_pow, Nat.mul_mod_right, Nat.mod_eq_of_lt hx, Nat.zero_xor]
  have h3 := Nat.div_add_mod ((2 ^ m * Y) ^^^ x) (2 ^ m)
  rw [h1, h2] at h3
  exact h3.symm
set_option maxRecDepth 8000 in
theorem mul_xor (m a b : Nat) : 2 ^ m * (a ^^^ b) = (2 ^ m * a) ^^^ (2 ^ m * b) := by
  have := Nat.shiftLeft_xor_distrib (a := a) (b := b) (i := m)
  rw [Nat.shiftLeft_eq, Nat.shiftLeft_eq, Nat.shiftLeft_eq] at this
  rw [Nat.mul_comm, this, Nat.mul_comm, Nat.mul_comm b]
set_option maxRecDepth 8000 in
theorem stepsN_shift (m q : Nat) : stepsN m (2 ^ m * q) = q := by
  induction m generalizing q with
  | zero => simp [stepsN]
  | succ m ih =>
    rw [Nat.pow_succ, Nat.mul_assoc]
    simp only [stepsN]
    rw [ih, stepN_even']
set_option maxRecDepth 8000 in
theorem rawN_num (l : List UInt8) (s : Nat) : rawN s l = stepsN (8 * l.length) (s ^^^ numLE l) := by
  induction l generalizing s with
  | nil => simp [rawN, numLE, stepsN]
  | cons x l ih =>
    have hx := x.toNat_lt
    show rawN (byteN s x) l = _
    rw [ih]
    have e : s ^^^ numLE (x :: l) = (s ^^^ x.toNat) ^^^ (2 ^ 8 * numLE l) := by
      rw [numLE, Nat.xor_assoc, Nat.xor_comm x.toNat, xor_low 8 _ _ (by omega)]
      congr 1
      omega
    rw [e, List.length_cons, Nat.mul_add, Nat.mul_one, stepsN_add, stepsN_xor 8, stepsN_shift]
    rfl
set_option maxRecDepth 8000 in
theorem xor_zero_eq {a b : Nat} (h : a ^^^ b = 0) : a = b := by
  have h1 : (a ^^^ b) ^^^ b = a := by rw [Nat.xor_assoc, Nat.xor_self, Nat.xor_zero]
  rw [h, Nat.zero_xor] at h1
  exact h1.symm
set_option maxRecDepth 8000 in
theorem stepN_zero {s : Nat} (h : s < 4294967296) (h0 : stepN s = 0) : s = 0 := by
  unfold stepN at h0
  split at h0
  · omega
  · have := xor_zero_eq h0
    omega
set_option maxRecDepth 8000 in
theorem stepsN_zero (m : Nat) {s : Nat} (h : s < 4294967296) (h0 : stepsN m s = 0) : s = 0 := by
  induction m with
  | zero => exact h0
  | succ m ih => exact ih (stepN_zero (stepsN_lt m h) h0)
set_option maxRecDepth 8000 in
theorem stepsN_of_zero (m : Nat) : stepsN m 0 = 0 := by
  induction m with
  | zero => rfl
  | succ m ih => simp only [stepsN]; rw [ih]; rfl
set_option maxRecDepth 8000 in
theorem stepsN_inj (m : Nat) {a b : Nat} (ha : a < 4294967296) (hb : b < 4294967296) (h : stepsN m a = stepsN m b) : a = b := by
  have h1 : stepsN m (a ^^^ b) = 0 := by rw [stepsN_xor, h, Nat.xor_self]
  exact xor_zero_eq (stepsN_zero m (Nat.xor_lt_two_pow (n := 32) ha hb) h1)
/-- what the sum of sealed bytes, taken over all of them, always is -/
def restN : Nat := stepsN 32 4294967295
set_option maxRecDepth 8000 in
theorem okB_rest (l : List UInt8) (h4 : 4 ≤ l.length) : (okB l = true) ↔ rawN 4294967295 l = restN := by
  obtain ⟨k, hk⟩ : ∃ k, l.length = k + 4 := ⟨l.length - 4, by omega⟩
  have hd : (l.drop k).length = 4 := by simp; omega
  have ht := numLE_lt (l.drop k)
  rw [hd] at ht
  have hr := rawN_lt (s := 4294967295) (l.take k) (by omega)
  have e : rawN 4294967295 l = stepsN 32 (rawN 4294967295 (l.take k) ^^^ numLE (l.drop k)) := by
    have h1 := rawN_append 4294967295 (l.take k) (l.drop k)
    rw [List.take_append_drop, rawN_num (l.drop k), hd] at h1
    exact h1
  rw [e]
  unfold okB restN
  rw [decide_eq_true h4, Bool.true_and, hk, Nat.add_sub_cancel, beq_iff_eq]
  unfold crcN
  rw [← not_nat _ hr]
  constructor
  · intro h
    rw [h, Nat.xor_comm 4294967295, ← Nat.xor_assoc, Nat.xor_self, Nat.zero_xor]
  · intro h
    have h2 := stepsN_inj 32 (Nat.xor_lt_two_pow (n := 32) hr (by omega)) (by omega) h
    have h3 : rawN 4294967295 (l.take k) ^^^ (rawN 4294967295 (l.take k) ^^^ numLE (l.drop k)) = rawN 4294967295 (l.take k) ^^^ 4294967295 := by rw [h2]
    rw [← Nat.xor_assoc, Nat.xor_self, Nat.zero_xor] at h3
    rw [h3, Nat.xor_comm]
set_option maxRecDepth 8000 in
theorem okB_seal (l : List UInt8) : okB (sealN l) = true := by
  have e : (sealN l).length = l.length + 4 := sealN_length l
  unfold okB
  rw [decide_eq_true (by omega), Bool.true_and, e, Nat.add_sub_cancel, beq_iff_eq]
  unfold sealN
  rw [List.drop_left' rfl, List.take_left' rfl, numLE_bytesLE 4 _ (by have := crcN_lt l; omega)]
set_option maxRecDepth 8000 in
/-- a burst is told: bytes that were sealed, in which the bits B from f on are turned, are sealed just where B is nothing -/
theorem okB_burst (l l' : List UInt8) (f B : Nat) (h4 : 4 ≤ l.length) (hl : l'.length = l.length) (hok : okB l = true) (hn : numLE l' = numLE l ^^^ (2 ^ f * B)) (hf : f ≤ 8 * l.length) (hB : B < 4294967296) : okB l' = decide (B = 0) := by
  rw [Bool.eq_iff_iff, okB_rest l' (by omega), decide_eq_true_eq]
  have h1 := (okB_rest l h4).1 hok
  rw [rawN_num] at h1 ⊢
  rw [hl, hn, ← Nat.xor_assoc, stepsN_xor, h1]
  have e : stepsN (8 * l.length) (2 ^ f * B) = stepsN (8 * l.length - f) B := by
    have := stepsN_add (8 * l.length - f) f (2 ^ f * B)
    rw [Nat.sub_add_cancel hf, stepsN_shift] at this
    exact this
  rw [e]
  constructor
  · intro h
    have h2 : stepsN (8 * l.length - f) B = 0 := by
      have h3 : restN ^^^ (restN ^^^ stepsN (8 * l.length - f) B) = restN ^^^ restN := by rw [h]
      rw [← Nat.xor_assoc, Nat.xor_self, Nat.zero_xor] at h3
      exact h3
    exact stepsN_zero _ hB h2
  · intro h
    rw [h, stepsN_of_zero, Nat.xor_zero]
set_option maxRecDepth 8000 in
theorem numLE_set (l : List UInt8) (j : Nat) (b : UInt8) (h : j < l.length) : numLE (l.set j (l[j] ^^^ b)) = numLE l ^^^ (256 ^ j * b.toNat) := by
  induction l generalizing j with
  | nil => simp at h
  | cons x l ih =>
    have hx := x.toNat_lt
    cases j with
    | zero =>
      simp only [List.set_cons_zero, List.getElem_cons_zero, numLE, Nat.pow_zero, Nat.one_mul]
      have hxb := (x ^^^ b).toNat_lt
      have e1 := xor_low 8 (numLE l) (x ^^^ b).toNat (by omega)
      have e2 := xor_low 8 (numLE l) x.toNat (by omega)
      rw [show (x ^^^ b).toNat + 256 * numLE l = 2 ^ 8 * numLE l + (x ^^^ b).toNat by omega, ← e1, show x.toNat + 256 * numLE l = 2 ^ 8 * numLE l + x.toNat by omega, ← e2, UInt8.toNat_xor, Nat.xor_assoc]
    | succ j =>
      simp only [List.set_cons_succ, List.getElem_cons_succ, numLE]
      rw [ih j (by simpa using h)]
      have e1 := xor_low 8 (numLE l ^^^ 256 ^ j * b.toNat) x.toNat (by omega)
      have e2 := xor_low 8 (numLE l) x.toNat (by omega)
      rw [show x.toNat + 256 * (numLE l ^^^ 256 ^ j * b.toNat) = 2 ^ 8 * (numLE l ^^^ 256 ^ j * b.toNat) + x.toNat by omega, ← e1, show x.toNat + 256 * numLE l = 2 ^ 8 * numLE l + x.toNat by omega, ← e2, mul_xor, xor_rot]
      congr 1
      show 256 * (256 ^ j * b.toNat) = 256 ^ (j + 1) * b.toNat
      rw [Nat.pow_succ, Nat.mul_comm (256 ^ j) 256, Nat.mul_assoc]
set_option maxRecDepth 8000 in
theorem bit_at (t : Nat) : 256 ^ (t / 8) * 2 ^ (t % 8) = 2 ^ t := by
  rw [show (256 : Nat) = 2 ^ 8 from rfl, ← Nat.pow_mul, ← Nat.pow_add]
  congr 1
  omega
set_option maxRecDepth 8000 in
theorem burst_more (f i B : Nat) (hB : B < 2 ^ i) : (2 ^ f * B) ^^^ 2 ^ (f + i) = 2 ^ f * (2 ^ i + B) := by
  have h := xor_low i 1 B hB
  rw [Nat.mul_one] at h
  rw [← h, mul_xor, Nat.pow_add, Nat.xor_comm]
end Go.Proofs.Ytjfcmoappbfnjaa.S

namespace Go.Proofs.Ytjfcmoappbfnjaa
open List renaming getElem_toArray → zq1, getElem_cons_succ → zq2, getElem_cons_zero → zq3, setIfInBounds_toArray → zq4, set_cons_zero → zq5, set_cons_succ → zq6
open Go.RowKit
/-- a header, as it is told by plain data -/
structure Hd where
  e : Int
  a : Int
  o : Int
deriving DecidableEq
abbrev Hd.cs (h : Hd) : List Value := [.int .i64 h.e, .int .i64 h.a, .int .i64 h.o]
abbrev Hd.val (h : Hd) : Value := .agg #[.int .i64 h.e, .int .i64 h.a, .int .i64 h.o]
/-- may it be? -/
abbrev Hd.ok (h : Hd) : Prop := 0 ≤ h.e ∧ 0 ≤ h.a ∧ h.a < 2 ∧ 1 ≤ h.o ∧ h.o ≤ 64
/-- the bytes that are sealed -/
def hdL (e a o : Nat) : List UInt8 := [67, 72, 72, 68] ++ S.bytesLE 8 e ++ S.bytesLE 2 a ++ S.bytesLE 2 o ++ List.replicate 484 0 ++ S.bytesLE 8 e
def hdS (e a o : Nat) : List UInt8 := S.sealN (hdL e a o)
set_option maxRecDepth 8000 in
theorem hdL_length (e a o : Nat) : (hdL e a o).length = 508 := by simp [hdL, S.bytesLE_length]
set_option maxRecDepth 8000 in
theorem hdS_length (e a o : Nat) : (hdS e a o).length = 512 := by unfold hdS; rw [S.sealN_length, hdL_length]
set_option maxRecDepth 8000 in
theorem hdS_take (e a o : Nat) : (hdS e a o).take 508 = hdL e a o := by unfold hdS S.sealN; exact List.take_left' (hdL_length e a o)
set_option maxRecDepth 8000 in
theorem hdS_drop (e a o : Nat) : (hdS e a o).drop 508 = S.bytesLE 4 (S.crcN (hdL e a o)) := by unfold hdS S.sealN; exact List.drop_left' (hdL_length e a o)
set_option maxRecDepth 8000 in
theorem hdS_ok (e a o : Nat) : ((S.numLE ((hdS e a o).drop 508) : Int) != (S.crcN ((hdS e a o).take 508) : Int)) = false := by
  rw [hdS_drop, hdS_take, S.numLE_bytesLE 4 _ (by have := S.crcN_lt (hdL e a o); omega)]
  simp
set_option maxRecDepth 8000 in
theorem zero23 : (Try.prog.info? 28).map (fun i => (i.zero, i.size)) = some (some (.agg #[.int .i64 0, .int .i64 0, .int .i64 0]), 3) := by kernel_rfl
theorem z23 (w : World) : (zeroValue 28).run Try.prog w = .ok (.agg #[.int .i64 0, .int .i64 0, .int .i64 0]) w := (zero_of_info zero23).1 w
set_option maxRecDepth 8000 in
theorem size23 (h : Hd) : (Try.prog.info? 28).map (·.size) = some h.cs.length := by kernel_rfl
end Go.Proofs.Ytjfcmoappbfnjaa

namespace Go.Proofs.Ytjfcmoappbfnjaa
open List renaming getElem_toArray → zq1, getElem_cons_succ → zq2, getElem_cons_zero → zq3, setIfInBounds_toArray → zq4, set_cons_zero → zq5, set_cons_succ → zq6
open Go.RowKit
attribute [local go_sem] Oper.semAt_some
set_option maxRecDepth 100000 in
theorem number_any (N k : Nat) (g : Int) (w : World) (hg : S.greatestN k = some g) (h1 : (N : Int) ≤ g) :
    Calls Try.prog 74 #[.int .i64 (N : Int), .int .i64 (k : Int)] w fun e w' => ∃ A c, e = .returned (.slice A k c) ∧ Rd w' A (S.bytesLE k N) ∧ Below w.heap.size w w' := by
  have HG := Lib.hid hg
  have H1 := Lib.hid h1
  clear hg h1
  go_enter Try.func74, Try.ntmps74
  go_wp2_with (go_at_call 90; refine (S.put_yes N k g w HG.out H1.out).mono ?_; rintro e w' ⟨v, rfl, hown, hb⟩; obtain ⟨A, c, rfl⟩ := own_shape hown; have HR := Lib.hid (Rd.of_own hown); have HB := Lib.hid hb; clear hown hb)
  go_ret
  exact ⟨A, c, rfl, HR.out, HB.out⟩
set_option maxRecDepth 8000 in
theorem blk_new1 (w : World) (o : Obj) (t : TypeId) (cs : Array Value) : Blk ((w.alloc o).alloc (.cells cs t)) (w.heap.size + 1) t cs := by
  have := Blk.new (w.alloc o) t cs
  simpa using this
theorem rd_bv {w : World} {g : Nat} {t : TypeId} {l : List UInt8} (h : Blk w g t (bv l).toArray) : Rd w (some ⟨g, 0, none⟩) l := rd_blk h 0 _ (fun j hj => by rw [Nat.zero_add, bv_get, List.getElem?_eq_getElem hj]; rfl)
set_option maxRecDepth 8000 in
theorem own_blw {w w' : World} {base n size : Nat} {e : TypeId} {v : Value} {xs : List Value} (h : w.ownsRow base e size v n xs) (hb : Below w.heap.size w w') : w'.ownsRow base e size v n xs := by
  refine h.kept (row := none) ⟨hb.os, hb.tape, hb.output, hb.size, fun k hk _ => hb.block k hk⟩ ?_
  cases hv : v.ownBlock with
  | none => exact .inl rfl
  | some k => exact .inr (by simp)
set_option maxRecDepth 8000 in
theorem own_addr' {w : World} {base n c size : Nat} {A : Option Addr} {e : TypeId} {xs : List Value} (h : w.ownsRow base e size (.slice A n c) n xs) (hn : 0 < n) : ∃ g, A = some ⟨g, 0, none⟩ ∧ base ≤ g ∧ g < w.heap.size := by
  rcases h.2 with ⟨_, h0⟩ | ⟨g', cap', cur, hv, hb, hg, _⟩
  · omega
  · injection hv with e1 _ _
    exact ⟨g', e1, hb, (Array.getElem?_eq_some_iff.1 hg).1⟩
theorem own_range {w : World} {base n c g size : Nat} {e : TypeId} {xs : List Value} (h : w.ownsRow base e size (.slice (some ⟨g, 0, none⟩) n c) n xs) : w.rangeAt g 0 xs := fun j v hv => by
  rcases h.2 with ⟨h0, _⟩ | ⟨g', cap', cur, hv', hb, hg, h1, h2, h3, h4⟩
  · cases h0
  · injection hv' with e1 _ _
    injection e1 with e1
    injection e1 with e1
    subst e1
    rw [Nat.zero_add, cell_of_row w g j cur e (0, 0) hg]
    rw [← h4, List.getElem?_take] at hv
    split at hv
    · simpa using hv
    · cases hv
set_option maxRecDepth 8000 in
theorem bv_ones8 (S : List UInt8) : (bv S).toArray.all (fun x => x.oneCell') = true := by
  rw [Array.all_eq_true_iff_forall_mem]
  intro u hu
  exact bv_one S u (by simpa using hu)
/-- what a field tells -/
def FldAt (f : Nat) (h : Hd) (l : List UInt8) (n : Nat) : Prop := ∀ w : World, Calls Try.prog f #[h.val] w fun e w' => ∃ A c, e = .returned (.slice A n c) ∧ Rd w' A l ∧ Below w.heap.size w w'
set_option maxRecDepth 100000 in
theorem fld1 (h : Hd) : FldAt 72 h [67, 72, 72, 68] 4 := fun w => by
  obtain ⟨W1, hW1⟩ : ∃ W1, W1 = w.alloc (.cells #[.int .i64 h.e, .int .i64 h.a, .int .i64 h.o] 28) := ⟨_, rfl⟩
  have hcv := Go.Joins.run_convert_bytes_const_at (P := Try.prog) W1 22 5 #[.int .u8 67, .int .u8 72, .int .u8 72, .int .u8 68] 4 4 (w.heap.size + 1) (by rw [hW1]; simp) Try.underlying22 Try.underlying5
  have HC := Lib.hid (fun j => Go.Joins.cell_alloc_mark_at W1 #[.int .u8 67, .int .u8 72, .int .u8 72, .int .u8 68] 5 (4, 5) (w.heap.size + 1) j (by rw [hW1]; simp))
  have HB := Lib.hid (show Below w.heap.size w (W1.alloc (.cells #[.int .u8 67, .int .u8 72, .int .u8 72, .int .u8 68] 5 (4, 5))) from by rw [hW1]; exact ((Below.refl w.heap.size w).alloc (Nat.le_refl _) _).alloc (by simp) _)
  rw [hW1] at hcv
  go_enter Try.func72, Try.ntmps72
  go_wp2
  rw [← hW1]
  go_ret
  refine ⟨_, _, rfl, fun j hj => ⟨_, 0, rfl, ?_⟩, HB.out⟩
  rw [Nat.zero_add]
  refine (HC.out j).trans ?_
  have hj' : j < 4 := hj
  match j, hj' with
  | 0, _ => rfl
  | 1, _ => rfl
  | 2, _ => rfl
  | 3, _ => rfl
set_option maxRecDepth 100000 in
theorem fld2 (e a o : Nat) (he : (e : Int) ≤ 9223372036854775807) : FldAt 73 ⟨e, a, o⟩ (S.bytesLE 8 e) 8 := fun w => by
  have HE := Lib.hid he
  have HB := Lib.hid ((Below.refl w.heap.size w).alloc (Nat.le_refl _) (.cells #[.int .i64 (e : Int), .int .i64 (a : Int), .int .i64 (o : Int)] 28))
  clear he
  go_enter Try.func73, Try.ntmps73
  go_wp2_with (go_at_call 74; refine (number_any e 8 9223372036854775807 _ rfl HE.out).mono ?_; rintro r w' ⟨A, c, rfl, hr, hb⟩; have HR := Lib.hid hr; have HB2 := Lib.hid (HB.out.trans (hb.mono HB.out.size)); clear hr hb)
  go_ret
  exact ⟨A, c, rfl, HR.out, HB2.out⟩
set_option maxRecDepth 100000 in
theorem fld3 (e a o : Nat) (ha : (a : Int) ≤ 65535) : FldAt 75 ⟨e, a, o⟩ (S.bytesLE 2 a) 2 := fun w => by
  have HE := Lib.hid ha
  have HB := Lib.hid ((Below.refl w.heap.size w).alloc (Nat.le_refl _) (.cells #[.int .i64 (e : Int), .int .i64 (a : Int), .int .i64 (o : Int)] 28))
  clear ha
  go_enter Try.func75, Try.ntmps75
  go_wp2_with (go_at_call 74; refine (number_any a 2 65535 _ rfl HE.out).mono ?_; rintro r w' ⟨A, c, rfl, hr, hb⟩; have HR := Lib.hid hr; have HB2 := Lib.hid (HB.out.trans (hb.mono HB.out.size)); clear hr hb)
  go_ret
  exact ⟨A, c, rfl, HR.out, HB2.out⟩
set_option maxRecDepth 100000 in
theorem fld4 (e a o : Nat) (ho : (o : Int) ≤ 65535) : FldAt 76 ⟨e, a, o⟩ (S.bytesLE 2 o) 2 := fun w => by
  have HE := Lib.hid ho
  have HB := Lib.hid ((Below.refl w.heap.size w).alloc (Nat.le_refl _) (.cells #[.int .i64 (e : Int), .int .i64 (a : Int), .int .i64 (o : Int)] 28))
  clear ho
  go_enter Try.func76, Try.ntmps76
  go_wp2_with (go_at_call 74; refine (number_any o 2 65535 _ rfl HE.out).mono ?_; rintro r w' ⟨A, c, rfl, hr, hb⟩; have HR := Lib.hid hr; have HB2 := Lib.hid (HB.out.trans (hb.mono HB.out.size)); clear hr hb)
  go_ret
  exact ⟨A, c, rfl, HR.out, HB2.out⟩
set_option maxRecDepth 8000 in
theorem madeN (n : Nat) : madeCells #[.int .u8 0] n = (bv (List.replicate n 0)).toArray := by
  apply Array.ext
  · simp [madeCells, bv_length]
  · intro i h1 h2
    simp [madeCells, bv, Nat.mod_one]
set_option maxRecDepth 100000 in
theorem fld5 (h : Hd) : FldAt 77 h (List.replicate 484 0) 484 := fun w => by
  have hmk := fun W : World => show (Instr.makeSlice 22 (.int .i64 484) (.int .i64 484)).run Try.prog W = .ok (.slice (some ⟨W.heap.size, 0, none⟩) 484 484) (W.alloc (.cells (madeCells #[.int .u8 0] 484) 5)) from run_make_row' (P := Try.prog) 22 5 (.int .u8 0) 1 Try.underlying22 S.infoU8 rfl .i64 .i64 484 (by omega) (by omega) W
  obtain ⟨zz, hzz⟩ : ∃ zz : List UInt8, zz = List.replicate 484 0 := ⟨_, rfl⟩
  rw [← hzz]
  have HZ := Lib.hid (show zz.length = 484 by rw [hzz, List.length_replicate])
  have HM := Lib.hid (show madeCells #[.int .u8 0] 484 = (bv zz).toArray by rw [hzz]; exact madeN 484)
  clear hzz
  simp only [HM.out] at hmk
  go_enter Try.func77, Try.ntmps77
  go_wp2
  go_ret
  exact ⟨_, _, rfl, rd_bv (blk_new1 w (.cells #[.int .i64 h.e, .int .i64 h.a, .int .i64 h.o] 28) 5 (bv zz).toArray), ((Below.refl w.heap.size w).alloc (Nat.le_refl _) _).alloc (by simp) _⟩
set_option maxRecDepth 100000 in
theorem fld6 (e a o : Nat) (he : (e : Int) ≤ 9223372036854775807) : FldAt 78 ⟨e, a, o⟩ (S.bytesLE 8 e) 8 := fun w => by
  have HE := Lib.hid he
  have HB := Lib.hid ((Below.refl w.heap.size w).alloc (Nat.le_refl _) (.cells #[.int .i64 (e : Int), .int .i64 (a : Int), .int .i64 (o : Int)] 28))
  clear he
  go_enter Try.func78, Try.ntmps78
  go_wp2_with (go_at_call 74; refine (number_any e 8 9223372036854775807 _ rfl HE.out).mono ?_; rintro r w' ⟨A, c, rfl, hr, hb⟩; have HR := Lib.hid hr; have HB2 := Lib.hid (HB.out.trans (hb.mono HB.out.size)); clear hr hb)
  go_ret
  exact ⟨A, c, rfl, HR.out, HB2.out⟩
end Go.Proofs.Ytjfcmoappbfnjaa

namespace Go.Proofs.Ytjfcmoappbfnjaa
open List renaming getElem_toArray → zq1, getElem_cons_succ → zq2, getElem_cons_zero → zq3, setIfInBounds_toArray → zq4, set_cons_zero → zq5, set_cons_succ → zq6
open Go.RowKit
set_option maxRecDepth 8000 in
theorem size144 : (Try.prog.info? 137).map (·.size) = some 484 := by kernel_rfl
set_option maxRecDepth 8000 in
theorem size145 : (Try.prog.info? 138).map (·.size) = some 8 := by kernel_rfl
set_option maxRecDepth 8000 in
theorem build144 (w : World) : (Instr.build 137 #[]).run Try.prog w = .ok (sec (List.replicate 484 0)) w := by kernel_rfl
set_option maxRecDepth 8000 in
theorem equalIn144 (w : World) (d : Nat) (l l' : List UInt8) (h : l.length = 484) (h' : l'.length = 484) : (Op.equalIn (d + 2) 137 (sec l) (sec l')).run Try.prog w = .ok (l == l') w := by
  obtain ⟨i, hi⟩ := info5
  have hc : Try.prog.cellsOf 5 = 1 := by kernel_rfl
  rw [show d + 2 = (d + 1) + 1 from rfl, run_equalIn_array w (d + 1) _ _ Try.underlying137 hi, hc, eqItems_bv w d l l' _ (fun j hj => by have := List.mem_range.1 hj; omega), all_range l l' 484 h h']
set_option maxRecDepth 8000 in
theorem run_neq144 (w : World) (l l' : List UInt8) (h : l.length = 484) (h' : l'.length = 484) : (binOp .neq 137 (sec l) (sec l')).run Try.prog w = .ok (.bool (!(l == l'))) w := by
  have := equalIn144 w 9998 l l' h h'
  simp only [binOp]
  simp [show Op.equal 137 (sec l) (sec l') = Op.equalIn (9998 + 2) 137 (sec l) (sec l') from rfl, this]
set_option maxRecDepth 8000 in
theorem equalIn145 (w : World) (d : Nat) (l l' : List UInt8) (h : l.length = 8) (h' : l'.length = 8) : (Op.equalIn (d + 2) 138 (sec l) (sec l')).run Try.prog w = .ok (l == l') w := by
  obtain ⟨i, hi⟩ := info5
  have hc : Try.prog.cellsOf 5 = 1 := by kernel_rfl
  rw [show d + 2 = (d + 1) + 1 from rfl, run_equalIn_array w (d + 1) _ _ Try.underlying138 hi, hc, eqItems_bv w d l l' _ (fun j hj => by have := List.mem_range.1 hj; omega), all_range l l' 8 h h']
set_option maxRecDepth 8000 in
theorem run_neq145 (w : World) (l l' : List UInt8) (h : l.length = 8) (h' : l'.length = 8) : (binOp .neq 138 (sec l) (sec l')).run Try.prog w = .ok (.bool (!(l == l'))) w := by
  have := equalIn145 w 9998 l l' h h'
  simp only [binOp]
  simp [show Op.equal 138 (sec l) (sec l') = Op.equalIn (9998 + 2) 138 (sec l) (sec l') from rfl, this]
section
variable {ops : Array Oper} {S : World → Prop} {o : Oper} {a : Act}
theorem yields_neq144 (hw : Region.wanted o (yielded ops a.tmps) = true) (x y : Operand) (ho : o.op = .binOp .neq 137 x y 137) (l l' : List UInt8) (hx : a.eval x = sec l) (hy : a.eval y = sec l') (h : l.length = 484) (h' : l'.length = 484) : YieldsIf Try.prog ops S o (.bool (!(l == l'))) a :=
  .inl ⟨hw, fun w _ => by
    unfold execOp
    simp only [ho, hx, hy, Sem.run_bind, run_eqGuard_agg (P := Try.prog) w .neq 137 x y (bv l).toArray (bv l').toArray (by kernel_rfl), run_neq144 w l l' h h', Result.andThen_ok, Sem.run_pure]⟩
theorem yields_neq145 (hw : Region.wanted o (yielded ops a.tmps) = true) (x y : Operand) (ho : o.op = .binOp .neq 138 x y 138) (l l' : List UInt8) (hx : a.eval x = sec l) (hy : a.eval y = sec l') (h : l.length = 8) (h' : l'.length = 8) : YieldsIf Try.prog ops S o (.bool (!(l == l'))) a :=
  .inl ⟨hw, fun w _ => by
    unfold execOp
    simp only [ho, hx, hy, Sem.run_bind, run_eqGuard_agg (P := Try.prog) w .neq 138 x y (bv l).toArray (bv l').toArray (by kernel_rfl), run_neq145 w l l' h h', Result.andThen_ok, Sem.run_pure]⟩
theorem yields_build144 (zz : List UInt8) (hz : zz = List.replicate 484 0) (hw : Region.wanted o (yielded ops a.tmps) = true) (ho : o.op = .build 137 #[]) : YieldsIf Try.prog ops S o (sec zz) a :=
  .inl ⟨hw, fun w _ => by
    have hb : (Instr.build 137 #[]).run Try.prog w = .ok (sec zz) w := hz ▸ build144 w
    clear hz
    unfold execOp
    simp only [ho]
    simp [hb, Result.andThen]⟩
end
theorem wpList_y8 {P : Program} {ops : Array Oper} {rest : List Oper} {o : Oper} {a : Act} {w : World} {Q : Exit → Act → World → Prop} {S : World → Prop} {v : Value} (hy : YieldsIf P ops S o v a) (hS : S w) (h : wpList P ops Q rest (a.put o.dst v) w) : wpList P ops Q (o :: rest) a w :=
  wpList_step fun K hK => by
    rcases hy with ⟨hw, hrun⟩ | ⟨hw, rfl⟩
    · rw [if_pos hw]
      unfold Oper.wp
      rw [hrun w hS]
      exact hK _ _ h
    · rw [if_neg (by rw [hw]; decide)]
      exact hK _ _ h
section
variable {P : Program} {w : World} {b off : Nat} {t : TypeId} {l ys : List Value}
set_option maxRecDepth 8000 in
theorem run_storeVar_mid8 (ty : TypeId) (hb : Blk w b t l.toArray) (hfit : off + ys.length ≤ l.length) (hi : (P.info? ty).map (·.size) = some ys.length) (h1 : ∀ u ∈ ys, u.oneCell' = true) :
    (storeVar ty ⟨b, off, none⟩ (.agg ys.toArray)).run P w = .ok () (w.setRow b (l.take off ++ ys ++ l.drop (off + ys.length)).toArray) := by
  have := run_storeCells_at P b off t ys 0 l.toArray w hb (by simpa using hfit) h1
  cases hq : P.info? ty with
  | none => simp [hq] at hi
  | some i =>
    have hs : ys.length = i.size := by simp [hq] at hi; omega
    simp only [Nat.add_zero] at this
    simp [storeVar, sizeOf, typeInfo, hq, Value.cells, hs, this]
theorem wpList_store_mid8 {ops : Array Oper} {rest : List Oper} {o : Oper} {a : Act} {Q : Exit → Act → World → Prop} (hgd : o.guard = none) (ty : TypeId) (x y : Operand) (ho : o.op = .store ty x y) (hb : Blk w b t l.toArray) (hx : a.eval x = .pointer (some ⟨b, off, none⟩)) (hy : a.eval y = .agg ys.toArray)
    (hfit : off + ys.length ≤ l.length) (hi : (P.info? ty).map (·.size) = some ys.length) (h1 : ∀ u ∈ ys, u.oneCell' = true) (h : wpList P ops Q rest (a.put o.dst undef) (w.setRow b (l.take off ++ ys ++ l.drop (off + ys.length)).toArray)) : wpList P ops Q (o :: rest) a w :=
  wpList_plain hgd fun _ hK => by
    unfold Oper.wp execOp
    simp only [ho, hx, hy, Instr.storeAt, Instr.sureAddr, Sem.run_bind, Sem.run_pure, Result.andThen_ok, run_storeVar_mid8 ty hb hfit hi h1]
    exact hK _ _ h
end
theorem setRow_fr8 (w : World) (b : Nat) (c : Array Value) : Fr (fun k => k = b) w (w.setRow b c) := ⟨rfl, rfl, rfl, by simp [World.setRow], fun k _ hk => setRow_other w b k c hk⟩
set_option maxRecDepth 8000 in
theorem step_store8 {ops : Array Oper} {o : Oper} {a : Act} {w : World} {K : Act → World → Prop} {Q : Exit → Act → World → Prop} {E : Prop} (hgd : o.guard = none) (ty : TypeId) (x y : Operand) (ho : o.op = .store ty x y) {g : Nat} (hx : a.eval x = .pointer (some ⟨g, 0, none⟩))
    (cells old : Array Value) (t : TypeId) (hy : a.eval y = .agg cells) (hb : Blk w g t old) (hi : (Try.prog.info? ty).map (·.size) = some cells.size) (hold : old.size = cells.size) (h1 : cells.all (·.oneCell') = true)
    (h : ∀ w', Blk w' g t cells → Fr (fun k => k = g) w w' → K (a.put o.dst undef) w') : if Region.wanted o (yielded ops a.tmps) = true then Oper.wp Try.prog o a w K Q else E := by
  rw [if_pos (by simp [Region.wanted, hgd])]
  refine wp_store_row ty x y ho g cells hx hy t old hb hi hold h1 ?_
  exact h _ (setRow_heap w g _ _ t (0, 0) hb) (setRow_fr8 w g cells)
set_option maxRecDepth 8000 in
theorem arr_run {T : TypeId} {n : Nat} {e : TypeId} (hu : Try.prog.underlying T = some (.array n e)) (w : World) (a : Option Addr) (k c : Nat) (h : n ≤ k) : (Instr.arrayAt T (.slice a k c)).run Try.prog w = .ok (.pointer a) w := by
  have hu := run_underlying (P := Try.prog) hu w
  simp only [Instr.arrayAt, Sem.run_bind, hu, Result.andThen_ok]
  rw [if_neg (by omega)]
  rfl
end Go.Proofs.Ytjfcmoappbfnjaa

namespace Go.Proofs.Ytjfcmoappbfnjaa
open List renaming getElem_toArray → zq1, getElem_cons_succ → zq2, getElem_cons_zero → zq3, setIfInBounds_toArray → zq4, set_cons_zero → zq5, set_cons_succ → zq6
open Go.RowKit
attribute [local go_sem] Oper.semAt_some
def zs2 : List UInt8 := List.replicate 1024 0
theorem zs2_length : zs2.length = 1024 := List.length_replicate ..
set_option maxRecDepth 8000 in
theorem size112 : (Try.prog.info? 108).map (·.size) = some 1024 := by kernel_rfl
set_option maxRecDepth 8000 in
theorem zero112 : (Try.prog.info? 108).map (fun i => (i.zero, i.size)) = some (some (sec zs2), 1024) := by kernel_rfl
theorem z112 (w : World) : (zeroValue 108).run Try.prog w = .ok (sec zs2) w := (zero_of_info zero112).1 w
set_option maxRecDepth 8000 in
theorem lay0 (l : List UInt8) (hl : l.length = 512) : (bv zs2).take 0 ++ bv l ++ (bv zs2).drop (0 + (bv l).length) = bv (l ++ zs2.drop 512) := by
  rw [bv_length, hl]
  simp [bv]
set_option maxRecDepth 8000 in
theorem lay1 (l0 l1 : List UInt8) (h0 : l0.length = 512) (h1 : l1.length = 512) : (bv (l0 ++ zs2.drop 512)).take 512 ++ bv l1 ++ (bv (l0 ++ zs2.drop 512)).drop (512 + (bv l1).length) = bv (l0 ++ l1) := by
  have e0 : (bv (l0 ++ zs2.drop 512)).take 512 = bv l0 := by unfold bv; rw [List.map_append]; exact List.take_left' (by simp [h0])
  have e1 : (bv (l0 ++ zs2.drop 512)).drop (512 + (bv l1).length) = [] := List.drop_eq_nil_of_le (by rw [bv_length, bv_length, List.length_append, List.length_drop, zs2_length, h0, h1]; omega)
  rw [e0, e1, List.append_nil]
  simp [bv]
set_option maxRecDepth 8000 in
theorem results_cell2 {fn : Func} {p q : Tmp} (h : fn.results = #[.cell p 108, .tmp q]) (tmps : Array Value) (w : World) (g : Nat) (l : List UInt8) (hl : l.length = 1024) (hp : tmps.getD p undef = .pointer (some ⟨g, 0, none⟩)) (hg : Blk w g 108 (bv l).toArray) : (results fn tmps).run Try.prog w = .ok (.tuple #[sec l, tmps.getD q undef]) w := by
  have hp' : tmps[p]?.getD undef = .pointer (some ⟨g, 0, none⟩) := by simpa using hp
  have hl := run_loadVar_row (P := Try.prog) w g 108 108 (bv l).toArray (0, 0) _ hg Try.underlying108 rfl (by rw [List.size_toArray, bv_length, hl]; exact size112)
  simp [results, h, hp', asAddr, hl]
set_option maxRecDepth 100000 in
set_option maxHeartbeats 4000000 in
theorem sectors_any {w : World} {base p : Nat} {pl : Pl} {D : Dk} (hd : DiskAt w base p pl D) (hN : D.waits.length ≤ 1000000) (hz2 : 2 ≤ D.size) (hs : D.steps < 999990) (hf0 : D.next = false) (hf1 : D.stepped.next = false) :
    Calls Try.prog 49 #[.pointer (some ⟨p, 0, none⟩)] w fun r w' => r = .returned (.tuple #[sec (D.reads 0 ++ D.reads 1), .int .i64 0]) ∧ DiskAt w' base p pl D.stepped.stepped ∧ Fr (pl.has p) w w' := by
  have hz := z112
  have D0 := Lib.hid (hd.alloc (.cells (bv zs2).toArray 108))
  have B0 := Lib.hid (Blk.new w 108 (bv zs2).toArray)
  have F0 := Lib.hid ((Fr.refl (pl.has p) w).alloc (.cells (bv zs2).toArray 108))
  have NH := Lib.hid (show ¬ pl.has p w.heap.size from hd.not_new (Nat.le_refl _))
  have L0 := Lib.hid (show (D.reads 0).length = 512 from readL_length _ _ _ (hd.lens 0) (fun x hx => (hd.wlens x hx).1))
  have L1 := Lib.hid (show (D.reads 1).length = 512 from readL_length _ _ _ (hd.lens 1) (fun x hx => (hd.wlens x hx).1))
  have HN := Lib.hid hN
  have HZ2 := Lib.hid hz2
  have HS := Lib.hid hs
  have HF0 := Lib.hid hf0
  have HF1 := Lib.hid hf1
  have s0 : ((D.size : Int) == 0) = false := beq_eq_false_iff_ne.2 (by omega)
  have s2 : decide ((D.size : Int) < 2) = false := decide_eq_false (by omega)
  have s2' : decide (D.size < 2) = false := decide_eq_false (by omega)
  clear hd hN hz2 hs hf0 hf1
  go_enter Try.func49, Try.ntmps49
  go_wp2_with (go_at_call 35; refine (size_at D0.out).mono ?_; rintro r w' ⟨rfl, rfl⟩)
  generalize w.alloc (.cells (bv zs2).toArray 108) = W at D0 B0 F0 ⊢
  refine wp_loop_rounds 3 ?_
  rw [rounds_succ]
  go_wp2_with fail
  refine (read_goes D0.out HN.out 0 (by have := HZ2.out; omega) (by have := HS.out; omega) HF0.out).mono ?_
  rintro r W1 ⟨rfl, hd1, hf1⟩
  have D1 := Lib.hid hd1
  have F1 := Lib.hid (F0.out.trans hf1)
  have B1 := Lib.hid (hf1.keepBlk B0.out NH.out)
  clear hd1 hf1 D0 F0 B0
  have q0 : (bv (D.reads 0)).length = 512 := by rw [bv_length, L0.out]
  have q1 : (bv (D.reads 1)).length = 512 := by rw [bv_length, L1.out]
  have C1 := Lib.hid (show Blk (W1.setRow w.heap.size ((bv zs2).take 0 ++ bv (D.reads 0) ++ (bv zs2).drop (0 + (bv (D.reads 0)).length)).toArray) w.heap.size 108 (bv (D.reads 0 ++ zs2.drop 512)).toArray from by rw [lay0 _ L0.out]; exact B1.out.setRow _)
  have E1 := Lib.hid (show DiskAt (W1.setRow w.heap.size ((bv zs2).take 0 ++ bv (D.reads 0) ++ (bv zs2).drop (0 + (bv (D.reads 0)).length)).toArray) base p pl D.stepped from D1.out.fr (setRow_fr8 _ _ _) (fun k hk e => NH.out (e ▸ hk)))
  have G1 := Lib.hid (show Fr (pl.has p) w (W1.setRow w.heap.size ((bv zs2).take 0 ++ bv (D.reads 0) ++ (bv zs2).drop (0 + (bv (D.reads 0)).length)).toArray) from F1.out.then_ (setRow_fr8 _ _ _) (fun i hi e => by omega))
  obtain ⟨V1, hV1⟩ : ∃ V1, V1 = W1.setRow w.heap.size ((bv zs2).take 0 ++ bv (D.reads 0) ++ (bv zs2).drop (0 + (bv (D.reads 0)).length)).toArray := ⟨_, rfl⟩
  rw [← hV1] at C1 E1 G1
  go_wp2_with (refine wpList_store_mid8 (off := 0) (l := bv zs2) (ys := bv (D.reads 0)) rfl 56 (.tmp 26) (.tmp 24) rfl B1.out rfl rfl (by rw [q0, bv_length, zs2_length]; omega) (by rw [q0]; exact size47) (bv_one _) ?_; rw [← hV1]; clear hV1)
  rw [rounds_succ]
  go_wp2_with fail
  refine (read_goes E1.out HN.out 1 (show 1 < D.size by have := HZ2.out; omega) (show D.steps + 1 < 1000000 by have := HS.out; omega) HF1.out).mono ?_
  rintro r W2 ⟨rfl, hd2, hf2⟩
  have D2 := Lib.hid hd2
  have F2 := Lib.hid (G1.out.trans hf2)
  have B2 := Lib.hid (hf2.keepBlk C1.out NH.out)
  clear hd2 hf2 E1 G1 C1
  have e1 : D.stepped.reads 1 = D.reads 1 := rfl
  rw [e1]
  have C2 := Lib.hid (show Blk (W2.setRow w.heap.size ((bv (D.reads 0 ++ zs2.drop 512)).take 512 ++ bv (D.reads 1) ++ (bv (D.reads 0 ++ zs2.drop 512)).drop (512 + (bv (D.reads 1)).length)).toArray) w.heap.size 108 (bv (D.reads 0 ++ D.reads 1)).toArray from by rw [lay1 _ _ L0.out L1.out]; exact B2.out.setRow _)
  have E2 := Lib.hid (show DiskAt (W2.setRow w.heap.size ((bv (D.reads 0 ++ zs2.drop 512)).take 512 ++ bv (D.reads 1) ++ (bv (D.reads 0 ++ zs2.drop 512)).drop (512 + (bv (D.reads 1)).length)).toArray) base p pl D.stepped.stepped from D2.out.fr (setRow_fr8 _ _ _) (fun k hk e => NH.out (e ▸ hk)))
  have G2 := Lib.hid (show Fr (pl.has p) w (W2.setRow w.heap.size ((bv (D.reads 0 ++ zs2.drop 512)).take 512 ++ bv (D.reads 1) ++ (bv (D.reads 0 ++ zs2.drop 512)).drop (512 + (bv (D.reads 1)).length)).toArray) from F2.out.then_ (setRow_fr8 _ _ _) (fun i hi e => by omega))
  obtain ⟨V2, hV2⟩ : ∃ V2, V2 = W2.setRow w.heap.size ((bv (D.reads 0 ++ zs2.drop 512)).take 512 ++ bv (D.reads 1) ++ (bv (D.reads 0 ++ zs2.drop 512)).drop (512 + (bv (D.reads 1)).length)).toArray := ⟨_, rfl⟩
  rw [← hV2] at C2 E2 G2
  go_wp2_with (refine wpList_store_mid8 (off := 512) (l := bv (D.reads 0 ++ zs2.drop 512)) (ys := bv (D.reads 1)) rfl 56 (.tmp 26) (.tmp 24) rfl B2.out rfl rfl (by rw [q1, bv_length, List.length_append, List.length_drop, zs2_length, L0.out]; omega) (by rw [q1]; exact size47) (bv_one _) ?_; rw [← hV2]; clear hV2)
  rw [rounds_succ]
  have hl2 : (D.reads 0 ++ D.reads 1).length = 1024 := by rw [List.length_append, L0.out, L1.out]
  have hb2 : (bv (D.reads 0 ++ D.reads 1)).length = 1024 := by rw [bv_length, hl2]
  go_wp2_with (first
    | (refine wpList_load_mid rfl 108 (.tmp 2) rfl w.heap.size 0 rfl (bv (D.reads 0 ++ D.reads 1)) _ C2.out.rangeAt Try.underlying108 rfl (by rw [hb2]; exact size112) ?_)
    | (refine wpList_store_row rfl 108 (.tmp 2) (.tmp 30) rfl w.heap.size (bv (D.reads 0 ++ D.reads 1)).toArray rfl rfl 108 _ C2.out (by rw [List.size_toArray, hb2]; exact size112) rfl (bv_ones8 _) ?_))
  refine bodyPost_ret (results_cell2 rfl _ _ w.heap.size _ hl2 rfl (C2.out.setRow _)) rfl ⟨rfl, E2.out.fr (setRow_fr8 _ _ _) (fun k hk e => NH.out (e ▸ hk)), G2.out.then_ (setRow_fr8 _ _ _) (fun i hi e => by omega)⟩
end Go.Proofs.Ytjfcmoappbfnjaa

namespace Go.Proofs.Ytjfcmoappbfnjaa
open List renaming getElem_toArray → zq1, getElem_cons_succ → zq2, getElem_cons_zero → zq3, setIfInBounds_toArray → zq4, set_cons_zero → zq5, set_cons_succ → zq6
set_option maxRecDepth 8000 in
theorem hd_cut0 (e a o : Nat) : (hdL e a o).take 4 = [67, 72, 72, 68] := by
  unfold hdL
  rw [List.append_assoc, List.append_assoc, List.append_assoc, List.append_assoc]
  exact List.take_left' rfl
set_option maxRecDepth 8000 in
theorem hd_cut4 (e a o : Nat) : ((hdL e a o).drop 4).take 8 = S.bytesLE 8 e := by
  unfold hdL
  rw [List.append_assoc, List.append_assoc, List.append_assoc, List.append_assoc, List.drop_left' (show ([67, 72, 72, 68] : List UInt8).length = 4 from rfl)]
  exact List.take_left' (S.bytesLE_length _ _)
set_option maxRecDepth 8000 in
theorem hd_cut12 (e a o : Nat) : ((hdL e a o).drop 12).take 2 = S.bytesLE 2 a := by
  unfold hdL
  rw [List.append_assoc, List.append_assoc, List.append_assoc, List.drop_left' (show ([67, 72, 72, 68] ++ S.bytesLE 8 e).length = 12 by simp [S.bytesLE_length])]
  exact List.take_left' (S.bytesLE_length _ _)
set_option maxRecDepth 8000 in
theorem hd_cut14 (e a o : Nat) : ((hdL e a o).drop 14).take 2 = S.bytesLE 2 o := by
  unfold hdL
  rw [List.append_assoc, List.append_assoc, List.drop_left' (show ([67, 72, 72, 68] ++ S.bytesLE 8 e ++ S.bytesLE 2 a).length = 14 by simp [S.bytesLE_length])]
  exact List.take_left' (S.bytesLE_length _ _)
set_option maxRecDepth 8000 in
theorem hd_cut16 (e a o : Nat) : ((hdL e a o).drop 16).take 484 = List.replicate 484 0 := by
  unfold hdL
  rw [List.append_assoc, List.drop_left' (show ([67, 72, 72, 68] ++ S.bytesLE 8 e ++ S.bytesLE 2 a ++ S.bytesLE 2 o).length = 16 by simp [S.bytesLE_length])]
  exact List.take_left' List.length_replicate
set_option maxRecDepth 8000 in
theorem hd_cut500 (e a o : Nat) : ((hdL e a o).drop 500).take 8 = S.bytesLE 8 e := by
  unfold hdL
  rw [List.drop_left' (show ([67, 72, 72, 68] ++ S.bytesLE 8 e ++ S.bytesLE 2 a ++ S.bytesLE 2 o ++ List.replicate 484 0).length = 500 by simp [S.bytesLE_length])]
  exact List.take_of_length_le (by rw [S.bytesLE_length]; exact Nat.le_refl _)
end Go.Proofs.Ytjfcmoappbfnjaa

namespace Go.Proofs.Ytjfcmoappbfnjaa
open List renaming getElem_toArray → zq1, getElem_cons_succ → zq2, getElem_cons_zero → zq3, setIfInBounds_toArray → zq4, set_cons_zero → zq5, set_cons_succ → zq6
open Go.RowKit
attribute [local go_sem] Oper.semAt_some
def Hd.no (h : Hd) : Int := if 0 ≤ h.e ∧ 0 ≤ h.a ∧ h.a < 2 ∧ 1 ≤ h.o ∧ h.o ≤ 64 then 0 else 2
set_option maxRecDepth 100000 in
set_option maxHeartbeats 2000000 in
theorem check_any (h : Hd) (w : World) : Calls Try.prog 23 #[h.val] w fun r w' => r = .returned (.int .i64 h.no) ∧ Below w.heap.size w w' := by
  have HB := Lib.hid ((Below.refl w.heap.size w).alloc (Nat.le_refl _) (.cells h.cs.toArray 28))
  by_cases h1 : h.e < 0 ∨ h.a < 0 ∨ 2 ≤ h.a
  · have hn : h.no = 2 := by unfold Hd.no; rw [if_neg (by omega)]
    rw [hn]
    clear hn
    have hd : (decide (h.e < 0) = true) ∨ (decide (h.e < 0) = false ∧ decide (h.a < 0) = true) ∨ (decide (h.e < 0) = false ∧ decide (h.a < 0) = false ∧ decide (2 ≤ h.a) = true) := by
      simp only [decide_eq_true_eq, decide_eq_false_iff_not]
      omega
    clear h1
    rcases hd with d1 | ⟨d1, d2⟩ | ⟨d1, d2, d3⟩
    all_goals
      go_enter Try.func23, Try.ntmps23
      go_wp2
      go_ret
      exact ⟨rfl, HB.out⟩
  · have d1 : decide (h.e < 0) = false := decide_eq_false (by omega)
    have d2 : decide (h.a < 0) = false := decide_eq_false (by omega)
    have d3 : decide (2 ≤ h.a) = false := decide_eq_false (by omega)
    have HN := Lib.hid (show (if 1 ≤ h.o ∧ h.o ≤ 64 then (0 : Int) else 2) = h.no by
      unfold Hd.no
      by_cases ho : 1 ≤ h.o ∧ h.o ≤ 64
      · rw [if_pos ho, if_pos (by omega)]
      · rw [if_neg ho, if_neg (by omega)])
    clear h1
    go_enter Try.func23, Try.ntmps23
    go_wp2_with (go_at_call 52; refine (V.size_any h.o _).mono ?_; rw [HN.out]; generalize (if 1 ≤ h.o ∧ h.o ≤ 64 then 20 + 3 * h.o else (0 : Int)) = sz; rintro r w1 ⟨rfl, hb⟩; have B1 := Lib.hid (HB.out.trans (hb.mono HB.out.size)); clear hb)
    go_ret
    exact ⟨rfl, B1.out⟩
set_option maxRecDepth 100000 in
set_option maxHeartbeats 2000000 in
theorem fits_any (h : Hd) (ho : 1 ≤ h.o ∧ h.o ≤ 64) (n : Int) (w : World) : Calls Try.prog 36 #[h.val, .int .i64 n] w fun r w' => r = .returned (.bool (20 + 3 * h.o == n)) ∧ Below w.heap.size w w' := by
  have HB := Lib.hid ((Below.refl w.heap.size w).alloc (Nat.le_refl _) (.cells h.cs.toArray 28))
  have HO := Lib.hid ho
  clear ho
  go_enter Try.func36, Try.ntmps36
  go_wp2_with (go_at_call 52; refine (V.size_any h.o _).mono ?_; rw [if_pos HO.out, if_pos HO.out]; rintro r w1 ⟨rfl, hb⟩; have B1 := Lib.hid (HB.out.trans (hb.mono HB.out.size)); clear hb)
  go_ret
  exact ⟨rfl, B1.out⟩
end Go.Proofs.Ytjfcmoappbfnjaa

namespace Go.Proofs.Ytjfcmoappbfnjaa
open List renaming getElem_toArray → zq1, getElem_cons_succ → zq2, getElem_cons_zero → zq3, setIfInBounds_toArray → zq4, set_cons_zero → zq5, set_cons_succ → zq6
open Go.RowKit
attribute [local go_sem] Oper.semAt_some
set_option maxRecDepth 8000 in
theorem results_hd {fn : Func} {p q : Tmp} (h : fn.results = #[.cell p 28, .tmp q]) (tmps : Array Value) (w : World) (g : Nat) (u : Hd) (hp : tmps.getD p undef = .pointer (some ⟨g, 0, none⟩)) (hg : Blk w g 28 u.cs.toArray) : (results fn tmps).run Try.prog w = .ok (.tuple #[u.val, tmps.getD q undef]) w := by
  have hp' : tmps[p]?.getD undef = .pointer (some ⟨g, 0, none⟩) := by simpa using hp
  have hl := run_loadVar_row (P := Try.prog) w g 28 28 u.cs.toArray (0, 0) _ hg Try.underlying28 rfl (by kernel_rfl)
  simp [results, h, hp', asAddr, hl]
set_option maxRecDepth 8000 in
theorem get_num (N k : Nat) (g : Int) (hg : S.greatestN k = some g) (h1 : (N : Int) ≤ g) (A : Option Addr) (c : Nat) (w : World) (hr : Rd w A (S.bytesLE k N)) :
    Calls Try.prog 87 #[.slice A k c] w fun r w' => r = .returned (.tuple #[.int .i64 (N : Int), .int .i64 0]) ∧ Below w.heap.size w w' := by
  have hN : N < 256 ^ k := by
    obtain ⟨k', hk, _, hl, _⟩ := S.greatestN_some hg
    have : k' = k := by omega
    subst this
    have h2 : (N : Int) < 256 ^ k' := by omega
    exact_mod_cast h2
  refine (S.get_some A k c (S.bytesLE k N) g w (S.bytesLE_length _ _) hr hg).mono ?_
  rw [S.numLE_bytesLE k N hN, if_pos h1]
  exact fun _ _ h => h
set_option maxRecDepth 8000 in
theorem one23 (u : Hd) : (u.cs.toArray).all (fun x => x.oneCell') = true := by simp [Value.oneCell']
set_option maxRecDepth 100000 in
set_option maxHeartbeats 4000000 in
theorem said_yes {w : World} (g c e a o : Nat) (hc : 508 ≤ c) (hr : Rd w (some ⟨g, 0, none⟩) (hdL e a o)) (he : (e : Int) ≤ 9223372036854775807) (ha : (a : Int) ≤ 65535) (ho : (o : Int) ≤ 65535) (hok : Hd.no ⟨e, a, o⟩ = 0) :
    Calls Try.prog 68 #[.slice (some ⟨g, 0, none⟩) 508 c] w fun r w' => r = .returned (.tuple #[Hd.val ⟨e, a, o⟩, .int .i64 0]) ∧ Below w.heap.size w w' := by
  have hz := z23
  have HE := Lib.hid he
  have HA := Lib.hid ha
  have HO := Lib.hid ho
  have HK := Lib.hid hok
  have R0 := Lib.hid (hr.alloc (.cells (Hd.cs ⟨0, 0, 0⟩).toArray 28))
  have B0 := Lib.hid (Blk.new w 28 (Hd.cs ⟨0, 0, 0⟩).toArray)
  have L0 := Lib.hid ((Below.refl w.heap.size w).alloc (Nat.le_refl _) (.cells (Hd.cs ⟨0, 0, 0⟩).toArray 28))
  have c4 : 4 ≤ c := by omega
  have c12 : 12 ≤ c := by omega
  have c14 : 14 ≤ c := by omega
  have c16 : 16 ≤ c := by omega
  have e1 : (c = 4) = False := eq_false (by omega)
  clear hr he ha ho hok
  go_enter Try.func68, Try.ntmps68
  go_wp2_with fail
  refine (get_num e 8 9223372036854775807 rfl HE.out (some ⟨g, 4, none⟩) (c - 4) _ (by have := (R0.out.drop 4).take 8; rw [hd_cut4, Nat.zero_add] at this; exact this)).mono ?_
  rintro r W1 ⟨rfl, hb⟩
  have R1 := Lib.hid (R0.out.below hb)
  have B1 := Lib.hid (B0.out.below hb B0.out.lt)
  have L1 := Lib.hid (L0.out.trans (hb.mono L0.out.size))
  clear hb R0 B0 L0
  go_wp2_with fail
  refine (get_num a 2 65535 rfl HA.out (some ⟨g, 12, none⟩) (c - 12) _ (by have := (R1.out.drop 12).take 2; rw [hd_cut12, Nat.zero_add] at this; exact this)).mono ?_
  rintro r W2 ⟨rfl, hb⟩
  have R2 := Lib.hid (R1.out.below hb)
  have B2 := Lib.hid (B1.out.below hb B1.out.lt)
  have L2 := Lib.hid (L1.out.trans (hb.mono L1.out.size))
  clear hb R1 B1 L1
  go_wp2_with fail
  refine (get_num o 2 65535 rfl HO.out (some ⟨g, 14, none⟩) (c - 14) _ (by have := (R2.out.drop 14).take 2; rw [hd_cut14, Nat.zero_add] at this; exact this)).mono ?_
  rintro r W3 ⟨rfl, hb⟩
  have B3 := Lib.hid (B2.out.below hb B2.out.lt)
  have L3 := Lib.hid (L2.out.trans (hb.mono L2.out.size))
  clear hb R2 B2 L2
  have N4 := Lib.hid (blk_drew (Blk.new W3 28 (Hd.cs ⟨e, a, o⟩).toArray))
  have B4 := Lib.hid (blk_drew (B3.out.alloc (.cells (Hd.cs ⟨e, a, o⟩).toArray 28)))
  have L4 := Lib.hid ((L3.out.alloc L3.out.size (.cells (Hd.cs ⟨e, a, o⟩).toArray 28)).drew)
  have SZ := Lib.hid (show w.heap.size < W3.heap.size from B3.out.lt)
  clear B3 L3
  go_wp2_with fail
  refine wp_region_only (S := fun w' => Blk w' W3.heap.size 28 (Hd.cs ⟨e, a, o⟩).toArray) (by kernel_rfl) N4.out (fun hHeld => ?_)
  refine wpAnyH_take (i := 0) rfl (by kernel_rfl) (by kernel_rfl) (by kernel_rfl) (fun _ _ _ h => h) (yieldsIf_load_mid (by rfl) 28 (.tmp 10) (by rfl) W3.heap.size 0 (by rfl) (Hd.cs ⟨e, a, o⟩) _ (fun w' hSw => Blk.rangeAt (l := (Hd.cs ⟨e, a, o⟩)) hSw) Try.underlying28 rfl (size23 _)) hHeld ?_
  try simp only [Act.put, zq1, zq3, zq4, zq5, zq6]
  refine wpAnyH_take (i := 1) rfl (by kernel_rfl) (by kernel_rfl) (by kernel_rfl) (fun _ _ _ h => h) (yieldsIf_load_mid (by rfl) 28 (.tmp 10) (by rfl) W3.heap.size 0 (by rfl) (Hd.cs ⟨e, a, o⟩) _ (fun w' hSw => Blk.rangeAt (l := (Hd.cs ⟨e, a, o⟩)) hSw) Try.underlying28 rfl (size23 _)) hHeld ?_
  try simp only [Act.put, zq1, zq2, zq3, zq4, zq5, zq6]
  refine wpAnyH_ready (rs := [2]) (by kernel_rfl) (by simp) ?_
  refine AllReadyH.cons (by rfl) (fun K hK => ?_) AllReadyH.nil
  go_simp
  refine (check_any ⟨e, a, o⟩ _).mono ?_
  rw [HK.out]
  rintro r W5 ⟨rfl, hb⟩
  have N5 := Lib.hid (N4.out.below hb N4.out.lt)
  have B5 := Lib.hid (B4.out.below hb B4.out.lt)
  have L5 := Lib.hid (L4.out.trans (hb.mono L4.out.size))
  clear hb hHeld
  refine hK.out _ _ N5.out (fun hHeld => ?_)
  clear hK K
  try simp only [Act.put, zq1, zq2, zq3, zq4, zq5, zq6]
  refine wpAnyH_ready (rs := [3]) (by kernel_rfl) (by simp) ?_
  refine AllReadyH.cons (by rfl) (fun K hK => ?_) AllReadyH.nil
  refine step_store8 rfl 28 (.tmp 2) (.tmp 37) rfl (by rfl) (Hd.cs ⟨e, a, o⟩).toArray (Hd.cs ⟨0, 0, 0⟩).toArray 28 (by rfl) B5.out (by kernel_rfl) rfl (one23 _) ?_
  intro W6 j6 f6
  have B6 := Lib.hid j6
  have N6 := Lib.hid (f6.keepBlk N5.out (by have := SZ.out; omega))
  have L6 := Lib.hid (L5.out.trans (f6.to_below (fun k e => by omega) L5.out.size))
  clear hHeld j6 f6 N5 B5 L5
  refine hK.out _ _ N6.out (fun hHeld => ?_)
  clear hK K
  try simp only [Act.put, zq1, zq2, zq3]
  refine wpAnyH_take (i := 4) (v := ?v1) rfl (by kernel_rfl) (by kernel_rfl) (by kernel_rfl) (fun _ _ _ h => h) (Or.inl ⟨by rfl, ?hy1⟩) hHeld ?rest1
  case hy1 =>
    intro w' hSw
    try dsimp only at hSw
    go_simp
    first | done | with_reducible rfl
  try simp only [Act.put, zq1, zq2, zq3, zq4, zq5, zq6]
  refine wpAnyH_done (by kernel_rfl) ?_ _
  refine OnlyN.normal ?_
  clear hHeld
  go_wp2_with fail
  exact bodyPost_ret (results_hd rfl _ _ w.heap.size ⟨e, a, o⟩ rfl B6.out) rfl ⟨rfl, L6.out⟩
end Go.Proofs.Ytjfcmoappbfnjaa

namespace Go.Proofs.Ytjfcmoappbfnjaa
open List renaming getElem_toArray → zq1, getElem_cons_succ → zq2, getElem_cons_zero → zq3, setIfInBounds_toArray → zq4, set_cons_zero → zq5, set_cons_succ → zq6
open Go.RowKit
attribute [local go_sem] Oper.semAt_some
def cs2 (h0 h1 : Hd) : List Value := h0.cs ++ h1.cs
theorem cs2_fst {h0 h1 : Hd} {w : World} {b : Nat} (h : w.rangeAt b 0 (cs2 h0 h1)) : w.rangeAt b 0 h0.cs := fun j v hv => h j v (by unfold cs2; rw [List.getElem?_append_left (List.getElem?_eq_some_iff.1 hv).1]; exact hv)
set_option maxRecDepth 8000 in
theorem size52 (h0 h1 : Hd) : (Try.prog.info? 49).map (·.size) = some (cs2 h0 h1).length := by kernel_rfl
set_option maxRecDepth 8000 in
theorem index52_0 (h0 h1 : Hd) (w : World) : (Instr.index 49 (.agg (cs2 h0 h1).toArray) (.int .i64 0)).run Try.prog w = .ok h0.val w := by kernel_rfl
set_option maxRecDepth 8000 in
theorem index52_1 (h0 h1 : Hd) (w : World) : (Instr.index 49 (.agg (cs2 h0 h1).toArray) (.int .i64 1)).run Try.prog w = .ok h1.val w := by kernel_rfl
set_option maxRecDepth 100000 in
theorem rank_any (h : Hd) (w : World) : Calls Try.prog 46 #[h.val] w fun r w' => r = .returned (.int .i64 h.e) ∧ Below w.heap.size w w' := by
  have HB := Lib.hid ((Below.refl w.heap.size w).alloc (Nat.le_refl _) (.cells h.cs.toArray 28))
  go_enter Try.func46, Try.ntmps46
  go_wp2
  go_ret
  exact ⟨rfl, HB.out⟩
set_option maxRecDepth 100000 in
set_option maxHeartbeats 4000000 in
theorem fore_later (h0 h1 : Hd) (w : World) (hlt : decide (h0.e < h1.e) = true) : Calls Try.prog 45 #[.agg (cs2 h0 h1).toArray, .agg #[.bool true, .bool true], .func (.func 46) #[] #[]] w fun r w' => r = .returned (.tuple #[.int .i64 1, .bool true]) ∧ Below w.heap.size w w' := by
  have hi0 := index52_0 h0 h1
  have hi1 := index52_1 h0 h1
  have K0 := Lib.hid ((Blk.new w 49 (cs2 h0 h1).toArray).alloc (.cells #[.bool true, .bool true] 50))
  have T0 := Lib.hid (blk_new1 w (.cells (cs2 h0 h1).toArray 49) 50 #[.bool true, .bool true])
  have L0 := Lib.hid (((Below.refl w.heap.size w).alloc (Nat.le_refl _) (.cells (cs2 h0 h1).toArray 49)).alloc (by simp) (.cells #[.bool true, .bool true] 50))
  go_enter Try.func45, Try.ntmps45
  go_wp2_with (refine wpList_load_mid rfl 49 (.tmp 3) rfl w.heap.size 0 rfl (cs2 h0 h1) _ (Blk.rangeAt (l := cs2 h0 h1) K0.out) Try.underlying49 rfl (size52 _ _) ?_)
  generalize (w.alloc (.cells (cs2 h0 h1).toArray 49)).alloc (.cells #[.bool true, .bool true] 50) = W at K0 T0 L0 ⊢
  refine wp_loop_rounds 3 ?_
  rw [rounds_succ]
  replace K0 := Lib.hid (K0.out.alloc (.cells h0.cs.toArray 28))
  replace T0 := Lib.hid (T0.out.alloc (.cells h0.cs.toArray 28))
  replace L0 := Lib.hid (L0.out.alloc L0.out.size (.cells h0.cs.toArray 28))
  go_wp2_with fail
  generalize W.alloc (.cells h0.cs.toArray 28) = W1 at K0 T0 L0 ⊢
  refine wp_region_only (S := fun w' => w'.cell? ⟨w.heap.size + 1, 0, none⟩ = some (.bool true)) (by kernel_rfl) ((T0.out.cell 0).trans rfl) (fun hHeld => ?_)
  refine wpAnyH_take (i := 0) (v := ?v1) rfl (by kernel_rfl) (by kernel_rfl) (by kernel_rfl) (fun _ _ _ h => h) (Or.inl ⟨by rfl, ?hy1⟩) hHeld ?rest1
  case hy1 =>
    intro w' hSw
    try dsimp only at hSw
    go_simp
    first | done | with_reducible rfl
  try simp only [Act.put, zq1, zq3, zq4, zq5, zq6]
  refine wpAnyH_take (i := 1) (v := ?v2) rfl (by kernel_rfl) (by kernel_rfl) (by kernel_rfl) (fun _ _ _ h => h) (Or.inl ⟨by rfl, ?hy2⟩) hHeld ?rest2
  case hy2 =>
    intro w' hSw
    try dsimp only at hSw
    go_simp
    first | done | with_reducible rfl
  try simp only [Act.put, zq1, zq2, zq3, zq4, zq5, zq6]
  refine wpAnyH_take (i := 2) (v := ?v3) rfl (by kernel_rfl) (by kernel_rfl) (by kernel_rfl) (fun _ _ _ h => h) (Or.inl ⟨by rfl, ?hy3⟩) hHeld ?rest3
  case hy3 =>
    intro w' hSw
    try dsimp only at hSw
    go_simp
    first | done | with_reducible rfl
  try simp only [Act.put, zq1, zq2, zq3, zq4, zq5, zq6]
  refine wpAnyH_take (i := 3) (v := ?v4) rfl (by kernel_rfl) (by kernel_rfl) (by kernel_rfl) (fun _ _ _ h => h) (Or.inl ⟨by rfl, ?hy4⟩) hHeld ?rest4
  case hy4 =>
    intro w' hSw
    try dsimp only at hSw
    go_simp
    first | done | with_reducible rfl
  try simp only [Act.put, zq1, zq2, zq3, zq4, zq5, zq6]
  refine wpAnyH_take (i := 4) (v := ?v5) rfl (by kernel_rfl) (by kernel_rfl) (by kernel_rfl) (fun _ _ _ h => h) (Or.inl ⟨by rfl, ?hy5⟩) hHeld ?rest5
  case hy5 =>
    intro w' hSw
    try dsimp only at hSw
    go_simp
    first | done | with_reducible rfl
  try simp only [Act.put, zq1, zq2, zq3, zq4, zq5, zq6]
  refine wpAnyH_take (i := 5) (v := ?v6) rfl (by kernel_rfl) (by kernel_rfl) (by kernel_rfl) (fun _ _ _ h => h) (Or.inl ⟨by rfl, ?hy6⟩) hHeld ?rest6
  case hy6 =>
    intro w' hSw
    try dsimp only at hSw
    go_simp
    first | done | with_reducible rfl
  try simp only [Act.put, zq1, zq2, zq3, zq4, zq5, zq6]
  refine wpAnyH_take (i := 6) (v := ?v7) rfl (by kernel_rfl) (by kernel_rfl) (by kernel_rfl) (fun _ _ _ h => h) (Or.inl ⟨by rfl, ?hy7⟩) hHeld ?rest7
  case hy7 =>
    intro w' hSw
    try dsimp only at hSw
    go_simp
    first | done | with_reducible rfl
  try simp only [Act.put, zq1, zq2, zq3, zq4, zq5, zq6]
  refine wpAnyH_take (i := 7) (v := undef) rfl (by kernel_rfl) (by kernel_rfl) (by kernel_rfl) (fun _ _ _ h => h) (Or.inr ⟨by rfl, rfl⟩) hHeld ?_
  try simp only [Act.put, zq1, zq2, zq3, zq4, zq5, zq6]
  refine wpAnyH_take (i := 8) (v := undef) rfl (by kernel_rfl) (by kernel_rfl) (by kernel_rfl) (fun _ _ _ h => h) (Or.inr ⟨by rfl, rfl⟩) hHeld ?_
  try simp only [Act.put, zq1, zq2, zq3, zq4, zq5, zq6]
  refine wpAnyH_take (i := 9) (v := undef) rfl (by kernel_rfl) (by kernel_rfl) (by kernel_rfl) (fun _ _ _ h => h) (Or.inr ⟨by rfl, rfl⟩) hHeld ?_
  try simp only [Act.put, zq1, zq2, zq3, zq4, zq5, zq6]
  refine wpAnyH_take (i := 10) (v := undef) rfl (by kernel_rfl) (by kernel_rfl) (by kernel_rfl) (fun _ _ _ h => h) (Or.inr ⟨by rfl, rfl⟩) hHeld ?_
  try simp only [Act.put, zq1, zq2, zq3, zq4, zq5, zq6]
  refine wpAnyH_take (i := 11) (v := undef) rfl (by kernel_rfl) (by kernel_rfl) (by kernel_rfl) (fun _ _ _ h => h) (Or.inr ⟨by rfl, rfl⟩) hHeld ?_
  try simp only [Act.put, zq1, zq2, zq3, zq4, zq5, zq6]
  refine wpAnyH_take (i := 12) (v := undef) rfl (by kernel_rfl) (by kernel_rfl) (by kernel_rfl) (fun _ _ _ h => h) (Or.inr ⟨by rfl, rfl⟩) hHeld ?_
  try simp only [Act.put, zq1, zq2, zq3, zq4, zq5, zq6]
  refine wpAnyH_take (i := 13) (v := undef) rfl (by kernel_rfl) (by kernel_rfl) (by kernel_rfl) (fun _ _ _ h => h) (Or.inr ⟨by rfl, rfl⟩) hHeld ?_
  try simp only [Act.put, zq1, zq2, zq3, zq4, zq5, zq6]
  refine wpAnyH_take (i := 14) (v := undef) rfl (by kernel_rfl) (by kernel_rfl) (by kernel_rfl) (fun _ _ _ h => h) (Or.inr ⟨by rfl, rfl⟩) hHeld ?_
  try simp only [Act.put, zq1, zq2, zq3, zq4, zq5, zq6]
  refine wpAnyH_take (i := 15) (v := undef) rfl (by kernel_rfl) (by kernel_rfl) (by kernel_rfl) (fun _ _ _ h => h) (Or.inr ⟨by rfl, rfl⟩) hHeld ?_
  try simp only [Act.put, zq1, zq2, zq3, zq4, zq5, zq6]
  refine wpAnyH_take (i := 16) (v := ?v8) rfl (by kernel_rfl) (by kernel_rfl) (by kernel_rfl) (fun _ _ _ h => h) (Or.inl ⟨by rfl, ?hy8⟩) hHeld ?rest8
  case hy8 =>
    intro w' hSw
    try dsimp only at hSw
    go_simp
    first | done | with_reducible rfl
  try simp only [Act.put, zq1, zq2, zq3, zq4, zq5, zq6]
  refine wpAnyH_take (i := 17) (v := ?v9) rfl (by kernel_rfl) (by kernel_rfl) (by kernel_rfl) (fun _ _ _ h => h) (Or.inl ⟨by rfl, ?hy9⟩) hHeld ?rest9
  case hy9 =>
    intro w' hSw
    try dsimp only at hSw
    go_simp
    first | done | with_reducible rfl
  try simp only [Act.put, zq1, zq2, zq3, zq4, zq5, zq6]
  refine wpAnyH_done (by kernel_rfl) ?_ _
  refine OnlyN.normal ?_
  clear hHeld
  go_wp2_with fail
  rw [rounds_succ]
  have K1 := Lib.hid (blk_drew (K0.out.alloc (.cells h1.cs.toArray 28)))
  have T1 := Lib.hid (blk_drew (T0.out.alloc (.cells h1.cs.toArray 28)))
  have L1 := Lib.hid ((L0.out.alloc L0.out.size (.cells h1.cs.toArray 28)).drew)
  have N1 := Lib.hid (blk_drew (Blk.new W1 28 h1.cs.toArray))
  go_wp2_with fail
  replace K1 := Lib.hid (blk_drew K1.out)
  replace T1 := Lib.hid (blk_drew T1.out)
  replace L1 := Lib.hid L1.out.drew
  replace N1 := Lib.hid (blk_drew N1.out)
  refine wp_region_only (S := fun w' => w'.cell? ⟨w.heap.size + 1, 1, none⟩ = some (.bool true) ∧ Blk w' W1.heap.size 28 h1.cs.toArray ∧ Blk w' w.heap.size 49 (cs2 h0 h1).toArray) (by kernel_rfl) ⟨(T1.out.cell 1).trans rfl, N1.out, K1.out⟩ (fun hHeld => ?_)
  refine wpAnyH_take (i := 0) (v := ?v10) rfl (by kernel_rfl) (by kernel_rfl) (by kernel_rfl) (fun _ _ _ h => h) (Or.inl ⟨by rfl, ?hy10⟩) hHeld ?rest10
  case hy10 =>
    intro w' hSw
    try dsimp only at hSw
    go_simp
    first | done | with_reducible rfl
  try simp only [Act.put, zq1, zq3, zq4, zq5, zq6]
  refine wpAnyH_take (i := 1) (v := ?v11) rfl (by kernel_rfl) (by kernel_rfl) (by kernel_rfl) (fun _ _ _ h => h) (Or.inl ⟨by rfl, ?hy11⟩) hHeld ?rest11
  case hy11 =>
    intro w' hSw
    try dsimp only at hSw
    go_simp
    first | done | with_reducible rfl
  try simp only [Act.put, zq1, zq2, zq3, zq4, zq5, zq6]
  refine wpAnyH_take (i := 2) (v := ?v12) rfl (by kernel_rfl) (by kernel_rfl) (by kernel_rfl) (fun _ _ _ h => h) (Or.inl ⟨by rfl, ?hy12⟩) hHeld ?rest12
  case hy12 =>
    intro w' hSw
    try dsimp only at hSw
    go_simp
    first | done | with_reducible rfl
  try simp only [Act.put, zq1, zq2, zq3, zq4, zq5, zq6]
  refine wpAnyH_take (i := 3) (v := ?v13) rfl (by kernel_rfl) (by kernel_rfl) (by kernel_rfl) (fun _ _ _ h => h) (Or.inl ⟨by rfl, ?hy13⟩) hHeld ?rest13
  case hy13 =>
    intro w' hSw
    try dsimp only at hSw
    go_simp
    first | done | with_reducible rfl
  try simp only [Act.put, zq1, zq2, zq3, zq4, zq5, zq6]
  refine wpAnyH_take (i := 4) (v := ?v14) rfl (by kernel_rfl) (by kernel_rfl) (by kernel_rfl) (fun _ _ _ h => h) (Or.inl ⟨by rfl, ?hy14⟩) hHeld ?rest14
  case hy14 =>
    intro w' hSw
    try dsimp only at hSw
    go_simp
    first | done | with_reducible rfl
  try simp only [Act.put, zq1, zq2, zq3, zq4, zq5, zq6]
  refine wpAnyH_take (i := 5) (v := ?v15) rfl (by kernel_rfl) (by kernel_rfl) (by kernel_rfl) (fun _ _ _ h => h) (Or.inl ⟨by rfl, ?hy15⟩) hHeld ?rest15
  case hy15 =>
    intro w' hSw
    try dsimp only at hSw
    go_simp
    first | done | with_reducible rfl
  try simp only [Act.put, zq1, zq2, zq3, zq4, zq5, zq6]
  refine wpAnyH_take (i := 6) (v := ?v16) rfl (by kernel_rfl) (by kernel_rfl) (by kernel_rfl) (fun _ _ _ h => h) (Or.inl ⟨by rfl, ?hy16⟩) hHeld ?rest16
  case hy16 =>
    intro w' hSw
    try dsimp only at hSw
    go_simp
    first | done | with_reducible rfl
  try simp only [Act.put, zq1, zq2, zq3, zq4, zq5, zq6]
  refine wpAnyH_take (i := 7) (v := ?v17) rfl (by kernel_rfl) (by kernel_rfl) (by kernel_rfl) (fun _ _ _ h => h) (Or.inl ⟨by rfl, ?hy17⟩) hHeld ?rest17
  case hy17 =>
    intro w' hSw
    try dsimp only at hSw
    go_simp
    first | done | with_reducible rfl
  try simp only [Act.put, zq1, zq2, zq3, zq4, zq5, zq6]
  refine wpAnyH_take (i := 8) rfl (by kernel_rfl) (by kernel_rfl) (by kernel_rfl) (fun _ _ _ h => h) (yieldsIf_load_mid (by rfl) 28 (.tmp 9) (by rfl) W1.heap.size 0 (by rfl) h1.cs _ (fun w' hSw => Blk.rangeAt (l := h1.cs) hSw.2.1) Try.underlying28 rfl (size23 _)) hHeld ?_
  try simp only [Act.put, zq1, zq2, zq3, zq4, zq5, zq6]
  refine wpAnyH_take (i := 10) (v := ?v18) rfl (by kernel_rfl) (by kernel_rfl) (by kernel_rfl) (fun _ _ _ h => h) (Or.inl ⟨by rfl, ?hy18⟩) hHeld ?rest18
  case hy18 =>
    intro w' hSw
    try dsimp only at hSw
    go_simp
    first | done | with_reducible rfl
  try simp only [Act.put, zq1, zq2, zq3, zq4, zq5, zq6]
  refine wpAnyH_take (i := 11) (v := ?v19) rfl (by kernel_rfl) (by kernel_rfl) (by kernel_rfl) (fun _ _ _ h => h) (Or.inl ⟨by rfl, ?hy19⟩) hHeld ?rest19
  case hy19 =>
    intro w' hSw
    try dsimp only at hSw
    go_simp
    first | done | with_reducible rfl
  try simp only [Act.put, zq1, zq2, zq3, zq4, zq5, zq6]
  refine wpAnyH_take (i := 12) (v := ?v20) rfl (by kernel_rfl) (by kernel_rfl) (by kernel_rfl) (fun _ _ _ h => h) (Or.inl ⟨by rfl, ?hy20⟩) hHeld ?rest20
  case hy20 =>
    intro w' hSw
    try dsimp only at hSw
    go_simp
    first | done | with_reducible rfl
  try simp only [Act.put, zq1, zq2, zq3, zq4, zq5, zq6]
  refine wpAnyH_take (i := 13) rfl (by kernel_rfl) (by kernel_rfl) (by kernel_rfl) (fun _ _ _ h => h) (yieldsIf_load_mid (by rfl) 28 (.tmp 27) (by rfl) w.heap.size 0 (by rfl) h0.cs _ (fun w' hSw => cs2_fst (Blk.rangeAt (l := cs2 h0 h1) hSw.2.2)) Try.underlying28 rfl (size23 _)) hHeld ?_
  try simp only [Act.put, zq1, zq2, zq3, zq4, zq5, zq6]
  refine wpAnyH_ready (rs := [9]) (by kernel_rfl) (by simp) ?_
  refine AllReadyH.cons (by rfl) (fun K hK => ?_) AllReadyH.nil
  go_simp
  refine (rank_any h1 _).mono ?_
  rintro r V2 ⟨rfl, hb⟩
  have T2 := Lib.hid (T1.out.below hb T1.out.lt)
  have N2 := Lib.hid (N1.out.below hb N1.out.lt)
  have K2 := Lib.hid (K1.out.below hb K1.out.lt)
  have L2 := Lib.hid (L1.out.trans (hb.mono L1.out.size))
  clear hb hHeld
  refine hK.out _ _ ⟨(T2.out.cell 1).trans rfl, N2.out, K2.out⟩ (fun hHeld => ?_)
  clear hK K
  try simp only [Act.put, zq1, zq2, zq3, zq4, zq5, zq6]
  refine wpAnyH_ready (rs := [14]) (by kernel_rfl) (by simp) ?_
  refine AllReadyH.cons (by rfl) (fun K hK => ?_) AllReadyH.nil
  go_simp
  refine (rank_any h0 _).mono ?_
  rintro r V3 ⟨rfl, hb⟩
  have T3 := Lib.hid (T2.out.below hb T2.out.lt)
  have N3 := Lib.hid (N2.out.below hb N2.out.lt)
  have K3 := Lib.hid (K2.out.below hb K2.out.lt)
  have L3 := Lib.hid (L2.out.trans (hb.mono L2.out.size))
  clear hb hHeld
  refine hK.out _ _ ⟨(T3.out.cell 1).trans rfl, N3.out, K3.out⟩ (fun hHeld => ?_)
  clear hK K
  try simp only [Act.put, zq1, zq2, zq3, zq4, zq5, zq6]
  refine wpAnyH_take (i := 15) (v := ?v21) rfl (by kernel_rfl) (by kernel_rfl) (by kernel_rfl) (fun _ _ _ h => h) (Or.inl ⟨by rfl, ?hy21⟩) hHeld ?rest21
  case hy21 =>
    intro w' hSw
    try dsimp only at hSw
    go_simp
    first | done | with_reducible rfl
  try simp only [Act.put, zq1, zq2, zq3, zq4, zq5, zq6]
  refine wpAnyH_take (i := 16) (v := ?v22) rfl (by kernel_rfl) (by kernel_rfl) (by kernel_rfl) (fun _ _ _ h => h) (Or.inl ⟨by rfl, ?hy22⟩) hHeld ?rest22
  case hy22 =>
    intro w' hSw
    try dsimp only at hSw
    go_simp
    first | done | with_reducible rfl
  try simp only [Act.put, zq1, zq2, zq3, zq4, zq5, zq6]
  refine wpAnyH_take (i := 17) (v := ?v23) rfl (by kernel_rfl) (by kernel_rfl) (by kernel_rfl) (fun _ _ _ h => h) (Or.inl ⟨by rfl, ?hy23⟩) hHeld ?rest23
  case hy23 =>
    intro w' hSw
    try dsimp only at hSw
    go_simp
    first | done | with_reducible rfl
  try simp only [Act.put, zq1, zq2, zq3, zq4, zq5, zq6]
  refine wpAnyH_done (by kernel_rfl) ?_ _
  refine OnlyN.normal ?_
  clear hHeld
  go_wp2_with fail
  rw [rounds_succ]
  go_wp2_with fail
  go_ret2
  exact ⟨rfl, L3.out⟩
set_option maxRecDepth 100000 in
set_option maxHeartbeats 4000000 in
theorem fore_first (h0 h1 : Hd) (w : World) (hlt : decide (h0.e < h1.e) = false) : Calls Try.prog 45 #[.agg (cs2 h0 h1).toArray, .agg #[.bool true, .bool true], .func (.func 46) #[] #[]] w fun r w' => r = .returned (.tuple #[.int .i64 0, .bool true]) ∧ Below w.heap.size w w' := by
  have hi0 := index52_0 h0 h1
  have hi1 := index52_1 h0 h1
  have K0 := Lib.hid ((Blk.new w 49 (cs2 h0 h1).toArray).alloc (.cells #[.bool true, .bool true] 50))
  have T0 := Lib.hid (blk_new1 w (.cells (cs2 h0 h1).toArray 49) 50 #[.bool true, .bool true])
  have L0 := Lib.hid (((Below.refl w.heap.size w).alloc (Nat.le_refl _) (.cells (cs2 h0 h1).toArray 49)).alloc (by simp) (.cells #[.bool true, .bool true] 50))
  go_enter Try.func45, Try.ntmps45
  go_wp2_with (refine wpList_load_mid rfl 49 (.tmp 3) rfl w.heap.size 0 rfl (cs2 h0 h1) _ (Blk.rangeAt (l := cs2 h0 h1) K0.out) Try.underlying49 rfl (size52 _ _) ?_)
  generalize (w.alloc (.cells (cs2 h0 h1).toArray 49)).alloc (.cells #[.bool true, .bool true] 50) = W at K0 T0 L0 ⊢
  refine wp_loop_rounds 3 ?_
  rw [rounds_succ]
  replace K0 := Lib.hid (K0.out.alloc (.cells h0.cs.toArray 28))
  replace T0 := Lib.hid (T0.out.alloc (.cells h0.cs.toArray 28))
  replace L0 := Lib.hid (L0.out.alloc L0.out.size (.cells h0.cs.toArray 28))
  go_wp2_with fail
  generalize W.alloc (.cells h0.cs.toArray 28) = W1 at K0 T0 L0 ⊢
  refine wp_region_only (S := fun w' => w'.cell? ⟨w.heap.size + 1, 0, none⟩ = some (.bool true)) (by kernel_rfl) ((T0.out.cell 0).trans rfl) (fun hHeld => ?_)
  refine wpAnyH_take (i := 0) (v := ?v1) rfl (by kernel_rfl) (by kernel_rfl) (by kernel_rfl) (fun _ _ _ h => h) (Or.inl ⟨by rfl, ?hy1⟩) hHeld ?rest1
  case hy1 =>
    intro w' hSw
    try dsimp only at hSw
    go_simp
    first | done | with_reducible rfl
  try simp only [Act.put, zq1, zq3, zq4, zq5, zq6]
  refine wpAnyH_take (i := 1) (v := ?v2) rfl (by kernel_rfl) (by kernel_rfl) (by kernel_rfl) (fun _ _ _ h => h) (Or.inl ⟨by rfl, ?hy2⟩) hHeld ?rest2
  case hy2 =>
    intro w' hSw
    try dsimp only at hSw
    go_simp
    first | done | with_reducible rfl
  try simp only [Act.put, zq1, zq2, zq3, zq4, zq5, zq6]
  refine wpAnyH_take (i := 2) (v := ?v3) rfl (by kernel_rfl) (by kernel_rfl) (by kernel_rfl) (fun _ _ _ h => h) (Or.inl ⟨by rfl, ?hy3⟩) hHeld ?rest3
  case hy3 =>
    intro w' hSw
    try dsimp only at hSw
    go_simp
    first | done | with_reducible rfl
  try simp only [Act.put, zq1, zq2, zq3, zq4, zq5, zq6]
  refine wpAnyH_take (i := 3) (v := ?v4) rfl (by kernel_rfl) (by kernel_rfl) (by kernel_rfl) (fun _ _ _ h => h) (Or.inl ⟨by rfl, ?hy4⟩) hHeld ?rest4
  case hy4 =>
    intro w' hSw
    try dsimp only at hSw
    go_simp
    first | done | with_reducible rfl
  try simp only [Act.put, zq1, zq2, zq3, zq4, zq5, zq6]
  refine wpAnyH_take (i := 4) (v := ?v5) rfl (by kernel_rfl) (by kernel_rfl) (by kernel_rfl) (fun _ _ _ h => h) (Or.inl ⟨by rfl, ?hy5⟩) hHeld ?rest5
  case hy5 =>
    intro w' hSw
    try dsimp only at hSw
    go_simp
    first | done | with_reducible rfl
  try simp only [Act.put, zq1, zq2, zq3, zq4, zq5, zq6]
  refine wpAnyH_take (i := 5) (v := ?v6) rfl (by kernel_rfl) (by kernel_rfl) (by kernel_rfl) (fun _ _ _ h => h) (Or.inl ⟨by rfl, ?hy6⟩) hHeld ?rest6
  case hy6 =>
    intro w' hSw
    try dsimp only at hSw
    go_simp
    first | done | with_reducible rfl
  try simp only [Act.put, zq1, zq2, zq3, zq4, zq5, zq6]
  refine wpAnyH_take (i := 6) (v := ?v7) rfl (by kernel_rfl) (by kernel_rfl) (by kernel_rfl) (fun _ _ _ h => h) (Or.inl ⟨by rfl, ?hy7⟩) hHeld ?rest7
  case hy7 =>
    intro w' hSw
    try dsimp only at hSw
    go_simp
    first | done | with_reducible rfl
  try simp only [Act.put, zq1, zq2, zq3, zq4, zq5, zq6]
  refine wpAnyH_take (i := 7) (v := undef) rfl (by kernel_rfl) (by kernel_rfl) (by kernel_rfl) (fun _ _ _ h => h) (Or.inr ⟨by rfl, rfl⟩) hHeld ?_
  try simp only [Act.put, zq1, zq2, zq3, zq4, zq5, zq6]
  refine wpAnyH_take (i := 8) (v := undef) rfl (by kernel_rfl) (by kernel_rfl) (by kernel_rfl) (fun _ _ _ h => h) (Or.inr ⟨by rfl, rfl⟩) hHeld ?_
  try simp only [Act.put, zq1, zq2, zq3, zq4, zq5, zq6]
  refine wpAnyH_take (i := 9) (v := undef) rfl (by kernel_rfl) (by kernel_rfl) (by kernel_rfl) (fun _ _ _ h => h) (Or.inr ⟨by rfl, rfl⟩) hHeld ?_
  try simp only [Act.put, zq1, zq2, zq3, zq4, zq5, zq6]
  refine wpAnyH_take (i := 10) (v := undef) rfl (by kernel_rfl) (by kernel_rfl) (by kernel_rfl) (fun _ _ _ h => h) (Or.inr ⟨by rfl, rfl⟩) hHeld ?_
  try simp only [Act.put, zq1, zq2, zq3, zq4, zq5, zq6]
  refine wpAnyH_take (i := 11) (v := undef) rfl (by kernel_rfl) (by kernel_rfl) (by kernel_rfl) (fun _ _ _ h => h) (Or.inr ⟨by rfl, rfl⟩) hHeld ?_
  try simp only [Act.put, zq1, zq2, zq3, zq4, zq5, zq6]
  refine wpAnyH_take (i := 12) (v := undef) rfl (by kernel_rfl) (by kernel_rfl) (by kernel_rfl) (fun _ _ _ h => h) (Or.inr ⟨by rfl, rfl⟩) hHeld ?_
  try simp only [Act.put, zq1, zq2, zq3, zq4, zq5, zq6]
  refine wpAnyH_take (i := 13) (v := undef) rfl (by kernel_rfl) (by kernel_rfl) (by kernel_rfl) (fun _ _ _ h => h) (Or.inr ⟨by rfl, rfl⟩) hHeld ?_
  try simp only [Act.put, zq1, zq2, zq3, zq4, zq5, zq6]
  refine wpAnyH_take (i := 14) (v := undef) rfl (by kernel_rfl) (by kernel_rfl) (by kernel_rfl) (fun _ _ _ h => h) (Or.inr ⟨by rfl, rfl⟩) hHeld ?_
  try simp only [Act.put, zq1, zq2, zq3, zq4, zq5, zq6]
  refine wpAnyH_take (i := 15) (v := undef) rfl (by kernel_rfl) (by kernel_rfl) (by kernel_rfl) (fun _ _ _ h => h) (Or.inr ⟨by rfl, rfl⟩) hHeld ?_
  try simp only [Act.put, zq1, zq2, zq3, zq4, zq5, zq6]
  refine wpAnyH_take (i := 16) (v := ?v8) rfl (by kernel_rfl) (by kernel_rfl) (by kernel_rfl) (fun _ _ _ h => h) (Or.inl ⟨by rfl, ?hy8⟩) hHeld ?rest8
  case hy8 =>
    intro w' hSw
    try dsimp only at hSw
    go_simp
    first | done | with_reducible rfl
  try simp only [Act.put, zq1, zq2, zq3, zq4, zq5, zq6]
  refine wpAnyH_take (i := 17) (v := ?v9) rfl (by kernel_rfl) (by kernel_rfl) (by kernel_rfl) (fun _ _ _ h => h) (Or.inl ⟨by rfl, ?hy9⟩) hHeld ?rest9
  case hy9 =>
    intro w' hSw
    try dsimp only at hSw
    go_simp
    first | done | with_reducible rfl
  try simp only [Act.put, zq1, zq2, zq3, zq4, zq5, zq6]
  refine wpAnyH_done (by kernel_rfl) ?_ _
  refine OnlyN.normal ?_
  clear hHeld
  go_wp2_with fail
  rw [rounds_succ]
  have K1 := Lib.hid (blk_drew (K0.out.alloc (.cells h1.cs.toArray 28)))
  have T1 := Lib.hid (blk_drew (T0.out.alloc (.cells h1.cs.toArray 28)))
  have L1 := Lib.hid ((L0.out.alloc L0.out.size (.cells h1.cs.toArray 28)).drew)
  have N1 := Lib.hid (blk_drew (Blk.new W1 28 h1.cs.toArray))
  go_wp2_with fail
  replace K1 := Lib.hid (blk_drew K1.out)
  replace T1 := Lib.hid (blk_drew T1.out)
  replace L1 := Lib.hid L1.out.drew
  replace N1 := Lib.hid (blk_drew N1.out)
  refine wp_region_only (S := fun w' => w'.cell? ⟨w.heap.size + 1, 1, none⟩ = some (.bool true) ∧ Blk w' W1.heap.size 28 h1.cs.toArray ∧ Blk w' w.heap.size 49 (cs2 h0 h1).toArray) (by kernel_rfl) ⟨(T1.out.cell 1).trans rfl, N1.out, K1.out⟩ (fun hHeld => ?_)
  refine wpAnyH_take (i := 0) (v := ?v24) rfl (by kernel_rfl) (by kernel_rfl) (by kernel_rfl) (fun _ _ _ h => h) (Or.inl ⟨by rfl, ?hy24⟩) hHeld ?rest24
  case hy24 =>
    intro w' hSw
    try dsimp only at hSw
    go_simp
    first | done | with_reducible rfl
  try simp only [Act.put, zq1, zq3, zq4, zq5, zq6]
  refine wpAnyH_take (i := 1) (v := ?v25) rfl (by kernel_rfl) (by kernel_rfl) (by kernel_rfl) (fun _ _ _ h => h) (Or.inl ⟨by rfl, ?hy25⟩) hHeld ?rest25
  case hy25 =>
    intro w' hSw
    try dsimp only at hSw
    go_simp
    first | done | with_reducible rfl
  try simp only [Act.put, zq1, zq2, zq3, zq4, zq5, zq6]
  refine wpAnyH_take (i := 2) (v := ?v26) rfl (by kernel_rfl) (by kernel_rfl) (by kernel_rfl) (fun _ _ _ h => h) (Or.inl ⟨by rfl, ?hy26⟩) hHeld ?rest26
  case hy26 =>
    intro w' hSw
    try dsimp only at hSw
    go_simp
    first | done | with_reducible rfl
  try simp only [Act.put, zq1, zq2, zq3, zq4, zq5, zq6]
  refine wpAnyH_take (i := 3) (v := ?v27) rfl (by kernel_rfl) (by kernel_rfl) (by kernel_rfl) (fun _ _ _ h => h) (Or.inl ⟨by rfl, ?hy27⟩) hHeld ?rest27
  case hy27 =>
    intro w' hSw
    try dsimp only at hSw
    go_simp
    first | done | with_reducible rfl
  try simp only [Act.put, zq1, zq2, zq3, zq4, zq5, zq6]
  refine wpAnyH_take (i := 4) (v := ?v28) rfl (by kernel_rfl) (by kernel_rfl) (by kernel_rfl) (fun _ _ _ h => h) (Or.inl ⟨by rfl, ?hy28⟩) hHeld ?rest28
  case hy28 =>
    intro w' hSw
    try dsimp only at hSw
    go_simp
    first | done | with_reducible rfl
  try simp only [Act.put, zq1, zq2, zq3, zq4, zq5, zq6]
  refine wpAnyH_take (i := 5) (v := ?v29) rfl (by kernel_rfl) (by kernel_rfl) (by kernel_rfl) (fun _ _ _ h => h) (Or.inl ⟨by rfl, ?hy29⟩) hHeld ?rest29
  case hy29 =>
    intro w' hSw
    try dsimp only at hSw
    go_simp
    first | done | with_reducible rfl
  try simp only [Act.put, zq1, zq2, zq3, zq4, zq5, zq6]
  refine wpAnyH_take (i := 6) (v := ?v30) rfl (by kernel_rfl) (by kernel_rfl) (by kernel_rfl) (fun _ _ _ h => h) (Or.inl ⟨by rfl, ?hy30⟩) hHeld ?rest30
  case hy30 =>
    intro w' hSw
    try dsimp only at hSw
    go_simp
    first | done | with_reducible rfl
  try simp only [Act.put, zq1, zq2, zq3, zq4, zq5, zq6]
  refine wpAnyH_take (i := 7) (v := ?v31) rfl (by kernel_rfl) (by kernel_rfl) (by kernel_rfl) (fun _ _ _ h => h) (Or.inl ⟨by rfl, ?hy31⟩) hHeld ?rest31
  case hy31 =>
    intro w' hSw
    try dsimp only at hSw
    go_simp
    first | done | with_reducible rfl
  try simp only [Act.put, zq1, zq2, zq3, zq4, zq5, zq6]
  refine wpAnyH_take (i := 8) rfl (by kernel_rfl) (by kernel_rfl) (by kernel_rfl) (fun _ _ _ h => h) (yieldsIf_load_mid (by rfl) 28 (.tmp 9) (by rfl) W1.heap.size 0 (by rfl) h1.cs _ (fun w' hSw => Blk.rangeAt (l := h1.cs) hSw.2.1) Try.underlying28 rfl (size23 _)) hHeld ?_
  try simp only [Act.put, zq1, zq2, zq3, zq4, zq5, zq6]
  refine wpAnyH_take (i := 10) (v := ?v32) rfl (by kernel_rfl) (by kernel_rfl) (by kernel_rfl) (fun _ _ _ h => h) (Or.inl ⟨by rfl, ?hy32⟩) hHeld ?rest32
  case hy32 =>
    intro w' hSw
    try dsimp only at hSw
    go_simp
    first | done | with_reducible rfl
  try simp only [Act.put, zq1, zq2, zq3, zq4, zq5, zq6]
  refine wpAnyH_take (i := 11) (v := ?v33) rfl (by kernel_rfl) (by kernel_rfl) (by kernel_rfl) (fun _ _ _ h => h) (Or.inl ⟨by rfl, ?hy33⟩) hHeld ?rest33
  case hy33 =>
    intro w' hSw
    try dsimp only at hSw
    go_simp
    first | done | with_reducible rfl
  try simp only [Act.put, zq1, zq2, zq3, zq4, zq5, zq6]
  refine wpAnyH_take (i := 12) (v := ?v34) rfl (by kernel_rfl) (by kernel_rfl) (by kernel_rfl) (fun _ _ _ h => h) (Or.inl ⟨by rfl, ?hy34⟩) hHeld ?rest34
  case hy34 =>
    intro w' hSw
    try dsimp only at hSw
    go_simp
    first | done | with_reducible rfl
  try simp only [Act.put, zq1, zq2, zq3, zq4, zq5, zq6]
  refine wpAnyH_take (i := 13) rfl (by kernel_rfl) (by kernel_rfl) (by kernel_rfl) (fun _ _ _ h => h) (yieldsIf_load_mid (by rfl) 28 (.tmp 27) (by rfl) w.heap.size 0 (by rfl) h0.cs _ (fun w' hSw => cs2_fst (Blk.rangeAt (l := cs2 h0 h1) hSw.2.2)) Try.underlying28 rfl (size23 _)) hHeld ?_
  try simp only [Act.put, zq1, zq2, zq3, zq4, zq5, zq6]
  refine wpAnyH_ready (rs := [9]) (by kernel_rfl) (by simp) ?_
  refine AllReadyH.cons (by rfl) (fun K hK => ?_) AllReadyH.nil
  go_simp
  refine (rank_any h1 _).mono ?_
  rintro r V2 ⟨rfl, hb⟩
  have T2 := Lib.hid (T1.out.below hb T1.out.lt)
  have N2 := Lib.hid (N1.out.below hb N1.out.lt)
  have K2 := Lib.hid (K1.out.below hb K1.out.lt)
  have L2 := Lib.hid (L1.out.trans (hb.mono L1.out.size))
  clear hb hHeld
  refine hK.out _ _ ⟨(T2.out.cell 1).trans rfl, N2.out, K2.out⟩ (fun hHeld => ?_)
  clear hK K
  try simp only [Act.put, zq1, zq2, zq3, zq4, zq5, zq6]
  refine wpAnyH_ready (rs := [14]) (by kernel_rfl) (by simp) ?_
  refine AllReadyH.cons (by rfl) (fun K hK => ?_) AllReadyH.nil
  go_simp
  refine (rank_any h0 _).mono ?_
  rintro r V3 ⟨rfl, hb⟩
  have T3 := Lib.hid (T2.out.below hb T2.out.lt)
  have N3 := Lib.hid (N2.out.below hb N2.out.lt)
  have K3 := Lib.hid (K2.out.below hb K2.out.lt)
  have L3 := Lib.hid (L2.out.trans (hb.mono L2.out.size))
  clear hb hHeld
  refine hK.out _ _ ⟨(T3.out.cell 1).trans rfl, N3.out, K3.out⟩ (fun hHeld => ?_)
  clear hK K
  try simp only [Act.put, zq1, zq2, zq3, zq4, zq5, zq6]
  refine wpAnyH_take (i := 15) (v := ?v35) rfl (by kernel_rfl) (by kernel_rfl) (by kernel_rfl) (fun _ _ _ h => h) (Or.inl ⟨by rfl, ?hy35⟩) hHeld ?rest35
  case hy35 =>
    intro w' hSw
    try dsimp only at hSw
    go_simp
    first | done | with_reducible rfl
  try simp only [Act.put, zq1, zq2, zq3, zq4, zq5, zq6]
  refine wpAnyH_take (i := 16) (v := ?v36) rfl (by kernel_rfl) (by kernel_rfl) (by kernel_rfl) (fun _ _ _ h => h) (Or.inl ⟨by rfl, ?hy36⟩) hHeld ?rest36
  case hy36 =>
    intro w' hSw
    try dsimp only at hSw
    go_simp
    first | done | with_reducible rfl
  try simp only [Act.put, zq1, zq2, zq3, zq4, zq5, zq6]
  refine wpAnyH_take (i := 17) (v := ?v37) rfl (by kernel_rfl) (by kernel_rfl) (by kernel_rfl) (fun _ _ _ h => h) (Or.inl ⟨by rfl, ?hy37⟩) hHeld ?rest37
  case hy37 =>
    intro w' hSw
    try dsimp only at hSw
    go_simp
    first | done | with_reducible rfl
  try simp only [Act.put, zq1, zq2, zq3, zq4, zq5, zq6]
  refine wpAnyH_done (by kernel_rfl) ?_ _
  refine OnlyN.normal ?_
  clear hHeld
  go_wp2_with fail
  rw [rounds_succ]
  go_wp2_with fail
  go_ret2
  exact ⟨rfl, L3.out⟩
set_option maxRecDepth 100000 in
set_option maxHeartbeats 4000000 in
theorem fore_one (h0 h1 : Hd) (w : World) : Calls Try.prog 45 #[.agg (cs2 h0 h1).toArray, .agg #[.bool true, .bool false], .func (.func 46) #[] #[]] w fun r w' => r = .returned (.tuple #[.int .i64 0, .bool true]) ∧ Below w.heap.size w w' := by
  have hi0 := index52_0 h0 h1
  have hi1 := index52_1 h0 h1
  have K0 := Lib.hid ((Blk.new w 49 (cs2 h0 h1).toArray).alloc (.cells #[.bool true, .bool false] 50))
  have T0 := Lib.hid (blk_new1 w (.cells (cs2 h0 h1).toArray 49) 50 #[.bool true, .bool false])
  have L0 := Lib.hid (((Below.refl w.heap.size w).alloc (Nat.le_refl _) (.cells (cs2 h0 h1).toArray 49)).alloc (by simp) (.cells #[.bool true, .bool false] 50))
  go_enter Try.func45, Try.ntmps45
  go_wp2_with (refine wpList_load_mid rfl 49 (.tmp 3) rfl w.heap.size 0 rfl (cs2 h0 h1) _ (Blk.rangeAt (l := cs2 h0 h1) K0.out) Try.underlying49 rfl (size52 _ _) ?_)
  generalize (w.alloc (.cells (cs2 h0 h1).toArray 49)).alloc (.cells #[.bool true, .bool false] 50) = W at K0 T0 L0 ⊢
  refine wp_loop_rounds 3 ?_
  rw [rounds_succ]
  replace K0 := Lib.hid (K0.out.alloc (.cells h0.cs.toArray 28))
  replace T0 := Lib.hid (T0.out.alloc (.cells h0.cs.toArray 28))
  replace L0 := Lib.hid (L0.out.alloc L0.out.size (.cells h0.cs.toArray 28))
  go_wp2_with fail
  generalize W.alloc (.cells h0.cs.toArray 28) = W1 at K0 T0 L0 ⊢
  refine wp_region_only (S := fun w' => w'.cell? ⟨w.heap.size + 1, 0, none⟩ = some (.bool true)) (by kernel_rfl) ((T0.out.cell 0).trans rfl) (fun hHeld => ?_)
  refine wpAnyH_take (i := 0) (v := ?v1) rfl (by kernel_rfl) (by kernel_rfl) (by kernel_rfl) (fun _ _ _ h => h) (Or.inl ⟨by rfl, ?hy1⟩) hHeld ?rest1
  case hy1 =>
    intro w' hSw
    try dsimp only at hSw
    go_simp
    first | done | with_reducible rfl
  try simp only [Act.put, zq1, zq3, zq4, zq5, zq6]
  refine wpAnyH_take (i := 1) (v := ?v2) rfl (by kernel_rfl) (by kernel_rfl) (by kernel_rfl) (fun _ _ _ h => h) (Or.inl ⟨by rfl, ?hy2⟩) hHeld ?rest2
  case hy2 =>
    intro w' hSw
    try dsimp only at hSw
    go_simp
    first | done | with_reducible rfl
  try simp only [Act.put, zq1, zq2, zq3, zq4, zq5, zq6]
  refine wpAnyH_take (i := 2) (v := ?v3) rfl (by kernel_rfl) (by kernel_rfl) (by kernel_rfl) (fun _ _ _ h => h) (Or.inl ⟨by rfl, ?hy3⟩) hHeld ?rest3
  case hy3 =>
    intro w' hSw
    try dsimp only at hSw
    go_simp
    first | done | with_reducible rfl
  try simp only [Act.put, zq1, zq2, zq3, zq4, zq5, zq6]
  refine wpAnyH_take (i := 3) (v := ?v4) rfl (by kernel_rfl) (by kernel_rfl) (by kernel_rfl) (fun _ _ _ h => h) (Or.inl ⟨by rfl, ?hy4⟩) hHeld ?rest4
  case hy4 =>
    intro w' hSw
    try dsimp only at hSw
    go_simp
    first | done | with_reducible rfl
  try simp only [Act.put, zq1, zq2, zq3, zq4, zq5, zq6]
  refine wpAnyH_take (i := 4) (v := ?v5) rfl (by kernel_rfl) (by kernel_rfl) (by kernel_rfl) (fun _ _ _ h => h) (Or.inl ⟨by rfl, ?hy5⟩) hHeld ?rest5
  case hy5 =>
    intro w' hSw
    try dsimp only at hSw
    go_simp
    first | done | with_reducible rfl
  try simp only [Act.put, zq1, zq2, zq3, zq4, zq5, zq6]
  refine wpAnyH_take (i := 5) (v := ?v6) rfl (by kernel_rfl) (by kernel_rfl) (by kernel_rfl) (fun _ _ _ h => h) (Or.inl ⟨by rfl, ?hy6⟩) hHeld ?rest6
  case hy6 =>
    intro w' hSw
    try dsimp only at hSw
    go_simp
    first | done | with_reducible rfl
  try simp only [Act.put, zq1, zq2, zq3, zq4, zq5, zq6]
  refine wpAnyH_take (i := 6) (v := ?v7) rfl (by kernel_rfl) (by kernel_rfl) (by kernel_rfl) (fun _ _ _ h => h) (Or.inl ⟨by rfl, ?hy7⟩) hHeld ?rest7
  case hy7 =>
    intro w' hSw
    try dsimp only at hSw
    go_simp
    first | done | with_reducible rfl
  try simp only [Act.put, zq1, zq2, zq3, zq4, zq5, zq6]
  refine wpAnyH_take (i := 7) (v := undef) rfl (by kernel_rfl) (by kernel_rfl) (by kernel_rfl) (fun _ _ _ h => h) (Or.inr ⟨by rfl, rfl⟩) hHeld ?_
  try simp only [Act.put, zq1, zq2, zq3, zq4, zq5, zq6]
  refine wpAnyH_take (i := 8) (v := undef) rfl (by kernel_rfl) (by kernel_rfl) (by kernel_rfl) (fun _ _ _ h => h) (Or.inr ⟨by rfl, rfl⟩) hHeld ?_
  try simp only [Act.put, zq1, zq2, zq3, zq4, zq5, zq6]
  refine wpAnyH_take (i := 9) (v := undef) rfl (by kernel_rfl) (by kernel_rfl) (by kernel_rfl) (fun _ _ _ h => h) (Or.inr ⟨by rfl, rfl⟩) hHeld ?_
  try simp only [Act.put, zq1, zq2, zq3, zq4, zq5, zq6]
  refine wpAnyH_take (i := 10) (v := undef) rfl (by kernel_rfl) (by kernel_rfl) (by kernel_rfl) (fun _ _ _ h => h) (Or.inr ⟨by rfl, rfl⟩) hHeld ?_
  try simp only [Act.put, zq1, zq2, zq3, zq4, zq5, zq6]
  refine wpAnyH_take (i := 11) (v := undef) rfl (by kernel_rfl) (by kernel_rfl) (by kernel_rfl) (fun _ _ _ h => h) (Or.inr ⟨by rfl, rfl⟩) hHeld ?_
  try simp only [Act.put, zq1, zq2, zq3, zq4, zq5, zq6]
  refine wpAnyH_take (i := 12) (v := undef) rfl (by kernel_rfl) (by kernel_rfl) (by kernel_rfl) (fun _ _ _ h => h) (Or.inr ⟨by rfl, rfl⟩) hHeld ?_
  try simp only [Act.put, zq1, zq2, zq3, zq4, zq5, zq6]
  refine wpAnyH_take (i := 13) (v := undef) rfl (by kernel_rfl) (by kernel_rfl) (by kernel_rfl) (fun _ _ _ h => h) (Or.inr ⟨by rfl, rfl⟩) hHeld ?_
  try simp only [Act.put, zq1, zq2, zq3, zq4, zq5, zq6]
  refine wpAnyH_take (i := 14) (v := undef) rfl (by kernel_rfl) (by kernel_rfl) (by kernel_rfl) (fun _ _ _ h => h) (Or.inr ⟨by rfl, rfl⟩) hHeld ?_
  try simp only [Act.put, zq1, zq2, zq3, zq4, zq5, zq6]
  refine wpAnyH_take (i := 15) (v := undef) rfl (by kernel_rfl) (by kernel_rfl) (by kernel_rfl) (fun _ _ _ h => h) (Or.inr ⟨by rfl, rfl⟩) hHeld ?_
  try simp only [Act.put, zq1, zq2, zq3, zq4, zq5, zq6]
  refine wpAnyH_take (i := 16) (v := ?v8) rfl (by kernel_rfl) (by kernel_rfl) (by kernel_rfl) (fun _ _ _ h => h) (Or.inl ⟨by rfl, ?hy8⟩) hHeld ?rest8
  case hy8 =>
    intro w' hSw
    try dsimp only at hSw
    go_simp
    first | done | with_reducible rfl
  try simp only [Act.put, zq1, zq2, zq3, zq4, zq5, zq6]
  refine wpAnyH_take (i := 17) (v := ?v9) rfl (by kernel_rfl) (by kernel_rfl) (by kernel_rfl) (fun _ _ _ h => h) (Or.inl ⟨by rfl, ?hy9⟩) hHeld ?rest9
  case hy9 =>
    intro w' hSw
    try dsimp only at hSw
    go_simp
    first | done | with_reducible rfl
  try simp only [Act.put, zq1, zq2, zq3, zq4, zq5, zq6]
  refine wpAnyH_done (by kernel_rfl) ?_ _
  refine OnlyN.normal ?_
  clear hHeld
  go_wp2_with fail
  rw [rounds_succ]
  have K1 := Lib.hid (blk_drew (K0.out.alloc (.cells h1.cs.toArray 28)))
  have T1 := Lib.hid (blk_drew (T0.out.alloc (.cells h1.cs.toArray 28)))
  have L1 := Lib.hid ((L0.out.alloc L0.out.size (.cells h1.cs.toArray 28)).drew)
  have N1 := Lib.hid (blk_drew (Blk.new W1 28 h1.cs.toArray))
  go_wp2_with fail
  refine wp_region_only (S := fun w' => w'.cell? ⟨w.heap.size + 1, 1, none⟩ = some (.bool false)) (by kernel_rfl) ((T1.out.cell 1).trans rfl) (fun hHeld => ?_)
  refine wpAnyH_take (i := 0) (v := ?v38) rfl (by kernel_rfl) (by kernel_rfl) (by kernel_rfl) (fun _ _ _ h => h) (Or.inl ⟨by rfl, ?hy38⟩) hHeld ?rest38
  case hy38 =>
    intro w' hSw
    try dsimp only at hSw
    go_simp
    first | done | with_reducible rfl
  try simp only [Act.put, zq1, zq3, zq4, zq5, zq6]
  refine wpAnyH_take (i := 1) (v := ?v39) rfl (by kernel_rfl) (by kernel_rfl) (by kernel_rfl) (fun _ _ _ h => h) (Or.inl ⟨by rfl, ?hy39⟩) hHeld ?rest39
  case hy39 =>
    intro w' hSw
    try dsimp only at hSw
    go_simp
    first | done | with_reducible rfl
  try simp only [Act.put, zq1, zq2, zq3, zq4, zq5, zq6]
  refine wpAnyH_take (i := 2) (v := ?v40) rfl (by kernel_rfl) (by kernel_rfl) (by kernel_rfl) (fun _ _ _ h => h) (Or.inl ⟨by rfl, ?hy40⟩) hHeld ?rest40
  case hy40 =>
    intro w' hSw
    try dsimp only at hSw
    go_simp
    first | done | with_reducible rfl
  try simp only [Act.put, zq1, zq2, zq3, zq4, zq5, zq6]
  refine wpAnyH_take (i := 3) (v := ?v41) rfl (by kernel_rfl) (by kernel_rfl) (by kernel_rfl) (fun _ _ _ h => h) (Or.inl ⟨by rfl, ?hy41⟩) hHeld ?rest41
  case hy41 =>
    intro w' hSw
    try dsimp only at hSw
    go_simp
    first | done | with_reducible rfl
  try simp only [Act.put, zq1, zq2, zq3, zq4, zq5, zq6]
  refine wpAnyH_take (i := 4) (v := undef) rfl (by kernel_rfl) (by kernel_rfl) (by kernel_rfl) (fun _ _ _ h => h) (Or.inr ⟨by rfl, rfl⟩) hHeld ?_
  try simp only [Act.put, zq1, zq2, zq3, zq4, zq5, zq6]
  refine wpAnyH_take (i := 5) (v := undef) rfl (by kernel_rfl) (by kernel_rfl) (by kernel_rfl) (fun _ _ _ h => h) (Or.inr ⟨by rfl, rfl⟩) hHeld ?_
  try simp only [Act.put, zq1, zq2, zq3, zq4, zq5, zq6]
  refine wpAnyH_take (i := 6) (v := undef) rfl (by kernel_rfl) (by kernel_rfl) (by kernel_rfl) (fun _ _ _ h => h) (Or.inr ⟨by rfl, rfl⟩) hHeld ?_
  try simp only [Act.put, zq1, zq2, zq3, zq4, zq5, zq6]
  refine wpAnyH_take (i := 7) (v := undef) rfl (by kernel_rfl) (by kernel_rfl) (by kernel_rfl) (fun _ _ _ h => h) (Or.inr ⟨by rfl, rfl⟩) hHeld ?_
  try simp only [Act.put, zq1, zq2, zq3, zq4, zq5, zq6]
  refine wpAnyH_take (i := 8) (v := undef) rfl (by kernel_rfl) (by kernel_rfl) (by kernel_rfl) (fun _ _ _ h => h) (Or.inr ⟨by rfl, rfl⟩) hHeld ?_
  try simp only [Act.put, zq1, zq2, zq3, zq4, zq5, zq6]
  refine wpAnyH_take (i := 9) (v := undef) rfl (by kernel_rfl) (by kernel_rfl) (by kernel_rfl) (fun _ _ _ h => h) (Or.inr ⟨by rfl, rfl⟩) hHeld ?_
  try simp only [Act.put, zq1, zq2, zq3, zq4, zq5, zq6]
  refine wpAnyH_take (i := 10) (v := undef) rfl (by kernel_rfl) (by kernel_rfl) (by kernel_rfl) (fun _ _ _ h => h) (Or.inr ⟨by rfl, rfl⟩) hHeld ?_
  try simp only [Act.put, zq1, zq2, zq3, zq4, zq5, zq6]
  refine wpAnyH_take (i := 11) (v := undef) rfl (by kernel_rfl) (by kernel_rfl) (by kernel_rfl) (fun _ _ _ h => h) (Or.inr ⟨by rfl, rfl⟩) hHeld ?_
  try simp only [Act.put, zq1, zq2, zq3, zq4, zq5, zq6]
  refine wpAnyH_take (i := 12) (v := undef) rfl (by kernel_rfl) (by kernel_rfl) (by kernel_rfl) (fun _ _ _ h => h) (Or.inr ⟨by rfl, rfl⟩) hHeld ?_
  try simp only [Act.put, zq1, zq2, zq3, zq4, zq5, zq6]
  refine wpAnyH_take (i := 13) (v := undef) rfl (by kernel_rfl) (by kernel_rfl) (by kernel_rfl) (fun _ _ _ h => h) (Or.inr ⟨by rfl, rfl⟩) hHeld ?_
  try simp only [Act.put, zq1, zq2, zq3, zq4, zq5, zq6]
  refine wpAnyH_take (i := 14) (v := undef) rfl (by kernel_rfl) (by kernel_rfl) (by kernel_rfl) (fun _ _ _ h => h) (Or.inr ⟨by rfl, rfl⟩) hHeld ?_
  try simp only [Act.put, zq1, zq2, zq3, zq4, zq5, zq6]
  refine wpAnyH_take (i := 15) (v := undef) rfl (by kernel_rfl) (by kernel_rfl) (by kernel_rfl) (fun _ _ _ h => h) (Or.inr ⟨by rfl, rfl⟩) hHeld ?_
  try simp only [Act.put, zq1, zq2, zq3, zq4, zq5, zq6]
  refine wpAnyH_take (i := 16) (v := undef) rfl (by kernel_rfl) (by kernel_rfl) (by kernel_rfl) (fun _ _ _ h => h) (Or.inr ⟨by rfl, rfl⟩) hHeld ?_
  try simp only [Act.put, zq1, zq2, zq3, zq4, zq5, zq6]
  refine wpAnyH_take (i := 17) (v := ?v42) rfl (by kernel_rfl) (by kernel_rfl) (by kernel_rfl) (fun _ _ _ h => h) (Or.inl ⟨by rfl, ?hy42⟩) hHeld ?rest42
  case hy42 =>
    intro w' hSw
    try dsimp only at hSw
    go_simp
    first | done | with_reducible rfl
  try simp only [Act.put, zq1, zq2, zq3, zq4, zq5, zq6]
  refine wpAnyH_done (by kernel_rfl) ?_ _
  refine OnlyN.normal ?_
  have L3 := Lib.hid L1.out.drew
  clear hHeld
  go_wp2_with fail
  rw [rounds_succ]
  go_wp2_with fail
  go_ret2
  exact ⟨rfl, L3.out⟩
end Go.Proofs.Ytjfcmoappbfnjaa

namespace Go.Proofs.Ytjfcmoappbfnjaa
open List renaming getElem_toArray → zq1, getElem_cons_succ → zq2, getElem_cons_zero → zq3, setIfInBounds_toArray → zq4, set_cons_zero → zq5, set_cons_succ → zq6
open Go.RowKit
attribute [local go_sem] Oper.semAt_some
attribute [local go_sem] run_store_bv run_store_wc run_store_bv_drew run_store_wc_drew
abbrev hd0 : Hd := ⟨0, 0, 0⟩
set_option maxRecDepth 8000 in
theorem zero52 : (Try.prog.info? 49).map (fun i => (i.zero, i.size)) = some (some (.agg (cs2 hd0 hd0).toArray), 6) := by kernel_rfl
theorem z52 (w : World) : (zeroValue 49).run Try.prog w = .ok (.agg (cs2 hd0 hd0).toArray) w := (zero_of_info zero52).1 w
set_option maxRecDepth 8000 in
theorem zero53 : (Try.prog.info? 50).map (fun i => (i.zero, i.size)) = some (some (.agg #[.bool false, .bool false]), 2) := by kernel_rfl
theorem z53 (w : World) : (zeroValue 50).run Try.prog w = .ok (.agg #[.bool false, .bool false]) w := (zero_of_info zero53).1 w
set_option maxRecDepth 8000 in
theorem size53 (a b : Bool) : (Try.prog.info? 50).map (·.size) = some [Value.bool a, Value.bool b].length := by kernel_rfl
set_option maxRecDepth 8000 in
theorem agg59 (w : World) : (isAgg 56).run Try.prog w = .ok true w := by kernel_rfl
set_option maxRecDepth 8000 in
theorem cs2_one (h0 h1 : Hd) : (cs2 h0 h1).toArray.all (fun x => x.oneCell') = true := by simp [cs2, Value.oneCell']
set_option maxRecDepth 8000 in
theorem index112 (l : List UInt8) (w : World) (k : Nat) (hk : k < 2) : (Instr.index 108 (sec l) (.int .i64 (k : Int))).run Try.prog w = .ok (.agg ((bv l).toArray.extract (k * 512) (k * 512 + 512))) w := by
  have hu := run_underlying (P := Try.prog) Try.underlying108 w
  have hs := run_sizeOf (P := Try.prog) size47 w
  simp only [Instr.index, asIntOf, Sem.run_bind, Sem.run_pure, Result.andThen_ok, hu, part]
  rw [if_pos (by omega)]
  simp only [Sem.run_bind, hs, Result.andThen_ok, agg59 w, if_true, Sem.run_pure, Int.toNat_natCast]
set_option maxRecDepth 8000 in
theorem index112_0 (l0 l1 : List UInt8) (h0 : l0.length = 512) (w : World) : (Instr.index 108 (sec (l0 ++ l1)) (.int .i64 0)).run Try.prog w = .ok (sec l0) w := by
  refine (index112 (l0 ++ l1) w 0 (by omega)).trans ?_
  congr 2
  unfold bv
  simp [h0]
set_option maxRecDepth 8000 in
theorem index112_1 (l0 l1 : List UInt8) (h0 : l0.length = 512) (h1 : l1.length = 512) (w : World) : (Instr.index 108 (sec (l0 ++ l1)) (.int .i64 1)).run Try.prog w = .ok (sec l1) w := by
  refine (index112 (l0 ++ l1) w 1 (by omega)).trans ?_
  congr 2
  have e : ((bv (l0 ++ l1)).drop 512).take 512 = bv l1 := by
    unfold bv
    rw [List.map_append, List.drop_left' (by simp [h0])]
    exact List.take_of_length_le (by simp [h1])
  rw [← e]
  simp
set_option maxRecDepth 8000 in
theorem results_both {fn : Func} {p q r : Tmp} (h : fn.results = #[.cell p 49, .cell q 50, .tmp r]) (tmps : Array Value) (w : World) (g g' : Nat) (h0 h1 : Hd) (a b : Bool)
    (hp : tmps.getD p undef = .pointer (some ⟨g, 0, none⟩)) (hq : tmps.getD q undef = .pointer (some ⟨g', 0, none⟩)) (hg : Blk w g 49 (cs2 h0 h1).toArray) (hg' : Blk w g' 50 #[.bool a, .bool b]) : (results fn tmps).run Try.prog w = .ok (.tuple #[.agg (cs2 h0 h1).toArray, .agg #[.bool a, .bool b], tmps.getD r undef]) w := by
  have hp' : tmps[p]?.getD undef = .pointer (some ⟨g, 0, none⟩) := by simpa using hp
  have hq' : tmps[q]?.getD undef = .pointer (some ⟨g', 0, none⟩) := by simpa using hq
  have h1 := run_loadVar_row (P := Try.prog) w g 49 49 (cs2 h0 h1).toArray (0, 0) _ hg Try.underlying49 rfl (by kernel_rfl)
  have h2 := run_loadVar_row (P := Try.prog) w g' 50 50 #[.bool a, .bool b] (0, 0) _ hg' Try.underlying50 rfl (by kernel_rfl)
  simp [results, h, hp', hq', asAddr, h1, h2]
/-- while both are looked at -/
structure Bt (w0 : World) (base p : Nat) (pl : Pl) (D : Dk) (h0 h1 : Hd) (a b : Bool) (W : World) : Prop where
  h2 : Blk W w0.heap.size 49 (cs2 hd0 hd0).toArray
  h3 : Blk W (w0.heap.size + 1) 50 #[.bool false, .bool false]
  h5 : Blk W (w0.heap.size + 1 + 1) 49 (cs2 h0 h1).toArray
  h6 : Blk W (w0.heap.size + 1 + 1 + 1) 50 #[.bool a, .bool b]
  fr : Fr (pl.has p) w0 W
  da : DiskAt W base p pl D
  nh : ∀ k, w0.heap.size ≤ k → ¬ pl.has p k
section
variable {w0 W W' : World} {base p : Nat} {pl : Pl} {D : Dk} {h0 h1 : Hd} {a b : Bool}
theorem Bt.next (h : Bt w0 base p pl D h0 h1 a b W) (hb : Below W.heap.size W W') : Bt w0 base p pl D h0 h1 a b W' :=
  ⟨h.h2.below hb h.h2.lt, h.h3.below hb h.h3.lt, h.h5.below hb h.h5.lt, h.h6.below hb h.h6.lt, h.fr.below hb, h.da.below hb, h.nh⟩
theorem Bt.alloc (h : Bt w0 base p pl D h0 h1 a b W) (o : Obj) : Bt w0 base p pl D h0 h1 a b (W.alloc o) := h.next ((Below.refl _ W).alloc (Nat.le_refl _) o)
theorem Bt.drew (h : Bt w0 base p pl D h0 h1 a b W) : Bt w0 base p pl D h0 h1 a b W.drew := h.next (Below.drew (Below.refl _ W))
theorem Bt.put5 (h : Bt w0 base p pl D h0 h1 a b W) (h0' h1' : Hd) : Bt w0 base p pl D h0' h1' a b (W.setRow (w0.heap.size + 1 + 1) (cs2 h0' h1').toArray) :=
  ⟨h.h2.setRow_far (by omega) _, h.h3.setRow_far (by omega) _, setRow_heap W _ _ _ _ (0, 0) h.h5, h.h6.setRow_far (by omega) _, h.fr.then_ (setRow_fr8 _ _ _) (fun i hi e => by omega), h.da.fr (setRow_fr8 _ _ _) (fun k hk e => h.nh k (by omega) hk), h.nh⟩
theorem Bt.put6a (h : Bt w0 base p pl D h0 h1 a b W) : Bt w0 base p pl D h0 h1 true b (W.setCell ⟨w0.heap.size + 1 + 1 + 1, 0, none⟩ (.bool true)) :=
  ⟨h.h2.far (by simp only; omega) _, h.h3.far (by simp only; omega) _, h.h5.far (by simp) _, h.h6.set_ 0 _, h.fr.setCell (fun hi => by simp only at hi; omega) _, h.da.keep (fun k hk => Below.heap_setCell _ _ _ _ (fun e => h.nh k (by simp only at e; omega) hk)), h.nh⟩
theorem Bt.put6b (h : Bt w0 base p pl D h0 h1 a b W) : Bt w0 base p pl D h0 h1 a true (W.setCell ⟨w0.heap.size + 1 + 1 + 1, 1, none⟩ (.bool true)) :=
  ⟨h.h2.far (by simp only; omega) _, h.h3.far (by simp only; omega) _, h.h5.far (by simp) _, h.h6.set_ 1 _, h.fr.setCell (fun hi => by simp only at hi; omega) _, h.da.keep (fun k hk => Below.heap_setCell _ _ _ _ (fun e => h.nh k (by simp only at e; omega) hk)), h.nh⟩
end
set_option maxRecDepth 8000 in
theorem bt_new {w : World} {base p : Nat} {pl : Pl} {D : Dk} (hd : DiskAt w base p pl D) : Bt w base p pl D hd0 hd0 false false ((((w.alloc (.cells (cs2 hd0 hd0).toArray 49)).alloc (.cells #[.bool false, .bool false] 50)).alloc (.cells (cs2 hd0 hd0).toArray 49)).alloc (.cells #[.bool false, .bool false] 50)) where
  h2 := (((Blk.new w _ _).alloc _).alloc _).alloc _
  h3 := ((blk_new1 w _ _ _).alloc _).alloc _
  h5 := by have := (blk_new1 (w.alloc (.cells (cs2 hd0 hd0).toArray 49)) (.cells #[.bool false, .bool false] 50) 49 (cs2 hd0 hd0).toArray).alloc (.cells #[.bool false, .bool false] 50); simpa using this
  h6 := by have := blk_new1 ((w.alloc (.cells (cs2 hd0 hd0).toArray 49)).alloc (.cells #[.bool false, .bool false] 50)) (.cells (cs2 hd0 hd0).toArray 49) 50 #[.bool false, .bool false]; simpa using this
  fr := ((((Fr.refl _ w).alloc _).alloc _).alloc _).alloc _
  da := (((hd.alloc _).alloc _).alloc _).alloc _
  nh := fun k hk => hd.not_new hk
theorem Bt.moved {w0 W W' : World} {base p : Nat} {pl : Pl} {D D' : Dk} {h0 h1 : Hd} {a b : Bool} (h : Bt w0 base p pl D h0 h1 a b W) (hd : DiskAt W' base p pl D') (hf : Fr (pl.has p) W W') : Bt w0 base p pl D' h0 h1 a b W' :=
  ⟨hf.keepBlk h.h2 (h.nh _ (Nat.le_refl _)), hf.keepBlk h.h3 (h.nh _ (by omega)), hf.keepBlk h.h5 (h.nh _ (by omega)), hf.keepBlk h.h6 (h.nh _ (by omega)), h.fr.trans hf, hd, h.nh⟩
set_option maxRecDepth 100000 in
set_option maxHeartbeats 8000000 in
theorem both_two {w : World} {base p : Nat} {pl : Pl} {D : Dk} (hd : DiskAt w base p pl D) (hN : D.waits.length ≤ 1000000) (hs : D.steps < 999990) (hf0 : D.next = false) (hf1 : D.stepped.next = false) (h0 h1 : Hd)
    (o0 : 1 ≤ h0.o ∧ h0.o ≤ 64) (q0 : (20 + 3 * h0.o == (D.size : Int)) = true) (o1 : 1 ≤ h1.o ∧ h1.o ≤ 64) (q1 : (20 + 3 * h1.o == (D.size : Int)) = true)
    (ho0 : ∀ W : World, Calls Try.prog 50 #[sec (D.reads 0)] W fun r w' => r = .returned (.tuple #[h0.val, .bool true]) ∧ Below W.heap.size W w')
    (ho1 : ∀ W : World, Calls Try.prog 50 #[sec (D.reads 1)] W fun r w' => r = .returned (.tuple #[Hd.val h1, .bool true]) ∧ Below W.heap.size W w') :
    Calls Try.prog 20 #[.pointer (some ⟨p, 0, none⟩)] w fun r w' => r = .returned (.tuple #[.agg (cs2 h0 h1).toArray, .agg #[.bool true, .bool true], .int .i64 0]) ∧ DiskAt w' base p pl D.stepped.stepped ∧ Fr (pl.has p) w w' := by
  have hz := z52
  have hz3 := z53
  have hz2 := z112
  have hz4 := z47
  have hz5 := z23
  have Z2 := Lib.hid (show 2 ≤ D.size by have := beq_iff_eq.1 q0; omega)
  have O0 := Lib.hid o0
  have Q0 := Lib.hid q0
  have O1 := Lib.hid o1
  have Q1 := Lib.hid q1
  have HO0 := Lib.hid ho0
  have HO1 := Lib.hid ho1
  have L0 := Lib.hid (show (D.reads 0).length = 512 from readL_length _ _ _ (hd.lens 0) (fun x hx => (hd.wlens x hx).1))
  have L1 := Lib.hid (show (D.reads 1).length = 512 from readL_length _ _ _ (hd.lens 1) (fun x hx => (hd.wlens x hx).1))
  have HN := Lib.hid hN
  have HS := Lib.hid hs
  have HF0 := Lib.hid hf0
  have HF1 := Lib.hid hf1
  have B0 := Lib.hid (bt_new hd)
  have hi0 := index112_0 (D.reads 0) (D.reads 1) L0.out
  have hi1 := index112_1 (D.reads 0) (D.reads 1) L0.out L1.out
  have m0 : (D.reads 0).length = zs.length := by rw [L0.out, zs_length]
  have m1 : (D.reads 1).length = zs.length := by rw [L1.out, zs_length]
  have n0 : (bv (D.reads 0)).length = 512 := by rw [bv_length, L0.out]
  have n1 : (bv (D.reads 1)).length = 512 := by rw [bv_length, L1.out]
  have hl2 : (D.reads 0 ++ D.reads 1).length = zs2.length := by rw [List.length_append, L0.out, L1.out, zs2_length]
  have hb2 : (bv (D.reads 0 ++ D.reads 1)).length = 1024 := by rw [bv_length, hl2, zs2_length]
  clear hd hN hs hf0 hf1 o0 q0 o1 q1 ho0 ho1
  go_enter Try.func20, Try.ntmps20
  go_wp2_with fail
  generalize (((w.alloc (.cells (cs2 hd0 hd0).toArray 49)).alloc (.cells #[.bool false, .bool false] 50)).alloc (.cells (cs2 hd0 hd0).toArray 49)).alloc (.cells #[.bool false, .bool false] 50) = W at B0 ⊢
  refine (sectors_any B0.out.da HN.out Z2.out HS.out HF0.out HF1.out).mono ?_
  rintro r W1 ⟨rfl, hd1, hf1⟩
  have B1 := Lib.hid (B0.out.moved hd1 hf1)
  clear hd1 hf1 B0
  have GB := Lib.hid (Blk.new W1 108 (bv (D.reads 0 ++ D.reads 1)).toArray)
  have B2 := Lib.hid (B1.out.alloc (.cells (bv (D.reads 0 ++ D.reads 1)).toArray 108))
  go_wp2_with (refine wpList_load_mid rfl 108 (.tmp 7) rfl W1.heap.size 0 rfl (bv (D.reads 0 ++ D.reads 1)) _ GB.out.rangeAt Try.underlying108 rfl (by rw [hb2]; exact size112) ?_)
  generalize W1.alloc (.cells (bv (D.reads 0 ++ D.reads 1)).toArray 108) = U0 at GB B2 ⊢
  have A0 := Lib.hid B2.out
  clear GB B2 B1 hl2 hb2
  refine wp_loop_rounds 3 ?_
  rw [rounds_succ]
  have PB0 := Lib.hid (A0.out.alloc (.cells (bv (D.reads 0)).toArray 56))
  have PR0 := Lib.hid (Blk.new U0 56 (bv (D.reads 0)).toArray)
  go_wp2_with (first
    | (refine wpList_load47 rfl (.tmp 10) rfl U0.heap.size 0 rfl (D.reads 0) PR0.out.rangeAt L0.out ?_)
    | (go_at_call 50; refine (HO0.out _).mono ?_; rintro r Y0 ⟨rfl, hb⟩; have C0 := Lib.hid (PB0.out.next hb); have N0 := Lib.hid (blk_drew (Blk.new Y0 28 (Hd.cs h0).toArray)); have B0 := Lib.hid ((C0.out.alloc (.cells (Hd.cs h0).toArray 28)).drew); clear hb PB0 PR0))
  refine wp_region_only (S := fun w' => Blk w' Y0.heap.size 28 (Hd.cs h0).toArray) (by kernel_rfl) N0.out (fun hHeld => ?_)
  refine wpAnyH_take (i := 0) (v := ?v1) rfl (by kernel_rfl) (by kernel_rfl) (by kernel_rfl) (fun _ _ _ h => h) (Or.inl ⟨by rfl, ?hy1⟩) hHeld ?rest1
  case hy1 =>
    intro w' hSw
    try dsimp only at hSw
    go_simp
    first | done | with_reducible rfl
  try simp only [Act.put, zq1, zq3, zq4, zq5, zq6]
  refine wpAnyH_take (i := 1) (v := ?v2) rfl (by kernel_rfl) (by kernel_rfl) (by kernel_rfl) (fun _ _ _ h => h) (Or.inl ⟨by rfl, ?hy2⟩) hHeld ?rest2
  case hy2 =>
    intro w' hSw
    try dsimp only at hSw
    go_simp
    first | done | with_reducible rfl
  try simp only [Act.put, zq1, zq2, zq3, zq4, zq5, zq6]
  refine wpAnyH_take (i := 2) rfl (by kernel_rfl) (by kernel_rfl) (by kernel_rfl) (fun _ _ _ h => h) (yieldsIf_load_mid (by rfl) 28 (.tmp 11) (by rfl) Y0.heap.size 0 (by rfl) (Hd.cs h0) _ (fun w' hSw => Blk.rangeAt (l := Hd.cs h0) hSw) Try.underlying28 rfl (size23 _)) hHeld ?_
  try simp only [Act.put, zq1, zq2, zq3, zq4, zq5, zq6]
  refine wpAnyH_take (i := 3) (v := ?v3) rfl (by kernel_rfl) (by kernel_rfl) (by kernel_rfl) (fun _ _ _ h => h) (Or.inl ⟨by rfl, ?hy3⟩) hHeld ?rest3
  case hy3 =>
    intro w' hSw
    try dsimp only at hSw
    go_simp
    first | done | with_reducible rfl
  try simp only [Act.put, zq1, zq2, zq3, zq4, zq5, zq6]
  refine wpAnyH_ready (rs := [4]) (by kernel_rfl) (by simp) ?_
  refine AllReadyH.cons (by rfl) (fun K hK => ?_) AllReadyH.nil
  go_simp
  refine (size_at B0.out.da).mono ?_
  rintro r w' ⟨rfl, rfl⟩
  clear hHeld
  refine hK.out _ _ N0.out (fun hHeld => ?_)
  clear hK K
  try simp only [Act.put, zq1, zq2, zq3, zq4, zq5, zq6]
  refine wpAnyH_ready (rs := [5]) (by kernel_rfl) (by simp) ?_
  refine AllReadyH.cons (by rfl) (fun K hK => ?_) AllReadyH.nil
  go_simp
  refine (fits_any h0 O0.out _ _).mono ?_
  rw [show D.stepped.stepped.size = D.size from rfl, Q0.out]
  rintro r X0 ⟨rfl, hb⟩
  replace N0 := Lib.hid (N0.out.below hb N0.out.lt)
  replace B0 := Lib.hid (B0.out.next hb)
  clear hb hHeld
  refine hK.out _ _ N0.out (fun hHeld => ?_)
  clear hK K
  try dsimp only
  refine wpAnyH_take (i := 6) (v := ?v4) rfl (by kernel_rfl) (by kernel_rfl) (by kernel_rfl) (fun _ _ _ h => h) (Or.inl ⟨by rfl, ?hy4⟩) hHeld ?rest4
  case hy4 =>
    intro w' hSw
    try dsimp only at hSw
    go_simp
    first | done | with_reducible rfl
  try simp only [Act.put, zq1, zq2, zq3, zq4, zq5, zq6]
  refine wpAnyH_done (by kernel_rfl) ?_ _
  refine OnlyN.normal ?_
  clear hHeld
  obtain ⟨V0, hV⟩ : ∃ V, V = X0.setRow (w.heap.size + 1 + 1) ((cs2 hd0 hd0).take 0 ++ Hd.cs h0 ++ (cs2 hd0 hd0).drop (0 + (Hd.cs h0).length)).toArray := ⟨_, rfl⟩
  have P0 := Lib.hid (show Bt w base p pl D.stepped.stepped h0 hd0 false false V0 from by rw [hV]; exact B0.out.put5 h0 hd0)
  have c0 := (P0.out.h6.cell 0).trans (show _ = some (.bool false) from rfl)
  have f0 := P0.out.h6.frozen 0
  go_wp2_with (first
    | (refine wpList_load_mid rfl 28 (.tmp 11) rfl Y0.heap.size 0 rfl (Hd.cs h0) _ (Blk.rangeAt (l := Hd.cs h0) N0.out) Try.underlying28 rfl (size23 _) ?_)
    | (refine wpList_store_mid8 (off := 0) (l := cs2 hd0 hd0) (ys := Hd.cs h0) rfl 28 (.tmp 43) (.tmp 42) rfl B0.out.h5 rfl rfl (by simp [cs2]) (size23 _) (by simp [Value.oneCell']) ?_; rw [← hV]; clear hV))
  have A1 := Lib.hid P0.out.put6a
  generalize V0.setCell ⟨w.heap.size + 1 + 1 + 1, 0, none⟩ (.bool true) = U1 at A1 ⊢
  clear c0 f0 P0 B0 N0 C0 A0
  rw [rounds_succ]
  have PB1 := Lib.hid (A1.out.alloc (.cells (bv (D.reads 1)).toArray 56))
  have PR1 := Lib.hid (Blk.new U1 56 (bv (D.reads 1)).toArray)
  go_wp2_with (first
    | (refine wpList_load47 rfl (.tmp 10) rfl U1.heap.size 0 rfl (D.reads 1) PR1.out.rangeAt L1.out ?_)
    | (go_at_call 50; refine (HO1.out _).mono ?_; rintro r Y1 ⟨rfl, hb⟩; have C1 := Lib.hid (PB1.out.next hb); have N1 := Lib.hid (blk_drew (Blk.new Y1 28 (Hd.cs h1).toArray)); have B1 := Lib.hid ((C1.out.alloc (.cells (Hd.cs h1).toArray 28)).drew); clear hb PB1 PR1))
  refine wp_region_only (S := fun w' => Blk w' Y1.heap.size 28 (Hd.cs h1).toArray) (by kernel_rfl) N1.out (fun hHeld => ?_)
  refine wpAnyH_take (i := 0) (v := ?v5) rfl (by kernel_rfl) (by kernel_rfl) (by kernel_rfl) (fun _ _ _ h => h) (Or.inl ⟨by rfl, ?hy5⟩) hHeld ?rest5
  case hy5 =>
    intro w' hSw
    try dsimp only at hSw
    go_simp
    first | done | with_reducible rfl
  try simp only [Act.put, zq1, zq3, zq4, zq5, zq6]
  refine wpAnyH_take (i := 1) (v := ?v6) rfl (by kernel_rfl) (by kernel_rfl) (by kernel_rfl) (fun _ _ _ h => h) (Or.inl ⟨by rfl, ?hy6⟩) hHeld ?rest6
  case hy6 =>
    intro w' hSw
    try dsimp only at hSw
    go_simp
    first | done | with_reducible rfl
  try simp only [Act.put, zq1, zq2, zq3, zq4, zq5, zq6]
  refine wpAnyH_take (i := 2) rfl (by kernel_rfl) (by kernel_rfl) (by kernel_rfl) (fun _ _ _ h => h) (yieldsIf_load_mid (by rfl) 28 (.tmp 11) (by rfl) Y1.heap.size 0 (by rfl) (Hd.cs h1) _ (fun w' hSw => Blk.rangeAt (l := Hd.cs h1) hSw) Try.underlying28 rfl (size23 _)) hHeld ?_
  try simp only [Act.put, zq1, zq2, zq3, zq4, zq5, zq6]
  refine wpAnyH_take (i := 3) (v := ?v7) rfl (by kernel_rfl) (by kernel_rfl) (by kernel_rfl) (fun _ _ _ h => h) (Or.inl ⟨by rfl, ?hy7⟩) hHeld ?rest7
  case hy7 =>
    intro w' hSw
    try dsimp only at hSw
    go_simp
    first | done | with_reducible rfl
  try simp only [Act.put, zq1, zq2, zq3, zq4, zq5, zq6]
  refine wpAnyH_ready (rs := [4]) (by kernel_rfl) (by simp) ?_
  refine AllReadyH.cons (by rfl) (fun K hK => ?_) AllReadyH.nil
  go_simp
  refine (size_at B1.out.da).mono ?_
  rintro r w' ⟨rfl, rfl⟩
  clear hHeld
  refine hK.out _ _ N1.out (fun hHeld => ?_)
  clear hK K
  try simp only [Act.put, zq1, zq2, zq3, zq4, zq5, zq6]
  refine wpAnyH_ready (rs := [5]) (by kernel_rfl) (by simp) ?_
  refine AllReadyH.cons (by rfl) (fun K hK => ?_) AllReadyH.nil
  go_simp
  refine (fits_any h1 O1.out _ _).mono ?_
  rw [show D.stepped.stepped.size = D.size from rfl, Q1.out]
  rintro r X1 ⟨rfl, hb⟩
  replace N1 := Lib.hid (N1.out.below hb N1.out.lt)
  replace B1 := Lib.hid (B1.out.next hb)
  clear hb hHeld
  refine hK.out _ _ N1.out (fun hHeld => ?_)
  clear hK K
  try dsimp only
  refine wpAnyH_take (i := 6) (v := ?v8) rfl (by kernel_rfl) (by kernel_rfl) (by kernel_rfl) (fun _ _ _ h => h) (Or.inl ⟨by rfl, ?hy8⟩) hHeld ?rest8
  case hy8 =>
    intro w' hSw
    try dsimp only at hSw
    go_simp
    first | done | with_reducible rfl
  try simp only [Act.put, zq1, zq2, zq3, zq4, zq5, zq6]
  refine wpAnyH_done (by kernel_rfl) ?_ _
  refine OnlyN.normal ?_
  clear hHeld
  obtain ⟨V1, hV⟩ : ∃ V, V = X1.setRow (w.heap.size + 1 + 1) ((cs2 h0 hd0).take 3 ++ Hd.cs h1 ++ (cs2 h0 hd0).drop (3 + (Hd.cs h1).length)).toArray := ⟨_, rfl⟩
  have P1 := Lib.hid (show Bt w base p pl D.stepped.stepped h0 h1 true false V1 from by rw [hV]; exact B1.out.put5 h0 h1)
  have c1 := (P1.out.h6.cell 1).trans (show _ = some (.bool false) from rfl)
  have f1 := P1.out.h6.frozen 1
  go_wp2_with (first
    | (refine wpList_load_mid rfl 28 (.tmp 11) rfl Y1.heap.size 0 rfl (Hd.cs h1) _ (Blk.rangeAt (l := Hd.cs h1) N1.out) Try.underlying28 rfl (size23 _) ?_)
    | (refine wpList_store_mid8 (off := 3) (l := cs2 h0 hd0) (ys := Hd.cs h1) rfl 28 (.tmp 43) (.tmp 42) rfl B1.out.h5 rfl rfl (by simp [cs2]) (size23 _) (by simp [Value.oneCell']) ?_; rw [← hV]; clear hV))
  have A2 := Lib.hid P1.out.put6b
  generalize V1.setCell ⟨w.heap.size + 1 + 1 + 1, 1, none⟩ (.bool true) = U2 at A2 ⊢
  clear c1 f1 P1 B1 N1 C1 A1
  rw [rounds_succ]
  go_wp2_with fail
  have A3 := Lib.hid A2.out.drew
  refine wp_region_only (S := fun w' => Blk w' (w.heap.size + 1 + 1) 49 (cs2 h0 h1).toArray ∧ Blk w' (w.heap.size + 1 + 1 + 1) 50 #[.bool true, .bool true]) (by kernel_rfl) ⟨A3.out.h5, A3.out.h6⟩ (fun hHeld => ?_)
  refine wpAnyH_take (i := 0) rfl (by kernel_rfl) (by kernel_rfl) (by kernel_rfl) (fun _ _ _ h => h) (yieldsIf_load_mid (by rfl) 49 (.tmp 5) (by rfl) (w.heap.size + 1 + 1) 0 (by rfl) (cs2 h0 h1) _ (fun w' hSw => Blk.rangeAt (l := cs2 h0 h1) hSw.1) Try.underlying49 rfl (size52 _ _)) hHeld ?_
  try simp only [Act.put, zq1, zq3, zq4, zq5, zq6]
  refine wpAnyH_take (i := 1) rfl (by kernel_rfl) (by kernel_rfl) (by kernel_rfl) (fun _ _ _ h => h) (yieldsIf_load_mid (by rfl) 50 (.tmp 6) (by rfl) (w.heap.size + 1 + 1 + 1) 0 (by rfl) [.bool true, .bool true] _ (fun w' hSw => Blk.rangeAt (l := [.bool true, .bool true]) hSw.2) Try.underlying50 rfl (size53 _ _)) hHeld ?_
  try simp only [Act.put, zq1, zq2, zq3, zq4, zq5, zq6]
  refine wpAnyH_ready (rs := [2]) (by kernel_rfl) (by simp) ?_
  refine AllReadyH.cons (by rfl) (fun K hK => ?_) AllReadyH.nil
  refine step_store8 rfl 49 (.tmp 2) (.tmp 46) rfl (by rfl) (cs2 h0 h1).toArray (cs2 hd0 hd0).toArray 49 (by rfl) A3.out.h2 (by kernel_rfl) rfl (cs2_one _ _) ?_
  intro W6 j6 f6
  have J6 := Lib.hid j6
  have K6 := Lib.hid (f6.keepBlk A3.out.h3 (by omega))
  have K5 := Lib.hid (f6.keepBlk A3.out.h5 (by omega))
  have K4 := Lib.hid (f6.keepBlk A3.out.h6 (by omega))
  have D6 := Lib.hid (A3.out.da.fr f6 (fun k hk e => A3.out.nh k (by omega) hk))
  have F6 := Lib.hid (A3.out.fr.then_ f6 (fun i hi e => by omega))
  clear hHeld j6 f6
  refine hK.out _ _ ⟨K5.out, K4.out⟩ (fun hHeld => ?_)
  clear hK K
  try simp only [Act.put, zq1, zq2, zq3]
  refine wpAnyH_ready (rs := [3]) (by kernel_rfl) (by simp) ?_
  refine AllReadyH.cons (by rfl) (fun K hK => ?_) AllReadyH.nil
  refine step_store8 rfl 50 (.tmp 3) (.tmp 47) rfl (by rfl) #[.bool true, .bool true] #[.bool false, .bool false] 50 (by rfl) K6.out (by kernel_rfl) rfl (by simp [Value.oneCell']) ?_
  intro W7 j7 f7
  have J7 := Lib.hid j7
  have M7 := Lib.hid (f7.keepBlk J6.out (by omega))
  have M5 := Lib.hid (f7.keepBlk K5.out (by omega))
  have M4 := Lib.hid (f7.keepBlk K4.out (by omega))
  have D7 := Lib.hid (D6.out.fr f7 (fun k hk e => A3.out.nh k (by omega) hk))
  have F7 := Lib.hid (F6.out.then_ f7 (fun i hi e => by omega))
  clear hHeld j7 f7
  refine hK.out _ _ ⟨M5.out, M4.out⟩ (fun hHeld => ?_)
  clear hK K
  try simp only [Act.put, zq1, zq2, zq3]
  refine wpAnyH_take (i := 4) (v := ?v9) rfl (by kernel_rfl) (by kernel_rfl) (by kernel_rfl) (fun _ _ _ h => h) (Or.inl ⟨by rfl, ?hy9⟩) hHeld ?rest9
  case hy9 =>
    intro w' hSw
    try dsimp only at hSw
    go_simp
    first | done | with_reducible rfl
  try simp only [Act.put, zq1, zq2, zq3, zq4, zq5, zq6]
  refine wpAnyH_done (by kernel_rfl) ?_ _
  refine OnlyN.normal ?_
  clear hHeld
  go_wp2_with fail
  exact bodyPost_ret (results_both rfl _ _ w.heap.size (w.heap.size + 1) h0 h1 true true rfl rfl M7.out J7.out) rfl ⟨rfl, D7.out, F7.out⟩
set_option maxRecDepth 100000 in
set_option maxHeartbeats 8000000 in
theorem both_one {w : World} {base p : Nat} {pl : Pl} {D : Dk} (hd : DiskAt w base p pl D) (hN : D.waits.length ≤ 1000000) (hs : D.steps < 999990) (hf0 : D.next = false) (hf1 : D.stepped.next = false) (h0 : Hd)
    (o0 : 1 ≤ h0.o ∧ h0.o ≤ 64) (q0 : (20 + 3 * h0.o == (D.size : Int)) = true) 
    (ho0 : ∀ W : World, Calls Try.prog 50 #[sec (D.reads 0)] W fun r w' => r = .returned (.tuple #[h0.val, .bool true]) ∧ Below W.heap.size W w')
    (ho1 : ∀ W : World, Calls Try.prog 50 #[sec (D.reads 1)] W fun r w' => r = .returned (.tuple #[Hd.val hd0, .bool false]) ∧ Below W.heap.size W w') :
    Calls Try.prog 20 #[.pointer (some ⟨p, 0, none⟩)] w fun r w' => r = .returned (.tuple #[.agg (cs2 h0 hd0).toArray, .agg #[.bool true, .bool false], .int .i64 0]) ∧ DiskAt w' base p pl D.stepped.stepped ∧ Fr (pl.has p) w w' := by
  have hz := z52
  have hz3 := z53
  have hz2 := z112
  have hz4 := z47
  have hz5 := z23
  have Z2 := Lib.hid (show 2 ≤ D.size by have := beq_iff_eq.1 q0; omega)
  have O0 := Lib.hid o0
  have Q0 := Lib.hid q0
  skip
  have HO0 := Lib.hid ho0
  have HO1 := Lib.hid ho1
  have L0 := Lib.hid (show (D.reads 0).length = 512 from readL_length _ _ _ (hd.lens 0) (fun x hx => (hd.wlens x hx).1))
  have L1 := Lib.hid (show (D.reads 1).length = 512 from readL_length _ _ _ (hd.lens 1) (fun x hx => (hd.wlens x hx).1))
  have HN := Lib.hid hN
  have HS := Lib.hid hs
  have HF0 := Lib.hid hf0
  have HF1 := Lib.hid hf1
  have B0 := Lib.hid (bt_new hd)
  have hi0 := index112_0 (D.reads 0) (D.reads 1) L0.out
  have hi1 := index112_1 (D.reads 0) (D.reads 1) L0.out L1.out
  have m0 : (D.reads 0).length = zs.length := by rw [L0.out, zs_length]
  have m1 : (D.reads 1).length = zs.length := by rw [L1.out, zs_length]
  have n0 : (bv (D.reads 0)).length = 512 := by rw [bv_length, L0.out]
  have n1 : (bv (D.reads 1)).length = 512 := by rw [bv_length, L1.out]
  have hl2 : (D.reads 0 ++ D.reads 1).length = zs2.length := by rw [List.length_append, L0.out, L1.out, zs2_length]
  have hb2 : (bv (D.reads 0 ++ D.reads 1)).length = 1024 := by rw [bv_length, hl2, zs2_length]
  clear hd hN hs hf0 hf1 o0 q0 ho0 ho1
  go_enter Try.func20, Try.ntmps20
  go_wp2_with fail
  generalize (((w.alloc (.cells (cs2 hd0 hd0).toArray 49)).alloc (.cells #[.bool false, .bool false] 50)).alloc (.cells (cs2 hd0 hd0).toArray 49)).alloc (.cells #[.bool false, .bool false] 50) = W at B0 ⊢
  refine (sectors_any B0.out.da HN.out Z2.out HS.out HF0.out HF1.out).mono ?_
  rintro r W1 ⟨rfl, hd1, hf1⟩
  have B1 := Lib.hid (B0.out.moved hd1 hf1)
  clear hd1 hf1 B0
  have GB := Lib.hid (Blk.new W1 108 (bv (D.reads 0 ++ D.reads 1)).toArray)
  have B2 := Lib.hid (B1.out.alloc (.cells (bv (D.reads 0 ++ D.reads 1)).toArray 108))
  go_wp2_with (refine wpList_load_mid rfl 108 (.tmp 7) rfl W1.heap.size 0 rfl (bv (D.reads 0 ++ D.reads 1)) _ GB.out.rangeAt Try.underlying108 rfl (by rw [hb2]; exact size112) ?_)
  generalize W1.alloc (.cells (bv (D.reads 0 ++ D.reads 1)).toArray 108) = U0 at GB B2 ⊢
  have A0 := Lib.hid B2.out
  clear GB B2 B1 hl2 hb2
  refine wp_loop_rounds 3 ?_
  rw [rounds_succ]
  have PB0 := Lib.hid (A0.out.alloc (.cells (bv (D.reads 0)).toArray 56))
  have PR0 := Lib.hid (Blk.new U0 56 (bv (D.reads 0)).toArray)
  go_wp2_with (first
    | (refine wpList_load47 rfl (.tmp 10) rfl U0.heap.size 0 rfl (D.reads 0) PR0.out.rangeAt L0.out ?_)
    | (go_at_call 50; refine (HO0.out _).mono ?_; rintro r Y0 ⟨rfl, hb⟩; have C0 := Lib.hid (PB0.out.next hb); have N0 := Lib.hid (blk_drew (Blk.new Y0 28 (Hd.cs h0).toArray)); have B0 := Lib.hid ((C0.out.alloc (.cells (Hd.cs h0).toArray 28)).drew); clear hb PB0 PR0))
  refine wp_region_only (S := fun w' => Blk w' Y0.heap.size 28 (Hd.cs h0).toArray) (by kernel_rfl) N0.out (fun hHeld => ?_)
  refine wpAnyH_take (i := 0) (v := ?v10) rfl (by kernel_rfl) (by kernel_rfl) (by kernel_rfl) (fun _ _ _ h => h) (Or.inl ⟨by rfl, ?hy10⟩) hHeld ?rest10
  case hy10 =>
    intro w' hSw
    try dsimp only at hSw
    go_simp
    first | done | with_reducible rfl
  try simp only [Act.put, zq1, zq3, zq4, zq5, zq6]
  refine wpAnyH_take (i := 1) (v := ?v11) rfl (by kernel_rfl) (by kernel_rfl) (by kernel_rfl) (fun _ _ _ h => h) (Or.inl ⟨by rfl, ?hy11⟩) hHeld ?rest11
  case hy11 =>
    intro w' hSw
    try dsimp only at hSw
    go_simp
    first | done | with_reducible rfl
  try simp only [Act.put, zq1, zq2, zq3, zq4, zq5, zq6]
  refine wpAnyH_take (i := 2) rfl (by kernel_rfl) (by kernel_rfl) (by kernel_rfl) (fun _ _ _ h => h) (yieldsIf_load_mid (by rfl) 28 (.tmp 11) (by rfl) Y0.heap.size 0 (by rfl) (Hd.cs h0) _ (fun w' hSw => Blk.rangeAt (l := Hd.cs h0) hSw) Try.underlying28 rfl (size23 _)) hHeld ?_
  try simp only [Act.put, zq1, zq2, zq3, zq4, zq5, zq6]
  refine wpAnyH_take (i := 3) (v := ?v12) rfl (by kernel_rfl) (by kernel_rfl) (by kernel_rfl) (fun _ _ _ h => h) (Or.inl ⟨by rfl, ?hy12⟩) hHeld ?rest12
  case hy12 =>
    intro w' hSw
    try dsimp only at hSw
    go_simp
    first | done | with_reducible rfl
  try simp only [Act.put, zq1, zq2, zq3, zq4, zq5, zq6]
  refine wpAnyH_ready (rs := [4]) (by kernel_rfl) (by simp) ?_
  refine AllReadyH.cons (by rfl) (fun K hK => ?_) AllReadyH.nil
  go_simp
  refine (size_at B0.out.da).mono ?_
  rintro r w' ⟨rfl, rfl⟩
  clear hHeld
  refine hK.out _ _ N0.out (fun hHeld => ?_)
  clear hK K
  try simp only [Act.put, zq1, zq2, zq3, zq4, zq5, zq6]
  refine wpAnyH_ready (rs := [5]) (by kernel_rfl) (by simp) ?_
  refine AllReadyH.cons (by rfl) (fun K hK => ?_) AllReadyH.nil
  go_simp
  refine (fits_any h0 O0.out _ _).mono ?_
  rw [show D.stepped.stepped.size = D.size from rfl, Q0.out]
  rintro r X0 ⟨rfl, hb⟩
  replace N0 := Lib.hid (N0.out.below hb N0.out.lt)
  replace B0 := Lib.hid (B0.out.next hb)
  clear hb hHeld
  refine hK.out _ _ N0.out (fun hHeld => ?_)
  clear hK K
  try dsimp only
  refine wpAnyH_take (i := 6) (v := ?v13) rfl (by kernel_rfl) (by kernel_rfl) (by kernel_rfl) (fun _ _ _ h => h) (Or.inl ⟨by rfl, ?hy13⟩) hHeld ?rest13
  case hy13 =>
    intro w' hSw
    try dsimp only at hSw
    go_simp
    first | done | with_reducible rfl
  try simp only [Act.put, zq1, zq2, zq3, zq4, zq5, zq6]
  refine wpAnyH_done (by kernel_rfl) ?_ _
  refine OnlyN.normal ?_
  clear hHeld
  obtain ⟨V0, hV⟩ : ∃ V, V = X0.setRow (w.heap.size + 1 + 1) ((cs2 hd0 hd0).take 0 ++ Hd.cs h0 ++ (cs2 hd0 hd0).drop (0 + (Hd.cs h0).length)).toArray := ⟨_, rfl⟩
  have P0 := Lib.hid (show Bt w base p pl D.stepped.stepped h0 hd0 false false V0 from by rw [hV]; exact B0.out.put5 h0 hd0)
  have c0 := (P0.out.h6.cell 0).trans (show _ = some (.bool false) from rfl)
  have f0 := P0.out.h6.frozen 0
  go_wp2_with (first
    | (refine wpList_load_mid rfl 28 (.tmp 11) rfl Y0.heap.size 0 rfl (Hd.cs h0) _ (Blk.rangeAt (l := Hd.cs h0) N0.out) Try.underlying28 rfl (size23 _) ?_)
    | (refine wpList_store_mid8 (off := 0) (l := cs2 hd0 hd0) (ys := Hd.cs h0) rfl 28 (.tmp 43) (.tmp 42) rfl B0.out.h5 rfl rfl (by simp [cs2]) (size23 _) (by simp [Value.oneCell']) ?_; rw [← hV]; clear hV))
  have A1 := Lib.hid P0.out.put6a
  generalize V0.setCell ⟨w.heap.size + 1 + 1 + 1, 0, none⟩ (.bool true) = U1 at A1 ⊢
  clear c0 f0 P0 B0 N0 C0 A0
  rw [rounds_succ]
  have PB1 := Lib.hid (A1.out.alloc (.cells (bv (D.reads 1)).toArray 56))
  have PR1 := Lib.hid (Blk.new U1 56 (bv (D.reads 1)).toArray)
  go_wp2_with (first
    | (refine wpList_load47 rfl (.tmp 10) rfl U1.heap.size 0 rfl (D.reads 1) PR1.out.rangeAt L1.out ?_)
    | (go_at_call 50; refine (HO1.out _).mono ?_; rintro r Y1 ⟨rfl, hb⟩; have C1 := Lib.hid (PB1.out.next hb); have N1 := Lib.hid (blk_drew (Blk.new Y1 28 (Hd.cs hd0).toArray)); have B1 := Lib.hid ((C1.out.alloc (.cells (Hd.cs hd0).toArray 28)).drew); clear hb PB1 PR1))
  refine wp_region_only (S := fun _ => True) (by kernel_rfl) trivial (fun hHeld => ?_)
  refine wpAnyH_take (i := 0) (v := ?v14) rfl (by kernel_rfl) (by kernel_rfl) (by kernel_rfl) (fun _ _ _ h => h) (Or.inl ⟨by rfl, ?hy14⟩) hHeld ?rest14
  case hy14 =>
    intro w' hSw
    try dsimp only at hSw
    go_simp
    first | done | with_reducible rfl
  try simp only [Act.put, zq1, zq3, zq4, zq5, zq6]
  refine wpAnyH_take (i := 1) (v := ?v15) rfl (by kernel_rfl) (by kernel_rfl) (by kernel_rfl) (fun _ _ _ h => h) (Or.inl ⟨by rfl, ?hy15⟩) hHeld ?rest15
  case hy15 =>
    intro w' hSw
    try dsimp only at hSw
    go_simp
    first | done | with_reducible rfl
  try simp only [Act.put, zq1, zq2, zq3, zq4, zq5, zq6]
  refine wpAnyH_take (i := 2) (v := undef) rfl (by kernel_rfl) (by kernel_rfl) (by kernel_rfl) (fun _ _ _ h => h) (Or.inr ⟨by rfl, rfl⟩) hHeld ?_
  try simp only [Act.put, zq1, zq2, zq3, zq4, zq5, zq6]
  refine wpAnyH_take (i := 3) (v := undef) rfl (by kernel_rfl) (by kernel_rfl) (by kernel_rfl) (fun _ _ _ h => h) (Or.inr ⟨by rfl, rfl⟩) hHeld ?_
  try simp only [Act.put, zq1, zq2, zq3, zq4, zq5, zq6]
  refine wpAnyH_take (i := 4) (v := undef) rfl (by kernel_rfl) (by kernel_rfl) (by kernel_rfl) (fun _ _ _ h => h) (Or.inr ⟨by rfl, rfl⟩) hHeld ?_
  try simp only [Act.put, zq1, zq2, zq3, zq4, zq5, zq6]
  refine wpAnyH_take (i := 5) (v := undef) rfl (by kernel_rfl) (by kernel_rfl) (by kernel_rfl) (fun _ _ _ h => h) (Or.inr ⟨by rfl, rfl⟩) hHeld ?_
  try simp only [Act.put, zq1, zq2, zq3, zq4, zq5, zq6]
  refine wpAnyH_take (i := 6) (v := ?v16) rfl (by kernel_rfl) (by kernel_rfl) (by kernel_rfl) (fun _ _ _ h => h) (Or.inl ⟨by rfl, ?hy16⟩) hHeld ?rest16
  case hy16 =>
    intro w' hSw
    try dsimp only at hSw
    go_simp
    first | done | with_reducible rfl
  try simp only [Act.put, zq1, zq2, zq3, zq4, zq5, zq6]
  refine wpAnyH_done (by kernel_rfl) ?_ _
  refine OnlyN.normal ?_
  clear hHeld
  go_wp2_with fail
  have A2 := Lib.hid B1.out
  generalize (Y1.alloc (.cells (Hd.cs hd0).toArray 28)).drew = U2 at A2 ⊢
  clear B1 N1 C1 A1
  rw [rounds_succ]
  go_wp2_with fail
  have A3 := Lib.hid A2.out.drew
  refine wp_region_only (S := fun w' => Blk w' (w.heap.size + 1 + 1) 49 (cs2 h0 hd0).toArray ∧ Blk w' (w.heap.size + 1 + 1 + 1) 50 #[.bool true, .bool false]) (by kernel_rfl) ⟨A3.out.h5, A3.out.h6⟩ (fun hHeld => ?_)
  refine wpAnyH_take (i := 0) rfl (by kernel_rfl) (by kernel_rfl) (by kernel_rfl) (fun _ _ _ h => h) (yieldsIf_load_mid (by rfl) 49 (.tmp 5) (by rfl) (w.heap.size + 1 + 1) 0 (by rfl) (cs2 h0 hd0) _ (fun w' hSw => Blk.rangeAt (l := cs2 h0 hd0) hSw.1) Try.underlying49 rfl (size52 _ _)) hHeld ?_
  try simp only [Act.put, zq1, zq3, zq4, zq5, zq6]
  refine wpAnyH_take (i := 1) rfl (by kernel_rfl) (by kernel_rfl) (by kernel_rfl) (fun _ _ _ h => h) (yieldsIf_load_mid (by rfl) 50 (.tmp 6) (by rfl) (w.heap.size + 1 + 1 + 1) 0 (by rfl) [.bool true, .bool false] _ (fun w' hSw => Blk.rangeAt (l := [.bool true, .bool false]) hSw.2) Try.underlying50 rfl (size53 _ _)) hHeld ?_
  try simp only [Act.put, zq1, zq2, zq3, zq4, zq5, zq6]
  refine wpAnyH_ready (rs := [2]) (by kernel_rfl) (by simp) ?_
  refine AllReadyH.cons (by rfl) (fun K hK => ?_) AllReadyH.nil
  refine step_store8 rfl 49 (.tmp 2) (.tmp 46) rfl (by rfl) (cs2 h0 hd0).toArray (cs2 hd0 hd0).toArray 49 (by rfl) A3.out.h2 (by kernel_rfl) rfl (cs2_one _ _) ?_
  intro W6 j6 f6
  have J6 := Lib.hid j6
  have K6 := Lib.hid (f6.keepBlk A3.out.h3 (by omega))
  have K5 := Lib.hid (f6.keepBlk A3.out.h5 (by omega))
  have K4 := Lib.hid (f6.keepBlk A3.out.h6 (by omega))
  have D6 := Lib.hid (A3.out.da.fr f6 (fun k hk e => A3.out.nh k (by omega) hk))
  have F6 := Lib.hid (A3.out.fr.then_ f6 (fun i hi e => by omega))
  clear hHeld j6 f6
  refine hK.out _ _ ⟨K5.out, K4.out⟩ (fun hHeld => ?_)
  clear hK K
  try simp only [Act.put, zq1, zq2, zq3]
  refine wpAnyH_ready (rs := [3]) (by kernel_rfl) (by simp) ?_
  refine AllReadyH.cons (by rfl) (fun K hK => ?_) AllReadyH.nil
  refine step_store8 rfl 50 (.tmp 3) (.tmp 47) rfl (by rfl) #[.bool true, .bool false] #[.bool false, .bool false] 50 (by rfl) K6.out (by kernel_rfl) rfl (by simp [Value.oneCell']) ?_
  intro W7 j7 f7
  have J7 := Lib.hid j7
  have M7 := Lib.hid (f7.keepBlk J6.out (by omega))
  have M5 := Lib.hid (f7.keepBlk K5.out (by omega))
  have M4 := Lib.hid (f7.keepBlk K4.out (by omega))
  have D7 := Lib.hid (D6.out.fr f7 (fun k hk e => A3.out.nh k (by omega) hk))
  have F7 := Lib.hid (F6.out.then_ f7 (fun i hi e => by omega))
  clear hHeld j7 f7
  refine hK.out _ _ ⟨M5.out, M4.out⟩ (fun hHeld => ?_)
  clear hK K
  try simp only [Act.put, zq1, zq2, zq3]
  refine wpAnyH_take (i := 4) (v := ?v17) rfl (by kernel_rfl) (by kernel_rfl) (by kernel_rfl) (fun _ _ _ h => h) (Or.inl ⟨by rfl, ?hy17⟩) hHeld ?rest17
  case hy17 =>
    intro w' hSw
    try dsimp only at hSw
    go_simp
    first | done | with_reducible rfl
  try simp only [Act.put, zq1, zq2, zq3, zq4, zq5, zq6]
  refine wpAnyH_done (by kernel_rfl) ?_ _
  refine OnlyN.normal ?_
  clear hHeld
  go_wp2_with fail
  exact bodyPost_ret (results_both rfl _ _ w.heap.size (w.heap.size + 1) h0 hd0 true false rfl rfl M7.out J7.out) rfl ⟨rfl, D7.out, F7.out⟩
end Go.Proofs.Ytjfcmoappbfnjaa

namespace Go.Proofs.Ytjfcmoappbfnjaa
open List renaming getElem_toArray → zq1, getElem_cons_succ → zq2, getElem_cons_zero → zq3, setIfInBounds_toArray → zq4, set_cons_zero → zq5, set_cons_succ → zq6
open Go.RowKit
attribute [local go_sem] Oper.semAt_some
theorem hd_range8 {w : World} {g k n : Nat} {l m : List UInt8} (h : w.rangeAt g 0 (bv l)) (hm : (l.drop k).take n = m) : w.rangeAt g k (bv m) := fun j v hv => by
  subst hm
  have h2 := h (k + j) v
  rw [Nat.zero_add] at h2
  apply h2
  rw [bv_get] at hv ⊢
  rw [List.getElem?_take] at hv
  split at hv
  · rw [List.getElem?_drop] at hv
    exact hv
  · cases hv
set_option maxRecDepth 8000 in
theorem yields_same144 {ops : Array Oper} {S : World → Prop} {o : Oper} {a : Act} (hw : Region.wanted o (yielded ops a.tmps) = true) (x y : Operand) (ho : o.op = .binOp .neq 137 x y 137) (l : List UInt8) (hx : a.eval x = sec l) (hy : a.eval y = sec l) (h : l.length = 484) : YieldsIf Try.prog ops S o (.bool false) a := by
  have := yields_neq144 (S := S) hw x y ho l l hx hy h h
  rw [beq_self_eq_true] at this
  exact this
set_option maxRecDepth 8000 in
theorem yields_same145 {ops : Array Oper} {S : World → Prop} {o : Oper} {a : Act} (hw : Region.wanted o (yielded ops a.tmps) = true) (x y : Operand) (ho : o.op = .binOp .neq 138 x y 138) (l : List UInt8) (hx : a.eval x = sec l) (hy : a.eval y = sec l) (h : l.length = 8) : YieldsIf Try.prog ops S o (.bool false) a := by
  have := yields_neq145 (S := S) hw x y ho l l hx hy h h
  rw [beq_self_eq_true] at this
  exact this
set_option maxRecDepth 100000 in
set_option maxHeartbeats 4000000 in
theorem headerOf_no {w : World} (l : List UInt8) (hl : l.length = 512) (hq : ((S.numLE (l.drop 508) : Int) != (S.crcN (l.take 508) : Int)) = true) :
    Calls Try.prog 50 #[sec l] w fun r w' => r = .returned (.tuple #[Hd.val ⟨0, 0, 0⟩, .bool false]) ∧ Below w.heap.size w w' := by
  have hz := z23
  have HL := Lib.hid hl
  have HQ := Lib.hid hq
  have hbl : (bv l).length = 512 := by rw [bv_length, hl]
  have B0 := Lib.hid ((Blk.new w 56 (bv l).toArray).alloc (.cells (Hd.cs ⟨0, 0, 0⟩).toArray 28))
  have B1 := Lib.hid (blk_new1 w (.cells (bv l).toArray 56) 28 (Hd.cs ⟨0, 0, 0⟩).toArray)
  have L0 := Lib.hid (((Below.refl w.heap.size w).alloc (Nat.le_refl _) (.cells (bv l).toArray 56)).alloc (by simp) (.cells (Hd.cs ⟨0, 0, 0⟩).toArray 28))
  clear hl hq
  go_enter Try.func50, Try.ntmps50
  go_wp2_with fail
  refine wp_scope_jumps 0 (fun a' w' => a' = { tmps := #[sec l, .pointer (some ⟨w.heap.size, 0, none⟩), .pointer (some ⟨w.heap.size + 1, 0, none⟩), .bool false, .int .i64 0, .slice none 0 0, .bool false, .tuple #[.slice none 0 0, .bool false], .slice (some ⟨w.heap.size, 0, none⟩) 512 512, .tuple #[.slice none 0 0, .bool false], .slice none 0 0, .bool false, .bool false, .bool true, .bool true, undef, undef, undef, undef, .bool true, undef, undef, undef, undef, undef, undef, undef, undef, undef, undef, undef, undef, undef, undef, undef, undef, undef, undef, undef, undef, undef, undef, undef, undef], defers := [] } ∧ Blk w' (w.heap.size + 1) 28 (Hd.cs ⟨0, 0, 0⟩).toArray ∧ Below w.heap.size w w') (fun _ _ => 0) rfl ?first ?pass
  case first =>
    go_wp2_with fail
    refine (S.sealed_not (some ⟨w.heap.size, 0, none⟩) 508 512 l _ HL.out (by omega) (rd_bv B0.out) (by omega) HQ.out).mono ?_
    rintro r W1 ⟨rfl, hb⟩
    have B2 := Lib.hid (B1.out.below hb B1.out.lt)
    have L1 := Lib.hid (L0.out.trans (hb.mono L0.out.size))
    clear hb
    go_wp2_with fail
    go_step3
    exact ⟨rfl, rfl, B2.out, L1.out⟩
  case pass =>
    rintro a' W2 ⟨rfl, b2, l2⟩
    have B2 := Lib.hid b2
    have L2 := Lib.hid l2
    clear b2 l2
    go_wp2_with (first
      | (refine wpList_store_row rfl 28 (.tmp 2) (.tmp 43) rfl (w.heap.size + 1) (Hd.cs ⟨0, 0, 0⟩).toArray rfl rfl 28 _ B2.out (by kernel_rfl) rfl (one23 _) ?_))
    simp only [Exit.jump]
    exact bodyPost_ret (results_hd rfl _ _ (w.heap.size + 1) ⟨0, 0, 0⟩ rfl (B2.out.setRow _)) rfl ⟨rfl, below_setRow L2.out (by omega) _⟩
set_option maxRecDepth 100000 in
set_option maxHeartbeats 4000000 in
theorem headerOf_yes {w : World} (e a o : Nat) (he : (e : Int) ≤ 9223372036854775807) (ha : (a : Int) ≤ 65535) (ho : (o : Int) ≤ 65535) (hok : Hd.no ⟨e, a, o⟩ = 0) :
    Calls Try.prog 50 #[sec (hdS e a o)] w fun r w' => r = .returned (.tuple #[Hd.val ⟨e, a, o⟩, .bool true]) ∧ Below w.heap.size w w' := by
  have hz := z23
  have HE := Lib.hid he
  have HA := Lib.hid ha
  have HO := Lib.hid ho
  have HK := Lib.hid hok
  obtain ⟨l, hl⟩ : ∃ l, l = hdS e a o := ⟨_, rfl⟩
  have HL := Lib.hid hl
  have HLN := Lib.hid (show l.length = 512 by rw [hl]; exact hdS_length _ _ _)
  have hbl : (bv l).length = 512 := by rw [bv_length, HLN.out]
  rw [← hl]
  have B0 := Lib.hid ((Blk.new w 56 (bv l).toArray).alloc (.cells (Hd.cs ⟨0, 0, 0⟩).toArray 28))
  have B1 := Lib.hid (blk_new1 w (.cells (bv l).toArray 56) 28 (Hd.cs ⟨0, 0, 0⟩).toArray)
  have L0 := Lib.hid (((Below.refl w.heap.size w).alloc (Nat.le_refl _) (.cells (bv l).toArray 56)).alloc (by simp) (.cells (Hd.cs ⟨0, 0, 0⟩).toArray 28))
  obtain ⟨zz, hzz⟩ : ∃ zz : List UInt8, zz = List.replicate 484 0 := ⟨_, rfl⟩
  have HZ := Lib.hid (show zz.length = 484 by rw [hzz, List.length_replicate])
  have HZZ := Lib.hid hzz
  have HC16 := Lib.hid (show ((hdL e a o).drop 16).take 484 = zz by rw [hzz]; exact hd_cut16 e a o)
  clear he ha ho hok hl hzz
  go_enter Try.func50, Try.ntmps50
  go_wp2_with fail
  go_step3
  go_wp2_with fail
  refine (S.sealed_yes (some ⟨w.heap.size, 0, none⟩) 508 512 l _ HLN.out (by omega) (rd_bv B0.out) (by omega) (by rw [HL.out]; exact hdS_ok e a o)).mono ?_
  rintro r W1 ⟨v, rfl, hown, hb⟩
  rw [HL.out, hdS_take] at hown
  obtain ⟨A', c, rfl⟩ := own_shape hown
  obtain ⟨g, rfl, hg, hgl⟩ := own_addr' hown (by omega)
  have hc := own_cap hown
  have RG := Lib.hid (own_range hown)
  have RR := Lib.hid (Rd.of_own hown)
  have B2 := Lib.hid (B1.out.below hb B1.out.lt)
  have L1 := Lib.hid (L0.out.trans (hb.mono L0.out.size))
  have hcv : (convert 22 9 (.slice (some ⟨g, 0, none⟩) 4 c)).run Try.prog W1 = .ok (.string ⟨#[67, 72, 72, 68]⟩) W1 := by
    have h4 := RR.out.take 4
    rw [hd_cut0] at h4
    exact run_str W1 Try.underlying22 Try.underlying5 Try.underlying9 rfl h4
  have hr1 := fun W : World => arr_run Try.underlying137 W (some ⟨g, 16, none⟩) 484 (c - 16) (Nat.le_refl _)
  have hr2 := fun W : World => arr_run Try.underlying138 W (some ⟨g, 4, none⟩) 8 (c - 4) (Nat.le_refl _)
  have hr3 := fun W : World => arr_run Try.underlying138 W (some ⟨g, 500, none⟩) 8 (c - 500) (Nat.le_refl _)
  have c4 : 4 ≤ c := by omega
  have c12 : 12 ≤ c := by omega
  have c500 : 500 ≤ c := by omega
  have k12 : (12 : Int) ≤ (c : Int) := by omega
  have k508 : (508 : Int) ≤ (c : Int) := by omega
  have k500 : (500 : Int) ≤ (c : Int) := by omega
  have e4 : ¬ c = 4 := by omega
  have e16 : ¬ c = 16 := by omega
  have e500 : ¬ c = 500 := by omega
  clear hown hb hg hgl B0 B1 L0 hbl
  go_wp2_with (first
    | (refine wpList_load_mid rfl 137 (.tmp 22) rfl g 16 rfl (bv zz) _ (hd_range8 RG.out HC16.out) Try.underlying137 rfl (by rw [bv_length, HZ.out]; exact size144) ?_)
    | (refine wpList_y8 (S := fun _ => True) (yields_build144 zz HZZ.out (by rfl) rfl) trivial ?_)
    | (refine wpList_y8 (S := fun _ => True) (yields_same144 (by rfl) (.tmp 23) (.tmp 24) rfl zz (by rfl) (by rfl) HZ.out) trivial ?_))
  refine wp_region_only (S := fun w' => w'.rangeAt g 0 (bv (hdL e a o))) (by kernel_rfl) RG.out (fun hHeld => ?_)
  refine wpAnyH_take (i := 0) (v := ?v1) rfl (by kernel_rfl) (by kernel_rfl) (by kernel_rfl) (fun _ _ _ h => h) (Or.inl ⟨by rfl, ?hy1⟩) hHeld ?rest1
  case hy1 =>
    intro w' hSw
    try dsimp only at hSw
    go_simp
    first | done | with_reducible rfl
  try simp only [Act.put, zq1, zq3, zq4, zq5, zq6]
  refine wpAnyH_take (i := 1) (v := ?v2) rfl (by kernel_rfl) (by kernel_rfl) (by kernel_rfl) (fun _ _ _ h => h) (Or.inl ⟨by rfl, ?hy2⟩) hHeld ?rest2
  case hy2 =>
    intro w' hSw
    try dsimp only at hSw
    go_simp
    first | done | with_reducible rfl
  try simp only [Act.put, zq1, zq2, zq3, zq4, zq5, zq6]
  refine wpAnyH_take (i := 2) (v := ?v3) rfl (by kernel_rfl) (by kernel_rfl) (by kernel_rfl) (fun _ _ _ h => h) (Or.inl ⟨by rfl, ?hy3⟩) hHeld ?rest3
  case hy3 =>
    intro w' hSw
    try dsimp only at hSw
    go_simp
    first | done | with_reducible rfl
  try simp only [Act.put, zq1, zq2, zq3, zq4, zq5, zq6]
  refine wpAnyH_take (i := 3) rfl (by kernel_rfl) (by kernel_rfl) (by kernel_rfl) (fun _ _ _ h => h) (yieldsIf_load_mid (by rfl) 138 (.tmp 28) (by rfl) g 4 (by rfl) (bv (S.bytesLE 8 e)) _ (fun w' hSw => hd_range8 hSw (hd_cut4 e a o)) Try.underlying138 rfl (by rw [bv_length, S.bytesLE_length]; exact size145)) hHeld ?_
  try simp only [Act.put, zq1, zq2, zq3, zq4, zq5, zq6]
  refine wpAnyH_take (i := 4) (v := ?v4) rfl (by kernel_rfl) (by kernel_rfl) (by kernel_rfl) (fun _ _ _ h => h) (Or.inl ⟨by rfl, ?hy4⟩) hHeld ?rest4
  case hy4 =>
    intro w' hSw
    try dsimp only at hSw
    go_simp
    first | done | with_reducible rfl
  try simp only [Act.put, zq1, zq2, zq3, zq4, zq5, zq6]
  refine wpAnyH_take (i := 5) (v := ?v5) rfl (by kernel_rfl) (by kernel_rfl) (by kernel_rfl) (fun _ _ _ h => h) (Or.inl ⟨by rfl, ?hy5⟩) hHeld ?rest5
  case hy5 =>
    intro w' hSw
    try dsimp only at hSw
    go_simp
    first | done | with_reducible rfl
  try simp only [Act.put, zq1, zq2, zq3, zq4, zq5, zq6]
  refine wpAnyH_take (i := 6) (v := ?v6) rfl (by kernel_rfl) (by kernel_rfl) (by kernel_rfl) (fun _ _ _ h => h) (Or.inl ⟨by rfl, ?hy6⟩) hHeld ?rest6
  case hy6 =>
    intro w' hSw
    try dsimp only at hSw
    go_simp
    first | done | with_reducible rfl
  try simp only [Act.put, zq1, zq2, zq3, zq4, zq5, zq6]
  refine wpAnyH_take (i := 7) rfl (by kernel_rfl) (by kernel_rfl) (by kernel_rfl) (fun _ _ _ h => h) (yieldsIf_load_mid (by rfl) 138 (.tmp 32) (by rfl) g 500 (by rfl) (bv (S.bytesLE 8 e)) _ (fun w' hSw => hd_range8 hSw (hd_cut500 e a o)) Try.underlying138 rfl (by rw [bv_length, S.bytesLE_length]; exact size145)) hHeld ?_
  try simp only [Act.put, zq1, zq2, zq3, zq4, zq5, zq6]
  refine wpAnyH_take (i := 8) rfl (by kernel_rfl) (by kernel_rfl) (by kernel_rfl) (fun _ _ _ h => h) (yields_same145 (by rfl) (.tmp 29) (.tmp 33) (by rfl) (S.bytesLE 8 e) (by rfl) (by rfl) (S.bytesLE_length _ _)) hHeld ?_
  try simp only [Act.put, zq1, zq2, zq3, zq4, zq5, zq6]
  refine wpAnyH_done (by kernel_rfl) ?_ _
  refine OnlyN.normal ?_
  clear hHeld
  replace RR := Lib.hid (show Rd W1.drew (some ⟨g, 0, none⟩) (hdL e a o) from RR.out)
  replace B2 := Lib.hid (blk_drew B2.out)
  replace L1 := Lib.hid L1.out.drew
  go_wp2_with (first
    | (go_at_call 68; refine (said_yes g c e a o hc RR.out HE.out HA.out HO.out HK.out).mono ?_; rintro r W2 ⟨rfl, hb⟩; have B3 := Lib.hid (B2.out.below hb B2.out.lt); have L2 := Lib.hid (L1.out.trans (hb.mono L1.out.size)); clear hb)
    | (refine wpList_store_row rfl 28 (.tmp 2) (.tmp 38) rfl (w.heap.size + 1) (Hd.cs ⟨e, a, o⟩).toArray rfl rfl 28 _ B3.out (by kernel_rfl) rfl (one23 _) ?_; have B4 := Lib.hid (B3.out.setRow (Hd.cs ⟨e, a, o⟩).toArray); have L3 := Lib.hid (show Below w.heap.size w (W2.setRow (w.heap.size + 1) (Hd.cs ⟨e, a, o⟩).toArray) from below_setRow L2.out (by omega) (Hd.cs ⟨e, a, o⟩).toArray))
    | (refine wpList_load_mid rfl 28 (.tmp 2) rfl (w.heap.size + 1) 0 rfl (Hd.cs ⟨e, a, o⟩) _ (Blk.rangeAt (l := (Hd.cs ⟨e, a, o⟩)) B4.out) Try.underlying28 rfl (size23 _) ?_)
    | (refine wpList_store_row rfl 28 (.tmp 2) (.tmp 42) rfl (w.heap.size + 1) (Hd.cs ⟨e, a, o⟩).toArray rfl rfl 28 _ B4.out (by kernel_rfl) rfl (one23 _) ?_))
  rw [Exit.noGoto_ret]
  exact bodyPost_ret (results_hd rfl _ _ (w.heap.size + 1) ⟨e, a, o⟩ rfl (B4.out.setRow _)) rfl ⟨rfl, below_setRow L3.out (by omega) _⟩
end Go.Proofs.Ytjfcmoappbfnjaa

namespace Go.Proofs.Ytjfcmoappbfnjaa
open List renaming getElem_toArray → zq1, getElem_cons_succ → zq2, getElem_cons_zero → zq3, setIfInBounds_toArray → zq4, set_cons_zero → zq5, set_cons_succ → zq6
open Go.RowKit
attribute [local go_sem] Oper.semAt_some
theorem own_grown {w w' : World} {base n : Nat} {v : Value} {xs : List Value} (ho : w.ownsRow base 5 1 v n xs) (hg : w.grownBy w' v.ownBlock) (hb : base ≤ w.heap.size) : Below base w w' :=
  (Below.refl base w).grown hg hb (fun k hk => (ho.lt k hk).1)
/-- a block of functions is none of bytes -/
theorem own_blk6 {w w' : World} {base n g : Nat} {v : Value} {xs : List Value} {cs : Array Value} (ho : w.ownsRow base 5 1 v n xs) (h : Blk w g 127 cs) (hg : w.grownBy w' v.ownBlock) : Blk w' g 127 cs :=
  (hg.block g h.lt (fun e => by
    rcases ho.2 with ⟨hv, _⟩ | ⟨g', _, _, hv, _, hb, _⟩
    · rw [hv] at e; cases e
    · rw [hv] at e
      injection e with e
      have e : g = g' := e
      subst e
      unfold Blk at h
      rw [hb] at h
      injection h with h
      injection h with _ ht
      cases ht)).trans h
set_option maxRecDepth 100000 in
set_option maxHeartbeats 2000000 in
theorem fields_any (w : World) : Calls Try.prog 60 #[] w fun e w' => e = .returned (.slice (some ⟨w.heap.size, 0, none⟩) 6 6) ∧ Blk w' w.heap.size 127 #[.func (.func 72) #[] #[], .func (.func 73) #[] #[], .func (.func 75) #[] #[], .func (.func 76) #[] #[], .func (.func 77) #[] #[], .func (.func 78) #[] #[]] ∧ Below w.heap.size w w' := by
  go_enter Try.func60, Try.ntmps60
  go_wp2
  go_ret
  exact ⟨rfl, Blk.new _ _ _, (Below.refl _ _).alloc (Nat.le_refl _) _⟩
set_option maxRecDepth 8000 in
theorem run_arr (w : World) (a : Option Addr) (n c : Nat) (h : 512 ≤ n) : (Instr.arrayAt 56 (.slice a n c)).run Try.prog w = .ok (.pointer a) w := by
  have hu := run_underlying (P := Try.prog) Try.underlying56 w
  simp only [Instr.arrayAt, Sem.run_bind, hu, Result.andThen_ok]
  rw [if_neg (by omega)]
  rfl
set_option maxRecDepth 100000 in
set_option maxHeartbeats 4000000 in
theorem sector_any (e a o : Nat) (he : (e : Int) ≤ 9223372036854775807) (ha : (a : Int) ≤ 65535) (ho : (o : Int) ≤ 65535) (w : World) :
    Calls Try.prog 38 #[Hd.val ⟨e, a, o⟩] w fun r w' => r = .returned (sec (hdS e a o)) ∧ Below w.heap.size w w' := by
  have hz := z47
  have HE := Lib.hid he
  have HA := Lib.hid ha
  have HO := Lib.hid ho
  obtain ⟨zz, hzz⟩ : ∃ zz : List UInt8, zz = List.replicate 484 0 := ⟨_, rfl⟩
  have HZ := Lib.hid (show zz.length = 484 by rw [hzz, List.length_replicate])
  have HZF := Lib.hid (show FldAt 77 ⟨e, a, o⟩ zz 484 from hzz ▸ fld5 _)
  have HL := Lib.hid (show hdL e a o = [67, 72, 72, 68] ++ S.bytesLE 8 e ++ S.bytesLE 2 a ++ S.bytesLE 2 o ++ zz ++ S.bytesLE 8 e by rw [hzz]; rfl)
  have OBB := Lib.hid ((Below.refl w.heap.size w).alloc (Nat.le_refl _) (.cells (Hd.cs ⟨e, a, o⟩).toArray 28) |>.alloc (by simp) (.cells (bv zs).toArray 56))
  have B0 := Lib.hid ((Blk.new w 28 (Hd.cs ⟨e, a, o⟩).toArray).alloc (.cells (bv zs).toArray 56))
  have B1 := Lib.hid (blk_new1 w (.cells (Hd.cs ⟨e, a, o⟩).toArray 28) 56 (bv zs).toArray)
  clear he ha ho hzz
  go_enter Try.func38, Try.ntmps38
  go_wp2_with fail
  generalize (w.alloc (.cells (Hd.cs ⟨e, a, o⟩).toArray 28)).alloc (.cells (bv zs).toArray 56) = W at OBB B0 B1 ⊢
  refine (fields_any W).mono ?_
  rintro r W0 ⟨rfl, h6, hb⟩
  have F0 := Lib.hid h6
  have A0 := Lib.hid (OBB.out.trans (hb.mono OBB.out.size))
  have K0 := Lib.hid (B0.out.below hb B0.out.lt)
  have Z0 := Lib.hid (B1.out.below hb B1.out.lt)
  have R0 := Lib.hid (show W0.ownsRow W.heap.size 5 1 (.slice none 0 0) 0 (bv []) from World.ownsRow_nil W0 W.heap.size 5 1)
  have SZ0 := Lib.hid hb.size
  have SW := Lib.hid (show w.heap.size + 2 ≤ W.heap.size from B1.out.lt)
  clear h6 hb B0 B1 OBB
  go_wp2_with fail
  refine wp_loop_rounds 7 ?_
  rw [rounds_succ]
  have c0 := (F0.out.cell 0).trans (show _ = some (.func (.func 72) #[] #[]) from rfl)
  go_wp2_with (first
    | (refine wpList_load_mid rfl 28 (.tmp 1) rfl w.heap.size 0 rfl (Hd.cs ⟨e, a, o⟩) _ (Blk.rangeAt (l := Hd.cs ⟨e, a, o⟩) K0.out) Try.underlying28 rfl (size23 _) ?_)
    | (go_at_call 72; refine ((fld1 _) _).mono ?_; rintro r V0 ⟨A', c', rfl, hr, hb⟩; have D0 := Lib.hid hr; have FV0 := Lib.hid (F0.out.below hb F0.out.lt); have AV0 := Lib.hid (A0.out.trans (hb.mono A0.out.size)); have KV0 := Lib.hid (K0.out.below hb K0.out.lt); have ZV0 := Lib.hid (Z0.out.below hb Z0.out.lt); have RV0 := Lib.hid (own_blw R0.out hb); have SV0 := Lib.hid (Nat.le_trans SZ0.out hb.size); clear hr hb c0)
    | (at_builtin; refine wpList_append_bytes _ rfl (.tmp 12) (.tmp 15) _ rfl Try.underlying22 S.infoU8 rfl RV0.out rfl D0.out (by rfl) (by omega) SV0.out ?_; intro v1 W1 hown hg hat; simp only [Nat.zero_add, List.nil_append] at hown; have R1 := Lib.hid hown; have BG := own_grown RV0.out hg SV0.out; have SZ1 := Lib.hid (Nat.le_trans SV0.out hg.size); have A1 := Lib.hid (AV0.out.trans (BG.mono (by have := SW.out; omega))); have K1 := Lib.hid (KV0.out.below BG (by have := SW.out; omega)); have Z1 := Lib.hid (ZV0.out.below BG (by have := SW.out; omega)); have F1 := Lib.hid (own_blk6 RV0.out FV0.out hg); clear hown hg hat BG))
  rw [rounds_succ]
  have c1 := (F1.out.cell 1).trans (show _ = some (.func (.func 73) #[] #[]) from rfl)
  go_wp2_with (first
    | (refine wpList_load_mid rfl 28 (.tmp 1) rfl w.heap.size 0 rfl (Hd.cs ⟨e, a, o⟩) _ (Blk.rangeAt (l := Hd.cs ⟨e, a, o⟩) K1.out) Try.underlying28 rfl (size23 _) ?_)
    | (go_at_call 73; refine ((fld2 e a o HE.out) _).mono ?_; rintro r V1 ⟨A', c', rfl, hr, hb⟩; have D1 := Lib.hid hr; have FV1 := Lib.hid (F1.out.below hb F1.out.lt); have AV1 := Lib.hid (A1.out.trans (hb.mono A1.out.size)); have KV1 := Lib.hid (K1.out.below hb K1.out.lt); have ZV1 := Lib.hid (Z1.out.below hb Z1.out.lt); have RV1 := Lib.hid (own_blw R1.out hb); have SV1 := Lib.hid (Nat.le_trans SZ1.out hb.size); clear hr hb c1)
    | (at_builtin; refine wpList_append_bytes _ rfl (.tmp 12) (.tmp 15) _ rfl Try.underlying22 S.infoU8 rfl RV1.out rfl D1.out (by exact S.bytesLE_length _ _) (by omega) SV1.out ?_; intro v2 W2 hown hg hat; simp only [Nat.reduceAdd] at hown; have R2 := Lib.hid hown; have BG := own_grown RV1.out hg SV1.out; have SZ2 := Lib.hid (Nat.le_trans SV1.out hg.size); have A2 := Lib.hid (AV1.out.trans (BG.mono (by have := SW.out; omega))); have K2 := Lib.hid (KV1.out.below BG (by have := SW.out; omega)); have Z2 := Lib.hid (ZV1.out.below BG (by have := SW.out; omega)); have F2 := Lib.hid (own_blk6 RV1.out FV1.out hg); clear hown hg hat BG))
  rw [rounds_succ]
  have c2 := (F2.out.cell 2).trans (show _ = some (.func (.func 75) #[] #[]) from rfl)
  go_wp2_with (first
    | (refine wpList_load_mid rfl 28 (.tmp 1) rfl w.heap.size 0 rfl (Hd.cs ⟨e, a, o⟩) _ (Blk.rangeAt (l := Hd.cs ⟨e, a, o⟩) K2.out) Try.underlying28 rfl (size23 _) ?_)
    | (go_at_call 75; refine ((fld3 e a o HA.out) _).mono ?_; rintro r V2 ⟨A', c', rfl, hr, hb⟩; have D2 := Lib.hid hr; have FV2 := Lib.hid (F2.out.below hb F2.out.lt); have AV2 := Lib.hid (A2.out.trans (hb.mono A2.out.size)); have KV2 := Lib.hid (K2.out.below hb K2.out.lt); have ZV2 := Lib.hid (Z2.out.below hb Z2.out.lt); have RV2 := Lib.hid (own_blw R2.out hb); have SV2 := Lib.hid (Nat.le_trans SZ2.out hb.size); clear hr hb c2)
    | (at_builtin; refine wpList_append_bytes _ rfl (.tmp 12) (.tmp 15) _ rfl Try.underlying22 S.infoU8 rfl RV2.out rfl D2.out (by exact S.bytesLE_length _ _) (by omega) SV2.out ?_; intro v3 W3 hown hg hat; simp only [Nat.reduceAdd] at hown; have R3 := Lib.hid hown; have BG := own_grown RV2.out hg SV2.out; have SZ3 := Lib.hid (Nat.le_trans SV2.out hg.size); have A3 := Lib.hid (AV2.out.trans (BG.mono (by have := SW.out; omega))); have K3 := Lib.hid (KV2.out.below BG (by have := SW.out; omega)); have Z3 := Lib.hid (ZV2.out.below BG (by have := SW.out; omega)); have F3 := Lib.hid (own_blk6 RV2.out FV2.out hg); clear hown hg hat BG))
  rw [rounds_succ]
  have c3 := (F3.out.cell 3).trans (show _ = some (.func (.func 76) #[] #[]) from rfl)
  go_wp2_with (first
    | (refine wpList_load_mid rfl 28 (.tmp 1) rfl w.heap.size 0 rfl (Hd.cs ⟨e, a, o⟩) _ (Blk.rangeAt (l := Hd.cs ⟨e, a, o⟩) K3.out) Try.underlying28 rfl (size23 _) ?_)
    | (go_at_call 76; refine ((fld4 e a o HO.out) _).mono ?_; rintro r V3 ⟨A', c', rfl, hr, hb⟩; have D3 := Lib.hid hr; have FV3 := Lib.hid (F3.out.below hb F3.out.lt); have AV3 := Lib.hid (A3.out.trans (hb.mono A3.out.size)); have KV3 := Lib.hid (K3.out.below hb K3.out.lt); have ZV3 := Lib.hid (Z3.out.below hb Z3.out.lt); have RV3 := Lib.hid (own_blw R3.out hb); have SV3 := Lib.hid (Nat.le_trans SZ3.out hb.size); clear hr hb c3)
    | (at_builtin; refine wpList_append_bytes _ rfl (.tmp 12) (.tmp 15) _ rfl Try.underlying22 S.infoU8 rfl RV3.out rfl D3.out (by exact S.bytesLE_length _ _) (by omega) SV3.out ?_; intro v4 W4 hown hg hat; simp only [Nat.reduceAdd] at hown; have R4 := Lib.hid hown; have BG := own_grown RV3.out hg SV3.out; have SZ4 := Lib.hid (Nat.le_trans SV3.out hg.size); have A4 := Lib.hid (AV3.out.trans (BG.mono (by have := SW.out; omega))); have K4 := Lib.hid (KV3.out.below BG (by have := SW.out; omega)); have Z4 := Lib.hid (ZV3.out.below BG (by have := SW.out; omega)); have F4 := Lib.hid (own_blk6 RV3.out FV3.out hg); clear hown hg hat BG))
  rw [rounds_succ]
  have c4 := (F4.out.cell 4).trans (show _ = some (.func (.func 77) #[] #[]) from rfl)
  go_wp2_with (first
    | (refine wpList_load_mid rfl 28 (.tmp 1) rfl w.heap.size 0 rfl (Hd.cs ⟨e, a, o⟩) _ (Blk.rangeAt (l := Hd.cs ⟨e, a, o⟩) K4.out) Try.underlying28 rfl (size23 _) ?_)
    | (go_at_call 77; refine ((HZF.out) _).mono ?_; rintro r V4 ⟨A', c', rfl, hr, hb⟩; have D4 := Lib.hid hr; have FV4 := Lib.hid (F4.out.below hb F4.out.lt); have AV4 := Lib.hid (A4.out.trans (hb.mono A4.out.size)); have KV4 := Lib.hid (K4.out.below hb K4.out.lt); have ZV4 := Lib.hid (Z4.out.below hb Z4.out.lt); have RV4 := Lib.hid (own_blw R4.out hb); have SV4 := Lib.hid (Nat.le_trans SZ4.out hb.size); clear hr hb c4)
    | (at_builtin; refine wpList_append_bytes _ rfl (.tmp 12) (.tmp 15) _ rfl Try.underlying22 S.infoU8 rfl RV4.out rfl D4.out (by exact HZ.out) (by omega) SV4.out ?_; intro v5 W5 hown hg hat; simp only [Nat.reduceAdd] at hown; have R5 := Lib.hid hown; have BG := own_grown RV4.out hg SV4.out; have SZ5 := Lib.hid (Nat.le_trans SV4.out hg.size); have A5 := Lib.hid (AV4.out.trans (BG.mono (by have := SW.out; omega))); have K5 := Lib.hid (KV4.out.below BG (by have := SW.out; omega)); have Z5 := Lib.hid (ZV4.out.below BG (by have := SW.out; omega)); have F5 := Lib.hid (own_blk6 RV4.out FV4.out hg); clear hown hg hat BG))
  rw [rounds_succ]
  have c5 := (F5.out.cell 5).trans (show _ = some (.func (.func 78) #[] #[]) from rfl)
  go_wp2_with (first
    | (refine wpList_load_mid rfl 28 (.tmp 1) rfl w.heap.size 0 rfl (Hd.cs ⟨e, a, o⟩) _ (Blk.rangeAt (l := Hd.cs ⟨e, a, o⟩) K5.out) Try.underlying28 rfl (size23 _) ?_)
    | (go_at_call 78; refine ((fld6 e a o HE.out) _).mono ?_; rintro r V5 ⟨A', c', rfl, hr, hb⟩; have D5 := Lib.hid hr; have FV5 := Lib.hid (F5.out.below hb F5.out.lt); have AV5 := Lib.hid (A5.out.trans (hb.mono A5.out.size)); have KV5 := Lib.hid (K5.out.below hb K5.out.lt); have ZV5 := Lib.hid (Z5.out.below hb Z5.out.lt); have RV5 := Lib.hid (own_blw R5.out hb); have SV5 := Lib.hid (Nat.le_trans SZ5.out hb.size); clear hr hb c5)
    | (at_builtin; refine wpList_append_bytes _ rfl (.tmp 12) (.tmp 15) _ rfl Try.underlying22 S.infoU8 rfl RV5.out rfl D5.out (by exact S.bytesLE_length _ _) (by omega) SV5.out ?_; intro v6 W6 hown hg hat; simp only [Nat.reduceAdd] at hown; have R6 := Lib.hid hown; have BG := own_grown RV5.out hg SV5.out; have SZ6 := Lib.hid (Nat.le_trans SV5.out hg.size); have A6 := Lib.hid (AV5.out.trans (BG.mono (by have := SW.out; omega))); have K6 := Lib.hid (KV5.out.below BG (by have := SW.out; omega)); have Z6 := Lib.hid (ZV5.out.below BG (by have := SW.out; omega)); have F6 := Lib.hid (own_blk6 RV5.out FV5.out hg); clear hown hg hat BG))
  rw [rounds_succ]
  have HLL := Lib.hid (HL.out ▸ hdL_length e a o)
  obtain ⟨A7, c7, rfl⟩ := own_shape R6.out
  have R7 := Lib.hid (Rd.of_own R6.out)
  rw [← HL.out] at R7
  go_wp2_with fail
  refine (S.seal_any A7 508 c7 (hdL e a o) W6 (hdL_length e a o) R7.out (by omega)).mono ?_
  rintro r W7 ⟨v8, rfl, hown, hb⟩
  obtain ⟨A8, c8, rfl⟩ := own_shape hown
  obtain ⟨g8, rfl, hg8, _⟩ := own_addr' hown (by omega)
  have RG := Lib.hid (own_range hown)
  have Z7 := Lib.hid (Z6.out.below hb Z6.out.lt)
  have A8' := Lib.hid (A6.out.trans (hb.mono A6.out.size))
  have hll : (bv (hdS e a o)).length = 512 := by rw [bv_length, hdS_length]
  have hlz : (bv zs).length = 512 := by rw [bv_length, zs_length]
  have hsl := hdS_length e a o
  have hra := fun W : World => run_arr W (some ⟨g8, 0, none⟩) 512 c8 (Nat.le_refl _)
  clear hown hb hg8
  go_wp2_with (first
    | (refine wpList_load47 rfl (.tmp 20) rfl g8 0 rfl (hdS e a o) RG.out hsl ?_)
    | (refine wpList_store_row rfl 56 (.tmp 2) (.tmp 21) rfl (w.heap.size + 1) (bv (hdS e a o)).toArray rfl rfl 56 _ Z7.out (by rw [List.size_toArray, hll]; exact size47) (by rw [List.size_toArray, List.size_toArray, hll, hlz]) (bv_ones8 _) ?_))
  refine bodyPost_ret (results_cell_row (P := Try.prog) rfl _ _ (w.heap.size + 1) 56 _ (0, 0) _ rfl (Z7.out.setRow _) Try.underlying56 rfl (by rw [List.size_toArray, hll]; exact size47)) rfl ⟨rfl, below_setRow A8'.out (by omega) _⟩
end Go.Proofs.Ytjfcmoappbfnjaa

namespace Go.Proofs.Ytjfcmoappbfnjaa
open List renaming getElem_toArray → zq1, getElem_cons_succ → zq2, getElem_cons_zero → zq3, setIfInBounds_toArray → zq4, set_cons_zero → zq5, set_cons_succ → zq6
open Go.RowKit
attribute [local go_sem] Oper.semAt_some
set_option maxRecDepth 8000 in
theorem has_wv {p n : Nat} {pl : Pl} {v : Value} (h : v.ownBlock = pl.wv.ownBlock ∨ ∃ g, v.ownBlock = some g ∧ n ≤ g) : ∀ q, ({ pl with wv := v } : Pl).has p q → pl.has p q ∨ n ≤ q := by
  rintro q (hq | hq | hq | hq)
  · exact .inl (.inl hq)
  · exact .inl (.inr (.inl hq))
  · rcases h with e | ⟨g, e, hg⟩
    · exact .inl (.inr (.inr (.inl (e ▸ hq))))
    · rw [show v.ownBlock = some q from hq] at e
      cases e
      exact .inr hg
  · exact .inl (.inr (.inr (.inr hq)))
set_option maxRecDepth 100000 in
set_option maxHeartbeats 4000000 in
theorem hwrite_goes {w : World} {base p : Nat} {pl : Pl} {D : Dk} (hd : DiskAt w base p pl D) (hbase : base ≤ w.heap.size) (hN : D.waits.length ≤ 1000000) (n e a o : Nat) (hn : n < 2) (he : (e : Int) ≤ 9223372036854775807) (ha : a < 2) (ho : 1 ≤ o ∧ o ≤ 64) (hz : D.size = 20 + 3 * o) (hs : D.steps < 1000000) (hf : D.next = false) :
    Calls Try.prog 11 #[.pointer (some ⟨p, 0, none⟩), .int .i64 (n : Int), Hd.val ⟨e, a, o⟩] w fun r w' => r = .returned (.int .i64 0) ∧ ∃ v, DiskAt w' base p { pl with wv := v } (D.stepped.queued (n, hdS e a o)) ∧ Fr (pl.has p) w w' ∧ ∀ q, ({ pl with wv := v } : Pl).has p q → pl.has p q ∨ w.heap.size ≤ q := by
  have D0 := Lib.hid (hd.alloc (.cells (Hd.cs ⟨e, a, o⟩).toArray 28))
  have K0 := Lib.hid (Blk.new w 28 (Hd.cs ⟨e, a, o⟩).toArray)
  have F0 := Lib.hid ((Fr.refl (pl.has p) w).alloc (.cells (Hd.cs ⟨e, a, o⟩).toArray 28))
  have HB := Lib.hid (show base ≤ (w.alloc (.cells (Hd.cs ⟨e, a, o⟩).toArray 28)).heap.size by simp; omega)
  have HNO := Lib.hid (show Hd.no ⟨e, a, o⟩ = 0 by unfold Hd.no; rw [if_pos (by simp only; omega)])
  have HZ := Lib.hid hz
  have HBS := Lib.hid hbase
  have HN := Lib.hid hN
  have HS := Lib.hid hs
  have HF := Lib.hid hf
  have HE := Lib.hid he
  have HA := Lib.hid (show (a : Int) ≤ 65535 by omega)
  have HO := Lib.hid (show (o : Int) ≤ 65535 by omega)
  have HO2 := Lib.hid (show 1 ≤ (o : Int) ∧ (o : Int) ≤ 64 by omega)
  have hq : ((20 + 3 * (o : Int)) == (D.size : Int)) = true := beq_iff_eq.2 (by omega)
  have s0 : ((D.size : Int) == 0) = false := beq_eq_false_iff_ne.2 (by omega)
  have n0 : decide ((n : Int) < 0) = false := decide_eq_false (by omega)
  have n2 : decide (2 ≤ (n : Int)) = false := decide_eq_false (by omega)
  have n2' : decide (2 ≤ n) = false := decide_eq_false (by omega)
  have HN2 := Lib.hid (show n < D.size by omega)
  clear hd hbase hN hn he ha ho hz hs hf
  go_enter Try.func11, Try.ntmps11
  go_wp2_with (go_at_call 35; refine (size_at D0.out).mono ?_; rintro r w' ⟨rfl, rfl⟩)
  generalize w.alloc (.cells (Hd.cs ⟨e, a, o⟩).toArray 28) = W at D0 K0 F0 HB ⊢
  have K1 := Lib.hid (blk_drew K0.out)
  have D1 := Lib.hid D0.out.drew
  have F1 := Lib.hid F0.out.drew
  refine wp_region_only (S := fun w' => Blk w' w.heap.size 28 (Hd.cs ⟨e, a, o⟩).toArray) (by kernel_rfl) K1.out (fun hHeld => ?_)
  refine wpAnyH_take (i := 0) (v := ?v1) rfl (by kernel_rfl) (by kernel_rfl) (by kernel_rfl) (fun _ _ _ h => h) (Or.inl ⟨by rfl, ?hy1⟩) hHeld ?rest1
  case hy1 =>
    intro w' hSw
    try dsimp only at hSw
    go_simp
    first | done | with_reducible rfl
  try simp only [Act.put, zq1, zq3, zq4, zq5, zq6]
  refine wpAnyH_take (i := 1) (v := ?v2) rfl (by kernel_rfl) (by kernel_rfl) (by kernel_rfl) (fun _ _ _ h => h) (Or.inl ⟨by rfl, ?hy2⟩) hHeld ?rest2
  case hy2 =>
    intro w' hSw
    try dsimp only at hSw
    go_simp
    first | done | with_reducible rfl
  try simp only [Act.put, zq1, zq2, zq3, zq4, zq5, zq6]
  refine wpAnyH_take (i := 2) (v := ?v3) rfl (by kernel_rfl) (by kernel_rfl) (by kernel_rfl) (fun _ _ _ h => h) (Or.inl ⟨by rfl, ?hy3⟩) hHeld ?rest3
  case hy3 =>
    intro w' hSw
    try dsimp only at hSw
    go_simp
    first | done | with_reducible rfl
  try simp only [Act.put, zq1, zq2, zq3, zq4, zq5, zq6]
  refine wpAnyH_take (i := 3) (v := ?v4) rfl (by kernel_rfl) (by kernel_rfl) (by kernel_rfl) (fun _ _ _ h => h) (Or.inl ⟨by rfl, ?hy4⟩) hHeld ?rest4
  case hy4 =>
    intro w' hSw
    try dsimp only at hSw
    go_simp
    first | done | with_reducible rfl
  try simp only [Act.put, zq1, zq2, zq3, zq4, zq5, zq6]
  refine wpAnyH_take (i := 4) (v := ?v5) rfl (by kernel_rfl) (by kernel_rfl) (by kernel_rfl) (fun _ _ _ h => h) (Or.inl ⟨by rfl, ?hy5⟩) hHeld ?rest5
  case hy5 =>
    intro w' hSw
    try dsimp only at hSw
    go_simp
    first | done | with_reducible rfl
  try simp only [Act.put, zq1, zq2, zq3, zq4, zq5, zq6]
  refine wpAnyH_take (i := 5) (v := ?v6) rfl (by kernel_rfl) (by kernel_rfl) (by kernel_rfl) (fun _ _ _ h => h) (Or.inl ⟨by rfl, ?hy6⟩) hHeld ?rest6
  case hy6 =>
    intro w' hSw
    try dsimp only at hSw
    go_simp
    first | done | with_reducible rfl
  try simp only [Act.put, zq1, zq2, zq3, zq4, zq5, zq6]
  refine wpAnyH_take (i := 6) (v := ?v7) rfl (by kernel_rfl) (by kernel_rfl) (by kernel_rfl) (fun _ _ _ h => h) (Or.inl ⟨by rfl, ?hy7⟩) hHeld ?rest7
  case hy7 =>
    intro w' hSw
    try dsimp only at hSw
    go_simp
    first | done | with_reducible rfl
  try simp only [Act.put, zq1, zq2, zq3, zq4, zq5, zq6]
  refine wpAnyH_take (i := 7) rfl (by kernel_rfl) (by kernel_rfl) (by kernel_rfl) (fun _ _ _ h => h) (yieldsIf_load_mid (by rfl) 28 (.tmp 5) (by rfl) w.heap.size 0 (by rfl) (Hd.cs ⟨e, a, o⟩) _ (fun w' hSw => Blk.rangeAt (l := Hd.cs ⟨e, a, o⟩) hSw) Try.underlying28 rfl (size23 _)) hHeld ?_
  try simp only [Act.put, zq1, zq2, zq3, zq4, zq5, zq6]
  refine wpAnyH_ready (rs := [8]) (by kernel_rfl) (by simp) ?_
  refine AllReadyH.cons (by rfl) (fun K hK => ?_) AllReadyH.nil
  go_simp
  refine (check_any ⟨e, a, o⟩ _).mono ?_
  rw [HNO.out]
  rintro r W2 ⟨rfl, hb⟩
  have K2 := Lib.hid (K1.out.below hb K1.out.lt)
  have D2 := Lib.hid (D1.out.below hb)
  have F2 := Lib.hid (F1.out.below hb)
  clear hb hHeld
  refine hK.out _ _ K2.out (fun hHeld => ?_)
  clear hK K
  try simp only [Act.put, zq1, zq2, zq3, zq4, zq5, zq6]
  refine wpAnyH_take (i := 9) (v := ?v8) rfl (by kernel_rfl) (by kernel_rfl) (by kernel_rfl) (fun _ _ _ h => h) (Or.inl ⟨by rfl, ?hy8⟩) hHeld ?rest8
  case hy8 =>
    intro w' hSw
    try dsimp only at hSw
    go_simp
    first | done | with_reducible rfl
  try simp only [Act.put, zq1, zq2, zq3, zq4, zq5, zq6]
  refine wpAnyH_take (i := 10) (v := ?v9) rfl (by kernel_rfl) (by kernel_rfl) (by kernel_rfl) (fun _ _ _ h => h) (Or.inl ⟨by rfl, ?hy9⟩) hHeld ?rest9
  case hy9 =>
    intro w' hSw
    try dsimp only at hSw
    go_simp
    first | done | with_reducible rfl
  try simp only [Act.put, zq1, zq2, zq3, zq4, zq5, zq6]
  refine wpAnyH_take (i := 11) (v := ?v10) rfl (by kernel_rfl) (by kernel_rfl) (by kernel_rfl) (fun _ _ _ h => h) (Or.inl ⟨by rfl, ?hy10⟩) hHeld ?rest10
  case hy10 =>
    intro w' hSw
    try dsimp only at hSw
    go_simp
    first | done | with_reducible rfl
  try simp only [Act.put, zq1, zq2, zq3, zq4, zq5, zq6]
  refine wpAnyH_take (i := 12) rfl (by kernel_rfl) (by kernel_rfl) (by kernel_rfl) (fun _ _ _ h => h) (yieldsIf_load_mid (by rfl) 28 (.tmp 5) (by rfl) w.heap.size 0 (by rfl) (Hd.cs ⟨e, a, o⟩) _ (fun w' hSw => Blk.rangeAt (l := Hd.cs ⟨e, a, o⟩) hSw) Try.underlying28 rfl (size23 _)) hHeld ?_
  try simp only [Act.put, zq1, zq2, zq3, zq4, zq5, zq6]
  refine wpAnyH_take (i := 13) (v := ?v11) rfl (by kernel_rfl) (by kernel_rfl) (by kernel_rfl) (fun _ _ _ h => h) (Or.inl ⟨by rfl, ?hy11⟩) hHeld ?rest11
  case hy11 =>
    intro w' hSw
    try dsimp only at hSw
    go_simp
    first | done | with_reducible rfl
  try simp only [Act.put, zq1, zq2, zq3, zq4, zq5, zq6]
  refine wpAnyH_ready (rs := [14]) (by kernel_rfl) (by simp) ?_
  refine AllReadyH.cons (by rfl) (fun K hK => ?_) AllReadyH.nil
  go_simp
  refine (size_at D2.out).mono ?_
  rintro r w' ⟨rfl, rfl⟩
  clear hHeld
  refine hK.out _ _ K2.out (fun hHeld => ?_)
  clear hK K
  try simp only [Act.put, zq1, zq2, zq3, zq4, zq5, zq6]
  refine wpAnyH_ready (rs := [15]) (by kernel_rfl) (by simp) ?_
  refine AllReadyH.cons (by rfl) (fun K hK => ?_) AllReadyH.nil
  go_simp
  refine (fits_any ⟨e, a, o⟩ HO2.out _ _).mono ?_
  rintro r W3 ⟨rfl, hb⟩
  have K3 := Lib.hid (K2.out.below hb K2.out.lt)
  have D3 := Lib.hid (D2.out.below hb)
  have F3 := Lib.hid (F2.out.below hb)
  clear hb hHeld
  refine hK.out _ _ K3.out (fun hHeld => ?_)
  clear hK K
  try dsimp only
  refine wpAnyH_take (i := 16) (v := ?v12) rfl (by kernel_rfl) (by kernel_rfl) (by kernel_rfl) (fun _ _ _ h => h) (Or.inl ⟨by rfl, ?hy12⟩) hHeld ?rest12
  case hy12 =>
    intro w' hSw
    try dsimp only at hSw
    go_simp
    first | done | with_reducible rfl
  try simp only [Act.put, zq1, zq2, zq3, zq4, zq5, zq6]
  refine wpAnyH_take (i := 17) (v := ?v13) rfl (by kernel_rfl) (by kernel_rfl) (by kernel_rfl) (fun _ _ _ h => h) (Or.inl ⟨by rfl, ?hy13⟩) hHeld ?rest13
  case hy13 =>
    intro w' hSw
    try dsimp only at hSw
    go_simp
    first | done | with_reducible rfl
  try simp only [Act.put, zq1, zq2, zq3, zq4, zq5, zq6]
  refine wpAnyH_done (by kernel_rfl) ?_ _
  refine OnlyN.normal ?_
  clear hHeld K0 D0 F0 K1 D1 F1 K2 D2 F2
  go_wp2_with (first
    | (refine wpList_load_mid rfl 28 (.tmp 5) rfl w.heap.size 0 rfl (Hd.cs ⟨e, a, o⟩) _ (Blk.rangeAt (l := Hd.cs ⟨e, a, o⟩) K3.out) Try.underlying28 rfl (size23 _) ?_)
    | (go_at_call 38; refine (sector_any e a o HE.out HA.out HO.out _).mono ?_; rintro r W4 ⟨rfl, hb⟩; have D4 := Lib.hid (D3.out.below hb); have F4 := Lib.hid (F3.out.below hb); clear hb)
    | (go_at_call 37; refine (write_goes D4.out (Nat.le_trans HBS.out F4.out.size) HN.out n (hdS e a o) (hdS_length _ _ _) HN2.out HS.out HF.out).mono ?_; rintro r W5 ⟨rfl, v, hd5, f5, hv⟩; have D5 := Lib.hid hd5; have F5 := Lib.hid (F4.out.trans f5); have V5 := Lib.hid (has_wv (p := p) (hv.imp id (fun ⟨g, h1, h2⟩ => ⟨g, h1, Nat.le_trans F4.out.size h2⟩))); clear hd5 f5 hv))
  go_ret
  exact ⟨rfl, _, D5.out, F5.out, V5.out⟩
end Go.Proofs.Ytjfcmoappbfnjaa

namespace Go.Proofs.Ytjfcmoappbfnjaa
open List renaming getElem_toArray → zq1, getElem_cons_succ → zq2, getElem_cons_zero → zq3, setIfInBounds_toArray → zq4, set_cons_zero → zq5, set_cons_succ → zq6
open Go.RowKit
attribute [local go_sem] Oper.semAt_some
set_option maxRecDepth 8000 in
theorem results_read8 {fn : Func} {p q r : Tmp} (h : fn.results = #[.cell p 28, .tmp q, .tmp r]) (tmps : Array Value) (w : World) (g : Nat) (u : Hd) (hp : tmps.getD p undef = .pointer (some ⟨g, 0, none⟩)) (hg : Blk w g 28 u.cs.toArray) : (results fn tmps).run Try.prog w = .ok (.tuple #[u.val, tmps.getD q undef, tmps.getD r undef]) w := by
  have hp' : tmps[p]?.getD undef = .pointer (some ⟨g, 0, none⟩) := by simpa using hp
  have hl := run_loadVar_row (P := Try.prog) w g 28 28 u.cs.toArray (0, 0) _ hg Try.underlying28 rfl (by kernel_rfl)
  simp [results, h, hp', asAddr, hl]
set_option maxRecDepth 100000 in
set_option maxHeartbeats 4000000 in
theorem hread_any {w : World} {base p : Nat} {pl : Pl} {D2 : Dk} (hbase : ∀ k, w.heap.size ≤ k → ¬ pl.has p k) (h0 h1 : Hd) (b : Bool)
    (bc : ∀ W, Below w.heap.size w W → Calls Try.prog 20 #[.pointer (some ⟨p, 0, none⟩)] W fun r w' => r = .returned (.tuple #[.agg (cs2 h0 h1).toArray, .agg #[.bool true, .bool b], .int .i64 0]) ∧ DiskAt w' base p pl D2 ∧ Fr (pl.has p) W w')
    (k : Nat) (hk : k < 2) (u : Hd) (hu : ∀ W : World, W.rangeAt 0 0 [] → ∀ g, W.rangeAt g 0 (cs2 h0 h1) → W.rangeAt g (k * 3) u.cs)
    (fc : ∀ W : World, Calls Try.prog 45 #[.agg (cs2 h0 h1).toArray, .agg #[.bool true, .bool b], .func (.func 46) #[] #[]] W fun r w' => r = .returned (.tuple #[.int .i64 (k : Int), .bool true]) ∧ Below W.heap.size W w') :
    Calls Try.prog 18 #[.pointer (some ⟨p, 0, none⟩)] w fun r w' => r = .returned (.tuple #[u.val, .int .i64 (k : Int), .int .i64 0]) ∧ DiskAt w' base p pl D2 ∧ Fr (pl.has p) w w' := by
  have hz := z52
  have hz3 := z53
  have hz5 := z23
  have HNH := Lib.hid hbase
  have HBC := Lib.hid bc
  have HFC := Lib.hid fc
  have HU := Lib.hid hu
  have R0 := Lib.hid (Blk.new w 28 hd0.cs.toArray)
  have L0 := Lib.hid ((Below.refl w.heap.size w).alloc (Nat.le_refl _) (.cells hd0.cs.toArray 28))
  have i1 : (0 : Int) ≤ (k : Int) := by omega
  have i2 : (k : Int) < 2 := by omega
  clear hbase bc fc hu
  go_enter Try.func18, Try.ntmps18
  go_wp2_with fail
  refine (HBC.out _ L0.out).mono ?_
  rintro r W1 ⟨rfl, hd, hf⟩
  have D1 := Lib.hid hd
  have F1 := Lib.hid ((Fr.of_below (S := pl.has p) L0.out).trans hf)
  have R1 := Lib.hid (hf.keepBlk R0.out (HNH.out _ (Nat.le_refl _)))
  have GT := Lib.hid (show w.heap.size < W1.heap.size from R1.out.lt)
  clear hd hf R0 L0
  obtain ⟨V0, hV0⟩ : ∃ V, V = (W1.alloc (.cells (cs2 hd0 hd0).toArray 49)).alloc (.cells #[.bool false, .bool false] 50) := ⟨_, rfl⟩
  have P1 := Lib.hid (show Blk V0 W1.heap.size 49 (cs2 hd0 hd0).toArray from by rw [hV0]; exact (Blk.new W1 _ _).alloc _)
  have P2 := Lib.hid (show Blk V0 (W1.heap.size + 1) 50 #[.bool false, .bool false] from by rw [hV0]; exact blk_new1 W1 _ _ _)
  have D2' := Lib.hid (show DiskAt V0 base p pl D2 from by rw [hV0]; exact (D1.out.alloc _).alloc _)
  have F2 := Lib.hid (show Fr (pl.has p) w V0 from by rw [hV0]; exact (F1.out.alloc _).alloc _)
  have R2 := Lib.hid (show Blk V0 w.heap.size 28 hd0.cs.toArray from by rw [hV0]; exact (R1.out.alloc _).alloc _)
  obtain ⟨V1, hV1⟩ : ∃ V, V = V0.setRow W1.heap.size (cs2 h0 h1).toArray := ⟨_, rfl⟩
  obtain ⟨V2, hV2⟩ : ∃ V, V = V1.setRow (W1.heap.size + 1) #[.bool true, .bool b] := ⟨_, rfl⟩
  have f1 : Fr (fun k => k = W1.heap.size) V0 V1 := by rw [hV1]; exact setRow_fr8 _ _ _
  have f2 : Fr (fun k => k = W1.heap.size + 1) V1 V2 := by rw [hV2]; exact setRow_fr8 _ _ _
  have Q1 := Lib.hid (show Blk V1 W1.heap.size 49 (cs2 h0 h1).toArray from by rw [hV1]; exact setRow_heap V0 _ _ _ _ (0, 0) P1.out)
  have Q2 := Lib.hid (f1.keepBlk P2.out (by omega))
  have S1 := Lib.hid (f2.keepBlk Q1.out (by omega))
  have S2 := Lib.hid (show Blk V2 (W1.heap.size + 1) 50 #[.bool true, .bool b] from by rw [hV2]; exact setRow_heap V1 _ _ _ _ (0, 0) Q2.out)
  have D3 := Lib.hid ((D2'.out.fr f1 (fun k hk e => HNH.out k (by have := GT.out; omega) hk)).fr f2 (fun k hk e => HNH.out k (by have := GT.out; omega) hk))
  have F3 := Lib.hid ((F2.out.then_ f1 (fun i hi e => by have := GT.out; omega)).then_ f2 (fun i hi e => by have := GT.out; omega))
  have R3 := Lib.hid (f2.keepBlk (f1.keepBlk R2.out (by have := GT.out; omega)) (by have := GT.out; omega))
  clear f1 f2 D1 F1 R1 D2' F2 R2
  go_wp2_with (first
    | (refine wpList_store_row rfl 49 (.tmp 5) (.tmp 13) rfl W1.heap.size (cs2 h0 h1).toArray rfl rfl 49 (cs2 hd0 hd0).toArray (by rw [← hV0]; exact P1.out) (by kernel_rfl) rfl (cs2_one _ _) ?_; rw [← hV0, ← hV1])
    | (refine wpList_store_row rfl 50 (.tmp 6) (.tmp 14) rfl (W1.heap.size + 1) #[.bool true, .bool b] rfl rfl 50 _ Q2.out (by kernel_rfl) rfl (by simp [Value.oneCell']) ?_; rw [← hV2]; clear hV0 hV1 hV2 P1 P2 Q1 Q2)
    | (refine wpList_load_mid rfl 49 (.tmp 5) rfl W1.heap.size 0 rfl (cs2 h0 h1) _ (Blk.rangeAt (l := cs2 h0 h1) S1.out) Try.underlying49 rfl (size52 _ _) ?_)
    | (refine wpList_load_mid rfl 50 (.tmp 6) rfl (W1.heap.size + 1) 0 rfl [.bool true, .bool b] _ (Blk.rangeAt (l := [.bool true, .bool b]) S2.out) Try.underlying50 rfl (size53 _ _) ?_))
  refine (HFC.out _).mono ?_
  rintro r W4 ⟨rfl, hb⟩
  have T1 := Lib.hid (S1.out.below hb S1.out.lt)
  have D4 := Lib.hid (D3.out.below hb)
  have F4 := Lib.hid (F3.out.below hb)
  have R4 := Lib.hid (R3.out.below hb R3.out.lt)
  clear hb S1 S2 D3 F3 R3
  go_wp2_with (first
    | (refine wpList_load_mid rfl 28 (.tmp 30) rfl W1.heap.size (k * 3) rfl u.cs _ (HU.out W4 (fun j v hv => by simp at hv) _ (Blk.rangeAt (l := cs2 h0 h1) T1.out)) Try.underlying28 rfl (size23 _) ?_)
    | (refine wpList_store_row rfl 28 (.tmp 2) (.tmp 31) rfl w.heap.size u.cs.toArray rfl rfl 28 _ R4.out (by kernel_rfl) rfl (one23 _) ?_))
  exact bodyPost_ret (results_read8 rfl _ _ w.heap.size u rfl (R4.out.setRow _)) rfl ⟨rfl, D4.out.fr (setRow_fr8 _ _ _) (fun k hk e => HNH.out k (by omega) hk), F4.out.then_ (setRow_fr8 _ _ _) (fun i hi e => by omega)⟩
theorem cs2_at0 (h0 h1 : Hd) {W : World} {g : Nat} (h : W.rangeAt g 0 (cs2 h0 h1)) : W.rangeAt g (0 * 3) h0.cs := cs2_fst h
theorem cs2_at1 (h0 h1 : Hd) {W : World} {g : Nat} (h : W.rangeAt g 0 (cs2 h0 h1)) : W.rangeAt g (1 * 3) h1.cs := fun j v hv => by
  have := h (3 + j) v
  rw [Nat.zero_add] at this
  apply this
  unfold cs2
  rw [List.getElem?_append_right (by simp)]
  simpa using hv
end Go.Proofs.Ytjfcmoappbfnjaa

namespace Go.Proofs.Ytjfcmoappbfnjaa
open List renaming getElem_toArray → zq1, getElem_cons_succ → zq2, getElem_cons_zero → zq3, setIfInBounds_toArray → zq4, set_cons_zero → zq5, set_cons_succ → zq6
open Go.RowKit
section
variable {w : World} {base p : Nat} {pl : Pl} {D : Dk}
set_option maxRecDepth 8000 in
theorem hread_two (hd : DiskAt w base p pl D) (hN : D.waits.length ≤ 1000000) (hs : D.steps < 999990) (hf0 : D.next = false) (hf1 : D.stepped.next = false) (e0 a0 e1 a1 o : Nat)
    (he0 : (e0 : Int) ≤ 9223372036854775807) (ha0 : a0 < 2) (he1 : (e1 : Int) ≤ 9223372036854775807) (ha1 : a1 < 2) (ho : 1 ≤ o ∧ o ≤ 64) (hz : D.size = 20 + 3 * o) (r0 : D.reads 0 = hdS e0 a0 o) (r1 : D.reads 1 = hdS e1 a1 o) :
    Calls Try.prog 18 #[.pointer (some ⟨p, 0, none⟩)] w fun r w' => r = .returned (if e0 < e1 then .tuple #[Hd.val ⟨e1, a1, o⟩, .int .i64 1, .int .i64 0] else .tuple #[Hd.val ⟨e0, a0, o⟩, .int .i64 0, .int .i64 0]) ∧ DiskAt w' base p pl D.stepped.stepped ∧ Fr (pl.has p) w w' := by
  have hno : ∀ e a : Nat, a < 2 → Hd.no ⟨e, a, o⟩ = 0 := fun e a ha => by unfold Hd.no; rw [if_pos (by simp only; omega)]
  have hq : (20 + 3 * (o : Int) == (D.size : Int)) = true := beq_iff_eq.2 (by omega)
  have bc := fun (W : World) (hb : Below w.heap.size w W) => both_two (hd.below hb) hN hs hf0 hf1 ⟨e0, a0, o⟩ ⟨e1, a1, o⟩ (by simp only; omega) hq (by simp only; omega) hq
    (fun W => by rw [r0]; exact headerOf_yes e0 a0 o he0 (by omega) (by omega) (hno e0 a0 ha0)) (fun W => by rw [r1]; exact headerOf_yes e1 a1 o he1 (by omega) (by omega) (hno e1 a1 ha1))
  by_cases hlt : e0 < e1
  · rw [if_pos hlt]
    exact hread_any (fun k hk => hd.not_new hk) _ _ true bc 1 (by omega) ⟨e1, a1, o⟩ (fun W _ g h => cs2_at1 _ _ h) (fun W => fore_later _ _ W (decide_eq_true (by simp only; omega)))
  · rw [if_neg hlt]
    exact hread_any (fun k hk => hd.not_new hk) _ _ true bc 0 (by omega) ⟨e0, a0, o⟩ (fun W _ g h => cs2_at0 _ _ h) (fun W => fore_first _ _ W (decide_eq_false (by simp only; omega)))
set_option maxRecDepth 8000 in
theorem hread_one (hd : DiskAt w base p pl D) (hN : D.waits.length ≤ 1000000) (hs : D.steps < 999990) (hf0 : D.next = false) (hf1 : D.stepped.next = false) (e0 a0 o : Nat)
    (he0 : (e0 : Int) ≤ 9223372036854775807) (ha0 : a0 < 2) (ho : 1 ≤ o ∧ o ≤ 64) (hz : D.size = 20 + 3 * o) (r0 : D.reads 0 = hdS e0 a0 o) (r1 : ((S.numLE ((D.reads 1).drop 508) : Int) != (S.crcN ((D.reads 1).take 508) : Int)) = true) :
    Calls Try.prog 18 #[.pointer (some ⟨p, 0, none⟩)] w fun r w' => r = .returned (.tuple #[Hd.val ⟨e0, a0, o⟩, .int .i64 0, .int .i64 0]) ∧ DiskAt w' base p pl D.stepped.stepped ∧ Fr (pl.has p) w w' := by
  have hno : Hd.no ⟨e0, a0, o⟩ = 0 := by unfold Hd.no; rw [if_pos (by simp only; omega)]
  have hq : (20 + 3 * (o : Int) == (D.size : Int)) = true := beq_iff_eq.2 (by omega)
  have hl1 : (D.reads 1).length = 512 := readL_length _ _ _ (hd.lens 1) (fun x hx => (hd.wlens x hx).1)
  have bc := fun (W : World) (hb : Below w.heap.size w W) => both_one (hd.below hb) hN hs hf0 hf1 ⟨e0, a0, o⟩ (by simp only; omega) hq
    (fun W => by rw [r0]; exact headerOf_yes e0 a0 o he0 (by omega) (by omega) hno) (fun W => headerOf_no (D.reads 1) hl1 r1)
  exact hread_any (fun k hk => hd.not_new hk) _ _ false bc 0 (by omega) ⟨e0, a0, o⟩ (fun W _ g h => cs2_at0 _ _ h) (fun W => fore_one _ _ W)
end
set_option maxRecDepth 8000 in
theorem spoilt_b : ((S.numLE ((turnL (hdS 5 0 1) 5 1).drop 508) : Int) != (S.crcN ((turnL (hdS 5 0 1) 5 1).take 508) : Int)) = true := by decide +kernel
end Go.Proofs.Ytjfcmoappbfnjaa

namespace Go.Proofs.Ytjfcmoappbfnjaa
open List renaming getElem_toArray → zq1, getElem_cons_succ → zq2, getElem_cons_zero → zq3, setIfInBounds_toArray → zq4, set_cons_zero → zq5, set_cons_succ → zq6
open Go.RowKit Go.ChangeShapes Go.WideShapes Go.ChangeAt
attribute [local go_sem] Oper.semAt_some
set_option maxRecDepth 8000 in
theorem num8_any (n : Int) (w : World) : Calls Try.prog 12 #[.int .i64 n] w fun e w' => e = .returned (.int .i64 n) ∧ w = w' := by
  go_enter Try.func12, Try.ntmps12
  go_wp2
  go_ret
  exact ⟨rfl, rfl⟩
section
variable {H : Type} {enc : TypeId × Value → H} {W : World} {base : Nat} {held : Bool} {d : DataW H} {p : List MemPlace}
end
def w8a : Dk := (newDk 23).stepped.queued (0, hdS 4 1 1)
def w8b : Dk := w8a.stepped.queued (1, hdS 5 0 1)
def w8c : Dk := w8b.stepped.stepped
def w8d : Dk := w8c.spoilt 1 5 1
theorem w8_r0 : w8b.reads 0 = hdS 4 1 1 := rfl
theorem w8_r1 : w8b.reads 1 = hdS 5 0 1 := rfl
theorem w8_s0 : w8d.reads 0 = hdS 4 1 1 := rfl
theorem w8_s1 : w8d.reads 1 = turnL (hdS 5 0 1) 5 1 := rfl
set_option maxRecDepth 100000 in
set_option maxHeartbeats 8000000 in
theorem works8_any (w : World) : Calls Try.prog 8 #[] w fun e w' => e = .returned (.bool true) ∧ Below w.heap.size w w' := by
  have hz := z23
  have N0 := Lib.hid (new_at w 23 (by decide) (by decide))
  have L0 := Lib.hid (((Below.refl w.heap.size w).alloc (Nat.le_refl _) (.map #[] 0)).alloc (by simp) (.cells (dcells (newPl w.heap.size) (newDk 23)) 90))
  go_enter Try.func8, Try.ntmps8
  go_wp2_with (go_at_call 22; refine (new_yes _ 23 (by decide) (by decide)).mono ?_; rintro e w' ⟨rfl, rfl⟩)
  generalize (w.alloc (.map #[] 0)).alloc (.cells (dcells (newPl w.heap.size) (newDk 23)) 90) = W0 at N0 L0 ⊢
  generalize newPl w.heap.size = pl0 at N0
  refine (show Calls Try.prog _ #[.pointer (some ⟨w.heap.size + 1, 0, none⟩), .int .i64 0, .agg #[.int .i64 4, .int .i64 1, .int .i64 1]] W0 _ from hwrite_goes N0.out L0.out.size (by decide) 0 4 1 1 (by decide) (by decide) (by decide) (by decide) rfl (by decide) rfl).mono ?_
  rintro e W1 ⟨rfl, v1, n1, f1, _⟩
  have N1 := Lib.hid (show DiskAt W1 w.heap.size (w.heap.size + 1) { pl0 with wv := v1 } w8a from n1)
  have L1 := Lib.hid (L0.out.trans (f1.to_below (fun k hk => (N0.out.lt k hk).2) L0.out.size))
  generalize ({ pl0 with wv := v1 } : Pl) = pl1 at N1
  clear n1 f1 N0 L0
  go_wp2_with fail
  refine (show Calls Try.prog _ #[.pointer (some ⟨w.heap.size + 1, 0, none⟩), .int .i64 1, .agg #[.int .i64 5, .int .i64 0, .int .i64 1]] W1 _ from hwrite_goes N1.out L1.out.size (by decide) 1 5 0 1 (by decide) (by decide) (by decide) (by decide) rfl (by decide) rfl).mono ?_
  rintro e W2 ⟨rfl, v2, n2, f2, _⟩
  have N2 := Lib.hid (show DiskAt W2 w.heap.size (w.heap.size + 1) { pl1 with wv := v2 } w8b from n2)
  have L2 := Lib.hid (L1.out.trans (f2.to_below (fun k hk => (N1.out.lt k hk).2) L1.out.size))
  generalize ({ pl1 with wv := v2 } : Pl) = pl2 at N2
  clear n2 f2 N1 L1
  go_wp2_with fail
  refine (hread_two N2.out (by decide) (by decide) rfl rfl 4 1 5 0 1 (by decide) (by decide) (by decide) (by decide) (by decide) rfl w8_r0 w8_r1).mono ?_
  rw [if_pos (by decide)]
  rintro e W3 ⟨rfl, n3, f3⟩
  have N3 := Lib.hid (show DiskAt W3 w.heap.size (w.heap.size + 1) pl2 w8c from n3)
  have L3 := Lib.hid (L2.out.trans (f3.to_below (fun k hk => (N2.out.lt k hk).2) L2.out.size))
  have NN := Lib.hid (show ∀ k, pl2.has (w.heap.size + 1) k → k < W3.heap.size from fun k hk => (N3.out.lt k hk).1)
  have G3 := Lib.hid (Blk.new W3 28 #[.int .i64 5, .int .i64 0, .int .i64 1])
  have N3' := Lib.hid (N3.out.alloc (.cells #[.int .i64 5, .int .i64 0, .int .i64 1] 28))
  have L3' := Lib.hid (L3.out.alloc L3.out.size (.cells #[.int .i64 5, .int .i64 0, .int .i64 1] 28))
  clear n3 f3 N2 L2
  go_wp2_with fail
  have GL := Lib.hid G3.out.lt
  generalize W3.alloc (.cells #[.int .i64 5, .int .i64 0, .int .i64 1] 28) = W4 at G3 N3' L3' GL ⊢
  refine (show Calls Try.prog _ #[.pointer (some ⟨w.heap.size + 1, 0, none⟩), .int .i64 1, .int .i64 5, .int .u8 1] W4 _ from spoil_goes N3'.out (by decide) 1 5 1 (by decide) (by decide)).mono ?_
  rintro e W5 ⟨rfl, n5, f5⟩
  have N5 := Lib.hid (show DiskAt W5 w.heap.size (w.heap.size + 1) pl2 w8d from n5)
  have L5 := Lib.hid (L3'.out.trans (f5.to_below (fun k hk => (N3'.out.lt k hk).2) L3'.out.size))
  have G5 := Lib.hid (f5.keepBlk G3.out (fun hk => by have := NN.out _ hk; omega))
  clear n5 f5 N3' L3' G3
  go_wp2_with fail
  refine (hread_one N5.out (by decide) (by decide) rfl rfl 4 1 1 (by decide) (by decide) (by decide) rfl w8_s0 (by rw [w8_s1]; exact spoilt_b)).mono ?_
  rintro e W6 ⟨rfl, n6, f6⟩
  have L6 := Lib.hid (L5.out.trans (f6.to_below (fun k hk => (N5.out.lt k hk).2) L5.out.size))
  have G6 := Lib.hid ((f6.keepBlk G5.out (fun hk => by have := NN.out _ hk; omega)).alloc (.cells #[.int .i64 4, .int .i64 1, .int .i64 1] 28))
  have H6 := Lib.hid (Blk.new W6 28 #[.int .i64 4, .int .i64 1, .int .i64 1])
  have L7 := Lib.hid (L6.out.alloc L6.out.size (.cells #[.int .i64 4, .int .i64 1, .int .i64 1] 28))
  clear n6 f6 N5 L5 G5 L6 NN
  have a0 := (G6.out.cell 0).trans (show _ = some (.int .i64 5) from rfl)
  have a1 := (G6.out.cell 1).trans (show _ = some (.int .i64 0) from rfl)
  have a2 := (G6.out.cell 2).trans (show _ = some (.int .i64 1) from rfl)
  go_wp2_with (go_at_call 12; refine (num8_any _ _).mono ?_; rintro e w' ⟨rfl, rfl⟩)
  go_ret
  exact ⟨rfl, L7.out⟩
end Go.Proofs.Ytjfcmoappbfnjaa

namespace Go.Proofs.Ytjfcmoappbfnjaa
open List renaming getElem_toArray → zq1, getElem_cons_succ → zq2, getElem_cons_zero → zq3, setIfInBounds_toArray → zq4, set_cons_zero → zq5, set_cons_succ → zq6
open Go.RowKit
attribute [local go_sem] Oper.semAt_some
/-- a disk of the law: its sectors, its two heads, its fails -/
structure Ds where
  s : Int
  A0 : Option Addr
  n0 : Nat
  c0 : Nat
  A1 : Option Addr
  n1 : Nat
  c1 : Nat
  A2 : Option Addr
  n2 : Nat
  c2 : Nat
abbrev Ds.cs (d : Ds) : List Value := [.int .i64 d.s, .slice d.A0 d.n0 d.c0, .slice d.A1 d.n1 d.c1, .slice d.A2 d.n2 d.c2]
abbrev Ds.val (d : Ds) : Value := .agg #[.int .i64 d.s, .slice d.A0 d.n0 d.c0, .slice d.A1 d.n1 d.c1, .slice d.A2 d.n2 d.c2]
abbrev Ds.ok (d : Ds) : Prop := 1 ≤ d.s ∧ d.s ≤ 220 ∧ d.n0 ≤ 512 ∧ d.n1 ≤ 512 ∧ d.n2 ≤ 20
end Go.Proofs.Ytjfcmoappbfnjaa

namespace Go.Proofs.Ytjfcmoappbfnjaa
open List renaming getElem_toArray → zq1, getElem_cons_succ → zq2, getElem_cons_zero → zq3, setIfInBounds_toArray → zq4, set_cons_zero → zq5, set_cons_succ → zq6
open Go.RowKit
attribute [local go_sem] Oper.semAt_some
theorem Below.heap8 (w : World) (o : Obj) : Below w.heap.size w (w.alloc o) := (Below.refl _ w).alloc (Nat.le_refl _) o
end Go.Proofs.Ytjfcmoappbfnjaa

namespace Go.Proofs.Ytjfcmoappbfnjaa
open List renaming getElem_toArray → zq1, getElem_cons_succ → zq2, getElem_cons_zero → zq3, setIfInBounds_toArray → zq4, set_cons_zero → zq5, set_cons_succ → zq6
open Go.RowKit Go.ChangeShapes Go.WideShapes Go.ChangeAt
section
variable {H : Type} {enc : TypeId × Value → H} {W : World} {base : Nat} {held : Bool} {d : DataW H} {p : List MemPlace}
end
end Go.Proofs.Ytjfcmoappbfnjaa

namespace Go.Proofs.Ytjfcmoappbfnjaa
open List renaming getElem_toArray → zq1, getElem_cons_succ → zq2, getElem_cons_zero → zq3, setIfInBounds_toArray → zq4, set_cons_zero → zq5, set_cons_succ → zq6
open Go.RowKit
attribute [local go_sem] Oper.semAt_some
set_option maxRecDepth 8000 in
theorem wpList_store_g8 {ops : Array Oper} {rest : List Oper} {o : Oper} {a : Act} {w : World} {Q : Exit → Act → World → Prop} (hgd : o.guard = none) (ty : TypeId) (x y : Operand) (ho : o.op = .store ty x y) {g : Nat} (hx : a.eval x = .pointer (some ⟨g, 0, none⟩))
    (cells old : Array Value) (t : TypeId) (hy : a.eval y = .agg cells) (hb : Blk w g t old) (hi : (Try.prog.info? ty).map (·.size) = some cells.size) (hold : old.size = cells.size) (h1 : cells.all (·.oneCell') = true)
    (h : ∀ w', Blk w' g t cells → Fr (fun k => k = g) w w' → wpList Try.prog ops Q rest (a.put o.dst undef) w') : wpList Try.prog ops Q (o :: rest) a w := by
  refine wpList_store_row hgd ty x y ho g cells hx hy t old hb hi hold h1 ?_
  exact h _ (setRow_heap w g _ _ t (0, 0) hb) (setRow_fr8 w g cells)
end Go.Proofs.Ytjfcmoappbfnjaa

namespace Go.Proofs.Ytjfcmoappbfnjaa
open List renaming getElem_toArray → zq1, getElem_cons_succ → zq2, getElem_cons_zero → zq3, setIfInBounds_toArray → zq4, set_cons_zero → zq5, set_cons_succ → zq6
open Go.RowKit
attribute [local go_sem] Oper.semAt_some
end Go.Proofs.Ytjfcmoappbfnjaa

namespace Go.Proofs.Ytjfcmoappbfnjaa
open List renaming getElem_toArray → zq1, getElem_cons_succ → zq2, getElem_cons_zero → zq3, setIfInBounds_toArray → zq4, set_cons_zero → zq5, set_cons_succ → zq6
open Go.RowKit
attribute [local go_sem] Oper.semAt_some
attribute [local go_sem] run_store_bv run_store_wc run_store_bv_drew run_store_wc_drew
end Go.Proofs.Ytjfcmoappbfnjaa

namespace Go.Proofs.Ytjfcmoappbfnjaa
open List renaming getElem_toArray → zq1, getElem_cons_succ → zq2, getElem_cons_zero → zq3, setIfInBounds_toArray → zq4, set_cons_zero → zq5, set_cons_succ → zq6
open Go.RowKit
attribute [local go_sem] Oper.semAt_some
end Go.Proofs.Ytjfcmoappbfnjaa

namespace Go.Proofs.Ytjfcmoappbfnjaa
open List renaming getElem_toArray → zq1, getElem_cons_succ → zq2, getElem_cons_zero → zq3, setIfInBounds_toArray → zq4, set_cons_zero → zq5, set_cons_succ → zq6
open Go.RowKit
attribute [local go_sem] Oper.semAt_some
end Go.Proofs.Ytjfcmoappbfnjaa

namespace Go.Proofs.Ytjfcmoappbfnjaa
open List renaming getElem_toArray → zq1, getElem_cons_succ → zq2, getElem_cons_zero → zq3, setIfInBounds_toArray → zq4, set_cons_zero → zq5, set_cons_succ → zq6
open Go.RowKit
attribute [local go_sem] Oper.semAt_some
attribute [local go_sem] run_store_bv run_store_wc run_store_bv_drew run_store_wc_drew
end Go.Proofs.Ytjfcmoappbfnjaa

namespace Go.Proofs.Ytjfcmoappbfnjaa
open List renaming getElem_toArray → zq1, getElem_cons_succ → zq2, getElem_cons_zero → zq3, setIfInBounds_toArray → zq4, set_cons_zero → zq5, set_cons_succ → zq6
open Go.RowKit
attribute [local go_sem] Oper.semAt_some
attribute [local go_sem] run_store_bv run_store_wc run_store_bv_drew run_store_wc_drew
/-- an owned row, of bytes appended to it -/
structure Ow (W2 w : World) (b2 : Nat) (v : Value) (n : Nat) (l : List UInt8) : Prop where
  ow : w.ownsRow b2 5 1 v n (bv l)
  be : Below b2 W2 w
  sz : b2 ≤ w.heap.size
theorem Ow.next {W2 w w' : World} {b2 : Nat} {v : Value} {n : Nat} {l : List UInt8} (h : Ow W2 w b2 v n l) (hb : Below w.heap.size w w') : Ow W2 w' b2 v n l := ⟨own_below h.ow hb, h.be.trans (hb.mono h.sz), Nat.le_trans h.sz hb.size⟩
theorem Ow.grown {W2 w w' : World} {b2 : Nat} {v v' : Value} {n m : Nat} {l l' : List UInt8} (h : Ow W2 w b2 v n l) (ho : w'.ownsRow b2 5 1 v' m (bv l')) (hg : w.grownBy w' v.ownBlock) : Ow W2 w' b2 v' m l' :=
  ⟨ho, below_append h.be h.ow hg (Nat.le_refl _) h.sz, Nat.le_trans h.sz (below_append (Below.refl b2 w) h.ow hg (Nat.le_refl _) h.sz).size⟩
end Go.Proofs.Ytjfcmoappbfnjaa

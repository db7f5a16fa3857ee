/- The walk: the document's own Crc. -/
import Derived.Test.YtjfcmoappbfnjaaP03
import Derived.RangeFuncNested
import Derived.RangeFuncBound
import Derived.RangeFuncCalls
import Derived.RangeFuncLeaves
import Derived.RangeFuncBox
import Derived.RangeFuncFrom
import Derived.Shelf.Abstract
import Derived.Shelf.RegionOpen
import Derived.WalkKit
import Derived.OwnWalkIn
import Derived.TacticsInMore
import Derived.LoopNIn
import Derived.LoopIn
namespace Go.Proofs.Ytjfcmoappbfnjaa.S
open Go.RowKit
set_option maxRecDepth 8000 in
theorem u32_xor_byte (s : Nat) (x : UInt8) (h : s < 4294967296) : bits BinOp.xor IntKind.u32 (s : Int) ((x.toNat : Int) % 4294967296) = ((s ^^^ x.toNat : Nat) : Int) := by
  have := x.toNat_lt
  rw [show ((x.toNat : Int) % 4294967296) = (x.toNat : Int) by omega]
  exact u32_xor_nat s x.toNat h (by omega)
end Go.Proofs.Ytjfcmoappbfnjaa.S
namespace Go.Proofs.Ytjfcmoappbfnjaa.S
open Go.RowKit Go.Shelf
attribute [local go_sem] Oper.semAt_some
/-- what has come when k rounds are over -/
def upto {α : Type} (f : Nat → α) (k : Nat) : List α := (List.range k).map f
set_option maxRecDepth 8000 in
theorem upto_succ {α : Type} (f : Nat → α) (k : Nat) : upto f (k + 1) = upto f k ++ [f k] := by simp [upto, List.range_succ]
set_option maxRecDepth 8000 in
theorem upto_length {α : Type} (f : Nat → α) (k : Nat) : (upto f k).length = k := by simp [upto]
def bitN (v k : Nat) : Fin 2 := ⟨v / 2 ^ k % 2, Nat.mod_lt _ (by omega)⟩
set_option maxRecDepth 8000 in
theorem bit_and (v k : Nat) (hv : v < 4294967296) : bits BinOp.and IntKind.u32 ((v : Int) / 2 ^ k) 1 = ((bitN v k).val : Int) := by
  rw [show ((v : Int) / 2 ^ k) = ((v / 2 ^ k : Nat) : Int) by simp]
  exact u32_and1 _ (Nat.lt_of_le_of_lt (Nat.div_le_self _ _) hv)
/-- the blocks from B on, below D, lie as they lay -/
def KpR (B D : Nat) (W W' : World) : Prop := ∀ b, B ≤ b → b < D → W'.heap[b]? = W.heap[b]?
theorem KpR.trans {B D : Nat} {X Y Z : World} (h : KpR B D X Y) (k : KpR B D Y Z) : KpR B D X Z := fun b h1 h2 => (k b h1 h2).trans (h b h1 h2)
theorem KpR.cell {B D b o : Nat} {W W' : World} (h : KpR B D W W') (h1 : B ≤ b) (h2 : b < D) : W'.cell? ⟨b, o, none⟩ = W.cell? ⟨b, o, none⟩ := World.cell?_of_block (h b h1 h2)
set_option maxRecDepth 8000 in
theorem KpR.put {B D H : Nat} (hD : D ≤ H) (W : World) (l : Nat) (o o' : Obj) (hl : H ≤ l) (_ : W.heap[l]? = some o) (_ : o.isCells = false) (_ : o.isWalk = false) : KpR B D W (W.putObj l o') := by
  intro b _ hb
  simp only [World.putObj]
  rw [Array.getElem?_setIfInBounds_ne (by omega)]
set_option maxRecDepth 100000 in
set_option maxHeartbeats 2000000 in
theorem bits1_in (F : Fence) (n : Nat) (hF : F.fn 97) (hro : F.round = none) (hn : 1 ≤ n) (l bC bN B D c v : Nat) (hc32 : c ≤ 32) (h1 : B ≤ bN) (h2 : bN < D) (J Jx : List (Fin 2) → World → Prop)
    (hY : ∀ pre x W, J pre W → pre.length < c → YieldAt F (n - 1) Try.prog l #[.int .u32 (x.val : Int)] W fun e W' =>
      (e = .returned (.bool true) ∧ J (pre ++ [x]) W' ∧ KpR B D W W') ∨ (e = .returned (.bool false) ∧ Jx (pre ++ [x]) W'))
    (W : World) (hbC : W.cell? ⟨bC, 0, none⟩ = some (.int .i64 (c : Int))) (hbN : W.cell? ⟨bN, 0, none⟩ = some (.int .u32 (v : Int))) (hv : v < 4294967296) (h0 : J [] W) :
    CallsIn F n Try.prog 97 #[.func (.yield l) #[] #[], .pointer (some ⟨bC, 0, none⟩), .pointer (some ⟨bN, 0, none⟩)] W fun e W' => (∃ v, e = .returned v) ∧
      ((∃ ys, ys = upto (bitN v) c ∧ J ys W') ∨ (∃ pre, (∃ k, k ≤ c ∧ pre = upto (bitN v) k) ∧ Jx pre W')) := by
  refine callsIn_of_wp Try.func97 rfl hF ?_ hro
  simp only [Try.ntmps97, List.size_toArray, List.length_cons, List.length_nil, Nat.reduceAdd, Nat.reduceSub, Array.replicate_succ, Array.replicate_zero, List.push_toArray, List.append_toArray, List.nil_append, List.cons_append]
  gi_wp2
  gi_loopw [6] (fun i wr => ∃ k : Nat, k ≤ c ∧ i = .int .i64 k ∧ J (upto (bitN v) k) wr ∧ wr.cell? ⟨bN, 0, none⟩ = some (.int .u32 (v : Int)))
    (fun i _ => c - (intOf i).toNat)
  case atStart => exact ⟨0, Nat.zero_le _, rfl, h0, hbN⟩
  case round =>
    obtain ⟨k, hk, rfl, hJs, hcN⟩ := hrel
    by_cases hlt : k < c
    · obtain ⟨fn, tmps, assign, body, hy, hR⟩ := hY _ (bitN v k) wr hJs (by rw [upto_length]; exact hlt)
      have hbit := bit_and v k hv
      gi_wp2
      refine hR.mono ?_
      rintro e W3 (⟨rfl, hJ3, hk3⟩ | ⟨rfl, hJx3⟩)
      · have hc3 := (hk3.cell (o := 0) h1 h2).trans hcN
        gi_wp2
        go_roundw
        case rel => exact ⟨k + 1, by omega, by simp, by rw [upto_succ]; exact hJ3, hc3⟩
        case measure => simp [intOf]; omega
      · gi_wp2
        refine bodyPost_ret (results_none rfl _ _ _) rfl ?_
        exact ⟨⟨_, rfl⟩, .inr ⟨_, ⟨k + 1, by omega, (upto_succ _ _).symm⟩, hJx3⟩⟩
    · obtain rfl : k = c := by omega
      gi_wp2
      go_end0
      exact ⟨⟨_, rfl⟩, .inl ⟨_, rfl, hJs⟩⟩
set_option maxRecDepth 8000 in
set_option maxHeartbeats 400000 in
theorem bits_in (F : Fence) (n : Nat) (hF : F.fn 95) (hro : F.round = none) (v c : Nat) (w : World) :
    CallsIn F n Try.prog 95 #[.int .u32 (v : Int), .int .i64 (c : Int)] w fun e w' =>
      e = .returned (.func (.func 97) #[] #[.pointer (some ⟨w.heap.size + 1, 0, none⟩), .pointer (some ⟨w.heap.size, 0, none⟩)]) ∧ (w.alloc (.cells #[.int .u32 (v : Int)] 63)).alloc (.cells #[.int .i64 (c : Int)] 3) = w' := by
  refine callsIn_of_wp Try.func95 rfl hF ?_ hro
  simp only [Try.ntmps95, List.size_toArray, List.length_cons, List.length_nil, Nat.reduceAdd, Nat.reduceSub, Array.replicate_succ, Array.replicate_zero, List.push_toArray, List.append_toArray, List.nil_append, List.cons_append]
  gi_wp2
  go_ret
  exact ⟨rfl, rfl⟩
/-- the sum of bits taken in, one behind the other -/
def takeN (l : List (Fin 2)) : Nat := l.foldl (fun s b => stepN (s ^^^ b.val)) 0
set_option maxRecDepth 8000 in
theorem takeN_snoc (l : List (Fin 2)) (b : Fin 2) : takeN (l ++ [b]) = stepN (takeN l ^^^ b.val) := by simp [takeN]
def halfN (v : Nat) : Nat := takeN (upto (bitN v) 4)
theorem xor_bit_lt {s : Nat} (h : s < 4294967296) (b : Fin 2) : s ^^^ b.val < 4294967296 := Nat.xor_lt_two_pow (n := 32) (by omega) (by have := b.isLt; omega)
set_option maxRecDepth 8000 in
theorem takeN_lt_of (l : List (Fin 2)) : ∀ s, s < 4294967296 → l.foldl (fun s b => stepN (s ^^^ b.val)) s < 4294967296 := by
  induction l with
  | nil => intro s h; exact h
  | cons b l ih => intro s h; exact ih _ (stepN_lt (xor_bit_lt h b))
theorem takeN_lt (l : List (Fin 2)) : takeN l < 4294967296 := takeN_lt_of l 0 (by omega)
theorem halfN_lt (v : Nat) : halfN v < 4294967296 := takeN_lt _
set_option maxRecDepth 8000 in
set_option maxHeartbeats 400000 in
theorem step_in (F : Fence) (n : Nat) (hF : F.fn 96) (hro : F.round = none) (s : Nat) (w : World) (h : s < 4294967296) :
    CallsIn F n Try.prog 96 #[.int .u32 (s : Int)] w fun e w' => e = .returned (.int .u32 (stepN s : Int)) ∧ w = w' := by
  have ha := u32_and1 s h
  have hx := u32_xor_nat (s / 2) 3988292384 (by omega) (by omega)
  refine callsIn_of_wp Try.func96 rfl hF ?_ hro
  simp only [Try.ntmps96, List.size_toArray, List.length_cons, List.length_nil, Nat.reduceAdd, Nat.reduceSub, Array.replicate_succ, Array.replicate_zero, List.push_toArray, List.append_toArray, List.nil_append, List.cons_append]
  gi_wp2
  · have h0 : ((s : Int) % 2 == 0) = true := by assumption
    go_ret
    have h1 : s % 2 = 0 := by have : (s : Int) % 2 = 0 := by simpa using h0
                              omega
    exact ⟨ret_int (by rw [stepN, if_pos h1]; omega), rfl⟩
  · have h0 : ((s : Int) % 2 == 0) = false := by assumption
    go_ret
    exact ⟨ret_int (by rw [stepN, if_neg (by intro h1; have : (s : Int) % 2 = 0 := by omega
                                             simp [this] at h0), ← hx]; congr 1), rfl⟩
set_option maxRecDepth 100000 in
set_option maxHeartbeats 2000000 in
theorem half_in (F : Fence) (n : Nat) (h24 : F.fn 94) (h30 : F.fn 95) (h31 : F.fn 96) (h33 : F.fn 97) (hro : F.round = none) (hn : 4 ≤ n) (v : Nat) (hv : v < 4294967296) (w : World) :
    CallsIn F n Try.prog 94 #[.int .u32 (v : Int)] w fun e w' => e = .returned (.int .u32 (halfN v : Int)) ∧ Below w.heap.size w w' := by
  have hn1 : 1 ≤ n := by omega
  have hB := bits_in F (n - 1) h30 hro v 4 (w.alloc (.cells #[.int .u32 0] 63))
  have HB := Lib.hid hB
  clear hB
  refine callsIn_of_wp_marks Try.func94 rfl h24 ?_ hro
  simp only [Try.ntmps94, List.size_toArray, List.length_cons, List.length_nil, Nat.reduceAdd, Nat.reduceSub, Array.replicate_succ, Array.replicate_zero, List.push_toArray, List.append_toArray, List.nil_append, List.cons_append]
  gi_wp2_with (gi_at_call 95; refine (HB.out).mono ?_; rintro e w' ⟨rfl, rfl⟩)
  have hN := Boxed.new (w.alloc (.cells #[.int .u32 0] 63)) 63 (.int .u32 (v : Int))
  have hC := Boxed.new ((w.alloc (.cells #[.int .u32 0] 63)).alloc (.cells #[.int .u32 (v : Int)] 63)) 3 (.int .i64 4)
  simp only [World.size_alloc] at hN hC
  have hB0 : Below w.heap.size w (((w.alloc (.cells #[.int .u32 0] 63)).alloc (.cells #[.int .u32 (v : Int)] 63)).alloc (.cells #[.int .i64 4] 3)) := (((Below.refl _ w).alloc (Nat.le_refl _) _).alloc (by simp) _).alloc (by simp; omega) _
  obtain ⟨W0, hW0⟩ : ∃ W0, W0 = ((w.alloc (.cells #[.int .u32 0] 63)).alloc (.cells #[.int .u32 (v : Int)] 63)).alloc (.cells #[.int .i64 4] 3) := ⟨_, rfl⟩
  have hsz : W0.heap.size = w.heap.size + 3 := by rw [hW0]; simp
  have hs0 : Boxed W0 w.heap.size 63 (.int .u32 ((takeN [] : Nat) : Int)) := by
    rw [hW0]
    exact ((Boxed.new w 63 (.int .u32 0)).alloc _).alloc _
  have hN0 : W0.cell? ⟨w.heap.size + 1, 0, none⟩ = some (.int .u32 (v : Int)) := by rw [hW0]; exact (hN.alloc _).cell
  have hC0 : W0.cell? ⟨w.heap.size + 1 + 1, 0, none⟩ = some (.int .i64 ((4 : Nat) : Int)) := by rw [hW0]; exact hC.cell
  rw [← hW0] at hB0 ⊢
  clear hW0 hN hC HB
  refine wpIn_rangeFunc_ownF hro hn1 (gf := 97) (lb := #[.pointer (some ⟨w.heap.size + 1 + 1, 0, none⟩), .pointer (some ⟨w.heap.size + 1, 0, none⟩)]) rfl h33 (enters_of Try.func97 (by kernel_rfl) rfl)
    (encs := fun x : Fin 2 => #[.int .u32 (x.val : Int)]) (Kp := KpR (w.heap.size + 1) (w.heap.size + 3)) (S := fun ys => ys = upto (bitN v) 4) (Sp := fun pre => ∃ k, k ≤ 4 ∧ pre = upto (bitN v) k) (N := 4) (w0 := W0)
    ?seq KpR.trans (fun W l o o' hl ho hc hk => KpR.put (Nat.le_refl _) W l o o' (by rw [hsz] at hl; exact hl) ho hc hk) (Below.refl _ _) (fun _ => rfl)
    (fun pre W => Boxed W w.heap.size 63 (.int .u32 ((takeN pre : Nat) : Int)) ∧ Below w.heap.size w W)
    (fun _ _ _ => False)
    ?hI
    (fun _ _ _ _ _ hs _ _ => hs)
    ⟨hs0, hB0⟩
    (fun x => { tmps := #[.int .u32 (v : Int), undef, .int .u32 0, .pointer (some ⟨w.heap.size, 0, none⟩), .int .u32 (x.val : Int), .int .u32 (v : Int), .func (.func 97) #[] #[.pointer (some ⟨w.heap.size + 1 + 1, 0, none⟩), .pointer (some ⟨w.heap.size + 1, 0, none⟩)], .int .u32 (x.val : Int), undef, undef, undef, undef, undef], defers := [] }) ?assign ?body ?done ?stop
  case seq =>
    intro l J Jx W hb hJ hJx hY h0
    refine bits1_in F (n - 1) h33 hro (by omega) l _ _ (w.heap.size + 1) (w.heap.size + 3) 4 v (by omega) (by omega) (by omega) J Jx hY W ?_ ?_ hv h0
    · exact (hb.cell (p := ⟨w.heap.size + 1 + 1, 0, none⟩) (by rw [hsz]; simp)).trans hC0
    · exact (hb.cell (p := ⟨w.heap.size + 1, 0, none⟩) (by rw [hsz]; simp)).trans hN0
  case hI =>
    exact OwnFrom.and (Own.from (boxed_own _ _ _) _) (ownFrom_below (Nat.le_refl _) (by omega))
  case assign =>
    intro l x W K hK
    gi_wp2
    exact hK
  case body =>
    rintro l pre x W ⟨hbx, hB⟩ _
    have hc := hbx.cell
    have hf := hbx.frozen
    have hd : 1 ≤ n - 1 - 1 := by omega
    have ht := takeN_lt pre
    have hx := u32_xor_nat (takeN pre) x.val ht (by have := x.isLt; omega)
    have HT := Lib.hid (takeN_snoc pre x)
    have hxl := xor_bit_lt ht x
    gi_wp2_with (gi_at_call 96; refine (CallsIn.inRound l (step_in F _ h31 hro _ _ hxl)).mono ?_; rintro e w' ⟨rfl, rfl⟩)
    refine ⟨KeepsOthers.setCell _ _ _, ?_, ?_, hB.setCell (p := ⟨w.heap.size, 0, none⟩) (Nat.le_refl _) _⟩
    · intro b h1 h2
      exact Below.heap_setCell _ _ _ _ (by simp; omega)
    · rw [HT.out]
      exact hbx.set _
  case done =>
    rintro D ys W hD rfl ⟨hbx, hB⟩ hK
    have hc := hbx.cell
    gi_wp2
    refine ⟨by simp, .inl ⟨_, _, rfl, run_takeDeferred hK, ?_⟩⟩
    exact ⟨_, results_tmp rfl _ _ _, rfl, hB.trans (belowK_b (w := w) (Nat.le_refl _) W D _ _ (by omega) hK rfl rfl)⟩
  case stop =>
    rintro D c pre W _ _ h _
    exact h.elim
end Go.Proofs.Ytjfcmoappbfnjaa.S
namespace Go.Proofs.Ytjfcmoappbfnjaa.S
open Go.RowKit
set_option maxRecDepth 8000 in
theorem xor_rot (a b c : Nat) : a ^^^ b ^^^ c = a ^^^ c ^^^ b := by rw [Nat.xor_assoc, Nat.xor_comm b c, ← Nat.xor_assoc]
set_option maxRecDepth 8000 in
theorem stepN_xor (a b : Nat) : stepN (a ^^^ b) = stepN a ^^^ stepN b := by
  unfold stepN
  have h2 : (a ^^^ b) / 2 = a / 2 ^^^ b / 2 := Nat.xor_div_two
  have hm : (a ^^^ b) % 2 = (a % 2 + b % 2) % 2 := by
    have := Nat.xor_mod_two_eq_one (a := a) (b := b)
    by_cases h1 : a % 2 = 1 <;> by_cases h2 : b % 2 = 1
    · have h3 : ¬ (a ^^^ b) % 2 = 1 := fun h => this.1 h (iff_of_true h1 h2)
      omega
    · have h3 : (a ^^^ b) % 2 = 1 := this.2 fun h => h2 (h.1 h1)
      omega
    · have h3 : (a ^^^ b) % 2 = 1 := this.2 fun h => h1 (h.2 h2)
      omega
    · have h3 : ¬ (a ^^^ b) % 2 = 1 := fun h => this.1 h (iff_of_false h1 h2)
      omega
  rw [h2]
  by_cases ha : a % 2 = 0 <;> by_cases hb : b % 2 = 0
  · rw [if_pos (by omega), if_pos ha, if_pos hb]
  · rw [if_neg (by omega), if_pos ha, if_neg hb, Nat.xor_assoc]
  · rw [if_neg (by omega), if_neg ha, if_pos hb, xor_rot]
  · rw [if_pos (by omega), if_neg ha, if_neg hb, Nat.xor_assoc, Nat.xor_comm 3988292384 (b / 2 ^^^ 3988292384), Nat.xor_assoc (b / 2), Nat.xor_self, Nat.xor_zero]
set_option maxRecDepth 8000 in
theorem stepsN_xor (k a b : Nat) : stepsN k (a ^^^ b) = stepsN k a ^^^ stepsN k b := by
  induction k with
  | zero => rfl
  | succ k ih => simp only [stepsN, ih, stepN_xor]
set_option maxRecDepth 8000 in
theorem stepsN_add (j k s : Nat) : stepsN (j + k) s = stepsN j (stepsN k s) := by
  induction j with
  | zero => simp [stepsN]
  | succ j ih => rw [Nat.succ_add]; simp only [stepsN, ih]
set_option maxRecDepth 8000 in
theorem stepN_even' (q : Nat) : stepN (2 * q) = q := by
  rw [stepN, if_pos (by omega)]
  omega
set_option maxRecDepth 8000 in
theorem steps4_even (q : Nat) : stepsN 4 (16 * q) = q := by
  simp only [stepsN]
  rw [show 16 * q = 2 * (2 * (2 * (2 * q))) by omega]
  simp only [stepN_even']
set_option maxRecDepth 8000 in
theorem halfN_eq : ∀ v : Fin 16, halfN v.val = stepsN 4 v.val := by decide +kernel
theorem xor_div16 (a b : Nat) : (a ^^^ b) / 16 = a / 16 ^^^ b / 16 := Nat.xor_div_two_pow (n := 4)
theorem xor_mod16 (a b : Nat) : (a ^^^ b) % 16 = a % 16 ^^^ b % 16 := Nat.xor_mod_two_pow (n := 4)
set_option maxRecDepth 8000 in
theorem split16 (t : Nat) : 16 * (t / 16) ^^^ t % 16 = t := by
  have h1 := xor_div16 (16 * (t / 16)) (t % 16)
  have h2 := xor_mod16 (16 * (t / 16)) (t % 16)
  rw [show 16 * (t / 16) / 16 = t / 16 by omega, show t % 16 / 16 = 0 by omega, Nat.xor_zero] at h1
  rw [show 16 * (t / 16) % 16 = 0 by omega, show t % 16 % 16 = t % 16 by omega, Nat.zero_xor] at h2
  omega
set_option maxRecDepth 8000 in
theorem steps4 (t : Nat) : stepsN 4 t = t / 16 ^^^ halfN (t % 16) := by
  have h := halfN_eq ⟨t % 16, by omega⟩
  simp only at h
  rw [h]
  have := stepsN_xor 4 (16 * (t / 16)) (t % 16)
  rw [split16, steps4_even] at this
  exact this
/-- the two halves of a byte, one behind the other -/
def loN (s x : Nat) : Nat := s / 16 ^^^ halfN ((s ^^^ x) % 16)
set_option maxRecDepth 8000 in
theorem byteN_halves (s : Nat) (x : UInt8) : byteN s x = loN (loN s x.toNat) (x.toNat / 16) := by
  have hx := x.toNat_lt
  unfold byteN loN
  rw [show (8 : Nat) = 4 + 4 from rfl, stepsN_add, steps4 (s ^^^ x.toNat), xor_div16, xor_rot, steps4, xor_div16 _ (x.toNat / 16), show x.toNat / 16 / 16 = 0 by omega, Nat.xor_zero]
theorem loN_lt {s x : Nat} (hs : s < 4294967296) : loN s x < 4294967296 := Nat.xor_lt_two_pow (n := 32) (by omega) (halfN_lt _)
end Go.Proofs.Ytjfcmoappbfnjaa.S
namespace Go.Proofs.Ytjfcmoappbfnjaa.S
open Go.RowKit
theorem half_any (v : Nat) (hv : v < 4294967296) (w : World) :
    Calls Try.prog 94 #[.int .u32 (v : Int)] w fun e w' => e = .returned (.int .u32 (halfN v : Int)) ∧ Below w.heap.size w w' :=
  callsIn_wide.1 (half_in Fence.wide 4 trivial trivial trivial trivial rfl (by omega) v hv w)
set_option maxRecDepth 8000 in
theorem not_nat (s : Nat) (hs : s < 4294967296) : 4294967295 ^^^ s = 4294967295 - s := by
  have h := congrArg BitVec.toNat (BitVec.allOnes_xor (x := BitVec.ofNat 32 s))
  rw [BitVec.toNat_xor, BitVec.toNat_not, BitVec.toNat_ofNat, BitVec.toNat_allOnes, Nat.mod_eq_of_lt (by omega)] at h
  exact h
set_option maxRecDepth 8000 in
theorem u32_not (s : Nat) (hs : s < 4294967296) : bits BinOp.xor IntKind.u32 IntKind.u32.max (s : Int) = ((4294967295 - s : Nat) : Int) := by
  have := u32_xor_nat 4294967295 s (by omega) hs
  rw [not_nat s hs] at this
  exact this
set_option maxRecDepth 8000 in
theorem u32_and15 (s : Nat) (h : s < 4294967296) : bits .and .u32 (s : Int) 15 = ((s % 16 : Nat) : Int) := by
  have := u32_and_nat s 15 h (by omega)
  rw [nat_mask4] at this
  exact this
set_option maxRecDepth 8000 in
theorem u32_xor_half (s : Nat) (x : UInt8) (h : s < 4294967296) : bits BinOp.xor IntKind.u32 (s : Int) ((x.toNat : Int) / 16 % 4294967296) = ((s ^^^ x.toNat / 16 : Nat) : Int) := by
  have := x.toNat_lt
  rw [show ((x.toNat : Int) / 16 % 4294967296) = ((x.toNat / 16 : Nat) : Int) by omega]
  exact u32_xor_nat s (x.toNat / 16) h (by omega)
/-- the table of half bytes when k of it are filled -/
def tabV (k : Nat) : Array Value := ((List.range 16).map fun j => Value.int .u32 (if j < k then (halfN j : Int) else 0)).toArray
set_option maxRecDepth 8000 in
theorem tabV_size (k : Nat) : (tabV k).size = 16 := by simp [tabV]
set_option maxRecDepth 8000 in
theorem tabV_get (k j : Nat) (h : j < 16) : (tabV k)[j]? = some (.int .u32 (if j < k then (halfN j : Int) else 0)) := by
  simp [tabV, h]
set_option maxRecDepth 8000 in
theorem tabV_set (k : Nat) (h : k < 16) : (tabV k).setIfInBounds k (.int .u32 (halfN k : Int)) = tabV (k + 1) := by
  apply Array.ext_getElem?
  intro j
  rw [Array.getElem?_setIfInBounds]
  by_cases hj : k = j
  · subst hj
    rw [if_pos rfl, if_pos (by rw [tabV_size]; exact h), tabV_get _ _ h, if_pos (by omega)]
  · rw [if_neg hj]
    by_cases h16 : j < 16
    · rw [tabV_get _ _ h16, tabV_get _ _ h16]
      by_cases h2 : j < k
      · rw [if_pos h2, if_pos (by omega)]
      · rw [if_neg h2, if_neg (by omega)]
    · simp [tabV, h16]
def CTab (w : World) (B k : Nat) : Prop := w.heap[B]? = some (.cells (tabV k) 167 (0, 0))
set_option maxRecDepth 8000 in
theorem CTab.cell {w : World} {B k : Nat} (h : CTab w B k) (j : Nat) (hj : j < 16) : w.cell? ⟨B, j, none⟩ = some (.int .u32 (if j < k then (halfN j : Int) else 0)) := by
  rw [cell_of_row w B j _ _ (0, 0) h, tabV_get k j hj]
theorem CTab.frozen {w : World} {B k : Nat} (h : CTab w B k) (j : Nat) : w.frozen? ⟨B, j, none⟩ = false := frozen_of_row w B j _ _ h
set_option maxRecDepth 8000 in
theorem CTab.store {w : World} {B k : Nat} (h : CTab w B k) (hk : k < 16) : CTab (w.setCell ⟨B, k, none⟩ (.int .u32 (halfN k : Int))) B (k + 1) := by
  have := heap_setCell_same w B k _ _ (.int .u32 (halfN k : Int)) h
  rw [tabV_set k hk] at this
  exact this
theorem CTab.lt {w : World} {B k : Nat} (h : CTab w B k) : B < w.heap.size := (Array.getElem?_eq_some_iff.1 h).1
theorem CTab.below {w w' : World} {B k : Nat} (h : CTab w B k) (hb : Below w.heap.size w w') : CTab w' B k := (hb.block B h.lt).trans h
set_option maxRecDepth 8000 in
set_option maxHeartbeats 800000 in
theorem update_any (s : Nat) (A : Option Addr) (n c : Nat) (l : List UInt8) (w : World) (hs : s < 4294967296) (hn : l.length = n) (hr : Rd w A l) (hbig : n ≤ 1000000) :
    Calls Try.prog 92 #[.int .u32 (s : Int), .slice A n c] w fun e w' => e = .returned (.int .u32 ((4294967295 - rawN (4294967295 - s) l : Nat) : Int)) ∧ Below w.heap.size w w' := by
  have HR := Lib.hid hr
  have HN := Lib.hid hn
  clear hr hn
  go_enter Try.func92, Try.ntmps92
  go_wp2_with fail
  go_loopw [6, 9] (fun _ i wr => ∃ k : Nat, k ≤ 16 ∧ i = .int .i64 k ∧ CTab wr w.heap.size k ∧ Below w.heap.size w wr) (fun _ i _ => 16 - (intOf i).toNat)
  case atStart => exact ⟨0, by omega, rfl, heap_alloc_new w _, (Below.refl _ _).alloc (Nat.le_refl _) _⟩
  case round =>
    obtain ⟨k, hk, rfl, htab, hbel⟩ := hrel
    by_cases hlt : k < 16
    · have HT := Lib.hid htab
      have HB := Lib.hid hbel
      clear htab hbel
      have hw32 : IntKind.u32.wrap (k : Int) = (k : Int) := by rw [IntKind.wrap_u32']; omega
      go_wp2_with (go_at_call 94; refine (half_any k (by omega) _).mono ?_; rintro e w1 ⟨rfl, hb1⟩; have ht1 := HT.out.below hb1; have hc1 := ht1.cell k hlt; have hf1 := ht1.frozen k; have HT1 := Lib.hid ht1; clear ht1)
      go_roundw
      case rel =>
        have h3 := (HB.out.trans (hb1.mono HB.out.size)).setCell (p := ⟨w.heap.size, k, none⟩) (Nat.le_refl _) (.int .u32 (halfN k : Int))
        exact ⟨k + 1, by omega, by go_num, HT1.out.store hlt, h3⟩
      case measure => simp [intOf]; omega
    · obtain rfl : k = 16 := by omega
      have hnot := u32_not s hs
      obtain ⟨s0, hs0e⟩ : ∃ s0, s0 = 4294967295 - s := ⟨_, rfl⟩
      rw [← hs0e] at hnot
      have hs0 : s0 < 4294967296 := by omega
      have HB := Lib.hid hbel
      have HT := Lib.hid htab
      have HS0 := Lib.hid hs0e
      clear hbel htab hs0e
      go_wp2_with fail
      go_loop [0, 8, 22] (fun t _ i => ∃ k : Nat, k ≤ n ∧ i = .int .i64 k ∧ t = .int .u32 (rawN s0 (l.take k) : Int)) (fun _ _ i => n - (intOf i).toNat)
      case atStart => exact ⟨0, by omega, rfl, rfl⟩
      case round =>
        obtain ⟨k, hk, rfl, rfl⟩ := hrel
        by_cases hlt : k < n
        · obtain ⟨b, off, rfl, hc⟩ := (HR.out.keep fun p hp => HB.out.cell hp) k (by have := HN.out; omega)
          have ht := rawN_lt (l.take k) hs0
          have hfin := rawN_snoc s0 (l.take k) (l[k]'(by have := HN.out; omega))
          rw [← take_snoc l k (by have := HN.out; omega)] at hfin
          obtain ⟨t, hte⟩ : ∃ t, t = rawN s0 (l.take k) := ⟨_, rfl⟩
          rw [← hte] at ht hfin ⊢
          obtain ⟨x, hxe⟩ : ∃ x, x = (l[k]'(by have := HN.out; omega)) := ⟨_, rfl⟩
          rw [← hxe] at hc hfin
          rw [byteN_halves] at hfin
          have htab := HT.out
          have hxb := x.toNat_lt
          have hx1 := u32_xor_byte t x ht
          have hx1l := xor_byte_lt x ht
          have ha1 := u32_and15 _ hx1l
          have hp1 : (t ^^^ x.toNat) % 16 < 16 := Nat.mod_lt _ (by omega)
          have hc1 := htab.cell _ hp1
          rw [if_pos hp1] at hc1
          have hr1 := u32_xor_nat (t / 16) (halfN ((t ^^^ x.toNat) % 16)) (by omega) (halfN_lt _)
          obtain ⟨t1, ht1e⟩ : ∃ t1, t1 = loN t x.toNat := ⟨_, rfl⟩
          have ht1 : t1 < 4294967296 := by rw [ht1e]; exact loN_lt ht
          rw [show t / 16 ^^^ halfN ((t ^^^ x.toNat) % 16) = t1 from ht1e.symm] at hr1
          rw [← ht1e] at hfin
          have hx2 := u32_xor_half t1 x ht1
          have hx2l : t1 ^^^ x.toNat / 16 < 4294967296 := Nat.xor_lt_two_pow (n := 32) (by omega) (by omega)
          have ha2 := u32_and15 _ hx2l
          have hp2 : (t1 ^^^ x.toNat / 16) % 16 < 16 := Nat.mod_lt _ (by omega)
          have hc2 := htab.cell _ hp2
          rw [if_pos hp2] at hc2
          have hr2 := u32_xor_nat (t1 / 16) (halfN ((t1 ^^^ x.toNat / 16) % 16)) (by omega) (halfN_lt _)
          rw [show t1 / 16 ^^^ halfN ((t1 ^^^ x.toNat / 16) % 16) = loN t1 (x.toNat / 16) from rfl, ← hfin] at hr2
          generalize (t ^^^ x.toNat) % 16 = p1 at *
          generalize (t1 ^^^ x.toNat / 16) % 16 = p2 at *
          generalize t ^^^ x.toNat = q1 at *
          generalize t1 ^^^ x.toNat / 16 = q2 at *
          generalize halfN p1 = h1 at *
          generalize halfN p2 = h2 at *
          obtain ⟨t2, ht2⟩ : ∃ t2, t2 = rawN s0 (l.take (k + 1)) := ⟨_, rfl⟩
          rw [← ht2] at hr2
          have HT2 := Lib.hid ht2
          clear ht2 hfin ht1e hx1l hx2l hte hxe htab hxb
          have hr1' : bits BinOp.xor IntKind.u32 ((t : Int) / 16) (h1 : Int) = (t1 : Int) := hr1
          have hr2' : bits BinOp.xor IntKind.u32 ((t1 : Int) / 16) (h2 : Int) = (t2 : Int) := hr2
          clear hr1 hr2
          go_wp2
          go_round
          case rel => exact ⟨k + 1, by omega, by go_num, by rw [HT2.out]⟩
          case measure => simp [intOf]; omega
        · go_wp2
          go_ret
          have hl : l.take k = l := List.take_of_length_le (by have := HN.out; omega)
          refine ⟨ret_int ?_, HB.out⟩
          rw [hl, ← HS0.out]
          exact u32_not _ (rawN_lt l hs0)
set_option maxRecDepth 8000 in
theorem crc_any (A : Option Addr) (n c : Nat) (l : List UInt8) (w : World) (hn : l.length = n) (hr : Rd w A l) (hbig : n ≤ 1000000) :
    Calls Try.prog 81 #[.slice A n c] w fun e w' => e = .returned (.int .u32 (crcN l : Int)) ∧ Below w.heap.size w w' := by
  have HU := Lib.hid (update_any 0 A n c l w (by omega) hn hr hbig)
  clear hn hr
  go_enter Try.func81, Try.ntmps81
  go_wp2_with (go_at_call 92; refine HU.out.mono ?_; rintro e w1 ⟨rfl, hb1⟩)
  go_ret
  exact ⟨rfl, hb1⟩
end Go.Proofs.Ytjfcmoappbfnjaa.S

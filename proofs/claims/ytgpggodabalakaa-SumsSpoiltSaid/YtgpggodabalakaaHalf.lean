/- The walks: bits, its closure, halfByte: a range over a function. -/
import Derived.RangeFuncNested
import Derived.RangeFuncBound
import Derived.RangeFuncCalls
import Derived.RangeFuncLeaves
import Derived.RangeFuncBox
import Derived.RangeFuncFrom
import Derived.Shelf.Abstract
import Derived.Shelf.RegionOpen
import Derived.WalkKit
import Derived.OwnWalkIn
import Derived.TacticsInMore
import Derived.LoopNIn
import Derived.LoopIn
import Derived.Test.YtgpggodabalakaaRCrcW
namespace Go.Proofs.Ytgpggodabalakaa
open Go.RowKit Go.Shelf
attribute [local go_sem] Oper.semAt_some
/-- what has come when k rounds are over -/
def upto {α : Type} (f : Nat → α) (k : Nat) : List α := (List.range k).map f
theorem upto_succ {α : Type} (f : Nat → α) (k : Nat) : upto f (k + 1) = upto f k ++ [f k] := by simp [upto, List.range_succ]
theorem upto_length {α : Type} (f : Nat → α) (k : Nat) : (upto f k).length = k := by simp [upto]
def bitN (v k : Nat) : Fin 2 := ⟨v / 2 ^ k % 2, Nat.mod_lt _ (by omega)⟩
theorem bit_and (v k : Nat) (hv : v < 4294967296) : bits BinOp.and IntKind.u32 ((v : Int) / 2 ^ k) 1 = ((bitN v k).val : Int) := by
  rw [show ((v : Int) / 2 ^ k) = ((v / 2 ^ k : Nat) : Int) by simp]
  exact u32_and1 _ (Nat.lt_of_le_of_lt (Nat.div_le_self _ _) hv)
/-- the blocks from B on, below D, lie as they lay -/
def KpR (B D : Nat) (W W' : World) : Prop := ∀ b, B ≤ b → b < D → W'.heap[b]? = W.heap[b]?
theorem KpR.trans {B D : Nat} {X Y Z : World} (h : KpR B D X Y) (k : KpR B D Y Z) : KpR B D X Z := fun b h1 h2 => (k b h1 h2).trans (h b h1 h2)
theorem KpR.cell {B D b o : Nat} {W W' : World} (h : KpR B D W W') (h1 : B ≤ b) (h2 : b < D) : W'.cell? ⟨b, o, none⟩ = W.cell? ⟨b, o, none⟩ := World.cell?_of_block (h b h1 h2)
theorem KpR.put {B D H : Nat} (hD : D ≤ H) (W : World) (l : Nat) (o o' : Obj) (hl : H ≤ l) (_ : W.heap[l]? = some o) (_ : o.isCells = false) (_ : o.isWalk = false) : KpR B D W (W.putObj l o') := by
  intro b _ hb
  simp only [World.putObj]
  rw [Array.getElem?_setIfInBounds_ne (by omega)]
set_option maxRecDepth 100000 in
set_option maxHeartbeats 2000000 in
theorem bits1_in (F : Fence) (n : Nat) (hF : F.fn 33) (hro : F.round = none) (hn : 1 ≤ n) (l bC bN B D c v : Nat) (hc32 : c ≤ 32) (h1 : B ≤ bN) (h2 : bN < D) (J Jx : List (Fin 2) → World → Prop)
    (hY : ∀ pre x W, J pre W → pre.length < c → YieldAt F (n - 1) Try.prog l #[.int .u32 (x.val : Int)] W fun e W' =>
      (e = .returned (.bool true) ∧ J (pre ++ [x]) W' ∧ KpR B D W W') ∨ (e = .returned (.bool false) ∧ Jx (pre ++ [x]) W'))
    (W : World) (hbC : W.cell? ⟨bC, 0, none⟩ = some (.int .i64 (c : Int))) (hbN : W.cell? ⟨bN, 0, none⟩ = some (.int .u32 (v : Int))) (hv : v < 4294967296) (h0 : J [] W) :
    CallsIn F n Try.prog 33 #[.func (.yield l) #[] #[], .pointer (some ⟨bC, 0, none⟩), .pointer (some ⟨bN, 0, none⟩)] W fun e W' => (∃ v, e = .returned v) ∧
      ((∃ ys, ys = upto (bitN v) c ∧ J ys W') ∨ (∃ pre, (∃ k, k ≤ c ∧ pre = upto (bitN v) k) ∧ Jx pre W')) := by
  refine callsIn_of_wp Try.func33 rfl hF ?_ hro
  simp only [Try.ntmps33, List.size_toArray, List.length_cons, List.length_nil, Nat.reduceAdd, Nat.reduceSub, Array.replicate_succ, Array.replicate_zero, List.push_toArray, List.append_toArray, List.nil_append, List.cons_append]
  gi_wp2
  gi_loopw [6] (fun i wr => ∃ k : Nat, k ≤ c ∧ i = .int .i64 k ∧ J (upto (bitN v) k) wr ∧ wr.cell? ⟨bN, 0, none⟩ = some (.int .u32 (v : Int)))
    (fun i _ => c - (intOf i).toNat)
  case atStart => exact ⟨0, Nat.zero_le _, rfl, h0, hbN⟩
  case round =>
    obtain ⟨k, hk, rfl, hJs, hcN⟩ := hrel
    by_cases hlt : k < c
    · obtain ⟨fn, tmps, assign, body, hy, hR⟩ := hY _ (bitN v k) wr hJs (by rw [upto_length]; exact hlt)
      have hbit := bit_and v k hv
      gi_wp2
      refine hR.mono ?_
      rintro e W3 (⟨rfl, hJ3, hk3⟩ | ⟨rfl, hJx3⟩)
      · have hc3 := (hk3.cell (o := 0) h1 h2).trans hcN
        gi_wp2
        go_roundw
        case rel => exact ⟨k + 1, by omega, by simp, by rw [upto_succ]; exact hJ3, hc3⟩
        case measure => simp [intOf]; omega
      · gi_wp2
        refine bodyPost_ret (results_none rfl _ _ _) rfl ?_
        exact ⟨⟨_, rfl⟩, .inr ⟨_, ⟨k + 1, by omega, (upto_succ _ _).symm⟩, hJx3⟩⟩
    · obtain rfl : k = c := by omega
      gi_wp2
      go_end0
      exact ⟨⟨_, rfl⟩, .inl ⟨_, rfl, hJs⟩⟩
set_option maxHeartbeats 400000 in
theorem bits_in (F : Fence) (n : Nat) (hF : F.fn 30) (hro : F.round = none) (v c : Nat) (w : World) :
    CallsIn F n Try.prog 30 #[.int .u32 (v : Int), .int .i64 (c : Int)] w fun e w' =>
      e = .returned (.func (.func 33) #[] #[.pointer (some ⟨w.heap.size + 1, 0, none⟩), .pointer (some ⟨w.heap.size, 0, none⟩)]) ∧ (w.alloc (.cells #[.int .u32 (v : Int)] 24)).alloc (.cells #[.int .i64 (c : Int)] 3) = w' := by
  refine callsIn_of_wp Try.func30 rfl hF ?_ hro
  simp only [Try.ntmps30, List.size_toArray, List.length_cons, List.length_nil, Nat.reduceAdd, Nat.reduceSub, Array.replicate_succ, Array.replicate_zero, List.push_toArray, List.append_toArray, List.nil_append, List.cons_append]
  gi_wp2
  go_ret
  exact ⟨rfl, rfl⟩
/-- the sum of bits taken in, one behind the other -/
def takeN (l : List (Fin 2)) : Nat := l.foldl (fun s b => stepN (s ^^^ b.val)) 0
theorem takeN_snoc (l : List (Fin 2)) (b : Fin 2) : takeN (l ++ [b]) = stepN (takeN l ^^^ b.val) := by simp [takeN]
def halfN (v : Nat) : Nat := takeN (upto (bitN v) 4)
theorem xor_bit_lt {s : Nat} (h : s < 4294967296) (b : Fin 2) : s ^^^ b.val < 4294967296 := Nat.xor_lt_two_pow (n := 32) (by omega) (by have := b.isLt; omega)
theorem takeN_lt_of (l : List (Fin 2)) : ∀ s, s < 4294967296 → l.foldl (fun s b => stepN (s ^^^ b.val)) s < 4294967296 := by
  induction l with
  | nil => intro s h; exact h
  | cons b l ih => intro s h; exact ih _ (stepN_lt (xor_bit_lt h b))
theorem takeN_lt (l : List (Fin 2)) : takeN l < 4294967296 := takeN_lt_of l 0 (by omega)
theorem halfN_lt (v : Nat) : halfN v < 4294967296 := takeN_lt _
set_option maxHeartbeats 400000 in
theorem step_in (F : Fence) (n : Nat) (hF : F.fn 31) (hro : F.round = none) (s : Nat) (w : World) (h : s < 4294967296) :
    CallsIn F n Try.prog 31 #[.int .u32 (s : Int)] w fun e w' => e = .returned (.int .u32 (stepN s : Int)) ∧ w = w' := by
  have ha := u32_and1 s h
  have hx := u32_xor_nat (s / 2) 3988292384 (by omega) (by omega)
  refine callsIn_of_wp Try.func31 rfl hF ?_ hro
  simp only [Try.ntmps31, List.size_toArray, List.length_cons, List.length_nil, Nat.reduceAdd, Nat.reduceSub, Array.replicate_succ, Array.replicate_zero, List.push_toArray, List.append_toArray, List.nil_append, List.cons_append]
  gi_wp2
  · have h0 : ((s : Int) % 2 == 0) = true := by assumption
    go_ret
    have h1 : s % 2 = 0 := by have : (s : Int) % 2 = 0 := by simpa using h0
                              omega
    exact ⟨ret_int (by rw [stepN, if_pos h1]; omega), rfl⟩
  · have h0 : ((s : Int) % 2 == 0) = false := by assumption
    go_ret
    exact ⟨ret_int (by rw [stepN, if_neg (by intro h1; have : (s : Int) % 2 = 0 := by omega
                                             simp [this] at h0), ← hx]; congr 1), rfl⟩
set_option maxRecDepth 100000 in
set_option maxHeartbeats 2000000 in
theorem half_in (F : Fence) (n : Nat) (h24 : F.fn 24) (h30 : F.fn 30) (h31 : F.fn 31) (h33 : F.fn 33) (hro : F.round = none) (hn : 4 ≤ n) (v : Nat) (hv : v < 4294967296) (w : World) :
    CallsIn F n Try.prog 24 #[.int .u32 (v : Int)] w fun e w' => e = .returned (.int .u32 (halfN v : Int)) ∧ Below w.heap.size w w' := by
  have hn1 : 1 ≤ n := by omega
  have hB := bits_in F (n - 1) h30 hro v 4 (w.alloc (.cells #[.int .u32 0] 24))
  have HB := Lib.hid hB
  clear hB
  refine callsIn_of_wp_marks Try.func24 rfl h24 ?_ hro
  simp only [Try.ntmps24, List.size_toArray, List.length_cons, List.length_nil, Nat.reduceAdd, Nat.reduceSub, Array.replicate_succ, Array.replicate_zero, List.push_toArray, List.append_toArray, List.nil_append, List.cons_append]
  gi_wp2_with (gi_at_call 30; refine (HB.out).mono ?_; rintro e w' ⟨rfl, rfl⟩)
  have hN := Boxed.new (w.alloc (.cells #[.int .u32 0] 24)) 24 (.int .u32 (v : Int))
  have hC := Boxed.new ((w.alloc (.cells #[.int .u32 0] 24)).alloc (.cells #[.int .u32 (v : Int)] 24)) 3 (.int .i64 4)
  simp only [World.size_alloc] at hN hC
  have hB0 : Below w.heap.size w (((w.alloc (.cells #[.int .u32 0] 24)).alloc (.cells #[.int .u32 (v : Int)] 24)).alloc (.cells #[.int .i64 4] 3)) := (((Below.refl _ w).alloc (Nat.le_refl _) _).alloc (by simp) _).alloc (by simp; omega) _
  obtain ⟨W0, hW0⟩ : ∃ W0, W0 = ((w.alloc (.cells #[.int .u32 0] 24)).alloc (.cells #[.int .u32 (v : Int)] 24)).alloc (.cells #[.int .i64 4] 3) := ⟨_, rfl⟩
  have hsz : W0.heap.size = w.heap.size + 3 := by rw [hW0]; simp
  have hs0 : Boxed W0 w.heap.size 24 (.int .u32 ((takeN [] : Nat) : Int)) := by
    rw [hW0]
    exact ((Boxed.new w 24 (.int .u32 0)).alloc _).alloc _
  have hN0 : W0.cell? ⟨w.heap.size + 1, 0, none⟩ = some (.int .u32 (v : Int)) := by rw [hW0]; exact (hN.alloc _).cell
  have hC0 : W0.cell? ⟨w.heap.size + 1 + 1, 0, none⟩ = some (.int .i64 ((4 : Nat) : Int)) := by rw [hW0]; exact hC.cell
  rw [← hW0] at hB0 ⊢
  clear hW0 hN hC HB
  refine wpIn_rangeFunc_ownF hro hn1 (gf := 33) (lb := #[.pointer (some ⟨w.heap.size + 1 + 1, 0, none⟩), .pointer (some ⟨w.heap.size + 1, 0, none⟩)]) rfl h33 (enters_of Try.func33 (by kernel_rfl) rfl)
    (encs := fun x : Fin 2 => #[.int .u32 (x.val : Int)]) (Kp := KpR (w.heap.size + 1) (w.heap.size + 3)) (S := fun ys => ys = upto (bitN v) 4) (Sp := fun pre => ∃ k, k ≤ 4 ∧ pre = upto (bitN v) k) (N := 4) (w0 := W0)
    ?seq KpR.trans (fun W l o o' hl ho hc hk => KpR.put (Nat.le_refl _) W l o o' (by rw [hsz] at hl; exact hl) ho hc hk) (Below.refl _ _) (fun _ => rfl)
    (fun pre W => Boxed W w.heap.size 24 (.int .u32 ((takeN pre : Nat) : Int)) ∧ Below w.heap.size w W)
    (fun _ _ _ => False)
    ?hI
    (fun _ _ _ _ _ hs _ _ => hs)
    ⟨hs0, hB0⟩
    (fun x => { tmps := #[.int .u32 (v : Int), undef, .int .u32 0, .pointer (some ⟨w.heap.size, 0, none⟩), .int .u32 (x.val : Int), .int .u32 (v : Int), .func (.func 33) #[] #[.pointer (some ⟨w.heap.size + 1 + 1, 0, none⟩), .pointer (some ⟨w.heap.size + 1, 0, none⟩)], .int .u32 (x.val : Int), undef, undef, undef, undef, undef], defers := [] }) ?assign ?body ?done ?stop
  case seq =>
    intro l J Jx W hb hJ hJx hY h0
    refine bits1_in F (n - 1) h33 hro (by omega) l _ _ (w.heap.size + 1) (w.heap.size + 3) 4 v (by omega) (by omega) (by omega) J Jx hY W ?_ ?_ hv h0
    · exact (hb.cell (p := ⟨w.heap.size + 1 + 1, 0, none⟩) (by rw [hsz]; simp)).trans hC0
    · exact (hb.cell (p := ⟨w.heap.size + 1, 0, none⟩) (by rw [hsz]; simp)).trans hN0
  case hI =>
    exact OwnFrom.and (Own.from (boxed_own _ _ _) _) (ownFrom_below (Nat.le_refl _) (by omega))
  case assign =>
    intro l x W K hK
    gi_wp2
    exact hK
  case body =>
    rintro l pre x W ⟨hbx, hB⟩ _
    have hc := hbx.cell
    have hf := hbx.frozen
    have hd : 1 ≤ n - 1 - 1 := by omega
    have ht := takeN_lt pre
    have hx := u32_xor_nat (takeN pre) x.val ht (by have := x.isLt; omega)
    have HT := Lib.hid (takeN_snoc pre x)
    have hxl := xor_bit_lt ht x
    gi_wp2_with (gi_at_call 31; refine (CallsIn.inRound l (step_in F _ h31 hro _ _ hxl)).mono ?_; rintro e w' ⟨rfl, rfl⟩)
    refine ⟨KeepsOthers.setCell _ _ _, ?_, ?_, hB.setCell (p := ⟨w.heap.size, 0, none⟩) (Nat.le_refl _) _⟩
    · intro b h1 h2
      exact Below.heap_setCell _ _ _ _ (by simp; omega)
    · rw [HT.out]
      exact hbx.set _
  case done =>
    rintro D ys W hD rfl ⟨hbx, hB⟩ hK
    have hc := hbx.cell
    gi_wp2
    refine ⟨by simp, .inl ⟨_, _, rfl, run_takeDeferred hK, ?_⟩⟩
    exact ⟨_, results_tmp rfl _ _ _, rfl, hB.trans (belowK_b (w := w) (Nat.le_refl _) W D _ _ (by omega) hK rfl rfl)⟩
  case stop =>
    rintro D c pre W _ _ h _
    exact h.elim
end Go.Proofs.Ytgpggodabalakaa

/- The walk: Update, Crc. -/
import Derived.Test.YtgpggodabalakaaUpdM
namespace Go.Proofs.Ytgpggodabalakaa
open Go.RowKit
theorem half_any (v : Nat) (hv : v < 4294967296) (w : World) :
    Calls Try.prog 24 #[.int .u32 (v : Int)] w fun e w' => e = .returned (.int .u32 (halfN v : Int)) ∧ Below w.heap.size w w' :=
  callsIn_wide.1 (half_in Fence.wide 4 trivial trivial trivial trivial rfl (by omega) v hv w)
theorem not_nat (s : Nat) (hs : s < 4294967296) : 4294967295 ^^^ s = 4294967295 - s := by
  have h := congrArg BitVec.toNat (BitVec.allOnes_xor (x := BitVec.ofNat 32 s))
  rw [BitVec.toNat_xor, BitVec.toNat_not, BitVec.toNat_ofNat, BitVec.toNat_allOnes, Nat.mod_eq_of_lt (by omega)] at h
  exact h
theorem u32_not (s : Nat) (hs : s < 4294967296) : bits BinOp.xor IntKind.u32 IntKind.u32.max (s : Int) = ((4294967295 - s : Nat) : Int) := by
  have := u32_xor_nat 4294967295 s (by omega) hs
  rw [not_nat s hs] at this
  exact this
theorem u32_and15 (s : Nat) (h : s < 4294967296) : bits .and .u32 (s : Int) 15 = ((s % 16 : Nat) : Int) := by
  have := u32_and_nat s 15 h (by omega)
  rw [nat_mask4] at this
  exact this
theorem u32_xor_half (s : Nat) (x : UInt8) (h : s < 4294967296) : bits BinOp.xor IntKind.u32 (s : Int) ((x.toNat : Int) / 16 % 4294967296) = ((s ^^^ x.toNat / 16 : Nat) : Int) := by
  have := x.toNat_lt
  rw [show ((x.toNat : Int) / 16 % 4294967296) = ((x.toNat / 16 : Nat) : Int) by omega]
  exact u32_xor_nat s (x.toNat / 16) h (by omega)
/-- the table of half bytes when k of it are filled -/
def tabV (k : Nat) : Array Value := ((List.range 16).map fun j => Value.int .u32 (if j < k then (halfN j : Int) else 0)).toArray
theorem tabV_size (k : Nat) : (tabV k).size = 16 := by simp [tabV]
theorem tabV_get (k j : Nat) (h : j < 16) : (tabV k)[j]? = some (.int .u32 (if j < k then (halfN j : Int) else 0)) := by
  simp [tabV, h]
theorem tabV_set (k : Nat) (h : k < 16) : (tabV k).setIfInBounds k (.int .u32 (halfN k : Int)) = tabV (k + 1) := by
  apply Array.ext_getElem?
  intro j
  rw [Array.getElem?_setIfInBounds]
  by_cases hj : k = j
  · subst hj
    rw [if_pos rfl, if_pos (by rw [tabV_size]; exact h), tabV_get _ _ h, if_pos (by omega)]
  · rw [if_neg hj]
    by_cases h16 : j < 16
    · rw [tabV_get _ _ h16, tabV_get _ _ h16]
      by_cases h2 : j < k
      · rw [if_pos h2, if_pos (by omega)]
      · rw [if_neg h2, if_neg (by omega)]
    · simp [tabV, h16]
def Tab (w : World) (B k : Nat) : Prop := w.heap[B]? = some (.cells (tabV k) 46 (0, 0))
theorem Tab.cell {w : World} {B k : Nat} (h : Tab w B k) (j : Nat) (hj : j < 16) : w.cell? ⟨B, j, none⟩ = some (.int .u32 (if j < k then (halfN j : Int) else 0)) := by
  rw [cell_of_row w B j _ _ (0, 0) h, tabV_get k j hj]
theorem Tab.frozen {w : World} {B k : Nat} (h : Tab w B k) (j : Nat) : w.frozen? ⟨B, j, none⟩ = false := frozen_of_row w B j _ _ h
theorem Tab.store {w : World} {B k : Nat} (h : Tab w B k) (hk : k < 16) : Tab (w.setCell ⟨B, k, none⟩ (.int .u32 (halfN k : Int))) B (k + 1) := by
  have := heap_setCell_same w B k _ _ (.int .u32 (halfN k : Int)) h
  rw [tabV_set k hk] at this
  exact this
theorem Tab.lt {w : World} {B k : Nat} (h : Tab w B k) : B < w.heap.size := (Array.getElem?_eq_some_iff.1 h).1
theorem Tab.below {w w' : World} {B k : Nat} (h : Tab w B k) (hb : Below w.heap.size w w') : Tab w' B k := (hb.block B h.lt).trans h
set_option maxHeartbeats 800000 in
theorem update_any (s : Nat) (A : Option Addr) (n c : Nat) (l : List UInt8) (w : World) (hs : s < 4294967296) (hn : l.length = n) (hr : Rd w A l) (hbig : n ≤ 1000000) :
    Calls Try.prog 14 #[.int .u32 (s : Int), .slice A n c] w fun e w' => e = .returned (.int .u32 ((4294967295 - rawN (4294967295 - s) l : Nat) : Int)) ∧ Below w.heap.size w w' := by
  have HR := Lib.hid hr
  have HN := Lib.hid hn
  clear hr hn
  go_enter Try.func14, Try.ntmps14
  go_wp2_with fail
  go_loopw [6, 9] (fun _ i wr => ∃ k : Nat, k ≤ 16 ∧ i = .int .i64 k ∧ Tab wr w.heap.size k ∧ Below w.heap.size w wr) (fun _ i _ => 16 - (intOf i).toNat)
  case atStart => exact ⟨0, by omega, rfl, heap_alloc_new w _, (Below.refl _ _).alloc (Nat.le_refl _) _⟩
  case round =>
    obtain ⟨k, hk, rfl, htab, hbel⟩ := hrel
    by_cases hlt : k < 16
    · have HT := Lib.hid htab
      have HB := Lib.hid hbel
      clear htab hbel
      have hw32 : IntKind.u32.wrap (k : Int) = (k : Int) := by rw [IntKind.wrap_u32']; omega
      go_wp2_with (go_at_call 24; refine (half_any k (by omega) _).mono ?_; rintro e w1 ⟨rfl, hb1⟩; have ht1 := HT.out.below hb1; have hc1 := ht1.cell k hlt; have hf1 := ht1.frozen k; have HT1 := Lib.hid ht1; clear ht1)
      go_roundw
      case rel =>
        have h3 := (HB.out.trans (hb1.mono HB.out.size)).setCell (p := ⟨w.heap.size, k, none⟩) (Nat.le_refl _) (.int .u32 (halfN k : Int))
        exact ⟨k + 1, by omega, by go_num, HT1.out.store hlt, h3⟩
      case measure => simp [intOf]; omega
    · obtain rfl : k = 16 := by omega
      have hnot := u32_not s hs
      obtain ⟨s0, hs0e⟩ : ∃ s0, s0 = 4294967295 - s := ⟨_, rfl⟩
      rw [← hs0e] at hnot
      have hs0 : s0 < 4294967296 := by omega
      have HB := Lib.hid hbel
      have HT := Lib.hid htab
      have HS0 := Lib.hid hs0e
      clear hbel htab hs0e
      go_wp2_with fail
      go_loop [0, 8, 22] (fun t _ i => ∃ k : Nat, k ≤ n ∧ i = .int .i64 k ∧ t = .int .u32 (rawN s0 (l.take k) : Int)) (fun _ _ i => n - (intOf i).toNat)
      case atStart => exact ⟨0, by omega, rfl, rfl⟩
      case round =>
        obtain ⟨k, hk, rfl, rfl⟩ := hrel
        by_cases hlt : k < n
        · obtain ⟨b, off, rfl, hc⟩ := (HR.out.keep fun p hp => HB.out.cell hp) k (by have := HN.out; omega)
          have ht := rawN_lt (l.take k) hs0
          have hfin := rawN_snoc s0 (l.take k) (l[k]'(by have := HN.out; omega))
          rw [← take_snoc l k (by have := HN.out; omega)] at hfin
          obtain ⟨t, hte⟩ : ∃ t, t = rawN s0 (l.take k) := ⟨_, rfl⟩
          rw [← hte] at ht hfin ⊢
          obtain ⟨x, hxe⟩ : ∃ x, x = (l[k]'(by have := HN.out; omega)) := ⟨_, rfl⟩
          rw [← hxe] at hc hfin
          rw [byteN_halves] at hfin
          have htab := HT.out
          have hxb := x.toNat_lt
          have hx1 := u32_xor_byte t x ht
          have hx1l := xor_byte_lt x ht
          have ha1 := u32_and15 _ hx1l
          have hp1 : (t ^^^ x.toNat) % 16 < 16 := Nat.mod_lt _ (by omega)
          have hc1 := htab.cell _ hp1
          rw [if_pos hp1] at hc1
          have hr1 := u32_xor_nat (t / 16) (halfN ((t ^^^ x.toNat) % 16)) (by omega) (halfN_lt _)
          obtain ⟨t1, ht1e⟩ : ∃ t1, t1 = loN t x.toNat := ⟨_, rfl⟩
          have ht1 : t1 < 4294967296 := by rw [ht1e]; exact loN_lt ht
          rw [show t / 16 ^^^ halfN ((t ^^^ x.toNat) % 16) = t1 from ht1e.symm] at hr1
          rw [← ht1e] at hfin
          have hx2 := u32_xor_half t1 x ht1
          have hx2l : t1 ^^^ x.toNat / 16 < 4294967296 := Nat.xor_lt_two_pow (n := 32) (by omega) (by omega)
          have ha2 := u32_and15 _ hx2l
          have hp2 : (t1 ^^^ x.toNat / 16) % 16 < 16 := Nat.mod_lt _ (by omega)
          have hc2 := htab.cell _ hp2
          rw [if_pos hp2] at hc2
          have hr2 := u32_xor_nat (t1 / 16) (halfN ((t1 ^^^ x.toNat / 16) % 16)) (by omega) (halfN_lt _)
          rw [show t1 / 16 ^^^ halfN ((t1 ^^^ x.toNat / 16) % 16) = loN t1 (x.toNat / 16) from rfl, ← hfin] at hr2
          generalize (t ^^^ x.toNat) % 16 = p1 at *
          generalize (t1 ^^^ x.toNat / 16) % 16 = p2 at *
          generalize t ^^^ x.toNat = q1 at *
          generalize t1 ^^^ x.toNat / 16 = q2 at *
          generalize halfN p1 = h1 at *
          generalize halfN p2 = h2 at *
          obtain ⟨t2, ht2⟩ : ∃ t2, t2 = rawN s0 (l.take (k + 1)) := ⟨_, rfl⟩
          rw [← ht2] at hr2
          have HT2 := Lib.hid ht2
          clear ht2 hfin ht1e hx1l hx2l hte hxe htab hxb
          have hr1' : bits BinOp.xor IntKind.u32 ((t : Int) / 16) (h1 : Int) = (t1 : Int) := hr1
          have hr2' : bits BinOp.xor IntKind.u32 ((t1 : Int) / 16) (h2 : Int) = (t2 : Int) := hr2
          clear hr1 hr2
          go_wp2
          go_round
          case rel => exact ⟨k + 1, by omega, by go_num, by rw [HT2.out]⟩
          case measure => simp [intOf]; omega
        · go_wp2
          go_ret
          have hl : l.take k = l := List.take_of_length_le (by have := HN.out; omega)
          refine ⟨ret_int ?_, HB.out⟩
          rw [hl, ← HS0.out]
          exact u32_not _ (rawN_lt l hs0)
theorem crc_any (A : Option Addr) (n c : Nat) (l : List UInt8) (w : World) (hn : l.length = n) (hr : Rd w A l) (hbig : n ≤ 1000000) :
    Calls Try.prog 12 #[.slice A n c] w fun e w' => e = .returned (.int .u32 (crcN l : Int)) ∧ Below w.heap.size w w' := by
  have HU := Lib.hid (update_any 0 A n c l w (by omega) hn hr hbig)
  clear hn hr
  go_enter Try.func12, Try.ntmps12
  go_wp2_with (go_at_call 14; refine HU.out.mono ?_; rintro e w1 ⟨rfl, hb1⟩)
  go_ret
  exact ⟨rfl, hb1⟩
end Go.Proofs.Ytgpggodabalakaa

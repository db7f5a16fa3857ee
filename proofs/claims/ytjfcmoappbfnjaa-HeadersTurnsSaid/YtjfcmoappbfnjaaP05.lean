/- The walk: joined. -/
import Derived.Test.YtjfcmoappbfnjaaP04
import Derived.Laws.MakeOwn
import Derived.Deep.RegionWith
import Derived.WalkSpells
import Derived.Test.YtjfcmoappbfnjaaP03
import Derived.Test.YtjfcmoappbfnjaaRows
import Derived.Deep.MidRow
import Derived.Deep.WholeRow
import Derived.Lib.Hide
namespace Go.Proofs.Ytjfcmoappbfnjaa.S
open Go.RowKit
/-- the lists one behind the other -/
def flat (ls : List (List UInt8)) : List UInt8 := ls.flatten
set_option maxRecDepth 8000 in
theorem flat_take (ls : List (List UInt8)) (k : Nat) (h : k < ls.length) : flat (ls.take (k + 1)) = flat (ls.take k) ++ ls[k] := by
  rw [take_snoc ls k h]
  unfold flat
  rw [List.flatten_append]
  simp only [List.flatten_cons, List.flatten_nil, List.append_nil]
set_option maxRecDepth 8000 in
theorem flat_take_le (ls : List (List UInt8)) (k : Nat) : (flat (ls.take k)).length ≤ (flat ls).length := by
  have h : flat ls = flat (ls.take k) ++ flat (ls.drop k) := by
    unfold flat
    rw [← List.flatten_append, List.take_append_drop]
  rw [h, List.length_append]
  omega
/-- The cells from block B on hold slices that read as the lists. -/
def Rds (w : World) (B : Nat) (ls : List (List UInt8)) : Prop :=
  ∀ j (h : j < ls.length), ∃ A c, w.cell? ⟨B, j, none⟩ = some (.slice A ls[j].length c) ∧ Rd w A ls[j]
set_option maxRecDepth 8000 in
theorem Rds.below {w w' : World} {B : Nat} {ls : List (List UInt8)} (h : Rds w B ls) (hb : Below w.heap.size w w') : Rds w' B ls := by
  intro j hj
  obtain ⟨A, c, hc, hr⟩ := h j hj
  exact ⟨A, c, (hb.cell (p := ⟨B, j, none⟩) (cell_lt hc)).trans hc, hr.below hb⟩
set_option maxRecDepth 8000 in
set_option maxHeartbeats 800000 in
theorem joined_any (B m c : Nat) (ls : List (List UInt8)) (w : World) (hm : ls.length = m) (hr : Rds w B ls) (hbig : (flat ls).length ≤ 1000000) (hm1 : m ≤ 1000) :
    Calls Try.prog 79 #[.slice (some ⟨B, 0, none⟩) m c] w fun e w' => ∃ v, e = .returned v ∧ w'.ownsRow w.heap.size 5 1 v (flat ls).length (bv (flat ls)) ∧ Below w.heap.size w w' := by
  obtain ⟨i0, hi, hz0, hz1, hz2⟩ := info_parts infoU8
  have HR := Lib.hid hr
  have HM := Lib.hid hm
  clear hr hm
  go_enter Try.func79, Try.ntmps79
  go_wp2_with fail
  go_loop [3, 5, 11] (fun s _ i => ∃ k : Nat, k ≤ m ∧ i = .int .i64 k ∧ s = .int .i64 ((flat (ls.take k)).length : Int)) (fun _ _ i => m - (intOf i).toNat)
  case atStart => exact ⟨0, by omega, rfl, rfl⟩
  case round =>
    obtain ⟨k, hk, rfl, rfl⟩ := hrel
    by_cases hlt : k < m
    · obtain ⟨A, c1, hc, _⟩ := HR.out k (by have := HM.out; omega)
      have hft := flat_take ls k (by have := HM.out; omega)
      have hle := flat_take_le ls (k + 1)
      rw [hft, List.length_append] at hle
      have HF := Lib.hid hft
      generalize hx : (ls[k]'(by have := HM.out; omega)).length = x at *
      generalize hy : (flat (ls.take k)).length = y at *
      have HX := Lib.hid hx
      have HY := Lib.hid hy
      clear hx hy hft
      go_wp2
      go_round
      case rel => exact ⟨k + 1, by omega, by go_num, by rw [HF.out, List.length_append, HX.out, HY.out]; go_num⟩
      case measure => simp [intOf]; omega
    · obtain rfl : k = m := by omega
      have hl : ls.take k = ls := List.take_of_length_le (by have := HM.out; omega)
      rw [hl]
      obtain ⟨t, ht⟩ : ∃ t, t = (flat ls).length := ⟨_, rfl⟩
      rw [← ht] at hbig ⊢
      have hmk : ∀ W : World, (Instr.makeSlice 22 (.int .i64 0) (.int .i64 (t : Int))).run Try.prog W = .ok (.slice (some ⟨W.heap.size, 0, none⟩) 0 t) (W.alloc (.cells (madeCells #[.int .u8 0] t) 5)) := by
        intro W
        have := run_make (P := Try.prog) W 22 5 i0 (.int .u8 0) Try.underlying22 hi hz0 .i64 .i64 0 t (by omega) (by omega) (by rw [hz2]; omega) (by omega)
        rw [hz1, show (Value.int .u8 0).cells = #[.int .u8 0] from rfl] at this
        simpa using this
      have HT := Lib.hid ht
      have HL := Lib.hid hl
      clear ht hl hk
      go_wp2_with fail
      go_loopw [6, 8, 24] (fun v _ i wr => ∃ j : Nat, j ≤ k ∧ i = .int .i64 j ∧ wr.ownsRow w.heap.size 5 1 v (flat (ls.take j)).length (bv (flat (ls.take j))) ∧ Below w.heap.size w wr) (fun _ _ i _ => k - (intOf i).toNat)
      case atStart => exact ⟨0, by omega, rfl, World.ownsRow_made w _ t (Nat.le_refl _) (by simp only [maxLen]; omega) (by simp [madeCells]), (Below.refl _ _).alloc (Nat.le_refl _) _⟩
      case round =>
        obtain ⟨j, hj, rfl, hown, hbel⟩ := hrel
        by_cases hlt2 : j < k
        · have hjl : j < ls.length := by have := HM.out; omega
          obtain ⟨A, c1, hc, hrd⟩ := (HR.out.below hbel) j hjl
          have hft := flat_take ls j hjl
          have hle := flat_take_le ls (j + 1)
          rw [hft, List.length_append, ← HT.out] at hle
          have HF := Lib.hid hft
          have hsz := hbel.size
          have HB := Lib.hid hbel
          have HO := Lib.hid hown
          generalize hx : (ls[j]'hjl).length = x at *
          have HX := Lib.hid hx
          clear hx hft hbel hown
          go_wp2_with (at_builtin; refine wpList_append_bytes _ rfl _ _ _ rfl Try.underlying22 infoU8 rfl HO.out rfl hrd HX.out (by omega) hsz ?_; intro v' w1 hown1 hg1 hat1)
          have hb1 := below_append HB.out HO.out hg1 (Nat.le_refl _) hsz
          rw [← HX.out, ← List.length_append, ← HF.out] at hown1
          go_roundw
          case rel => exact ⟨j + 1, by omega, by go_num, hown1, hb1⟩
          case measure => simp [intOf]; omega
        · obtain rfl : j = k := by omega
          go_wp2
          go_ret
          rw [HL.out] at hown
          exact ⟨_, rfl, hown, hbel⟩
end Go.Proofs.Ytjfcmoappbfnjaa.S
namespace Go.Proofs.Ytjfcmoappbfnjaa.S
open Go.RowKit
/-- bytes with their sum's bytes behind -/
def sealN (l : List UInt8) : List UInt8 := l ++ bytesLE 4 (crcN l)
set_option maxRecDepth 8000 in
theorem sealN_length (l : List UInt8) : (sealN l).length = l.length + 4 := by simp [sealN, bytesLE_length]
set_option maxRecDepth 8000 in
theorem own_slice {w : World} {base n : Nat} {e : TypeId} {v : Value} {xs : List Value} (h : w.ownsRow base e 1 v n xs) : ∃ A cap, v = .slice A n cap ∧ (∀ b, A = some b → b.spot = none) := by
  rcases h.2 with ⟨rfl, rfl⟩ | ⟨g, cap, cur, rfl, _⟩
  · exact ⟨none, 0, rfl, by intro b hb; cases hb⟩
  · exact ⟨some ⟨g, 0, none⟩, cap, rfl, by intro b hb; injection hb with hb; rw [← hb]⟩
set_option maxRecDepth 8000 in
theorem rds_two (w : World) (A : Option Addr) (n c : Nat) (l : List UInt8) (A' : Option Addr) (n' c' : Nat) (l' : List UInt8) (t : TypeId) (hn : l.length = n) (hn' : l'.length = n') (hr : Rd w A l) (hr' : Rd w A' l') :
    Rds (w.alloc (.cells #[.slice A n c, .slice A' n' c'] t)) w.heap.size [l, l'] := by
  intro j hj
  subst hn; subst hn'
  match j, hj with
  | 0, _ => exact ⟨A, c, by simp, hr.alloc _⟩
  | 1, _ => exact ⟨A', c', by simp, hr'.alloc _⟩
set_option maxRecDepth 8000 in
theorem rds_one (w : World) (A : Option Addr) (n c : Nat) (l : List UInt8) (t : TypeId) (hn : l.length = n) (hr : Rd w A l) :
    Rds (w.alloc (.cells #[.slice A n c] t)) w.heap.size [l] := by
  intro j hj
  subst hn
  match j, hj with
  | 0, _ => exact ⟨A, c, by simp, hr.alloc _⟩
set_option maxRecDepth 8000 in
theorem bytesOf_four (N : Nat) (w : World) :
    Calls Try.prog 80 #[.int .u64 (N : Int), .int .i64 4] w fun e w' => ∃ v, e = .returned v ∧ w'.ownsRow w.heap.size 5 1 v 4 (bv (bytesLE 4 N)) ∧ Below w.heap.size w w' := bytesOf_any N 4 w (by omega)
set_option maxRecDepth 8000 in
set_option maxHeartbeats 800000 in
theorem seal_any (A : Option Addr) (n c : Nat) (l : List UInt8) (w : World) (hn : l.length = n) (hr : Rd w A l) (hbig : n ≤ 100000) :
    Calls Try.prog 61 #[.slice A n c] w fun e w' => ∃ v, e = .returned v ∧ w'.ownsRow w.heap.size 5 1 v (n + 4) (bv (sealN l)) ∧ Below w.heap.size w w' := by
  have HR := Lib.hid hr
  have HN := Lib.hid hn
  clear hr hn
  have hcv := wrap_u64_lt (crcN l) (by have := crcN_lt l; omega)
  go_enter Try.func61, Try.ntmps61
  go_wp2_with (first
    | (go_at_call 81; refine (crc_any _ _ _ l _ HN.out HR.out (by omega)).mono ?_; rintro e w1 ⟨rfl, hb1⟩)
    | (go_at_call 80; refine (bytesOf_four _ _).mono ?_; rintro e w2 ⟨v, rfl, hown2, hb2⟩; obtain ⟨A2, c2, rfl, _⟩ := own_slice hown2))
  have hb12 := hb1.trans (hb2.mono hb1.size)
  have hds := rds_two w2 A n c l A2 4 c2 (bytesLE 4 (crcN l)) 22 HN.out (bytesLE_length _ _) (HR.out.below hb12) (Rd.of_own hown2)
  have hfl : flat [l, bytesLE 4 (crcN l)] = sealN l := by simp [flat, sealN]
  have hlen : (sealN l).length = n + 4 := by rw [sealN_length, HN.out]
  refine (joined_any _ 2 _ [l, bytesLE 4 (crcN l)] _ rfl hds (by rw [hfl, hlen]; omega) (by omega)).mono ?_
  rintro e w3 ⟨v3, rfl, hown3, hb3⟩
  rw [hfl, hlen] at hown3
  have hsz := hb12.size
  clear hfl hlen hds
  go_wp2_with fail
  go_ret
  exact ⟨_, rfl, own_base hown3 (by simp; omega), (hb12.alloc hsz _).trans (hb3.mono (by simp; omega))⟩
end Go.Proofs.Ytjfcmoappbfnjaa.S
namespace Go.Proofs.Ytjfcmoappbfnjaa.S
open Go.RowKit
set_option maxRecDepth 8000 in
theorem _root_.Go.Proofs.Ytjfcmoappbfnjaa.Rd.cut {w : World} {A : Option Addr} {l : List UInt8} (h : Rd w A l) (k c : Nat) (hc : l.length ≤ c) (hk : k ≤ l.length) : Rd w (if c = k then A else A.map (·.add k)) (l.drop k) := by
  split
  · intro j hj
    simp at hj
    omega
  · intro j hj
    have hj' : k + j < l.length := by simp at hj; omega
    obtain ⟨b, off, rfl, hcell⟩ := h (k + j) hj'
    refine ⟨b, off + k, ?_, ?_⟩
    · simp [add_flat]
    · rw [Nat.add_assoc, hcell]
      simp
set_option maxRecDepth 8000 in
set_option maxHeartbeats 800000 in
theorem sealed_not (A : Option Addr) (n c : Nat) (l : List UInt8) (w : World) (hn : l.length = n + 4) (hc : n + 4 ≤ c) (hr : Rd w A l) (hbig : n ≤ 100000) (hq : ((numLE (l.drop n) : Int) != (crcN (l.take n) : Int)) = true) :
    Calls Try.prog 67 #[.slice A (n + 4) c] w fun e w' => e = .returned (.tuple #[.slice none 0 0, .bool false]) ∧ Below w.heap.size w w' := by
  have h4 : ¬ (((n + 4 : Nat) : Int) < 4) := by omega
  have hsub : (((n + 4 : Nat) : Int) - 4) = (n : Int) := by omega
  have hcn : ¬ c = n := by omega
  have hD := hr.cut n c (by omega) (by omega)
  rw [if_neg hcn] at hD
  have HD := Lib.hid hD
  have HT := Lib.hid (hr.take n)
  have HDL := Lib.hid (show (l.drop n).length = 4 by simp; omega)
  have HTL := Lib.hid (show (l.take n).length = n by simp; omega)
  have hcv := wrap_u64_lt (crcN (l.take n)) (by have := crcN_lt (l.take n); omega)
  have hi1 : (0 : Int) ≤ (n : Int) := by omega
  have hi2 : (n : Int) ≤ ((n + 4 : Nat) : Int) := by omega
  have hi3 : ((n + 4 : Nat) : Int) ≤ (c : Int) := by omega
  have hi4 : (n : Int) ≤ (c : Int) := by omega
  clear hr hn hD
  go_enter Try.func67, Try.ntmps67
  go_wp2_with fail
  go_region_with (first
    | (go_at_call 86; refine (numberOf_any _ 4 _ (l.drop n) _ HDL.out (by omega) HD.out.drew).mono ?_; rintro e w' ⟨rfl, rfl⟩)
    | (go_at_call 81; refine (crc_any _ _ _ (l.take n) _ HTL.out HT.out.drew (by omega)).mono ?_; rintro e w1 ⟨rfl, hb1⟩))
  all_goals go_wp2
  all_goals go_ret2
  all_goals exact ⟨rfl, (Below.refl _ w).drew.trans hb1⟩
set_option maxRecDepth 8000 in
set_option maxHeartbeats 800000 in
theorem sealed_yes (A : Option Addr) (n c : Nat) (l : List UInt8) (w : World) (hn : l.length = n + 4) (hc : n + 4 ≤ c) (hr : Rd w A l) (hbig : n ≤ 100000) (hq : ((numLE (l.drop n) : Int) != (crcN (l.take n) : Int)) = false) :
    Calls Try.prog 67 #[.slice A (n + 4) c] w fun e w' => ∃ v, e = .returned (.tuple #[v, .bool true]) ∧ w'.ownsRow w.heap.size 5 1 v n (bv (l.take n)) ∧ Below w.heap.size w w' := by
  have h4 : ¬ (((n + 4 : Nat) : Int) < 4) := by omega
  have hsub : (((n + 4 : Nat) : Int) - 4) = (n : Int) := by omega
  have hcn : ¬ c = n := by omega
  have hD := hr.cut n c (by omega) (by omega)
  rw [if_neg hcn] at hD
  have HD := Lib.hid hD
  have HT := Lib.hid (hr.take n)
  have HDL := Lib.hid (show (l.drop n).length = 4 by simp; omega)
  have HTL := Lib.hid (show (l.take n).length = n by simp; omega)
  have hcv := wrap_u64_lt (crcN (l.take n)) (by have := crcN_lt (l.take n); omega)
  have hi1 : (0 : Int) ≤ (n : Int) := by omega
  have hi2 : (n : Int) ≤ ((n + 4 : Nat) : Int) := by omega
  have hi3 : ((n + 4 : Nat) : Int) ≤ (c : Int) := by omega
  have hi4 : (n : Int) ≤ (c : Int) := by omega
  clear hr hn hD
  go_enter Try.func67, Try.ntmps67
  go_wp2_with fail
  go_region_with (first
    | (go_at_call 86; refine (numberOf_any _ 4 _ (l.drop n) _ HDL.out (by omega) HD.out.drew).mono ?_; rintro e w' ⟨rfl, rfl⟩)
    | (go_at_call 81; refine (crc_any _ _ _ (l.take n) _ HTL.out HT.out.drew (by omega)).mono ?_; rintro e w1 ⟨rfl, hb1⟩))
  all_goals
    have hbel := (Below.refl w.heap.size w).drew.trans hb1
    have hds := Lib.hid (rds_one w1 A n c (l.take n) 22 HTL.out (HT.out.below hbel))
    have hfl := Lib.hid (show flat [l.take n] = l.take n by simp [flat])
    have hsz := hbel.size
    go_wp2_with (go_at_call 79; refine (joined_any _ 1 _ [l.take n] _ rfl hds.out (by rw [hfl.out, HTL.out]; omega) (by omega)).mono ?_; rintro e w3 ⟨v3, rfl, hown3, hb3⟩)
    rw [hfl.out, HTL.out] at hown3
    go_ret2
    exact ⟨_, rfl, own_base hown3 (by simp; omega), (hbel.alloc hsz _).trans (hb3.mono (by simp; omega))⟩
end Go.Proofs.Ytjfcmoappbfnjaa.S
namespace Go.Proofs.Ytjfcmoappbfnjaa
open Go.RowKit
/-- the value of a sector's bytes -/
abbrev sec (l : List UInt8) : Value := .agg (bv l).toArray
/-- a sector of noughts -/
def zs : List UInt8 := List.replicate 512 0
theorem zs_length : zs.length = 512 := List.length_replicate ..
/-- a write's cells: its sector, its bytes -/
def wc (x : Nat × List UInt8) : List Value := .int .i64 (x.1 : Int) :: bv x.2
abbrev wv (x : Nat × List UInt8) : Value := .agg (wc x).toArray
set_option maxRecDepth 8000 in
theorem wc_length (x : Nat × List UInt8) (h : x.2.length = 512) : (wc x).length = 513 := by simp [wc, bv, h]
set_option maxRecDepth 8000 in
theorem wc_one (x : Nat × List UInt8) : ∀ u ∈ wc x, u.oneCell' = true := by
  intro u hu
  simp only [wc, List.mem_cons] at hu
  rcases hu with rfl | hu
  · rfl
  · exact bv_one _ u hu
/-- a block that is known whole -/
def Blk (w : World) (g : Nat) (t : TypeId) (cs : Array Value) : Prop := w.heap[g]? = some (.cells cs t (0, 0))
section
variable {w w' : World} {g : Nat} {t : TypeId} {cs : Array Value}
theorem Blk.lt (h : Blk w g t cs) : g < w.heap.size := (Array.getElem?_eq_some_iff.1 h).1
theorem Blk.cell (h : Blk w g t cs) (i : Nat) : w.cell? ⟨g, i, none⟩ = cs[i]? := cell_of_row w g i cs t (0, 0) h
theorem Blk.frozen (h : Blk w g t cs) (i : Nat) : w.frozen? ⟨g, i, none⟩ = false := frozen_of_row w g i cs t h
theorem Blk.new (w : World) (t : TypeId) (cs : Array Value) : Blk (w.alloc (.cells cs t)) w.heap.size t cs := heap_alloc_new w _
theorem Blk.alloc (h : Blk w g t cs) (o : Obj) : Blk (w.alloc o) g t cs := (Below.heap_alloc w o g h.lt).trans h
theorem Blk.set_ (h : Blk w g t cs) (i : Nat) (u : Value) : Blk (w.setCell ⟨g, i, none⟩ u) g t (cs.setIfInBounds i u) := heap_setCell_same w g i cs t u h
theorem Blk.far (h : Blk w g t cs) {p : Addr} (hp : g ≠ p.block) (u : Value) : Blk (w.setCell p u) g t cs := (Below.heap_setCell w p u g hp).trans h
theorem Blk.below {B : Nat} (h : Blk w g t cs) (hb : Below B w w') (hg : g < B) : Blk w' g t cs := (hb.block g hg).trans h
theorem Blk.range (h : Blk w g t cs) (l : List Value) (o : Nat) (hl : ∀ j v, l[j]? = some v → cs[o + j]? = some v) : w.rangeAt g o l := fun j v hv => by
  rw [h.cell]
  exact hl j v hv
end
set_option maxRecDepth 8000 in
theorem zero47 : (Try.prog.info? 56).map (fun i => (i.zero, i.size)) = some (some (sec zs), 512) := by kernel_rfl
set_option maxRecDepth 8000 in
theorem zero84 : (Try.prog.info? 95).map (fun i => (i.zero, i.size)) = some (some (wv (0, zs)), 513) := by kernel_rfl
theorem z47 (w : World) : (zeroValue 56).run Try.prog w = .ok (sec zs) w := (zero_of_info zero47).1 w
theorem z84 (w : World) : (zeroValue 95).run Try.prog w = .ok (wv (0, zs)) w := (zero_of_info zero84).1 w
end Go.Proofs.Ytjfcmoappbfnjaa

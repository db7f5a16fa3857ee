/- The walks: the closure of bytesOf, bytesOf. -/
import Derived.Test.YtjfcmoappbfnjaaP01
import Derived.OwnWalk
import Derived.Deep.OwnRows
import Derived.RangeFuncBox
import Derived.MapKept
import Derived.Maps.OwnOps
namespace Go.Proofs.Ytjfcmoappbfnjaa.S
open Go.RowKit
/-- the lowest k bytes of n, the lowest ahead -/
def bytesLE : Nat → Nat → List UInt8
  | 0, _ => []
  | k + 1, n => UInt8.ofNat (n % 256) :: bytesLE k (n / 256)
set_option maxRecDepth 8000 in
theorem bytesLE_length (k n : Nat) : (bytesLE k n).length = k := by
  induction k generalizing n with
  | zero => rfl
  | succ k ih => simp [bytesLE, ih]
set_option maxRecDepth 8000 in
theorem bytesLE_snoc (k n : Nat) : bytesLE (k + 1) n = bytesLE k n ++ [UInt8.ofNat (n / 256 ^ k % 256)] := by
  induction k generalizing n with
  | zero => simp [bytesLE]
  | succ k ih =>
    rw [bytesLE, ih (n / 256)]
    simp only [bytesLE, List.cons_append, Nat.pow_succ]
    rw [Nat.div_div_eq_div_mul, Nat.mul_comm 256]
set_option maxRecDepth 8000 in
theorem numLE_bytesLE (k n : Nat) (h : n < 256 ^ k) : numLE (bytesLE k n) = n := by
  induction k generalizing n with
  | zero => simp at h; simp [bytesLE, numLE, h]
  | succ k ih =>
    rw [Nat.pow_succ] at h
    rw [bytesLE, numLE, ih (n / 256) (by omega)]
    simp
    omega
set_option maxRecDepth 8000 in
theorem bytesLE_numLE (l : List UInt8) : bytesLE l.length (numLE l) = l := by
  induction l with
  | nil => rfl
  | cons x l ih =>
    have hx := x.toNat_lt
    simp only [List.length_cons, bytesLE, numLE]
    rw [show (x.toNat + 256 * numLE l) / 256 = numLE l by omega, ih, show (x.toNat + 256 * numLE l) % 256 = x.toNat by omega]
    simp
def zer (n : Nat) : List Value := List.replicate n (.int .u8 0)
set_option maxRecDepth 8000 in
theorem set_step (l : List UInt8) (x : UInt8) (m : Nat) (hm : 0 < m) : (bv l ++ zer m).set l.length (.int .u8 (x.toNat : Int)) = bv (l ++ [x]) ++ zer (m - 1) := by
  obtain ⟨m, rfl⟩ : ∃ m', m = m' + 1 := ⟨m - 1, by omega⟩
  rw [List.set_append_right _ _ (by simp [bv]), bv_length, Nat.sub_self, bv_append, List.append_assoc]
  rfl
set_option maxRecDepth 8000 in
set_option maxHeartbeats 400000 in
theorem next_any (p : Addr) (N : Nat) (w : World) (hc : w.cell? p = some (.int .u64 (N : Int))) (hf : w.frozen? p = false) :
    Calls Try.prog 91 #[.pointer (some p)] w fun e w' => e = .returned (.int .u8 ((N % 256 : Nat) : Int)) ∧ w.setCell p (.int .u64 ((N / 256 : Nat) : Int)) = w' := by
  go_enter Try.func91, Try.ntmps91
  go_wp2
  go_ret
  exact ⟨ret_int (by omega), by congr 2⟩
set_option maxRecDepth 8000 in
theorem infoU8 : (Try.prog.info? 5).map (fun i => (i.zero, i.size, i.bytes)) = some (some (.int .u8 0), 1, 1) := by kernel_rfl
set_option maxRecDepth 8000 in
set_option maxHeartbeats 400000 in
theorem bytesOf_any (N c : Nat) (w : World) (h8 : c ≤ 8) :
    Calls Try.prog 80 #[.int .u64 (N : Int), .int .i64 (c : Int)] w fun e w' => ∃ v, e = .returned v ∧ w'.ownsRow w.heap.size 5 1 v c (bv (bytesLE c N)) ∧ Below w.heap.size w w' := by
  have hmk := fun W : World => run_make_row' (P := Try.prog) 22 5 (.int .u8 0) 1 Try.underlying22 infoU8 rfl .i64 .i64 c (by omega) (by omega) W
  go_enter Try.func80, Try.ntmps80
  go_wp2_with fail
  go_loopw [7, 13] (fun _ i wr => ∃ k : Nat, k ≤ c ∧ i = .int .i64 k ∧ Boxed wr w.heap.size 151 (.int .u64 ((N / 256 ^ k : Nat) : Int)) ∧
      wr.ownsRow (w.heap.size + 1) 5 1 (.slice (some ⟨w.heap.size + 1, 0, none⟩) c c) c (bv (bytesLE k N) ++ zer (c - k)) ∧ Below w.heap.size w wr) (fun _ i _ => c - (intOf i).toNat)
  case atStart =>
    refine ⟨0, by omega, rfl, ?_, ?_, ((Below.refl _ _).alloc (Nat.le_refl _) _).alloc (by simp) _⟩
    · have := (Boxed.new w 151 (.int .u64 (N : Int))).alloc (Obj.cells (madeCells #[.int .u8 0] c) 5)
      simpa using this
    · have := World.ownsRow_lit (base := w.heap.size + 1) (size := 1) (e := 5) (w.alloc (.cells #[.int .u64 (N : Int)] 151)) (madeCells #[.int .u8 0] c) c (by simp) (by unfold maxLen; omega) (by simp [madeCells])
      rw [toList_madeCells_one] at this
      simpa [bytesLE, bv, zer] using this
  case round =>
    obtain ⟨k, hk, rfl, hbox, hown, hbel⟩ := hrel
    by_cases hlt : k < c
    · have hlen := bytesLE_length k N
      have hc2 := hown.cellAt k (by omega)
      have hf2 := hown.frozenAt k
      rw [show (bv (bytesLE k N) ++ zer (c - k))[k]? = some (.int .u8 0) by
        rw [List.getElem?_append_right (by rw [bv_length]; omega), bv_length, hlen, Nat.sub_self]
        simp [zer, List.getElem?_replicate]; omega] at hc2
      obtain ⟨M, hM⟩ : ∃ M, M = N / 256 ^ k := ⟨_, rfl⟩
      rw [← hM] at hbox
      have hbc := hbox.cell
      have hbf := hbox.frozen
      have HM := Lib.hid hM
      have H1 := Lib.hid hlen
      have HB := Lib.hid hbox
      have HO := Lib.hid hown
      clear hlen hM hbox hown
      go_wp2_with (go_at_call 91; refine (next_any _ _ _ hbc hbf).mono ?_; rintro e w' ⟨rfl, rfl⟩)
      go_roundw
      case rel =>
        have hM := HM.out
        have h2 := (HO.out.kept (grownBy_setCell' wr w.heap.size (.int .u64 ((M / 256 : Nat) : Int))) (.inr (by simp [Value.ownBlock]))).stored k (.int .u8 ((M % 256 : Nat) : Int))
        refine ⟨k + 1, by omega, by go_num, ?_, ?_, ?_⟩
        · have := (HB.out.set (.int .u64 ((M / 256 : Nat) : Int))).kept h2.2 (by simp)
          rw [show N / 256 ^ (k + 1) = M / 256 by rw [hM, Nat.div_div_eq_div_mul, Nat.pow_succ]]
          clear hM
          simpa using this
        · have h3 := h2.1
          have h4 := set_step (bytesLE k N) (UInt8.ofNat (N / 256 ^ k % 256)) (c - k) (by omega)
          rw [H1.out, ← bytesLE_snoc] at h4
          rw [show ((UInt8.ofNat (N / 256 ^ k % 256)).toNat : Int) = ((M % 256 : Nat) : Int) by rw [hM]; simp] at h4
          rw [h4] at h3
          clear hM
          simpa [Nat.sub_sub] using h3
        · exact (hbel.setCell (p := ⟨w.heap.size, 0, none⟩) (Nat.le_refl _) _).setCell (by simp) _
      case measure => simp [intOf]; omega
    · obtain rfl : k = c := by omega
      go_wp2
      go_ret
      refine ⟨_, rfl, ?_, hbel⟩
      have h3 := hown
      rw [Nat.sub_self] at h3
      simpa [zer] using own_base h3 (Nat.le_succ _)
end Go.Proofs.Ytjfcmoappbfnjaa.S
namespace Go.Proofs.Ytjfcmoappbfnjaa.S
open Go.RowKit
open Go.MapKept (run_getObj_map run_setObj_map run_findKey)
set_option maxRecDepth 8000 in
theorem push_set {α : Type} (a : Array α) (x y : α) : (a.push x).setIfInBounds a.size y = a.push y := by
  apply Array.ext'
  rw [Array.toList_setIfInBounds, Array.toList_push, Array.toList_push, List.set_append_right _ _ (by simp)]
  simp
set_option maxRecDepth 8000 in
theorem run_check_int {P : Program} {k : TypeId} {q : IntKind} (hk : P.underlying k = some (.int q)) (W : World) (b : Bool) (n : Int) : (Instr.checkKey b 10000 k (.int q n)).run P W = .ok () W := by
  have h : ∀ d, (Instr.checkKey b (d + 1) k (.int q n)).run P W = .ok () W := fun d => by simp [Instr.checkKey, run_underlying hk]
  exact h 9999
set_option maxRecDepth 8000 in
theorem run_upd_new {P : Program} {t k e : TypeId} (ht : P.underlying t = some (.map k e)) (hk : P.underlying k = some (.int .i64)) (W : World) (es : Array MapEntry) (clock : Nat) (n : Int) (v : Value)
    (hfind : Instr.findNow (.int .i64) (.int .i64 n) es.toList 0 = some none) :
    (Instr.mapUpdate t (.map (some W.heap.size)) (.int .i64 n) v).run P (W.alloc (.map es clock)) = .ok () (W.alloc (.map (es.push { key := .int .i64 n, val := v, born := clock }) (clock + 1))) := by
  have hb : (W.alloc (.map es clock)).heap[W.heap.size]? = some (.map es clock) := heap_alloc_new W _
  have hf := run_findKey (P := P) (w := W.alloc (.map es clock)) hk hfind
  have hck := run_check_int hk (W.alloc (.map es clock)) false n
  simp [Instr.mapUpdate, run_underlying ht, Go.MapKept.run_getObj_map hb, hck, hf, Go.MapKept.run_setObj_map _ hb, Result.andThen]
  show ({ W with heap := (W.heap.push _).setIfInBounds W.heap.size _ } : World) = { W with heap := W.heap.push _ }
  rw [push_set]
set_option maxRecDepth 8000 in
theorem run_look_int {P : Program} {t k e : TypeId} (ht : P.underlying t = some (.map k e)) (hk : P.underlying k = some (.int .i64)) (hz : ∀ W : World, (zeroValue e).run P W = .ok (.int .i64 0) W) (W : World) (b : Nat) (es : Array MapEntry) (clock : Nat) (n : Int)
    (hb : W.heap[b]? = some (.map es clock)) (a : Option (Nat × Value)) (hfind : Instr.findNow (.int .i64) (.int .i64 n) es.toList 0 = some a) :
    (Instr.lookup t (.map (some b)) (.int .i64 n) true).run P W = .ok (.tuple #[(a.map (·.2)).getD (.int .i64 0), .bool a.isSome]) W := by
  have hf := run_findKey (P := P) (w := W) hk hfind
  have hck := fun x => run_check_int hk W x n
  cases a with
  | none => simp [Instr.lookup, run_underlying ht, Go.MapKept.run_getObj_map hb, hf, hck, hz W, Result.andThen]
  | some p => simp [Instr.lookup, run_underlying ht, Go.MapKept.run_getObj_map hb, hf, hck, Result.andThen]
def gEs : Array MapEntry := #[{ key := .int .i64 2, val := .int .i64 65535, born := 0 }, { key := .int .i64 4, val := .int .i64 4294967295, born := 1 }, { key := .int .i64 8, val := .int .i64 9223372036854775807, born := 2 }]
theorem upd1 (W : World) : (Instr.mapUpdate 165 (.map (some W.heap.size)) (.int .i64 2) (.int .i64 65535)).run Try.prog (W.alloc (.map #[] 0)) = .ok () (W.alloc (.map #[{ key := .int .i64 2, val := .int .i64 65535, born := 0 }] 1)) :=
  run_upd_new Try.underlying165 Try.underlying3 W #[] 0 _ _ rfl
theorem upd2 (W : World) : (Instr.mapUpdate 165 (.map (some W.heap.size)) (.int .i64 4) (.int .i64 4294967295)).run Try.prog (W.alloc (.map #[{ key := .int .i64 2, val := .int .i64 65535, born := 0 }] 1)) =
    .ok () (W.alloc (.map #[{ key := .int .i64 2, val := .int .i64 65535, born := 0 }, { key := .int .i64 4, val := .int .i64 4294967295, born := 1 }] 2)) :=
  run_upd_new Try.underlying165 Try.underlying3 W _ 1 _ _ rfl
theorem upd3 (W : World) : (Instr.mapUpdate 165 (.map (some W.heap.size)) (.int .i64 8) (.int .i64 9223372036854775807)).run Try.prog (W.alloc (.map #[{ key := .int .i64 2, val := .int .i64 65535, born := 0 }, { key := .int .i64 4, val := .int .i64 4294967295, born := 1 }] 2)) =
    .ok () (W.alloc (.map gEs 3)) :=
  run_upd_new Try.underlying165 Try.underlying3 W _ 2 _ _ rfl
/-- the greatest number of so many bytes, where there is one -/
def greatestN (n : Int) : Option Int := if n = 2 then some 65535 else if n = 4 then some 4294967295 else if n = 8 then some 9223372036854775807 else none
set_option maxRecDepth 8000 in
theorem gLook (W : World) (b : Nat) (n : Int) (hb : W.heap[b]? = some (.map gEs 3)) :
    (Instr.lookup 165 (.map (some b)) (.int .i64 n) true).run Try.prog W = .ok (.tuple #[.int .i64 ((greatestN n).getD 0), .bool (greatestN n).isSome]) W := by
  unfold greatestN
  split
  · subst n; exact run_look_int Try.underlying165 Try.underlying3 (fun W => by kernel_rfl) W b gEs 3 _ hb (some (0, .int .i64 65535)) rfl
  · split
    · subst n; exact run_look_int Try.underlying165 Try.underlying3 (fun W => by kernel_rfl) W b gEs 3 _ hb (some (1, .int .i64 4294967295)) rfl
    · split
      · subst n; exact run_look_int Try.underlying165 Try.underlying3 (fun W => by kernel_rfl) W b gEs 3 _ hb (some (2, .int .i64 9223372036854775807)) rfl
      · exact run_look_int Try.underlying165 Try.underlying3 (fun W => by kernel_rfl) W b gEs 3 _ hb none (by
          have e2 : (n == 2) = false := by simpa using ‹¬ n = 2›
          have e4 : (n == 4) = false := by simpa using ‹¬ n = 4›
          have e8 : (n == 8) = false := by simpa using ‹¬ n = 8›
          simp [Instr.findNow, Instr.sameNow, gEs, e2, e4, e8])
set_option maxRecDepth 8000 in
set_option maxHeartbeats 400000 in
theorem greatest_any (w : World) :
    Calls Try.prog 93 #[] w fun e w' => e = .returned (.map (some w.heap.size)) ∧ w.alloc (.map gEs 3) = w' := by
  have hmm := @run_makeMap Try.prog
  have h1 := upd1
  have h2 := upd2
  have h3 := upd3
  go_enter Try.func93, Try.ntmps93
  go_wp2
  go_ret
  exact ⟨rfl, rfl⟩
end Go.Proofs.Ytjfcmoappbfnjaa.S
namespace Go.Proofs.Ytjfcmoappbfnjaa.S
open Go.RowKit
set_option maxRecDepth 8000 in
theorem greatestN_some {b : Int} {g : Int} (h : greatestN b = some g) : ∃ k : Nat, b = (k : Int) ∧ k ≤ 8 ∧ g < 256 ^ k ∧ 0 ≤ g := by
  unfold greatestN at h
  split at h
  · injection h with h; exact ⟨2, by omega, by omega, by omega, by omega⟩
  · split at h
    · injection h with h; exact ⟨4, by omega, by omega, by omega, by omega⟩
    · split at h
      · injection h with h; exact ⟨8, by omega, by omega, by omega, by omega⟩
      · cases h
theorem conv_u64 (N : Nat) (h : (N : Int) ≤ 9223372036854775807) : IntKind.u64.wrap (N : Int) = (N : Int) := wrap_u64_lt N (by omega)
set_option maxRecDepth 8000 in
set_option maxHeartbeats 400000 in
theorem put_yes (N k : Nat) (g : Int) (w : World) (hg : greatestN k = some g) (h1 : (N : Int) ≤ g) :
    Calls Try.prog 90 #[.int .i64 (N : Int), .int .i64 (k : Int)] w fun e w' => ∃ v, e = .returned (.tuple #[v, .int .i64 0]) ∧ w'.ownsRow w.heap.size 5 1 v k (bv (bytesLE k N)) ∧ Below w.heap.size w w' := by
  have hl := gLook (w.alloc (.map gEs 3)) w.heap.size k (heap_alloc_new w _)
  have hbel := (Below.refl w.heap.size w).alloc (Nat.le_refl _) (.map gEs 3)
  obtain ⟨k', hk, h8, hgl, _⟩ := greatestN_some hg
  have hk8 : k ≤ 8 := by omega
  have hg63 : g ≤ 9223372036854775807 := by
    unfold greatestN at hg
    split at hg
    · injection hg; omega
    · split at hg
      · injection hg; omega
      · split at hg
        · injection hg; omega
        · cases hg
  have hcv := conv_u64 N (by omega)
  rw [hg] at hl
  simp only [Option.getD_some, Option.isSome_some] at hl
  clear hg hk h8 hgl hg63
  have hn0 : ¬ (N : Int) < 0 := by omega
  have hn1 : ¬ g < (N : Int) := by omega
  have HB := Lib.hid hbel
  clear hbel
  go_enter Try.func90, Try.ntmps90
  go_wp2_with (first | (go_at_call 93; refine (greatest_any _).mono ?_; rintro e w' ⟨rfl, rfl⟩) | (go_at_call 80; refine (bytesOf_any _ _ _ hk8).mono ?_; rintro e w' ⟨v, rfl, hown, hb2⟩))
  go_ret2
  exact ⟨v, rfl, own_base hown (by simp), HB.out.trans (hb2.mono (by simp))⟩
end Go.Proofs.Ytjfcmoappbfnjaa.S
namespace Go.Proofs.Ytjfcmoappbfnjaa.S
open Go.RowKit
set_option maxRecDepth 8000 in
theorem greatestN_len {n : Nat} {g : Int} (h : greatestN n = some g) : n ≤ 8 ∧ 0 ≤ g ∧ g ≤ 9223372036854775807 := by
  unfold greatestN at h
  split at h
  · injection h; omega
  · split at h
    · injection h; omega
    · split at h
      · injection h; omega
      · cases h
set_option maxRecDepth 8000 in
theorem wrap_i64_of (x : Int) (h0 : 0 ≤ x) (h : x ≤ 9223372036854775807) : IntKind.i64.wrap x = x := by
  simp only [IntKind.wrap, IntKind.bits, IntKind.signed]
  simp
  omega
set_option maxRecDepth 8000 in
theorem wrap_u64_of (x : Int) (h0 : 0 ≤ x) (h : x ≤ 9223372036854775807) : IntKind.u64.wrap x = x := by
  simp only [IntKind.wrap, IntKind.bits, IntKind.signed]
  simp
  omega
set_option maxRecDepth 8000 in
set_option maxHeartbeats 400000 in
theorem get_some (A : Option Addr) (n c : Nat) (l : List UInt8) (g : Int) (w : World) (hn : l.length = n) (hr : Rd w A l) (h : greatestN n = some g) :
    Calls Try.prog 87 #[.slice A n c] w fun e w' => e = .returned (if (numLE l : Int) ≤ g then .tuple #[.int .i64 (numLE l : Int), .int .i64 0] else .tuple #[.int .i64 0, .int .i64 2]) ∧ Below w.heap.size w w' := by
  have hl := gLook (w.alloc (.map gEs 3)) w.heap.size n (heap_alloc_new w _)
  have hbel := (Below.refl w.heap.size w).alloc (Nat.le_refl _) (.map gEs 3)
  have hr2 := hr.alloc (.map gEs 3)
  obtain ⟨h8, hg0, hg1⟩ := greatestN_len h
  have hcv := wrap_u64_of g hg0 hg1
  have HN := Lib.hid hn
  have HR := Lib.hid hr2
  rw [h] at hl
  simp only [Option.getD_some, Option.isSome_some] at hl
  by_cases hle : (numLE l : Int) ≤ g
  · have hlt : ¬ g < (numLE l : Int) := by omega
    have hcw := wrap_i64_of (numLE l) (by omega) (by omega)
    rw [if_pos hle]
    clear h hg0 hg1 hn hr hr2 hle
    go_enter Try.func87, Try.ntmps87
    go_wp2_with (first | (go_at_call 93; refine (greatest_any _).mono ?_; rintro e w' ⟨rfl, rfl⟩) | (go_at_call 86; refine (numberOf_any _ _ _ _ _ HN.out h8 HR.out).mono ?_; rintro e w' ⟨rfl, rfl⟩))
    go_ret2
    exact ⟨rfl, hbel⟩
  · have hlt : g < (numLE l : Int) := by omega
    rw [if_neg hle]
    clear h hg0 hg1 hn hr hr2 hle
    go_enter Try.func87, Try.ntmps87
    go_wp2_with (first | (go_at_call 93; refine (greatest_any _).mono ?_; rintro e w' ⟨rfl, rfl⟩) | (go_at_call 86; refine (numberOf_any _ _ _ _ _ HN.out h8 HR.out).mono ?_; rintro e w' ⟨rfl, rfl⟩))
    go_ret2
    exact ⟨rfl, hbel⟩
end Go.Proofs.Ytjfcmoappbfnjaa.S

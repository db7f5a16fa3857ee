/- codec: an object that comes up out of a sector: plain words. -/
import Derived.Test.YtfclkkbmgclfgaaDoorFr6
import Derived.Test.YtfclkkbmgclfgaaDoorFr5
namespace Go.Proofs.YtfclkkbmgclfgaaDoor
open Go.RowKit
set_option maxRecDepth 8000 in
theorem seal_iff {l : List UInt8} (hl : l.length = 512) : sealN (l.take 508) = l ↔ sumok l := by
  have hd : (l.drop 508).length = 4 := by rw [List.length_drop]; omega
  constructor
  · intro h
    have h1 : sealN (l.take 508) = l.take 508 ++ l.drop 508 := by rw [List.take_append_drop]; exact h
    unfold sealN at h1
    have h2 := List.append_cancel_left h1
    unfold sumok
    rw [← h2, numLE_bytesLE 4 _ (by have := crcN_lt (l.take 508); omega)]
  · intro h
    unfold sealN
    rw [← h]
    have := bytesLE_numLE (l.drop 508)
    rw [hd] at this
    rw [this, List.take_append_drop]
theorem sum_yes {l : List UInt8} (hl : l.length = 512) (h : sumok l) : ((st (sealN (l.take 508))).toList == (st l).toList) = true := st_beq ((seal_iff hl).2 h)
theorem sum_no {l : List UInt8} (hl : l.length = 512) (h : ¬ sumok l) : ((st (sealN (l.take 508))).toList == (st l).toList) = false := st_bne fun e => h ((seal_iff hl).1 e)
set_option maxRecDepth 8000 in
theorem b0_take (l : List UInt8) (n : Nat) (h : 0 < n) : b0 (l.take n) = b0 l := by
  unfold b0
  cases l with
  | nil => simp
  | cons x l =>
    cases n with
    | zero => omega
    | succ n => rfl
set_option maxRecDepth 8000 in
theorem kof_t20 (l : List UInt8) : kof (l.take 20) = kof l := by
  unfold kof
  rw [b0_take l 20 (by decide), List.drop_take, List.drop_take, List.drop_take, List.drop_take, List.drop_take, b0_take _ _ (by decide)]
  simp only [List.take_take]
  rfl
set_option maxRecDepth 8000 in
theorem kofs_get (n : Nat) (l : List UInt8) (i : Nat) (h : i < n) : (kofs n l)[i]? = some (kof (l.drop (i * 20))) := by
  induction n with
  | zero => omega
  | succ n ih =>
    rw [kofs]
    rcases Nat.lt_or_ge i n with h1 | h1
    · rw [List.getElem?_append_left (by rw [kofs_length]; exact h1), ih h1]
    · obtain rfl : i = n := by omega
      rw [List.getElem?_append_right (by rw [kofs_length]; exact Nat.le_refl _), kofs_length, Nat.sub_self]
      rfl
/-- the i-th slot's bytes -/
def slotB (l : List UInt8) (i : Nat) : List UInt8 := (l.drop (12 + 20 * i)).take 20
set_option maxRecDepth 8000 in
theorem slotB_length {l : List UInt8} (hl : l.length = 512) {i : Nat} (hi : i < 16) : (slotB l i).length = 20 := by
  unfold slotB
  rw [List.length_take, List.length_drop]
  omega
set_option maxRecDepth 8000 in
theorem slot_get {l : List UInt8} {i : Nat} (hi : i < 16) : (obof (l.take 508)).s[i]? = some (kof (slotB l i)) := by
  have h1 : (obof (l.take 508)).s = kofs 16 ((l.take 508).drop 12) := rfl
  rw [h1, kofs_get 16 _ i hi, slotB, kof_t20, List.drop_drop]
  have h2 : 12 + i * 20 = 12 + 20 * i := by omega
  rw [h2]
  rw [← kof_t20 ((l.take 508).drop (12 + 20 * i)), List.drop_take, List.take_take, show min 20 (508 - (12 + 20 * i)) = 20 by omega, kof_t20]
set_option maxRecDepth 8000 in
theorem byte_get {l : List UInt8} (hl : l.length = 512) {j : Nat} (hj : j < 64) : (obof (l.take 508)).b[j]? = l[332 + j]? := by
  rw [obof_b (by rw [List.length_take]; omega), List.getElem?_take, if_pos hj, List.getElem?_drop, List.getElem?_take, if_pos (by omega)]
/-- so much of it has come up -/
def part (U : Oj) (i j : Nat) : Oj := ⟨U.k, U.c, U.l, U.s.take i ++ zks.drop i, U.b.take j ++ zbs.drop j, by
  have hz : zks.length = 16 := List.length_replicate
  rw [List.length_append, List.length_take, List.length_drop, U.hs, hz]; omega, by
  have hz : zbs.length = 64 := List.length_replicate
  rw [List.length_append, List.length_take, List.length_drop, U.hb, hz]; omega⟩
set_option maxRecDepth 8000 in
theorem part_all (U : Oj) : part U 16 64 = U := by
  obtain ⟨k, c, l, s, b, hs, hb⟩ := U
  unfold part
  simp only [Oj.mk.injEq, true_and]
  constructor
  · rw [List.take_of_length_le (by omega), List.drop_of_length_le (by rw [show zks.length = 16 from List.length_replicate]; exact Nat.le_refl _), List.append_nil]
  · rw [List.take_of_length_le (by omega), List.drop_of_length_le (by rw [show zbs.length = 64 from List.length_replicate]; exact Nat.le_refl _), List.append_nil]
set_option maxRecDepth 8000 in
theorem grow_key (U : Oj) (i : Nat) (hi : i < 16) (x : Ky) (hx : U.s[i]? = some x) : (part U i 0).cells.take (3 + i * 6) ++ kl x ++ (part U i 0).cells.drop (3 + i * 6 + (kl x).length) = (part U (i + 1) 0).cells := by
  have hz : zks.length = 16 := List.length_replicate
  have hiu : i < U.s.length := by rw [U.hs]; exact hi
  obtain ⟨_, hxe⟩ := List.getElem?_eq_some_iff.1 hx
  have e1 : (part U i 0).cells = ([Value.int .i64 U.k, Value.int .i64 U.c, Value.int .i64 U.l] ++ kcs (U.s.take i)) ++ (kcs (zks.drop i) ++ bv (U.b.take 0 ++ zbs.drop 0)) := by
    simp [Oj.cells, part, kcs_append]
  have e2 : (part U (i + 1) 0).cells = ([Value.int .i64 U.k, Value.int .i64 U.c, Value.int .i64 U.l] ++ kcs (U.s.take i)) ++ kl x ++ (kcs (zks.drop (i + 1)) ++ bv (U.b.take 0 ++ zbs.drop 0)) := by
    have : U.s.take (i + 1) = U.s.take i ++ [x] := (take_sn hiu hxe).symm
    simp [Oj.cells, part, kcs_append, this, kcs]
  have hl1 : ([Value.int .i64 U.k, Value.int .i64 U.c, Value.int .i64 U.l] ++ kcs (U.s.take i)).length = 3 + i * 6 := by
    rw [List.length_append, kcs_length, List.length_take, U.hs, Nat.min_eq_left (by omega)]
    show 3 + i * 6 = 3 + i * 6
    rfl
  have e3 : kcs (zks.drop i) = kl zk ++ kcs (zks.drop (i + 1)) := by
    have hzi : zks[i]'(by omega) = zk := List.getElem_replicate ..
    rw [List.drop_eq_getElem_cons (by omega), kcs, hzi]
  rw [e1, e2, List.take_left' hl1, ← List.drop_drop, List.drop_left' hl1, e3, List.append_assoc (kl zk), List.drop_left' (show (kl zk).length = (kl x).length from rfl)]
set_option maxRecDepth 8000 in
theorem grow_byte (U : Oj) (j : Nat) (hj : j < 64) (x : UInt8) (hx : U.b[j]? = some x) : (part U 16 j).cells.toArray.setIfInBounds (99 + j) (.int .u8 (x.toNat : Int)) = (part U 16 (j + 1)).cells.toArray := by
  have hz : zbs.length = 64 := List.length_replicate
  have hju : j < U.b.length := by rw [U.hb]; exact hj
  obtain ⟨_, hxe⟩ := List.getElem?_eq_some_iff.1 hx
  have e1 : (part U 16 j).cells = ([Value.int .i64 U.k, Value.int .i64 U.c, Value.int .i64 U.l] ++ kcs (U.s.take 16 ++ zks.drop 16)) ++ (bv (U.b.take j) ++ bv (zbs.drop j)) := by
    simp [Oj.cells, part, bv_append]
  have e2 : (part U 16 (j + 1)).cells = ([Value.int .i64 U.k, Value.int .i64 U.c, Value.int .i64 U.l] ++ kcs (U.s.take 16 ++ zks.drop 16)) ++ (bv (U.b.take j) ++ (.int .u8 (x.toNat : Int) :: bv (zbs.drop (j + 1)))) := by
    have : U.b.take (j + 1) = U.b.take j ++ [x] := (take_sn hju hxe).symm
    simp [Oj.cells, part, this, bv]
  have hl1 : ([Value.int .i64 U.k, Value.int .i64 U.c, Value.int .i64 U.l] ++ kcs (U.s.take 16 ++ zks.drop 16)).length = 99 := by
    rw [List.length_append, kcs_length, List.length_append, List.length_take, List.length_drop, U.hs, show zks.length = 16 from List.length_replicate]
    rfl
  have hl2 : (bv (U.b.take j)).length = j := by rw [bv_length, List.length_take, U.hb]; omega
  rw [e1, e2, List.setIfInBounds_toArray, List.set_append_right _ _ (by rw [hl1]; omega), hl1, List.set_append_right _ _ (by rw [hl2]; omega), hl2, show 99 + j - 99 - j = 0 by omega, List.drop_eq_getElem_cons (show j < zbs.length by omega)]
  rfl
set_option maxRecDepth 8000 in
theorem part_fit {l : List UInt8} {n : Int} (h : (obof (l.take 508)).ok n) : (obof (l.take 508)).fit := ofit_of h fun x hx => by
  obtain ⟨i, hi⟩ := List.mem_iff_getElem?.1 hx
  have h1 : (obof (l.take 508)).s = kofs 16 ((l.take 508).drop 12) := rfl
  rw [h1] at hi
  have hi2 : i < 16 := by have := (List.getElem?_eq_some_iff.1 hi).1; rwa [kofs_length] at this
  rw [kofs_get 16 _ i hi2] at hi
  rw [← Option.some.inj hi]
  exact sg_in _ (num_b _ 8 (by decide))
set_option maxRecDepth 8000 in
theorem again_iff {l : List UInt8} (hl : l.length = 512) (hs : sumok l) : sealN (obs (obof (l.take 508))) = l ↔ nou (((l.take 508).drop 1).take 3) ∧ nou (((l.take 508).drop 396).take 112) := by
  constructor
  · intro h
    have h1 : l.take 508 = obs (obof (l.take 508)) := by
      conv => lhs; rw [← h]
      exact seal_take (obs_length _)
    rw [h1]
    exact obs_noughts _
  · rintro ⟨h1, h2⟩
    rw [obs_obof (by rw [List.length_take]; omega) h1 h2]
    exact (seal_iff hl).2 hs
set_option maxRecDepth 8000 in
theorem built_o3 (k c l : Int) : Tryd.prog.built 30 [(0, .int .i64 k), (1, .int .i64 c), (2, .int .i64 l)] = some (Oj.cells ⟨k, c, l, zks, zbs, List.length_replicate, List.length_replicate⟩).toArray := by kernel_rfl
theorem y_build_3 {ops : Array Oper} {o : Oper} {a : Act} {S : World → Prop} {t : TypeId} {cs : Array Value} (p q r : Operand) (x y z : Value) (hw : Region.wanted o (yielded ops a.tmps) = true) (ho : o.op = .build t #[(0, p), (1, q), (2, r)]) (hp : a.eval p = x) (hq : a.eval q = y) (hr : a.eval r = z) (hb : Tryd.prog.built t [(0, x), (1, y), (2, z)] = some cs) : YieldsIf Tryd.prog ops S o (.agg cs) a := .inl ⟨hw, fun w _ => by
  unfold execOp
  simp only [ho, Sem.run_bind]
  have := run_build w t #[(0, x), (1, y), (2, z)] cs hb
  simp only [List.map_toArray, List.map_cons, List.map_nil, hp, hq, hr]
  simp only [this, Result.andThen_ok, Sem.run_pure]⟩
set_option maxRecDepth 8000 in
theorem cut_slot (b i : Nat) (hi : i < 16) (W : World) : (Instr.sliceAt 44 (.pointer (some ⟨b, 0, none⟩)) (some (.int .i64 (12 + 20 * (i : Int)))) (some (.int .i64 (32 + 20 * (i : Int)))) none).run Tryd.prog W = .ok (.slice (some ⟨b, 12 + 20 * i, none⟩) 20 (500 - 20 * i)) W := by
  have h3 : (12 + 20 * (i : Int)).toNat = 12 + 20 * i := by omega
  have h4 : (32 + 20 * (i : Int)).toNat = 32 + 20 * i := by omega
  have h8 : 32 + 20 * i - (12 + 20 * i) = 20 := by omega
  have h9 : 512 - (12 + 20 * i) = 500 - 20 * i := by omega
  have h11 : ¬ 512 = 12 + 20 * i := by omega
  simp [Instr.sliceAt, go_sem, run_underlying Tryd.underlying44, h3, h4, h8, h9, h11]
  rw [if_pos ⟨by omega, by omega⟩, if_pos (by omega)]
set_option maxRecDepth 8000 in
theorem slot_rd {w : World} {b : Nat} {l : List UInt8} (h : Rd w (some ⟨b, 0, none⟩) l) (i : Nat) : Rd w (some ⟨b, 12 + 20 * i, none⟩) (slotB l i) := by
  have := (h.drop (12 + 20 * i)).take 20
  rwa [Nat.zero_add] at this
end Go.Proofs.YtfclkkbmgclfgaaDoor

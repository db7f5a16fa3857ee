/- codec: bytes there and back: plain. -/
import Derived.Test.YtfclkkbmgclfgaaDoorZW
namespace Go.Proofs.YtfclkkbmgclfgaaDoor
open Go.RowKit
set_option maxRecDepth 8000 in
theorem ofNat_int (x : UInt8) : UInt8.ofNat ((x.toNat : Int)).toNat = x := by simp
set_option maxRecDepth 8000 in
theorem le_num (l : List UInt8) (k : Nat) (h : l.length = k) : bytesLE k ((numLE l : Int)).toNat = l := by
  subst h
  rw [Int.toNat_natCast]
  exact bytesLE_numLE l
set_option maxRecDepth 8000 in
theorem kbs_kof {l : List UInt8} (h : l.length = 20) : kbs (kof l) = l := by
  match l, h with
  | [x0, x1, x2, x3, x4, x5, x6, x7, x8, x9, x10, x11, x12, x13, x14, x15, x16, x17, x18, x19], _ =>
    have e1 : bytesLE 2 ((numLE [x2, x3] : Int)).toNat = [x2, x3] := le_num _ 2 rfl
    have e2 : bytesLE 4 ((numLE [x4, x5, x6, x7] : Int)).toNat = [x4, x5, x6, x7] := le_num _ 4 rfl
    have e3 : bytesLE 4 ((numLE [x8, x9, x10, x11] : Int)).toNat = [x8, x9, x10, x11] := le_num _ 4 rfl
    have e4 : bytesLE 8 (un (sg (numLE [x12, x13, x14, x15, x16, x17, x18, x19]))) = [x12, x13, x14, x15, x16, x17, x18, x19] := by
      rw [un_sg (by have := numLE_lt [x12, x13, x14, x15, x16, x17, x18, x19]; simp only [List.length_cons, List.length_nil] at this; omega)]
      exact bytesLE_numLE [x12, x13, x14, x15, x16, x17, x18, x19]
    have f0 : b0 [x0, x1, x2, x3, x4, x5, x6, x7, x8, x9, x10, x11, x12, x13, x14, x15, x16, x17, x18, x19] = x0 := rfl
    have f1 : b0 ([x0, x1, x2, x3, x4, x5, x6, x7, x8, x9, x10, x11, x12, x13, x14, x15, x16, x17, x18, x19].drop 1) = x1 := rfl
    have f2 : ([x0, x1, x2, x3, x4, x5, x6, x7, x8, x9, x10, x11, x12, x13, x14, x15, x16, x17, x18, x19].drop 2).take 2 = [x2, x3] := rfl
    have f3 : ([x0, x1, x2, x3, x4, x5, x6, x7, x8, x9, x10, x11, x12, x13, x14, x15, x16, x17, x18, x19].drop 4).take 4 = [x4, x5, x6, x7] := rfl
    have f4 : ([x0, x1, x2, x3, x4, x5, x6, x7, x8, x9, x10, x11, x12, x13, x14, x15, x16, x17, x18, x19].drop 8).take 4 = [x8, x9, x10, x11] := rfl
    have f5 : ([x0, x1, x2, x3, x4, x5, x6, x7, x8, x9, x10, x11, x12, x13, x14, x15, x16, x17, x18, x19].drop 12).take 8 = [x12, x13, x14, x15, x16, x17, x18, x19] := rfl
    rw [kbs, kof, f0, f1, f2, f3, f4, f5]
    simp only [ofNat_int]
    rw [e1, e2, e3, e4]
    rfl
set_option maxRecDepth 8000 in
theorem kof_take (l : List UInt8) : kof (l.take 20) = kof l := by
  unfold kof b0
  simp only [List.drop_take, List.take_take]
  simp [List.getD]
set_option maxRecDepth 8000 in
theorem kks_kofs (l : List UInt8) (n : Nat) (h : n * 20 ≤ l.length) : kks (kofs n l) = l.take (n * 20) := by
  induction n with
  | zero => simp [kofs, kks]
  | succ n ih =>
    have hd : 20 ≤ (l.drop (n * 20)).length := by rw [List.length_drop]; omega
    rw [kofs, kks_snoc, ih (by omega), ← kof_take, kbs_kof (by rw [List.length_take]; omega), show (n + 1) * 20 = n * 20 + 20 by omega, List.take_add]
theorem nou_eq {l : List UInt8} {n : Nat} (h : nou l) (hl : l.length = n) : l = List.replicate n 0 := List.eq_replicate_iff.2 ⟨hl, h⟩
set_option maxRecDepth 8000 in
theorem obs_obof {l : List UInt8} (h : l.length = 508) (h1 : nou ((l.drop 1).take 3)) (h2 : nou ((l.drop 396).take 112)) : obs (obof l) = l := by
  have p0 : [UInt8.ofNat ((b0 l).toNat : Int).toNat] = l.take 1 := by
    rw [ofNat_int]
    match l, h with
    | x :: l, _ => rfl
  have p1 : List.replicate 3 (0 : UInt8) = (l.drop 1).take 3 := (nou_eq h1 (by rw [List.length_take, List.length_drop]; omega)).symm
  have p2 : bytesLE 4 ((numLE ((l.drop 4).take 4) : Int)).toNat = (l.drop 4).take 4 := le_num _ 4 (by rw [List.length_take, List.length_drop]; omega)
  have p3 : bytesLE 4 ((numLE ((l.drop 8).take 4) : Int)).toNat = (l.drop 8).take 4 := le_num _ 4 (by rw [List.length_take, List.length_drop]; omega)
  have p4 : kks (kofs 16 (l.drop 12)) = (l.drop 12).take 320 := kks_kofs _ 16 (by rw [List.length_drop]; omega)
  have p5 : (obof l).b = (l.drop 332).take 64 := obof_b h
  have p6 : List.replicate 112 (0 : UInt8) = (l.drop 396).take 112 := (nou_eq h2 (by rw [List.length_take, List.length_drop]; omega)).symm
  show [UInt8.ofNat ((b0 l).toNat : Int).toNat] ++ (List.replicate 3 0 ++ (bytesLE 4 ((numLE ((l.drop 4).take 4) : Int)).toNat ++ (bytesLE 4 ((numLE ((l.drop 8).take 4) : Int)).toNat ++ (kks (kofs 16 (l.drop 12)) ++ ((obof l).b ++ List.replicate 112 0))))) = l
  rw [p0, p1, p2, p3, p4, p5, p6]
  have j : ∀ (a b : Nat), (l.drop a).take b ++ l.drop (a + b) = l.drop a := fun a b => by rw [← List.drop_drop, List.take_append_drop]
  have q6 : (l.drop 396).take 112 = l.drop 396 := List.take_of_length_le (by rw [List.length_drop]; omega)
  rw [q6, j 332 64, j 12 320, j 8 4, j 4 4, j 1 3, List.take_append_drop]
end Go.Proofs.YtfclkkbmgclfgaaDoor

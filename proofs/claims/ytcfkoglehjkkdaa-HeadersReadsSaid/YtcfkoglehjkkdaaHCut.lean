/- headers: where a header's fields lie. -/
import Derived.Test.YtcfkoglehjkkdaaHDef
namespace Go.Proofs.Ytcfkoglehjkkdaa
set_option maxRecDepth 8000 in
theorem hd_cut0 (e a o : Nat) : (hdL e a o).take 4 = [67, 72, 72, 68] := by
  unfold hdL
  rw [List.append_assoc, List.append_assoc, List.append_assoc, List.append_assoc]
  exact List.take_left' rfl
set_option maxRecDepth 8000 in
theorem hd_cut4 (e a o : Nat) : ((hdL e a o).drop 4).take 8 = S.bytesLE 8 e := by
  unfold hdL
  rw [List.append_assoc, List.append_assoc, List.append_assoc, List.append_assoc, List.drop_left' (show ([67, 72, 72, 68] : List UInt8).length = 4 from rfl)]
  exact List.take_left' (S.bytesLE_length _ _)
set_option maxRecDepth 8000 in
theorem hd_cut12 (e a o : Nat) : ((hdL e a o).drop 12).take 2 = S.bytesLE 2 a := by
  unfold hdL
  rw [List.append_assoc, List.append_assoc, List.append_assoc, List.drop_left' (show ([67, 72, 72, 68] ++ S.bytesLE 8 e).length = 12 by simp [S.bytesLE_length])]
  exact List.take_left' (S.bytesLE_length _ _)
set_option maxRecDepth 8000 in
theorem hd_cut14 (e a o : Nat) : ((hdL e a o).drop 14).take 2 = S.bytesLE 2 o := by
  unfold hdL
  rw [List.append_assoc, List.append_assoc, List.drop_left' (show ([67, 72, 72, 68] ++ S.bytesLE 8 e ++ S.bytesLE 2 a).length = 14 by simp [S.bytesLE_length])]
  exact List.take_left' (S.bytesLE_length _ _)
set_option maxRecDepth 8000 in
theorem hd_cut16 (e a o : Nat) : ((hdL e a o).drop 16).take 484 = List.replicate 484 0 := by
  unfold hdL
  rw [List.append_assoc, List.drop_left' (show ([67, 72, 72, 68] ++ S.bytesLE 8 e ++ S.bytesLE 2 a ++ S.bytesLE 2 o).length = 16 by simp [S.bytesLE_length])]
  exact List.take_left' List.length_replicate
set_option maxRecDepth 8000 in
theorem hd_cut500 (e a o : Nat) : ((hdL e a o).drop 500).take 8 = S.bytesLE 8 e := by
  unfold hdL
  rw [List.drop_left' (show ([67, 72, 72, 68] ++ S.bytesLE 8 e ++ S.bytesLE 2 a ++ S.bytesLE 2 o ++ List.replicate 484 0).length = 500 by simp [S.bytesLE_length])]
  exact List.take_of_length_le (by rw [S.bytesLE_length]; exact Nat.le_refl _)
end Go.Proofs.Ytcfkoglehjkkdaa

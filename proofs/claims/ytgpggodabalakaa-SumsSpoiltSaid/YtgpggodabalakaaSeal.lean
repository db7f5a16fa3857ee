/- The walks: Seal, the document's Seal. -/
import Derived.Test.YtgpggodabalakaaJoin
namespace Go.Proofs.Ytgpggodabalakaa
open Go.RowKit
/-- bytes with their sum's bytes behind -/
def sealN (l : List UInt8) : List UInt8 := l ++ bytesLE 4 (crcN l)
theorem sealN_length (l : List UInt8) : (sealN l).length = l.length + 4 := by simp [sealN, bytesLE_length]
theorem own_slice {w : World} {base n : Nat} {e : TypeId} {v : Value} {xs : List Value} (h : w.ownsRow base e 1 v n xs) : ∃ A cap, v = .slice A n cap ∧ (∀ b, A = some b → b.spot = none) := by
  rcases h.2 with ⟨rfl, rfl⟩ | ⟨g, cap, cur, rfl, _⟩
  · exact ⟨none, 0, rfl, by intro b hb; cases hb⟩
  · exact ⟨some ⟨g, 0, none⟩, cap, rfl, by intro b hb; injection hb with hb; rw [← hb]⟩
theorem rds_two (w : World) (A : Option Addr) (n c : Nat) (l : List UInt8) (A' : Option Addr) (n' c' : Nat) (l' : List UInt8) (t : TypeId) (hn : l.length = n) (hn' : l'.length = n') (hr : Rd w A l) (hr' : Rd w A' l') :
    Rds (w.alloc (.cells #[.slice A n c, .slice A' n' c'] t)) w.heap.size [l, l'] := by
  intro j hj
  subst hn; subst hn'
  match j, hj with
  | 0, _ => exact ⟨A, c, by simp, hr.alloc _⟩
  | 1, _ => exact ⟨A', c', by simp, hr'.alloc _⟩
theorem rds_one (w : World) (A : Option Addr) (n c : Nat) (l : List UInt8) (t : TypeId) (hn : l.length = n) (hr : Rd w A l) :
    Rds (w.alloc (.cells #[.slice A n c] t)) w.heap.size [l] := by
  intro j hj
  subst hn
  match j, hj with
  | 0, _ => exact ⟨A, c, by simp, hr.alloc _⟩
theorem bytesOf_four (N : Nat) (w : World) :
    Calls Try.prog 26 #[.int .u64 (N : Int), .int .i64 4] w fun e w' => ∃ v, e = .returned v ∧ w'.ownsRow w.heap.size 5 1 v 4 (bv (bytesLE 4 N)) ∧ Below w.heap.size w w' := bytesOf_any N 4 w (by omega)
set_option maxHeartbeats 800000 in
theorem seal_any (A : Option Addr) (n c : Nat) (l : List UInt8) (w : World) (hn : l.length = n) (hr : Rd w A l) (hbig : n ≤ 100000) :
    Calls Try.prog 20 #[.slice A n c] w fun e w' => ∃ v, e = .returned v ∧ w'.ownsRow w.heap.size 5 1 v (n + 4) (bv (sealN l)) ∧ Below w.heap.size w w' := by
  have HR := Lib.hid hr
  have HN := Lib.hid hn
  clear hr hn
  have hcv := wrap_u64_lt (crcN l) (by have := crcN_lt l; omega)
  go_enter Try.func20, Try.ntmps20
  go_wp2_with (first
    | (go_at_call 12; refine (crc_any _ _ _ l _ HN.out HR.out (by omega)).mono ?_; rintro e w1 ⟨rfl, hb1⟩)
    | (go_at_call 26; refine (bytesOf_four _ _).mono ?_; rintro e w2 ⟨v, rfl, hown2, hb2⟩; obtain ⟨A2, c2, rfl, _⟩ := own_slice hown2))
  have hb12 := hb1.trans (hb2.mono hb1.size)
  have hds := rds_two w2 A n c l A2 4 c2 (bytesLE 4 (crcN l)) 22 HN.out (bytesLE_length _ _) (HR.out.below hb12) (Rd.of_own hown2)
  have hfl : flat [l, bytesLE 4 (crcN l)] = sealN l := by simp [flat, sealN]
  have hlen : (sealN l).length = n + 4 := by rw [sealN_length, HN.out]
  refine (joined_any _ 2 _ [l, bytesLE 4 (crcN l)] _ rfl hds (by rw [hfl, hlen]; omega) (by omega)).mono ?_
  rintro e w3 ⟨v3, rfl, hown3, hb3⟩
  rw [hfl, hlen] at hown3
  have hsz := hb12.size
  clear hfl hlen hds
  go_wp2_with fail
  go_ret
  exact ⟨_, rfl, own_base hown3 (by simp; omega), (hb12.alloc hsz _).trans (hb3.mono (by simp; omega))⟩
theorem conv_i64 (N : Nat) (h : (N : Int) ≤ 9223372036854775807) : IntKind.i64.wrap (N : Int) = (N : Int) := wrap_i64_of N (by omega) h
theorem rput_four (N : Nat) (w : World) (hN : (N : Int) ≤ 9223372036854775807) :
    Calls Try.prog 16 #[.int .i64 (N : Int), .int .i64 4] w fun e w' => ∃ v, e = .returned (.tuple #[v, .bool (N / 256 ^ 4 == 0)]) ∧ w'.ownsRow w.heap.size 5 1 v 4 (bv (bytesLE 4 N)) ∧ Below w.heap.size w w' := rput_yes N 4 w (.inr (.inl rfl)) hN
set_option maxHeartbeats 800000 in
theorem rseal_any (A : Option Addr) (n c : Nat) (l : List UInt8) (w : World) (hn : l.length = n) (hr : Rd w A l) (hbig : n ≤ 100000) :
    Calls Try.prog 21 #[.slice A n c] w fun e w' => ∃ v, e = .returned v ∧ w'.ownsRow w.heap.size 5 1 v (n + 4) (bv (sealN l)) ∧ Below w.heap.size w w' := by
  have HR := Lib.hid hr
  have HN := Lib.hid hn
  clear hr hn
  have hcv := conv_i64 (crcN l) (by have := crcN_lt l; omega)
  have hcl : ((crcN l : Nat) : Int) ≤ 9223372036854775807 := by have := crcN_lt l; omega
  go_enter Try.func21, Try.ntmps21
  go_wp2_with (first
    | (go_at_call 13; refine (rcrc_any _ _ _ l _ HN.out HR.out (by omega)).mono ?_; rintro e w1 ⟨rfl, rfl⟩)
    | (go_at_call 16; refine (rput_four _ _ hcl).mono ?_; rintro e w2 ⟨v, rfl, hown2, hb2⟩; obtain ⟨A2, c2, rfl, _⟩ := own_slice hown2; have HO2 := Lib.hid hown2; have HB2 := Lib.hid hb2; have HR2 := Lib.hid ((HR.out.below hb2).alloc (.cells #[] 5)); have hz2 := hb2.size; clear hown2 hb2)
    | (at_builtin; refine wpList_append_bytes _ rfl (.tmp 12) (.tmp 13) _ rfl Try.underlying22 infoU8 (base := w2.heap.size) (n := 0) (l := []) rfl (World.ownsRow_lit w2 #[] 0 (Nat.le_refl _) (Nat.zero_le _) rfl) rfl HR2.out HN.out (by omega) (by simp) ?_; intro v3 w3 hown3 hg3 hat3; have HO3 := Lib.hid hown3; have hb3 := below_append ((Below.refl w2.heap.size w2).alloc (Nat.le_refl _) (.cells #[] 5)) (World.ownsRow_lit (e := 5) (size := 1) w2 #[] 0 (Nat.le_refl _) (Nat.zero_le _) rfl) hg3 (Nat.le_refl _) (by simp); have HB3 := Lib.hid hb3; have hz3 := hb3.size; clear hown3 hb3 hg3 hat3)
    | (at_builtin; refine wpList_append_bytes _ rfl (.tmp 14) (.tmp 15) _ rfl Try.underlying22 infoU8 rfl HO3.out rfl ((Rd.of_own HO2.out).below HB3.out) (bytesLE_length _ _) (by omega) hz3 ?_; intro v4 w4 hown4 hg4 hat4))
  have hb4 := below_append HB3.out HO3.out hg4 (Nat.le_refl _) hz3
  go_ret
  refine ⟨_, rfl, ?_, HB2.out.trans (hb4.mono hz2)⟩
  have := own_base hown4 hz2
  simpa [sealN] using this
end Go.Proofs.Ytgpggodabalakaa

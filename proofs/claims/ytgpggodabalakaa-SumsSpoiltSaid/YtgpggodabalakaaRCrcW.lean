/- The walk: the document's own Crc. -/
import Derived.Test.YtgpggodabalakaaRGetW
import Derived.Test.YtgpggodabalakaaCrc
namespace Go.Proofs.Ytgpggodabalakaa
open Go.RowKit
theorem stepN_odd (s : Nat) (h : ((s : Int) % 2 == 1) = true) (hs : s < 4294967296) : bits BinOp.xor IntKind.u32 ((s : Int) / 2) 3988292384 = (stepN s : Int) := by
  have h1 : (s : Int) % 2 = 1 := by simpa using h
  rw [stepN, if_neg (by omega), ← u32_xor_nat (s / 2) 3988292384 (by omega) (by omega)]
  rfl
theorem stepN_even (s : Nat) (h : ((s : Int) % 2 == 1) = false) : (s : Int) / 2 = (stepN s : Int) := by
  have h1 : ¬ (s : Int) % 2 = 1 := by simpa using h
  rw [stepN, if_pos (by omega)]
  omega
theorem u32_xor_byte (s : Nat) (x : UInt8) (h : s < 4294967296) : bits BinOp.xor IntKind.u32 (s : Int) ((x.toNat : Int) % 4294967296) = ((s ^^^ x.toNat : Nat) : Int) := by
  have := x.toNat_lt
  rw [show ((x.toNat : Int) % 4294967296) = (x.toNat : Int) by omega]
  exact u32_xor_nat s x.toNat h (by omega)
set_option maxHeartbeats 800000 in
theorem rcrc_any (A : Option Addr) (n c : Nat) (l : List UInt8) (w : World) (hn : l.length = n) (hr : Rd w A l) (hbig : n ≤ 1000000) :
    Calls Try.prog 13 #[.slice A n c] w fun e w' => e = .returned (.int .u32 (crcN l : Int)) ∧ w = w' := by
  have HR := Lib.hid hr
  have HN := Lib.hid hn
  clear hr hn
  go_enter Try.func13, Try.ntmps13
  go_wp2
  go_loop [3, 4, 5] (fun s i _ => ∃ k : Nat, k ≤ n ∧ i = .int .i64 k ∧ s = .int .u32 (rawN 4294967295 (l.take k) : Int)) (fun _ i _ => n - (intOf i).toNat)
  case atStart => exact ⟨0, by omega, rfl, rfl⟩
  case round =>
    obtain ⟨k, hk, rfl, rfl⟩ := hrel
    by_cases hlt : k < n
    · obtain ⟨b, off, rfl, hc⟩ := HR.out k (by have := HN.out; omega)
      have hs := rawN_lt (s := 4294967295) (l.take k) (by omega)
      obtain ⟨s, hse⟩ : ∃ s, s = rawN 4294967295 (l.take k) := ⟨_, rfl⟩
      rw [← hse] at hs ⊢
      have HS := Lib.hid hse
      have hx := u32_xor_byte s (l[k]'(by have := HN.out; omega)) hs
      have hxl := xor_byte_lt (l[k]'(by have := HN.out; omega)) hs
      have hfin := rawN_snoc 4294967295 (l.take k) (l[k]'(by have := HN.out; omega))
      rw [← take_snoc l k (by have := HN.out; omega), ← hse] at hfin
      obtain ⟨t, hte⟩ : ∃ t, t = s ^^^ (l[k]'(by have := HN.out; omega)).toNat := ⟨_, rfl⟩
      rw [← hte] at hx hxl
      unfold byteN at hfin
      rw [← hte] at hfin
      have HF := Lib.hid hfin
      clear hse hte hfin
      go_wp2
      go_loop [3, 5] (fun s j => ∃ m : Nat, m ≤ 8 ∧ j = .int .i64 m ∧ s = .int .u32 (stepsN m t : Int)) (fun _ j => 8 - (intOf j).toNat)
      case atStart => exact ⟨0, by omega, rfl, rfl⟩
      case round =>
        obtain ⟨m, hm, rfl, rfl⟩ := hrel
        by_cases hm8 : m < 8
        · have hsl := stepsN_lt m hxl
          obtain ⟨r, hre⟩ : ∃ r, r = stepsN m t := ⟨_, rfl⟩
          rw [← hre] at hsl ⊢
          have hnx : stepsN (m + 1) t = stepN r := by rw [hre]; rfl
          have HX := Lib.hid hnx
          clear hre hnx
          by_cases ho : ((r : Int) % 2 == 1) = true
          · have hso := stepN_odd r ho hsl
            go_wp2
            go_round
            case rel => exact ⟨m + 1, by omega, by go_num, by rw [HX.out]⟩
            case measure => simp [intOf]; omega
          · have ho' : ((r : Int) % 2 == 1) = false := by simpa using ho
            have hso := stepN_even r ho'
            clear ho
            go_wp2
            go_round
            case rel => exact ⟨m + 1, by omega, by go_num, by rw [HX.out]⟩
            case measure => simp [intOf]; omega
        · obtain rfl : m = 8 := by omega
          go_wp2
          go_round
          case rel => exact ⟨k + 1, by omega, by go_num, by rw [HF.out]⟩
          case measure => simp [intOf]; omega
    · go_wp2
      go_ret
      refine ⟨ret_int ?_, rfl⟩
      have hl : l.take k = l := List.take_of_length_le (by have := HN.out; omega)
      have := rawN_lt (s := 4294967295) l (by omega)
      rw [hl]
      unfold crcN
      omega
end Go.Proofs.Ytgpggodabalakaa

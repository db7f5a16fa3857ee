/- The law SumsSpoilt holds for every slice of bytes and every burst: what was sealed is told, and where up to 32 bits in a row of it are others it is told to be none. No condition. -/
import Derived.Test.YtgpggodabalakaaSpoilM
import Derived.Lib.SmallJoins
import Derived.StillTailTactics
namespace Go.Proofs.Ytgpggodabalakaa.sumsSpoilt
open Go.ChangeShapes Go.WideShapes Go.ChangeAt Go.RowKit
theorem below_box (w : World) (f b : Int) : Below w.heap.size w (w.alloc (.cells #[.int .i64 f, .int .u32 b] 44)) := (Below.refl _ _).alloc (Nat.le_refl _) _
/-- the burst's two numbers lie in block B -/
def Box2 (w : World) (B : Nat) (f b : Int) : Prop := w.cell? ⟨B, 0, none⟩ = some (.int .i64 f) ∧ w.cell? ⟨B, 1, none⟩ = some (.int .u32 b)
theorem box2_new (w : World) (f b : Int) : Box2 (w.alloc (.cells #[.int .i64 f, .int .u32 b] 44)) w.heap.size f b := ⟨by simp, by simp⟩
theorem Box2.below {w w' : World} {B : Nat} {f b : Int} (h : Box2 w B f b) (hb : Below w.heap.size w w') : Box2 w' B f b :=
  ⟨(hb.cell (p := ⟨B, 0, none⟩) (cell_lt h.1)).trans h.1, (hb.cell (p := ⟨B, 1, none⟩) (cell_lt h.2)).trans h.2⟩
theorem Box2.grown {w w' : World} {B g : Nat} {f b : Int} (h : Box2 w B f b) (hg : w.grownBy w' (some g)) (hne : B < g) : Box2 w' B f b := by
  have hb : w'.heap[B]? = w.heap[B]? := hg.block B (cell_lt h.1) (by intro e; injection e with e; omega)
  exact ⟨(World.cell?_of_block (a := ⟨B, 0, none⟩) hb).trans h.1, (World.cell?_of_block (a := ⟨B, 1, none⟩) hb).trans h.2⟩
theorem u8_pow (r : Nat) (hr : r < 8) : (UInt8.ofNat (2 ^ r)).toNat = 2 ^ r := by
  have hp : (2 : Nat) ^ r < 256 := Nat.pow_lt_pow_right (a := 2) (by omega) hr
  show (2 ^ r) % 256 = 2 ^ r
  exact Nat.mod_eq_of_lt hp
theorem xor_u8 (x : UInt8) (r : Nat) (hr : r < 8) : bits BinOp.xor IntKind.u8 (x.toNat : Int) (IntKind.u8.wrap (2 ^ r)) = ((x ^^^ UInt8.ofNat (2 ^ r)).toNat : Int) := by
  have hx := x.toNat_lt
  have hp : (2 : Nat) ^ r < 256 := Nat.pow_lt_pow_right (a := 2) (by omega) hr
  have e : IntKind.u8.wrap (2 ^ r) = ((2 ^ r : Nat) : Int) := by
    rw [IntKind.wrap_u8', show ((2 : Int) ^ r) = ((2 ^ r : Nat) : Int) by simp]
    generalize 2 ^ r = p at hp ⊢
    omega
  rw [e, u8_xor_nat _ _ (by omega) hp, UInt8.toNat_xor, u8_pow r hr]
theorem bv_set (S : List UInt8) (q : Nat) (x : UInt8) (_ : q < S.length) : (bv S).set q (.int .u8 (x.toNat : Int)) = bv (S.set q x) := by
  simp [bv, List.map_set]
theorem grow_drew {a b : World} {r : Option Nat} (h : a.grownBy b r) : a.grownBy b.drew r := ⟨h.os, h.tape, h.output, h.size, h.block⟩
theorem sealed_prep (l : List UInt8) (n : Nat) (hn : l.length = n) (A : Option Addr) (c : Nat) (w : World) (hc : n + 4 ≤ c) (hr : Rd w A (sealN l)) (hbig : n + 4 ≤ 100000) :
    Calls Try.prog 22 #[.slice A (n + 4) c] w fun e w' => ∃ v, e = .returned (.tuple #[v, .bool true]) ∧ w'.ownsRow w.heap.size 5 1 v n (bv l) ∧ Below w.heap.size w w' := by
  have := sealed_either A (n + 4) c (sealN l) w (by rw [sealN_length, hn]) hc hr hbig
  rw [okB_seal, outL_seal, hn] at this
  exact this
set_option maxHeartbeats 800000 in
theorem walk_long (A : Option Addr) (n c : Nat) (f b : Int) (w : World) (h : 3000 < n) :
    Calls Try.prog 10 #[.slice A n c, .agg #[.int .i64 f, .int .u32 b]] w fun e w' => e = .returned (.bool true) ∧ Below w.heap.size w w' := by
  have HB := Lib.hid (below_box w f b)
  go_enter Try.func10, Try.ntmps10
  go_wp2_with (go_at_call 11; refine (works_any _).mono ?_; rintro e w9 ⟨rfl, hb9⟩)
  go_ret
  exact ⟨rfl, HB.out.trans (hb9.mono HB.out.size)⟩
set_option maxHeartbeats 1600000 in
theorem walk_less (A : Option Addr) (n c : Nat) (l : List UInt8) (f b : Int) (w : World) (hs : n ≤ 3000) (hn : l.length = n) (hr : Rd w A l) (hf : f < 0) :
    Calls Try.prog 10 #[.slice A n c, .agg #[.int .i64 f, .int .u32 b]] w fun e w' => e = .returned (.bool true) ∧ Below w.heap.size w w' := by
  have HB := Lib.hid (below_box w f b)
  have HR := Lib.hid hr
  have HR0 := Lib.hid (hr.below (below_box w f b))
  have HN := Lib.hid hn
  have HSL := Lib.hid (show (sealN l).length = n + 4 by rw [sealN_length, hn])
  have HSE := Lib.hid (sealed_prep l n hn)
  clear hr hn
  go_enter Try.func10, Try.ntmps10
  go_wp2_with fail
  refine (seal_any A n c l _ HN.out HR0.out (by omega)).mono ?_
  rintro e w1 ⟨v1, rfl, hown1, hb1⟩
  obtain ⟨g, cap, rfl, hcap⟩ := own_some hown1 (by omega)
  have HO1 := Lib.hid hown1
  have HB1 := Lib.hid (HB.out.trans (hb1.mono HB.out.size))
  have HX1 := Lib.hid (show Box2 w1 w.heap.size f b from (box2_new w f b).below hb1)
  clear hown1 hb1
  go_wp2_with fail
  refine (HSE.out (some ⟨g, 0, none⟩) cap w1 hcap (Rd.of_own HO1.out) (by omega)).mono ?_
  rintro e w2 ⟨v2, rfl, hown2, hb2⟩
  obtain ⟨X, cx, rfl, _⟩ := own_slice hown2
  have hs1 := run_str (P := Try.prog) w2 Try.underlying22 Try.underlying5 Try.underlying9 (c := cx) HN.out (Rd.of_own hown2)
  have hs2 := run_str (P := Try.prog) w2 Try.underlying22 Try.underlying5 Try.underlying9 (c := c) HN.out (HR.out.below (HB1.out.trans (hb2.mono HB1.out.size)))
  have HB2 := Lib.hid (HB1.out.trans (hb2.mono HB1.out.size))
  have HO2 := Lib.hid (own_below HO1.out hb2)
  have hx2 := HX1.out.below hb2
  have HX2 := Lib.hid hx2
  have hcf := hx2.1
  have hcb := hx2.2
  have hgb := (HO1.out.lt g rfl).1
  have hgb' : w.heap.size < g := by simp at hgb; omega
  clear hown2 hb2 hx2 hgb
  go_wp2_with (go_at_call 11; refine (works_any _).mono ?_; rintro e w9 ⟨rfl, hb9⟩)
  go_ret
  exact ⟨rfl, HB2.out.trans (hb9.mono HB2.out.size)⟩
set_option maxHeartbeats 1600000 in
theorem walk_more (A : Option Addr) (n c : Nat) (l : List UInt8) (f b : Int) (w : World) (hs : n ≤ 3000) (hn : l.length = n) (hr : Rd w A l) (hf : ¬ f < 0) (hf2 : 8 * ((n : Int) + 4) < f) :
    Calls Try.prog 10 #[.slice A n c, .agg #[.int .i64 f, .int .u32 b]] w fun e w' => e = .returned (.bool true) ∧ Below w.heap.size w w' := by
  have HB := Lib.hid (below_box w f b)
  have HR := Lib.hid hr
  have HR0 := Lib.hid (hr.below (below_box w f b))
  have HN := Lib.hid hn
  have HSL := Lib.hid (show (sealN l).length = n + 4 by rw [sealN_length, hn])
  have HSE := Lib.hid (sealed_prep l n hn)
  clear hr hn
  go_enter Try.func10, Try.ntmps10
  go_wp2_with fail
  refine (seal_any A n c l _ HN.out HR0.out (by omega)).mono ?_
  rintro e w1 ⟨v1, rfl, hown1, hb1⟩
  obtain ⟨g, cap, rfl, hcap⟩ := own_some hown1 (by omega)
  have HO1 := Lib.hid hown1
  have HB1 := Lib.hid (HB.out.trans (hb1.mono HB.out.size))
  have HX1 := Lib.hid (show Box2 w1 w.heap.size f b from (box2_new w f b).below hb1)
  clear hown1 hb1
  go_wp2_with fail
  refine (HSE.out (some ⟨g, 0, none⟩) cap w1 hcap (Rd.of_own HO1.out) (by omega)).mono ?_
  rintro e w2 ⟨v2, rfl, hown2, hb2⟩
  obtain ⟨X, cx, rfl, _⟩ := own_slice hown2
  have hs1 := run_str (P := Try.prog) w2 Try.underlying22 Try.underlying5 Try.underlying9 (c := cx) HN.out (Rd.of_own hown2)
  have hs2 := run_str (P := Try.prog) w2 Try.underlying22 Try.underlying5 Try.underlying9 (c := c) HN.out (HR.out.below (HB1.out.trans (hb2.mono HB1.out.size)))
  have HB2 := Lib.hid (HB1.out.trans (hb2.mono HB1.out.size))
  have HO2 := Lib.hid (own_below HO1.out hb2)
  have hx2 := HX1.out.below hb2
  have HX2 := Lib.hid hx2
  have hcf := hx2.1
  have hcb := hx2.2
  have hgb := (HO1.out.lt g rfl).1
  have hgb' : w.heap.size < g := by simp at hgb; omega
  clear hown2 hb2 hx2 hgb
  go_wp2_with (go_at_call 11; refine (works_any _).mono ?_; rintro e w9 ⟨rfl, hb9⟩)
  go_ret
  exact ⟨rfl, HB2.out.trans (hb9.mono HB2.out.size)⟩
set_option maxHeartbeats 1600000 in
theorem walk_ok (A : Option Addr) (n c : Nat) (l : List UInt8) (f b : Nat) (w : World) (hs : n ≤ 3000) (hn : l.length = n) (hr : Rd w A l) (hf2 : f ≤ 8 * (n + 4)) (hb : b < 4294967296) :
    Calls Try.prog 10 #[.slice A n c, .agg #[.int .i64 (f : Int), .int .u32 (b : Int)]] w fun e w' => e = .returned (.bool true) ∧ Below w.heap.size w w' := by
  have hf0 : ¬ (f : Int) < 0 := by omega
  have hf1 : ¬ 8 * ((n : Int) + 4) < (f : Int) := by omega
  have HB := Lib.hid (below_box w f b)
  have HR := Lib.hid hr
  have HR0 := Lib.hid (hr.below (below_box w f b))
  have HN := Lib.hid hn
  have HSL := Lib.hid (show (sealN l).length = n + 4 by rw [sealN_length, hn])
  have HSE := Lib.hid (sealed_prep l n hn)
  clear hr hn
  go_enter Try.func10, Try.ntmps10
  go_wp2_with fail
  refine (seal_any A n c l _ HN.out HR0.out (by omega)).mono ?_
  rintro e w1 ⟨v1, rfl, hown1, hb1⟩
  obtain ⟨g, cap, rfl, hcap⟩ := own_some hown1 (by omega)
  have HO1 := Lib.hid hown1
  have HB1 := Lib.hid (HB.out.trans (hb1.mono HB.out.size))
  have HX1 := Lib.hid (show Box2 w1 w.heap.size f b from (box2_new w f b).below hb1)
  clear hown1 hb1
  go_wp2_with fail
  refine (HSE.out (some ⟨g, 0, none⟩) cap w1 hcap (Rd.of_own HO1.out) (by omega)).mono ?_
  rintro e w2 ⟨v2, rfl, hown2, hb2⟩
  obtain ⟨X, cx, rfl, _⟩ := own_slice hown2
  have hs1 := run_str (P := Try.prog) w2 Try.underlying22 Try.underlying5 Try.underlying9 (c := cx) HN.out (Rd.of_own hown2)
  have hs2 := run_str (P := Try.prog) w2 Try.underlying22 Try.underlying5 Try.underlying9 (c := c) HN.out (HR.out.below (HB1.out.trans (hb2.mono HB1.out.size)))
  have HB2 := Lib.hid (HB1.out.trans (hb2.mono HB1.out.size))
  have HO2 := Lib.hid (own_below HO1.out hb2)
  have hx2 := HX1.out.below hb2
  have HX2 := Lib.hid hx2
  have hcf := hx2.1
  have hcb := hx2.2
  have hgb := (HO1.out.lt g rfl).1
  have hgb' : w.heap.size < g := by simp at hgb; omega
  clear hown2 hb2 hx2 hgb
  go_wp2_with fail
  clear HSE HSL HX1 HB1 HR0 hcf hcb hs1 hs2
  obtain ⟨S0, hS0⟩ : ∃ S0, S0 = sealN l := ⟨_, rfl⟩
  have HS0 := Lib.hid hS0
  have HL0 := Lib.hid (show S0.length = n + 4 by rw [hS0, sealN_length, HN.out])
  have HM0 := Lib.hid (hS0 ▸ HO2.out)
  clear hS0
  go_loopw [8, 9, 10] (fun t i _ wr => ∃ (k B : Nat) (S : List UInt8) (tb : Bool), k ≤ 32 ∧ i = .int .i64 k ∧ t = .bool tb ∧ (tb = true ↔ B ≠ 0) ∧ B < 2 ^ k ∧ S.length = n + 4 ∧ numLE S = numLE S0 ^^^ (2 ^ f * B) ∧
      wr.ownsRow w.heap.size 5 1 (.slice (some ⟨g, 0, none⟩) (n + 4) cap) (n + 4) (bv S) ∧ w2.grownBy wr (some g)) (fun _ i _ _ => 32 - (intOf i).toNat)
  case atStart => exact ⟨0, 0, S0, false, by omega, rfl, rfl, by simp, by simp, HL0.out, by simp, own_base HM0.out (by simp), World.grownBy.refl _ _⟩
  case round =>
    obtain ⟨k, B, S, tb, hk, rfl, rfl, htb, hB, hSl, hSn, hown, hgr⟩ := hrel
    have HTB := Lib.hid htb
    have HBl := Lib.hid hB
    have HSl := Lib.hid hSl
    have HSn := Lib.hid hSn
    have HOW := Lib.hid hown
    have HG := Lib.hid hgr
    have hx := HX2.out.grown hgr hgb'
    have hcf := hx.1
    have hcb := hx.2
    clear htb hB hSl hSn hown hgr hx
    have hbd : (0 : Int) ≤ (b : Int) / 2 ^ k := Int.ediv_nonneg (by omega) (by exact_mod_cast Nat.zero_le _)
    by_cases hlt : k < 32
    · by_cases hbit : ((b : Int) / 2 ^ k % 2 == 1) = true
      · by_cases hat : (f : Int) + (k : Int) < 8 * ((n : Int) + 4)
        · have hq : (f + k) / 8 < n + 4 := by omega
          have hc := HOW.out.cellAt ((f + k) / 8) (by omega)
          have hf' := HOW.out.frozenAt ((f + k) / 8)
          rw [bv_get, List.getElem?_eq_getElem (by rw [HSl.out]; exact hq)] at hc
          simp only [Option.map_some] at hc
          have hd1 : ((f : Int) + (k : Int)).tdiv 8 = (((f + k) / 8 : Nat) : Int) := by rw [Int.tdiv_eq_ediv_of_nonneg (by omega)]; omega
          have hd2 : ((f : Int) + (k : Int)).tmod 8 = (((f + k) % 8 : Nat) : Int) := by rw [Int.tmod_eq_emod_of_nonneg (by omega)]; omega
          have hr8 : (f + k) % 8 < 8 := Nat.mod_lt _ (by omega)
          obtain ⟨q, hqe⟩ : ∃ q, q = (f + k) / 8 := ⟨_, rfl⟩
          obtain ⟨r, hre⟩ : ∃ r, r = (f + k) % 8 := ⟨_, rfl⟩
          rw [← hqe] at hd1 hq hf'
          rw [← hre] at hd2 hr8
          have hc' : wr.cell? ⟨g, q, none⟩ = some (.int .u8 ((S[q]'(by rw [HSl.out]; exact hq)).toNat : Int)) := by subst hqe; exact hc
          have hw1 : IntKind.i64.wrap (q : Int) = (q : Int) := wrap_i64_of _ (by omega) (by omega)
          have hw2 : IntKind.i64.wrap (r : Int) = (r : Int) := wrap_i64_of _ (by omega) (by omega)
          have HQ := Lib.hid hqe
          have HR8 := Lib.hid hre
          have hi0 : (0 : Int) ≤ (q : Int) := by omega
          have hi1 : (q : Int) < (n : Int) + 4 := by omega
          have hi2 : (q : Int) < ((n + 4 : Nat) : Int) := by omega
          have hi3 : (0 : Int) ≤ (r : Int) := by omega
          have hi4 : (r : Int) < 8 := by omega
          clear hc hqe hre
          go_wp2
          go_still_tail 13, (by kernel_rfl)
          change wpList _ _ _ _ _ wr.drew
          obtain ⟨y, hy⟩ : ∃ y, y = (S[q]'(by rw [HSl.out]; exact hq)) ^^^ UInt8.ofNat (2 ^ r) := ⟨_, rfl⟩
          have hxv := xor_u8 (S[q]'(by rw [HSl.out]; exact hq)) r hr8
          rw [← hy] at hxv
          have HY := Lib.hid hy
          clear hy
          have hfd : wr.drew.frozen? ⟨g, q, none⟩ = false := hf'
          have hcd : wr.drew.cell? ⟨g, q, none⟩ = some (.int .u8 ((S[q]'(by rw [HSl.out]; exact hq)).toNat : Int)) := hc'
          clear hd1 hd2 hw1 hw2
          go_wp2
          go_roundw
          case rel =>
            have hqS : q < S.length := by rw [HSl.out]; exact hq
            have h1 := (show wr.drew.ownsRow w.heap.size 5 1 (.slice (some ⟨g, 0, none⟩) (n + 4) cap) (n + 4) (bv S) from HOW.out).stored q (.int .u8 (y.toNat : Int))
            rw [bv_set S q y hqS] at h1
            refine ⟨k + 1, 2 ^ k + B, S.set q y, true, by omega, by go_num, rfl, ?_, ?_, by rw [List.length_set]; exact HSl.out, ?_, ?_, ?_⟩
            · have : 0 < 2 ^ k := Nat.pow_pos (by omega)
              simp
            · have := HBl.out
              rw [Nat.pow_succ]
              omega
            · rw [HY.out, numLE_set S q _ hqS, HSn.out, u8_pow r hr8, HQ.out, HR8.out, bit_at, Nat.xor_assoc, burst_more f k B HBl.out]
            · exact h1.1
            · exact grow_trans (grow_drew HG.out) h1.2
          case measure => simp [intOf]; omega
        · have hat' : ¬ (f : Int) + (k : Int) < 8 * ((n : Int) + 4) := hat
          clear hat
          go_wp2
          go_roundw
          case rel => exact ⟨k + 1, B, S, tb, by omega, by go_num, rfl, HTB.out, by have := HBl.out; rw [Nat.pow_succ]; omega, HSl.out, HSn.out, HOW.out, HG.out⟩
          case measure => simp [intOf]; omega
      · have hbit' : ((b : Int) / 2 ^ k % 2 == 1) = false := by simpa using hbit
        clear hbit
        go_wp2
        go_roundw
        case rel => exact ⟨k + 1, B, S, tb, by omega, by go_num, rfl, HTB.out, by have := HBl.out; rw [Nat.pow_succ]; omega, HSl.out, HSn.out, HOW.out, HG.out⟩
        case measure => simp [intOf]; omega
    · obtain rfl : k = 32 := by omega
      have hBr := below_grow HB2.out HG.out (by omega) HB2.out.size
      have hok := okB_burst S0 S f B (by rw [HL0.out]; omega) (by rw [HSl.out, HL0.out]) (by rw [HS0.out]; exact okB_seal l) HSn.out (by rw [HL0.out]; exact hf2) HBl.out
      have hse := sealed_either (some ⟨g, 0, none⟩) (n + 4) cap S wr HSl.out hcap (Rd.of_own HOW.out) (by omega)
      have HBr := Lib.hid hBr
      cases tb
      · have hB0 : B = 0 := by
          have := HTB.out
          simp at this
          exact this
        have hok2 : okB S = true := by rw [hok, hB0]; rfl
        rw [hok2] at hse
        have HSE2 := Lib.hid hse
        clear hse hok hok2 hBr
        go_wp2_with fail
        refine HSE2.out.mono ?_
        rintro e w3 ⟨v3, rfl, hown3, hb3⟩
        have HB3 := Lib.hid (HBr.out.trans (hb3.mono HBr.out.size))
        clear hown3 hb3
        go_wp2_with (go_at_call 11; refine (works_any _).mono ?_; rintro e w9 ⟨rfl, hb9⟩)
        go_ret
        exact ⟨rfl, HB3.out.trans (hb9.mono HB3.out.size)⟩
      · have hB0 : B ≠ 0 := HTB.out.1 rfl
        have hok2 : okB S = false := by rw [hok]; exact decide_eq_false hB0
        have hol : outL S = [] := by unfold outL; rw [hok2]; rfl
        rw [hok2, hol] at hse
        have HSE2 := Lib.hid hse
        clear hse hok hok2 hol hBr hB0
        go_wp2_with fail
        refine HSE2.out.mono ?_
        rintro e w3 ⟨v3, rfl, hown3, hb3⟩
        obtain ⟨Z, cz, rfl, _⟩ := own_slice hown3
        have HB3 := Lib.hid (HBr.out.trans (hb3.mono HBr.out.size))
        clear hown3 hb3
        go_wp2_with (go_at_call 11; refine (works_any _).mono ?_; rintro e w9 ⟨rfl, hb9⟩)
        go_ret
        exact ⟨rfl, HB3.out.trans (hb9.mono HB3.out.size)⟩
theorem walk (w : World) (A : Option Addr) (n c : Nat) (zs : List Int) (r0 : IsRow .u8 w A n c zs) (f : Int) (_f0 : (Lit.int .i64 f).wf = true) (b : Int) (f1 : (Lit.int .u32 b).wf = true) :
    Calls Try.prog 10 #[.slice A n c, .agg #[.int .i64 f, .int .u32 b]] w fun e w' => e = .returned (.bool true) ∧ Below w.heap.size w w' := by
  obtain ⟨l, hn, _, hr⟩ := row_bytes r0
  have hb := wf_u32 f1
  by_cases hs : 3000 < n
  · exact walk_long A n c f b w hs
  · by_cases h0 : f < 0
    · exact walk_less A n c l f b w (by omega) hn hr h0
    · by_cases h1 : 8 * ((n : Int) + 4) < f
      · exact walk_more A n c l f b w (by omega) hn hr h0 h1
      · obtain ⟨F, rfl⟩ := Int.eq_ofNat_of_zero_le (show 0 ≤ f by omega)
        obtain ⟨B, rfl⟩ := Int.eq_ofNat_of_zero_le hb.1
        exact walk_ok A n c l F B w (by omega) hn hr (by omega) (by omega)
set_option maxRecDepth 100000 in
theorem lifted (os : Os) (started : os.Started) (H : Type) (enc : TypeId × Value → H) :
    ReturnsInHanded {} Try.checked os 10 .any (Rows.sumsSpoiltSpec.pre6 enc Try.prog Try.f10 Rows.sumsSpoiltRow.domain false) (Rows.sumsSpoiltSpec.post enc Try.prog Try.f10 false true false false) := by
  refine returnsInHanded_of_change (C := Try.checked) own started (by kernel_rfl) Try.func10
    (ChangeSpec.witness6 (enc := enc) (C := Try.checked) false ⟨#[], #[.slice none 0 0, .agg #[.int .i64 0, .int .u32 0]], []⟩ 8 (by kernel_rfl) (by kernel_rfl) (by kernel_rfl) (by kernel_rfl)) ?_
  intro W base args ds gs before hval0 hW hcnd _
  have hval : ∀ (j : Nat) t v, Try.f10.params[j]? = some t → args[j]? = some v → Value.okWide Try.prog W .any base t v := hval0
  have hW' := hW
  obtain ⟨p, q, hA0, hV, rfl, hfz, hnd⟩ := hW
  have hA : DataW.TrodAll enc Try.prog W 0 (fun _ => true) true Try.f10.params.toList args.toList ds p := hA0
  rw [Try.params10] at hA hval
  obtain ⟨v0, vs0, d0, ds0, p0, q0, hargs, rfl, rfl, h0, t0⟩ := trodAll_cons hA
  obtain ⟨v1, vs1, d1, ds1, p1, q1, rfl, rfl, rfl, h1, t1⟩ := trodAll_cons t0
  obtain ⟨rfl, rfl, rfl⟩ := trodAll_nil t1
  obtain rfl : args = #[v0, v1] := by cases args; simp_all
  obtain ⟨rfl, rfl⟩ := trodVars_none hV
  obtain ⟨a0, len0, cap0, rfl⟩ := okWide_slice Try.underlying22 (hval 0 22 v0 rfl rfl)
  have k0 := h0
  have lt0 : ∀ x ∈ p0, x.block < W.heap.size := by obtain ⟨m, hm⟩ := k0; exact DataW.trod_lt m _ _ _ hm
  obtain ⟨z0, r0⟩ : ∃ zs, IsRow .u8 W a0 len0 cap0 zs := by
    obtain ⟨fuel, hf⟩ := h0
    rcases open_ints Try.underlying22 Try.underlying5 (by kernel_rfl) hf with ⟨hcs, _⟩ | ⟨x, l, c, zs, hcs, _, hl, hm, hz, _, hcell, hwz⟩
    · simp [Value.cells] at hcs
      obtain ⟨rfl, rfl, rfl⟩ := hcs
      exact ⟨[], .inl ⟨rfl, rfl, rfl, rfl⟩⟩
    · simp [Value.cells] at hcs
      obtain ⟨rfl, rfl, rfl⟩ := hcs
      exact ⟨zs, .inr ⟨_, rfl, hl, hm, by simpa using hz, hcell, hwz⟩⟩
  obtain ⟨c0, c1, y0, y1, m1, rfl, rfl, rfl, hy0, hy1⟩ := Joins.open_agg2 Try.underlying44 (by kernel_rfl) (by kernel_rfl) (hval 1 44 v1 rfl rfl) h1
  obtain ⟨a1, e0, rfl, f1⟩ := DataW.trod_int Try.underlying3 hy0
  obtain ⟨b1, e1, rfl, g1⟩ := DataW.trod_int Try.underlying24 hy1
  simp at e0 e1
  subst e0 e1
  have reads1 : ∀ (W' : World) (sp : Nat → Bool), DataW.Trod enc Try.prog W' 0 sp true 44 (.agg #[.int .i64 a1, .int .u32 b1]) (.agg [.lit (.int .i64 a1), .lit (.int .u32 b1)]) [] := fun W' sp =>
    Joins.shut_agg2 (y0 := (.lit (.int .i64 a1), [])) (y1 := (.lit (.int .u32 b1), [])) Try.underlying44 (by kernel_rfl) (by kernel_rfl) ⟨1, by simp [DataW.trod, Try.underlying3, f1]⟩ ⟨1, by simp [DataW.trod, Try.underlying24, g1]⟩
  clear hA0 hval0
  refine (walk W a0 len0 cap0 z0 r0 a1 f1 b1 g1).mono fun e W' ⟨he, bel⟩ => ?_
  subst he
  exact ⟨_, rfl, _, _, _, [], _, [], hW', trodAll_mk1 (shut_bool Try.underlying4 _), (trodAll_cons_mk (Below.trod laidOut (by kernel_rfl) (of_decide_eq_true (by kernel_rfl)) k0 bel lt0) (trodAll_cons_mk (reads1 W' _) trodAll_mk0)), rfl, bel.frame _, fun h => by cases h⟩
theorem over : Rows.sumsSpoiltRow.holds Try.pinned (OpenSpec.ofChange Rows.sumsSpoiltSpec) :=
  OpenClaim.holds_of_wide 10 Try.f10 rfl rfl rfl rfl rfl rfl rfl ⟨rfl, rfl, rfl, rfl, rfl⟩ rfl rfl rfl rfl rfl (by kernel_rfl) Try.func10 (by kernel_rfl)
    (of_decide_eq_true (by kernel_rfl)) (by unfold Func.isWrapper; first | (rw [if_pos (by decide +kernel)]; kernel_rfl) | (rw [if_neg (by decide +kernel)]; exact ⟨rfl, rfl⟩))
    (fun os started H enc _ => lifted os started H enc)
theorem proved : Rows.SumsSpoiltSaid := over
end Go.Proofs.Ytgpggodabalakaa.sumsSpoilt

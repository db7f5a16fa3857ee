/- The document's own answer for keys' bytes: low, number, signed, unsigned. -/
import Derived.Test.YtjfpmadnlpcpfaaDoorZT
import Derived.Test.YtjfpmadnlpcpfaaDoorZB
import Derived.Test.YtjfpmadnlpcpfaaDoorZC
import Derived.Test.YtjfpmadnlpcpfaaDoorORchk
namespace Go.Proofs.YtjfpmadnlpcpfaaDoor
open Go.RowKit
set_option maxRecDepth 8000 in
set_option maxHeartbeats 800000 in
theorem low_any (N k : Nat) (w : World) (hN : N < 18446744073709551616) (hk8 : k ≤ 8) :
    Calls Tryd.prog 28 #[.int .u64 (N : Int), .int .i64 (k : Int)] w fun e w' => ∃ v, e = .returned v ∧ w'.ownsRow w.heap.size 5 1 v k (bv (bytesLE k N)) ∧ Below w.heap.size w w' := by
  go_enter Tryd.func28, Tryd.ntmps28
  go_wp2_with fail
  go_loopw [0, 5, 6] (fun m v i wr => ∃ j : Nat, j ≤ k ∧ i = .int .i64 j ∧ m = .int .u64 ((N / 256 ^ j : Nat) : Int) ∧ wr.ownsRow w.heap.size 5 1 v j (bv (bytesLE j N)) ∧ Below w.heap.size w wr) (fun _ _ i _ => k - (intOf i).toNat)
  case atStart => exact ⟨0, by omega, rfl, by simp, World.ownsRow_nil _ _ _ _, Below.refl _ _⟩
  case round =>
    obtain ⟨j, hj, rfl, rfl, hown, hbel⟩ := hrel
    by_cases hlt : j < k
    · obtain ⟨M, hM⟩ : ∃ M, M = N / 256 ^ j := ⟨_, rfl⟩
      rw [← hM]
      have hMN : M < 18446744073709551616 := by
        have : M ≤ N := by rw [hM]; exact Nat.div_le_self _ _
        omega
      have hwr := hbel.size
      have HM := Lib.hid hM
      have HB := Lib.hid hbel
      clear hM hbel hN
      go_wp2_with (at_builtin; refine wpList_append_bytes _ rfl _ _ _ rfl Tryd.underlying26 infoU8 rfl (hown.alloc _) rfl (rd_new _ (UInt8.ofNat (M % 256)) _ (u8_mod M)) rfl (by omega) (by simp; omega) ?_; intro v' w1 hown1 hg1 hat1)
      have hM := HM.out
      have hb1 := below_append (HB.out.alloc hwr _) (hown.alloc (.cells #[.int .u8 ((M : Int) % 256)] 5)) hg1 (Nat.le_refl _) (by simp; omega)
      have e1 : N / 256 ^ (j + 1) = M / 256 := by rw [hM, Nat.div_div_eq_div_mul, Nat.pow_succ]
      have e2 : bytesLE (j + 1) N = bytesLE j N ++ [UInt8.ofNat (M % 256)] := by rw [bytesLE_snoc, hM]
      clear hM
      go_roundw
      case rel => exact ⟨j + 1, by omega, by go_num, by rw [e1]; simp, by rw [e2]; exact hown1, hb1⟩
      case measure => simp [intOf]; omega
    · obtain rfl : j = k := by omega
      go_wp2
      go_ret
      exact ⟨_, rfl, hown, hbel⟩
set_option maxRecDepth 8000 in
set_option maxHeartbeats 400000 in
theorem rnumber_any (b off n c : Nat) (l : List UInt8) (w : World) (hn : l.length = n) (hr : Rd w (some ⟨b, off, none⟩) l) (h8 : n ≤ 8) :
    Calls Tryd.prog 32 #[.slice (some ⟨b, off, none⟩) n c] w fun e w' => e = .returned (.int .u64 (numLE l : Int)) ∧ w = w' := by
  have HN := Lib.hid hn
  have HR := Lib.hid hr
  clear hr hn
  go_enter Tryd.func32, Tryd.ntmps32
  go_wp2_with fail
  go_loop [3, 4] (fun v i => ∃ k : Nat, k ≤ n ∧ i = .int .i64 ((k : Int) - 1) ∧ v = .int .u64 (numLE (l.drop k) : Int)) (fun _ i => ((intOf i) + 1).toNat)
  case atStart => exact ⟨n, by omega, by go_num, by rw [List.drop_of_length_le (by have := HN.out; omega)]; rfl⟩
  case round =>
    obtain ⟨k, hk, rfl, rfl⟩ := hrel
    by_cases hk0 : 0 < k
    · obtain ⟨j, rfl⟩ : ∃ j, k = j + 1 := ⟨k - 1, by omega⟩
      have hjl : j < l.length := by have := HN.out; omega
      obtain ⟨b', off', e, hc⟩ := HR.out j hjl
      injection e with e
      injection e with e1 e2
      subst e1; subst e2
      have hstep := numLE_drop l j hjl
      have hlt := numLE_lt (l.drop j)
      have hpow : (256 : Nat) ^ (l.drop j).length ≤ 256 ^ 8 := Nat.pow_le_pow_right (by omega) (by rw [List.length_drop]; have := HN.out; omega)
      obtain ⟨x, hx⟩ : ∃ x, x = l[j]'hjl := ⟨_, rfl⟩
      rw [← hx] at hc hstep
      have hxl := x.toNat_lt
      obtain ⟨M, hM⟩ : ∃ M, M = numLE (l.drop (j + 1)) := ⟨_, rfl⟩
      rw [← hM] at hstep ⊢
      have hMb : x.toNat + 256 * M < 18446744073709551616 := by omega
      have HS := Lib.hid hstep
      clear hstep hlt hpow hx hM
      go_wp2
      go_round
      case rel => exact ⟨j, by omega, rfl, by rw [HS.out]; go_num⟩
      case measure => simp [intOf]
    · obtain rfl : k = 0 := by omega
      go_wp2
      go_ret
      exact ⟨by simp, rfl⟩
set_option maxRecDepth 8000 in
theorem unsigned_any (v : Int) (w : World) (h0 : -9223372036854775808 ≤ v) (h1 : v ≤ 9223372036854775807) :
    Calls Tryd.prog 29 #[.int .i64 v] w fun e w' => e = .returned (.int .u64 (un v : Int)) ∧ w = w' := by
  have hu := wrap_un v
  have hul := un_lt v
  by_cases hn : v < 0
  · have e : un v = (18446744073709551616 + v).toNat := by unfold un; omega
    have hm1 : wrap64 (v + 1) = v + 1 := by unfold wrap64; omega
    go_enter Tryd.func29, Tryd.ntmps29
    go_wp2
    go_ret
    exact ⟨congrArg (fun x => Ending.returned (.int .u64 x)) (show 18446744073709551615 + (v + 1) = (un v : Int) by omega), rfl⟩
  · go_enter Tryd.func29, Tryd.ntmps29
    go_wp2
    go_ret
    exact ⟨rfl, rfl⟩
set_option maxRecDepth 8000 in
theorem rsigned_any (u : Nat) (w : World) (h : u < 18446744073709551616) :
    Calls Tryd.prog 33 #[.int .u64 (u : Int)] w fun e w' => e = .returned (.int .i64 (sg u)) ∧ w = w' := by
  by_cases hn : u < 9223372036854775808
  · have hs : sg u = (u : Int) := if_pos hn
    have hlt : ¬ (9223372036854775808 : Int) ≤ (u : Int) := by omega
    go_enter Tryd.func33, Tryd.ntmps33
    go_wp2
    go_ret
    exact ⟨rfl, rfl⟩
  · have hs : sg u = (u : Int) - 18446744073709551616 := if_neg hn
    have hlt : (9223372036854775808 : Int) ≤ (u : Int) := by omega
    go_enter Tryd.func33, Tryd.ntmps33
    go_wp2
    go_ret
    exact ⟨congrArg (fun x => Ending.returned (.int .i64 x)) (show -(18446744073709551615 - (u : Int)) - 1 = sg u by omega), rfl⟩
end Go.Proofs.YtjfpmadnlpcpfaaDoor
namespace Go.Proofs.YtjfpmadnlpcpfaaDoor
open Go.RowKit
theorem low_2 (N : Nat) (w : World) (hN : N < 18446744073709551616) : Calls Tryd.prog 28 #[.int .u64 (N : Int), .int .i64 2] w fun e w' => ∃ v, e = .returned v ∧ w'.ownsRow w.heap.size 5 1 v 2 (bv (bytesLE 2 N)) ∧ Below w.heap.size w w' := low_any N 2 w hN (by omega)
theorem low_4 (N : Nat) (w : World) (hN : N < 18446744073709551616) : Calls Tryd.prog 28 #[.int .u64 (N : Int), .int .i64 4] w fun e w' => ∃ v, e = .returned v ∧ w'.ownsRow w.heap.size 5 1 v 4 (bv (bytesLE 4 N)) ∧ Below w.heap.size w w' := low_any N 4 w hN (by omega)
theorem low_8 (N : Nat) (w : World) (hN : N < 18446744073709551616) : Calls Tryd.prog 28 #[.int .u64 (N : Int), .int .i64 8] w fun e w' => ∃ v, e = .returned v ∧ w'.ownsRow w.heap.size 5 1 v 8 (bv (bytesLE 8 N)) ∧ Below w.heap.size w w' := low_any N 8 w hN (by omega)
set_option maxRecDepth 8000 in
theorem own_below {w w' : World} {base n : Nat} {e : TypeId} {v : Value} {xs : List Value} (h : w.ownsRow base e 1 v n xs) (hb : Below w.heap.size w w') : w'.ownsRow base e 1 v n xs := by
  refine h.kept (row := none) ⟨hb.os, hb.tape, hb.output, hb.size, fun k hk _ => hb.block k hk⟩ ?_
  cases hv : v.ownBlock with
  | none => exact .inl rfl
  | some k => exact .inr (by simp)
theorem lit2 (w : World) (x y : UInt8) : (w.alloc (.cells #[.int .u8 (x.toNat : Int), .int .u8 (y.toNat : Int)] 5)).ownsRow w.heap.size 5 1 (.slice (some ⟨w.heap.size, 0, none⟩) 2 2) 2 (bv [x, y]) :=
  World.ownsRow_lit w #[.int .u8 (x.toNat : Int), .int .u8 (y.toNat : Int)] 2 (Nat.le_refl _) (by simp only [maxLen]; omega) rfl
set_option maxRecDepth 8000 in
theorem wrap_u64n (N : Nat) (h : N < 18446744073709551616) : IntKind.u64.wrap (N : Int) = (N : Int) := by
  rw [wrap_un]
  unfold un
  omega
set_option maxRecDepth 8000 in
theorem rputkey_no (x : Ky) (h : ¬ x.ok) (w : World) :
    Calls Tryd.prog 12 #[x.val] w fun e w' => e = .returned (.tuple #[.slice none 0 0, .int .i64 2]) ∧ Below w.heap.size w w' := by
  have hc := x.chk_no h
  have HX := Lib.hid hc
  have HB := Lib.hid ((Below.refl w.heap.size w).alloc (Nat.le_refl _) (.cells (kc x.k x.o x.c x.l x.r x.v) 25))
  obtain ⟨c0, c1, c2, c3, c4, c5⟩ := (Blk.new w 25 (kc x.k x.o x.c x.l x.r x.v)).six
  clear hc h
  go_enter Tryd.func12, Tryd.ntmps12
  go_wp2_with (go_at_call 27; refine (rchk_any x _).mono ?_; rw [HX.out]; rintro e w1 ⟨rfl, hb⟩; have B1 := Lib.hid (HB.out.trans (hb.mono HB.out.size)); clear hb)
  go_ret2
  exact ⟨rfl, B1.out⟩
set_option maxRecDepth 8000 in
set_option maxHeartbeats 1000000 in
theorem rputkey_yes0 (kb rb : UInt8) (on cn ln : Nat) (v : Int) (ho : on < 65536) (hc : cn < 4294967296) (hl : ln < 4294967296) (h0 : -9223372036854775808 ≤ v) (h1 : v ≤ 9223372036854775807) (hok : Ky.ok ⟨kb.toNat, on, cn, ln, rb.toNat, v⟩) (w : World) :
    Calls Tryd.prog 12 #[Ky.val ⟨kb.toNat, on, cn, ln, rb.toNat, v⟩] w fun e w' => ∃ u, e = .returned (.tuple #[u, .int .i64 0]) ∧ w'.ownsRow w.heap.size 5 1 u 20 (bv (((([kb, rb] ++ bytesLE 2 on) ++ bytesLE 4 cn) ++ bytesLE 4 ln) ++ bytesLE 8 (un v))) ∧ Below w.heap.size w w' := by
  have HX := Lib.hid (Ky.chk_yes hok)
  have hbx := Blk.new w 25 (kc kb.toNat on cn ln rb.toNat v)
  have HB := Lib.hid ((Below.refl w.heap.size w).alloc (Nat.le_refl _) (.cells (kc kb.toNat on cn ln rb.toNat v) 25))
  have HK := Lib.hid hbx
  obtain ⟨c0, c1, c2, c3, c4, c5⟩ := hbx.six
  have e1 := wrap_u8 kb
  have e2 := wrap_u8 rb
  have e3 := wrap_u64n on (by omega)
  have e4 := wrap_u64n cn (by omega)
  have e5 := wrap_u64n ln (by omega)
  have HN := Lib.hid (show on < 18446744073709551616 ∧ cn < 18446744073709551616 ∧ ln < 18446744073709551616 by omega)
  have HV := Lib.hid (And.intro h0 h1)
  have HU := Lib.hid (un_lt v)
  have M1 := Lib.hid True.intro
  have M2 := Lib.hid True.intro
  have M3 := Lib.hid True.intro
  have M4 := Lib.hid True.intro
  clear hok hbx ho hc hl h0 h1
  go_enter Tryd.func12, Tryd.ntmps12
  go_wp2_with (first
    | (go_at_call 27; refine (rchk_any ⟨kb.toNat, on, cn, ln, rb.toNat, v⟩ _).mono ?_; rw [HX.out]; rintro e w1 ⟨rfl, hb⟩; obtain ⟨c0, c1, c2, c3, c4, c5⟩ := (Blk.keep HK.out hb).six; have K1 := Lib.hid (Blk.keep HK.out hb); have B1 := Lib.hid (HB.out.trans (hb.mono HB.out.size)); have O0 := Lib.hid (own_base (lit2 w1 kb rb) (show w.heap.size + 1 ≤ w1.heap.size from Blk.lt K1.out)); have B0 := Lib.hid (B1.out.alloc B1.out.size (.cells #[.int .u8 (kb.toNat : Int), .int .u8 (rb.toNat : Int)] 5)); have K0 := Lib.hid (Blk.alloc K1.out (.cells #[.int .u8 (kb.toNat : Int), .int .u8 (rb.toNat : Int)] 5)); obtain ⟨d0, d1, d2, d3, d4, d5⟩ := Blk.six K0.out; clear hb HK HB)
    | (go_at_call 28; clear M1; refine (low_2 on _ HN.out.1).mono ?_; rintro e u1 ⟨v1, rfl, ho, hb⟩; obtain ⟨D1, k1, rfl, -, -, -, hr, -⟩ := own_cell (by decide) ho; have R1 := Lib.hid hr; have P1 := Lib.hid (own_below O0.out hb); have C1 := Lib.hid (B0.out.trans (hb.mono B0.out.size)); have Q1 := Lib.hid (Blk.keep K0.out hb); have hsz1 : w.heap.size + 1 ≤ _ := Blk.lt Q1.out; clear ho hb hr O0 K0 c0 c1 c2 c3 c4 c5 d0 d1 d2 d3 d4 d5)
    | (at_builtin; refine wpList_append_bytes _ rfl _ _ _ rfl Tryd.underlying26 infoU8 rfl P1.out rfl R1.out (bytesLE_length 2 on) (by omega) hsz1 ?_; intro z1 x1 ho hg ht; have hb := below_append C1.out P1.out hg (Nat.le_succ _) (Nat.le_of_succ_le hsz1); have hk := (hg.block _ (Blk.lt Q1.out) (fun e => by have := (World.ownsRow.lt P1.out _ e.symm).1; omega)).trans Q1.out; obtain ⟨c0, c1, c2, c3, c4, c5⟩ := Blk.six hk; have O1 := Lib.hid ho; have B1 := Lib.hid hb; have K1 := Lib.hid hk; clear ho hg ht hb hk P1 C1 Q1 R1)
    | (go_at_call 28; clear M2; refine (low_4 cn _ HN.out.2.1).mono ?_; rintro e u2 ⟨v2, rfl, ho, hb⟩; obtain ⟨D2, k2, rfl, -, -, -, hr, -⟩ := own_cell (by decide) ho; have R2 := Lib.hid hr; have P2 := Lib.hid (own_below O1.out hb); have C2 := Lib.hid (B1.out.trans (hb.mono B1.out.size)); have Q2 := Lib.hid (Blk.keep K1.out hb); have hsz2 : w.heap.size + 1 ≤ _ := Blk.lt Q2.out; clear ho hb hr O1 K1 c0 c1 c2 c3 c4 c5)
    | (at_builtin; refine wpList_append_bytes _ rfl _ _ _ rfl Tryd.underlying26 infoU8 rfl P2.out rfl R2.out (bytesLE_length 4 cn) (by omega) hsz2 ?_; intro z2 x2 ho hg ht; have hb := below_append C2.out P2.out hg (Nat.le_succ _) (Nat.le_of_succ_le hsz2); have hk := (hg.block _ (Blk.lt Q2.out) (fun e => by have := (World.ownsRow.lt P2.out _ e.symm).1; omega)).trans Q2.out; obtain ⟨c0, c1, c2, c3, c4, c5⟩ := Blk.six hk; have O2 := Lib.hid ho; have B2 := Lib.hid hb; have K2 := Lib.hid hk; clear ho hg ht hb hk P2 C2 Q2 R2)
    | (go_at_call 28; clear M3; refine (low_4 ln _ HN.out.2.2).mono ?_; rintro e u3 ⟨v3, rfl, ho, hb⟩; obtain ⟨D3, k3, rfl, -, -, -, hr, -⟩ := own_cell (by decide) ho; have R3 := Lib.hid hr; have P3 := Lib.hid (own_below O2.out hb); have C3 := Lib.hid (B2.out.trans (hb.mono B2.out.size)); have Q3 := Lib.hid (Blk.keep K2.out hb); have hsz3 : w.heap.size + 1 ≤ _ := Blk.lt Q3.out; clear ho hb hr O2 K2 c0 c1 c2 c3 c4 c5)
    | (at_builtin; refine wpList_append_bytes _ rfl _ _ _ rfl Tryd.underlying26 infoU8 rfl P3.out rfl R3.out (bytesLE_length 4 ln) (by omega) hsz3 ?_; intro z3 x3 ho hg ht; have hb := below_append C3.out P3.out hg (Nat.le_succ _) (Nat.le_of_succ_le hsz3); have hk := (hg.block _ (Blk.lt Q3.out) (fun e => by have := (World.ownsRow.lt P3.out _ e.symm).1; omega)).trans Q3.out; obtain ⟨c0, c1, c2, c3, c4, c5⟩ := Blk.six hk; have O3 := Lib.hid ho; have B3 := Lib.hid hb; have K3 := Lib.hid hk; clear ho hg ht hb hk P3 C3 Q3 R3)
    | (go_at_call 29; refine (unsigned_any v _ HV.out.1 HV.out.2).mono ?_; rintro e u9 ⟨rfl, rfl⟩)
    | (go_at_call 28; clear M4; refine (low_8 (un v) _ HU.out).mono ?_; rintro e u4 ⟨v4, rfl, ho, hb⟩; obtain ⟨D4, k4, rfl, -, -, -, hr, -⟩ := own_cell (by decide) ho; have R4 := Lib.hid hr; have P4 := Lib.hid (own_below O3.out hb); have C4 := Lib.hid (B3.out.trans (hb.mono B3.out.size)); have Q4 := Lib.hid (Blk.keep K3.out hb); have hsz4 : w.heap.size + 1 ≤ _ := Blk.lt Q4.out; clear ho hb hr O3 K3 c0 c1 c2 c3 c4 c5)
    | (at_builtin; refine wpList_append_bytes _ rfl _ _ _ rfl Tryd.underlying26 infoU8 rfl P4.out rfl R4.out (bytesLE_length 8 (un v)) (by omega) hsz4 ?_; intro z4 x4 ho hg ht; have hb := below_append C4.out P4.out hg (Nat.le_succ _) (Nat.le_of_succ_le hsz4); have hk := (hg.block _ (Blk.lt Q4.out) (fun e => by have := (World.ownsRow.lt P4.out _ e.symm).1; omega)).trans Q4.out; obtain ⟨c0, c1, c2, c3, c4, c5⟩ := Blk.six hk; have O4 := Lib.hid ho; have B4 := Lib.hid hb; have K4 := Lib.hid hk; clear ho hg ht hb hk P4 C4 Q4 R4))
  go_ret2
  exact ⟨_, rfl, own_base O4.out (Nat.le_succ _), B4.out⟩
end Go.Proofs.YtjfpmadnlpcpfaaDoor

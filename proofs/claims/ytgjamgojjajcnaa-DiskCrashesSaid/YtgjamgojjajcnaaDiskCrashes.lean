/- The law DiskCrashes returns true for every input: what a crash leaves. No condition. -/
import Derived.Test.YtgjamgojjajcnaaQ35
import Derived.Test.YtgjamgojjajcnaaQ15
import Derived.Test.YtgjamgojjajcnaaQ31
import Derived.Test.YtgjamgojjajcnaaQ10
import Derived.Test.YtgjamgojjajcnaaQ25
namespace Go.Proofs.Ytgjamgojjajcnaa.diskCrashes
open Go.ChangeShapes Go.WideShapes Go.ChangeAt Go.RowKit
attribute [local go_sem] Oper.semAt_some
attribute [local go_sem] run_store_bv run_store_wc run_store_bv_drew run_store_wc_drew
set_option maxRecDepth 8000 in
theorem zeroA : (Try.prog.info? 28).map (fun i => (i.zero, i.size)) = some (some (.agg #[.int .i64 0, .int .i64 0, .int .i64 0, .int .u8 0, .slice none 0 0, .slice none 0 0, .int .i64 0, .int .i64 0]), 8) := by kernel_rfl
theorem zA (w : World) : (zeroValue 28).run Try.prog w = .ok (.agg #[.int .i64 0, .int .i64 0, .int .i64 0, .int .u8 0, .slice none 0 0, .slice none 0 0, .int .i64 0, .int .i64 0]) w := (zero_of_info zeroA).1 w
set_option maxRecDepth 8000 in
theorem zeroC : (Try.prog.info? 26).map (fun i => (i.zero, i.size)) = some (some (.agg #[.slice none 0 0, .int .i64 0, .int .i64 0]), 3) := by kernel_rfl
theorem zC (w : World) : (zeroValue 26).run Try.prog w = .ok (.agg #[.slice none 0 0, .int .i64 0, .int .i64 0]) w := (zero_of_info zeroC).1 w
set_option maxRecDepth 8000 in
theorem act_ones (x : Ac) : x.cs.toArray.all (·.oneCell') = true := by simp [Value.oneCell']
set_option maxRecDepth 8000 in
theorem act_size (x : Ac) : (Try.prog.info? 28).map (·.size) = some x.cs.toArray.size := by kernel_rfl
set_option maxRecDepth 100000 in
set_option maxHeartbeats 1000000 in
theorem walk_size (w : World) (s : Int) (A : Option Addr) (n c : Nat) (SA : Option Addr) (sl sc : Nat) (KA : Option Addr) (kc : Nat) (cr : Cr) (h : (s < 1 ∨ 12 < s) ∨ 3000 < n) :
    Calls Try.prog 6 #[.int .i64 s, .slice A n c, .slice SA sl sc, .agg #[.slice KA cr.keep.length kc, .int .i64 cr.torn, .int .i64 cr.bytes]] w fun e w' => e = .returned (.bool true) ∧ Below w.heap.size w w' := by
  have B0 := Lib.hid ((Below.refl w.heap.size w).alloc (Nat.le_refl _) (.cells #[.slice KA cr.keep.length kc, .int .i64 cr.torn, .int .i64 cr.bytes] 26))
  by_cases h0 : s < 1 ∨ 12 < s
  · clear h
    go_enter Try.func6, Try.ntmps6
    go_wp2_with (first
      | (go_at_call 8; refine (diskFails.small_no _ s h0).mono ?_; rintro e w' ⟨rfl, rfl⟩)
      | (go_at_call 9; refine (works_any _).mono ?_; rintro e w9 ⟨rfl, hb9⟩; have B9 := Lib.hid (B0.out.trans (hb9.mono B0.out.size)); clear hb9))
    go_ret
    exact ⟨rfl, B9.out⟩
  · obtain ⟨q, rfl⟩ : ∃ q : Nat, s = (q : Int) := ⟨s.toNat, by omega⟩
    have q1 : 1 ≤ q := by omega
    have q2 : q ≤ 12 := by omega
    have n1 : (3000 : Int) < (n : Int) := by omega
    clear h h0
    go_enter Try.func6, Try.ntmps6
    go_wp2_with (first
      | (go_at_call 8; refine (diskFails.small_yes _ q q1 q2).mono ?_; rintro e w' ⟨rfl, rfl⟩)
      | (go_at_call 9; refine (works_any _).mono ?_; rintro e w9 ⟨rfl, hb9⟩; have B9 := Lib.hid (B0.out.trans (hb9.mono B0.out.size)); clear hb9))
    go_ret
    exact ⟨rfl, B9.out⟩
set_option maxRecDepth 100000 in
set_option maxHeartbeats 2000000 in
theorem walk_far (w : World) (s : Nat) (s1 : 1 ≤ s) (s2 : s ≤ 12) (A : Option Addr) (n c : Nat) (h3 : n ≤ 3000) (SA : Option Addr) (sc : Nat) (la : List Ac) (hra : RdA w SA la) (hls : ∀ x ∈ la, x.lies w) (hlb : la.length ≤ 140737488351232) (KA : Option Addr) (kc : Nat) (cr : Cr) (h : 400 < cr.keep.length) :
    Calls Try.prog 6 #[.int .i64 (s : Int), .slice A n c, .slice SA la.length sc, .agg #[.slice KA cr.keep.length kc, .int .i64 cr.torn, .int .i64 cr.bytes]] w fun e w' => e = .returned (.bool true) ∧ Below w.heap.size w w' := by
  have B0 := Lib.hid ((Below.refl w.heap.size w).alloc (Nat.le_refl _) (.cells #[.slice KA cr.keep.length kc, .int .i64 cr.torn, .int .i64 cr.bytes] 26))
  have X0 := Lib.hid (Blk.new w 26 #[.slice KA cr.keep.length kc, .int .i64 cr.torn, .int .i64 cr.bytes])
  have HR := Lib.hid (hra.below ((Below.refl _ w).alloc (Nat.le_refl _) (.cells #[.slice KA cr.keep.length kc, .int .i64 cr.torn, .int .i64 cr.bytes] 26)))
  have HLS := Lib.hid (fun x hx => (hls x hx).below ((Below.refl _ w).alloc (Nat.le_refl _) (.cells #[.slice KA cr.keep.length kc, .int .i64 cr.torn, .int .i64 cr.bytes] 26)))
  have HLB := Lib.hid hlb
  have n1 : ¬ (3000 : Int) < (n : Int) := by omega
  have n2 : (400 : Int) < (cr.keep.length : Int) := by omega
  clear hra hls hlb h h3
  go_enter Try.func6, Try.ntmps6
  go_wp2_with (go_at_call 8; refine (diskFails.small_yes _ s s1 s2).mono ?_; rintro e w' ⟨rfl, rfl⟩)
  refine (few_any _ SA sc la HR.out HLS.out HLB.out).mono ?_
  rintro e w1 ⟨rfl | ⟨rfl, ht⟩, hb⟩
  · have B1 := Lib.hid (B0.out.trans (hb.mono B0.out.size))
    clear hb
    go_wp2_with (go_at_call 9; refine (works_any _).mono ?_; rintro e w9 ⟨rfl, hb9⟩; have B9 := Lib.hid (B1.out.trans (hb9.mono B1.out.size)); clear hb9)
    go_ret
    exact ⟨rfl, B9.out⟩
  · have B1 := Lib.hid (B0.out.trans (hb.mono B0.out.size))
    have X1 := X0.out.below hb X0.out.lt
    have k0 := (X1.cell 0).trans (show _ = some (.slice KA cr.keep.length kc) from rfl)
    clear hb ht X1
    go_wp2_with (go_at_call 9; refine (works_any _).mono ?_; rintro e w9 ⟨rfl, hb9⟩; have B9 := Lib.hid (B1.out.trans (hb9.mono B1.out.size)); clear hb9)
    go_ret
    exact ⟨rfl, B9.out⟩
set_option maxRecDepth 100000 in
set_option maxHeartbeats 8000000 in
theorem walk_main (w : World) (s : Nat) (s1 : 1 ≤ s) (s2 : s ≤ 12) (A : Option Addr) (n c : Nat) (l : List UInt8) (hn : l.length = n) (h3 : n ≤ 3000) (hr : Rd w A l) (SA : Option Addr) (sc : Nat) (la : List Ac) (hra : RdA w SA la) (hls : ∀ x ∈ la, x.lies w) (hlb : la.length ≤ 140737488351232) (KA : Option Addr) (kc : Nat) (cr : Cr) (hkr : RdB w KA cr.keep) (hk4 : cr.keep.length ≤ 400) :
    Calls Try.prog 6 #[.int .i64 (s : Int), .slice A n c, .slice SA la.length sc, .agg #[.slice KA cr.keep.length kc, .int .i64 cr.torn, .int .i64 cr.bytes]] w fun e w' => e = .returned (.bool true) ∧ Below w.heap.size w w' := by
  have hz := z43
  have hzA := zA
  have hzC := zC
  have B0 := Lib.hid ((Below.refl w.heap.size w).alloc (Nat.le_refl _) (.cells #[.slice KA cr.keep.length kc, .int .i64 cr.torn, .int .i64 cr.bytes] 26))
  have X0 := Lib.hid (Blk.new w 26 #[.slice KA cr.keep.length kc, .int .i64 cr.torn, .int .i64 cr.bytes])
  have HR := Lib.hid (hra.below ((Below.refl _ w).alloc (Nat.le_refl _) (.cells #[.slice KA cr.keep.length kc, .int .i64 cr.torn, .int .i64 cr.bytes] 26)))
  have HLS := Lib.hid (fun x hx => (hls x hx).below ((Below.refl _ w).alloc (Nat.le_refl _) (.cells #[.slice KA cr.keep.length kc, .int .i64 cr.torn, .int .i64 cr.bytes] 26)))
  have HLB := Lib.hid hlb
  have n1 : ¬ (3000 : Int) < (n : Int) := by omega
  have n2 : ¬ (400 : Int) < (cr.keep.length : Int) := by omega
  have HLN := Lib.hid hn
  have HN3 := Lib.hid h3
  have HRB := Lib.hid (hr.alloc (.cells #[.slice KA cr.keep.length kc, .int .i64 cr.torn, .int .i64 cr.bytes] 26))
  have HKR := Lib.hid (hkr.below ((Below.refl _ w).alloc (Nat.le_refl _) (.cells #[.slice KA cr.keep.length kc, .int .i64 cr.torn, .int .i64 cr.bytes] 26)))
  have HK4 := Lib.hid hk4
  clear hr hn h3 hra hls hlb hkr hk4
  go_enter Try.func6, Try.ntmps6
  go_wp2_with (go_at_call 8; refine (diskFails.small_yes _ s s1 s2).mono ?_; rintro e w' ⟨rfl, rfl⟩)
  refine (few_any _ SA sc la HR.out HLS.out HLB.out).mono ?_
  rintro e w1 ⟨rfl | ⟨rfl, ht⟩, hb⟩
  · have B1 := Lib.hid (B0.out.trans (hb.mono B0.out.size))
    clear hb hz hzA hzC
    go_wp2_with (go_at_call 9; refine (works_any _).mono ?_; rintro e w9 ⟨rfl, hb9⟩; have B9 := Lib.hid (B1.out.trans (hb9.mono B1.out.size)); clear hb9)
    go_ret
    exact ⟨rfl, B9.out⟩
  · have B1 := Lib.hid hb
    have HL40 := Lib.hid (show la.length ≤ 40 by have := (tot_mem la).1; omega)
    have R1 := Lib.hid (HRB.out.below hb)
    have k0 := ((X0.out.below hb X0.out.lt).cell 0).trans (show _ = some (.slice KA cr.keep.length kc) from rfl)
    clear hb ht
    go_wp2_with fail
    clear k0
    generalize w.alloc (.cells #[.slice KA cr.keep.length kc, .int .i64 cr.torn, .int .i64 cr.bytes] 26) = w0 at B0 X0 HR HLS HRB HKR B1 ⊢
    refine (begun_any w1 s s1 s2 A n c l HLN.out HN3.out R1.out).mono ?_
    rintro e w2 ⟨p, pl, rfl, da, bg, hb⟩
    obtain ⟨q, hq⟩ : ∃ q : Rp, q = ⟨some ⟨w1.heap.size + 1, 0, none⟩, s * 512, s * 512, none, 0, 0, none, 0, 0⟩ := ⟨_, rfl⟩
    have BO0 := Lib.hid (bo_begun da bg s1 s2)
    rw [← hq] at BO0 ⊢
    have HB2 := Lib.hid hb
    obtain ⟨R, hR⟩ : ∃ R : Rf, R = ⟨begB l (s * 512), [], []⟩ := ⟨_, rfl⟩
    have RW := Lib.hid (show R.ws = [] by rw [hR])
    rw [← hR] at BO0
    generalize ofD (begB l (s * 512)) s s = D at BO0
    clear hR hq da bg hb
    have G2 := Lib.hid (show w0.heap.size ≤ w2.heap.size from Nat.le_trans B1.out.size HB2.out.size)
    have L0 := Lib.hid (show Lw w0 (w1.heap.size + 2) p pl D q R 0 s w2.heap.size (w2.alloc (.cells #[.slice q.A1 q.n1 q.c1, .slice q.A2 q.n2 q.c2, .int .i64 0, .slice q.A3 q.n3 q.c3] 34)) from {
      bo := BO0.out.alloc _
      be := (B1.out.trans (HB2.out.mono B1.out.size)).alloc G2.out _
      bg := Blk.new w2 _ _
      ng := fun hk => by have := (BO0.out.da.lt _ hk).1; omega
      nr := fun hk => by have := BO0.out.rf.lt hk; omega
      b0 := by have := B1.out.size; omega
      g0 := G2.out })
    go_wp2_with fail
    generalize w2.alloc (.cells #[.slice q.A1 q.n1 q.c1, .slice q.A2 q.n2 q.c2, .int .i64 0, .slice q.A3 q.n3 q.c3] 34) = W2 at L0 ⊢
    generalize w2.heap.size = g at L0 G2 HB2 ⊢
    obtain ⟨BB, hBB⟩ : ∃ BB, BB = w1.heap.size + 2 := ⟨_, rfl⟩
    rw [← hBB] at L0
    clear BO0 HB2 hBB
    go_loopw [9, 11, 12] (fun dv fv i wr => ∃ (k p : Nat) (pl : Pl) (D : Dk) (q : Rp) (R : Rf) (t : Nat), k ≤ la.length ∧ dv = .pointer (some ⟨p, 0, none⟩) ∧ fv = .bool true ∧ i = .int .i64 (k : Int) ∧ Lw w0 BB p pl D q R t s g wr ∧ R.ws.length ≤ k ∧ t ≤ k) (fun _ _ i _ => la.length - (intOf i).toNat)
    case atStart => exact ⟨0, p, pl, D, q, R, 0, Nat.zero_le _, rfl, rfl, rfl, L0.out, by rw [RW.out]; exact Nat.le_refl _, Nat.le_refl _⟩
    case round =>
      obtain ⟨k, p, pl, D, q, R, t, hk, rfl, rfl, rfl, hL, hw, ht⟩ := hrel
      clear L0 RW
      have LX := Lib.hid hL
      have WK := Lib.hid hw
      have TK := Lib.hid ht
      clear hL hw ht
      by_cases hlt : k < la.length
      · have i1 : (0 : Int) ≤ (k : Int) := by omega
        have i2 : (k : Int) < (la.length : Int) := by omega
        have kb : k ≤ 1000 := by have := HL40.out; omega
        have TB := Lib.hid (show t ≤ 100000 by have := TK.out; omega)
        have WB := Lib.hid (show R.ws.length < 100000 by have := WK.out; omega)
        obtain ⟨x, hx⟩ : ∃ x, la[k]? = some x := ⟨_, List.getElem?_eq_getElem hlt⟩
        obtain ⟨b, off, rfl, hc⟩ := HR.out k x hx
        have HXR := Lib.hid (show ∀ W, Below w0.heap.size w0 W → W.rangeAt b (off + k * 8) x.cs from fun W hW j u hu => (hW.cell (p := ⟨b, off + k * 8 + j, none⟩) (cell_lt (hc j u hu))).trans (hc j u hu))
        obtain ⟨y, hy⟩ : ∃ y : Ac, y = { x with what := 1 } := ⟨_, rfl⟩
        have HY := Lib.hid (show y.what = 1 by rw [hy])
        have YB := Lib.hid (Blk.new wr 28 x.cs.toArray)
        have Y1 := Lib.hid (show Blk (wr.alloc (.cells #[.int .i64 1, .int .i64 x.sector, .int .i64 x.at_, .int .u8 (x.byte.toNat : Int), .slice x.sA x.steps.length x.sc, .slice x.kA x.keep.length x.kc, .int .i64 x.torn, .int .i64 x.bytes] 28)) wr.heap.size 28 y.cs.toArray from by rw [hy]; exact Blk.new wr _ _)
        have LD := Lib.hid (show Lw w0 BB p pl D q R t s g (wr.alloc (.cells #[.int .i64 1, .int .i64 x.sector, .int .i64 x.at_, .int .u8 (x.byte.toNat : Int), .slice x.sA x.steps.length x.sc, .slice x.kA x.keep.length x.kc, .int .i64 x.torn, .int .i64 x.bytes] 28)) from LX.out.next ((Below.refl _ wr).alloc (Nat.le_refl _) _))
        have c0 := (YB.out.cell 0).trans (show _ = some (.int .i64 x.what) from rfl)
        have f0 := YB.out.frozen 0
        clear hx hc hy
        go_wp2_with (first
          | (refine wpList_load_mid rfl 28 (.tmp 55) rfl b (off + k * 8) rfl x.cs _ (HXR.out _ LX.out.be) Try.underlying28 rfl size_act ?_)
          | (show wpList _ _ _ ({ dst := none, op := .store _ (.tmp 13) (.tmp 56), type := _, pos := _, after := _, guard := _ } :: _) _ _; refine wpList_store_new4 (c := x.cs.toArray) (c0 := #[.int .i64 0, .int .i64 0, .int .i64 0, .int .u8 0, .slice none 0 0, .slice none 0 0, .int .i64 0, .int .i64 0]) (ty := 28) rfl (.tmp 13) (.tmp 56) rfl rfl rfl (act_size x) rfl (act_ones x) ?_)
          | (refine wpList_load_mid rfl 34 (.tmp 10) rfl g 0 rfl _ _ (blk_range4 LD.out.bg) Try.underlying34 rfl size43 ?_)
          | (refine wpList_load_mid rfl 28 (.tmp 13) rfl wr.heap.size 0 rfl y.cs _ (Blk.rangeAt (l := y.cs) Y1.out) Try.underlying28 rfl size_act ?_))
        clear c0 f0
        generalize wr.alloc (.cells #[.int .i64 1, .int .i64 x.sector, .int .i64 x.at_, .int .u8 (x.byte.toNat : Int), .slice x.sA x.steps.length x.sc, .slice x.kA x.keep.length x.kc, .int .i64 x.torn, .int .i64 x.bytes] 28) = W3 at Y1 LD ⊢
        refine ((act1_any LD.out.bo WB.out TB.out y HY.out).mono fun e w' hh => hh.any).mono ?_
        have hwl := wRf_ws2 R t s y.sector (fullL y.byte)
        have htl := wSt_le2 t s y.sector
        generalize wRf R t s y.sector (fullL y.byte) = R' at hwl ⊢
        generalize wSt t s y.sector = t' at htl ⊢
        rintro e W4 ⟨p', pl', D', q', rfl, bo, hf, hpl, hat⟩
        have JG := Lib.hid (LD.out.kept hf)
        have HW4 := Lib.hid (show R'.ws.length ≤ k + 1 by have := WK.out; omega)
        have HT4 := Lib.hid (show t' ≤ k + 1 by have := TK.out; omega)
        have L4 := Lib.hid (LD.out.went bo hf hpl hat (setRow_heap W4 g _ _ _ (0, 0) (LD.out.kept hf)) (setRow_fr' W4 g _))
        clear bo hf hpl hat hwl htl LD LX Y1 YB
        go_wp2_with (first
          | (refine wpList_store_row rfl 34 (.tmp 10) (.tmp 64) rfl g #[.slice q'.A1 q'.n1 q'.c1, .slice q'.A2 q'.n2 q'.c2, .int .i64 (t' : Int), .slice q'.A3 q'.n3 q'.c3] rfl rfl 34 _ JG.out (size43c _ _ _ _) rfl (one43 _ _ _ _ _ _ _ _ _ _) ?_))
        go_roundw
        case rel => exact ⟨k + 1, p', pl', D', q', R', t', by omega, rfl, rfl, by go_num, L4.out, HW4.out, HT4.out⟩
        case measure => simp [intOf]; omega
      · obtain rfl : k = la.length := by omega
        have i2 : ¬ ((la.length : Nat) : Int) < (la.length : Int) := by omega
        have X2 := Lib.hid (X0.out.below LX.out.be X0.out.lt)
        have CA : Hid (Calls Try.prog 11 #[.pointer (some ⟨p, 0, none⟩), .agg #[.slice q.A1 q.n1 q.c1, .slice q.A2 q.n2 q.c2, .int .i64 (t : Int), .slice q.A3 q.n3 q.c3], .agg #[.int .i64 5, .int .i64 0, .int .i64 0, .int .u8 0, .slice none 0 0, .slice KA cr.keep.length kc, .int .i64 cr.torn, .int .i64 cr.bytes]] wr (fun e w' => ∃ R' s', ActPost' wr BB p pl q R s R' s' e w' ∧ R'.ws.length ≤ R.ws.length + 1 ∧ s' ≤ t + 1)) :=
          Lib.hid (act_any LX.out.bo (by have := TK.out; have := HL40.out; omega) (by have := WK.out; have := HL40.out; omega) ⟨5, 0, 0, 0, none, 0, [], KA, kc, cr.keep, cr.torn, cr.bytes⟩ ⟨fun j hj => absurd hj (by simp), HKR.out.below LX.out.be, by simp, by have := HK4.out; show cr.keep.length ≤ _; omega, fun n hn => by cases hn⟩ (by simp))
        go_wp2_with (first
          | (refine wpList_load_mid rfl 34 (.tmp 10) rfl g 0 rfl _ _ (blk_range4 LX.out.bg) Try.underlying34 rfl size43 ?_)
          | (refine wpList_load_mid rfl 26 (.tmp 7) rfl w.heap.size 0 rfl [.slice KA cr.keep.length kc, .int .i64 cr.torn, .int .i64 cr.bytes] _ (Blk.rangeAt (l := [.slice KA cr.keep.length kc, .int .i64 cr.torn, .int .i64 cr.bytes]) X2.out) Try.underlying26 rfl size_crash ?_))
        refine CA.out.mono ?_
        clear CA
        rintro e W4 ⟨R', t', ⟨p', pl', D', q', rfl, bo, hf, hpl, hat⟩, _, _⟩
        have BO4 := Lib.hid (bo.alloc (.cells #[.slice q'.A1 q'.n1 q'.c1, .slice q'.A2 q'.n2 q'.c2, .int .i64 (t' : Int), .slice q'.A3 q'.n3 q'.c3] 34))
        have N4 := Lib.hid (Blk.new W4 34 #[.slice q'.A1 q'.n1 q'.c1, .slice q'.A2 q'.n2 q'.c2, .int .i64 (t' : Int), .slice q'.A3 q'.n3 q'.c3])
        have B4 := Lib.hid (LX.out.below' hf)
        have B5 := Lib.hid (show Below w.heap.size w (W4.alloc (.cells #[.slice q'.A1 q'.n1 q'.c1, .slice q'.A2 q'.n2 q'.c2, .int .i64 (t' : Int), .slice q'.A3 q'.n3 q'.c3] 34)) from (B0.out.trans (B4.out.mono B0.out.size)).alloc (Nat.le_trans B0.out.size B4.out.size) _)
        clear bo hf hpl hat
        go_wp2_with (first
          | (refine wpList_yieldsD (S := fun w' => w'.rangeAt W4.heap.size 0 [.slice q'.A1 q'.n1 q'.c1, .slice q'.A2 q'.n2 q'.c2, .int .i64 (t' : Int), .slice q'.A3 q'.n3 q'.c3]) (yieldsIf_load_mid (by rfl) 34 (.tmp 15) (by rfl) W4.heap.size 0 (by rfl) [.slice q'.A1 q'.n1 q'.c1, .slice q'.A2 q'.n2 q'.c2, .int .i64 (t' : Int), .slice q'.A3 q'.n3 q'.c3] _ (fun w' hSw => hSw) Try.underlying34 rfl size43) (blk_range4 N4.out) ?_)
          | (go_at_call 15; refine (stands_any BO4.out.da BO4.out.rf BO4.out.al).mono ?_; rintro e W9 ⟨rfl, hb9⟩; have B6 := Lib.hid (B5.out.trans (hb9.mono B5.out.size)); clear hb9)
          | (go_at_call 9; refine (works_any _).mono ?_; rintro e w9 ⟨rfl, hb9⟩; have B9 := Lib.hid (B6.out.trans (hb9.mono B6.out.size)); clear hb9))
        go_ret
        exact ⟨rfl, B9.out⟩
set_option maxRecDepth 8000 in
theorem walk (w : World) (s : Int) (A : Option Addr) (n c : Nat) (l : List UInt8) (hn : l.length = n) (hr : Rd w A l) (SA : Option Addr) (sc : Nat) (la : List Ac) (hra : RdA w SA la) (hls : ∀ x ∈ la, x.lies w) (hlb : la.length ≤ 140737488351232) (KA : Option Addr) (kc : Nat) (cr : Cr) (hkr : RdB w KA cr.keep) :
    Calls Try.prog 6 #[.int .i64 s, .slice A n c, .slice SA la.length sc, .agg #[.slice KA cr.keep.length kc, .int .i64 cr.torn, .int .i64 cr.bytes]] w fun e w' => e = .returned (.bool true) ∧ Below w.heap.size w w' := by
  by_cases h : (s < 1 ∨ 12 < s) ∨ 3000 < n
  · exact walk_size w s A n c SA la.length sc KA kc cr h
  · obtain ⟨q, rfl⟩ : ∃ q : Nat, s = (q : Int) := ⟨s.toNat, by omega⟩
    by_cases h2 : 400 < cr.keep.length
    · exact walk_far w q (by omega) (by omega) A n c (by omega) SA sc la hra hls hlb KA kc cr h2
    · exact walk_main w q (by omega) (by omega) A n c l hn (by omega) hr SA sc la hra hls hlb KA kc cr hkr (by omega)
set_option maxRecDepth 100000 in
theorem lifted (os : Os) (started : os.Started) (H : Type) (enc : TypeId × Value → H) :
    ReturnsInHanded {} Try.checked os 6 .any (Rows.diskCrashesSpec.pre6 enc Try.prog Try.f6 Rows.diskCrashesRow.domain false) (Rows.diskCrashesSpec.post enc Try.prog Try.f6 false true false false) := by
  refine returnsInHanded_of_change_sized (C := Try.checked) own started (by kernel_rfl) Try.func6
    (ChangeSpec.witness6 (enc := enc) (C := Try.checked) false ⟨#[], #[.int .i64 0, .slice none 0 0, .slice none 0 0, .agg #[.slice none 0 0, .int .i64 0, .int .i64 0]], []⟩ 8 (by kernel_rfl) (by kernel_rfl) (by kernel_rfl) (by kernel_rfl)) ?_
  intro W base args ds gs before hval0 hW hcnd hsz _
  have hval : ∀ (j : Nat) t v, Try.f6.params[j]? = some t → args[j]? = some v → Value.okWide Try.prog W .any base t v := hval0
  have hW' := hW
  obtain ⟨p, q, hA0, hV, rfl, hfz, hnd⟩ := hW
  have hA : DataW.TrodAll enc Try.prog W 0 (fun _ => true) true Try.f6.params.toList args.toList ds p := hA0
  rw [Try.params6] at hA hval hsz
  obtain ⟨v0, vs0, d0, ds0, p0, q0, hargs, rfl, rfl, h0, t0⟩ := trodAll_cons hA
  obtain ⟨v1, vs1, d1, ds1, p1, q1, rfl, rfl, rfl, h1, t1⟩ := trodAll_cons t0
  obtain ⟨v2, vs2, d2, ds2, p2, q2, rfl, rfl, rfl, h2, t2⟩ := trodAll_cons t1
  obtain ⟨v3, vs3, d3, ds3, p3, q3, rfl, rfl, rfl, h3, t3⟩ := trodAll_cons t2
  obtain ⟨rfl, rfl, rfl⟩ := trodAll_nil t3
  obtain rfl : args = #[v0, v1, v2, v3] := by cases args; simp_all
  obtain ⟨rfl, rfl⟩ := trodVars_none hV
  have k0 := h0
  have lt0 : ∀ x ∈ p0, x.block < W.heap.size := by obtain ⟨m, hm⟩ := k0; exact DataW.trod_lt m _ _ _ hm
  obtain ⟨a0, rfl, rfl, rfl, f0⟩ := open_int Try.underlying3 (hval 0 3 v0 rfl rfl) h0
  have k1 := h1
  have lt1 : ∀ x ∈ p1, x.block < W.heap.size := by obtain ⟨m, hm⟩ := k1; exact DataW.trod_lt m _ _ _ hm
  obtain ⟨A1, n1, c1, l1, rfl, hl1, hc1, hr1⟩ := open_bytes (hval 1 22 v1 rfl rfl) h1
  have k2 := h2
  have lt2 : ∀ x ∈ p2, x.block < W.heap.size := by obtain ⟨m, hm⟩ := k2; exact DataW.trod_lt m _ _ _ hm
  obtain ⟨A2, l2, c2, rfl, hr2, hs2, hb2⟩ := open_acts (hval 2 47 v2 rfl rfl) h2 (fun q hq => by have := List.all_eq_true.1 hsz q (DataW.weights_mem_each (j := 2) (t := 47) (d := d2) rfl rfl q hq); simpa using this)
  have k3 := h3
  have lt3 : ∀ x ∈ p3, x.block < W.heap.size := by obtain ⟨m, hm⟩ := k3; exact DataW.trod_lt m _ _ _ hm
  obtain ⟨A3, c3, cr3, rfl, hr3⟩ := open_crash (hval 3 26 v3 rfl rfl) h3
  clear hA0 hval0
  refine (walk W a0 A1 n1 c1 l1 hl1 hr1 A2 c2 l2 hr2 hs2 hb2 A3 c3 cr3 hr3).mono fun e W' ⟨he, bel⟩ => ?_
  subst he
  exact ⟨_, rfl, _, _, _, [], _, [], hW', trodAll_mk1 (shut_bool Try.underlying4 _), (trodAll_cons_mk (shut_int Try.underlying3 f0) (trodAll_cons_mk (Below.trod laidOut (by kernel_rfl) (of_decide_eq_true (by kernel_rfl)) k1 bel lt1) (trodAll_cons_mk (Below.trod laidOut (by kernel_rfl) (of_decide_eq_true (by kernel_rfl)) k2 bel lt2) (trodAll_cons_mk (Below.trod laidOut (by kernel_rfl) (of_decide_eq_true (by kernel_rfl)) k3 bel lt3) trodAll_mk0)))), rfl, bel.frame _, fun h => by cases h⟩
theorem over : Rows.diskCrashesRow.holds Try.pinned (OpenSpec.ofChange Rows.diskCrashesSpec) :=
  OpenClaim.holds_of_wide 6 Try.f6 rfl rfl rfl rfl rfl rfl rfl ⟨rfl, rfl, rfl, rfl, rfl⟩ rfl rfl rfl rfl rfl (by kernel_rfl) Try.func6 (by kernel_rfl)
    (of_decide_eq_true (by kernel_rfl)) (by unfold Func.isWrapper; first | (rw [if_pos (by decide +kernel)]; kernel_rfl) | (rw [if_neg (by decide +kernel)]; exact ⟨rfl, rfl⟩))
    (fun os started H enc _ => lifted os started H enc)
theorem proved : Rows.DiskCrashesSaid := over
end Go.Proofs.Ytgjamgojjajcnaa.diskCrashes

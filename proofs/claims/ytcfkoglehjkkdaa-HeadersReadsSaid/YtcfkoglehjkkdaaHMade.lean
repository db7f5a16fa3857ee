/- law 8: a disk made, and the document's. -/
import Derived.Test.YtcfkoglehjkkdaaHSmall
import Derived.Test.YtcfkoglehjkkdaaP14
import Derived.Test.YtcfkoglehjkkdaaP15
import Derived.Test.YtcfkoglehjkkdaaP19
import Derived.StillTailTactics
namespace Go.Proofs.Ytcfkoglehjkkdaa
open Go.RowKit
attribute [local go_sem] Oper.semAt_some
set_option maxRecDepth 8000 in
theorem wpList_copy_sec {w : World} {b : Nat} {t : TypeId} {ops : Array Oper} {rest : List Oper} {o : Oper} {a : Act} {Q : Exit → Act → World → Prop} (hgd : o.guard = none) (d s : Operand) {dT sT e : TypeId}
    (ho : o.op = .call { callee := .builtin .copy, args := #[d, s], argTypes := #[dT, sT] }) (hu : Try.prog.underlying dT = some (.slice e)) (hs : (Try.prog.info? e).map (·.size) = some 1) (off n dcap : Nat) (A : Option Addr) (m scap : Nat)
    (hd : a.eval d = .slice (some ⟨b, off, none⟩) n dcap) (hs' : a.eval s = .slice A m scap) (cur l : List UInt8)
    (hg : Blk w b t (bv cur).toArray) (hn : l.length = Nat.min m n) (hsrc : Rd w A l) (hfit : off + l.length ≤ cur.length)
    (h : ∀ w', Blk w' b t (bv (splice cur off l)).toArray → Fr (fun k => k = b) w w' → wpList Try.prog ops Q rest (a.put o.dst (goInt l.length)) w') : wpList Try.prog ops Q (o :: rest) a w := by
  refine wpList_plain hgd fun K hK => ?_
  obtain ⟨w', hrun, h1, h2, _⟩ := run_copy_sec (P := Try.prog) (w := w) (ty := o.type) (sT := sT) hu hs off n dcap A m scap cur l hg hn hsrc hfit
  unfold Oper.wp
  simp [execOp, ho, resolve, invoke, builtin, hd, hs', hrun, Result.andThen]
  exact hK _ _ (h w' h1 (Fr.of_grown h2 (fun k e => by injection e with e; exact e.symm)))
/-- the bytes of a disk made -/
def mB (z : Nat) (l0 l1 : List UInt8) : List UInt8 := if 1 < z then splice (splice (List.replicate (z * 512) 0) 0 l0) 512 l1 else splice (List.replicate (z * 512) 0) 0 l0
set_option maxRecDepth 8000 in
theorem mB_length {z : Nat} {l0 l1 : List UInt8} (h0 : l0.length ≤ 512) (h1 : l1.length ≤ 512) (hz : 1 ≤ z) : (mB z l0 l1).length = z * 512 := by
  unfold mB
  split <;> simp [splice] <;> omega
set_option maxRecDepth 8000 in
theorem step_store_whole8 {ops : Array Oper} {o : Oper} {a : Act} {w : World} {K : Act → World → Prop} {Q : Exit → Act → World → Prop} {E : Prop} (hgd : o.guard = none) (ty : TypeId) (x y : Operand) (ho : o.op = .store ty x y) {g : Nat} (hx : a.eval x = .pointer (some ⟨g, 0, none⟩))
    (cells old : Array Value) (t : TypeId) (hy : a.eval y = .agg cells) (hb : Blk w g t old) (hi : (Try.prog.info? ty).map (·.size) = some cells.size) (hold : old.size = cells.size) (h1 : cells.all (·.oneCell') = true)
    (h : ∀ w', Blk w' g t cells → Fr (fun k => k = g) w w' → K (a.put o.dst undef) w') : if Region.wanted o (yielded ops a.tmps) = true then Oper.wp Try.prog o a w K Q else E := by
  rw [if_pos (by simp [Region.wanted, hgd])]
  refine wp_store_row ty x y ho g cells hx hy t old hb hi hold h1 ?_
  exact h _ (setRow_heap w g _ _ t (0, 0) hb) ⟨rfl, rfl, rfl, by simp [World.setRow], fun k _ hk => setRow_other w g k cells hk⟩
set_option maxRecDepth 8000 in
theorem size43c8 (v0 v1 v2 v3 : Value) : (Try.prog.info? 33).map (·.size) = some (#[v0, v1, v2, v3] : Array Value).size := by kernel_rfl
set_option maxRecDepth 8000 in
theorem one43c8 (A1 A2 A3 : Option Addr) (n1 c1 n2 c2 n3 c3 : Nat) {t : Int} : (#[.slice A1 n1 c1, .slice A2 n2 c2, .int .i64 t, .slice A3 n3 c3] : Array Value).all (fun x => x.oneCell') = true := by
  simp [Value.oneCell']
theorem Below.heap8 (w : World) (o : Obj) : Below w.heap.size w (w.alloc o) := (Below.refl _ w).alloc (Nat.le_refl _) o
theorem RdI.fr8 {w w' : World} {A : Option Addr} {l : List Int} {S : Nat → Prop} (h : RdI w A l) (hf : Fr S w w') (hS : ∀ b off, A = some ⟨b, off, none⟩ → ¬ S b) : RdI w' A l := h.keep fun _ hp ⟨b, off, e, hpb⟩ => hf.cell hp (fun hs => hS b off e (hpb ▸ hs))
set_option maxRecDepth 8000 in
theorem failR_le (s : Nat) (l : List Int) : (failR s l).length ≤ l.length := by
  unfold failR
  rw [List.length_map]
  exact List.length_filter_le _ _
theorem al_made0 (l : List UInt8) (z : Nat) : Alike (ofD l z z) ⟨l, [], []⟩ 0 z where
  size := rfl
  lasts := fun n hn => by show ofL _ _ _ = _; unfold ofL; rw [if_pos hn]
  waits := rfl
  steps := rfl
  fails := fun n _ _ => by simp [ofD, newDk]
theorem al_made (l : List UInt8) (z : Nat) (lf : List Int) : Alike ((ofD l z z).failing lf) ⟨l, [], failR 0 lf⟩ 0 z where
  size := rfl
  lasts := fun n hn => by show ofL _ _ _ = _; unfold ofL; rw [if_pos hn]
  waits := rfl
  steps := rfl
  fails := fun n _ hn => by
    show inS lf (n - ((0 : Nat) : Int)) = _
    unfold inS failR
    rw [List.contains_eq_mem]
    congr 1
    simp only [Int.ofNat_zero, Int.sub_zero, Int.zero_add, List.map_id', List.mem_filter, decide_eq_true_eq, eq_iff_iff]
    exact ⟨fun h => ⟨h, hn⟩, fun h => h.1⟩
set_option maxRecDepth 8000 in
theorem bo_made {W : World} {B base n5 p g z N : Nat} {pl : Pl} {D : Dk} {l : List UInt8} {fl : List Int} {A3 : Option Addr} {c3 : Nat} (da : DiskAt W base p pl D) (hB : B ≤ base) (hW : base ≤ W.heap.size) (hN : N = z * 512) (hl : l.length = z * 512) (bg : Blk W g 5 (bv l).toArray) (hg : g < base)
    (hr : RdI W A3 fl) (hA : ∀ b off, A3 = some ⟨b, off, none⟩ → n5 ≤ b) (hp : ∀ q, pl.has p q → q < n5) (hfl : fl.length ≤ 20) (z1 : 1 ≤ z) (z2 : z ≤ 220) (al : Alike D ⟨l, [], fl⟩ 0 z) :
    Bo W B p pl D ⟨some ⟨g, 0, none⟩, N, N, none, 0, 0, A3, fl.length, c3⟩ ⟨l, [], fl⟩ 0 z where
  da := da.base hB
  rf := {
    n1 := hN
    l1 := hl
    r1 := rd_blk bg 0 _ (fun j hj => by rw [Nat.zero_add, bv_get, List.getElem?_eq_getElem hj]; rfl)
    n2 := rfl
    r2 := fun i x hx => by simp at hx
    n3 := rfl
    r3 := hr
    wl := fun x hx => by simp at hx
    z1 := z1
    z2 := by omega
    m2 := by simp
    m3 := by simp only; omega }
  al := al
  ap := fun b hb' hq => by
    obtain ⟨off, ⟨e, _⟩ | ⟨e, _⟩ | ⟨e, _⟩⟩ := hb'
    · injection e with e
      injection e with e1 _
      have := (da.lt b hq).2
      omega
    · cases e
    · have h1 := hA b off e
      have h2 := hp b hq
      omega
  hB := Nat.le_trans hB hW
set_option maxRecDepth 8000 in
theorem made_at {n n5 N c3 : Nat} {A3 : Option Addr} {l : List UInt8} {fl : List Int} (hA : ∀ b off, A3 = some ⟨b, off, none⟩ → n5 ≤ b) (hn : n ≤ n5) {b : Nat} (hb : Rp.at_ ⟨some ⟨n + 1 + 1, 0, none⟩, N, N, none, 0, 0, A3, fl.length, c3⟩ ⟨l, [], fl⟩ b) : n ≤ b := by
  obtain ⟨off, ⟨e, _⟩ | ⟨e, _⟩ | ⟨e, _⟩⟩ := hb
  · injection e with e
    injection e with e1 _
    omega
  · cases e
  · have := hA b off e
    omega
set_option maxRecDepth 100000 in
set_option maxHeartbeats 8000000 in
theorem made_new (w : World) (z : Nat) (z1 : 1 ≤ z) (z2 : z ≤ 220) (A0 : Option Addr) (n0 c0 : Nat) (A1 : Option Addr) (n1 c1 : Nat) (A2 : Option Addr) (c2 : Nat) (l0 l1 : List UInt8) (lf : List Int) (h0 : l0.length = n0) (h1 : l1.length = n1)
    (m0 : n0 ≤ 512) (m1 : n1 ≤ 512) (m2 : lf.length ≤ 20) (r0 : Rd w A0 l0) (r1 : Rd w A1 l1) (rf : RdI w A2 lf) (hwf : ∀ x ∈ lf, x ≤ 9223372036854775807) :
    Calls Try.prog 9 #[.agg #[.int .i64 (z : Int), .slice A0 n0 c0, .slice A1 n1 c1, .slice A2 lf.length c2]] w fun e w' => ∃ p pl D r fl, e = .returned (.tuple #[.pointer (some ⟨p, 0, none⟩), Rp.val r 0, .bool true]) ∧
      Bo w' w.heap.size p pl D r ⟨mB z l0 l1, [], fl⟩ 0 z ∧ Below w.heap.size w w' ∧ ∀ b, r.at_ ⟨mB z l0 l1, [], fl⟩ b → w.heap.size ≤ b := by
  have hz := z43
  obtain ⟨N, hN⟩ : ∃ N, N = z * 512 := ⟨_, rfl⟩
  have NE := Lib.hid hN
  have wr1 : IntKind.i64.wrap (512 * (z : Int)) = (N : Int) := by rw [show 512 * (z : Int) = (N : Int) by omega]; exact IntWalk.i64_in _ (by omega)
  have n1' : (N : Int) ≤ 3000000 := by omega
  have n0' : (0 : Int) ≤ (N : Int) := by omega
  have hmk := fun W : World => run_make_row' (P := Try.prog) 22 5 (.int .u8 0) 1 Try.underlying22 infoU8 rfl .i64 .i64 N (by omega) (by omega) W
  have H0 := Lib.hid h0
  have H1 := Lib.hid h1
  have M0 := Lib.hid m0
  have M1 := Lib.hid m1
  have M2 := Lib.hid m2
  have R0 := Lib.hid r0
  have R1 := Lib.hid r1
  have RF := Lib.hid rf
  have HW := Lib.hid hwf
  have HX := Lib.hid (show ((w.alloc (.cells #[.int .i64 (z : Int), .slice A0 n0 c0, .slice A1 n1 c1, .slice A2 lf.length c2] 26)).alloc (.cells #[.slice none 0 0, .slice none 0 0, .int .i64 0, .slice none 0 0] 33)).heap.size = w.heap.size + 2 by simp)
  have Y1 := Lib.hid (show Blk (((w.alloc (.cells #[.int .i64 (z : Int), .slice A0 n0 c0, .slice A1 n1 c1, .slice A2 lf.length c2] 26)).alloc (.cells #[.slice none 0 0, .slice none 0 0, .int .i64 0, .slice none 0 0] 33)).alloc (.cells (madeCells #[.int .u8 0] N) 5)) (w.heap.size + 1 + 1) 5 (bv (List.replicate N 0)).toArray by
    rw [← made_bv]
    have := Blk.new ((w.alloc (.cells #[.int .i64 (z : Int), .slice A0 n0 c0, .slice A1 n1 c1, .slice A2 lf.length c2] 26)).alloc (.cells #[.slice none 0 0, .slice none 0 0, .int .i64 0, .slice none 0 0] 33)) 5 (madeCells #[.int .u8 0] N)
    rw [HX.out] at this
    exact this)
  have K0 := Lib.hid (show l0.length = Nat.min n0 N by rw [h0]; exact (Nat.min_eq_left (by omega)).symm)
  have K1 := Lib.hid (show 0 + l0.length ≤ (List.replicate N (0 : UInt8)).length by rw [List.length_replicate]; omega)
  have K2 := Lib.hid (show ∀ k, k = w.heap.size + 1 + 1 → w.heap.size ≤ k from fun k e => by omega)
  have X1 := Lib.hid (((Blk.new w 26 #[.int .i64 (z : Int), .slice A0 n0 c0, .slice A1 n1 c1, .slice A2 lf.length c2]).alloc (.cells #[.slice none 0 0, .slice none 0 0, .int .i64 0, .slice none 0 0] 33)).alloc (.cells (madeCells #[.int .u8 0] N) 5))
  have P1 := Lib.hid ((blk_new1 w (.cells #[.int .i64 (z : Int), .slice A0 n0 c0, .slice A1 n1 c1, .slice A2 lf.length c2] 26) 33 #[.slice none 0 0, .slice none 0 0, .int .i64 0, .slice none 0 0]).alloc (.cells (madeCells #[.int .u8 0] N) 5))
  have B1 := Lib.hid ((((Below.refl w.heap.size w).alloc (Nat.le_refl _) (.cells #[.int .i64 (z : Int), .slice A0 n0 c0, .slice A1 n1 c1, .slice A2 lf.length c2] 26)).alloc (by simp) (.cells #[.slice none 0 0, .slice none 0 0, .int .i64 0, .slice none 0 0] 33)).alloc (by simp; omega) (.cells (madeCells #[.int .u8 0] N) 5))
  clear h0 h1 m0 m1 m2 r0 r1 rf hwf HX hN
  by_cases hgt : 1 < z
  · skip
    have d1 : decide ((1 : Int) < (z : Int)) = true := by simp; omega
    have d2 : (1 : Int) < (z : Int) := by omega
    have d3 : (512 : Int) ≤ (N : Int) := by have := NE.out; omega
    have d4 : 512 ≤ N := by omega
    have d5 : IntKind.i64.wrap ((N : Int) - 512) = (N : Int) - 512 := IntWalk.i64_in _ (by omega)
    have KL := Lib.hid (show (splice (List.replicate N 0) 0 l0).length = N by have := K1.out; rw [List.length_replicate] at this; simp [splice]; omega)
    have K3 := Lib.hid (show l1.length = Nat.min n1 (N - 512) by rw [H1.out]; exact (Nat.min_eq_left (by have := M1.out; have := NE.out; omega)).symm)
    have K4 := Lib.hid (show 512 + l1.length ≤ (splice (List.replicate N (0 : UInt8)) 0 l0).length by rw [KL.out, H1.out]; have := M1.out; have := NE.out; omega)
    have hq : ¬ N = 512 := by have := NE.out; omega
    go_enter Try.func9, Try.ntmps9
    go_wp2_with (refine wpList_copy_sec rfl (.tmp 14) (.tmp 17) rfl Try.underlying22 size5 0 N N A0 n0 c0 rfl rfl (List.replicate N 0) l0 Y1.out K0.out (R0.out.below B1.out) K1.out ?_; intro w2 hb hf; have Y2 := Lib.hid hb; have X2 := (hf.block _ X1.out.lt (by omega)).trans X1.out; have P2 := Lib.hid (show Blk w2 (w.heap.size + 1) 33 #[.slice none 0 0, .slice none 0 0, .int .i64 0, .slice none 0 0] from (hf.block _ P1.out.lt (by omega)).trans P1.out); have B2 := Lib.hid (B1.out.trans (hf.to_below K2.out B1.out.size)); have x0 := (Blk.cell (cs := #[.int .i64 (z : Int), .slice A0 n0 c0, .slice A1 n1 c1, .slice A2 lf.length c2]) X2 0).trans (show _ = some (.int .i64 (z : Int)) from rfl); have x2 := (Blk.cell (cs := #[.int .i64 (z : Int), .slice A0 n0 c0, .slice A1 n1 c1, .slice A2 lf.length c2]) X2 2).trans (show _ = some (.slice A1 n1 c1) from rfl); clear hb hf)
    go_still_tail 5, (by kernel_rfl)
    change wpList _ _ _ _ _ w2.drew

    refine wpList_copy_sec rfl (.tmp 23) (.tmp 26) rfl Try.underlying22 size5 512 (N - 512) (N - 512) A1 n1 c1 rfl rfl (splice (List.replicate N 0) 0 l0) l1 (drew_blk Y2.out) K3.out ((R1.out.below B2.out).drew) K4.out ?_
    intro w3 hb hf
    have Y3 := Lib.hid (show Blk w3 (w.heap.size + 1 + 1) 5 (bv (mB z l0 l1)).toArray by
      unfold mB
      rw [if_pos hgt, ← NE.out]
      exact hb)
    have X3 := Lib.hid (show Blk w3 w.heap.size 26 #[.int .i64 (z : Int), .slice A0 n0 c0, .slice A1 n1 c1, .slice A2 lf.length c2] from (hf.block _ (Blk.lt (cs := #[.int .i64 (z : Int), .slice A0 n0 c0, .slice A1 n1 c1, .slice A2 lf.length c2]) X2) (by omega)).trans X2)
    have P3 := Lib.hid (show Blk w3 (w.heap.size + 1) 33 #[.slice none 0 0, .slice none 0 0, .int .i64 0, .slice none 0 0] from (hf.block _ P2.out.lt (by omega)).trans P2.out)
    have B3 := Lib.hid (B2.out.trans (show Below w.heap.size w2 w3 from (fun (q : Below w.heap.size w2.drew w3) => ⟨q.os, q.tape, q.output, q.size, q.block⟩) (hf.to_below K2.out B2.out.size)))
    clear hb hf d1 d2 d3 d4 d5 hq KL K3 K4 x0 x2
    go_wp2_with fail
    have LM := Lib.hid (show (mB z l0 l1).length = N by rw [mB_length (by rw [H0.out]; exact M0.out) (by rw [H1.out]; exact M1.out) z1]; exact NE.out.symm)
    have YL := Lib.hid Y3.out.lt
    have OF := of_ok w3 (w.heap.size + 1 + 1) 0 N z (mB z l0 l1) (by rw [LM.out]; exact NE.out) z1 (by omega) (by rw [LM.out]; exact Nat.le_refl _) (rd_blk Y3.out 0 _ (fun j hj => by rw [Nat.zero_add, bv_get, List.getElem?_eq_getElem hj]; rfl))
    rw [LM.out] at OF
    refine OF.mono ?_
    rintro e w4 ⟨p, pl, rfl, c4, b4⟩
    have C4 := Lib.hid c4
    have X4 := Lib.hid (X3.out.below b4 X3.out.lt)
    have P4 := Lib.hid (P3.out.below b4 P3.out.lt)
    have Y4 := Lib.hid (Y3.out.below b4 YL.out)
    have B4 := Lib.hid (B3.out.trans (b4.mono B3.out.size))
    have S4 := Lib.hid b4.size
    have x3 := (Blk.cell (cs := #[.int .i64 (z : Int), .slice A0 n0 c0, .slice A1 n1 c1, .slice A2 lf.length c2]) X4.out 3).trans (show _ = some (.slice A2 lf.length c2) from rfl)
    clear c4 b4 OF X3 P3 Y3 B3
    go_wp2_with fail
    clear x3
    have XL := Lib.hid (show ∀ q, q ≤ w.heap.size + 1 + 1 → ¬ pl.has p q from fun q hq hk => by have := (C4.out.lt q hk).2; have := YL.out; omega)
    refine (fail_any C4.out S4.out A2 c2 lf (by have := M2.out; omega) (RF.out.below B4.out)).mono ?_
    rintro e w5 (⟨hall, rfl, ⟨f, c5, hf5⟩, fr⟩ | ⟨hex, rfl, hb5⟩)
    · have C5 := Lib.hid c5
      have X5 := Lib.hid (show Blk w5 w.heap.size 26 #[.int .i64 (z : Int), .slice A0 n0 c0, .slice A1 n1 c1, .slice A2 lf.length c2] from (fr.block _ X4.out.lt (XL.out _ (by omega))).trans X4.out)
      have P5 := Lib.hid (show Blk w5 (w.heap.size + 1) 33 #[.slice none 0 0, .slice none 0 0, .int .i64 0, .slice none 0 0] from (fr.block _ P4.out.lt (XL.out _ (by omega))).trans P4.out)
      have Y5 := Lib.hid (show Blk w5 (w.heap.size + 1 + 1) 5 (bv (mB z l0 l1)).toArray from (fr.block _ Y4.out.lt (XL.out _ (by omega))).trans Y4.out)
      have B5 := Lib.hid (B4.out.trans ((fr.to_below (fun k hk => (C4.out.lt k hk).2) S4.out).mono (by have := YL.out; omega)))
      have HA := Lib.hid hall
      have F5 := Lib.hid hf5
      have SS := Lib.hid fr.size
      have x3 := (Blk.cell (cs := #[.int .i64 (z : Int), .slice A0 n0 c0, .slice A1 n1 c1, .slice A2 lf.length c2]) X5.out 3).trans (show _ = some (.slice A2 lf.length c2) from rfl)
      clear c5 hf5 fr hall
      go_wp2_with fail
      clear x3
      refine (show Calls Try.prog _ #[Rp.val ⟨some ⟨w.heap.size + 1 + 1, 0, none⟩, N, N, none, 0, 0, none, 0, 0⟩ 0, .slice A2 lf.length c2] w5 _ from rfail_any w5 ⟨some ⟨w.heap.size + 1 + 1, 0, none⟩, N, N, none, 0, 0, none, 0, 0⟩ 0 (by decide) A2 c2 lf (by have := M2.out; omega) (RF.out.below B5.out) HW.out).mono ?_
      rintro e w6 (⟨-, A3, c3, rfl, hr3, hbk, hb6⟩ | ⟨⟨x, hx, hn⟩, -, -⟩)
      rotate_left
      · exact absurd (HA.out x hx) (by omega)
      have XL5 := Lib.hid (show ∀ q, Pl.has { pl with f := some f } p q → w.heap.size + 1 + 1 < q from fun q hq => by have := (C5.out.lt q hq).2; have := YL.out; omega)
      have NL5 := Lib.hid (show ∀ q, Pl.has { pl with f := some f } p q → q < w5.heap.size from fun q hq => (C5.out.lt q hq).1)
      have C6 := Lib.hid (C5.out.below hb6)
      have Y6 := Lib.hid (Y5.out.below hb6 Y5.out.lt)
      have P6 := Lib.hid (P5.out.below hb6 P5.out.lt)
      have B6 := Lib.hid (B5.out.trans (hb6.mono B5.out.size))
      have S6 := Lib.hid hb6.size
      have R6 := Lib.hid hr3
      have HB6 := Lib.hid hbk
      clear hb6 X5 Y5 B5 C5 X4 P4 Y4 B4 C4
      go_wp2_with fail
      have Q7 := Lib.hid (Blk.new w6 33 #[.slice (some ⟨w.heap.size + 1 + 1, 0, none⟩) N N, .slice none 0 0, .int .i64 0, .slice A3 (failR 0 lf).length c3])
      have C7 := Lib.hid (C6.out.alloc (.cells #[.slice (some ⟨w.heap.size + 1 + 1, 0, none⟩) N N, .slice none 0 0, .int .i64 0, .slice A3 (failR 0 lf).length c3] 33))
      have Y7 := Lib.hid (Y6.out.alloc (.cells #[.slice (some ⟨w.heap.size + 1 + 1, 0, none⟩) N N, .slice none 0 0, .int .i64 0, .slice A3 (failR 0 lf).length c3] 33))
      have P7 := Lib.hid (P6.out.alloc (.cells #[.slice (some ⟨w.heap.size + 1 + 1, 0, none⟩) N N, .slice none 0 0, .int .i64 0, .slice A3 (failR 0 lf).length c3] 33))
      have B7 := Lib.hid (B6.out.alloc B6.out.size (.cells #[.slice (some ⟨w.heap.size + 1 + 1, 0, none⟩) N N, .slice none 0 0, .int .i64 0, .slice A3 (failR 0 lf).length c3] 33))
      have R7 := Lib.hid (RdI.below R6.out (Below.heap8 w6 (.cells #[.slice (some ⟨w.heap.size + 1 + 1, 0, none⟩) N N, .slice none 0 0, .int .i64 0, .slice A3 (failR 0 lf).length c3] 33)))
      have S7 := Lib.hid (show w6.heap.size ≤ (w6.alloc (.cells #[.slice (some ⟨w.heap.size + 1 + 1, 0, none⟩) N N, .slice none 0 0, .int .i64 0, .slice A3 (failR 0 lf).length c3] 33)).heap.size by simp)
      generalize w6.alloc (.cells #[.slice (some ⟨w.heap.size + 1 + 1, 0, none⟩) N N, .slice none 0 0, .int .i64 0, .slice A3 (failR 0 lf).length c3] 33) = m7 at Q7 C7 Y7 P7 B7 R7 S7 ⊢
      replace Q7 := Lib.hid (drew_blk Q7.out)
      replace C7 := Lib.hid C7.out.drew
      replace Y7 := Lib.hid (drew_blk Y7.out)
      replace P7 := Lib.hid (drew_blk P7.out)
      replace B7 := Lib.hid (Below.drew B7.out)
      replace R7 := Lib.hid (RdI.below R7.out (Below.drew (Below.refl _ m7)))
      replace S7 := Lib.hid (show w6.heap.size ≤ m7.drew.heap.size from S7.out)
      refine wp_region_only (S := fun w' => Blk w' w6.heap.size 33 #[.slice (some ⟨w.heap.size + 1 + 1, 0, none⟩) N N, .slice none 0 0, .int .i64 0, .slice A3 (failR 0 lf).length c3]) (by kernel_rfl) Q7.out (fun hHeld => ?_)
      refine wpAnyH_take (i := 0) (v := ?v1) rfl (by kernel_rfl) (by kernel_rfl) (by kernel_rfl) (fun _ _ _ h => h) (Or.inl ⟨by rfl, ?hy1⟩) hHeld ?rest1
      case hy1 =>
        intro w' hSw
        try dsimp only at hSw
        go_simp
        first | done | with_reducible rfl
      try simp only [Act.put, List.getElem_toArray, List.getElem_cons_zero, List.setIfInBounds_toArray, List.set_cons_zero, List.set_cons_succ]
      refine wpAnyH_take (i := 1) rfl (by kernel_rfl) (by kernel_rfl) (by kernel_rfl) (fun _ _ _ h => h) (yieldsIf_load_mid (by rfl) 33 (.tmp 8) (by rfl) w6.heap.size 0 (by rfl) [.slice (some ⟨w.heap.size + 1 + 1, 0, none⟩) N N, .slice none 0 0, .int .i64 0, .slice A3 (failR 0 lf).length c3] _ (fun w' hSw => Blk.rangeAt hSw) Try.underlying33 rfl size43) hHeld ?_
      try simp only [Act.put, List.getElem_toArray, List.getElem_cons_succ, List.getElem_cons_zero, List.setIfInBounds_toArray, List.set_cons_zero, List.set_cons_succ]
      refine wpAnyH_take (i := 2) (v := ?v2) rfl (by kernel_rfl) (by kernel_rfl) (by kernel_rfl) (fun _ _ _ h => h) (Or.inl ⟨by rfl, ?hy2⟩) hHeld ?rest2
      case hy2 =>
        intro w' hSw
        try dsimp only at hSw
        go_simp
        first | done | with_reducible rfl
      try simp only [Act.put, List.getElem_toArray, List.getElem_cons_succ, List.getElem_cons_zero, List.setIfInBounds_toArray, List.set_cons_zero, List.set_cons_succ]
      refine wpAnyH_ready (rs := [3]) (by kernel_rfl) (by simp) ?_
      refine AllReadyH.cons (by rfl) (fun K hK => ?_) AllReadyH.nil
      go_simp
      refine (num8_any _ _).mono ?_
      rintro e m8 ⟨rfl, rfl⟩
      refine hK.out _ _ Q7.out (fun hHeld => ?_)
      clear hK K
      try simp only [Act.put, List.getElem_toArray, List.getElem_cons_succ, List.getElem_cons_zero, List.setIfInBounds_toArray, List.set_cons_zero, List.set_cons_succ]
      refine wpAnyH_take (i := 4) (v := ?v3) rfl (by kernel_rfl) (by kernel_rfl) (by kernel_rfl) (fun _ _ _ h => h) (Or.inl ⟨by rfl, ?hy3⟩) hHeld ?rest3
      case hy3 =>
        intro w' hSw
        try dsimp only at hSw
        go_simp
        first | done | with_reducible rfl
      try simp only [Act.put, List.getElem_toArray, List.getElem_cons_succ, List.getElem_cons_zero, List.setIfInBounds_toArray, List.set_cons_zero, List.set_cons_succ]
      refine wpAnyH_take (i := 5) (v := ?v4) rfl (by kernel_rfl) (by kernel_rfl) (by kernel_rfl) (fun _ _ _ h => h) (Or.inl ⟨by rfl, ?hy4⟩) hHeld ?rest4
      case hy4 =>
        intro w' hSw
        try dsimp only at hSw
        go_simp
        first | done | with_reducible rfl
      try simp only [Act.put, List.getElem_toArray, List.getElem_cons_succ, List.getElem_cons_zero, List.setIfInBounds_toArray, List.set_cons_zero, List.set_cons_succ]
      refine wpAnyH_ready (rs := [6]) (by kernel_rfl) (by simp) ?_
      refine AllReadyH.cons (by rfl) (fun K hK => ?_) AllReadyH.nil
      refine step_store_whole8 rfl 33 (.tmp 3) (.tmp 46) rfl (by rfl) #[.slice (some ⟨w.heap.size + 1 + 1, 0, none⟩) N N, .slice none 0 0, .int .i64 0, .slice A3 (failR 0 lf).length c3] #[.slice none 0 0, .slice none 0 0, .int .i64 0, .slice none 0 0] 33 (by rfl) P7.out (size43c8 _ _ _ _) rfl (one43c8 _ _ _ _ _ _ _ _ _) ?_
      intro m9 j9 f9
      have J9 := Lib.hid j9
      have Q9 := Lib.hid (f9.keepBlk Q7.out (by have := P6.out.lt; omega))
      have C9 := Lib.hid (C7.out.fr f9 (fun q hq e => by have := XL5.out q hq; omega))
      have Y9 := Lib.hid (f9.keepBlk Y7.out (by omega))
      have B9 := Lib.hid (B7.out.trans (f9.to_below (fun k e => by omega) B7.out.size))
      have R9 := Lib.hid (R7.out.fr8 f9 (fun b off e q => by have := HB6.out b off e; have := P5.out.lt; omega))
      have S9 := Lib.hid f9.size
      clear hHeld j9 f9 C7 Y7 B7 R7
      refine hK.out _ _ Q9.out (fun hHeld => ?_)
      clear hK K
      try simp only [Act.put, List.getElem_toArray, List.getElem_cons_succ, List.getElem_cons_zero]
      refine wpAnyH_take (i := 7) (v := ?v5) rfl (by kernel_rfl) (by kernel_rfl) (by kernel_rfl) (fun _ _ _ h => h) (Or.inl ⟨by rfl, ?hy5⟩) hHeld ?rest5
      case hy5 =>
        intro w' hSw
        try dsimp only at hSw
        go_simp
        first | done | with_reducible rfl
      try simp only [Act.put, List.getElem_toArray, List.getElem_cons_succ, List.getElem_cons_zero, List.setIfInBounds_toArray, List.set_cons_zero, List.set_cons_succ]
      refine wpAnyH_done (by kernel_rfl) ?_ _
      refine OnlyN.normal ?_
      clear hHeld
      go_wp2_with fail
      exact bodyPost_ret (results_begun rfl _ _ (w.heap.size + 1) #[.slice (some ⟨w.heap.size + 1 + 1, 0, none⟩) N N, .slice none 0 0, .int .i64 0, .slice A3 (failR 0 lf).length c3] rfl rfl J9.out) rfl ⟨p, _, _, ⟨some ⟨w.heap.size + 1 + 1, 0, none⟩, N, N, none, 0, 0, A3, (failR 0 lf).length, c3⟩, failR 0 lf, rfl, bo_made C9.out (by have := YL.out; omega) (by have := S4.out; have := SS.out; have := S6.out; have := S7.out; have := S9.out; omega) NE.out (by rw [LM.out]; exact NE.out) Y9.out YL.out R9.out (fun b off e => (HB6.out b off e).1) NL5.out (Nat.le_trans (failR_le 0 lf) M2.out) z1 z2 (al_made _ _ _), B9.out, fun b hb => made_at (fun b off e => (HB6.out b off e).1) (by have := P5.out.lt; omega) hb⟩
    · have C5 := Lib.hid (C4.out.below hb5)
      have X5 := Lib.hid (show Blk w5 w.heap.size 26 #[.int .i64 (z : Int), .slice A0 n0 c0, .slice A1 n1 c1, .slice A2 lf.length c2] from X4.out.below hb5 X4.out.lt)
      have P5 := Lib.hid (show Blk w5 (w.heap.size + 1) 33 #[.slice none 0 0, .slice none 0 0, .int .i64 0, .slice none 0 0] from P4.out.below hb5 P4.out.lt)
      have Y5 := Lib.hid (show Blk w5 (w.heap.size + 1 + 1) 5 (bv (mB z l0 l1)).toArray from Y4.out.below hb5 Y4.out.lt)
      have B5 := Lib.hid (B4.out.trans (hb5.mono B4.out.size))
      have SS := Lib.hid hb5.size
      have HA := Lib.hid hex
      have x3 := (Blk.cell (cs := #[.int .i64 (z : Int), .slice A0 n0 c0, .slice A1 n1 c1, .slice A2 lf.length c2]) X5.out 3).trans (show _ = some (.slice A2 lf.length c2) from rfl)
      clear hb5 hex
      go_wp2_with fail
      clear x3
      refine (show Calls Try.prog _ #[Rp.val ⟨some ⟨w.heap.size + 1 + 1, 0, none⟩, N, N, none, 0, 0, none, 0, 0⟩ 0, .slice A2 lf.length c2] w5 _ from rfail_any w5 ⟨some ⟨w.heap.size + 1 + 1, 0, none⟩, N, N, none, 0, 0, none, 0, 0⟩ 0 (by decide) A2 c2 lf (by have := M2.out; omega) (RF.out.below B5.out) HW.out).mono ?_
      rintro e w6 (⟨hall, -, -, -, -, -, -⟩ | ⟨-, rfl, hb6⟩)
      · obtain ⟨x, hx, hn⟩ := HA.out
        exact absurd (hall x hx) (by omega)
      have XL5 := Lib.hid (show ∀ q, Pl.has pl p q → w.heap.size + 1 + 1 < q from fun q hq => by have := (C5.out.lt q hq).2; have := YL.out; omega)
      have NL5 := Lib.hid (show ∀ q, Pl.has pl p q → q < w5.heap.size from fun q hq => (C5.out.lt q hq).1)
      have C6 := Lib.hid (C5.out.below hb6)
      have Y6 := Lib.hid (Y5.out.below hb6 Y5.out.lt)
      have P6 := Lib.hid (P5.out.below hb6 P5.out.lt)
      have B6 := Lib.hid (B5.out.trans (hb6.mono B5.out.size))
      have S6 := Lib.hid hb6.size
      have R6 := Lib.hid (show RdI w6 none [] from fun j hj => absurd hj (by simp))
      have HB6 := Lib.hid (show ∀ b off, (none : Option Addr) = some ⟨b, off, none⟩ → w5.heap.size ≤ b ∧ b < w6.heap.size from fun b off e => by cases e)
      clear hb6 X5 Y5 B5 C5 X4 P4 Y4 B4 C4
      go_wp2_with fail
      have Q7 := Lib.hid (Blk.new w6 33 #[.slice (some ⟨w.heap.size + 1 + 1, 0, none⟩) N N, .slice none 0 0, .int .i64 0, .slice none 0 0])
      have C7 := Lib.hid (C6.out.alloc (.cells #[.slice (some ⟨w.heap.size + 1 + 1, 0, none⟩) N N, .slice none 0 0, .int .i64 0, .slice none 0 0] 33))
      have Y7 := Lib.hid (Y6.out.alloc (.cells #[.slice (some ⟨w.heap.size + 1 + 1, 0, none⟩) N N, .slice none 0 0, .int .i64 0, .slice none 0 0] 33))
      have P7 := Lib.hid (P6.out.alloc (.cells #[.slice (some ⟨w.heap.size + 1 + 1, 0, none⟩) N N, .slice none 0 0, .int .i64 0, .slice none 0 0] 33))
      have B7 := Lib.hid (B6.out.alloc B6.out.size (.cells #[.slice (some ⟨w.heap.size + 1 + 1, 0, none⟩) N N, .slice none 0 0, .int .i64 0, .slice none 0 0] 33))
      have R7 := Lib.hid (RdI.below R6.out (Below.heap8 w6 (.cells #[.slice (some ⟨w.heap.size + 1 + 1, 0, none⟩) N N, .slice none 0 0, .int .i64 0, .slice none 0 0] 33)))
      have S7 := Lib.hid (show w6.heap.size ≤ (w6.alloc (.cells #[.slice (some ⟨w.heap.size + 1 + 1, 0, none⟩) N N, .slice none 0 0, .int .i64 0, .slice none 0 0] 33)).heap.size by simp)
      generalize w6.alloc (.cells #[.slice (some ⟨w.heap.size + 1 + 1, 0, none⟩) N N, .slice none 0 0, .int .i64 0, .slice none 0 0] 33) = m7 at Q7 C7 Y7 P7 B7 R7 S7 ⊢
      replace Q7 := Lib.hid (drew_blk Q7.out)
      replace C7 := Lib.hid C7.out.drew
      replace Y7 := Lib.hid (drew_blk Y7.out)
      replace P7 := Lib.hid (drew_blk P7.out)
      replace B7 := Lib.hid (Below.drew B7.out)
      replace R7 := Lib.hid (RdI.below R7.out (Below.drew (Below.refl _ m7)))
      replace S7 := Lib.hid (show w6.heap.size ≤ m7.drew.heap.size from S7.out)
      refine wp_region_only (S := fun w' => Blk w' w6.heap.size 33 #[.slice (some ⟨w.heap.size + 1 + 1, 0, none⟩) N N, .slice none 0 0, .int .i64 0, .slice none 0 0]) (by kernel_rfl) Q7.out (fun hHeld => ?_)
      refine wpAnyH_take (i := 0) (v := ?v6) rfl (by kernel_rfl) (by kernel_rfl) (by kernel_rfl) (fun _ _ _ h => h) (Or.inl ⟨by rfl, ?hy6⟩) hHeld ?rest6
      case hy6 =>
        intro w' hSw
        try dsimp only at hSw
        go_simp
        first | done | with_reducible rfl
      try simp only [Act.put, List.getElem_toArray, List.getElem_cons_zero, List.setIfInBounds_toArray, List.set_cons_zero, List.set_cons_succ]
      refine wpAnyH_take (i := 1) rfl (by kernel_rfl) (by kernel_rfl) (by kernel_rfl) (fun _ _ _ h => h) (yieldsIf_load_mid (by rfl) 33 (.tmp 8) (by rfl) w6.heap.size 0 (by rfl) [.slice (some ⟨w.heap.size + 1 + 1, 0, none⟩) N N, .slice none 0 0, .int .i64 0, .slice none 0 0] _ (fun w' hSw => Blk.rangeAt hSw) Try.underlying33 rfl size43) hHeld ?_
      try simp only [Act.put, List.getElem_toArray, List.getElem_cons_succ, List.getElem_cons_zero, List.setIfInBounds_toArray, List.set_cons_zero, List.set_cons_succ]
      refine wpAnyH_take (i := 2) (v := ?v7) rfl (by kernel_rfl) (by kernel_rfl) (by kernel_rfl) (fun _ _ _ h => h) (Or.inl ⟨by rfl, ?hy7⟩) hHeld ?rest7
      case hy7 =>
        intro w' hSw
        try dsimp only at hSw
        go_simp
        first | done | with_reducible rfl
      try simp only [Act.put, List.getElem_toArray, List.getElem_cons_succ, List.getElem_cons_zero, List.setIfInBounds_toArray, List.set_cons_zero, List.set_cons_succ]
      refine wpAnyH_ready (rs := [3]) (by kernel_rfl) (by simp) ?_
      refine AllReadyH.cons (by rfl) (fun K hK => ?_) AllReadyH.nil
      go_simp
      refine (num8_any _ _).mono ?_
      rintro e m8 ⟨rfl, rfl⟩
      refine hK.out _ _ Q7.out (fun hHeld => ?_)
      clear hK K
      try simp only [Act.put, List.getElem_toArray, List.getElem_cons_succ, List.getElem_cons_zero, List.setIfInBounds_toArray, List.set_cons_zero, List.set_cons_succ]
      refine wpAnyH_take (i := 4) (v := ?v8) rfl (by kernel_rfl) (by kernel_rfl) (by kernel_rfl) (fun _ _ _ h => h) (Or.inl ⟨by rfl, ?hy8⟩) hHeld ?rest8
      case hy8 =>
        intro w' hSw
        try dsimp only at hSw
        go_simp
        first | done | with_reducible rfl
      try simp only [Act.put, List.getElem_toArray, List.getElem_cons_succ, List.getElem_cons_zero, List.setIfInBounds_toArray, List.set_cons_zero, List.set_cons_succ]
      refine wpAnyH_take (i := 5) (v := ?v9) rfl (by kernel_rfl) (by kernel_rfl) (by kernel_rfl) (fun _ _ _ h => h) (Or.inl ⟨by rfl, ?hy9⟩) hHeld ?rest9
      case hy9 =>
        intro w' hSw
        try dsimp only at hSw
        go_simp
        first | done | with_reducible rfl
      try simp only [Act.put, List.getElem_toArray, List.getElem_cons_succ, List.getElem_cons_zero, List.setIfInBounds_toArray, List.set_cons_zero, List.set_cons_succ]
      refine wpAnyH_ready (rs := [6]) (by kernel_rfl) (by simp) ?_
      refine AllReadyH.cons (by rfl) (fun K hK => ?_) AllReadyH.nil
      refine step_store_whole8 rfl 33 (.tmp 3) (.tmp 46) rfl (by rfl) #[.slice (some ⟨w.heap.size + 1 + 1, 0, none⟩) N N, .slice none 0 0, .int .i64 0, .slice none 0 0] #[.slice none 0 0, .slice none 0 0, .int .i64 0, .slice none 0 0] 33 (by rfl) P7.out (size43c8 _ _ _ _) rfl (one43c8 _ _ _ _ _ _ _ _ _) ?_
      intro m9 j9 f9
      have J9 := Lib.hid j9
      have Q9 := Lib.hid (f9.keepBlk Q7.out (by have := P6.out.lt; omega))
      have C9 := Lib.hid (C7.out.fr f9 (fun q hq e => by have := XL5.out q hq; omega))
      have Y9 := Lib.hid (f9.keepBlk Y7.out (by omega))
      have B9 := Lib.hid (B7.out.trans (f9.to_below (fun k e => by omega) B7.out.size))
      have R9 := Lib.hid (R7.out.fr8 f9 (fun b off e q => by have := HB6.out b off e; have := P5.out.lt; omega))
      have S9 := Lib.hid f9.size
      clear hHeld j9 f9 C7 Y7 B7 R7
      refine hK.out _ _ Q9.out (fun hHeld => ?_)
      clear hK K
      try simp only [Act.put, List.getElem_toArray, List.getElem_cons_succ, List.getElem_cons_zero]
      refine wpAnyH_take (i := 7) (v := ?v10) rfl (by kernel_rfl) (by kernel_rfl) (by kernel_rfl) (fun _ _ _ h => h) (Or.inl ⟨by rfl, ?hy10⟩) hHeld ?rest10
      case hy10 =>
        intro w' hSw
        try dsimp only at hSw
        go_simp
        first | done | with_reducible rfl
      try simp only [Act.put, List.getElem_toArray, List.getElem_cons_succ, List.getElem_cons_zero, List.setIfInBounds_toArray, List.set_cons_zero, List.set_cons_succ]
      refine wpAnyH_done (by kernel_rfl) ?_ _
      refine OnlyN.normal ?_
      clear hHeld
      go_wp2_with fail
      exact bodyPost_ret (results_begun rfl _ _ (w.heap.size + 1) #[.slice (some ⟨w.heap.size + 1 + 1, 0, none⟩) N N, .slice none 0 0, .int .i64 0, .slice none 0 0] rfl rfl J9.out) rfl ⟨p, _, _, ⟨some ⟨w.heap.size + 1 + 1, 0, none⟩, N, N, none, 0, 0, none, 0, 0⟩, [], rfl, bo_made C9.out (by have := YL.out; omega) (by have := S4.out; have := SS.out; have := S6.out; have := S7.out; have := S9.out; omega) NE.out (by rw [LM.out]; exact NE.out) Y9.out YL.out R9.out (fun b off e => (HB6.out b off e).1) NL5.out (Nat.zero_le _) z1 z2 (al_made0 _ _), B9.out, fun b hb => made_at (fun b off e => (HB6.out b off e).1) (by have := P5.out.lt; omega) hb⟩
  · skip
    have d1 : decide ((1 : Int) < (z : Int)) = false := by simp; omega
    have d2 : ¬ (1 : Int) < (z : Int) := by omega
    go_enter Try.func9, Try.ntmps9
    go_wp2_with (refine wpList_copy_sec rfl (.tmp 14) (.tmp 17) rfl Try.underlying22 size5 0 N N A0 n0 c0 rfl rfl (List.replicate N 0) l0 Y1.out K0.out (R0.out.below B1.out) K1.out ?_; intro w2 hb hf; have Y2 := Lib.hid hb; have X2 := (hf.block _ X1.out.lt (by omega)).trans X1.out; have P2 := Lib.hid (show Blk w2 (w.heap.size + 1) 33 #[.slice none 0 0, .slice none 0 0, .int .i64 0, .slice none 0 0] from (hf.block _ P1.out.lt (by omega)).trans P1.out); have B2 := Lib.hid (B1.out.trans (hf.to_below K2.out B1.out.size)); have x0 := (Blk.cell (cs := #[.int .i64 (z : Int), .slice A0 n0 c0, .slice A1 n1 c1, .slice A2 lf.length c2]) X2 0).trans (show _ = some (.int .i64 (z : Int)) from rfl); have x2 := (Blk.cell (cs := #[.int .i64 (z : Int), .slice A0 n0 c0, .slice A1 n1 c1, .slice A2 lf.length c2]) X2 2).trans (show _ = some (.slice A1 n1 c1) from rfl); clear hb hf)
    have Y3 := Lib.hid (show Blk w2 (w.heap.size + 1 + 1) 5 (bv (mB z l0 l1)).toArray by
      unfold mB
      rw [if_neg hgt, ← NE.out]
      exact Y2.out)
    have X3 := Lib.hid (show Blk w2 w.heap.size 26 #[.int .i64 (z : Int), .slice A0 n0 c0, .slice A1 n1 c1, .slice A2 lf.length c2] from X2)
    have P3 := Lib.hid (show Blk w2 (w.heap.size + 1) 33 #[.slice none 0 0, .slice none 0 0, .int .i64 0, .slice none 0 0] from P2.out)
    have B3 := B2
    clear d1 d2 x0 x2
    have LM := Lib.hid (show (mB z l0 l1).length = N by rw [mB_length (by rw [H0.out]; exact M0.out) (by rw [H1.out]; exact M1.out) z1]; exact NE.out.symm)
    have YL := Lib.hid Y3.out.lt
    have OF := of_ok w2 (w.heap.size + 1 + 1) 0 N z (mB z l0 l1) (by rw [LM.out]; exact NE.out) z1 (by omega) (by rw [LM.out]; exact Nat.le_refl _) (rd_blk Y3.out 0 _ (fun j hj => by rw [Nat.zero_add, bv_get, List.getElem?_eq_getElem hj]; rfl))
    rw [LM.out] at OF
    refine OF.mono ?_
    rintro e w4 ⟨p, pl, rfl, c4, b4⟩
    have C4 := Lib.hid c4
    have X4 := Lib.hid (X3.out.below b4 X3.out.lt)
    have P4 := Lib.hid (P3.out.below b4 P3.out.lt)
    have Y4 := Lib.hid (Y3.out.below b4 YL.out)
    have B4 := Lib.hid (B3.out.trans (b4.mono B3.out.size))
    have S4 := Lib.hid b4.size
    have x3 := (Blk.cell (cs := #[.int .i64 (z : Int), .slice A0 n0 c0, .slice A1 n1 c1, .slice A2 lf.length c2]) X4.out 3).trans (show _ = some (.slice A2 lf.length c2) from rfl)
    clear c4 b4 OF X3 P3 Y3 B3
    go_wp2_with fail
    clear x3
    have XL := Lib.hid (show ∀ q, q ≤ w.heap.size + 1 + 1 → ¬ pl.has p q from fun q hq hk => by have := (C4.out.lt q hk).2; have := YL.out; omega)
    refine (fail_any C4.out S4.out A2 c2 lf (by have := M2.out; omega) (RF.out.below B4.out)).mono ?_
    rintro e w5 (⟨hall, rfl, ⟨f, c5, hf5⟩, fr⟩ | ⟨hex, rfl, hb5⟩)
    · have C5 := Lib.hid c5
      have X5 := Lib.hid (show Blk w5 w.heap.size 26 #[.int .i64 (z : Int), .slice A0 n0 c0, .slice A1 n1 c1, .slice A2 lf.length c2] from (fr.block _ X4.out.lt (XL.out _ (by omega))).trans X4.out)
      have P5 := Lib.hid (show Blk w5 (w.heap.size + 1) 33 #[.slice none 0 0, .slice none 0 0, .int .i64 0, .slice none 0 0] from (fr.block _ P4.out.lt (XL.out _ (by omega))).trans P4.out)
      have Y5 := Lib.hid (show Blk w5 (w.heap.size + 1 + 1) 5 (bv (mB z l0 l1)).toArray from (fr.block _ Y4.out.lt (XL.out _ (by omega))).trans Y4.out)
      have B5 := Lib.hid (B4.out.trans ((fr.to_below (fun k hk => (C4.out.lt k hk).2) S4.out).mono (by have := YL.out; omega)))
      have HA := Lib.hid hall
      have F5 := Lib.hid hf5
      have SS := Lib.hid fr.size
      have x3 := (Blk.cell (cs := #[.int .i64 (z : Int), .slice A0 n0 c0, .slice A1 n1 c1, .slice A2 lf.length c2]) X5.out 3).trans (show _ = some (.slice A2 lf.length c2) from rfl)
      clear c5 hf5 fr hall
      go_wp2_with fail
      clear x3
      refine (show Calls Try.prog _ #[Rp.val ⟨some ⟨w.heap.size + 1 + 1, 0, none⟩, N, N, none, 0, 0, none, 0, 0⟩ 0, .slice A2 lf.length c2] w5 _ from rfail_any w5 ⟨some ⟨w.heap.size + 1 + 1, 0, none⟩, N, N, none, 0, 0, none, 0, 0⟩ 0 (by decide) A2 c2 lf (by have := M2.out; omega) (RF.out.below B5.out) HW.out).mono ?_
      rintro e w6 (⟨-, A3, c3, rfl, hr3, hbk, hb6⟩ | ⟨⟨x, hx, hn⟩, -, -⟩)
      rotate_left
      · exact absurd (HA.out x hx) (by omega)
      have XL5 := Lib.hid (show ∀ q, Pl.has { pl with f := some f } p q → w.heap.size + 1 + 1 < q from fun q hq => by have := (C5.out.lt q hq).2; have := YL.out; omega)
      have NL5 := Lib.hid (show ∀ q, Pl.has { pl with f := some f } p q → q < w5.heap.size from fun q hq => (C5.out.lt q hq).1)
      have C6 := Lib.hid (C5.out.below hb6)
      have Y6 := Lib.hid (Y5.out.below hb6 Y5.out.lt)
      have P6 := Lib.hid (P5.out.below hb6 P5.out.lt)
      have B6 := Lib.hid (B5.out.trans (hb6.mono B5.out.size))
      have S6 := Lib.hid hb6.size
      have R6 := Lib.hid hr3
      have HB6 := Lib.hid hbk
      clear hb6 X5 Y5 B5 C5 X4 P4 Y4 B4 C4
      go_wp2_with fail
      have Q7 := Lib.hid (Blk.new w6 33 #[.slice (some ⟨w.heap.size + 1 + 1, 0, none⟩) N N, .slice none 0 0, .int .i64 0, .slice A3 (failR 0 lf).length c3])
      have C7 := Lib.hid (C6.out.alloc (.cells #[.slice (some ⟨w.heap.size + 1 + 1, 0, none⟩) N N, .slice none 0 0, .int .i64 0, .slice A3 (failR 0 lf).length c3] 33))
      have Y7 := Lib.hid (Y6.out.alloc (.cells #[.slice (some ⟨w.heap.size + 1 + 1, 0, none⟩) N N, .slice none 0 0, .int .i64 0, .slice A3 (failR 0 lf).length c3] 33))
      have P7 := Lib.hid (P6.out.alloc (.cells #[.slice (some ⟨w.heap.size + 1 + 1, 0, none⟩) N N, .slice none 0 0, .int .i64 0, .slice A3 (failR 0 lf).length c3] 33))
      have B7 := Lib.hid (B6.out.alloc B6.out.size (.cells #[.slice (some ⟨w.heap.size + 1 + 1, 0, none⟩) N N, .slice none 0 0, .int .i64 0, .slice A3 (failR 0 lf).length c3] 33))
      have R7 := Lib.hid (RdI.below R6.out (Below.heap8 w6 (.cells #[.slice (some ⟨w.heap.size + 1 + 1, 0, none⟩) N N, .slice none 0 0, .int .i64 0, .slice A3 (failR 0 lf).length c3] 33)))
      have S7 := Lib.hid (show w6.heap.size ≤ (w6.alloc (.cells #[.slice (some ⟨w.heap.size + 1 + 1, 0, none⟩) N N, .slice none 0 0, .int .i64 0, .slice A3 (failR 0 lf).length c3] 33)).heap.size by simp)
      generalize w6.alloc (.cells #[.slice (some ⟨w.heap.size + 1 + 1, 0, none⟩) N N, .slice none 0 0, .int .i64 0, .slice A3 (failR 0 lf).length c3] 33) = m7 at Q7 C7 Y7 P7 B7 R7 S7 ⊢
      replace Q7 := Lib.hid (drew_blk Q7.out)
      replace C7 := Lib.hid C7.out.drew
      replace Y7 := Lib.hid (drew_blk Y7.out)
      replace P7 := Lib.hid (drew_blk P7.out)
      replace B7 := Lib.hid (Below.drew B7.out)
      replace R7 := Lib.hid (RdI.below R7.out (Below.drew (Below.refl _ m7)))
      replace S7 := Lib.hid (show w6.heap.size ≤ m7.drew.heap.size from S7.out)
      refine wp_region_only (S := fun w' => Blk w' w6.heap.size 33 #[.slice (some ⟨w.heap.size + 1 + 1, 0, none⟩) N N, .slice none 0 0, .int .i64 0, .slice A3 (failR 0 lf).length c3]) (by kernel_rfl) Q7.out (fun hHeld => ?_)
      refine wpAnyH_take (i := 0) (v := ?v11) rfl (by kernel_rfl) (by kernel_rfl) (by kernel_rfl) (fun _ _ _ h => h) (Or.inl ⟨by rfl, ?hy11⟩) hHeld ?rest11
      case hy11 =>
        intro w' hSw
        try dsimp only at hSw
        go_simp
        first | done | with_reducible rfl
      try simp only [Act.put, List.getElem_toArray, List.getElem_cons_zero, List.setIfInBounds_toArray, List.set_cons_zero, List.set_cons_succ]
      refine wpAnyH_take (i := 1) rfl (by kernel_rfl) (by kernel_rfl) (by kernel_rfl) (fun _ _ _ h => h) (yieldsIf_load_mid (by rfl) 33 (.tmp 8) (by rfl) w6.heap.size 0 (by rfl) [.slice (some ⟨w.heap.size + 1 + 1, 0, none⟩) N N, .slice none 0 0, .int .i64 0, .slice A3 (failR 0 lf).length c3] _ (fun w' hSw => Blk.rangeAt hSw) Try.underlying33 rfl size43) hHeld ?_
      try simp only [Act.put, List.getElem_toArray, List.getElem_cons_succ, List.getElem_cons_zero, List.setIfInBounds_toArray, List.set_cons_zero, List.set_cons_succ]
      refine wpAnyH_take (i := 2) (v := ?v12) rfl (by kernel_rfl) (by kernel_rfl) (by kernel_rfl) (fun _ _ _ h => h) (Or.inl ⟨by rfl, ?hy12⟩) hHeld ?rest12
      case hy12 =>
        intro w' hSw
        try dsimp only at hSw
        go_simp
        first | done | with_reducible rfl
      try simp only [Act.put, List.getElem_toArray, List.getElem_cons_succ, List.getElem_cons_zero, List.setIfInBounds_toArray, List.set_cons_zero, List.set_cons_succ]
      refine wpAnyH_ready (rs := [3]) (by kernel_rfl) (by simp) ?_
      refine AllReadyH.cons (by rfl) (fun K hK => ?_) AllReadyH.nil
      go_simp
      refine (num8_any _ _).mono ?_
      rintro e m8 ⟨rfl, rfl⟩
      refine hK.out _ _ Q7.out (fun hHeld => ?_)
      clear hK K
      try simp only [Act.put, List.getElem_toArray, List.getElem_cons_succ, List.getElem_cons_zero, List.setIfInBounds_toArray, List.set_cons_zero, List.set_cons_succ]
      refine wpAnyH_take (i := 4) (v := ?v13) rfl (by kernel_rfl) (by kernel_rfl) (by kernel_rfl) (fun _ _ _ h => h) (Or.inl ⟨by rfl, ?hy13⟩) hHeld ?rest13
      case hy13 =>
        intro w' hSw
        try dsimp only at hSw
        go_simp
        first | done | with_reducible rfl
      try simp only [Act.put, List.getElem_toArray, List.getElem_cons_succ, List.getElem_cons_zero, List.setIfInBounds_toArray, List.set_cons_zero, List.set_cons_succ]
      refine wpAnyH_take (i := 5) (v := ?v14) rfl (by kernel_rfl) (by kernel_rfl) (by kernel_rfl) (fun _ _ _ h => h) (Or.inl ⟨by rfl, ?hy14⟩) hHeld ?rest14
      case hy14 =>
        intro w' hSw
        try dsimp only at hSw
        go_simp
        first | done | with_reducible rfl
      try simp only [Act.put, List.getElem_toArray, List.getElem_cons_succ, List.getElem_cons_zero, List.setIfInBounds_toArray, List.set_cons_zero, List.set_cons_succ]
      refine wpAnyH_ready (rs := [6]) (by kernel_rfl) (by simp) ?_
      refine AllReadyH.cons (by rfl) (fun K hK => ?_) AllReadyH.nil
      refine step_store_whole8 rfl 33 (.tmp 3) (.tmp 46) rfl (by rfl) #[.slice (some ⟨w.heap.size + 1 + 1, 0, none⟩) N N, .slice none 0 0, .int .i64 0, .slice A3 (failR 0 lf).length c3] #[.slice none 0 0, .slice none 0 0, .int .i64 0, .slice none 0 0] 33 (by rfl) P7.out (size43c8 _ _ _ _) rfl (one43c8 _ _ _ _ _ _ _ _ _) ?_
      intro m9 j9 f9
      have J9 := Lib.hid j9
      have Q9 := Lib.hid (f9.keepBlk Q7.out (by have := P6.out.lt; omega))
      have C9 := Lib.hid (C7.out.fr f9 (fun q hq e => by have := XL5.out q hq; omega))
      have Y9 := Lib.hid (f9.keepBlk Y7.out (by omega))
      have B9 := Lib.hid (B7.out.trans (f9.to_below (fun k e => by omega) B7.out.size))
      have R9 := Lib.hid (R7.out.fr8 f9 (fun b off e q => by have := HB6.out b off e; have := P5.out.lt; omega))
      have S9 := Lib.hid f9.size
      clear hHeld j9 f9 C7 Y7 B7 R7
      refine hK.out _ _ Q9.out (fun hHeld => ?_)
      clear hK K
      try simp only [Act.put, List.getElem_toArray, List.getElem_cons_succ, List.getElem_cons_zero]
      refine wpAnyH_take (i := 7) (v := ?v15) rfl (by kernel_rfl) (by kernel_rfl) (by kernel_rfl) (fun _ _ _ h => h) (Or.inl ⟨by rfl, ?hy15⟩) hHeld ?rest15
      case hy15 =>
        intro w' hSw
        try dsimp only at hSw
        go_simp
        first | done | with_reducible rfl
      try simp only [Act.put, List.getElem_toArray, List.getElem_cons_succ, List.getElem_cons_zero, List.setIfInBounds_toArray, List.set_cons_zero, List.set_cons_succ]
      refine wpAnyH_done (by kernel_rfl) ?_ _
      refine OnlyN.normal ?_
      clear hHeld
      go_wp2_with fail
      exact bodyPost_ret (results_begun rfl _ _ (w.heap.size + 1) #[.slice (some ⟨w.heap.size + 1 + 1, 0, none⟩) N N, .slice none 0 0, .int .i64 0, .slice A3 (failR 0 lf).length c3] rfl rfl J9.out) rfl ⟨p, _, _, ⟨some ⟨w.heap.size + 1 + 1, 0, none⟩, N, N, none, 0, 0, A3, (failR 0 lf).length, c3⟩, failR 0 lf, rfl, bo_made C9.out (by have := YL.out; omega) (by have := S4.out; have := SS.out; have := S6.out; have := S7.out; have := S9.out; omega) NE.out (by rw [LM.out]; exact NE.out) Y9.out YL.out R9.out (fun b off e => (HB6.out b off e).1) NL5.out (Nat.le_trans (failR_le 0 lf) M2.out) z1 z2 (al_made _ _ _), B9.out, fun b hb => made_at (fun b off e => (HB6.out b off e).1) (by have := P5.out.lt; omega) hb⟩
    · have C5 := Lib.hid (C4.out.below hb5)
      have X5 := Lib.hid (show Blk w5 w.heap.size 26 #[.int .i64 (z : Int), .slice A0 n0 c0, .slice A1 n1 c1, .slice A2 lf.length c2] from X4.out.below hb5 X4.out.lt)
      have P5 := Lib.hid (show Blk w5 (w.heap.size + 1) 33 #[.slice none 0 0, .slice none 0 0, .int .i64 0, .slice none 0 0] from P4.out.below hb5 P4.out.lt)
      have Y5 := Lib.hid (show Blk w5 (w.heap.size + 1 + 1) 5 (bv (mB z l0 l1)).toArray from Y4.out.below hb5 Y4.out.lt)
      have B5 := Lib.hid (B4.out.trans (hb5.mono B4.out.size))
      have SS := Lib.hid hb5.size
      have HA := Lib.hid hex
      have x3 := (Blk.cell (cs := #[.int .i64 (z : Int), .slice A0 n0 c0, .slice A1 n1 c1, .slice A2 lf.length c2]) X5.out 3).trans (show _ = some (.slice A2 lf.length c2) from rfl)
      clear hb5 hex
      go_wp2_with fail
      clear x3
      refine (show Calls Try.prog _ #[Rp.val ⟨some ⟨w.heap.size + 1 + 1, 0, none⟩, N, N, none, 0, 0, none, 0, 0⟩ 0, .slice A2 lf.length c2] w5 _ from rfail_any w5 ⟨some ⟨w.heap.size + 1 + 1, 0, none⟩, N, N, none, 0, 0, none, 0, 0⟩ 0 (by decide) A2 c2 lf (by have := M2.out; omega) (RF.out.below B5.out) HW.out).mono ?_
      rintro e w6 (⟨hall, -, -, -, -, -, -⟩ | ⟨-, rfl, hb6⟩)
      · obtain ⟨x, hx, hn⟩ := HA.out
        exact absurd (hall x hx) (by omega)
      have XL5 := Lib.hid (show ∀ q, Pl.has pl p q → w.heap.size + 1 + 1 < q from fun q hq => by have := (C5.out.lt q hq).2; have := YL.out; omega)
      have NL5 := Lib.hid (show ∀ q, Pl.has pl p q → q < w5.heap.size from fun q hq => (C5.out.lt q hq).1)
      have C6 := Lib.hid (C5.out.below hb6)
      have Y6 := Lib.hid (Y5.out.below hb6 Y5.out.lt)
      have P6 := Lib.hid (P5.out.below hb6 P5.out.lt)
      have B6 := Lib.hid (B5.out.trans (hb6.mono B5.out.size))
      have S6 := Lib.hid hb6.size
      have R6 := Lib.hid (show RdI w6 none [] from fun j hj => absurd hj (by simp))
      have HB6 := Lib.hid (show ∀ b off, (none : Option Addr) = some ⟨b, off, none⟩ → w5.heap.size ≤ b ∧ b < w6.heap.size from fun b off e => by cases e)
      clear hb6 X5 Y5 B5 C5 X4 P4 Y4 B4 C4
      go_wp2_with fail
      have Q7 := Lib.hid (Blk.new w6 33 #[.slice (some ⟨w.heap.size + 1 + 1, 0, none⟩) N N, .slice none 0 0, .int .i64 0, .slice none 0 0])
      have C7 := Lib.hid (C6.out.alloc (.cells #[.slice (some ⟨w.heap.size + 1 + 1, 0, none⟩) N N, .slice none 0 0, .int .i64 0, .slice none 0 0] 33))
      have Y7 := Lib.hid (Y6.out.alloc (.cells #[.slice (some ⟨w.heap.size + 1 + 1, 0, none⟩) N N, .slice none 0 0, .int .i64 0, .slice none 0 0] 33))
      have P7 := Lib.hid (P6.out.alloc (.cells #[.slice (some ⟨w.heap.size + 1 + 1, 0, none⟩) N N, .slice none 0 0, .int .i64 0, .slice none 0 0] 33))
      have B7 := Lib.hid (B6.out.alloc B6.out.size (.cells #[.slice (some ⟨w.heap.size + 1 + 1, 0, none⟩) N N, .slice none 0 0, .int .i64 0, .slice none 0 0] 33))
      have R7 := Lib.hid (RdI.below R6.out (Below.heap8 w6 (.cells #[.slice (some ⟨w.heap.size + 1 + 1, 0, none⟩) N N, .slice none 0 0, .int .i64 0, .slice none 0 0] 33)))
      have S7 := Lib.hid (show w6.heap.size ≤ (w6.alloc (.cells #[.slice (some ⟨w.heap.size + 1 + 1, 0, none⟩) N N, .slice none 0 0, .int .i64 0, .slice none 0 0] 33)).heap.size by simp)
      generalize w6.alloc (.cells #[.slice (some ⟨w.heap.size + 1 + 1, 0, none⟩) N N, .slice none 0 0, .int .i64 0, .slice none 0 0] 33) = m7 at Q7 C7 Y7 P7 B7 R7 S7 ⊢
      replace Q7 := Lib.hid (drew_blk Q7.out)
      replace C7 := Lib.hid C7.out.drew
      replace Y7 := Lib.hid (drew_blk Y7.out)
      replace P7 := Lib.hid (drew_blk P7.out)
      replace B7 := Lib.hid (Below.drew B7.out)
      replace R7 := Lib.hid (RdI.below R7.out (Below.drew (Below.refl _ m7)))
      replace S7 := Lib.hid (show w6.heap.size ≤ m7.drew.heap.size from S7.out)
      refine wp_region_only (S := fun w' => Blk w' w6.heap.size 33 #[.slice (some ⟨w.heap.size + 1 + 1, 0, none⟩) N N, .slice none 0 0, .int .i64 0, .slice none 0 0]) (by kernel_rfl) Q7.out (fun hHeld => ?_)
      refine wpAnyH_take (i := 0) (v := ?v16) rfl (by kernel_rfl) (by kernel_rfl) (by kernel_rfl) (fun _ _ _ h => h) (Or.inl ⟨by rfl, ?hy16⟩) hHeld ?rest16
      case hy16 =>
        intro w' hSw
        try dsimp only at hSw
        go_simp
        first | done | with_reducible rfl
      try simp only [Act.put, List.getElem_toArray, List.getElem_cons_zero, List.setIfInBounds_toArray, List.set_cons_zero, List.set_cons_succ]
      refine wpAnyH_take (i := 1) rfl (by kernel_rfl) (by kernel_rfl) (by kernel_rfl) (fun _ _ _ h => h) (yieldsIf_load_mid (by rfl) 33 (.tmp 8) (by rfl) w6.heap.size 0 (by rfl) [.slice (some ⟨w.heap.size + 1 + 1, 0, none⟩) N N, .slice none 0 0, .int .i64 0, .slice none 0 0] _ (fun w' hSw => Blk.rangeAt hSw) Try.underlying33 rfl size43) hHeld ?_
      try simp only [Act.put, List.getElem_toArray, List.getElem_cons_succ, List.getElem_cons_zero, List.setIfInBounds_toArray, List.set_cons_zero, List.set_cons_succ]
      refine wpAnyH_take (i := 2) (v := ?v17) rfl (by kernel_rfl) (by kernel_rfl) (by kernel_rfl) (fun _ _ _ h => h) (Or.inl ⟨by rfl, ?hy17⟩) hHeld ?rest17
      case hy17 =>
        intro w' hSw
        try dsimp only at hSw
        go_simp
        first | done | with_reducible rfl
      try simp only [Act.put, List.getElem_toArray, List.getElem_cons_succ, List.getElem_cons_zero, List.setIfInBounds_toArray, List.set_cons_zero, List.set_cons_succ]
      refine wpAnyH_ready (rs := [3]) (by kernel_rfl) (by simp) ?_
      refine AllReadyH.cons (by rfl) (fun K hK => ?_) AllReadyH.nil
      go_simp
      refine (num8_any _ _).mono ?_
      rintro e m8 ⟨rfl, rfl⟩
      refine hK.out _ _ Q7.out (fun hHeld => ?_)
      clear hK K
      try simp only [Act.put, List.getElem_toArray, List.getElem_cons_succ, List.getElem_cons_zero, List.setIfInBounds_toArray, List.set_cons_zero, List.set_cons_succ]
      refine wpAnyH_take (i := 4) (v := ?v18) rfl (by kernel_rfl) (by kernel_rfl) (by kernel_rfl) (fun _ _ _ h => h) (Or.inl ⟨by rfl, ?hy18⟩) hHeld ?rest18
      case hy18 =>
        intro w' hSw
        try dsimp only at hSw
        go_simp
        first | done | with_reducible rfl
      try simp only [Act.put, List.getElem_toArray, List.getElem_cons_succ, List.getElem_cons_zero, List.setIfInBounds_toArray, List.set_cons_zero, List.set_cons_succ]
      refine wpAnyH_take (i := 5) (v := ?v19) rfl (by kernel_rfl) (by kernel_rfl) (by kernel_rfl) (fun _ _ _ h => h) (Or.inl ⟨by rfl, ?hy19⟩) hHeld ?rest19
      case hy19 =>
        intro w' hSw
        try dsimp only at hSw
        go_simp
        first | done | with_reducible rfl
      try simp only [Act.put, List.getElem_toArray, List.getElem_cons_succ, List.getElem_cons_zero, List.setIfInBounds_toArray, List.set_cons_zero, List.set_cons_succ]
      refine wpAnyH_ready (rs := [6]) (by kernel_rfl) (by simp) ?_
      refine AllReadyH.cons (by rfl) (fun K hK => ?_) AllReadyH.nil
      refine step_store_whole8 rfl 33 (.tmp 3) (.tmp 46) rfl (by rfl) #[.slice (some ⟨w.heap.size + 1 + 1, 0, none⟩) N N, .slice none 0 0, .int .i64 0, .slice none 0 0] #[.slice none 0 0, .slice none 0 0, .int .i64 0, .slice none 0 0] 33 (by rfl) P7.out (size43c8 _ _ _ _) rfl (one43c8 _ _ _ _ _ _ _ _ _) ?_
      intro m9 j9 f9
      have J9 := Lib.hid j9
      have Q9 := Lib.hid (f9.keepBlk Q7.out (by have := P6.out.lt; omega))
      have C9 := Lib.hid (C7.out.fr f9 (fun q hq e => by have := XL5.out q hq; omega))
      have Y9 := Lib.hid (f9.keepBlk Y7.out (by omega))
      have B9 := Lib.hid (B7.out.trans (f9.to_below (fun k e => by omega) B7.out.size))
      have R9 := Lib.hid (R7.out.fr8 f9 (fun b off e q => by have := HB6.out b off e; have := P5.out.lt; omega))
      have S9 := Lib.hid f9.size
      clear hHeld j9 f9 C7 Y7 B7 R7
      refine hK.out _ _ Q9.out (fun hHeld => ?_)
      clear hK K
      try simp only [Act.put, List.getElem_toArray, List.getElem_cons_succ, List.getElem_cons_zero]
      refine wpAnyH_take (i := 7) (v := ?v20) rfl (by kernel_rfl) (by kernel_rfl) (by kernel_rfl) (fun _ _ _ h => h) (Or.inl ⟨by rfl, ?hy20⟩) hHeld ?rest20
      case hy20 =>
        intro w' hSw
        try dsimp only at hSw
        go_simp
        first | done | with_reducible rfl
      try simp only [Act.put, List.getElem_toArray, List.getElem_cons_succ, List.getElem_cons_zero, List.setIfInBounds_toArray, List.set_cons_zero, List.set_cons_succ]
      refine wpAnyH_done (by kernel_rfl) ?_ _
      refine OnlyN.normal ?_
      clear hHeld
      go_wp2_with fail
      exact bodyPost_ret (results_begun rfl _ _ (w.heap.size + 1) #[.slice (some ⟨w.heap.size + 1 + 1, 0, none⟩) N N, .slice none 0 0, .int .i64 0, .slice none 0 0] rfl rfl J9.out) rfl ⟨p, _, _, ⟨some ⟨w.heap.size + 1 + 1, 0, none⟩, N, N, none, 0, 0, none, 0, 0⟩, [], rfl, bo_made C9.out (by have := YL.out; omega) (by have := S4.out; have := SS.out; have := S6.out; have := S7.out; have := S9.out; omega) NE.out (by rw [LM.out]; exact NE.out) Y9.out YL.out R9.out (fun b off e => (HB6.out b off e).1) NL5.out (Nat.zero_le _) z1 z2 (al_made0 _ _), B9.out, fun b hb => made_at (fun b off e => (HB6.out b off e).1) (by have := P5.out.lt; omega) hb⟩
set_option maxRecDepth 8000 in
theorem made_any (w : World) (z : Nat) (z1 : 1 ≤ z) (z2 : z ≤ 220) (A0 : Option Addr) (n0 c0 : Nat) (A1 : Option Addr) (n1 c1 : Nat) (A2 : Option Addr) (c2 : Nat) (l0 l1 : List UInt8) (lf : List Int) (h0 : l0.length = n0) (h1 : l1.length = n1)
    (m0 : n0 ≤ 512) (m1 : n1 ≤ 512) (m2 : lf.length ≤ 20) (r0 : Rd w A0 l0) (r1 : Rd w A1 l1) (rf : RdI w A2 lf) (hwf : ∀ x ∈ lf, x ≤ 9223372036854775807) :
    Calls Try.prog 9 #[.agg #[.int .i64 (z : Int), .slice A0 n0 c0, .slice A1 n1 c1, .slice A2 lf.length c2]] w fun e w' => ∃ p pl D r fl, e = .returned (.tuple #[.pointer (some ⟨p, 0, none⟩), Rp.val r 0, .bool true]) ∧
      Bo w' w.heap.size p pl D r ⟨mB z l0 l1, [], fl⟩ 0 z ∧ Below w.heap.size w w' := by
  refine (made_new w z z1 z2 A0 n0 c0 A1 n1 c1 A2 c2 l0 l1 lf h0 h1 m0 m1 m2 r0 r1 rf hwf).mono ?_
  rintro e w' ⟨p, pl, D, r, fl, e1, hb, hl, _⟩
  exact ⟨p, pl, D, r, fl, e1, hb, hl⟩
end Go.Proofs.Ytcfkoglehjkkdaa

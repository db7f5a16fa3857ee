/- orders: an order by a number's key, as it counts. -/
import Derived.Test.YtogkdhpnbpgheaaGreatDoorQHo
namespace Go.Proofs.YtogkdhpnbpgheaaGreatDoor
open Go.RowKit
/-- a number's key -/
def nk : Ky := ⟨1, 0, 0, 0, 0, 5⟩
theorem nk_ok : nk.ok := ⟨1, rfl, by decide, by decide, by decide, by decide, by decide, by decide, by decide, by decide, by decide, .inr rfl⟩
theorem nk_not : ¬ nk.of := fun h => absurd h.2.1 (by decide)
theorem ozk_ok : zk.ok := ⟨0, rfl, by decide, by decide, by decide, by decide, by decide, by decide, by decide, by decide, by decide, .inl rfl⟩
theorem zk_not : ¬ zk.of := fun h => absurd h.2.1 (by decide)
set_option maxRecDepth 8000 in
theorem prepd_nk (os : List Oj) : prepd os nk = nk := by
  have : nk.cn oz = true := by simp [Ky.cn, Ky.cnt, nk_ok, nk_not]
  simp [prepd, this]
set_option maxRecDepth 8000 in
theorem prepd_zk (os : List Oj) : prepd os zk = zk := by
  unfold prepd
  split <;> rfl
set_option maxRecDepth 8000 in
theorem osize3k : (Tryz.prog.info? 34).map (·.size) = some 18 := by kernel_rfl
/-- an order's cells -/
def ordc (p : Nat) (c : Int) : List Value := mzc c ++ [pv p, .int .i64 0] ++ kl nk ++ mzc 0 ++ [.bool false, .nilFunc]
theorem ordc_len (p : Nat) (c : Int) : (ordc p c).length = 50 := rfl
abbrev z3k : List Ky := [zk, zk, zk]
section
variable {ops : Array Oper} {o : Oper} {a : Act} {S : World → Prop}
theorem oy_k3 (hw : Region.wanted o (yielded ops a.tmps) = true) (x : Operand) (ho : o.op = .load 34 x) (g off : Nat) (hx : a.eval x = .pointer (some ⟨g, off, none⟩)) (l : List Ky) (hl : (kcs l).length = 18) (hS : ∀ w, S w → w.rangeAt g off (kcs l)) : YieldsIf Tryz.prog ops S o (.agg (kcs l).toArray) a :=
  yieldsIf_load_mid hw 34 x ho g off hx (kcs l) _ hS Tryz.underlying34 rfl (by rw [hl]; exact osize3k)
theorem oy_mg (hw : Region.wanted o (yielded ops a.tmps) = true) (x : Operand) (ho : o.op = .load 36 x) (g off : Nat) (hx : a.eval x = .pointer (some ⟨g, off, none⟩)) (c : Int) (hS : ∀ w, S w → w.rangeAt g off (mzc c)) : YieldsIf Tryz.prog ops S o (.agg (mzc c).toArray) a :=
  yieldsIf_load_mid hw 36 x ho g off hx (mzc c) _ hS Tryz.underlying36 rfl (by rw [mzc_len]; exact sizeMg)
set_option maxRecDepth 8000 in
theorem oy_index3 (hw : Region.wanted o (yielded ops a.tmps) = true) (x y : Operand) (ho : o.op = .index 34 x y) (l : List Ky) (hl : l.length = 3) (i : Nat) (hi : i < l.length) (hx : a.eval x = .agg (kcs l).toArray) (hy : a.eval y = .int .i64 (i : Int)) : YieldsIf Tryz.prog ops S o l[i].val a := .inl ⟨hw, fun w _ => by
  have hp := part_key l i hi w
  have hz : (sizeOf 33).run Tryz.prog w = .ok 6 w := by
    cases h : Tryz.prog.info? 33 with
    | none => have := size30; simp [h] at this
    | some i => have := size30; simp [h] at this; simp [sizeOf, typeInfo, h, this]
  have hlt : (i : Int) < 3 := by omega
  unfold execOp
  simp only [ho, hx, hy, Instr.index, asIntOf, Sem.run_bind, Sem.run_pure, Result.andThen_ok, run_underlying Tryz.underlying34]
  rw [if_pos (by omega)]
  simp only [Sem.run_bind, hz, Result.andThen_ok, Int.toNat_natCast, hp]⟩
end
theorem mzc_keys {w : World} {g : Nat} {c : Int} (h : Blk w g 36 (mzc c).toArray) : w.rangeAt g 2 (kcs z3k) := fun j v hv => by
  have := h.range (j + 2) v (by
    show (mzc c)[j + 2]? = some v
    exact hv)
  rwa [show 0 + (j + 2) = 2 + j by omega] at this
set_option maxRecDepth 8000 in
theorem z3k_get (i : Nat) (hi : i < z3k.length) : z3k[i] = zk := by
  match i, hi with
  | 0, _ => rfl
  | 1, _ => rfl
  | 2, _ => rfl
set_option maxRecDepth 8000 in
theorem mzc_put (c : Int) (i : Nat) (hi : i < 3) : (mzc c).take (2 + i * 6) ++ kl zk ++ (mzc c).drop (2 + i * 6 + (kl zk).length) = mzc c := by
  match i, hi with
  | 0, _ => rfl
  | 1, _ => rfl
  | 2, _ => rfl
set_option maxRecDepth 8000 in
theorem StAt.oblk_ne {w : World} {base p : Nat} {A : Option Addr} {cap : Nat} {ps : List Nat} {os : List Oj} (h : StAt w base p A cap ps os) {k : Nat} {t : TypeId} {cs : Array Value} (hb : Blk w k t cs) (ht : t ≠ 84 ∧ t ≠ 49) (hne : k ≠ p) : ¬ stHas p A ps k := by
  rintro (e | e | e)
  · exact hne e
  · rcases h.own.2 with ⟨h0, _⟩ | ⟨g, c, cur, h1, h2, h3, _⟩
    · injection h0 with h0
      rw [h0] at e
      cases e
    · injection h1 with h1
      rw [h1] at e
      injection e with e
      simp only at e
      subst e
      unfold Blk at hb
      rw [h3] at hb
      injection hb with hb
      injection hb with _ hb
      exact ht.1 hb.symm
  · obtain ⟨i, hi, rfl⟩ := List.mem_iff_getElem.1 e
    have h3 := h.obj i (by rw [← h.len]; exact hi) hi
    unfold Blk at hb h3
    rw [h3] at hb
    injection hb with hb
    injection hb with _ hb
    exact ht.2 hb.symm
/-- how all stands while the keys are looked at -/
structure Asw (w wr : World) (base p : Nat) (A : Option Addr) (cap : Nat) (ps : List Nat) (os : List Oj) (c : Int) : Prop where
  bel : Below w.heap.size w wr
  st : StAt wr base p A cap ps os
  tab : Tab wr
  key : Blk wr w.heap.size 33 (kc nk.k nk.o nk.c nk.l nk.r nk.v)
  msg : Blk wr (w.heap.size + 1) 36 (mzc c).toArray
set_option maxRecDepth 100000 in
set_option maxHeartbeats 2000000 in
theorem oask_y {w : World} {base p : Nat} {A : Option Addr} {cap : Nat} {ps : List Nat} {os : List Oj} (h : StAt w base p A cap ps os) (hn : 0 < os.length) (hT : Tab w) (c : Int) : Calls Tryz.prog 27 #[pv p, .int .i64 0, nk.val, .agg (mzc c).toArray] w fun e w' => ∃ g, e = .returned (.pointer (some ⟨g, 0, none⟩)) ∧ w.heap.size ≤ g ∧ Blk w' g 79 (ordc p c).toArray ∧ Below w.heap.size w w' := by
  obtain ⟨m, hm⟩ : ∃ m : Int, m = (os.length : Int) := ⟨_, rfl⟩
  have dm : (m == 0) = false := by simp; omega
  have HM' := Lib.hid hm
  have HN := Lib.hid hn
  have HTW := Lib.hid hT
  have HNP := Lib.hid (show w.heap.size ≠ p by have := (h.lt p (.inl rfl)).2; omega)
  have HNP2 := Lib.hid (show w.heap.size + 1 ≠ p by have := (h.lt p (.inl rfl)).2; omega)
  have HS0 := Lib.hid ((h.alloc (.cells (kc nk.k nk.o nk.c nk.l nk.r nk.v) 33)).alloc (.cells (mzc c).toArray 36))
  have HT0 := Lib.hid ((hT.alloc (.cells (kc nk.k nk.o nk.c nk.l nk.r nk.v) 33)).alloc (.cells (mzc c).toArray 36))
  have HB0 := Lib.hid (((Below.refl w.heap.size w).alloc (Nat.le_refl _) (.cells (kc nk.k nk.o nk.c nk.l nk.r nk.v) 33)).alloc (by simp) (.cells (mzc c).toArray 36))
  have HK0 := Lib.hid ((Blk.new w 33 (kc nk.k nk.o nk.c nk.l nk.r nk.v)).alloc (.cells (mzc c).toArray 36))
  have HM0 := Lib.hid (Blk.new_of (w.alloc (.cells (kc nk.k nk.o nk.c nk.l nk.r nk.v) 33)) 36 (mzc c).toArray (g := w.heap.size + 1) (by simp))
  obtain ⟨c0, c1, c2, c3, c4, c5⟩ := HK0.out.six
  clear h hn hT hm
  go_enter Tryz.func27, Tryz.ntmps27
  go_wp2_with (first
    | (go_at_call 53; refine (size_m HS0.out HN.out HM'.out).mono ?_; rintro e w9 ⟨rfl, rfl⟩)
    | (go_at_call 54; refine (ho_y (pv p) nk _ HT0.out nk_ok nk_not).mono ?_; rintro e w1 ⟨rfl, b1⟩; have HS1 := Lib.hid (HS0.out.below b1); have HT1 := Lib.hid (HT0.out.below b1); have HB1 := Lib.hid (HB0.out.trans (b1.mono HB0.out.size)); have HK1 := Lib.hid (HK0.out.keep b1); have HM1 := Lib.hid (HM0.out.keep b1); clear c0 c1 c2 c3 c4 c5; have m1 : w1.cell? ⟨w.heap.size + 1, 1, none⟩ = some (.string ⟨#[]⟩) := HM1.out.cell 1; clear b1)
    | ((with_reducible show wpList _ _ _ ({ dst := some 30, op := .load _ _, type := _, pos := _, after := _, guard := _ } :: _) _ _); refine wpList_yields (S := fun w' => w'.rangeAt (w.heap.size + 1) 2 (kcs z3k)) (oy_k3 (by rfl) (.tmp 29) (by rfl) (w.heap.size + 1) 2 (by rfl) z3k rfl (fun _ h => h)) (mzc_keys HM1.out) ?_))
  have HI : Hid (Asw w w1 base p A cap ps os c) := ⟨HB1.out, HS1.out, HT1.out, HK1.out, HM1.out⟩
  clear HB0 HS0 HT0 HK0 HM0 HB1 HS1 HT1 HK1 HM1 m1
  go_loopw [9, 10, 11, 31] (fun v _ _ q wr => ∃ i : Nat, i ≤ 3 ∧ q = .int .i64 i ∧ v = .bool true ∧ Asw w wr base p A cap ps os c) (fun _ _ _ q _ => 4 - (intOf q).toNat)
  case atStart => exact ⟨0, by omega, rfl, rfl, HI.out⟩
  case round =>
    obtain ⟨i, hi, rfl, rfl, hc⟩ := hrel
    clear HI
    have HI := Lib.hid hc
    clear hc
    by_cases hlt : i < 3
    · have d0 : decide ((i : Int) < 3) = true := decide_eq_true (by omega)
      have d1 : (i : Int) < 3 := by omega
      have HLT := Lib.hid hlt
      have HKS := Lib.hid (show i < z3k.length from hlt)
      obtain ⟨y, hy⟩ : ∃ y, y = zk := ⟨_, rfl⟩
      have HY := Lib.hid hy
      have HYI := Lib.hid (show y = z3k[i]'HKS.out by rw [hy, z3k_get i HKS.out])
      have HSE := Lib.hid (show (mzc c).take (2 + i * 6) ++ kl (prepd os y) ++ (mzc c).drop (2 + i * 6 + (kl (prepd os y)).length) = mzc c by rw [hy, prepd_zk]; exact mzc_put c i hlt)
      have HFT := Lib.hid (show 2 + i * 6 + (kl (prepd os y)).length ≤ (mzc c).length by rw [kl_len, mzc_len]; omega)
      have HYO := Lib.hid (show y.ok by rw [hy]; exact ozk_ok)
      have HYN := Lib.hid (show ¬ y.of by rw [hy]; exact zk_not)
      have hyk := kl_len y
      have HS1 := Lib.hid (HI.out.st.alloc (.cells (kl y).toArray 33))
      have HT1 := Lib.hid (HI.out.tab.alloc (.cells (kl y).toArray 33))
      have HB1 := Lib.hid (HI.out.bel.alloc HI.out.bel.size (.cells (kl y).toArray 33))
      have HK1 := Lib.hid (HI.out.key.alloc (.cells (kl y).toArray 33))
      have HM1 := Lib.hid (HI.out.msg.alloc (.cells (kl y).toArray 33))
      have HG1 := Lib.hid (Blk.new wr 33 (kl y).toArray)
      clear hlt hy
      go_wp2_with (first
        | ((with_reducible show wpList _ _ _ ({ dst := some 34, op := .index _ _ _, type := _, pos := _, after := _, guard := _ } :: _) _ _); refine wpList_yields (S := fun _ => True) (HYI.out ▸ oy_index3 (by rfl) (.tmp 30) (.tmp 31) (by rfl) z3k rfl i HKS.out (by rfl) (by rfl)) trivial ?_)
        | (go_at_call 54; refine (ho_y (pv p) y _ HT1.out HYO.out HYN.out).mono ?_; rintro e_ w2 ⟨rfl, b2⟩; have HS2 := Lib.hid (HS1.out.below b2); have HT2 := Lib.hid (HT1.out.below b2); have HB2 := Lib.hid (HB1.out.trans (b2.mono HB1.out.size)); have HK2 := Lib.hid (HK1.out.keep b2); have HM2 := Lib.hid (HM1.out.keep b2); have HG2 := Lib.hid (HG1.out.keep b2); obtain ⟨c0, c1, c2, c3, c4, c5⟩ := HG2.out.six; clear b2)
        | (go_at_call 55; refine (prep_at HS2.out HN.out HT2.out y).mono ?_; rintro e_ w3 ⟨rfl, b3⟩; have HS3 := Lib.hid (HS2.out.below b3); have HT3 := Lib.hid (HT2.out.below b3); have HB3 := Lib.hid (HB2.out.trans (b3.mono HB2.out.size)); have HK3 := Lib.hid (HK2.out.keep b3); have HM3 := Lib.hid (HM2.out.keep b3); clear b3; clear c0 c1 c2 c3 c4 c5)
        | (refine wpList_store_in HM3.out rfl (.tmp 46) (.tmp 44) (ty := 33) (l := kl (prepd os y)) (l1 := mzc c) (off := 2 + i * 6) (by rfl) (by rfl) (by rfl) size30 HFT.out (kl_one _) HSE.out ?_))
      go_roundw
      case rel =>
        refine ⟨i + 1, by have := HLT.out; omega, by go_num, rfl, below_setRow HB3.out (by omega) _, HS3.out.keep fun k hk => setRow_other _ _ _ _ (fun e => HS3.out.oblk_ne HM3.out (by decide) HNP2.out (e ▸ hk)), HTW.out.below (below_setRow HB3.out (by omega) _), Blk.row_far HK3.out (by omega) _, HM3.out.setRow _⟩
      case measure => simp [intOf]; omega
    · have hi3 : i = 3 := by omega
      subst hi3
      have d0 : decide ((3 : Int) < 3) = false := rfl
      have HS1 := Lib.hid HI.out.st
      have HT1 := Lib.hid HI.out.tab
      have HB1 := Lib.hid HI.out.bel
      have HK1 := Lib.hid HI.out.key
      have HM1 := Lib.hid HI.out.msg
      obtain ⟨c0, c1, c2, c3, c4, c5⟩ := HK1.out.six
      have hol := ordc_len p c
      go_wp2_with (first
        | (go_at_call 55; refine (prep_at HS1.out HN.out HT1.out nk).mono ?_; rw [prepd_nk]; rintro e_ w2 ⟨rfl, b2⟩; have HS2 := Lib.hid (HS1.out.below b2); have HT2 := Lib.hid (HT1.out.below b2); have HB2 := Lib.hid (HB1.out.trans (b2.mono HB1.out.size)); have HK2 := Lib.hid (HK1.out.keep b2); have HM2 := Lib.hid (HM1.out.keep b2); clear b2; clear c0 c1 c2 c3 c4 c5)
        | (refine wpList_store_in HK2.out rfl (.tmp 6) (.tmp 53) (ty := 33) (l := kl nk) (l1 := kl nk) (off := 0) (by rfl) (by rfl) (by rfl) size30 (by decide) (kl_one _) rfl ?_; have HK3 := Lib.hid (HK2.out.setRow (kl nk).toArray); have HB3 := Lib.hid (below_setRow HB2.out (Nat.le_refl _) (kl nk).toArray : Below w.heap.size w (w2.setRow w.heap.size (kl nk).toArray)); have HM3 := Lib.hid (Blk.row_far HM2.out (by omega) (kl nk).toArray : Blk (w2.setRow w.heap.size (kl nk).toArray) _ _ _); obtain ⟨c0, c1, c2, c3, c4, c5⟩ := Blk.six HK3.out)
        | ((with_reducible show wpList _ _ _ ({ dst := some 63, op := .load _ _, type := _, pos := _, after := _, guard := _ } :: _) _ _); refine wpList_yields (S := fun w' => w'.rangeAt (w.heap.size + 1) 0 (mzc c)) (oy_mg (by rfl) (.tmp 7) (by rfl) (w.heap.size + 1) 0 (by rfl) c (fun _ h => h)) HM3.out.range ?_)
        | ((with_reducible show wpList _ _ _ ({ dst := some 67, op := .build _ _, type := _, pos := _, after := _, guard := _ } :: _) _ _); refine wpList_yields (S := fun _ => True) (show YieldsIf Tryz.prog _ _ _ (.agg (ordc p c).toArray) _ from .inl ⟨by rfl, fun _ _ => by kernel_rfl⟩) trivial ?_))
      go_ret
      exact ⟨_, rfl, HB2.out.size, Blk.new_of _ _ _ (by simp [World.setRow]), HB3.out.alloc HB3.out.size _⟩
end Go.Proofs.YtogkdhpnbpgheaaGreatDoor

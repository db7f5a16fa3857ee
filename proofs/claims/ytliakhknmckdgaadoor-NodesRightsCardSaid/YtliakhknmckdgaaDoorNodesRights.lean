/- The law NodesRights returns true for every input: by a node's key with each Rights each slot is got, put, cleared, cloned as the document says (at most 6 objects). No condition but that the listed variables read as the program's own text lays them; the card ties them to it. -/
import Derived.Test.YtliakhknmckdgaaDoorNDo
import Derived.Test.YtliakhknmckdgaaDoorR12
import Derived.Test.YtliakhknmckdgaaDoorR05
namespace Go.Proofs.YtliakhknmckdgaaDoor.nodesRights
open Go.ChangeShapes Go.WideShapes Go.ChangeAt Go.RowKit
attribute [local go_sem] Oper.semAt_some
set_option maxRecDepth 8000 in
set_option maxHeartbeats 1000000 in
theorem walk_no (w : World) (hT : Tab w) (A : Option Addr) (l : List Oj) (cap : Nat) (oid : Int) (v : Ky) (hr : RdO w A l) (h : ¬ madeP l) :
    Calls Tryd.prog 8 #[.slice A l.length cap, .int .i64 oid, v.val] w fun e w' => e = .returned (.bool true) ∧ Below w.heap.size w w' := by
  have HT := Lib.hid hT
  have HR := Lib.hid hr
  have H := Lib.hid h
  have HB := Lib.hid ((Below.refl w.heap.size w).alloc (Nat.le_refl _) (.cells (kc v.k v.o v.c v.l v.r v.v) 32))
  clear hT hr h
  go_enter Tryd.func8, Tryd.ntmps8
  go_wp2_with (first
    | (go_at_call 9; refine (made_no (HR.out.alloc _) H.out).mono ?_; rintro e w1 ⟨rfl, b1⟩; have HB1 := Lib.hid (HB.out.trans (b1.mono HB.out.size)); clear b1)
    | (go_at_call 10; refine (known_any _ (HT.out.below HB1.out)).mono ?_; rintro e v9 ⟨rfl, b_⟩; have B9 := Lib.hid (HB1.out.trans (b_.mono (HB1.out).size)); clear b_))
  go_ret
  exact ⟨rfl, B9.out⟩
set_option maxRecDepth 8000 in
set_option maxHeartbeats 1000000 in
theorem walk_big (w : World) (hT : Tab w) (A : Option Addr) (l : List Oj) (cap : Nat) (oid : Int) (v : Ky) (hr : RdO w A l) (h : madeP l) (hb : 6 < l.length ∨ (l.length ≤ 6 ∧ oid < 0) ∨ (l.length ≤ 6 ∧ 0 ≤ oid ∧ (l.length : Int) ≤ oid)) :
    Calls Tryd.prog 8 #[.slice A l.length cap, .int .i64 oid, v.val] w fun e w' => e = .returned (.bool true) ∧ Below w.heap.size w w' := by
  have HT := Lib.hid hT
  have HR := Lib.hid hr
  have H := Lib.hid h
  have HB := Lib.hid ((Below.refl w.heap.size w).alloc (Nat.le_refl _) (.cells (kc v.k v.o v.c v.l v.r v.v) 32))
  clear hT hr h
  rcases hb with h1 | ⟨h1, h2⟩ | ⟨h1, h2, h3⟩
  · have d0 : decide ((6 : Int) < (l.length : Int)) = true := decide_eq_true (by omega)
    have d1 : decide (6 < l.length) = true := decide_eq_true h1
    clear h1
    go_enter Tryd.func8, Tryd.ntmps8
    go_wp2_with (first
      | (go_at_call 9; refine (made_yes (HT.out.below HB.out) (HR.out.alloc _) H.out).mono ?_; rintro e w1 ⟨q, rfl, hq, hs, b1⟩; have HB1 := Lib.hid (HB.out.trans (b1.mono HB.out.size)); clear b1)
      | (go_at_call 10; refine (known_any _ (HT.out.below HB1.out)).mono ?_; rintro e v9 ⟨rfl, b_⟩; have B9 := Lib.hid (HB1.out.trans (b_.mono (HB1.out).size)); clear b_))
    go_ret
    exact ⟨rfl, B9.out⟩
  · have d0 : decide ((6 : Int) < (l.length : Int)) = false := decide_eq_false (by omega)
    have d1 : decide (6 < l.length) = false := decide_eq_false (by omega)
    have d2 : decide (oid < 0) = true := decide_eq_true h2
    clear h1 h2
    go_enter Tryd.func8, Tryd.ntmps8
    go_wp2_with (first
      | (go_at_call 9; refine (made_yes (HT.out.below HB.out) (HR.out.alloc _) H.out).mono ?_; rintro e w1 ⟨q, rfl, hq, hs, b1⟩; have HB1 := Lib.hid (HB.out.trans (b1.mono HB.out.size)); clear b1)
      | (go_at_call 10; refine (known_any _ (HT.out.below HB1.out)).mono ?_; rintro e v9 ⟨rfl, b_⟩; have B9 := Lib.hid (HB1.out.trans (b_.mono (HB1.out).size)); clear b_))
    go_ret
    exact ⟨rfl, B9.out⟩
  · have d0 : decide ((6 : Int) < (l.length : Int)) = false := decide_eq_false (by omega)
    have d1 : decide (6 < l.length) = false := decide_eq_false (by omega)
    have d2 : decide (oid < 0) = false := decide_eq_false (by omega)
    have d3 : decide ((l.length : Int) ≤ oid) = true := decide_eq_true h3
    clear h1 h2 h3
    go_enter Tryd.func8, Tryd.ntmps8
    go_wp2_with (first
      | (go_at_call 9; refine (made_yes (HT.out.below HB.out) (HR.out.alloc _) H.out).mono ?_; rintro e w1 ⟨q, rfl, hq, hs, b1⟩; have HB1 := Lib.hid (HB.out.trans (b1.mono HB.out.size)); clear b1)
      | (go_at_call 10; refine (known_any _ (HT.out.below HB1.out)).mono ?_; rintro e v9 ⟨rfl, b_⟩; have B9 := Lib.hid (HB1.out.trans (b_.mono (HB1.out).size)); clear b_))
    go_ret
    exact ⟨rfl, B9.out⟩
set_option maxRecDepth 8000 in
theorem builtK (o c r : Int) : Tryd.prog.built 32 [(0, .int .i64 2), (1, .int .i64 o), (2, .int .i64 c), (4, .int .i64 r)] = some (kl ⟨2, o, c, 0, r, 0⟩).toArray := by kernel_rfl
set_option maxRecDepth 8000 in
theorem builtA3 (s : Int) (x : Ky) : Tryd.prog.built 34 [(0, .int .i64 1), (2, x.val), (1, .int .i64 s)] = some (na 1 s x zk) := by kernel_rfl
set_option maxRecDepth 8000 in
theorem builtA4 (k s : Int) (x y : Ky) : Tryd.prog.built 34 [(0, .int .i64 k), (2, x.val), (1, .int .i64 s), (3, y.val)] = some (na k s x y) := by kernel_rfl
section
variable {ops : Array Oper} {o : Oper} {a : Act} {S : World → Prop}
theorem y_b3 {t : TypeId} {i0 i1 i2 : Nat} {v0 v1 v2 : Value} {cs : Array Value} (hw : Region.wanted o (yielded ops a.tmps) = true) (p0 p1 p2 : Operand) (ho : o.op = .build t #[(i0, p0), (i1, p1), (i2, p2)]) (h0 : a.eval p0 = v0) (h1 : a.eval p1 = v1) (h2 : a.eval p2 = v2) (hb : Tryd.prog.built t [(i0, v0), (i1, v1), (i2, v2)] = some cs) : YieldsIf Tryd.prog ops S o (.agg cs) a := .inl ⟨hw, fun w _ => by
  have := run_build w t #[(i0, v0), (i1, v1), (i2, v2)] cs hb
  unfold execOp
  simp only [ho, Sem.run_bind, List.map_toArray, List.map_cons, List.map_nil, h0, h1, h2, this, Result.andThen_ok, Sem.run_pure]⟩
theorem y_b4 {t : TypeId} {i0 i1 i2 i3 : Nat} {v0 v1 v2 v3 : Value} {cs : Array Value} (hw : Region.wanted o (yielded ops a.tmps) = true) (p0 p1 p2 p3 : Operand) (ho : o.op = .build t #[(i0, p0), (i1, p1), (i2, p2), (i3, p3)]) (h0 : a.eval p0 = v0) (h1 : a.eval p1 = v1) (h2 : a.eval p2 = v2) (h3 : a.eval p3 = v3) (hb : Tryd.prog.built t [(i0, v0), (i1, v1), (i2, v2), (i3, v3)] = some cs) : YieldsIf Tryd.prog ops S o (.agg cs) a := .inl ⟨hw, fun w _ => by
  have := run_build w t #[(i0, v0), (i1, v1), (i2, v2), (i3, v3)] cs hb
  unfold execOp
  simp only [ho, Sem.run_bind, List.map_toArray, List.map_cons, List.map_nil, h0, h1, h2, h3, this, Result.andThen_ok, Sem.run_pure]⟩
end
set_option maxRecDepth 8000 in
theorem does_get {w : World} {base p : Nat} {A : Option Addr} {cap : Nat} {ps : List Nat} {os : List Oj} {L : Option Addr} {n c : Nat} (h : StAt w base p A cap ps os) (hl : os.length = n) (h0 : 0 < n) (hN : n ≤ 1000) (hT : Tab w) (hr : RdO w L os) (s : Int) (x y : Ky) :
    Calls Tryd.prog 11 #[pv p, .slice L n c, .agg (na 1 s x y)] w fun e w' => e = .returned (.tuple #[.slice L n c, .bool true]) ∧ Below w.heap.size w w' := by
  subst hl
  exact does_1 s _ x y _ (fun W hW => get_all (h.below hW) h0 (hT.below hW) x s) (fun W hW => rget_all (hr.below hW) rfl hN h0 x s)
/-- how the law stands -/
structure Rt (w W : World) (kb : Nat) (x v : Ky) : Prop where
  bel : Below w.heap.size w W
  kx : Blk W kb 32 (kl x).toArray
  kv : Blk W w.heap.size 32 (kl v).toArray
theorem Rt.below {w W W' : World} {kb : Nat} {x v : Ky} (h : Rt w W kb x v) (hb : Below W.heap.size W W') : Rt w W' kb x v := ⟨h.bel.trans (hb.mono h.bel.size), h.kx.keep hb, h.kv.keep hb⟩
theorem Rt.fr {w W W' : World} {kb q : Nat} {ps : List Nat} {x v : Ky} (h : Rt w W kb x v) (hf : Fr (fun k => k ∈ ps) W W') (hps : ∀ k ∈ ps, q ≤ k) (hq : kb < q) (hq' : w.heap.size < q) : Rt w W' kb x v :=
  ⟨h.bel.trans (hf.to_below (fun k hk => by have := hps k hk; omega) h.bel.size), (hf.block kb h.kx.lt (fun hm => by have := hps _ hm; omega)).trans h.kx, (hf.block _ h.kv.lt (fun hm => by have := hps _ hm; omega)).trans h.kv⟩
set_option maxRecDepth 100000 in
set_option maxHeartbeats 4000000 in
theorem walk_ok (w : World) (hT : Tab w) (A : Option Addr) (l : List Oj) (cap : Nat) (j : Nat) (v : Ky) (hr : RdO w A l) (h : madeP l) (h6 : l.length ≤ 6) (hj : j < l.length) :
    Calls Tryd.prog 8 #[.slice A l.length cap, .int .i64 (j : Int), v.val] w fun e w' => e = .returned (.bool true) ∧ Below w.heap.size w w' := by
  have HT := Lib.hid hT
  have HR := Lib.hid hr
  have HB := Lib.hid ((Below.refl w.heap.size w).alloc (Nat.le_refl _) (.cells (kc v.k v.o v.c v.l v.r v.v) 32))
  have HV := Lib.hid (show Blk _ _ _ (kl v).toArray from Blk.new w 32 (kc v.k v.o v.c v.l v.r v.v))
  obtain ⟨n, hn⟩ : ∃ n, l.length = n := ⟨_, rfl⟩
  have HN := Lib.hid (show 0 < n by omega)
  have HN' := Lib.hid (show n ≤ 1000 by omega)
  have d0 : decide ((6 : Int) < (n : Int)) = false := decide_eq_false (by omega)
  have d1 : decide (6 < n) = false := decide_eq_false (by omega)
  have d2 : decide ((j : Int) < 0) = false := decide_eq_false (by omega)
  have d3 : decide ((n : Int) ≤ (j : Int)) = false := decide_eq_false (by omega)
  have d4 : decide (n ≤ j) = false := decide_eq_false (by omega)
  have d5 : (j : Int) < (n : Int) := by omega
  obtain ⟨b, off, hA, hob⟩ := hr j hj
  obtain ⟨u, hu⟩ : ∃ u, l[j] = u := ⟨_, rfl⟩
  rw [hu] at hob
  have HU := Lib.hid hob
  have HLB := Lib.hid (show ∀ a, A = some a → a.block < w.heap.size by
    intro a e
    rw [hA] at e
    injection e with e
    subst e
    exact hob.lt)
  have HMD := Lib.hid (fun (W : World) (hT : Tab W) (hr : RdO W A l) => hn ▸ made_yes (cap := cap) hT hr h)
  have HOK := Lib.hid (hn ▸ h.2.2.2 : okAll n l)
  rw [hn]
  have HLN := Lib.hid hn
  subst hA
  have M0 := Lib.hid True.intro
  clear hT hr h hn h6 hj hob hu
  go_enter Tryd.func8, Tryd.ntmps8
  go_wp2_with (first
    | (clear M0; go_at_call 9; refine (HMD.out _ (HT.out.below HB.out) (HR.out.alloc _)).mono ?_; rintro e w1 ⟨q, rfl, hq, ⟨A', cap', ps, hs⟩, b1⟩; have HP0 := Lib.hid (show Below w.heap.size w w1 ∧ Blk w1 w.heap.size 32 (kl v).toArray from ⟨HB.out.trans (b1.mono HB.out.size), HV.out.keep b1⟩); clear b1 hq hs))
  go_loopw [7, 8, 9, 10, 11, 12, 13, 14, 15] (fun q7 _ _ _ _ _ _ _ _ wr => ∃ r : Nat, r ≤ 8 ∧ q7 = .int .i64 r ∧ Below w.heap.size w wr ∧ Blk wr w.heap.size 32 (kl v).toArray) (fun q7 _ _ _ _ _ _ _ _ _ => 9 - (intOf q7).toNat)
  case atStart => exact ⟨0, by omega, rfl, HP0.out⟩
  case round =>
    obtain ⟨r, hk, rfl, hb, hv⟩ := hrel
    clear HP0
    have HP := Lib.hid hb
    have HV1 := Lib.hid hv
    clear hb hv
    by_cases hlt : r < 8
    · have e0 : decide ((r : Int) < 8) = true := decide_eq_true (by omega)
      have e1 : decide (r < 8) = true := decide_eq_true hlt
      have hrl : r < 8 := hlt
      obtain ⟨x, hx⟩ : ∃ x : Ky, (⟨2, (j : Int), u.c, 0, (r : Int), 0⟩ : Ky) = x := ⟨_, rfl⟩
      have HBK := Lib.hid (hx ▸ builtK (j : Int) u.c (r : Int))
      have c0 := (HU.out.below HP.out).cells.2.1
      clear hlt hk hx
      go_wp2_with (first
        | (show wpList _ _ _ ({ dst := some 46, op := .build _ _, type := _, pos := _, after := _, guard := _ } :: _) _ _; refine wpList_yields (S := fun _ => True) (y_b4 (by rfl) _ _ _ _ (by rfl) (by rfl) (by rfl) (by rfl) (by rfl) HBK.out) trivial ?_)
        | (show wpList _ _ _ ({ dst := none, op := .store _ (.tmp 8) (.tmp 46), type := _, pos := _, after := _, guard := _ } :: _) _ _; refine wpList_store_new (l := kl x) (l0 := kl zk) (ty := 32) rfl (.tmp 8) (.tmp 46) (by rfl) _ rfl (by rfl) (by rfl) size30 rfl (kl_one _) ?_)
        | (go_at_call 9; refine (HMD.out _ ((HT.out.below HP.out).alloc (.cells (kl x).toArray 32)) ((HR.out.below HP.out).alloc (.cells (kl x).toArray 32))).mono ?_; rintro e w1 ⟨q, rfl, hq, ⟨A', cap', ps, hs⟩, b1⟩; have HQ : Hid (wr.heap.size < q) := Lib.hid (by have h1 : (wr.alloc (.cells (kl x).toArray 32)).heap.size = wr.heap.size + 1 := (by simp); omega); have HRT := Lib.hid (Rt.below (show Rt w (wr.alloc (.cells (kl x).toArray 32)) wr.heap.size x v from ⟨HP.out.alloc HP.out.size _, Blk.new wr 32 (kl x).toArray, HV1.out.alloc _⟩) b1); have HS1 := Lib.hid hs; clear b1 hq hs c0))
      have HKB := Lib.hid (show w.heap.size < wr.heap.size from HV1.out.lt)
      generalize wr.heap.size = kb at HRT HQ HKB ⊢
      clear HV1 HP
      go_loopw [10, 11, 12] (fun q10 _ _ W => ∃ i : Nat, i ≤ 16 ∧ q10 = .int .i64 i ∧ Rt w W kb x v ∧ StAt W q q A' cap' ps l) (fun q10 _ _ _ => 17 - (intOf q10).toNat)
      case atStart => exact ⟨0, by omega, rfl, HRT.out, HS1.out⟩
      case round =>
        obtain ⟨i, hi, rfl, hrt, hs⟩ := hrel
        clear HRT HS1
        have HRT := Lib.hid hrt
        have HS1 := Lib.hid hs
        clear hrt hs
        by_cases hlt : i < 16
        · have f0 : decide ((i : Int) < 16) = true := decide_eq_true (by omega)
          have f1 : decide (i < 16) = true := decide_eq_true hlt
          obtain ⟨c0, c1, c2, c3, c4, c5⟩ := HRT.out.kx.six
          go_wp2_with (first
            | (show wpList _ _ _ ({ dst := some 58, op := .build _ _, type := _, pos := _, after := _, guard := _ } :: _) _ _; refine wpList_yields (S := fun _ => True) (y_b3 (by rfl) _ _ _ (by rfl) (by rfl) (by rfl) (by rfl) (builtA3 (i : Int) x)) trivial ?_)
            | (go_at_call 11; refine (does_get HS1.out HLN.out HN.out HN'.out (HT.out.below HRT.out.bel) (HR.out.below HRT.out.bel) (i : Int) x zk).mono ?_; rintro e w2 ⟨rfl, b2⟩; have HRT2 := Lib.hid (HRT.out.below b2); have HS2 := Lib.hid (HS1.out.below b2); clear b2))
          go_roundw
          case rel => exact ⟨i + 1, by omega, by go_num, HRT2.out, HS2.out⟩
          case measure => simp [intOf]; omega
        · have f0 : decide ((i : Int) < 16) = false := decide_eq_false (by omega)
          have f1 : decide (i < 16) = false := decide_eq_false hlt
          clear hi hlt
          go_wp2_with fail
          clear HS1 HQ
          go_loopw [9, 13, 14, 15] (fun _ q13 _ _ W => ∃ m : Nat, m ≤ 5 ∧ q13 = .int .i64 m ∧ Rt w W kb x v) (fun _ q13 _ _ _ => 6 - (intOf q13).toNat)
          case atStart => exact ⟨2, by omega, rfl, HRT.out⟩
          case round =>
            obtain ⟨m, hm, rfl, hrt⟩ := hrel
            clear HRT
            have HRT := Lib.hid hrt
            clear hrt
            by_cases hlt : m < 5
            · have g0 : decide ((m : Int) < 5) = true := decide_eq_true (by omega)
              have g1 : decide (m < 5) = true := decide_eq_true hlt
              go_wp2_with (first
                | (go_at_call 9; refine (HMD.out _ (HT.out.below HRT.out.bel) (HR.out.below HRT.out.bel)).mono ?_; rintro e w2 ⟨q2, rfl, hq2, ⟨A2, cap2, ps2, hs2⟩, b2⟩; have HQ2 := Lib.hid (show kb < q2 ∧ w.heap.size < q2 from ⟨Nat.lt_of_lt_of_le HRT.out.kx.lt hq2, Nat.lt_of_lt_of_le HRT.out.kv.lt hq2⟩); have HRT2 := Lib.hid (HRT.out.below b2); have HS2 := Lib.hid hs2; clear b2 hq2 hs2; obtain ⟨c0, c1, c2, c3, c4, c5⟩ := HRT2.out.kx.six; obtain ⟨v0, v1, v2, v3, v4, v5⟩ := HRT2.out.kv.six)
                | (show wpList _ _ _ ({ dst := some 77, op := .build _ _, type := _, pos := _, after := _, guard := _ } :: _) _ _; refine wpList_yields (S := fun _ => True) (y_b4 (by rfl) _ _ _ _ (by rfl) (by rfl) (by rfl) (by rfl) (by rfl) (builtA4 (m : Int) (r : Int) x v)) trivial ?_)
                | (go_at_call 11; refine (does_any HS2.out HLN.out HN.out HN'.out HOK.out (HT.out.below HRT2.out.bel) (HR.out.below HRT2.out.bel) (fun a e hm => by have h1 := HLB.out a e; have h2 := (HS2.out.pps _ hm).1; have h3 := HQ2.out.2; omega) ⟨(m : Int), (r : Int), x, v⟩).mono ?_; rintro e w3 ⟨L3, c3', rfl, hL3, ⟨os3, hs3, hr3, hl3, ho3⟩, hf3⟩; have HRT3 := Lib.hid (HRT2.out.fr hf3 (fun k hk => (HS2.out.pps k hk).1) HQ2.out.1 HQ2.out.2); have HS3 := Lib.hid hs3; have HR3 := Lib.hid hr3; have HL3 := Lib.hid hl3; clear hL3 hs3 hr3 hl3 ho3 hf3 c0 c1 c2 c3 c4 c5 v0 v1 v2 v3 v4 v5)
                | (go_at_call 12; refine (same_n HS3.out HL3.out HN.out HN'.out _ _ HR3.out).mono ?_; rintro e w4 ⟨rfl, b4⟩; have HRT4 := Lib.hid (HRT3.out.below b4); clear b4))
              go_roundw
              case rel => exact ⟨m + 1, by omega, by go_num, HRT4.out⟩
              case measure => simp [intOf]; omega
            · have g0 : decide ((m : Int) < 5) = false := decide_eq_false (by omega)
              have g1 : decide (m < 5) = false := decide_eq_false hlt
              clear hm hlt
              go_wp2_with fail
              go_roundw
              case rel => exact ⟨r + 1, by omega, by go_num, HRT.out.bel, HRT.out.kv⟩
              case measure => simp [intOf]; omega
    · obtain rfl : r = 8 := by omega
      have e0 : decide ((8 : Int) < 8) = false := rfl
      go_wp2_with (first
        | (go_at_call 10; refine (known_any _ (HT.out.below HP.out)).mono ?_; rintro e v9 ⟨rfl, b_⟩; have B9 := Lib.hid (HP.out.trans (b_.mono (HP.out).size)); clear b_))
      go_ret
      exact ⟨rfl, B9.out⟩
set_option maxRecDepth 8000 in
theorem walk (w : World) (hL : laidMetH Tryd.prog laidK w) (A : Option Addr) (l : List Oj) (cap : Nat) (hr : RdO w A l) (oid : Int) (v : Ky) : Calls Tryd.prog 8 #[.slice A l.length cap, .int .i64 oid, v.val] w fun e w' => e = .returned (.bool true) ∧ Below w.heap.size w w' := by
  by_cases h : madeP l
  · by_cases h6 : l.length ≤ 6
    · by_cases h0 : oid < 0
      · exact walk_big w (tab_of hL) A l cap oid v hr h (.inr (.inl ⟨h6, h0⟩))
      · by_cases h1 : (l.length : Int) ≤ oid
        · exact walk_big w (tab_of hL) A l cap oid v hr h (.inr (.inr ⟨h6, by omega, h1⟩))
        · obtain ⟨j, rfl⟩ := Int.eq_ofNat_of_zero_le (show 0 ≤ oid by omega)
          exact walk_ok w (tab_of hL) A l cap j v hr h h6 (by omega)
    · exact walk_big w (tab_of hL) A l cap oid v hr h (.inl (by omega))
  · exact walk_no w (tab_of hL) A l cap oid v hr h
set_option maxRecDepth 100000 in
theorem lifted (os : Os) (started : os.Started) (H : Type) (enc : TypeId × Value → H) :
    ReturnsInHanded {} Tryd.checked os 8 .any (fun w args => (Rows.nodesRightsSpec.pre enc Tryd.prog Tryd.f8 [] false w args ∧ laidMetH Tryd.prog laidK w) ∧ sizedMet enc Tryd.prog Tryd.f8 (OpenSpec.ofChange Rows.nodesRightsSpec) false w args) (Rows.nodesRightsSpec.post enc Tryd.prog Tryd.f8 false true false false) := by
  refine returnsInHanded_of_change_and (C := Tryd.checked) (X := fun w _ => laidMetH Tryd.prog laidK w) (fun _ _ _ hh h => h.of_heap hh) own started (by kernel_rfl) Tryd.func8
    (ChangeSpec.witness_shaped (enc := enc) (C := Tryd.checked) (os := os) (X := fun w _ => laidMetH Tryd.prog laidK w) false (World.doorLaid Tryd.prog 40 os) #[.slice none 0 0, .int .i64 0, .agg #[.int .i64 0, .int .i64 0, .int .i64 0, .int .i64 0, .int .i64 0, .int .i64 0]] 8 rfl (World.shaped_of_RefB (by kernel_rfl) (by kernel_rfl)) (by kernel_rfl) (by kernel_rfl) (by kernel_rfl) (door_met os _)) ?_
  intro W base args ds gs before hval0 hW _ _ hL _
  have hval : ∀ (j : Nat) t v, Tryd.f8.params[j]? = some t → args[j]? = some v → Value.okWide Tryd.prog W .any base t v := hval0
  have hW' := hW
  obtain ⟨p, q, hA0, hV, rfl, hfz, hnd⟩ := hW
  have hA : DataW.TrodAll enc Tryd.prog W 0 (fun _ => true) true Tryd.f8.params.toList args.toList ds p := hA0
  rw [Tryd.params8] at hA hval
  obtain ⟨v0, vs0, d0, ds0, p0, q0, hargs, rfl, rfl, h0, t0⟩ := trodAll_cons hA
  obtain ⟨v1, vs1, d1, ds1, p1, q1, rfl, rfl, rfl, h1, t1⟩ := trodAll_cons t0
  obtain ⟨v2, vs2, d2, ds2, p2, q2, rfl, rfl, rfl, h2, t2⟩ := trodAll_cons t1
  obtain ⟨rfl, rfl, rfl⟩ := trodAll_nil t2
  obtain rfl : args = #[v0, v1, v2] := by cases args; simp_all
  obtain ⟨rfl, rfl⟩ := trodVars_none hV
  have k0 := h0
  have lt0 : ∀ x ∈ p0, x.block < W.heap.size := by obtain ⟨m, hm⟩ := k0; exact DataW.trod_lt m _ _ _ hm
  obtain ⟨A0, l0, c0, rfl, hlc0, hcm0, hr0⟩ := open_obs (hval 0 22 v0 rfl rfl) h0
  have k1 := h1
  have lt1 : ∀ x ∈ p1, x.block < W.heap.size := by obtain ⟨m, hm⟩ := k1; exact DataW.trod_lt m _ _ _ hm
  obtain ⟨a1, rfl, rfl, rfl, _⟩ := open_int Tryd.underlying3 (hval 1 3 v1 rfl rfl) h1
  have k2 := h2
  have lt2 : ∀ x ∈ p2, x.block < W.heap.size := by obtain ⟨m, hm⟩ := k2; exact DataW.trod_lt m _ _ _ hm
  obtain ⟨x2, rfl⟩ := open_key (hval 2 32 v2 rfl rfl) h2
  clear hA0 hval0
  refine (walk W hL A0 l0 c0 hr0 a1 x2).mono fun e W' ⟨he, bel⟩ => ?_
  subst he
  exact ⟨_, rfl, _, _, _, [], _, [], hW', trodAll_mk1 (shut_bool Tryd.underlying4 _), (trodAll_cons_mk (Below.trod laidOut (by kernel_rfl) (of_decide_eq_true (by kernel_rfl)) k0 bel lt0) (trodAll_cons_mk (Below.trod laidOut (by kernel_rfl) (of_decide_eq_true (by kernel_rfl)) k1 bel lt1) (trodAll_cons_mk (Below.trod laidOut (by kernel_rfl) (of_decide_eq_true (by kernel_rfl)) k2 bel lt2) trodAll_mk0))), rfl, bel.frame _, fun h => by cases h⟩
theorem over : Rows.nodesRightsRow.holds Tryd.pinned (OpenSpec.ofChange Rows.nodesRightsSpec) :=
  OpenClaim.holds_of_wide 8 Tryd.f8 rfl rfl rfl rfl rfl rfl rfl ⟨rfl, rfl, rfl, rfl, rfl⟩ rfl rfl rfl rfl rfl (by kernel_rfl) Tryd.func8 (by kernel_rfl)
    (of_decide_eq_true (by kernel_rfl)) (by unfold Func.isWrapper; first | (rw [if_pos (by decide +kernel)]; kernel_rfl) | (rw [if_neg (by decide +kernel)]; exact ⟨rfl, rfl⟩))
    (fun os started H enc _ => lifted os started H enc)
set_option maxRecDepth 8000 in
theorem proved : Rows.NodesRightsCardSaid :=
  Claim7.holds_tied_plain_at .later [] [.data] true Rows.nodesRightsCard.stood.harness true
    over (fun _ h => by cases h) (by kernel_rfl) (fun _ h => by cases h) nodesRights_row_tie rfl ⟨rfl, rfl⟩ (by kernel_rfl) rfl
    (fun f fn hf hfn => by
      obtain rfl : f = 8 := Option.some.inj ((show Tryd.prog.funcNamed "chatelaine/chatelainelaw09.NodesRights" = some 8 by kernel_rfl).symm.trans hf) |>.symm
      obtain rfl : fn = Tryd.f8 := (Option.some.inj (Tryd.func8.symm.trans hfn)).symm
      exact ⟨by kernel_rfl, fun j t ht => by
        rw [Tryd.params8] at ht
        have hm : t ∈ [22, 3, 32] := by simpa using Array.mem_of_getElem? ht
        have hall : ([22, 3, 32].all fun u => !Tryd.prog.wantsStandIn u) = true := by kernel_rfl
        exact (show Tryd.prog.wantsStandIn t = false by simpa using List.all_eq_true.1 hall t hm)⟩)
    (by kernel_rfl)
end Go.Proofs.YtliakhknmckdgaaDoor.nodesRights

/- spaces, the document's: Walk. -/
import Derived.Test.YtfckdbennjkgoaaDoorWRq
import Derived.Test.YtfckdbennjkgoaaDoorR05
namespace Go.Proofs.YtfckdbennjkgoaaDoor
open Go.RowKit
section
variable {ops : Array Oper} {o : Oper} {a : Act} {S : World → Prop}
theorem y_build2t {t : TypeId} {q1 q2 : Operand} {v1 v2 : Value} {i1 i2 : Nat} {c : Array Value} (hw : Region.wanted o (yielded ops a.tmps) = true) (ho : o.op = .build t #[(i1, q1), (i2, q2)]) (h1 : a.eval q1 = v1) (h2 : a.eval q2 = v2) (hb : Tryd.prog.built t [(i1, v1), (i2, v2)] = some c) : YieldsIf Tryd.prog ops S o (.agg c) a := .inl ⟨hw, fun w _ => by
  have := run_build w t #[(i1, v1), (i2, v2)] c hb
  unfold execOp
  simp only [ho, Sem.run_bind, List.map_toArray, List.map_cons, List.map_nil, h1, h2, this, Result.andThen_ok, Sem.run_pure]⟩
end
section
variable {w : World} {A : Option Addr} {l : List Oj} {n cap : Nat}
set_option maxRecDepth 100000 in
set_option maxHeartbeats 4000000 in
theorem rwalk_arg (h0 : 0 < n) (x : Ky) (a : Int) (hv : ¬ x.may n) :
    Calls Tryd.prog 12 #[.slice A n cap, x.val, .int .i64 a] w fun e w' => e = .returned (.tuple #[zfo.val, zfa.val, .int .i64 2]) ∧ Below w.heap.size w w' := by
  have hz6 := z59
  have hz7 := z35
  have HB0 := Lib.hid ((((Below.refl w.heap.size w).alloc (Nat.le_refl _) (.cells (kc x.k x.o x.c x.l x.r x.v) 31)).alloc (by simp) (.cells zfo.cells.toArray 33)).alloc (by simp; omega) (.cells zfa.cells.toArray 36))
  have HK0 := Lib.hid (((Blk.new w 31 (kc x.k x.o x.c x.l x.r x.v)).alloc (.cells zfo.cells.toArray 33)).alloc (.cells zfa.cells.toArray 36))
  have HF0 := Lib.hid ((Blk.new_of (w.alloc (.cells (kc x.k x.o x.c x.l x.r x.v) 31)) 33 zfo.cells.toArray (g := w.heap.size + 1) (by simp)).alloc (.cells zfa.cells.toArray 36))
  have HA0 := Lib.hid (Blk.new_of ((w.alloc (.cells (kc x.k x.o x.c x.l x.r x.v) 31)).alloc (.cells zfo.cells.toArray 33)) 36 zfa.cells.toArray (g := w.heap.size + 2) (by simp))
  obtain ⟨c0, c1, c2, c3, c4, c5⟩ := HK0.out.six
  have dn : ((n : Int) == 0) = false := by simp; omega
  have dn2 : (n == 0) = false := by simp; omega
  have HV := Lib.hid hv
  clear h0 hv
  go_enter Tryd.func12, Tryd.ntmps12
  go_wp2_with (first
    | (go_at_call 26; refine (rmay_n n cap A x HV.out _).mono ?_; rintro e w1 ⟨rfl, b1⟩; have HB1 := Lib.hid (HB0.out.trans (b1.mono HB0.out.size)); have HF1 := Lib.hid (HF0.out.keep b1); have HA1 := Lib.hid (HA0.out.keep b1); clear b1 c0 c1 c2 c3 c4 c5)
    | (show wpList _ _ _ ({ dst := some 30, op := .build _ _, type := _, pos := _, after := _, guard := _ } :: _) _ _; refine wpList_yields (S := fun _ => True) (y_build (by rfl) (by rfl) builtFo0) trivial ?_)
    | (show wpList _ _ _ ({ dst := some 31, op := .build _ _, type := _, pos := _, after := _, guard := _ } :: _) _ _; refine wpList_yields (S := fun _ => True) (y_build (by rfl) (by rfl) builtFa0) trivial ?_)
    | (show wpList _ _ _ ({ dst := none, op := .store _ (.tmp 6) (.tmp 30), type := _, pos := _, after := _, guard := _ } :: _) _ _; refine wpList_store_big (l0 := zfo.cells) HF1.out rfl (.tmp 6) (.tmp 30) (ty := 33) (l := zfo.cells) rfl (by rfl) (by rfl) sizeFo rfl zfo.one ?_)
    | (show wpList _ _ _ ({ dst := none, op := .store _ (.tmp 7) (.tmp 31), type := _, pos := _, after := _, guard := _ } :: _) _ _; refine wpList_store_big (l0 := zfa.cells) (HA1.out.row_far (by omega) _) rfl (.tmp 7) (.tmp 31) (ty := 36) (l := zfa.cells) rfl (by rfl) (by rfl) sizeFa rfl zfa.one ?_))
  exact bodyPost_ret (res_2t rfl _ _ (w.heap.size + 1) (w.heap.size + 2) _ _ _ rfl rfl rfl (load_fo zfo ((HF1.out.setRow _).row_far (by omega) _)) (load_fa zfa ((HA1.out.row_far (by omega) _).setRow _))) rfl ⟨rfl, below_setRow (below_setRow HB1.out (by omega) _) (by omega) _⟩
set_option maxRecDepth 100000 in
set_option maxHeartbeats 4000000 in
theorem rwalk_neg (h0 : 0 < n) (x : Ky) (a : Int) (hv : x.may n) (ha : a < 0) :
    Calls Tryd.prog 12 #[.slice A n cap, x.val, .int .i64 a] w fun e w' => e = .returned (.tuple #[zfo.val, zfa.val, .int .i64 4]) ∧ Below w.heap.size w w' := by
  have hz6 := z59
  have hz7 := z35
  have HB0 := Lib.hid ((((Below.refl w.heap.size w).alloc (Nat.le_refl _) (.cells (kc x.k x.o x.c x.l x.r x.v) 31)).alloc (by simp) (.cells zfo.cells.toArray 33)).alloc (by simp; omega) (.cells zfa.cells.toArray 36))
  have HK0 := Lib.hid (((Blk.new w 31 (kc x.k x.o x.c x.l x.r x.v)).alloc (.cells zfo.cells.toArray 33)).alloc (.cells zfa.cells.toArray 36))
  have HF0 := Lib.hid ((Blk.new_of (w.alloc (.cells (kc x.k x.o x.c x.l x.r x.v) 31)) 33 zfo.cells.toArray (g := w.heap.size + 1) (by simp)).alloc (.cells zfa.cells.toArray 36))
  have HA0 := Lib.hid (Blk.new_of ((w.alloc (.cells (kc x.k x.o x.c x.l x.r x.v) 31)).alloc (.cells zfo.cells.toArray 33)) 36 zfa.cells.toArray (g := w.heap.size + 2) (by simp))
  obtain ⟨c0, c1, c2, c3, c4, c5⟩ := HK0.out.six
  have dn : ((n : Int) == 0) = false := by simp; omega
  have dn2 : (n == 0) = false := by simp; omega
  have HV := Lib.hid hv
  have da : decide (a < 0) = true := decide_eq_true ha
  clear h0 hv ha
  go_enter Tryd.func12, Tryd.ntmps12
  go_wp2_with (first
    | (go_at_call 26; refine (rmay_y n cap A x HV.out _).mono ?_; rintro e w1 ⟨rfl, b1⟩; have HB1 := Lib.hid (HB0.out.trans (b1.mono HB0.out.size)); have HF1 := Lib.hid (HF0.out.keep b1); have HA1 := Lib.hid (HA0.out.keep b1); clear b1 c0 c1 c2 c3 c4 c5)
    | (show wpList _ _ _ ({ dst := some 34, op := .build _ _, type := _, pos := _, after := _, guard := _ } :: _) _ _; refine wpList_yields (S := fun _ => True) (y_build (by rfl) (by rfl) builtFo0) trivial ?_)
    | (show wpList _ _ _ ({ dst := some 35, op := .build _ _, type := _, pos := _, after := _, guard := _ } :: _) _ _; refine wpList_yields (S := fun _ => True) (y_build (by rfl) (by rfl) builtFa0) trivial ?_)
    | (show wpList _ _ _ ({ dst := none, op := .store _ (.tmp 6) (.tmp 34), type := _, pos := _, after := _, guard := _ } :: _) _ _; refine wpList_store_big (l0 := zfo.cells) HF1.out rfl (.tmp 6) (.tmp 34) (ty := 33) (l := zfo.cells) rfl (by rfl) (by rfl) sizeFo rfl zfo.one ?_)
    | (show wpList _ _ _ ({ dst := none, op := .store _ (.tmp 7) (.tmp 35), type := _, pos := _, after := _, guard := _ } :: _) _ _; refine wpList_store_big (l0 := zfa.cells) (HA1.out.row_far (by omega) _) rfl (.tmp 7) (.tmp 35) (ty := 36) (l := zfa.cells) rfl (by rfl) (by rfl) sizeFa rfl zfa.one ?_))
  exact bodyPost_ret (res_2t rfl _ _ (w.heap.size + 1) (w.heap.size + 2) _ _ _ rfl rfl rfl (load_fo zfo ((HF1.out.setRow _).row_far (by omega) _)) (load_fa zfa ((HA1.out.row_far (by omega) _).setRow _))) rfl ⟨rfl, below_setRow (below_setRow HB1.out (by omega) _) (by omega) _⟩
section
variable {W : World} {g9 g13 g15 : Nat} {s : Ws} {fa : Fa} {bs : List (Nat × TypeId × Array Value)}
theorem Rq.drew (h : Rq w W A l g9 g13 s) : Rq w W.drew A l g9 g13 s := h.below (below_drew (Below.refl _ _))
theorem Rq.drew_f6 (h : Rq w W A l g9 g13 s) : Blk W.drew (w.heap.size + 1) 33 zfo.cells.toArray := h.f6
theorem Rq.drew_f7 (h : Rq w W A l g9 g13 s) : Blk (W.drew.setRow (w.heap.size + 1) zfo.cells.toArray) (w.heap.size + 2) 36 zfa.cells.toArray := h.f7.row_far (by omega) _
theorem Rw.a15r1 (h : Rw w W A l g9 g13 s g15 fa bs) : (W.drew.setRow (w.heap.size + 1) zfo.cells.toArray).rangeAt g15 0 fa.cells :=
  (show Blk _ g15 36 fa.cells.toArray from Blk.row_far (w := W.drew) h.a15 (by have := h.q.o9; have := h.q.o13; have := h.o15; omega) _).range
theorem Rw.a15r2 (h : Rw w W A l g9 g13 s g15 fa bs) (c d : Array Value) : ((W.drew.setRow (w.heap.size + 1) c).setRow (w.heap.size + 2) d).rangeAt g15 0 fa.cells :=
  (show Blk _ g15 36 fa.cells.toArray from (Blk.row_far (w := W.drew) h.a15 (by have := h.q.o9; have := h.q.o13; have := h.o15; omega) _).row_far (by have := h.q.o9; have := h.q.o13; have := h.o15; omega) _).range
end
set_option maxRecDepth 8000 in
theorem RdO.ob {W : World} {ab off : Nat} (h : RdO W (some ⟨ab, off, none⟩) l) (j : Nat) (hj : j < l.length) : ObAt W ab (off + j * 163) l[j] := by
  obtain ⟨b', off', e, ho⟩ := h j hj
  injection e with e
  injection e with e1 e2
  subst e1 e2
  exact ho
set_option maxRecDepth 8000 in
theorem keep_yes {u : Oj} {r : Nat} {kp pk : Ky} (h : prepd l (sl u 14) = pk) (h6 : pk.k = 6) (hr : r < 4) : keep l u r kp = pk := by
  have e : pk = sl u 14 := by
    rw [← h]
    unfold prepd
    split
    · rfl
    · rename_i hh
      exfalso
      rw [← h] at h6
      unfold prepd at h6
      rw [if_neg hh] at h6
      exact absurd h6 (by decide)
  unfold keep
  rw [h, if_pos ⟨h6, hr⟩, e]
set_option maxRecDepth 8000 in
theorem keep_no {u : Oj} {r : Nat} {kp pk : Ky} (h : prepd l (sl u 14) = pk) (hh : ¬ (pk.k = 6 ∧ r < 4)) : keep l u r kp = kp := by
  unfold keep
  rw [h, if_neg hh]
set_option maxRecDepth 100000 in
set_option maxHeartbeats 40000000 in
theorem rwalk_go (hr : RdO w A l) (hn : l.length = n) (hl : n ≤ 1000) (h0 : 0 < n) (x : Ky) (an : Nat) (ha : an ≤ 9223372036854775807) (hv : x.may n) :
    Calls Tryd.prog 12 #[.slice A n cap, x.val, .int .i64 (an : Int)] w fun e w' => e = .returned (.tuple #[(goneW l x (an : Int)).fo.val, ((goneW l x (an : Int)).fa (an : Int)).val, .int .i64 0]) ∧ Below w.heap.size w w' := by
  obtain ⟨O, hO⟩ : ∃ O, O = goneW l x (an : Int) := ⟨_, rfl⟩
  rw [← hO]
  obtain ⟨ad, had⟩ : ∃ ad : Int, ad = (an : Int) := ⟨_, rfl⟩
  have HAD := Lib.hid had
  rw [← had]
  obtain ⟨ab, off, hA, hob0⟩ := hr 0 (by omega)
  have HAB := Lib.hid hob0.lt
  subst hA
  clear hob0
  have hz6 := z59
  have hz7 := z35
  have HB0 := Lib.hid ((((Below.refl w.heap.size w).alloc (Nat.le_refl _) (.cells (kc x.k x.o x.c x.l x.r x.v) 31)).alloc (by simp) (.cells zfo.cells.toArray 33)).alloc (by simp; omega) (.cells zfa.cells.toArray 36))
  have HK0 := Lib.hid (((Blk.new w 31 (kc x.k x.o x.c x.l x.r x.v)).alloc (.cells zfo.cells.toArray 33)).alloc (.cells zfa.cells.toArray 36))
  have HF0 := Lib.hid ((Blk.new_of (w.alloc (.cells (kc x.k x.o x.c x.l x.r x.v) 31)) 33 zfo.cells.toArray (g := w.heap.size + 1) (by simp)).alloc (.cells zfa.cells.toArray 36))
  have HA0 := Lib.hid (Blk.new_of ((w.alloc (.cells (kc x.k x.o x.c x.l x.r x.v) 31)).alloc (.cells zfo.cells.toArray 33)) 36 zfa.cells.toArray (g := w.heap.size + 2) (by simp))
  obtain ⟨c0, c1, c2, c3, c4, c5⟩ := HK0.out.six
  have dn : ((n : Int) == 0) = false := by simp; omega
  have dn2 : (n == 0) = false := by simp; omega
  have HO0 := Lib.hid hO
  have HV := Lib.hid hv
  have HRO := Lib.hid hr
  have HLN := Lib.hid hn
  have HLL := Lib.hid hl
  have HL0 := Lib.hid h0
  have HAN := Lib.hid ha
  have da : decide (ad < 0) = false := decide_eq_false (by omega)
  clear hO had hr hn hl h0 ha hv
  go_enter Tryd.func12, Tryd.ntmps12
  go_wp2_with (first
    | (go_at_call 26; refine (rmay_y n cap (some ⟨ab, off, none⟩) x HV.out _).mono ?_; rintro e w1 ⟨rfl, b1⟩; have HB1 := Lib.hid (HB0.out.trans (b1.mono HB0.out.size)); have HF1 := Lib.hid (HF0.out.keep b1); have HA1 := Lib.hid (HA0.out.keep b1); have HK1 := Lib.hid (HK0.out.keep b1); clear b1 c0 c1 c2 c3 c4 c5; obtain ⟨c0, c1, c2, c3, c4, c5⟩ := HK1.out.six)
    | (show wpList _ _ _ ({ dst := none, op := .store _ (.tmp 9) (.tmp 36), type := _, pos := _, after := _, guard := _ } :: _) _ _; refine wpList_store_new (l := kl x) (l0 := kl zk) (ty := 31) rfl (.tmp 9) (.tmp 36) (by rfl) _ rfl (by rfl) (by rfl) size30 rfl (kl_one _) ?_)
    | (show wpList _ _ _ ({ dst := some 38, op := .build _ _, type := _, pos := _, after := _, guard := _ } :: _) _ _; refine wpList_yields (S := fun _ => True) (y_build (by rfl) (by rfl) built30) trivial ?_)
    | (show wpList _ _ _ ({ dst := none, op := .store _ (.tmp 13) (.tmp 38), type := _, pos := _, after := _, guard := _ } :: _) _ _; refine wpList_store_new (l := kl zk) (l0 := kl zk) (ty := 31) rfl (.tmp 13) (.tmp 38) (by rfl) (w1.heap.size + 1) (by simp) (by rfl) (by rfl) size30 rfl (kl_one _) ?_))
  have HQ0 : Hid (Rq w ((w1.alloc (.cells (kl x).toArray 31)).alloc (.cells (kl zk).toArray 31)) (some ⟨ab, off, none⟩) l w1.heap.size (w1.heap.size + 1) (ws0 x an)) := Lib.hid
    ⟨(HB1.out.alloc HB1.out.size _).alloc (by have := HB1.out.size; simp; omega) _, (HF1.out.alloc _).alloc _, (HA1.out.alloc _).alloc _, (Blk.new w1 _ _).alloc _, Blk.new_of (w1.alloc _) _ _ (by simp), ((HRO.out.below HB1.out).alloc _).alloc _, by have := HA1.out.lt; omega, by omega, fun a e => by injection e with e; subst e; exact HAB.out⟩
  generalize (w1.alloc (.cells (kl x).toArray 31)).alloc (.cells (kl zk).toArray 31) = W0 at HQ0 ⊢
  obtain ⟨g9, hg9⟩ : ∃ g, g = w1.heap.size := ⟨_, rfl⟩
  rw [← hg9] at HQ0 ⊢
  obtain ⟨g13, hg13⟩ : ∃ g, g = g9 + 1 := ⟨_, rfl⟩
  rw [← hg13] at HQ0 ⊢
  clear hg9 hg13 HB0 HB1 HF0 HF1 HA0 HA1 HK0 HK1 c0 c1 c2 c3 c4 c5 da
  have hHAD := HAD.out
  go_loopw [10, 11, 12, 14, 54] (fun q10 q11 q12 q14 q54 wr => (q54 = undef ∨ q54 = .bool false) ∧ ∃ (s : Ws) (hg : Int), q10 = .int .i64 (s.left : Int) ∧ q11 = .int .i64 (s.r : Int) ∧ q12 = .int .i64 hg ∧ q14 = .int .i64 (s.d : Int) ∧ Rq w wr (some ⟨ab, off, none⟩) l g9 g13 s ∧ O = runW l (9 - s.d) s ∧ s.r < 8 ∧ s.left ≤ 9223372036854775807 ∧ s.d ≤ 8 ∧ (∀ v : Int, v ≤ 8 → (v < hg ↔ v < s.high))) (fun _ _ _ q14 _ _ => 20 - (intOf q14).toNat)
  case atStart => exact ⟨.inl rfl, ws0 x an, 99, by rw [hHAD]; rfl, rfl, rfl, rfl, HQ0.out, HO0.out, (show (0 : Nat) < 8 from by decide), HAN.out, (show (0 : Nat) ≤ 8 from by decide), fun v hv => ⟨fun _ => by show v < 9; omega, fun _ => by omega⟩⟩
  case round =>
    clear HQ0 HO0 hHAD
    obtain ⟨h54, s, hg, rfl, rfl, rfl, rfl, hq, hO, hr8, hl0, hd8, hhg⟩ := hrel
    have H54 := Lib.hid h54
    clear h54
    have HQ := Lib.hid hq
    have HO := Lib.hid hO
    have HR8 := Lib.hid hr8
    have HLE := Lib.hid hl0
    have HD8 := Lib.hid hd8
    have HHG := Lib.hid hhg
    obtain ⟨k0, k1, k2, k3, k4, k5⟩ := HQ.out.k9.six
    obtain ⟨e0, e1, e2, e3, e4, e5⟩ := HQ.out.k13.six
    have d20 : decide ((s.d : Int) < 20) = true := decide_eq_true (by omega)
    have d20n : decide (s.d < 20) = true := decide_eq_true (by omega)
    have dl0 : (s.left : Int) ≤ 9223372036854775807 := by omega
    have dd0 : (s.d : Int) + 1 ≤ 100 := by omega
    have dd1 : 0 ≤ (s.d : Int) + 1 := by omega
    clear hq hO hr8 hl0 hd8 hhg
    by_cases hpg : pgN l s.x
    · have HPG := Lib.hid hpg
      have HNM0 := hpg.1
      have HCN := Lib.hid (fun (W : World) (hr : RdO W (some ⟨ab, off, none⟩) l) => rcn_n (cap := cap) hr HLN.out HLL.out s.x (b := true) HNM0)
      clear HNM0
      have HK3 := Lib.hid hpg.2
      have x2 : (s.x.k != 2) = true := by simp [hpg.2]
      have x3 : (s.x.k != 3) = false := by simp [hpg.2]
      have x4 : (s.x.k == 3) = true := by simp [hpg.2]
      clear hpg
      by_cases hfar : 64 ≤ s.left
      · have HFR := Lib.hid hfar
        have y0 : decide ((63 : Int) < (s.left : Int)) = true := decide_eq_true (by omega)
        have y1 : decide (63 < s.left) = true := decide_eq_true (by omega)
        clear hfar
        go_wp2_with (first
          | (show wpList _ _ _ ({ dst := some 45, op := .build _ _, type := _, pos := _, after := _, guard := _ } :: _) _ _; refine wpList_yields (S := fun _ => True) (y_build2t (by rfl) (by rfl) (by rfl) (by rfl) (builtFa2 ⟨0, s.kp, ad⟩ rfl)) trivial ?_)
          | (show wpList _ _ _ ({ dst := none, op := .store _ (.tmp 15) (.tmp 45), type := _, pos := _, after := _, guard := _ } :: _) _ _; refine wpList_store_new (l := Fa.cells ⟨0, s.kp, ad⟩) (l0 := zfa.cells) (ty := 36) rfl (.tmp 15) (.tmp 45) (by rfl) _ rfl (by rfl) (by rfl) sizeFa rfl (Fa.one _) ?_; have HW1 := Lib.hid (Rw.new HQ.out ⟨0, s.kp, ad⟩ rfl); clear k0 k1 k2 k3 k4 k5 e0 e1 e2 e3 e4 e5; obtain ⟨k0, k1, k2, k3, k4, k5⟩ := HW1.out.q.k9.six; obtain ⟨e0, e1, e2, e3, e4, e5⟩ := HW1.out.q.k13.six)
          | (go_at_call 27; refine (HCN.out _ HW1.out.q.row).mono ?_; rintro e_ w2 ⟨rfl, b2⟩; have HW2 := Lib.hid (HW1.out.below b2); clear b2 k0 k1 k2 k3 k4 k5 e0 e1 e2 e3 e4 e5; obtain ⟨k0, k1, k2, k3, k4, k5⟩ := HW2.out.q.k9.six; obtain ⟨e0, e1, e2, e3, e4, e5⟩ := HW2.out.q.k13.six; have a0 := HW2.out.a15.cell 0; have f15 := HW2.out.a15.frozen 0))
        have HW9 := Lib.hid (HW2.out.kind 2)
        generalize (w2).setCell ⟨wr.heap.size, 0, none⟩ (.int .i64 2) = w9 at HW9 ⊢
        have HE := Lib.hid HW9.out
        have HTD := Lib.hid (HE.out.q.drew.told zfo ⟨2, s.kp, ad⟩)
        refine wp_region_only (S := fun W => W.rangeAt wr.heap.size 0 (Fa.cells ⟨2, s.kp, ad⟩)) (by kernel_rfl) HE.out.drew.a15.range (fun hHeld => ?_)
        refine wpAnyH_take (i := 0) rfl (by kernel_rfl) (by kernel_rfl) (by kernel_rfl) (fun _ _ _ h => h) (y_build (by rfl) (by rfl) builtFo0) hHeld ?_
        try simp only [Act.put, List.getElem_toArray, List.getElem_cons_zero, List.setIfInBounds_toArray, List.set_cons_zero, List.set_cons_succ]
        refine wpAnyH_take (i := 1) rfl (by kernel_rfl) (by kernel_rfl) (by kernel_rfl) (fun _ _ _ h => h) (y_fa (by rfl) (.tmp 15) (by rfl) wr.heap.size 0 (by rfl) ⟨2, s.kp, ad⟩ (fun _ h => h)) hHeld ?_
        try simp only [Act.put, List.getElem_toArray, List.getElem_cons_succ, List.getElem_cons_zero, List.setIfInBounds_toArray, List.set_cons_zero, List.set_cons_succ]
        refine wpAnyH_ready (rs := [2]) (by kernel_rfl) (by simp) ?_
        refine AllReadyH.cons (by rfl) (fun K hK => ?_) AllReadyH.nil
        refine step_store_big HE.out.q.drew_f6 rfl (.tmp 6) (.tmp 69) (ty := 33) (l0 := zfo.cells) (l := zfo.cells) (by rfl) (by rfl) (by rfl) sizeFo rfl zfo.one ?_
        refine hK.out _ _ (HE.out.a15r1) (fun hHeld => ?_)
        clear hK K
        try simp only [Act.put, List.getElem_toArray, List.getElem_cons_succ, List.getElem_cons_zero]
        refine wpAnyH_ready (rs := [3]) (by kernel_rfl) (by simp) ?_
        refine AllReadyH.cons (by rfl) (fun K hK => ?_) AllReadyH.nil
        refine step_store_big HE.out.q.drew_f7 rfl (.tmp 7) (.tmp 70) (ty := 36) (l0 := zfa.cells) (l := Fa.cells ⟨2, s.kp, ad⟩) (by rfl) (by rfl) (by rfl) sizeFa rfl (Fa.one _) ?_
        refine hK.out _ _ (HE.out.a15r2 _ _) (fun hHeld => ?_)
        clear hK K
        try simp only [Act.put, List.getElem_toArray, List.getElem_cons_succ, List.getElem_cons_zero]
        refine wpAnyH_take (i := 4) (v := ?v1) rfl (by kernel_rfl) (by kernel_rfl) (by kernel_rfl) (fun _ _ _ h => h) (Or.inl ⟨by rfl, ?hy1⟩) hHeld ?rest1
        case hy1 =>
          intro w' hSw
          try dsimp only at hSw
          go_simp
          first | done | with_reducible rfl
        try simp only [Act.put, List.getElem_toArray, List.getElem_cons_succ, List.getElem_cons_zero, List.setIfInBounds_toArray, List.set_cons_zero, List.set_cons_succ]
        refine wpAnyH_done (by kernel_rfl) ?_ _
        refine OnlyN.normal ?_
        go_wp2_with fail
        exact bodyPost_ret (res_2t rfl _ _ (w.heap.size + 1) (w.heap.size + 2) _ _ _ rfl rfl rfl (load_fo zfo HTD.out.2.1) (load_fa _ HTD.out.2.2)) rfl ⟨by rw [HO.out.trans (run_inl HD8.out (stepW_far HPG.out HFR.out))]; rfl, HTD.out.1⟩
      · have HFR := Lib.hid hfar
        have y0 : decide ((63 : Int) < (s.left : Int)) = false := decide_eq_false (by omega)
        have y1 : decide (63 < s.left) = false := decide_eq_false (by omega)
        clear hfar
        obtain ⟨r4, hr4⟩ : ∃ r4, r4 = s.r % 4 := ⟨_, rfl⟩
        have t4 : (s.r : Int).tmod 4 = (r4 : Int) := by rw [Int.tmod_eq_emod_of_nonneg (by omega), hr4]; omega
        have HR4 := Lib.hid hr4
        have v4 : (r4 : Int) ≤ 3 := by omega
        have v5 : (0 : Int) ≤ (r4 : Int) := by omega
        clear hr4
        by_cases hz : r4 = 0
        · have y2 : ((r4 : Int) != 0) = false := by simp; omega
          have HPK := Lib.hid (show pgK s.x s.r = s.x from by unfold pgK; rw [← HR4.out, if_pos hz])
          clear hz
          go_wp2_with (first
            | (show wpList _ _ _ ({ dst := some 45, op := .build _ _, type := _, pos := _, after := _, guard := _ } :: _) _ _; refine wpList_yields (S := fun _ => True) (y_build2t (by rfl) (by rfl) (by rfl) (by rfl) (builtFa2 ⟨0, s.kp, ad⟩ rfl)) trivial ?_)
            | (show wpList _ _ _ ({ dst := none, op := .store _ (.tmp 15) (.tmp 45), type := _, pos := _, after := _, guard := _ } :: _) _ _; refine wpList_store_new (l := Fa.cells ⟨0, s.kp, ad⟩) (l0 := zfa.cells) (ty := 36) rfl (.tmp 15) (.tmp 45) (by rfl) _ rfl (by rfl) (by rfl) sizeFa rfl (Fa.one _) ?_; have HW1 := Lib.hid (Rw.new HQ.out ⟨0, s.kp, ad⟩ rfl); clear k0 k1 k2 k3 k4 k5 e0 e1 e2 e3 e4 e5; obtain ⟨k0, k1, k2, k3, k4, k5⟩ := HW1.out.q.k9.six; obtain ⟨e0, e1, e2, e3, e4, e5⟩ := HW1.out.q.k13.six)
            | (go_at_call 27; refine (HCN.out _ HW1.out.q.row).mono ?_; rintro e_ w2 ⟨rfl, b2⟩; have HW2 := Lib.hid (HW1.out.below b2); clear b2 k0 k1 k2 k3 k4 k5 e0 e1 e2 e3 e4 e5; obtain ⟨k0, k1, k2, k3, k4, k5⟩ := HW2.out.q.k9.six; obtain ⟨e0, e1, e2, e3, e4, e5⟩ := HW2.out.q.k13.six; have a0 := HW2.out.a15.cell 0; have f15 := HW2.out.a15.frozen 0; have HX9 := Lib.hid HW2.out.q)
            | (show wpList _ _ _ ({ dst := some 75, op := .load _ _, type := _, pos := _, after := _, guard := _ } :: _) _ _; refine wpList_yields (S := fun W => KeyAt W g9 0 s.x) (y_kyG (by rfl) (.tmp 9) (by rfl) g9 0 (by rfl) s.x (fun _ h => h)) (Blk.katG HX9.out.k9) ?_)
            | (show wpList _ _ _ ({ dst := some 77, op := .load _ _, type := _, pos := _, after := _, guard := _ } :: _) _ _; refine wpList_yields (S := fun W => KeyAt W g13 0 s.kp) (y_kyG (by rfl) (.tmp 13) (by rfl) g13 0 (by rfl) s.kp (fun _ h => h)) (Blk.katG HX9.out.k13) ?_)
            | (show wpList _ _ _ ({ dst := some 79, op := .build _ _, type := _, pos := _, after := _, guard := _ } :: _) _ _; refine wpList_yields (S := fun _ => True) (y_build4 (by rfl) (by rfl) (by rfl) (by rfl) (by rfl) (by rfl) (builtFo4 ⟨s.x, (s.left : Int), s.kp, (s.d : Int)⟩)) trivial ?_)
            | (show wpList _ _ _ ({ dst := some 80, op := .build _ _, type := _, pos := _, after := _, guard := _ } :: _) _ _; refine wpList_yields (S := fun _ => True) (y_build (by rfl) (by rfl) builtFa0) trivial ?_)
            | (show wpList _ _ _ ({ dst := none, op := .store _ (.tmp 6) (.tmp 79), type := _, pos := _, after := _, guard := _ } :: _) _ _; refine wpList_store_big (l0 := zfo.cells) HX9.out.f6 rfl (.tmp 6) (.tmp 79) (ty := 33) (l := Fo.cells ⟨s.x, (s.left : Int), s.kp, (s.d : Int)⟩) rfl (by rfl) (by rfl) sizeFo rfl (Fo.one _) ?_)
            | (show wpList _ _ _ ({ dst := none, op := .store _ (.tmp 7) (.tmp 80), type := _, pos := _, after := _, guard := _ } :: _) _ _; refine wpList_store_big (l0 := zfa.cells) (HX9.out.f7.row_far (by omega) _) rfl (.tmp 7) (.tmp 80) (ty := 36) (l := zfa.cells) rfl (by rfl) (by rfl) sizeFa rfl zfa.one ?_))
          have HTD := Lib.hid (HX9.out.told (⟨s.x, (s.left : Int), s.kp, (s.d : Int)⟩ : Fo) zfa)
          exact bodyPost_ret (res_2t rfl _ _ (w.heap.size + 1) (w.heap.size + 2) _ _ _ rfl rfl rfl (load_fo _ HTD.out.2.1) (load_fa zfa HTD.out.2.2)) rfl ⟨by rw [HO.out.trans (run_inl HD8.out (stepW_page HPG.out HFR.out)), HPK.out]; rfl, HTD.out.1⟩
        · have y2 : ((r4 : Int) != 0) = true := by simp; omega
          have HPK := Lib.hid (show pgK s.x s.r = { s.x with r := 1 } from by unfold pgK; rw [← HR4.out, if_neg hz])
          clear hz
          go_wp2_with (first
            | (show wpList _ _ _ ({ dst := some 45, op := .build _ _, type := _, pos := _, after := _, guard := _ } :: _) _ _; refine wpList_yields (S := fun _ => True) (y_build2t (by rfl) (by rfl) (by rfl) (by rfl) (builtFa2 ⟨0, s.kp, ad⟩ rfl)) trivial ?_)
            | (show wpList _ _ _ ({ dst := none, op := .store _ (.tmp 15) (.tmp 45), type := _, pos := _, after := _, guard := _ } :: _) _ _; refine wpList_store_new (l := Fa.cells ⟨0, s.kp, ad⟩) (l0 := zfa.cells) (ty := 36) rfl (.tmp 15) (.tmp 45) (by rfl) _ rfl (by rfl) (by rfl) sizeFa rfl (Fa.one _) ?_; have HW1 := Lib.hid (Rw.new HQ.out ⟨0, s.kp, ad⟩ rfl); clear k0 k1 k2 k3 k4 k5 e0 e1 e2 e3 e4 e5; obtain ⟨k0, k1, k2, k3, k4, k5⟩ := HW1.out.q.k9.six; obtain ⟨e0, e1, e2, e3, e4, e5⟩ := HW1.out.q.k13.six)
            | (go_at_call 27; refine (HCN.out _ HW1.out.q.row).mono ?_; rintro e_ w2 ⟨rfl, b2⟩; have HW2 := Lib.hid (HW1.out.below b2); clear b2 k0 k1 k2 k3 k4 k5 e0 e1 e2 e3 e4 e5; obtain ⟨k0, k1, k2, k3, k4, k5⟩ := HW2.out.q.k9.six; obtain ⟨e0, e1, e2, e3, e4, e5⟩ := HW2.out.q.k13.six; have a0 := HW2.out.a15.cell 0; have f15 := HW2.out.a15.frozen 0; have f94 := HW2.out.q.k9.frozen 4; have HX9 := Lib.hid (HW2.out.q.rights 1))
            | (show wpList _ _ _ ({ dst := some 75, op := .load _ _, type := _, pos := _, after := _, guard := _ } :: _) _ _; refine wpList_yields (S := fun W => KeyAt W g9 0 { s.x with r := 1 }) (y_kyG (by rfl) (.tmp 9) (by rfl) g9 0 (by rfl) { s.x with r := 1 } (fun _ h => h)) (Blk.katG HX9.out.k9) ?_)
            | (show wpList _ _ _ ({ dst := some 77, op := .load _ _, type := _, pos := _, after := _, guard := _ } :: _) _ _; refine wpList_yields (S := fun W => KeyAt W g13 0 s.kp) (y_kyG (by rfl) (.tmp 13) (by rfl) g13 0 (by rfl) s.kp (fun _ h => h)) (Blk.katG HX9.out.k13) ?_)
            | (show wpList _ _ _ ({ dst := some 79, op := .build _ _, type := _, pos := _, after := _, guard := _ } :: _) _ _; refine wpList_yields (S := fun _ => True) (y_build4 (by rfl) (by rfl) (by rfl) (by rfl) (by rfl) (by rfl) (builtFo4 ⟨{ s.x with r := 1 }, (s.left : Int), s.kp, (s.d : Int)⟩)) trivial ?_)
            | (show wpList _ _ _ ({ dst := some 80, op := .build _ _, type := _, pos := _, after := _, guard := _ } :: _) _ _; refine wpList_yields (S := fun _ => True) (y_build (by rfl) (by rfl) builtFa0) trivial ?_)
            | (show wpList _ _ _ ({ dst := none, op := .store _ (.tmp 6) (.tmp 79), type := _, pos := _, after := _, guard := _ } :: _) _ _; refine wpList_store_big (l0 := zfo.cells) HX9.out.f6 rfl (.tmp 6) (.tmp 79) (ty := 33) (l := Fo.cells ⟨{ s.x with r := 1 }, (s.left : Int), s.kp, (s.d : Int)⟩) rfl (by rfl) (by rfl) sizeFo rfl (Fo.one _) ?_)
            | (show wpList _ _ _ ({ dst := none, op := .store _ (.tmp 7) (.tmp 80), type := _, pos := _, after := _, guard := _ } :: _) _ _; refine wpList_store_big (l0 := zfa.cells) (HX9.out.f7.row_far (by omega) _) rfl (.tmp 7) (.tmp 80) (ty := 36) (l := zfa.cells) rfl (by rfl) (by rfl) sizeFa rfl zfa.one ?_))
          have HTD := Lib.hid (HX9.out.told (⟨{ s.x with r := 1 }, (s.left : Int), s.kp, (s.d : Int)⟩ : Fo) zfa)
          exact bodyPost_ret (res_2t rfl _ _ (w.heap.size + 1) (w.heap.size + 2) _ _ _ rfl rfl rfl (load_fo _ HTD.out.2.1) (load_fa zfa HTD.out.2.2)) rfl ⟨by rw [HO.out.trans (run_inl HD8.out (stepW_page HPG.out HFR.out)), HPK.out]; rfl, HTD.out.1⟩
    · by_cases hak : askN l s.x
      · obtain ⟨j, u, d⟩ := askN_d hak
        have HD := Lib.hid d
        have HPG := Lib.hid hpg
        have HAK := Lib.hid hak
        have HNM0 := hak.1
        have HCN := Lib.hid (fun (W : World) (hr : RdO W (some ⟨ab, off, none⟩) l) => rcn_n (cap := cap) hr HLN.out HLL.out s.x (b := true) HNM0)
        clear HNM0
        have x2 : (s.x.k != 2) = false := by simp [hak.2]
        have x4 : (s.x.k == 3) = false := by simp [hak.2]
        clear hpg hak d
        by_cases hd : s.d = 8
        · have HDE := Lib.hid hd
          have y0 : decide ((8 : Int) ≤ (s.d : Int)) = true := decide_eq_true (by omega)
          have y1 : decide (8 ≤ s.d) = true := decide_eq_true (by omega)
          clear hd
          go_wp2_with (first
            | (show wpList _ _ _ ({ dst := some 45, op := .build _ _, type := _, pos := _, after := _, guard := _ } :: _) _ _; refine wpList_yields (S := fun _ => True) (y_build2t (by rfl) (by rfl) (by rfl) (by rfl) (builtFa2 ⟨0, s.kp, ad⟩ rfl)) trivial ?_)
            | (show wpList _ _ _ ({ dst := none, op := .store _ (.tmp 15) (.tmp 45), type := _, pos := _, after := _, guard := _ } :: _) _ _; refine wpList_store_new (l := Fa.cells ⟨0, s.kp, ad⟩) (l0 := zfa.cells) (ty := 36) rfl (.tmp 15) (.tmp 45) (by rfl) _ rfl (by rfl) (by rfl) sizeFa rfl (Fa.one _) ?_; have HW1 := Lib.hid (Rw.new HQ.out ⟨0, s.kp, ad⟩ rfl); clear k0 k1 k2 k3 k4 k5 e0 e1 e2 e3 e4 e5; obtain ⟨k0, k1, k2, k3, k4, k5⟩ := HW1.out.q.k9.six; obtain ⟨e0, e1, e2, e3, e4, e5⟩ := HW1.out.q.k13.six)
            | (go_at_call 27; refine (HCN.out _ HW1.out.q.row).mono ?_; rintro e_ w2 ⟨rfl, b2⟩; have HW2 := Lib.hid (HW1.out.below b2); clear b2 k0 k1 k2 k3 k4 k5 e0 e1 e2 e3 e4 e5; obtain ⟨k0, k1, k2, k3, k4, k5⟩ := HW2.out.q.k9.six; obtain ⟨e0, e1, e2, e3, e4, e5⟩ := HW2.out.q.k13.six; have a0 := HW2.out.a15.cell 0; have f15 := HW2.out.a15.frozen 0))
          have HW9 := Lib.hid (HW2.out.kind 3)
          generalize (w2).setCell ⟨wr.heap.size, 0, none⟩ (.int .i64 3) = w9 at HW9 ⊢
          have HE := Lib.hid HW9.out
          have HTD := Lib.hid (HE.out.q.drew.told zfo ⟨3, s.kp, ad⟩)
          refine wp_region_only (S := fun W => W.rangeAt wr.heap.size 0 (Fa.cells ⟨3, s.kp, ad⟩)) (by kernel_rfl) HE.out.drew.a15.range (fun hHeld => ?_)
          refine wpAnyH_take (i := 0) rfl (by kernel_rfl) (by kernel_rfl) (by kernel_rfl) (fun _ _ _ h => h) (y_build (by rfl) (by rfl) builtFo0) hHeld ?_
          try simp only [Act.put, List.getElem_toArray, List.getElem_cons_zero, List.setIfInBounds_toArray, List.set_cons_zero, List.set_cons_succ]
          refine wpAnyH_take (i := 1) rfl (by kernel_rfl) (by kernel_rfl) (by kernel_rfl) (fun _ _ _ h => h) (y_fa (by rfl) (.tmp 15) (by rfl) wr.heap.size 0 (by rfl) ⟨3, s.kp, ad⟩ (fun _ h => h)) hHeld ?_
          try simp only [Act.put, List.getElem_toArray, List.getElem_cons_succ, List.getElem_cons_zero, List.setIfInBounds_toArray, List.set_cons_zero, List.set_cons_succ]
          refine wpAnyH_ready (rs := [2]) (by kernel_rfl) (by simp) ?_
          refine AllReadyH.cons (by rfl) (fun K hK => ?_) AllReadyH.nil
          refine step_store_big HE.out.q.drew_f6 rfl (.tmp 6) (.tmp 84) (ty := 33) (l0 := zfo.cells) (l := zfo.cells) (by rfl) (by rfl) (by rfl) sizeFo rfl zfo.one ?_
          refine hK.out _ _ (HE.out.a15r1) (fun hHeld => ?_)
          clear hK K
          try simp only [Act.put, List.getElem_toArray, List.getElem_cons_succ, List.getElem_cons_zero]
          refine wpAnyH_ready (rs := [3]) (by kernel_rfl) (by simp) ?_
          refine AllReadyH.cons (by rfl) (fun K hK => ?_) AllReadyH.nil
          refine step_store_big HE.out.q.drew_f7 rfl (.tmp 7) (.tmp 85) (ty := 36) (l0 := zfa.cells) (l := Fa.cells ⟨3, s.kp, ad⟩) (by rfl) (by rfl) (by rfl) sizeFa rfl (Fa.one _) ?_
          refine hK.out _ _ (HE.out.a15r2 _ _) (fun hHeld => ?_)
          clear hK K
          try simp only [Act.put, List.getElem_toArray, List.getElem_cons_succ, List.getElem_cons_zero]
          refine wpAnyH_take (i := 4) (v := ?v2) rfl (by kernel_rfl) (by kernel_rfl) (by kernel_rfl) (fun _ _ _ h => h) (Or.inl ⟨by rfl, ?hy2⟩) hHeld ?rest2
          case hy2 =>
            intro w' hSw
            try dsimp only at hSw
            go_simp
            first | done | with_reducible rfl
          try simp only [Act.put, List.getElem_toArray, List.getElem_cons_succ, List.getElem_cons_zero, List.setIfInBounds_toArray, List.set_cons_zero, List.set_cons_succ]
          refine wpAnyH_done (by kernel_rfl) ?_ _
          refine OnlyN.normal ?_
          go_wp2_with fail
          exact bodyPost_ret (res_2t rfl _ _ (w.heap.size + 1) (w.heap.size + 2) _ _ _ rfl rfl rfl (load_fo zfo HTD.out.2.1) (load_fa _ HTD.out.2.2)) rfl ⟨by rw [HO.out.trans (run_inl HD8.out (stepW_deep HAK.out HDE.out))]; rfl, HTD.out.1⟩
        · have HDE := Lib.hid hd
          have y0 : decide ((8 : Int) ≤ (s.d : Int)) = false := decide_eq_false (by have := HD8.out; omega)
          have y1 : decide (8 ≤ s.d) = false := decide_eq_false (by have := HD8.out; omega)
          clear hd
          obtain ⟨_, xr, hxr, _, hx8⟩ := ok_of HD.out.ok
          have HXR := Lib.hid hxr
          have HX8 := Lib.hid hx8
          clear hxr hx8
          go_wp2_with (first
            | (show wpList _ _ _ ({ dst := some 45, op := .build _ _, type := _, pos := _, after := _, guard := _ } :: _) _ _; refine wpList_yields (S := fun _ => True) (y_build2t (by rfl) (by rfl) (by rfl) (by rfl) (builtFa2 ⟨0, s.kp, ad⟩ rfl)) trivial ?_)
            | (show wpList _ _ _ ({ dst := none, op := .store _ (.tmp 15) (.tmp 45), type := _, pos := _, after := _, guard := _ } :: _) _ _; refine wpList_store_new (l := Fa.cells ⟨0, s.kp, ad⟩) (l0 := zfa.cells) (ty := 36) rfl (.tmp 15) (.tmp 45) (by rfl) _ rfl (by rfl) (by rfl) sizeFa rfl (Fa.one _) ?_; have HW1 := Lib.hid (Rw.new HQ.out ⟨0, s.kp, ad⟩ rfl); clear k0 k1 k2 k3 k4 k5 e0 e1 e2 e3 e4 e5; obtain ⟨k0, k1, k2, k3, k4, k5⟩ := HW1.out.q.k9.six; obtain ⟨e0, e1, e2, e3, e4, e5⟩ := HW1.out.q.k13.six)
            | (go_at_call 27; refine (HCN.out _ HW1.out.q.row).mono ?_; rintro e_ w2 ⟨rfl, b2⟩; have HW2 := Lib.hid (HW1.out.below b2); clear b2 k0 k1 k2 k3 k4 k5 e0 e1 e2 e3 e4 e5; obtain ⟨k0, k1, k2, k3, k4, k5⟩ := HW2.out.q.k9.six; obtain ⟨e0, e1, e2, e3, e4, e5⟩ := HW2.out.q.k13.six; replace k4 := cell_eq k4 HXR.out; have a0 := HW2.out.a15.cell 0; have f15 := HW2.out.a15.frozen 0))
          go_loopw [11, 16] (fun q11 q16 wb => ∃ i : Nat, i ≤ 3 ∧ q11 = .int .i64 (rBit s.r xr i : Int) ∧ q16 = .int .i64 ((2 ^ i : Nat) : Int) ∧ w2 = wb) (fun _ q16 _ => 9 - (intOf q16).toNat)
          case atStart => exact ⟨0, by omega, by rw [rBit_0], rfl, rfl⟩
          case round =>
            obtain ⟨i, hi, rfl, rfl, rfl⟩ := hrel
            by_cases hi3 : i < 3
            · have hpw : 1 ≤ 2 ^ i ∧ 2 ^ i ≤ 4 ∧ 2 ^ (i + 1) = 2 ^ i * 2 := by rcases (show i = 0 ∨ i = 1 ∨ i = 2 by omega) with rfl | rfl | rfl <;> decide
              obtain ⟨hy, hno, hr8b⟩ := rBit_yes i hi3 s.r HR8.out xr HX8.out
              obtain ⟨b, hb⟩ : ∃ b, b = 2 ^ i := ⟨_, rfl⟩
              obtain ⟨r1, hr1⟩ : ∃ r1, r1 = rBit s.r xr i := ⟨_, rfl⟩
              have HIE := Lib.hid hi3
              have HP2 := Lib.hid hpw.2.2
              rw [← hb] at hpw hy hno ⊢
              rw [← hr1] at hy hno hr8b ⊢
              have HBB := Lib.hid hb
              obtain ⟨q1, hq1⟩ : ∃ q, q = xr / b := ⟨_, rfl⟩
              obtain ⟨q2, hq2⟩ : ∃ q, q = q1 % 2 := ⟨_, rfl⟩
              obtain ⟨q3, hq3⟩ : ∃ q, q = r1 / b := ⟨_, rfl⟩
              obtain ⟨q4, hq4⟩ : ∃ q, q = q3 % 2 := ⟨_, rfl⟩
              have hX8 := HX8.out
              have u1 : q1 ≤ xr := by rw [hq1]; exact Nat.div_le_self _ _
              have u3 : q3 ≤ r1 := by rw [hq3]; exact Nat.div_le_self _ _
              have t1 : (xr : Int).tdiv (b : Int) = (q1 : Int) := by rw [Int.tdiv_eq_ediv_of_nonneg (by omega), hq1]; exact (Int.natCast_ediv xr b).symm
              have t2 : (q1 : Int).tmod 2 = (q2 : Int) := by rw [Int.tmod_eq_emod_of_nonneg (by omega), hq2]; omega
              have t3 : (r1 : Int).tdiv (b : Int) = (q3 : Int) := by rw [Int.tdiv_eq_ediv_of_nonneg (by omega), hq3]; exact (Int.natCast_ediv r1 b).symm
              have t4 : (q3 : Int).tmod 2 = (q4 : Int) := by rw [Int.tmod_eq_emod_of_nonneg (by omega), hq4]; omega
              have z0 : ((b : Int) == 0) = false := by simp; omega
              have z0n : ¬ b = 0 := by omega
              have z0p : 0 < b := by omega
              have z1 : decide ((b : Int) ≤ 4) = true := decide_eq_true (by omega)
              have z2 : decide (b ≤ 4) = true := decide_eq_true (by omega)
              have v0 : (q1 : Int) ≤ 7 := by omega
              have v1 : (0 : Int) ≤ (q1 : Int) := by omega
              have v2 : (q3 : Int) ≤ 7 := by omega
              have v3 : (0 : Int) ≤ (q3 : Int) := by omega
              have v4 : (q2 : Int) ≤ 1 := by omega
              have v5 : (q4 : Int) ≤ 1 := by omega
              have v6 : (b : Int) ≤ 4 := by omega
              have v7 : (r1 : Int) ≤ 7 := by omega
              rw [← hq1, ← hq2, ← hq3, ← hq4] at hy hno
              clear hq1 hq2 hq3 hq4 hb hr1 hi hi3 u1 u3
              by_cases m1 : q2 = 1
              · have y1 : ((q2 : Int) == 1) = true := by simp; omega
                by_cases m2 : q4 = 0
                · have y2 : ((q4 : Int) == 0) = true := by simp; omega
                  have hE := Lib.hid (hy ⟨m1, m2⟩)
                  clear hy hno hpw
                  go_wp2_with fail
                  refine ⟨⟨i + 1, by have := HIE.out; omega, by rw [← hE.out]; go_num, by rw [HP2.out, ← HBB.out]; go_num, by first | rfl | trivial⟩, ?_⟩
                  simp [intOf]; omega
                · have y2 : ((q4 : Int) == 0) = false := by simp; omega
                  have hE := Lib.hid (hno (fun h => m2 h.2))
                  clear hy hno hpw
                  go_wp2_with fail
                  refine ⟨⟨i + 1, by have := HIE.out; omega, by rw [← hE.out], by rw [HP2.out, ← HBB.out]; go_num, by first | rfl | trivial⟩, ?_⟩
                  simp [intOf]; omega
              · have y1 : ((q2 : Int) == 1) = false := by simp; omega
                have hE := Lib.hid (hno (fun h => m1 h.1))
                clear hy hno hpw
                go_wp2_with fail
                refine ⟨⟨i + 1, by have := HIE.out; omega, by rw [← hE.out], by rw [HP2.out, ← HBB.out]; go_num, by first | rfl | trivial⟩, ?_⟩
                simp [intOf]; omega
            · obtain rfl : i = 3 := by omega
              have z1 : decide (((2 ^ 3 : Nat) : Int) ≤ 4) = false := by decide
              have z2 : decide (2 ^ 3 ≤ 4) = false := by decide
              rw [rBit_3 _ _ HX8.out]
              clear hi hi3
              have hX8 := HX8.out
              obtain ⟨r2, hr2⟩ : ∃ r2, r2 = s.r ||| xr := ⟨_, rfl⟩
              have HR2 := Lib.hid hr2
              have HR28 := Lib.hid (show r2 < 8 by rw [hr2]; exact or8 HR8.out hX8)
              have HXN := Lib.hid (show s.r ||| s.x.r.toNat = r2 by rw [hr2, HXR.out, Int.toNat_natCast])
              rw [← hr2]
              clear hr2 hX8
              replace k1 := cell_eq k1 HD.out.o
              have HJ := Lib.hid (show j < l.length from HD.out.lt)
              have dj : (j : Int) < (n : Int) := by have := HD.out.lt; have := HLN.out; omega
              have hz34 := z34
              have hbo := oz_len
              obtain ⟨h, hh⟩ : ∃ h, h = sl u 15 := ⟨_, rfl⟩
              have HH := Lib.hid hh
              clear hh
              have HOB := Lib.hid (show ObAt w2 ab (off + j * 163) u from by have := HW2.out.q.row.ob j HJ.out; rw [HD.out.at_] at this; exact this)
              have HW4 := Lib.hid (HW2.out.more u.cells.toArray 52 (g := w2.heap.size) rfl)
              have HW5 := Lib.hid (HW4.out.more (kl h).toArray 31 (g := w2.heap.size + 1) (by simp))
              by_cases f1 : h.k = 1
              · by_cases f2 : 1 ≤ h.v
                · by_cases f3 : h.v ≤ 8
                  · by_cases f4 : h.v < s.high
                    · obtain ⟨m, hm⟩ : ∃ m : Nat, h.v = (m : Int) := ⟨h.v.toNat, by omega⟩
                      have HM := Lib.hid hm
                      have HM1 := Lib.hid (show 1 ≤ m by omega)
                      have HM8 := Lib.hid (show m ≤ 8 by omega)
                      have HHO := Lib.hid (show hOk (sl u 15) s.high from by rw [← HH.out]; exact ⟨f1, f2, f3, f4⟩)
                      have HMV := Lib.hid (show (sl u 15).v = (m : Int) from by rw [← HH.out]; exact hm)
                      have o1 : (h.k != 1) = false := by simp [f1]
                      have o2 : decide ((m : Int) < 1) = false := decide_eq_false (by omega)
                      have o2n : decide (m < 1) = false := decide_eq_false (by omega)
                      have o3 : decide ((8 : Int) < (m : Int)) = false := decide_eq_false (by omega)
                      have o3n : decide (8 < m) = false := decide_eq_false (by omega)
                      have o4 : decide (hg ≤ (m : Int)) = false := decide_eq_false (by have := (HHG.out h.v f3).2 f4; omega)
                      clear f1 f2 f3 f4 hm a0 f15
                      obtain ⟨pk, hpk⟩ : ∃ pk, prepd l (sl u 14) = pk := ⟨_, rfl⟩
                      have HPK := Lib.hid hpk
                      obtain ⟨kk, hkk⟩ : ∃ kk, kk = sl u 14 := ⟨_, rfl⟩
                      have HKK := Lib.hid hkk
                      obtain ⟨M, hM⟩ : ∃ M, M = part m := ⟨_, rfl⟩
                      have HMM := Lib.hid hM
                      have hMp := part_pos m
                      rw [← hM] at hMp
                      obtain ⟨q5, hq5⟩ : ∃ q, q = s.left / M := ⟨_, rfl⟩
                      obtain ⟨q6, hq6⟩ : ∃ q, q = s.left % M := ⟨_, rfl⟩
                      have HQ5 := Lib.hid (show s.left / part m = q5 by rw [hq5, hM])
                      have HQ6 := Lib.hid (show s.left % part m = q6 by rw [hq6, hM])
                      have u5 : q5 ≤ s.left := by rw [hq5]; exact Nat.div_le_self _ _
                      have u6 : q6 ≤ s.left := by rw [hq6]; exact Nat.mod_le _ _
                      have HU6 := Lib.hid u6
                      have p1 : (s.left : Int).tdiv (M : Int) = (q5 : Int) := by rw [Int.tdiv_eq_ediv_of_nonneg (by omega), hq5]; exact (Int.natCast_ediv s.left M).symm
                      have p2 : (s.left : Int).tmod (M : Int) = (q6 : Int) := by rw [Int.tmod_eq_emod_of_nonneg (by omega), hq6]; exact (Int.natCast_emod s.left M).symm
                      have p3 : ((M : Int) == 0) = false := by simp; omega
                      have p3n : ¬ M = 0 := by omega
                      have p3p : 0 < M := by omega
                      have p4 : (q5 : Int) ≤ 9223372036854775807 := by omega
                      have p5 : (q6 : Int) ≤ 9223372036854775807 := by omega
                      have p6 : -9223372036854775808 ≤ (q5 : Int) := by omega
                      have p7 : -9223372036854775808 ≤ (q6 : Int) := by omega
                      clear hpk hkk hM hMp hq5 hq6 u5 u6
                      by_cases f6 : pk.k = 6 ∧ r2 < 4
                      · have HKP := Lib.hid (keep_yes (kp := s.kp) HPK.out f6.1 f6.2)
                        have w0 : (pk.k == 6) = true := by simp [f6.1]
                        have w1_ : decide ((r2 : Int) < 4) = true := decide_eq_true (by omega)
                        have w1n : decide (r2 < 4) = true := decide_eq_true f6.2
                        clear f6
                        by_cases hsl : 14 ≤ q5
                        · have z1 : decide ((13 : Int) < (q5 : Int)) = true := decide_eq_true (by omega)
                          have z1n : decide (13 < q5) = true := decide_eq_true (by omega)
                          have HSL := Lib.hid (show 14 ≤ s.left / part m by rw [HQ5.out]; exact hsl)
                          clear hsl
                          go_wp2_with (first
                            | (refine wpList_yields (S := fun w' => ObAt w' ab (off + j * 163) u) (y_ob (by rfl) (.tmp 109) (by rfl) ab (off + j * 163) (by rfl) u (fun _ h => h)) HOB.out ?_)
                            | (show wpList _ _ _ ({ dst := none, op := .store _ (.tmp 17) (.tmp 110), type := _, pos := _, after := _, guard := _ } :: _) _ _; refine wpList_store_last rfl (.tmp 17) (.tmp 110) rfl w2.heap.size rfl rfl u oz rfl ?_; have hU4 := (HW4.out.blk _ List.mem_cons_self).2; obtain ⟨s0, s1, s2, s3, s4, s5⟩ := slot15 hU4; rw [← HH.out] at s0 s1 s2 s3 s4 s5; clear hU4)
                            | (show wpList _ _ _ ({ dst := none, op := .store _ (.tmp 18) (.tmp 113), type := _, pos := _, after := _, guard := _ } :: _) _ _; refine wpList_store_new (l := kl h) (l0 := kl zk) (ty := 31) rfl (.tmp 18) (.tmp 113) (by rfl) (w2.heap.size + 1) (by simp) (by rfl) (by rfl) size30 rfl (kl_one _) ?_; clear s0 s1 s2 s3 s4 s5 k0 k1 k2 k3 k4 k5 e0 e1 e2 e3 e4 e5; have hH5 : Blk _ (w2.heap.size + 1) 31 (kc h.k h.o h.c h.l h.r h.v) := (HW5.out.blk _ List.mem_cons_self).2; obtain ⟨s0, s1, s2, s3, s4, s5⟩ := hH5.six; clear hH5; replace s5 := cell_eq s5 HM.out; have hU5 := (HW5.out.blk _ (List.mem_cons_of_mem _ List.mem_cons_self)).2; obtain ⟨t0, t1, t2, t3, t4, t5⟩ := slot14 hU5; rw [← HKK.out] at t0 t1 t2 t3 t4 t5; clear hU5; obtain ⟨k0, k1, k2, k3, k4, k5⟩ := HW5.out.q.k9.six; obtain ⟨e0, e1, e2, e3, e4, e5⟩ := HW5.out.q.k13.six; have b0 := HW5.out.a15.cell 0; have g15 := HW5.out.a15.frozen 0)
                            | (go_at_call 28; refine (rprep_n HW5.out.q.row HLN.out HLL.out HL0.out kk (q := pk) (by rw [HKK.out]; exact HPK.out)).mono ?_; rintro e_ w6 ⟨rfl, b6⟩; have HW6 := Lib.hid (HW5.out.below b6); have HW7 := Lib.hid (HW6.out.more (kl pk).toArray 31 (g := w6.heap.size) rfl); clear b6 b0 g15 s0 s1 s2 s3 s4 s5 t0 t1 t2 t3 t4 t5 k0 k1 k2 k3 k4 k5 e0 e1 e2 e3 e4 e5)
                            | (show wpList _ _ _ ({ dst := none, op := .store _ (.tmp 19) (.tmp 142), type := _, pos := _, after := _, guard := _ } :: _) _ _; refine wpList_store_new (l := kl pk) (l0 := kl zk) (ty := 31) rfl (.tmp 19) (.tmp 142) (by rfl) w6.heap.size rfl (by rfl) (by rfl) size30 rfl (kl_one _) ?_; have hP7 : Blk _ w6.heap.size 31 (kc pk.k pk.o pk.c pk.l pk.r pk.v) := (HW7.out.blk _ List.mem_cons_self).2; obtain ⟨t0, t1, t2, t3, t4, t5⟩ := hP7.six; clear hP7; obtain ⟨k0, k1, k2, k3, k4, k5⟩ := HW7.out.q.k9.six; obtain ⟨e0, e1, e2, e3, e4, e5⟩ := HW7.out.q.k13.six)
                            | (show wpList _ _ _ ({ dst := none, op := .store _ (.tmp 13) (.tmp 150), type := _, pos := _, after := _, guard := _ } :: _) _ _; refine wpList_store_big (l0 := kl s.kp) HW7.out.q.k13 rfl (.tmp 13) (.tmp 150) (ty := 31) (l := kl pk) rfl (by rfl) (by rfl) size30 rfl (kl_one _) ?_; have HW8 := Lib.hid (HW7.out.keeper pk); clear t0 t1 t2 t3 t4 t5 k0 k1 k2 k3 k4 k5 e0 e1 e2 e3 e4 e5; obtain ⟨k0, k1, k2, k3, k4, k5⟩ := HW8.out.q.k9.six; obtain ⟨e0, e1, e2, e3, e4, e5⟩ := HW8.out.q.k13.six)
                            | (go_at_call 29; refine (each_any m (by have := HM8.out; omega) _).mono ?_; rintro e_ w8 ⟨rfl, rfl⟩; rw [← HMM.out])
                            | (show wpList _ _ _ ({ dst := none, op := .store _ (.tmp 158) (.tmp 157), type := _, pos := _, after := _, guard := _ } :: _) _ _; refine wpList_store_in (l := kl pk) (off := 1) (ty := 31) (t := 36) (l1 := Fa.cells ⟨0, pk, ad⟩) HW8.out.a15 rfl (.tmp 158) (.tmp 157) rfl (by rfl) (by rfl) size30 (show 1 + 6 ≤ 8 from by decide) (kl_one _) rfl ?_; have HW9 := Lib.hid (HW8.out.held pk); have q0 := HW9.out.a15.cell 0; have fq0 := HW9.out.a15.frozen 0))
                          have HW9k := Lib.hid (HW9.out.kind 2)
                          generalize (((w6.alloc (.cells (kl pk).toArray 31)).setRow g13 (kl pk).toArray).setRow wr.heap.size (Fa.cells ⟨0, pk, ad⟩).toArray).setCell ⟨wr.heap.size, 0, none⟩ (.int .i64 2) = w9 at HW9k ⊢
                          have HE := Lib.hid HW9k.out
                          have HTD := Lib.hid (HE.out.q.drew.told zfo ⟨2, pk, ad⟩)
                          refine wp_region_only (S := fun W => W.rangeAt wr.heap.size 0 (Fa.cells ⟨2, pk, ad⟩)) (by kernel_rfl) HE.out.drew.a15.range (fun hHeld => ?_)
                          refine wpAnyH_take (i := 0) rfl (by kernel_rfl) (by kernel_rfl) (by kernel_rfl) (fun _ _ _ h => h) (y_build (by rfl) (by rfl) builtFo0) hHeld ?_
                          try simp only [Act.put, List.getElem_toArray, List.getElem_cons_zero, List.setIfInBounds_toArray, List.set_cons_zero, List.set_cons_succ]
                          refine wpAnyH_take (i := 1) rfl (by kernel_rfl) (by kernel_rfl) (by kernel_rfl) (fun _ _ _ h => h) (y_fa (by rfl) (.tmp 15) (by rfl) wr.heap.size 0 (by rfl) ⟨2, pk, ad⟩ (fun _ h => h)) hHeld ?_
                          try simp only [Act.put, List.getElem_toArray, List.getElem_cons_succ, List.getElem_cons_zero, List.setIfInBounds_toArray, List.set_cons_zero, List.set_cons_succ]
                          refine wpAnyH_ready (rs := [2]) (by kernel_rfl) (by simp) ?_
                          refine AllReadyH.cons (by rfl) (fun K hK => ?_) AllReadyH.nil
                          refine step_store_big HE.out.q.drew_f6 rfl (.tmp 6) (.tmp 160) (ty := 33) (l0 := zfo.cells) (l := zfo.cells) (by rfl) (by rfl) (by rfl) sizeFo rfl zfo.one ?_
                          refine hK.out _ _ (HE.out.a15r1) (fun hHeld => ?_)
                          clear hK K
                          try simp only [Act.put, List.getElem_toArray, List.getElem_cons_succ, List.getElem_cons_zero]
                          refine wpAnyH_ready (rs := [3]) (by kernel_rfl) (by simp) ?_
                          refine AllReadyH.cons (by rfl) (fun K hK => ?_) AllReadyH.nil
                          refine step_store_big HE.out.q.drew_f7 rfl (.tmp 7) (.tmp 161) (ty := 36) (l0 := zfa.cells) (l := Fa.cells ⟨2, pk, ad⟩) (by rfl) (by rfl) (by rfl) sizeFa rfl (Fa.one _) ?_
                          refine hK.out _ _ (HE.out.a15r2 _ _) (fun hHeld => ?_)
                          clear hK K
                          try simp only [Act.put, List.getElem_toArray, List.getElem_cons_succ, List.getElem_cons_zero]
                          refine wpAnyH_take (i := 4) (v := ?v3) rfl (by kernel_rfl) (by kernel_rfl) (by kernel_rfl) (fun _ _ _ h => h) (Or.inl ⟨by rfl, ?hy3⟩) hHeld ?rest3
                          case hy3 =>
                            intro w' hSw
                            try dsimp only at hSw
                            go_simp
                            first | done | with_reducible rfl
                          try simp only [Act.put, List.getElem_toArray, List.getElem_cons_succ, List.getElem_cons_zero, List.setIfInBounds_toArray, List.set_cons_zero, List.set_cons_succ]
                          refine wpAnyH_done (by kernel_rfl) ?_ _
                          refine OnlyN.normal ?_
                          go_wp2_with fail
                          exact bodyPost_ret (res_2t rfl _ _ (w.heap.size + 1) (w.heap.size + 2) _ _ _ rfl rfl rfl (load_fo zfo HTD.out.2.1) (load_fa _ HTD.out.2.2)) rfl ⟨by rw [HO.out.trans (by rw [run_inl HD8.out (stepW_range HD.out HDE.out HHO.out HMV.out HSL.out), HXN.out, HKP.out])]; rfl, HTD.out.1⟩
                        · have z1 : decide ((13 : Int) < (q5 : Int)) = false := decide_eq_false (by omega)
                          have z1n : decide (13 < q5) = false := decide_eq_false (by omega)
                          have HSL := Lib.hid (show ¬ 14 ≤ s.left / part m by rw [HQ5.out]; exact hsl)
                          have HQL := Lib.hid (show q5 < 16 by omega)
                          clear hsl
                          obtain ⟨gk, hgk⟩ : ∃ gk, gotK l s.x (sl u q5) = gk := ⟨_, rfl⟩
                          have HGK := Lib.hid hgk
                          clear hgk
                          go_wp2_with (first
                            | (refine wpList_yields (S := fun w' => ObAt w' ab (off + j * 163) u) (y_ob (by rfl) (.tmp 109) (by rfl) ab (off + j * 163) (by rfl) u (fun _ h => h)) HOB.out ?_)
                            | (show wpList _ _ _ ({ dst := none, op := .store _ (.tmp 17) (.tmp 110), type := _, pos := _, after := _, guard := _ } :: _) _ _; refine wpList_store_last rfl (.tmp 17) (.tmp 110) rfl w2.heap.size rfl rfl u oz rfl ?_; have hU4 := (HW4.out.blk _ List.mem_cons_self).2; obtain ⟨s0, s1, s2, s3, s4, s5⟩ := slot15 hU4; rw [← HH.out] at s0 s1 s2 s3 s4 s5; clear hU4)
                            | (show wpList _ _ _ ({ dst := none, op := .store _ (.tmp 18) (.tmp 113), type := _, pos := _, after := _, guard := _ } :: _) _ _; refine wpList_store_new (l := kl h) (l0 := kl zk) (ty := 31) rfl (.tmp 18) (.tmp 113) (by rfl) (w2.heap.size + 1) (by simp) (by rfl) (by rfl) size30 rfl (kl_one _) ?_; clear s0 s1 s2 s3 s4 s5 k0 k1 k2 k3 k4 k5 e0 e1 e2 e3 e4 e5; have hH5 : Blk _ (w2.heap.size + 1) 31 (kc h.k h.o h.c h.l h.r h.v) := (HW5.out.blk _ List.mem_cons_self).2; obtain ⟨s0, s1, s2, s3, s4, s5⟩ := hH5.six; clear hH5; replace s5 := cell_eq s5 HM.out; have hU5 := (HW5.out.blk _ (List.mem_cons_of_mem _ List.mem_cons_self)).2; obtain ⟨t0, t1, t2, t3, t4, t5⟩ := slot14 hU5; rw [← HKK.out] at t0 t1 t2 t3 t4 t5; clear hU5; obtain ⟨k0, k1, k2, k3, k4, k5⟩ := HW5.out.q.k9.six; obtain ⟨e0, e1, e2, e3, e4, e5⟩ := HW5.out.q.k13.six; have b0 := HW5.out.a15.cell 0; have g15 := HW5.out.a15.frozen 0)
                            | (go_at_call 28; refine (rprep_n HW5.out.q.row HLN.out HLL.out HL0.out kk (q := pk) (by rw [HKK.out]; exact HPK.out)).mono ?_; rintro e_ w6 ⟨rfl, b6⟩; have HW6 := Lib.hid (HW5.out.below b6); have HW7 := Lib.hid (HW6.out.more (kl pk).toArray 31 (g := w6.heap.size) rfl); clear b6 b0 g15 s0 s1 s2 s3 s4 s5 t0 t1 t2 t3 t4 t5 k0 k1 k2 k3 k4 k5 e0 e1 e2 e3 e4 e5)
                            | (show wpList _ _ _ ({ dst := none, op := .store _ (.tmp 19) (.tmp 142), type := _, pos := _, after := _, guard := _ } :: _) _ _; refine wpList_store_new (l := kl pk) (l0 := kl zk) (ty := 31) rfl (.tmp 19) (.tmp 142) (by rfl) w6.heap.size rfl (by rfl) (by rfl) size30 rfl (kl_one _) ?_; have hP7 : Blk _ w6.heap.size 31 (kc pk.k pk.o pk.c pk.l pk.r pk.v) := (HW7.out.blk _ List.mem_cons_self).2; obtain ⟨t0, t1, t2, t3, t4, t5⟩ := hP7.six; clear hP7; obtain ⟨k0, k1, k2, k3, k4, k5⟩ := HW7.out.q.k9.six; obtain ⟨e0, e1, e2, e3, e4, e5⟩ := HW7.out.q.k13.six)
                            | (show wpList _ _ _ ({ dst := none, op := .store _ (.tmp 13) (.tmp 150), type := _, pos := _, after := _, guard := _ } :: _) _ _; refine wpList_store_big (l0 := kl s.kp) HW7.out.q.k13 rfl (.tmp 13) (.tmp 150) (ty := 31) (l := kl pk) rfl (by rfl) (by rfl) size30 rfl (kl_one _) ?_; have HW8 := Lib.hid (HW7.out.keeper pk); clear t0 t1 t2 t3 t4 t5 k0 k1 k2 k3 k4 k5 e0 e1 e2 e3 e4 e5; obtain ⟨k0, k1, k2, k3, k4, k5⟩ := HW8.out.q.k9.six; obtain ⟨e0, e1, e2, e3, e4, e5⟩ := HW8.out.q.k13.six)
                            | (go_at_call 29; refine (each_any m (by have := HM8.out; omega) _).mono ?_; rintro e_ w8 ⟨rfl, rfl⟩; rw [← HMM.out])
                            | (go_at_call 30; refine (rgot_any HW8.out.q.row HLN.out HLL.out s.x j HJ.out HD.out.o q5 HQL.out (sl u q5) (by rw [HD.out.at_]; exact sl_at u HQL.out) HD.out.ok HGK.out).mono ?_; rintro e_ w10 ⟨rfl, b10⟩; have HW10 := Lib.hid (HW8.out.below b10); clear b10 k0 k1 k2 k3 k4 k5 e0 e1 e2 e3 e4 e5)
                            | (show wpList _ _ _ ({ dst := none, op := .store _ (.tmp 9) (.tmp 169), type := _, pos := _, after := _, guard := _ } :: _) _ _; refine wpList_store_big (l0 := kl s.x) HW10.out.q.k9 rfl (.tmp 9) (.tmp 169) (ty := 31) (l := kl gk) rfl (by rfl) (by rfl) size30 rfl (kl_one _) ?_; have HQ11 := Lib.hid (HW10.out.at_ gk)))
                          go_roundw
                          case rel =>
                            refine ⟨.inr rfl, ⟨gk, q6, (m : Int), r2, pk, s.d + 1⟩, (m : Int), rfl, rfl, rfl, by go_num, HQ11.out.as _ rfl rfl, HO.out.trans ?_, HR28.out, by have := HU6.out; have := HLE.out; show q6 ≤ _; omega, by have := HD8.out; have := HDE.out; show s.d + 1 ≤ 8; omega, fun v _ => Iff.rfl⟩
                            have h1 := stepW_on HD.out HDE.out HHO.out HMV.out HSL.out
                            rw [HQ5.out, HQ6.out, HXN.out, HKP.out, HGK.out] at h1
                            exact run_inr HD8.out h1 rfl
                          case measure => simp [intOf]; have := HD8.out; omega
                      · have HKP := Lib.hid (keep_no (kp := s.kp) HPK.out f6)
                        by_cases f7 : pk.k = 6
                        · have w0 : (pk.k == 6) = true := by simp [f7]
                          have w1_ : decide ((r2 : Int) < 4) = false := decide_eq_false (fun h => f6 ⟨f7, by omega⟩)
                          have w1n : decide (r2 < 4) = false := decide_eq_false (fun h => f6 ⟨f7, h⟩)
                          clear f6 f7
                          by_cases hsl : 14 ≤ q5
                          · have z1 : decide ((13 : Int) < (q5 : Int)) = true := decide_eq_true (by omega)
                            have z1n : decide (13 < q5) = true := decide_eq_true (by omega)
                            have HSL := Lib.hid (show 14 ≤ s.left / part m by rw [HQ5.out]; exact hsl)
                            clear hsl
                            go_wp2_with (first
                              | (refine wpList_yields (S := fun w' => ObAt w' ab (off + j * 163) u) (y_ob (by rfl) (.tmp 109) (by rfl) ab (off + j * 163) (by rfl) u (fun _ h => h)) HOB.out ?_)
                              | (show wpList _ _ _ ({ dst := none, op := .store _ (.tmp 17) (.tmp 110), type := _, pos := _, after := _, guard := _ } :: _) _ _; refine wpList_store_last rfl (.tmp 17) (.tmp 110) rfl w2.heap.size rfl rfl u oz rfl ?_; have hU4 := (HW4.out.blk _ List.mem_cons_self).2; obtain ⟨s0, s1, s2, s3, s4, s5⟩ := slot15 hU4; rw [← HH.out] at s0 s1 s2 s3 s4 s5; clear hU4)
                              | (show wpList _ _ _ ({ dst := none, op := .store _ (.tmp 18) (.tmp 113), type := _, pos := _, after := _, guard := _ } :: _) _ _; refine wpList_store_new (l := kl h) (l0 := kl zk) (ty := 31) rfl (.tmp 18) (.tmp 113) (by rfl) (w2.heap.size + 1) (by simp) (by rfl) (by rfl) size30 rfl (kl_one _) ?_; clear s0 s1 s2 s3 s4 s5 k0 k1 k2 k3 k4 k5 e0 e1 e2 e3 e4 e5; have hH5 : Blk _ (w2.heap.size + 1) 31 (kc h.k h.o h.c h.l h.r h.v) := (HW5.out.blk _ List.mem_cons_self).2; obtain ⟨s0, s1, s2, s3, s4, s5⟩ := hH5.six; clear hH5; replace s5 := cell_eq s5 HM.out; have hU5 := (HW5.out.blk _ (List.mem_cons_of_mem _ List.mem_cons_self)).2; obtain ⟨t0, t1, t2, t3, t4, t5⟩ := slot14 hU5; rw [← HKK.out] at t0 t1 t2 t3 t4 t5; clear hU5; obtain ⟨k0, k1, k2, k3, k4, k5⟩ := HW5.out.q.k9.six; obtain ⟨e0, e1, e2, e3, e4, e5⟩ := HW5.out.q.k13.six; have b0 := HW5.out.a15.cell 0; have g15 := HW5.out.a15.frozen 0)
                              | (go_at_call 28; refine (rprep_n HW5.out.q.row HLN.out HLL.out HL0.out kk (q := pk) (by rw [HKK.out]; exact HPK.out)).mono ?_; rintro e_ w6 ⟨rfl, b6⟩; have HW6 := Lib.hid (HW5.out.below b6); have HW7 := Lib.hid (HW6.out.more (kl pk).toArray 31 (g := w6.heap.size) rfl); clear b6 b0 g15 s0 s1 s2 s3 s4 s5 t0 t1 t2 t3 t4 t5 k0 k1 k2 k3 k4 k5 e0 e1 e2 e3 e4 e5)
                              | (show wpList _ _ _ ({ dst := none, op := .store _ (.tmp 19) (.tmp 142), type := _, pos := _, after := _, guard := _ } :: _) _ _; refine wpList_store_new (l := kl pk) (l0 := kl zk) (ty := 31) rfl (.tmp 19) (.tmp 142) (by rfl) w6.heap.size rfl (by rfl) (by rfl) size30 rfl (kl_one _) ?_; have hP7 : Blk _ w6.heap.size 31 (kc pk.k pk.o pk.c pk.l pk.r pk.v) := (HW7.out.blk _ List.mem_cons_self).2; obtain ⟨t0, t1, t2, t3, t4, t5⟩ := hP7.six; clear hP7; obtain ⟨k0, k1, k2, k3, k4, k5⟩ := HW7.out.q.k9.six; obtain ⟨e0, e1, e2, e3, e4, e5⟩ := HW7.out.q.k13.six)
                              | (go_at_call 29; refine (each_any m (by have := HM8.out; omega) _).mono ?_; rintro e_ w8 ⟨rfl, rfl⟩; rw [← HMM.out])
                              | (show wpList _ _ _ ({ dst := none, op := .store _ (.tmp 158) (.tmp 157), type := _, pos := _, after := _, guard := _ } :: _) _ _; refine wpList_store_in (l := kl s.kp) (off := 1) (ty := 31) (t := 36) (l1 := Fa.cells ⟨0, s.kp, ad⟩) HW7.out.a15 rfl (.tmp 158) (.tmp 157) rfl (by rfl) (by rfl) size30 (show 1 + 6 ≤ 8 from by decide) (kl_one _) rfl ?_; have HW9 := Lib.hid (HW7.out.held s.kp); have q0 := HW9.out.a15.cell 0; have fq0 := HW9.out.a15.frozen 0))
                            have HW9k := Lib.hid (HW9.out.kind 2)
                            generalize (((w6.alloc (.cells (kl pk).toArray 31))).setRow wr.heap.size (Fa.cells ⟨0, s.kp, ad⟩).toArray).setCell ⟨wr.heap.size, 0, none⟩ (.int .i64 2) = w9 at HW9k ⊢
                            have HE := Lib.hid HW9k.out
                            have HTD := Lib.hid (HE.out.q.drew.told zfo ⟨2, s.kp, ad⟩)
                            refine wp_region_only (S := fun W => W.rangeAt wr.heap.size 0 (Fa.cells ⟨2, s.kp, ad⟩)) (by kernel_rfl) HE.out.drew.a15.range (fun hHeld => ?_)
                            refine wpAnyH_take (i := 0) rfl (by kernel_rfl) (by kernel_rfl) (by kernel_rfl) (fun _ _ _ h => h) (y_build (by rfl) (by rfl) builtFo0) hHeld ?_
                            try simp only [Act.put, List.getElem_toArray, List.getElem_cons_zero, List.setIfInBounds_toArray, List.set_cons_zero, List.set_cons_succ]
                            refine wpAnyH_take (i := 1) rfl (by kernel_rfl) (by kernel_rfl) (by kernel_rfl) (fun _ _ _ h => h) (y_fa (by rfl) (.tmp 15) (by rfl) wr.heap.size 0 (by rfl) ⟨2, s.kp, ad⟩ (fun _ h => h)) hHeld ?_
                            try simp only [Act.put, List.getElem_toArray, List.getElem_cons_succ, List.getElem_cons_zero, List.setIfInBounds_toArray, List.set_cons_zero, List.set_cons_succ]
                            refine wpAnyH_ready (rs := [2]) (by kernel_rfl) (by simp) ?_
                            refine AllReadyH.cons (by rfl) (fun K hK => ?_) AllReadyH.nil
                            refine step_store_big HE.out.q.drew_f6 rfl (.tmp 6) (.tmp 160) (ty := 33) (l0 := zfo.cells) (l := zfo.cells) (by rfl) (by rfl) (by rfl) sizeFo rfl zfo.one ?_
                            refine hK.out _ _ (HE.out.a15r1) (fun hHeld => ?_)
                            clear hK K
                            try simp only [Act.put, List.getElem_toArray, List.getElem_cons_succ, List.getElem_cons_zero]
                            refine wpAnyH_ready (rs := [3]) (by kernel_rfl) (by simp) ?_
                            refine AllReadyH.cons (by rfl) (fun K hK => ?_) AllReadyH.nil
                            refine step_store_big HE.out.q.drew_f7 rfl (.tmp 7) (.tmp 161) (ty := 36) (l0 := zfa.cells) (l := Fa.cells ⟨2, s.kp, ad⟩) (by rfl) (by rfl) (by rfl) sizeFa rfl (Fa.one _) ?_
                            refine hK.out _ _ (HE.out.a15r2 _ _) (fun hHeld => ?_)
                            clear hK K
                            try simp only [Act.put, List.getElem_toArray, List.getElem_cons_succ, List.getElem_cons_zero]
                            refine wpAnyH_take (i := 4) (v := ?v4) rfl (by kernel_rfl) (by kernel_rfl) (by kernel_rfl) (fun _ _ _ h => h) (Or.inl ⟨by rfl, ?hy4⟩) hHeld ?rest4
                            case hy4 =>
                              intro w' hSw
                              try dsimp only at hSw
                              go_simp
                              first | done | with_reducible rfl
                            try simp only [Act.put, List.getElem_toArray, List.getElem_cons_succ, List.getElem_cons_zero, List.setIfInBounds_toArray, List.set_cons_zero, List.set_cons_succ]
                            refine wpAnyH_done (by kernel_rfl) ?_ _
                            refine OnlyN.normal ?_
                            go_wp2_with fail
                            exact bodyPost_ret (res_2t rfl _ _ (w.heap.size + 1) (w.heap.size + 2) _ _ _ rfl rfl rfl (load_fo zfo HTD.out.2.1) (load_fa _ HTD.out.2.2)) rfl ⟨by rw [HO.out.trans (by rw [run_inl HD8.out (stepW_range HD.out HDE.out HHO.out HMV.out HSL.out), HXN.out, HKP.out])]; rfl, HTD.out.1⟩
                          · have z1 : decide ((13 : Int) < (q5 : Int)) = false := decide_eq_false (by omega)
                            have z1n : decide (13 < q5) = false := decide_eq_false (by omega)
                            have HSL := Lib.hid (show ¬ 14 ≤ s.left / part m by rw [HQ5.out]; exact hsl)
                            have HQL := Lib.hid (show q5 < 16 by omega)
                            clear hsl
                            obtain ⟨gk, hgk⟩ : ∃ gk, gotK l s.x (sl u q5) = gk := ⟨_, rfl⟩
                            have HGK := Lib.hid hgk
                            clear hgk
                            go_wp2_with (first
                              | (refine wpList_yields (S := fun w' => ObAt w' ab (off + j * 163) u) (y_ob (by rfl) (.tmp 109) (by rfl) ab (off + j * 163) (by rfl) u (fun _ h => h)) HOB.out ?_)
                              | (show wpList _ _ _ ({ dst := none, op := .store _ (.tmp 17) (.tmp 110), type := _, pos := _, after := _, guard := _ } :: _) _ _; refine wpList_store_last rfl (.tmp 17) (.tmp 110) rfl w2.heap.size rfl rfl u oz rfl ?_; have hU4 := (HW4.out.blk _ List.mem_cons_self).2; obtain ⟨s0, s1, s2, s3, s4, s5⟩ := slot15 hU4; rw [← HH.out] at s0 s1 s2 s3 s4 s5; clear hU4)
                              | (show wpList _ _ _ ({ dst := none, op := .store _ (.tmp 18) (.tmp 113), type := _, pos := _, after := _, guard := _ } :: _) _ _; refine wpList_store_new (l := kl h) (l0 := kl zk) (ty := 31) rfl (.tmp 18) (.tmp 113) (by rfl) (w2.heap.size + 1) (by simp) (by rfl) (by rfl) size30 rfl (kl_one _) ?_; clear s0 s1 s2 s3 s4 s5 k0 k1 k2 k3 k4 k5 e0 e1 e2 e3 e4 e5; have hH5 : Blk _ (w2.heap.size + 1) 31 (kc h.k h.o h.c h.l h.r h.v) := (HW5.out.blk _ List.mem_cons_self).2; obtain ⟨s0, s1, s2, s3, s4, s5⟩ := hH5.six; clear hH5; replace s5 := cell_eq s5 HM.out; have hU5 := (HW5.out.blk _ (List.mem_cons_of_mem _ List.mem_cons_self)).2; obtain ⟨t0, t1, t2, t3, t4, t5⟩ := slot14 hU5; rw [← HKK.out] at t0 t1 t2 t3 t4 t5; clear hU5; obtain ⟨k0, k1, k2, k3, k4, k5⟩ := HW5.out.q.k9.six; obtain ⟨e0, e1, e2, e3, e4, e5⟩ := HW5.out.q.k13.six; have b0 := HW5.out.a15.cell 0; have g15 := HW5.out.a15.frozen 0)
                              | (go_at_call 28; refine (rprep_n HW5.out.q.row HLN.out HLL.out HL0.out kk (q := pk) (by rw [HKK.out]; exact HPK.out)).mono ?_; rintro e_ w6 ⟨rfl, b6⟩; have HW6 := Lib.hid (HW5.out.below b6); have HW7 := Lib.hid (HW6.out.more (kl pk).toArray 31 (g := w6.heap.size) rfl); clear b6 b0 g15 s0 s1 s2 s3 s4 s5 t0 t1 t2 t3 t4 t5 k0 k1 k2 k3 k4 k5 e0 e1 e2 e3 e4 e5)
                              | (show wpList _ _ _ ({ dst := none, op := .store _ (.tmp 19) (.tmp 142), type := _, pos := _, after := _, guard := _ } :: _) _ _; refine wpList_store_new (l := kl pk) (l0 := kl zk) (ty := 31) rfl (.tmp 19) (.tmp 142) (by rfl) w6.heap.size rfl (by rfl) (by rfl) size30 rfl (kl_one _) ?_; have hP7 : Blk _ w6.heap.size 31 (kc pk.k pk.o pk.c pk.l pk.r pk.v) := (HW7.out.blk _ List.mem_cons_self).2; obtain ⟨t0, t1, t2, t3, t4, t5⟩ := hP7.six; clear hP7; obtain ⟨k0, k1, k2, k3, k4, k5⟩ := HW7.out.q.k9.six; obtain ⟨e0, e1, e2, e3, e4, e5⟩ := HW7.out.q.k13.six)
                              | (go_at_call 29; refine (each_any m (by have := HM8.out; omega) _).mono ?_; rintro e_ w8 ⟨rfl, rfl⟩; rw [← HMM.out])
                              | (go_at_call 30; refine (rgot_any HW7.out.q.row HLN.out HLL.out s.x j HJ.out HD.out.o q5 HQL.out (sl u q5) (by rw [HD.out.at_]; exact sl_at u HQL.out) HD.out.ok HGK.out).mono ?_; rintro e_ w10 ⟨rfl, b10⟩; have HW10 := Lib.hid (HW7.out.below b10); clear b10 k0 k1 k2 k3 k4 k5 e0 e1 e2 e3 e4 e5)
                              | (show wpList _ _ _ ({ dst := none, op := .store _ (.tmp 9) (.tmp 169), type := _, pos := _, after := _, guard := _ } :: _) _ _; refine wpList_store_big (l0 := kl s.x) HW10.out.q.k9 rfl (.tmp 9) (.tmp 169) (ty := 31) (l := kl gk) rfl (by rfl) (by rfl) size30 rfl (kl_one _) ?_; have HQ11 := Lib.hid (HW10.out.at_ gk)))
                            go_roundw
                            case rel =>
                              refine ⟨.inr rfl, ⟨gk, q6, (m : Int), r2, s.kp, s.d + 1⟩, (m : Int), rfl, rfl, rfl, by go_num, HQ11.out.as _ rfl rfl, HO.out.trans ?_, HR28.out, by have := HU6.out; have := HLE.out; show q6 ≤ _; omega, by have := HD8.out; have := HDE.out; show s.d + 1 ≤ 8; omega, fun v _ => Iff.rfl⟩
                              have h1 := stepW_on HD.out HDE.out HHO.out HMV.out HSL.out
                              rw [HQ5.out, HQ6.out, HXN.out, HKP.out, HGK.out] at h1
                              exact run_inr HD8.out h1 rfl
                            case measure => simp [intOf]; have := HD8.out; omega
                        · have w0 : (pk.k == 6) = false := by simpa using f7
                          clear f6 f7
                          by_cases hsl : 14 ≤ q5
                          · have z1 : decide ((13 : Int) < (q5 : Int)) = true := decide_eq_true (by omega)
                            have z1n : decide (13 < q5) = true := decide_eq_true (by omega)
                            have HSL := Lib.hid (show 14 ≤ s.left / part m by rw [HQ5.out]; exact hsl)
                            clear hsl
                            go_wp2_with (first
                              | (refine wpList_yields (S := fun w' => ObAt w' ab (off + j * 163) u) (y_ob (by rfl) (.tmp 109) (by rfl) ab (off + j * 163) (by rfl) u (fun _ h => h)) HOB.out ?_)
                              | (show wpList _ _ _ ({ dst := none, op := .store _ (.tmp 17) (.tmp 110), type := _, pos := _, after := _, guard := _ } :: _) _ _; refine wpList_store_last rfl (.tmp 17) (.tmp 110) rfl w2.heap.size rfl rfl u oz rfl ?_; have hU4 := (HW4.out.blk _ List.mem_cons_self).2; obtain ⟨s0, s1, s2, s3, s4, s5⟩ := slot15 hU4; rw [← HH.out] at s0 s1 s2 s3 s4 s5; clear hU4)
                              | (show wpList _ _ _ ({ dst := none, op := .store _ (.tmp 18) (.tmp 113), type := _, pos := _, after := _, guard := _ } :: _) _ _; refine wpList_store_new (l := kl h) (l0 := kl zk) (ty := 31) rfl (.tmp 18) (.tmp 113) (by rfl) (w2.heap.size + 1) (by simp) (by rfl) (by rfl) size30 rfl (kl_one _) ?_; clear s0 s1 s2 s3 s4 s5 k0 k1 k2 k3 k4 k5 e0 e1 e2 e3 e4 e5; have hH5 : Blk _ (w2.heap.size + 1) 31 (kc h.k h.o h.c h.l h.r h.v) := (HW5.out.blk _ List.mem_cons_self).2; obtain ⟨s0, s1, s2, s3, s4, s5⟩ := hH5.six; clear hH5; replace s5 := cell_eq s5 HM.out; have hU5 := (HW5.out.blk _ (List.mem_cons_of_mem _ List.mem_cons_self)).2; obtain ⟨t0, t1, t2, t3, t4, t5⟩ := slot14 hU5; rw [← HKK.out] at t0 t1 t2 t3 t4 t5; clear hU5; obtain ⟨k0, k1, k2, k3, k4, k5⟩ := HW5.out.q.k9.six; obtain ⟨e0, e1, e2, e3, e4, e5⟩ := HW5.out.q.k13.six; have b0 := HW5.out.a15.cell 0; have g15 := HW5.out.a15.frozen 0)
                              | (go_at_call 28; refine (rprep_n HW5.out.q.row HLN.out HLL.out HL0.out kk (q := pk) (by rw [HKK.out]; exact HPK.out)).mono ?_; rintro e_ w6 ⟨rfl, b6⟩; have HW6 := Lib.hid (HW5.out.below b6); have HW7 := Lib.hid (HW6.out.more (kl pk).toArray 31 (g := w6.heap.size) rfl); clear b6 b0 g15 s0 s1 s2 s3 s4 s5 t0 t1 t2 t3 t4 t5 k0 k1 k2 k3 k4 k5 e0 e1 e2 e3 e4 e5)
                              | (show wpList _ _ _ ({ dst := none, op := .store _ (.tmp 19) (.tmp 142), type := _, pos := _, after := _, guard := _ } :: _) _ _; refine wpList_store_new (l := kl pk) (l0 := kl zk) (ty := 31) rfl (.tmp 19) (.tmp 142) (by rfl) w6.heap.size rfl (by rfl) (by rfl) size30 rfl (kl_one _) ?_; have hP7 : Blk _ w6.heap.size 31 (kc pk.k pk.o pk.c pk.l pk.r pk.v) := (HW7.out.blk _ List.mem_cons_self).2; obtain ⟨t0, t1, t2, t3, t4, t5⟩ := hP7.six; clear hP7; obtain ⟨k0, k1, k2, k3, k4, k5⟩ := HW7.out.q.k9.six; obtain ⟨e0, e1, e2, e3, e4, e5⟩ := HW7.out.q.k13.six)
                              | (go_at_call 29; refine (each_any m (by have := HM8.out; omega) _).mono ?_; rintro e_ w8 ⟨rfl, rfl⟩; rw [← HMM.out])
                              | (show wpList _ _ _ ({ dst := none, op := .store _ (.tmp 158) (.tmp 157), type := _, pos := _, after := _, guard := _ } :: _) _ _; refine wpList_store_in (l := kl s.kp) (off := 1) (ty := 31) (t := 36) (l1 := Fa.cells ⟨0, s.kp, ad⟩) HW7.out.a15 rfl (.tmp 158) (.tmp 157) rfl (by rfl) (by rfl) size30 (show 1 + 6 ≤ 8 from by decide) (kl_one _) rfl ?_; have HW9 := Lib.hid (HW7.out.held s.kp); have q0 := HW9.out.a15.cell 0; have fq0 := HW9.out.a15.frozen 0))
                            have HW9k := Lib.hid (HW9.out.kind 2)
                            generalize (((w6.alloc (.cells (kl pk).toArray 31))).setRow wr.heap.size (Fa.cells ⟨0, s.kp, ad⟩).toArray).setCell ⟨wr.heap.size, 0, none⟩ (.int .i64 2) = w9 at HW9k ⊢
                            have HE := Lib.hid HW9k.out
                            have HTD := Lib.hid (HE.out.q.drew.told zfo ⟨2, s.kp, ad⟩)
                            refine wp_region_only (S := fun W => W.rangeAt wr.heap.size 0 (Fa.cells ⟨2, s.kp, ad⟩)) (by kernel_rfl) HE.out.drew.a15.range (fun hHeld => ?_)
                            refine wpAnyH_take (i := 0) rfl (by kernel_rfl) (by kernel_rfl) (by kernel_rfl) (fun _ _ _ h => h) (y_build (by rfl) (by rfl) builtFo0) hHeld ?_
                            try simp only [Act.put, List.getElem_toArray, List.getElem_cons_zero, List.setIfInBounds_toArray, List.set_cons_zero, List.set_cons_succ]
                            refine wpAnyH_take (i := 1) rfl (by kernel_rfl) (by kernel_rfl) (by kernel_rfl) (fun _ _ _ h => h) (y_fa (by rfl) (.tmp 15) (by rfl) wr.heap.size 0 (by rfl) ⟨2, s.kp, ad⟩ (fun _ h => h)) hHeld ?_
                            try simp only [Act.put, List.getElem_toArray, List.getElem_cons_succ, List.getElem_cons_zero, List.setIfInBounds_toArray, List.set_cons_zero, List.set_cons_succ]
                            refine wpAnyH_ready (rs := [2]) (by kernel_rfl) (by simp) ?_
                            refine AllReadyH.cons (by rfl) (fun K hK => ?_) AllReadyH.nil
                            refine step_store_big HE.out.q.drew_f6 rfl (.tmp 6) (.tmp 160) (ty := 33) (l0 := zfo.cells) (l := zfo.cells) (by rfl) (by rfl) (by rfl) sizeFo rfl zfo.one ?_
                            refine hK.out _ _ (HE.out.a15r1) (fun hHeld => ?_)
                            clear hK K
                            try simp only [Act.put, List.getElem_toArray, List.getElem_cons_succ, List.getElem_cons_zero]
                            refine wpAnyH_ready (rs := [3]) (by kernel_rfl) (by simp) ?_
                            refine AllReadyH.cons (by rfl) (fun K hK => ?_) AllReadyH.nil
                            refine step_store_big HE.out.q.drew_f7 rfl (.tmp 7) (.tmp 161) (ty := 36) (l0 := zfa.cells) (l := Fa.cells ⟨2, s.kp, ad⟩) (by rfl) (by rfl) (by rfl) sizeFa rfl (Fa.one _) ?_
                            refine hK.out _ _ (HE.out.a15r2 _ _) (fun hHeld => ?_)
                            clear hK K
                            try simp only [Act.put, List.getElem_toArray, List.getElem_cons_succ, List.getElem_cons_zero]
                            refine wpAnyH_take (i := 4) (v := ?v5) rfl (by kernel_rfl) (by kernel_rfl) (by kernel_rfl) (fun _ _ _ h => h) (Or.inl ⟨by rfl, ?hy5⟩) hHeld ?rest5
                            case hy5 =>
                              intro w' hSw
                              try dsimp only at hSw
                              go_simp
                              first | done | with_reducible rfl
                            try simp only [Act.put, List.getElem_toArray, List.getElem_cons_succ, List.getElem_cons_zero, List.setIfInBounds_toArray, List.set_cons_zero, List.set_cons_succ]
                            refine wpAnyH_done (by kernel_rfl) ?_ _
                            refine OnlyN.normal ?_
                            go_wp2_with fail
                            exact bodyPost_ret (res_2t rfl _ _ (w.heap.size + 1) (w.heap.size + 2) _ _ _ rfl rfl rfl (load_fo zfo HTD.out.2.1) (load_fa _ HTD.out.2.2)) rfl ⟨by rw [HO.out.trans (by rw [run_inl HD8.out (stepW_range HD.out HDE.out HHO.out HMV.out HSL.out), HXN.out, HKP.out])]; rfl, HTD.out.1⟩
                          · have z1 : decide ((13 : Int) < (q5 : Int)) = false := decide_eq_false (by omega)
                            have z1n : decide (13 < q5) = false := decide_eq_false (by omega)
                            have HSL := Lib.hid (show ¬ 14 ≤ s.left / part m by rw [HQ5.out]; exact hsl)
                            have HQL := Lib.hid (show q5 < 16 by omega)
                            clear hsl
                            obtain ⟨gk, hgk⟩ : ∃ gk, gotK l s.x (sl u q5) = gk := ⟨_, rfl⟩
                            have HGK := Lib.hid hgk
                            clear hgk
                            go_wp2_with (first
                              | (refine wpList_yields (S := fun w' => ObAt w' ab (off + j * 163) u) (y_ob (by rfl) (.tmp 109) (by rfl) ab (off + j * 163) (by rfl) u (fun _ h => h)) HOB.out ?_)
                              | (show wpList _ _ _ ({ dst := none, op := .store _ (.tmp 17) (.tmp 110), type := _, pos := _, after := _, guard := _ } :: _) _ _; refine wpList_store_last rfl (.tmp 17) (.tmp 110) rfl w2.heap.size rfl rfl u oz rfl ?_; have hU4 := (HW4.out.blk _ List.mem_cons_self).2; obtain ⟨s0, s1, s2, s3, s4, s5⟩ := slot15 hU4; rw [← HH.out] at s0 s1 s2 s3 s4 s5; clear hU4)
                              | (show wpList _ _ _ ({ dst := none, op := .store _ (.tmp 18) (.tmp 113), type := _, pos := _, after := _, guard := _ } :: _) _ _; refine wpList_store_new (l := kl h) (l0 := kl zk) (ty := 31) rfl (.tmp 18) (.tmp 113) (by rfl) (w2.heap.size + 1) (by simp) (by rfl) (by rfl) size30 rfl (kl_one _) ?_; clear s0 s1 s2 s3 s4 s5 k0 k1 k2 k3 k4 k5 e0 e1 e2 e3 e4 e5; have hH5 : Blk _ (w2.heap.size + 1) 31 (kc h.k h.o h.c h.l h.r h.v) := (HW5.out.blk _ List.mem_cons_self).2; obtain ⟨s0, s1, s2, s3, s4, s5⟩ := hH5.six; clear hH5; replace s5 := cell_eq s5 HM.out; have hU5 := (HW5.out.blk _ (List.mem_cons_of_mem _ List.mem_cons_self)).2; obtain ⟨t0, t1, t2, t3, t4, t5⟩ := slot14 hU5; rw [← HKK.out] at t0 t1 t2 t3 t4 t5; clear hU5; obtain ⟨k0, k1, k2, k3, k4, k5⟩ := HW5.out.q.k9.six; obtain ⟨e0, e1, e2, e3, e4, e5⟩ := HW5.out.q.k13.six; have b0 := HW5.out.a15.cell 0; have g15 := HW5.out.a15.frozen 0)
                              | (go_at_call 28; refine (rprep_n HW5.out.q.row HLN.out HLL.out HL0.out kk (q := pk) (by rw [HKK.out]; exact HPK.out)).mono ?_; rintro e_ w6 ⟨rfl, b6⟩; have HW6 := Lib.hid (HW5.out.below b6); have HW7 := Lib.hid (HW6.out.more (kl pk).toArray 31 (g := w6.heap.size) rfl); clear b6 b0 g15 s0 s1 s2 s3 s4 s5 t0 t1 t2 t3 t4 t5 k0 k1 k2 k3 k4 k5 e0 e1 e2 e3 e4 e5)
                              | (show wpList _ _ _ ({ dst := none, op := .store _ (.tmp 19) (.tmp 142), type := _, pos := _, after := _, guard := _ } :: _) _ _; refine wpList_store_new (l := kl pk) (l0 := kl zk) (ty := 31) rfl (.tmp 19) (.tmp 142) (by rfl) w6.heap.size rfl (by rfl) (by rfl) size30 rfl (kl_one _) ?_; have hP7 : Blk _ w6.heap.size 31 (kc pk.k pk.o pk.c pk.l pk.r pk.v) := (HW7.out.blk _ List.mem_cons_self).2; obtain ⟨t0, t1, t2, t3, t4, t5⟩ := hP7.six; clear hP7; obtain ⟨k0, k1, k2, k3, k4, k5⟩ := HW7.out.q.k9.six; obtain ⟨e0, e1, e2, e3, e4, e5⟩ := HW7.out.q.k13.six)
                              | (go_at_call 29; refine (each_any m (by have := HM8.out; omega) _).mono ?_; rintro e_ w8 ⟨rfl, rfl⟩; rw [← HMM.out])
                              | (go_at_call 30; refine (rgot_any HW7.out.q.row HLN.out HLL.out s.x j HJ.out HD.out.o q5 HQL.out (sl u q5) (by rw [HD.out.at_]; exact sl_at u HQL.out) HD.out.ok HGK.out).mono ?_; rintro e_ w10 ⟨rfl, b10⟩; have HW10 := Lib.hid (HW7.out.below b10); clear b10 k0 k1 k2 k3 k4 k5 e0 e1 e2 e3 e4 e5)
                              | (show wpList _ _ _ ({ dst := none, op := .store _ (.tmp 9) (.tmp 169), type := _, pos := _, after := _, guard := _ } :: _) _ _; refine wpList_store_big (l0 := kl s.x) HW10.out.q.k9 rfl (.tmp 9) (.tmp 169) (ty := 31) (l := kl gk) rfl (by rfl) (by rfl) size30 rfl (kl_one _) ?_; have HQ11 := Lib.hid (HW10.out.at_ gk)))
                            go_roundw
                            case rel =>
                              refine ⟨.inr rfl, ⟨gk, q6, (m : Int), r2, s.kp, s.d + 1⟩, (m : Int), rfl, rfl, rfl, by go_num, HQ11.out.as _ rfl rfl, HO.out.trans ?_, HR28.out, by have := HU6.out; have := HLE.out; show q6 ≤ _; omega, by have := HD8.out; have := HDE.out; show s.d + 1 ≤ 8; omega, fun v _ => Iff.rfl⟩
                              have h1 := stepW_on HD.out HDE.out HHO.out HMV.out HSL.out
                              rw [HQ5.out, HQ6.out, HXN.out, HKP.out, HGK.out] at h1
                              exact run_inr HD8.out h1 rfl
                            case measure => simp [intOf]; have := HD8.out; omega
                    · have o1 : (h.k != 1) = false := by simp [f1]
                      have o2 : decide (h.v < 1) = false := decide_eq_false (by omega)
                      have o3 : decide (8 < h.v) = false := decide_eq_false (by omega)
                      have o4 : decide (hg ≤ h.v) = true := decide_eq_true (by have := HHG.out h.v f3; omega)
                      have HNO := Lib.hid (show ¬ hOk (sl u 15) s.high from fun q => f4 (by rw [HH.out]; exact q.2.2.2))
                      clear f1 f2 f3 f4
                      clear a0 f15
                      go_wp2_with (first
                        | (refine wpList_yields (S := fun w' => ObAt w' ab (off + j * 163) u) (y_ob (by rfl) (.tmp 109) (by rfl) ab (off + j * 163) (by rfl) u (fun _ h => h)) HOB.out ?_)
                        | (show wpList _ _ _ ({ dst := none, op := .store _ (.tmp 17) (.tmp 110), type := _, pos := _, after := _, guard := _ } :: _) _ _; refine wpList_store_last rfl (.tmp 17) (.tmp 110) rfl w2.heap.size rfl rfl u oz rfl ?_; have hU4 := (HW4.out.blk _ List.mem_cons_self).2; obtain ⟨s0, s1, s2, s3, s4, s5⟩ := slot15 hU4; rw [← HH.out] at s0 s1 s2 s3 s4 s5; clear hU4)
                        | (show wpList _ _ _ ({ dst := none, op := .store _ (.tmp 18) (.tmp 113), type := _, pos := _, after := _, guard := _ } :: _) _ _; refine wpList_store_new (l := kl h) (l0 := kl zk) (ty := 31) rfl (.tmp 18) (.tmp 113) (by rfl) (w2.heap.size + 1) (by simp) (by rfl) (by rfl) size30 rfl (kl_one _) ?_; clear s0 s1 s2 s3 s4 s5 k0 k1 k2 k3 k4 k5 e0 e1 e2 e3 e4 e5; have hH5 : Blk _ (w2.heap.size + 1) 31 (kc h.k h.o h.c h.l h.r h.v) := (HW5.out.blk _ List.mem_cons_self).2; obtain ⟨s0, s1, s2, s3, s4, s5⟩ := hH5.six; clear hH5; obtain ⟨k0, k1, k2, k3, k4, k5⟩ := HW5.out.q.k9.six; obtain ⟨e0, e1, e2, e3, e4, e5⟩ := HW5.out.q.k13.six; have b0 := HW5.out.a15.cell 0; have g15 := HW5.out.a15.frozen 0))
                      have HW9 := Lib.hid (HW5.out.kind 4)
                      generalize ((w2.alloc (.cells u.cells.toArray 52)).alloc (.cells (kl h).toArray 31)).setCell ⟨wr.heap.size, 0, none⟩ (.int .i64 4) = w9 at HW9 ⊢
                      have HE := Lib.hid HW9.out
                      have HTD := Lib.hid (HE.out.q.drew.told zfo ⟨4, s.kp, ad⟩)
                      refine wp_region_only (S := fun W => W.rangeAt wr.heap.size 0 (Fa.cells ⟨4, s.kp, ad⟩)) (by kernel_rfl) HE.out.drew.a15.range (fun hHeld => ?_)
                      refine wpAnyH_take (i := 0) rfl (by kernel_rfl) (by kernel_rfl) (by kernel_rfl) (fun _ _ _ h => h) (y_build (by rfl) (by rfl) builtFo0) hHeld ?_
                      try simp only [Act.put, List.getElem_toArray, List.getElem_cons_zero, List.setIfInBounds_toArray, List.set_cons_zero, List.set_cons_succ]
                      refine wpAnyH_take (i := 1) rfl (by kernel_rfl) (by kernel_rfl) (by kernel_rfl) (fun _ _ _ h => h) (y_fa (by rfl) (.tmp 15) (by rfl) wr.heap.size 0 (by rfl) ⟨4, s.kp, ad⟩ (fun _ h => h)) hHeld ?_
                      try simp only [Act.put, List.getElem_toArray, List.getElem_cons_succ, List.getElem_cons_zero, List.setIfInBounds_toArray, List.set_cons_zero, List.set_cons_succ]
                      refine wpAnyH_ready (rs := [2]) (by kernel_rfl) (by simp) ?_
                      refine AllReadyH.cons (by rfl) (fun K hK => ?_) AllReadyH.nil
                      refine step_store_big HE.out.q.drew_f6 rfl (.tmp 6) (.tmp 134) (ty := 33) (l0 := zfo.cells) (l := zfo.cells) (by rfl) (by rfl) (by rfl) sizeFo rfl zfo.one ?_
                      refine hK.out _ _ (HE.out.a15r1) (fun hHeld => ?_)
                      clear hK K
                      try simp only [Act.put, List.getElem_toArray, List.getElem_cons_succ, List.getElem_cons_zero]
                      refine wpAnyH_ready (rs := [3]) (by kernel_rfl) (by simp) ?_
                      refine AllReadyH.cons (by rfl) (fun K hK => ?_) AllReadyH.nil
                      refine step_store_big HE.out.q.drew_f7 rfl (.tmp 7) (.tmp 135) (ty := 36) (l0 := zfa.cells) (l := Fa.cells ⟨4, s.kp, ad⟩) (by rfl) (by rfl) (by rfl) sizeFa rfl (Fa.one _) ?_
                      refine hK.out _ _ (HE.out.a15r2 _ _) (fun hHeld => ?_)
                      clear hK K
                      try simp only [Act.put, List.getElem_toArray, List.getElem_cons_succ, List.getElem_cons_zero]
                      refine wpAnyH_take (i := 4) (v := ?v6) rfl (by kernel_rfl) (by kernel_rfl) (by kernel_rfl) (fun _ _ _ h => h) (Or.inl ⟨by rfl, ?hy6⟩) hHeld ?rest6
                      case hy6 =>
                        intro w' hSw
                        try dsimp only at hSw
                        go_simp
                        first | done | with_reducible rfl
                      try simp only [Act.put, List.getElem_toArray, List.getElem_cons_succ, List.getElem_cons_zero, List.setIfInBounds_toArray, List.set_cons_zero, List.set_cons_succ]
                      refine wpAnyH_done (by kernel_rfl) ?_ _
                      refine OnlyN.normal ?_
                      go_wp2_with fail
                      exact bodyPost_ret (res_2t rfl _ _ (w.heap.size + 1) (w.heap.size + 2) _ _ _ rfl rfl rfl (load_fo zfo HTD.out.2.1) (load_fa _ HTD.out.2.2)) rfl ⟨by rw [HO.out.trans (run_inl HD8.out (stepW_form HD.out HDE.out HNO.out))]; rfl, HTD.out.1⟩
                  · have o1 : (h.k != 1) = false := by simp [f1]
                    have o2 : decide (h.v < 1) = false := decide_eq_false (by omega)
                    have o3 : decide (8 < h.v) = true := decide_eq_true (by omega)
                    have HNO := Lib.hid (show ¬ hOk (sl u 15) s.high from fun q => f3 (by rw [HH.out]; exact q.2.2.1))
                    clear f1 f2 f3
                    clear a0 f15
                    go_wp2_with (first
                      | (refine wpList_yields (S := fun w' => ObAt w' ab (off + j * 163) u) (y_ob (by rfl) (.tmp 109) (by rfl) ab (off + j * 163) (by rfl) u (fun _ h => h)) HOB.out ?_)
                      | (show wpList _ _ _ ({ dst := none, op := .store _ (.tmp 17) (.tmp 110), type := _, pos := _, after := _, guard := _ } :: _) _ _; refine wpList_store_last rfl (.tmp 17) (.tmp 110) rfl w2.heap.size rfl rfl u oz rfl ?_; have hU4 := (HW4.out.blk _ List.mem_cons_self).2; obtain ⟨s0, s1, s2, s3, s4, s5⟩ := slot15 hU4; rw [← HH.out] at s0 s1 s2 s3 s4 s5; clear hU4)
                      | (show wpList _ _ _ ({ dst := none, op := .store _ (.tmp 18) (.tmp 113), type := _, pos := _, after := _, guard := _ } :: _) _ _; refine wpList_store_new (l := kl h) (l0 := kl zk) (ty := 31) rfl (.tmp 18) (.tmp 113) (by rfl) (w2.heap.size + 1) (by simp) (by rfl) (by rfl) size30 rfl (kl_one _) ?_; clear s0 s1 s2 s3 s4 s5 k0 k1 k2 k3 k4 k5 e0 e1 e2 e3 e4 e5; have hH5 : Blk _ (w2.heap.size + 1) 31 (kc h.k h.o h.c h.l h.r h.v) := (HW5.out.blk _ List.mem_cons_self).2; obtain ⟨s0, s1, s2, s3, s4, s5⟩ := hH5.six; clear hH5; obtain ⟨k0, k1, k2, k3, k4, k5⟩ := HW5.out.q.k9.six; obtain ⟨e0, e1, e2, e3, e4, e5⟩ := HW5.out.q.k13.six; have b0 := HW5.out.a15.cell 0; have g15 := HW5.out.a15.frozen 0))
                    have HW9 := Lib.hid (HW5.out.kind 4)
                    generalize ((w2.alloc (.cells u.cells.toArray 52)).alloc (.cells (kl h).toArray 31)).setCell ⟨wr.heap.size, 0, none⟩ (.int .i64 4) = w9 at HW9 ⊢
                    have HE := Lib.hid HW9.out
                    have HTD := Lib.hid (HE.out.q.drew.told zfo ⟨4, s.kp, ad⟩)
                    refine wp_region_only (S := fun W => W.rangeAt wr.heap.size 0 (Fa.cells ⟨4, s.kp, ad⟩)) (by kernel_rfl) HE.out.drew.a15.range (fun hHeld => ?_)
                    refine wpAnyH_take (i := 0) rfl (by kernel_rfl) (by kernel_rfl) (by kernel_rfl) (fun _ _ _ h => h) (y_build (by rfl) (by rfl) builtFo0) hHeld ?_
                    try simp only [Act.put, List.getElem_toArray, List.getElem_cons_zero, List.setIfInBounds_toArray, List.set_cons_zero, List.set_cons_succ]
                    refine wpAnyH_take (i := 1) rfl (by kernel_rfl) (by kernel_rfl) (by kernel_rfl) (fun _ _ _ h => h) (y_fa (by rfl) (.tmp 15) (by rfl) wr.heap.size 0 (by rfl) ⟨4, s.kp, ad⟩ (fun _ h => h)) hHeld ?_
                    try simp only [Act.put, List.getElem_toArray, List.getElem_cons_succ, List.getElem_cons_zero, List.setIfInBounds_toArray, List.set_cons_zero, List.set_cons_succ]
                    refine wpAnyH_ready (rs := [2]) (by kernel_rfl) (by simp) ?_
                    refine AllReadyH.cons (by rfl) (fun K hK => ?_) AllReadyH.nil
                    refine step_store_big HE.out.q.drew_f6 rfl (.tmp 6) (.tmp 134) (ty := 33) (l0 := zfo.cells) (l := zfo.cells) (by rfl) (by rfl) (by rfl) sizeFo rfl zfo.one ?_
                    refine hK.out _ _ (HE.out.a15r1) (fun hHeld => ?_)
                    clear hK K
                    try simp only [Act.put, List.getElem_toArray, List.getElem_cons_succ, List.getElem_cons_zero]
                    refine wpAnyH_ready (rs := [3]) (by kernel_rfl) (by simp) ?_
                    refine AllReadyH.cons (by rfl) (fun K hK => ?_) AllReadyH.nil
                    refine step_store_big HE.out.q.drew_f7 rfl (.tmp 7) (.tmp 135) (ty := 36) (l0 := zfa.cells) (l := Fa.cells ⟨4, s.kp, ad⟩) (by rfl) (by rfl) (by rfl) sizeFa rfl (Fa.one _) ?_
                    refine hK.out _ _ (HE.out.a15r2 _ _) (fun hHeld => ?_)
                    clear hK K
                    try simp only [Act.put, List.getElem_toArray, List.getElem_cons_succ, List.getElem_cons_zero]
                    refine wpAnyH_take (i := 4) (v := ?v7) rfl (by kernel_rfl) (by kernel_rfl) (by kernel_rfl) (fun _ _ _ h => h) (Or.inl ⟨by rfl, ?hy7⟩) hHeld ?rest7
                    case hy7 =>
                      intro w' hSw
                      try dsimp only at hSw
                      go_simp
                      first | done | with_reducible rfl
                    try simp only [Act.put, List.getElem_toArray, List.getElem_cons_succ, List.getElem_cons_zero, List.setIfInBounds_toArray, List.set_cons_zero, List.set_cons_succ]
                    refine wpAnyH_done (by kernel_rfl) ?_ _
                    refine OnlyN.normal ?_
                    go_wp2_with fail
                    exact bodyPost_ret (res_2t rfl _ _ (w.heap.size + 1) (w.heap.size + 2) _ _ _ rfl rfl rfl (load_fo zfo HTD.out.2.1) (load_fa _ HTD.out.2.2)) rfl ⟨by rw [HO.out.trans (run_inl HD8.out (stepW_form HD.out HDE.out HNO.out))]; rfl, HTD.out.1⟩
                · have o1 : (h.k != 1) = false := by simp [f1]
                  have o2 : decide (h.v < 1) = true := decide_eq_true (by omega)
                  have HNO := Lib.hid (show ¬ hOk (sl u 15) s.high from fun q => f2 (by rw [HH.out]; exact q.2.1))
                  clear f1 f2
                  clear a0 f15
                  go_wp2_with (first
                    | (refine wpList_yields (S := fun w' => ObAt w' ab (off + j * 163) u) (y_ob (by rfl) (.tmp 109) (by rfl) ab (off + j * 163) (by rfl) u (fun _ h => h)) HOB.out ?_)
                    | (show wpList _ _ _ ({ dst := none, op := .store _ (.tmp 17) (.tmp 110), type := _, pos := _, after := _, guard := _ } :: _) _ _; refine wpList_store_last rfl (.tmp 17) (.tmp 110) rfl w2.heap.size rfl rfl u oz rfl ?_; have hU4 := (HW4.out.blk _ List.mem_cons_self).2; obtain ⟨s0, s1, s2, s3, s4, s5⟩ := slot15 hU4; rw [← HH.out] at s0 s1 s2 s3 s4 s5; clear hU4)
                    | (show wpList _ _ _ ({ dst := none, op := .store _ (.tmp 18) (.tmp 113), type := _, pos := _, after := _, guard := _ } :: _) _ _; refine wpList_store_new (l := kl h) (l0 := kl zk) (ty := 31) rfl (.tmp 18) (.tmp 113) (by rfl) (w2.heap.size + 1) (by simp) (by rfl) (by rfl) size30 rfl (kl_one _) ?_; clear s0 s1 s2 s3 s4 s5 k0 k1 k2 k3 k4 k5 e0 e1 e2 e3 e4 e5; have hH5 : Blk _ (w2.heap.size + 1) 31 (kc h.k h.o h.c h.l h.r h.v) := (HW5.out.blk _ List.mem_cons_self).2; obtain ⟨s0, s1, s2, s3, s4, s5⟩ := hH5.six; clear hH5; obtain ⟨k0, k1, k2, k3, k4, k5⟩ := HW5.out.q.k9.six; obtain ⟨e0, e1, e2, e3, e4, e5⟩ := HW5.out.q.k13.six; have b0 := HW5.out.a15.cell 0; have g15 := HW5.out.a15.frozen 0))
                  have HW9 := Lib.hid (HW5.out.kind 4)
                  generalize ((w2.alloc (.cells u.cells.toArray 52)).alloc (.cells (kl h).toArray 31)).setCell ⟨wr.heap.size, 0, none⟩ (.int .i64 4) = w9 at HW9 ⊢
                  have HE := Lib.hid HW9.out
                  have HTD := Lib.hid (HE.out.q.drew.told zfo ⟨4, s.kp, ad⟩)
                  refine wp_region_only (S := fun W => W.rangeAt wr.heap.size 0 (Fa.cells ⟨4, s.kp, ad⟩)) (by kernel_rfl) HE.out.drew.a15.range (fun hHeld => ?_)
                  refine wpAnyH_take (i := 0) rfl (by kernel_rfl) (by kernel_rfl) (by kernel_rfl) (fun _ _ _ h => h) (y_build (by rfl) (by rfl) builtFo0) hHeld ?_
                  try simp only [Act.put, List.getElem_toArray, List.getElem_cons_zero, List.setIfInBounds_toArray, List.set_cons_zero, List.set_cons_succ]
                  refine wpAnyH_take (i := 1) rfl (by kernel_rfl) (by kernel_rfl) (by kernel_rfl) (fun _ _ _ h => h) (y_fa (by rfl) (.tmp 15) (by rfl) wr.heap.size 0 (by rfl) ⟨4, s.kp, ad⟩ (fun _ h => h)) hHeld ?_
                  try simp only [Act.put, List.getElem_toArray, List.getElem_cons_succ, List.getElem_cons_zero, List.setIfInBounds_toArray, List.set_cons_zero, List.set_cons_succ]
                  refine wpAnyH_ready (rs := [2]) (by kernel_rfl) (by simp) ?_
                  refine AllReadyH.cons (by rfl) (fun K hK => ?_) AllReadyH.nil
                  refine step_store_big HE.out.q.drew_f6 rfl (.tmp 6) (.tmp 134) (ty := 33) (l0 := zfo.cells) (l := zfo.cells) (by rfl) (by rfl) (by rfl) sizeFo rfl zfo.one ?_
                  refine hK.out _ _ (HE.out.a15r1) (fun hHeld => ?_)
                  clear hK K
                  try simp only [Act.put, List.getElem_toArray, List.getElem_cons_succ, List.getElem_cons_zero]
                  refine wpAnyH_ready (rs := [3]) (by kernel_rfl) (by simp) ?_
                  refine AllReadyH.cons (by rfl) (fun K hK => ?_) AllReadyH.nil
                  refine step_store_big HE.out.q.drew_f7 rfl (.tmp 7) (.tmp 135) (ty := 36) (l0 := zfa.cells) (l := Fa.cells ⟨4, s.kp, ad⟩) (by rfl) (by rfl) (by rfl) sizeFa rfl (Fa.one _) ?_
                  refine hK.out _ _ (HE.out.a15r2 _ _) (fun hHeld => ?_)
                  clear hK K
                  try simp only [Act.put, List.getElem_toArray, List.getElem_cons_succ, List.getElem_cons_zero]
                  refine wpAnyH_take (i := 4) (v := ?v8) rfl (by kernel_rfl) (by kernel_rfl) (by kernel_rfl) (fun _ _ _ h => h) (Or.inl ⟨by rfl, ?hy8⟩) hHeld ?rest8
                  case hy8 =>
                    intro w' hSw
                    try dsimp only at hSw
                    go_simp
                    first | done | with_reducible rfl
                  try simp only [Act.put, List.getElem_toArray, List.getElem_cons_succ, List.getElem_cons_zero, List.setIfInBounds_toArray, List.set_cons_zero, List.set_cons_succ]
                  refine wpAnyH_done (by kernel_rfl) ?_ _
                  refine OnlyN.normal ?_
                  go_wp2_with fail
                  exact bodyPost_ret (res_2t rfl _ _ (w.heap.size + 1) (w.heap.size + 2) _ _ _ rfl rfl rfl (load_fo zfo HTD.out.2.1) (load_fa _ HTD.out.2.2)) rfl ⟨by rw [HO.out.trans (run_inl HD8.out (stepW_form HD.out HDE.out HNO.out))]; rfl, HTD.out.1⟩
              · have o1 : (h.k != 1) = true := by simpa using f1
                have HNO := Lib.hid (show ¬ hOk (sl u 15) s.high from fun q => f1 (by rw [HH.out]; exact q.1))
                clear f1
                clear a0 f15
                go_wp2_with (first
                  | (refine wpList_yields (S := fun w' => ObAt w' ab (off + j * 163) u) (y_ob (by rfl) (.tmp 109) (by rfl) ab (off + j * 163) (by rfl) u (fun _ h => h)) HOB.out ?_)
                  | (show wpList _ _ _ ({ dst := none, op := .store _ (.tmp 17) (.tmp 110), type := _, pos := _, after := _, guard := _ } :: _) _ _; refine wpList_store_last rfl (.tmp 17) (.tmp 110) rfl w2.heap.size rfl rfl u oz rfl ?_; have hU4 := (HW4.out.blk _ List.mem_cons_self).2; obtain ⟨s0, s1, s2, s3, s4, s5⟩ := slot15 hU4; rw [← HH.out] at s0 s1 s2 s3 s4 s5; clear hU4)
                  | (show wpList _ _ _ ({ dst := none, op := .store _ (.tmp 18) (.tmp 113), type := _, pos := _, after := _, guard := _ } :: _) _ _; refine wpList_store_new (l := kl h) (l0 := kl zk) (ty := 31) rfl (.tmp 18) (.tmp 113) (by rfl) (w2.heap.size + 1) (by simp) (by rfl) (by rfl) size30 rfl (kl_one _) ?_; clear s0 s1 s2 s3 s4 s5 k0 k1 k2 k3 k4 k5 e0 e1 e2 e3 e4 e5; have hH5 : Blk _ (w2.heap.size + 1) 31 (kc h.k h.o h.c h.l h.r h.v) := (HW5.out.blk _ List.mem_cons_self).2; obtain ⟨s0, s1, s2, s3, s4, s5⟩ := hH5.six; clear hH5; obtain ⟨k0, k1, k2, k3, k4, k5⟩ := HW5.out.q.k9.six; obtain ⟨e0, e1, e2, e3, e4, e5⟩ := HW5.out.q.k13.six; have b0 := HW5.out.a15.cell 0; have g15 := HW5.out.a15.frozen 0))
                have HW9 := Lib.hid (HW5.out.kind 4)
                generalize ((w2.alloc (.cells u.cells.toArray 52)).alloc (.cells (kl h).toArray 31)).setCell ⟨wr.heap.size, 0, none⟩ (.int .i64 4) = w9 at HW9 ⊢
                have HE := Lib.hid HW9.out
                have HTD := Lib.hid (HE.out.q.drew.told zfo ⟨4, s.kp, ad⟩)
                refine wp_region_only (S := fun W => W.rangeAt wr.heap.size 0 (Fa.cells ⟨4, s.kp, ad⟩)) (by kernel_rfl) HE.out.drew.a15.range (fun hHeld => ?_)
                refine wpAnyH_take (i := 0) rfl (by kernel_rfl) (by kernel_rfl) (by kernel_rfl) (fun _ _ _ h => h) (y_build (by rfl) (by rfl) builtFo0) hHeld ?_
                try simp only [Act.put, List.getElem_toArray, List.getElem_cons_zero, List.setIfInBounds_toArray, List.set_cons_zero, List.set_cons_succ]
                refine wpAnyH_take (i := 1) rfl (by kernel_rfl) (by kernel_rfl) (by kernel_rfl) (fun _ _ _ h => h) (y_fa (by rfl) (.tmp 15) (by rfl) wr.heap.size 0 (by rfl) ⟨4, s.kp, ad⟩ (fun _ h => h)) hHeld ?_
                try simp only [Act.put, List.getElem_toArray, List.getElem_cons_succ, List.getElem_cons_zero, List.setIfInBounds_toArray, List.set_cons_zero, List.set_cons_succ]
                refine wpAnyH_ready (rs := [2]) (by kernel_rfl) (by simp) ?_
                refine AllReadyH.cons (by rfl) (fun K hK => ?_) AllReadyH.nil
                refine step_store_big HE.out.q.drew_f6 rfl (.tmp 6) (.tmp 134) (ty := 33) (l0 := zfo.cells) (l := zfo.cells) (by rfl) (by rfl) (by rfl) sizeFo rfl zfo.one ?_
                refine hK.out _ _ (HE.out.a15r1) (fun hHeld => ?_)
                clear hK K
                try simp only [Act.put, List.getElem_toArray, List.getElem_cons_succ, List.getElem_cons_zero]
                refine wpAnyH_ready (rs := [3]) (by kernel_rfl) (by simp) ?_
                refine AllReadyH.cons (by rfl) (fun K hK => ?_) AllReadyH.nil
                refine step_store_big HE.out.q.drew_f7 rfl (.tmp 7) (.tmp 135) (ty := 36) (l0 := zfa.cells) (l := Fa.cells ⟨4, s.kp, ad⟩) (by rfl) (by rfl) (by rfl) sizeFa rfl (Fa.one _) ?_
                refine hK.out _ _ (HE.out.a15r2 _ _) (fun hHeld => ?_)
                clear hK K
                try simp only [Act.put, List.getElem_toArray, List.getElem_cons_succ, List.getElem_cons_zero]
                refine wpAnyH_take (i := 4) (v := ?v9) rfl (by kernel_rfl) (by kernel_rfl) (by kernel_rfl) (fun _ _ _ h => h) (Or.inl ⟨by rfl, ?hy9⟩) hHeld ?rest9
                case hy9 =>
                  intro w' hSw
                  try dsimp only at hSw
                  go_simp
                  first | done | with_reducible rfl
                try simp only [Act.put, List.getElem_toArray, List.getElem_cons_succ, List.getElem_cons_zero, List.setIfInBounds_toArray, List.set_cons_zero, List.set_cons_succ]
                refine wpAnyH_done (by kernel_rfl) ?_ _
                refine OnlyN.normal ?_
                go_wp2_with fail
                exact bodyPost_ret (res_2t rfl _ _ (w.heap.size + 1) (w.heap.size + 2) _ _ _ rfl rfl rfl (load_fo zfo HTD.out.2.1) (load_fa _ HTD.out.2.2)) rfl ⟨by rw [HO.out.trans (run_inl HD8.out (stepW_form HD.out HDE.out HNO.out))]; rfl, HTD.out.1⟩
      · have HPG := Lib.hid hpg
        have HAK := Lib.hid hak
        by_cases hnm : (named l s.x).isSome = true
        · have HNM0 := hnm
          have HCN := Lib.hid (fun (W : World) (hr : RdO W (some ⟨ab, off, none⟩) l) => rcn_n (cap := cap) hr HLN.out HLL.out s.x (b := true) HNM0)
          clear HNM0
          have x2 : (s.x.k != 2) = true := by simpa using fun e => hak ⟨hnm, e⟩
          have x3 : (s.x.k != 3) = true := by simpa using fun e => hpg ⟨hnm, e⟩
          clear hnm hpg hak
          go_wp2_with (first
            | (show wpList _ _ _ ({ dst := some 45, op := .build _ _, type := _, pos := _, after := _, guard := _ } :: _) _ _; refine wpList_yields (S := fun _ => True) (y_build2t (by rfl) (by rfl) (by rfl) (by rfl) (builtFa2 ⟨0, s.kp, ad⟩ rfl)) trivial ?_)
            | (show wpList _ _ _ ({ dst := none, op := .store _ (.tmp 15) (.tmp 45), type := _, pos := _, after := _, guard := _ } :: _) _ _; refine wpList_store_new (l := Fa.cells ⟨0, s.kp, ad⟩) (l0 := zfa.cells) (ty := 36) rfl (.tmp 15) (.tmp 45) (by rfl) _ rfl (by rfl) (by rfl) sizeFa rfl (Fa.one _) ?_; have HW1 := Lib.hid (Rw.new HQ.out ⟨0, s.kp, ad⟩ rfl); clear k0 k1 k2 k3 k4 k5 e0 e1 e2 e3 e4 e5; obtain ⟨k0, k1, k2, k3, k4, k5⟩ := HW1.out.q.k9.six; obtain ⟨e0, e1, e2, e3, e4, e5⟩ := HW1.out.q.k13.six)
            | (go_at_call 27; refine (HCN.out _ HW1.out.q.row).mono ?_; rintro e_ w2 ⟨rfl, b2⟩; have HW2 := Lib.hid (HW1.out.below b2); clear b2 k0 k1 k2 k3 k4 k5 e0 e1 e2 e3 e4 e5; obtain ⟨k0, k1, k2, k3, k4, k5⟩ := HW2.out.q.k9.six; obtain ⟨e0, e1, e2, e3, e4, e5⟩ := HW2.out.q.k13.six; have a0 := HW2.out.a15.cell 0; have f15 := HW2.out.a15.frozen 0))
          have HW9 := Lib.hid (HW2.out.kind 1)
          generalize (w2).setCell ⟨wr.heap.size, 0, none⟩ (.int .i64 1) = w9 at HW9 ⊢
          have HE := Lib.hid HW9.out
          have HTD := Lib.hid (HE.out.q.drew.told zfo ⟨1, s.kp, ad⟩)
          refine wp_region_only (S := fun W => W.rangeAt wr.heap.size 0 (Fa.cells ⟨1, s.kp, ad⟩)) (by kernel_rfl) HE.out.drew.a15.range (fun hHeld => ?_)
          refine wpAnyH_take (i := 0) rfl (by kernel_rfl) (by kernel_rfl) (by kernel_rfl) (fun _ _ _ h => h) (y_build (by rfl) (by rfl) builtFo0) hHeld ?_
          try simp only [Act.put, List.getElem_toArray, List.getElem_cons_zero, List.setIfInBounds_toArray, List.set_cons_zero, List.set_cons_succ]
          refine wpAnyH_take (i := 1) rfl (by kernel_rfl) (by kernel_rfl) (by kernel_rfl) (fun _ _ _ h => h) (y_fa (by rfl) (.tmp 15) (by rfl) wr.heap.size 0 (by rfl) ⟨1, s.kp, ad⟩ (fun _ h => h)) hHeld ?_
          try simp only [Act.put, List.getElem_toArray, List.getElem_cons_succ, List.getElem_cons_zero, List.setIfInBounds_toArray, List.set_cons_zero, List.set_cons_succ]
          refine wpAnyH_ready (rs := [2]) (by kernel_rfl) (by simp) ?_
          refine AllReadyH.cons (by rfl) (fun K hK => ?_) AllReadyH.nil
          refine step_store_big HE.out.q.drew_f6 rfl (.tmp 6) (.tmp 61) (ty := 33) (l0 := zfo.cells) (l := zfo.cells) (by rfl) (by rfl) (by rfl) sizeFo rfl zfo.one ?_
          refine hK.out _ _ (HE.out.a15r1) (fun hHeld => ?_)
          clear hK K
          try simp only [Act.put, List.getElem_toArray, List.getElem_cons_succ, List.getElem_cons_zero]
          refine wpAnyH_ready (rs := [3]) (by kernel_rfl) (by simp) ?_
          refine AllReadyH.cons (by rfl) (fun K hK => ?_) AllReadyH.nil
          refine step_store_big HE.out.q.drew_f7 rfl (.tmp 7) (.tmp 62) (ty := 36) (l0 := zfa.cells) (l := Fa.cells ⟨1, s.kp, ad⟩) (by rfl) (by rfl) (by rfl) sizeFa rfl (Fa.one _) ?_
          refine hK.out _ _ (HE.out.a15r2 _ _) (fun hHeld => ?_)
          clear hK K
          try simp only [Act.put, List.getElem_toArray, List.getElem_cons_succ, List.getElem_cons_zero]
          refine wpAnyH_take (i := 4) (v := ?v10) rfl (by kernel_rfl) (by kernel_rfl) (by kernel_rfl) (fun _ _ _ h => h) (Or.inl ⟨by rfl, ?hy10⟩) hHeld ?rest10
          case hy10 =>
            intro w' hSw
            try dsimp only at hSw
            go_simp
            first | done | with_reducible rfl
          try simp only [Act.put, List.getElem_toArray, List.getElem_cons_succ, List.getElem_cons_zero, List.setIfInBounds_toArray, List.set_cons_zero, List.set_cons_succ]
          refine wpAnyH_done (by kernel_rfl) ?_ _
          refine OnlyN.normal ?_
          go_wp2_with fail
          exact bodyPost_ret (res_2t rfl _ _ (w.heap.size + 1) (w.heap.size + 2) _ _ _ rfl rfl rfl (load_fo zfo HTD.out.2.1) (load_fa _ HTD.out.2.2)) rfl ⟨by rw [HO.out.trans (run_inl HD8.out (stepW_void HPG.out HAK.out))]; rfl, HTD.out.1⟩
        · have HNM0 : (named l s.x).isSome = false := by simpa using hnm
          have HCN := Lib.hid (fun (W : World) (hr : RdO W (some ⟨ab, off, none⟩) l) => rcn_n (cap := cap) hr HLN.out HLL.out s.x (b := false) HNM0)
          clear HNM0
          clear hnm hpg hak
          rcases H54.out with rfl | rfl
          · clear H54
            go_wp2_with (first
              | (show wpList _ _ _ ({ dst := some 45, op := .build _ _, type := _, pos := _, after := _, guard := _ } :: _) _ _; refine wpList_yields (S := fun _ => True) (y_build2t (by rfl) (by rfl) (by rfl) (by rfl) (builtFa2 ⟨0, s.kp, ad⟩ rfl)) trivial ?_)
              | (show wpList _ _ _ ({ dst := none, op := .store _ (.tmp 15) (.tmp 45), type := _, pos := _, after := _, guard := _ } :: _) _ _; refine wpList_store_new (l := Fa.cells ⟨0, s.kp, ad⟩) (l0 := zfa.cells) (ty := 36) rfl (.tmp 15) (.tmp 45) (by rfl) _ rfl (by rfl) (by rfl) sizeFa rfl (Fa.one _) ?_; have HW1 := Lib.hid (Rw.new HQ.out ⟨0, s.kp, ad⟩ rfl); clear k0 k1 k2 k3 k4 k5 e0 e1 e2 e3 e4 e5; obtain ⟨k0, k1, k2, k3, k4, k5⟩ := HW1.out.q.k9.six; obtain ⟨e0, e1, e2, e3, e4, e5⟩ := HW1.out.q.k13.six)
              | (go_at_call 27; refine (HCN.out _ HW1.out.q.row).mono ?_; rintro e_ w2 ⟨rfl, b2⟩; have HW2 := Lib.hid (HW1.out.below b2); clear b2 k0 k1 k2 k3 k4 k5 e0 e1 e2 e3 e4 e5; obtain ⟨k0, k1, k2, k3, k4, k5⟩ := HW2.out.q.k9.six; obtain ⟨e0, e1, e2, e3, e4, e5⟩ := HW2.out.q.k13.six; have a0 := HW2.out.a15.cell 0; have f15 := HW2.out.a15.frozen 0; go_wp2_with fail))
            have HW9 := Lib.hid (HW2.out.kind 1)
            generalize (w2).setCell ⟨wr.heap.size, 0, none⟩ (.int .i64 1) = w9 at HW9 ⊢
            have HE := Lib.hid HW9.out
            have HTD := Lib.hid (HE.out.q.drew.told zfo ⟨1, s.kp, ad⟩)
            refine wp_region_only (S := fun W => W.rangeAt wr.heap.size 0 (Fa.cells ⟨1, s.kp, ad⟩)) (by kernel_rfl) HE.out.drew.a15.range (fun hHeld => ?_)
            refine wpAnyH_take (i := 0) rfl (by kernel_rfl) (by kernel_rfl) (by kernel_rfl) (fun _ _ _ h => h) (y_build (by rfl) (by rfl) builtFo0) hHeld ?_
            try simp only [Act.put, List.getElem_toArray, List.getElem_cons_zero, List.setIfInBounds_toArray, List.set_cons_zero, List.set_cons_succ]
            refine wpAnyH_take (i := 1) rfl (by kernel_rfl) (by kernel_rfl) (by kernel_rfl) (fun _ _ _ h => h) (y_fa (by rfl) (.tmp 15) (by rfl) wr.heap.size 0 (by rfl) ⟨1, s.kp, ad⟩ (fun _ h => h)) hHeld ?_
            try simp only [Act.put, List.getElem_toArray, List.getElem_cons_succ, List.getElem_cons_zero, List.setIfInBounds_toArray, List.set_cons_zero, List.set_cons_succ]
            refine wpAnyH_ready (rs := [2]) (by kernel_rfl) (by simp) ?_
            refine AllReadyH.cons (by rfl) (fun K hK => ?_) AllReadyH.nil
            refine step_store_big HE.out.q.drew_f6 rfl (.tmp 6) (.tmp 61) (ty := 33) (l0 := zfo.cells) (l := zfo.cells) (by rfl) (by rfl) (by rfl) sizeFo rfl zfo.one ?_
            refine hK.out _ _ (HE.out.a15r1) (fun hHeld => ?_)
            clear hK K
            try simp only [Act.put, List.getElem_toArray, List.getElem_cons_succ, List.getElem_cons_zero]
            refine wpAnyH_ready (rs := [3]) (by kernel_rfl) (by simp) ?_
            refine AllReadyH.cons (by rfl) (fun K hK => ?_) AllReadyH.nil
            refine step_store_big HE.out.q.drew_f7 rfl (.tmp 7) (.tmp 62) (ty := 36) (l0 := zfa.cells) (l := Fa.cells ⟨1, s.kp, ad⟩) (by rfl) (by rfl) (by rfl) sizeFa rfl (Fa.one _) ?_
            refine hK.out _ _ (HE.out.a15r2 _ _) (fun hHeld => ?_)
            clear hK K
            try simp only [Act.put, List.getElem_toArray, List.getElem_cons_succ, List.getElem_cons_zero]
            refine wpAnyH_take (i := 4) (v := ?v11) rfl (by kernel_rfl) (by kernel_rfl) (by kernel_rfl) (fun _ _ _ h => h) (Or.inl ⟨by rfl, ?hy11⟩) hHeld ?rest11
            case hy11 =>
              intro w' hSw
              try dsimp only at hSw
              go_simp
              first | done | with_reducible rfl
            try simp only [Act.put, List.getElem_toArray, List.getElem_cons_succ, List.getElem_cons_zero, List.setIfInBounds_toArray, List.set_cons_zero, List.set_cons_succ]
            refine wpAnyH_done (by kernel_rfl) ?_ _
            refine OnlyN.normal ?_
            go_wp2_with fail
            exact bodyPost_ret (res_2t rfl _ _ (w.heap.size + 1) (w.heap.size + 2) _ _ _ rfl rfl rfl (load_fo zfo HTD.out.2.1) (load_fa _ HTD.out.2.2)) rfl ⟨by rw [HO.out.trans (run_inl HD8.out (stepW_void HPG.out HAK.out))]; rfl, HTD.out.1⟩
          · clear H54
            go_wp2_with (first
              | (show wpList _ _ _ ({ dst := some 45, op := .build _ _, type := _, pos := _, after := _, guard := _ } :: _) _ _; refine wpList_yields (S := fun _ => True) (y_build2t (by rfl) (by rfl) (by rfl) (by rfl) (builtFa2 ⟨0, s.kp, ad⟩ rfl)) trivial ?_)
              | (show wpList _ _ _ ({ dst := none, op := .store _ (.tmp 15) (.tmp 45), type := _, pos := _, after := _, guard := _ } :: _) _ _; refine wpList_store_new (l := Fa.cells ⟨0, s.kp, ad⟩) (l0 := zfa.cells) (ty := 36) rfl (.tmp 15) (.tmp 45) (by rfl) _ rfl (by rfl) (by rfl) sizeFa rfl (Fa.one _) ?_; have HW1 := Lib.hid (Rw.new HQ.out ⟨0, s.kp, ad⟩ rfl); clear k0 k1 k2 k3 k4 k5 e0 e1 e2 e3 e4 e5; obtain ⟨k0, k1, k2, k3, k4, k5⟩ := HW1.out.q.k9.six; obtain ⟨e0, e1, e2, e3, e4, e5⟩ := HW1.out.q.k13.six)
              | (go_at_call 27; refine (HCN.out _ HW1.out.q.row).mono ?_; rintro e_ w2 ⟨rfl, b2⟩; have HW2 := Lib.hid (HW1.out.below b2); clear b2 k0 k1 k2 k3 k4 k5 e0 e1 e2 e3 e4 e5; obtain ⟨k0, k1, k2, k3, k4, k5⟩ := HW2.out.q.k9.six; obtain ⟨e0, e1, e2, e3, e4, e5⟩ := HW2.out.q.k13.six; have a0 := HW2.out.a15.cell 0; have f15 := HW2.out.a15.frozen 0; go_wp2_with fail))
            have HW9 := Lib.hid (HW2.out.kind 1)
            generalize (w2).setCell ⟨wr.heap.size, 0, none⟩ (.int .i64 1) = w9 at HW9 ⊢
            have HE := Lib.hid HW9.out
            have HTD := Lib.hid (HE.out.q.drew.told zfo ⟨1, s.kp, ad⟩)
            refine wp_region_only (S := fun W => W.rangeAt wr.heap.size 0 (Fa.cells ⟨1, s.kp, ad⟩)) (by kernel_rfl) HE.out.drew.a15.range (fun hHeld => ?_)
            refine wpAnyH_take (i := 0) rfl (by kernel_rfl) (by kernel_rfl) (by kernel_rfl) (fun _ _ _ h => h) (y_build (by rfl) (by rfl) builtFo0) hHeld ?_
            try simp only [Act.put, List.getElem_toArray, List.getElem_cons_zero, List.setIfInBounds_toArray, List.set_cons_zero, List.set_cons_succ]
            refine wpAnyH_take (i := 1) rfl (by kernel_rfl) (by kernel_rfl) (by kernel_rfl) (fun _ _ _ h => h) (y_fa (by rfl) (.tmp 15) (by rfl) wr.heap.size 0 (by rfl) ⟨1, s.kp, ad⟩ (fun _ h => h)) hHeld ?_
            try simp only [Act.put, List.getElem_toArray, List.getElem_cons_succ, List.getElem_cons_zero, List.setIfInBounds_toArray, List.set_cons_zero, List.set_cons_succ]
            refine wpAnyH_ready (rs := [2]) (by kernel_rfl) (by simp) ?_
            refine AllReadyH.cons (by rfl) (fun K hK => ?_) AllReadyH.nil
            refine step_store_big HE.out.q.drew_f6 rfl (.tmp 6) (.tmp 61) (ty := 33) (l0 := zfo.cells) (l := zfo.cells) (by rfl) (by rfl) (by rfl) sizeFo rfl zfo.one ?_
            refine hK.out _ _ (HE.out.a15r1) (fun hHeld => ?_)
            clear hK K
            try simp only [Act.put, List.getElem_toArray, List.getElem_cons_succ, List.getElem_cons_zero]
            refine wpAnyH_ready (rs := [3]) (by kernel_rfl) (by simp) ?_
            refine AllReadyH.cons (by rfl) (fun K hK => ?_) AllReadyH.nil
            refine step_store_big HE.out.q.drew_f7 rfl (.tmp 7) (.tmp 62) (ty := 36) (l0 := zfa.cells) (l := Fa.cells ⟨1, s.kp, ad⟩) (by rfl) (by rfl) (by rfl) sizeFa rfl (Fa.one _) ?_
            refine hK.out _ _ (HE.out.a15r2 _ _) (fun hHeld => ?_)
            clear hK K
            try simp only [Act.put, List.getElem_toArray, List.getElem_cons_succ, List.getElem_cons_zero]
            refine wpAnyH_take (i := 4) (v := ?v12) rfl (by kernel_rfl) (by kernel_rfl) (by kernel_rfl) (fun _ _ _ h => h) (Or.inl ⟨by rfl, ?hy12⟩) hHeld ?rest12
            case hy12 =>
              intro w' hSw
              try dsimp only at hSw
              go_simp
              first | done | with_reducible rfl
            try simp only [Act.put, List.getElem_toArray, List.getElem_cons_succ, List.getElem_cons_zero, List.setIfInBounds_toArray, List.set_cons_zero, List.set_cons_succ]
            refine wpAnyH_done (by kernel_rfl) ?_ _
            refine OnlyN.normal ?_
            go_wp2_with fail
            exact bodyPost_ret (res_2t rfl _ _ (w.heap.size + 1) (w.heap.size + 2) _ _ _ rfl rfl rfl (load_fo zfo HTD.out.2.1) (load_fa _ HTD.out.2.2)) rfl ⟨by rw [HO.out.trans (run_inl HD8.out (stepW_void HPG.out HAK.out))]; rfl, HTD.out.1⟩
end
end Go.Proofs.YtfckdbennjkgoaaDoor

/- disk: Spoil where it is refused. -/
import Derived.Test.YtgjamgojjajcnaaQ23
import Derived.Test.YtgjamgojjajcnaaQ22
import Derived.Test.YtgjamgojjajcnaaQ20
namespace Go.Proofs.Ytgjamgojjajcnaa
open Go.RowKit Go.Shelf
set_option maxRecDepth 100000 in
set_option maxHeartbeats 800000 in
theorem spoil_asked {w : World} (p : Option Addr) (n k : Int) (b : UInt8) (no : Int) (hno : no ≠ 0) (ha : ∀ W, Below w.heap.size w W → Calls Try.prog 37 #[.pointer p, .int .i64 n] W fun e w' => e = .returned (.int .i64 no) ∧ W = w') :
    Calls Try.prog 25 #[.pointer p, .int .i64 n, .int .i64 k, .int .u8 (b.toNat : Int)] w fun e w' => e = .returned (.int .i64 no) ∧ Below w.heap.size w w' := by
  have hn : (no != 0) = true := by simpa using hno
  have q := blks4' w (.pointer p) (.int .i64 n) (.int .i64 k) (.int .u8 (b.toNat : Int)) 31 3 3 5
  have HA := Lib.hid ha
  clear ha hno
  go_enter Try.func25, Try.ntmps25
  go_wp2_with fail
  obtain ⟨q0, q1, q2, q3, qb, qs⟩ := q
  generalize (((w.alloc (.cells #[.pointer p] 31)).alloc (.cells #[.int .i64 n] 3)).alloc (.cells #[.int .i64 k] 3)).alloc (.cells #[.int .u8 (b.toNat : Int)] 5) = W at q0 q1 q2 q3 qb qs ⊢
  refine (HA.out W qb).mono ?_
  rintro e w' ⟨rfl, rfl⟩
  have QB := Lib.hid qb
  clear q0 q1 q2 q3 qb qs
  go_wp2
  go_ret
  exact ⟨rfl, QB.out⟩
theorem spoil_nil (w : World) (n k : Int) (b : UInt8) : Calls Try.prog 25 #[.pointer none, .int .i64 n, .int .i64 k, .int .u8 (b.toNat : Int)] w fun e w' => e = .returned (.int .i64 1) ∧ Below w.heap.size w w' :=
  spoil_asked none n k b 1 (by decide) (fun W _ => asked_nil W n)
theorem spoil_out {w : World} {base p : Nat} {pl : Pl} {D : Dk} (h : DiskAt w base p pl D) (n k : Int) (b : UInt8) (hn : n < 0 ∨ (D.size : Int) ≤ n) :
    Calls Try.prog 25 #[.pointer (some ⟨p, 0, none⟩), .int .i64 n, .int .i64 k, .int .u8 (b.toNat : Int)] w fun e w' => e = .returned (.int .i64 4) ∧ Below w.heap.size w w' :=
  spoil_asked _ n k b 4 (by decide) (fun _ hb => asked_no (h.below hb) n hn)
set_option maxRecDepth 100000 in
set_option maxHeartbeats 800000 in
theorem spoil_far {w : World} {base p : Nat} {pl : Pl} {D : Dk} (h : DiskAt w base p pl D) (n : Nat) (k : Int) (b : UInt8) (hn : n < D.size) (hk : k < 0 ∨ 512 ≤ k) :
    Calls Try.prog 25 #[.pointer (some ⟨p, 0, none⟩), .int .i64 (n : Int), .int .i64 k, .int .u8 (b.toNat : Int)] w fun e w' => e = .returned (.int .i64 4) ∧ Below w.heap.size w w' := by
  have q := blks4' w (.pointer (some ⟨p, 0, none⟩)) (.int .i64 (n : Int)) (.int .i64 k) (.int .u8 (b.toNat : Int)) 31 3 3 5
  have H := Lib.hid h
  have HN := Lib.hid hn
  have HK := Lib.hid hk
  clear h hn hk
  go_enter Try.func25, Try.ntmps25
  go_wp2_with fail
  obtain ⟨q0, q1, q2, q3, qb, qs⟩ := q
  generalize (((w.alloc (.cells #[.pointer (some ⟨p, 0, none⟩)] 31)).alloc (.cells #[.int .i64 (n : Int)] 3)).alloc (.cells #[.int .i64 k] 3)).alloc (.cells #[.int .u8 (b.toNat : Int)] 5) = W at q0 q1 q2 q3 qb qs ⊢
  refine (asked_ok (H.out.below qb) n HN.out).mono ?_
  rintro e w' ⟨rfl, rfl⟩
  have QB := Lib.hid qb
  have c2 := (q2.cell 0).trans (show _ = some (.int .i64 k) from rfl)
  clear q0 q1 q2 q3 qb qs
  by_cases h0 : k < 0
  · have k0 : decide (k < 0) = true := decide_eq_true h0
    go_wp2
    go_ret
    exact ⟨rfl, QB.out⟩
  · have k0 : decide (k < 0) = false := decide_eq_false h0
    have k5 : decide (512 ≤ k) = true := decide_eq_true (by have := HK.out; omega)
    clear h0
    go_wp2
    go_ret
    exact ⟨rfl, QB.out⟩
end Go.Proofs.Ytgjamgojjajcnaa
namespace Go.Proofs.Ytgjamgojjajcnaa
open Go.RowKit
attribute [local go_sem] Oper.semAt_some
/-- may these bits be turned? -/
def spOk (z : Nat) (n k : Int) : Prop := ¬ n < 0 ∧ ¬ (z : Int) ≤ n ∧ ¬ k < 0 ∧ ¬ 512 ≤ k
instance (z : Nat) (n k : Int) : Decidable (spOk z n k) := by unfold spOk; infer_instance
def spNo (z : Nat) (n k : Int) : Int := if spOk z n k then 0 else 4
def spRf (R : Rf) (z : Nat) (n k : Int) (b : UInt8) : Rf := if spOk z n k then R.spoilt n.toNat k.toNat b else R
set_option maxRecDepth 100000 in
set_option maxHeartbeats 4000000 in
theorem rspoil_no {w : World} {r : Rp} {R : Rf} {s z : Nat} (h : RefAt w r R z) (n k : Int) (b : UInt8) (hn : ¬ spOk z n k) :
    Calls Try.prog 35 #[r.val s, .int .i64 n, .int .i64 k, .int .u8 (b.toNat : Int)] w fun e w' => e = .returned (.tuple #[r.val s, .int .i64 4]) ∧ Below w.heap.size w w' := by
  have hz := z43
  have H := Lib.hid h
  have X0 := Lib.hid (show Sg w #[.slice r.A1 r.n1 r.c1, .slice r.A2 r.n2 r.c2, .int .i64 (s : Int), .slice r.A3 r.n3 r.c3] ((w.alloc (.cells (r.cells s) 34)).alloc (.cells #[.slice none 0 0, .slice none 0 0, .int .i64 0, .slice none 0 0] 34)) from ⟨(Blk.new w _ _).alloc _, by have := Blk.new (w.alloc (.cells (r.cells s) 34)) 34 #[.slice none 0 0, .slice none 0 0, .int .i64 0, .slice none 0 0]; simpa using this, ((Below.refl w.heap.size w).alloc (Nat.le_refl _) _).alloc (by simp) _⟩)
  clear h
  by_cases h0 : n < 0
  · have d0 : decide (n < 0) = true := decide_eq_true h0
    clear hn h0
    go_enter Try.func35, Try.ntmps35
    go_wp2_with (first
      | (refine wpList_load_mid rfl 34 (.tmp 4) rfl w.heap.size 0 rfl [.slice r.A1 r.n1 r.c1, .slice r.A2 r.n2 r.c2, .int .i64 (s : Int), .slice r.A3 r.n3 r.c3] _ (Blk.rangeAt (l := [.slice r.A1 r.n1 r.c1, .slice r.A2 r.n2 r.c2, .int .i64 (s : Int), .slice r.A3 r.n3 r.c3]) X0.out.h0) Try.underlying34 rfl size43 ?_)
      | (refine wpList_store_row rfl 34 (.tmp 8) (.tmp 27) rfl (w.heap.size + 1) #[.slice r.A1 r.n1 r.c1, .slice r.A2 r.n2 r.c2, .int .i64 (s : Int), .slice r.A3 r.n3 r.c3] rfl rfl 34 _ X0.out.h1 (size43d _ _ _ _) rfl (one43d _ _ _ _ _ _ _ _ _ _) ?_))
    exact bodyPost_ret (results_ref rfl _ _ (w.heap.size + 1) #[.slice r.A1 r.n1 r.c1, .slice r.A2 r.n2 r.c2, .int .i64 (s : Int), .slice r.A3 r.n3 r.c3] rfl rfl (X0.out.h1.setRow _)) rfl ⟨rfl, below_setRow X0.out.be (by omega) _⟩
  · have d0 : decide (n < 0) = false := decide_eq_false h0
    have hd : (decide ((z : Int) ≤ n) = true) ∨ (decide ((z : Int) ≤ n) = false ∧ decide (k < 0) = true) ∨ (decide ((z : Int) ≤ n) = false ∧ decide (k < 0) = false ∧ decide (512 ≤ k) = true) := by
      simp only [decide_eq_true_eq, decide_eq_false_iff_not]
      unfold spOk at hn
      omega
    clear hn h0
    go_enter Try.func35, Try.ntmps35
    go_wp2_with fail
    generalize (w.alloc (.cells (r.cells s) 34)).alloc (.cells #[.slice none 0 0, .slice none 0 0, .int .i64 0, .slice none 0 0] 34) = W at X0 ⊢
    refine (rsize_any (H.out.below X0.out.be) s).mono ?_
    rintro e W1 ⟨rfl, hb1⟩
    have X1 := Lib.hid (X0.out.next (hb1.mono X0.out.two))
    clear hb1 X0
    rcases hd with d1 | ⟨d1, d2⟩ | ⟨d1, d2, d3⟩
    all_goals
      go_wp2_with (first
        | (refine wpList_load_mid rfl 34 (.tmp 4) rfl w.heap.size 0 rfl [.slice r.A1 r.n1 r.c1, .slice r.A2 r.n2 r.c2, .int .i64 (s : Int), .slice r.A3 r.n3 r.c3] _ (Blk.rangeAt (l := [.slice r.A1 r.n1 r.c1, .slice r.A2 r.n2 r.c2, .int .i64 (s : Int), .slice r.A3 r.n3 r.c3]) X1.out.h0) Try.underlying34 rfl size43 ?_)
        | (refine wpList_store_row rfl 34 (.tmp 8) (.tmp 27) rfl (w.heap.size + 1) #[.slice r.A1 r.n1 r.c1, .slice r.A2 r.n2 r.c2, .int .i64 (s : Int), .slice r.A3 r.n3 r.c3] rfl rfl 34 _ X1.out.h1 (size43d _ _ _ _) rfl (one43d _ _ _ _ _ _ _ _ _ _) ?_))
      exact bodyPost_ret (results_ref rfl _ _ (w.heap.size + 1) #[.slice r.A1 r.n1 r.c1, .slice r.A2 r.n2 r.c2, .int .i64 (s : Int), .slice r.A3 r.n3 r.c3] rfl rfl (X1.out.h1.setRow _)) rfl ⟨rfl, below_setRow X1.out.be (by omega) _⟩
section
variable {w w' : World} {r : Rp} {R : Rf} {s z : Nat}
set_option maxRecDepth 8000 in
theorem rspoil_any (h : RefAt w r R z) (n k : Int) (b : UInt8) :
    Calls Try.prog 35 #[r.val s, .int .i64 n, .int .i64 k, .int .u8 (b.toNat : Int)] w fun e w' => ∃ r' : Rp, e = .returned (.tuple #[r'.val s, .int .i64 (spNo z n k)]) ∧ Below w.heap.size w w' ∧ RefAt w' r' (spRf R z n k b) z ∧
      ∀ q, r'.at_ (spRf R z n k b) q → r.at_ R q ∨ w.heap.size ≤ q := by
  unfold spNo spRf
  by_cases hk : spOk z n k
  · rw [if_pos hk, if_pos hk]
    unfold spOk at hk
    obtain ⟨n', rfl⟩ : ∃ n' : Nat, n = (n' : Int) := ⟨n.toNat, by omega⟩
    obtain ⟨k', rfl⟩ : ∃ k' : Nat, k = (k' : Int) := ⟨k.toNat, by omega⟩
    refine (rspoil_goes h n' k' b (by omega) (by omega)).mono ?_
    rintro e w' ⟨A1, c1, A2, c2, rfl, hb, hr, h1, h2⟩
    refine ⟨_, rfl, hb, hr, ?_⟩
    rintro q ⟨off, ⟨e, _⟩ | ⟨e, hl⟩ | ⟨e, hl⟩⟩
    · exact .inr (h1 q off e)
    · exact .inr (h2 q off e (by simpa [Rf.spoilt] using hl))
    · exact .inl ⟨off, .inr (.inr ⟨e, hl⟩)⟩
  · rw [if_neg hk, if_neg hk]
    refine (rspoil_no h n k b hk).mono ?_
    rintro e w' ⟨rfl, hb⟩
    exact ⟨r, rfl, hb, h.below hb, fun q hq => .inl hq⟩
set_option maxRecDepth 8000 in
theorem chunk_turn (lb : List UInt8) (n k m : Nat) (b : UInt8) (hk : k < 512) (hn : 512 * n + 512 ≤ lb.length) : chunk (turnL lb (512 * n + k) b) m = if m = n then turnL (chunk lb n) k b else chunk lb m := by
  have hl : (turnL lb (512 * n + k) b).length = lb.length := turnL_length _ _ _
  have hu : 512 * n + k < lb.length := by omega
  have hc : (chunk lb n).length = 512 := by unfold chunk; rw [List.length_take, List.length_drop]; omega
  split
  · rename_i e
    subst e
    apply List.ext_getElem?
    intro i
    have hku : k < (chunk lb m).length := by omega
    have e0 : (chunk lb m)[k]? = lb[512 * m + k]? := by
      unfold chunk
      rw [List.getElem?_take, if_pos hk, List.getElem?_drop]
      congr 1
      omega
    have e1 : (chunk lb m)[k] = lb[512 * m + k] := by
      rw [List.getElem?_eq_getElem hku, List.getElem?_eq_getElem hu] at e0
      exact Option.some.inj e0
    rw [turnL_set _ _ _ hku, turnL_set _ _ _ hu, e1]
    unfold chunk
    rw [List.getElem?_take, List.getElem?_drop, List.getElem?_set, List.getElem?_set, List.getElem?_take, List.getElem?_drop]
    by_cases hi : i < 512
    · rw [if_pos hi, if_pos hi]
      by_cases hki : k = i
      · subst hki
        rw [if_pos (show 512 * m + k = m * 512 + k by omega), if_pos rfl, if_pos (by omega), if_pos (by rw [List.length_take, List.length_drop]; omega)]
      · rw [if_neg (show ¬ 512 * m + k = m * 512 + i by omega), if_neg hki]
    · rw [if_neg hi, if_neg (by omega), if_neg hi]
  · rename_i hne
    apply List.ext_getElem?
    intro i
    rw [turnL_set _ _ _ hu]
    unfold chunk
    rw [List.getElem?_take, List.getElem?_drop, List.getElem?_set, List.getElem?_take, List.getElem?_drop]
    by_cases hi : i < 512
    · rw [if_pos hi, if_pos hi, if_neg (show ¬ 512 * n + k = m * 512 + i by omega)]
    · rw [if_neg hi, if_neg hi]
set_option maxRecDepth 8000 in
theorem dspoil_any {B p : Nat} {pl : Pl} {D : Dk} (hd : DiskAt w B p pl D) (ha : Alike D R s z) (hlb : R.lb.length = z * 512) (hN : R.ws.length ≤ 1000000) (n k : Int) (b : UInt8) :
    Calls Try.prog 25 #[.pointer (some ⟨p, 0, none⟩), .int .i64 n, .int .i64 k, .int .u8 (b.toNat : Int)] w fun e w' => e = .returned (.int .i64 (spNo z n k)) ∧ ∃ D', DiskAt w' B p pl D' ∧ Fr (pl.has p) w w' ∧ Alike D' (spRf R z n k b) s z := by
  have hsz := ha.size
  unfold spNo spRf
  by_cases hk : spOk z n k
  · rw [if_pos hk, if_pos hk]
    unfold spOk at hk
    obtain ⟨n', rfl⟩ : ∃ n' : Nat, n = (n' : Int) := ⟨n.toNat, by omega⟩
    obtain ⟨k', rfl⟩ : ∃ k' : Nat, k = (k' : Int) := ⟨k.toNat, by omega⟩
    refine (spoil_goes hd (by rw [ha.waits]; exact hN) n' k' b (by omega) (by omega)).mono ?_
    rintro e w' ⟨rfl, hd', hf⟩
    refine ⟨rfl, _, hd', hf, { size := hsz, lasts := fun m hm => ?_, waits := by show D.waits.map _ = R.ws.map _; rw [ha.waits]; rfl, steps := ha.steps, fails := ha.fails }⟩
    show upL D.lasts n' (turnL (D.lasts n') k' b) m = chunk (turnL R.lb (512 * (n' : Int).toNat + (k' : Int).toNat) b) m
    rw [chunk_turn _ _ _ _ _ (by omega) (by omega)]
    unfold upL
    rw [show (n' : Int).toNat = n' from rfl, show (k' : Int).toNat = k' from rfl]
    split
    · rw [ha.lasts n' (by omega)]
    · exact ha.lasts m hm
  · rw [if_neg hk, if_neg hk]
    unfold spOk at hk
    by_cases h1 : n < 0 ∨ (D.size : Int) ≤ n
    · refine (spoil_out hd n k b h1).mono ?_
      rintro e w' ⟨rfl, hb⟩
      exact ⟨rfl, D, hd.below hb, ((Fr.refl (pl.has p) w).below hb), ha⟩
    · obtain ⟨n', rfl⟩ : ∃ n' : Nat, n = (n' : Int) := ⟨n.toNat, by omega⟩
      refine (spoil_far hd n' k b (by omega) (by omega)).mono ?_
      rintro e w' ⟨rfl, hb⟩
      exact ⟨rfl, D, hd.below hb, ((Fr.refl (pl.has p) w).below hb), ha⟩
end
end Go.Proofs.Ytgjamgojjajcnaa
namespace Go.Proofs.Ytgjamgojjajcnaa
open Go.RowKit
attribute [local go_sem] Oper.semAt_some
set_option maxRecDepth 100000 in
set_option maxHeartbeats 8000000 in
theorem act4_any {w : World} {B p : Nat} {pl : Pl} {D : Dk} {r : Rp} {R : Rf} {s z : Nat} (h : Bo w B p pl D r R s z) (x : Ac) (hx : x.what = 4) :
    Calls Try.prog 11 #[.pointer (some ⟨p, 0, none⟩), r.val s, x.val] w (ActPost w B p pl r R z (spRf R z x.sector x.at_ x.byte) s) := by
  have hz := z43
  have H := Lib.hid h
  obtain ⟨Wd, hW⟩ : ∃ Wd, Wd = ((w.alloc (.cells #[.slice r.A1 r.n1 r.c1, .slice r.A2 r.n2 r.c2, .int .i64 (s : Int), .slice r.A3 r.n3 r.c3] 34)).alloc (.cells x.cs.toArray 28)).alloc (.cells #[.slice none 0 0, .slice none 0 0, .int .i64 0, .slice none 0 0] 34) := ⟨_, rfl⟩
  have A0 := Lib.hid (show Ag w r s x Wd from by rw [hW]; exact Ag.of w r s x)
  have x0 : (x.what == 0) = false := by rw [hx]; rfl
  have x1 : (x.what == 1) = false := by rw [hx]; rfl
  have x2 : (x.what == 2) = false := by rw [hx]; rfl
  have x3 : (x.what == 3) = false := by rw [hx]; rfl
  have x4 : (x.what == 4) = true := by rw [hx]; rfl
  have c0 := (A0.out.h1.cell 0).trans (show _ = some (.int .i64 x.what) from rfl)
  have c1 := (A0.out.h1.cell 1).trans (show _ = some (.int .i64 x.sector) from rfl)
  have c2 := (A0.out.h1.cell 2).trans (show _ = some (.int .i64 x.at_) from rfl)
  have c3 := (A0.out.h1.cell 3).trans (show _ = some (.int .u8 (x.byte.toNat : Int)) from rfl)
  rw [hW] at c0 c1 c2 c3
  have A00 := Lib.hid (hW ▸ A0.out.h0)
  clear h hx
  go_enter Try.func11, Try.ntmps11
  go_wp2_with (first
    | (refine wpList_load_mid rfl 34 (.tmp 4) rfl w.heap.size 0 rfl [.slice r.A1 r.n1 r.c1, .slice r.A2 r.n2 r.c2, .int .i64 (s : Int), .slice r.A3 r.n3 r.c3] _ (Blk.rangeAt (l := [.slice r.A1 r.n1 r.c1, .slice r.A2 r.n2 r.c2, .int .i64 (s : Int), .slice r.A3 r.n3 r.c3]) A00.out) Try.underlying34 rfl size43 ?_))
  rw [← hW]
  clear hW c0 c1 c2 c3 A00
  refine (rspoil_any (H.out.rf.below A0.out.be) x.sector x.at_ x.byte).mono ?_
  rintro e W5 ⟨r', rfl, hb5, hr5, hat5⟩
  have NA0 := Lib.hid (show ∀ q, r'.at_ (spRf R z x.sector x.at_ x.byte) q → r.at_ R q ∨ w.heap.size + 1 + 1 < q from fun q hq => (hat5 q hq).imp id (fun h => Nat.lt_of_lt_of_le A0.out.h7.lt h))
  have A5 := Lib.hid (A0.out.go hb5)
  have T5 := Lib.hid hr5
  obtain ⟨no, hno⟩ : ∃ no, no = spNo z x.sector x.at_ := ⟨_, rfl⟩
  rw [← hno]
  have HNO := Lib.hid hno
  have GG := Lib.hid (show w.heap.size + 1 + 1 < W5.heap.size from A5.out.h7.lt)
  clear hb5 hr5 hat5 hno A0
  have X6 := Lib.hid (show Ah w x W5.heap.size #[.slice r'.A1 r'.n1 r'.c1, .slice r'.A2 r'.n2 r'.c2, .int .i64 (s : Int), .slice r'.A3 r'.n3 r'.c3] (W5.alloc (.cells #[.slice r'.A1 r'.n1 r'.c1, .slice r'.A2 r'.n2 r'.c2, .int .i64 (s : Int), .slice r'.A3 r'.n3 r'.c3] 34)) from ⟨A5.out.h1.alloc _, A5.out.h7.alloc _, Blk.new W5 _ _⟩)
  have T6 := Lib.hid (T5.out.alloc (.cells #[.slice r'.A1 r'.n1 r'.c1, .slice r'.A2 r'.n2 r'.c2, .int .i64 (s : Int), .slice r'.A3 r'.n3 r'.c3] 34))
  have B6 := Lib.hid (A5.out.be.alloc A5.out.be.size (.cells #[.slice r'.A1 r'.n1 r'.c1, .slice r'.A2 r'.n2 r'.c2, .int .i64 (s : Int), .slice r'.A3 r'.n3 r'.c3] 34))
  clear A5 T5
  go_wp2_with fail
  generalize W5.alloc (.cells #[.slice r'.A1 r'.n1 r'.c1, .slice r'.A2 r'.n2 r'.c2, .int .i64 (s : Int), .slice r'.A3 r'.n3 r'.c3] 34) = m5 at X6 T6 B6 ⊢
  replace X6 := Lib.hid (X6.out.below (Below.drew (Below.refl _ m5)))
  replace T6 := Lib.hid T6.out.drew
  replace B6 := Lib.hid B6.out.drew
  refine wp_region_only (S := fun w' => w'.cell? ⟨w.heap.size + 1, 1, none⟩ = some (.int .i64 x.sector) ∧ w'.cell? ⟨w.heap.size + 1, 2, none⟩ = some (.int .i64 x.at_) ∧ w'.cell? ⟨w.heap.size + 1, 3, none⟩ = some (.int .u8 (x.byte.toNat : Int)) ∧ Blk w' W5.heap.size 34 #[.slice r'.A1 r'.n1 r'.c1, .slice r'.A2 r'.n2 r'.c2, .int .i64 (s : Int), .slice r'.A3 r'.n3 r'.c3]) (by kernel_rfl) ⟨(X6.out.h1.cell 1).trans rfl, (X6.out.h1.cell 2).trans rfl, (X6.out.h1.cell 3).trans rfl, X6.out.hg⟩ (fun hHeld => ?_)
  refine wpAnyH_take (i := 0) (v := ?v1) rfl (by kernel_rfl) (by kernel_rfl) (by kernel_rfl) (fun _ _ _ h => h) (Or.inl ⟨by rfl, ?hy1⟩) hHeld ?rest1
  case hy1 =>
    intro w' hSw
    try dsimp only at hSw
    go_simp
    first | done | with_reducible rfl
  try simp only [Act.put, List.getElem_toArray, List.getElem_cons_zero, List.setIfInBounds_toArray, List.set_cons_zero, List.set_cons_succ]
  refine wpAnyH_take (i := 1) rfl (by kernel_rfl) (by kernel_rfl) (by kernel_rfl) (fun _ _ _ h => h) (yieldsIf_load_mid (by rfl) 34 (.tmp 20) (by rfl) W5.heap.size 0 (by rfl) [.slice r'.A1 r'.n1 r'.c1, .slice r'.A2 r'.n2 r'.c2, .int .i64 (s : Int), .slice r'.A3 r'.n3 r'.c3] _ (fun w' hSw => Blk.rangeAt hSw.2.2.2) Try.underlying34 rfl size43) hHeld ?_
  try simp only [Act.put, List.getElem_toArray, List.getElem_cons_succ, List.getElem_cons_zero, List.setIfInBounds_toArray, List.set_cons_zero, List.set_cons_succ]
  refine wpAnyH_take (i := 2) (v := ?v2) rfl (by kernel_rfl) (by kernel_rfl) (by kernel_rfl) (fun _ _ _ h => h) (Or.inl ⟨by rfl, ?hy2⟩) hHeld ?rest2
  case hy2 =>
    intro w' hSw
    try dsimp only at hSw
    go_simp
    first | done | with_reducible rfl
  try simp only [Act.put, List.getElem_toArray, List.getElem_cons_succ, List.getElem_cons_zero, List.setIfInBounds_toArray, List.set_cons_zero, List.set_cons_succ]
  refine wpAnyH_take (i := 3) (v := ?v3) rfl (by kernel_rfl) (by kernel_rfl) (by kernel_rfl) (fun _ _ _ h => h) (Or.inl ⟨by rfl, ?hy3⟩) hHeld ?rest3
  case hy3 =>
    intro w' hSw
    try dsimp only at hSw
    go_simp
    first | done | with_reducible rfl
  try simp only [Act.put, List.getElem_toArray, List.getElem_cons_succ, List.getElem_cons_zero, List.setIfInBounds_toArray, List.set_cons_zero, List.set_cons_succ]
  refine wpAnyH_take (i := 4) (v := ?v4) rfl (by kernel_rfl) (by kernel_rfl) (by kernel_rfl) (fun _ _ _ h => h) (Or.inl ⟨by rfl, ?hy4⟩) hHeld ?rest4
  case hy4 =>
    intro w' hSw
    try dsimp only at hSw
    go_simp
    first | done | with_reducible rfl
  try simp only [Act.put, List.getElem_toArray, List.getElem_cons_succ, List.getElem_cons_zero, List.setIfInBounds_toArray, List.set_cons_zero, List.set_cons_succ]
  refine wpAnyH_take (i := 5) (v := ?v5) rfl (by kernel_rfl) (by kernel_rfl) (by kernel_rfl) (fun _ _ _ h => h) (Or.inl ⟨by rfl, ?hy5⟩) hHeld ?rest5
  case hy5 =>
    intro w' hSw
    try dsimp only at hSw
    go_simp
    first | done | with_reducible rfl
  try simp only [Act.put, List.getElem_toArray, List.getElem_cons_succ, List.getElem_cons_zero, List.setIfInBounds_toArray, List.set_cons_zero, List.set_cons_succ]
  refine wpAnyH_take (i := 6) (v := ?v6) rfl (by kernel_rfl) (by kernel_rfl) (by kernel_rfl) (fun _ _ _ h => h) (Or.inl ⟨by rfl, ?hy6⟩) hHeld ?rest6
  case hy6 =>
    intro w' hSw
    try dsimp only at hSw
    go_simp
    first | done | with_reducible rfl
  try simp only [Act.put, List.getElem_toArray, List.getElem_cons_succ, List.getElem_cons_zero, List.setIfInBounds_toArray, List.set_cons_zero, List.set_cons_succ]
  refine wpAnyH_take (i := 7) (v := ?v7) rfl (by kernel_rfl) (by kernel_rfl) (by kernel_rfl) (fun _ _ _ h => h) (Or.inl ⟨by rfl, ?hy7⟩) hHeld ?rest7
  case hy7 =>
    intro w' hSw
    try dsimp only at hSw
    go_simp
    first | done | with_reducible rfl
  try simp only [Act.put, List.getElem_toArray, List.getElem_cons_succ, List.getElem_cons_zero, List.setIfInBounds_toArray, List.set_cons_zero, List.set_cons_succ]
  refine wpAnyH_take (i := 8) (v := ?v8) rfl (by kernel_rfl) (by kernel_rfl) (by kernel_rfl) (fun _ _ _ h => h) (Or.inl ⟨by rfl, ?hy8⟩) hHeld ?rest8
  case hy8 =>
    intro w' hSw
    try dsimp only at hSw
    go_simp
    first | done | with_reducible rfl
  try simp only [Act.put, List.getElem_toArray, List.getElem_cons_succ, List.getElem_cons_zero, List.setIfInBounds_toArray, List.set_cons_zero, List.set_cons_succ]
  refine wpAnyH_take (i := 11) (v := ?v9) rfl (by kernel_rfl) (by kernel_rfl) (by kernel_rfl) (fun _ _ _ h => h) (Or.inl ⟨by rfl, ?hy9⟩) hHeld ?rest9
  case hy9 =>
    intro w' hSw
    try dsimp only at hSw
    go_simp
    first | done | with_reducible rfl
  try simp only [Act.put, List.getElem_toArray, List.getElem_cons_succ, List.getElem_cons_zero, List.setIfInBounds_toArray, List.set_cons_zero, List.set_cons_succ]
  refine wpAnyH_ready (rs := [9]) (by kernel_rfl) (by simp) ?_
  refine AllReadyH.cons (by rfl) (fun K hK => ?_) AllReadyH.nil
  go_simp
  refine (dspoil_any (H.out.da.below B6.out) H.out.al H.out.rf.l1 (by have := H.out.rf.m2; omega) x.sector x.at_ x.byte).mono ?_
  rintro e m6 ⟨rfl, D', hd, hf, hal⟩
  have X7 := Lib.hid (X6.out.fr hf (fun k hk => (H.out.da.lt k hk).1) GG.out)
  have BO := Lib.hid (H.out.mk' B6.out.size T6.out (fun b hb' => (NA0.out b hb').imp id (fun h => by omega)) hd hf (fun q hq => .inl hq) hal)
  have FR := Lib.hid (show Fr (pl.has p) w m6 from (Fr.of_below B6.out).trans hf)
  rw [← HNO.out]
  clear hd hf hal hHeld T6 B6 X6
  refine hK.out _ _ ⟨(X7.out.h1.cell 1).trans rfl, (X7.out.h1.cell 2).trans rfl, (X7.out.h1.cell 3).trans rfl, X7.out.hg⟩ (fun hHeld => ?_)
  clear hK K
  try simp only [Act.put, List.getElem_toArray, List.getElem_cons_succ, List.getElem_cons_zero, List.setIfInBounds_toArray, List.set_cons_zero, List.set_cons_succ]
  refine wpAnyH_ready (rs := [10]) (by kernel_rfl) (by simp) ?_
  refine AllReadyH.cons (by rfl) (fun K hK => ?_) AllReadyH.nil
  go_simp
  refine (num_any _ _).mono ?_
  rintro e m7 ⟨rfl, rfl⟩
  clear hHeld
  refine hK.out _ _ ⟨(X7.out.h1.cell 1).trans rfl, (X7.out.h1.cell 2).trans rfl, (X7.out.h1.cell 3).trans rfl, X7.out.hg⟩ (fun hHeld => ?_)
  clear hK K
  try simp only [Act.put, List.getElem_toArray, List.getElem_cons_succ, List.getElem_cons_zero, List.setIfInBounds_toArray, List.set_cons_zero, List.set_cons_succ]
  refine wpAnyH_take (i := 12) (v := ?v10) rfl (by kernel_rfl) (by kernel_rfl) (by kernel_rfl) (fun _ _ _ h => h) (Or.inl ⟨by rfl, ?hy10⟩) hHeld ?rest10
  case hy10 =>
    intro w' hSw
    try dsimp only at hSw
    go_simp
    first | done | with_reducible rfl
  try simp only [Act.put, List.getElem_toArray, List.getElem_cons_succ, List.getElem_cons_zero, List.setIfInBounds_toArray, List.set_cons_zero, List.set_cons_succ]
  refine wpAnyH_take (i := 13) (v := ?v11) rfl (by kernel_rfl) (by kernel_rfl) (by kernel_rfl) (fun _ _ _ h => h) (Or.inl ⟨by rfl, ?hy11⟩) hHeld ?rest11
  case hy11 =>
    intro w' hSw
    try dsimp only at hSw
    go_simp
    first | done | with_reducible rfl
  try simp only [Act.put, List.getElem_toArray, List.getElem_cons_succ, List.getElem_cons_zero, List.setIfInBounds_toArray, List.set_cons_zero, List.set_cons_succ]
  refine wpAnyH_ready (rs := [14]) (by kernel_rfl) (by simp) ?_
  refine AllReadyH.cons (by rfl) (fun K hK => ?_) AllReadyH.nil
  refine step_store_whole rfl 34 (.tmp 7) (.tmp 126) rfl (by rfl) #[.slice r'.A1 r'.n1 r'.c1, .slice r'.A2 r'.n2 r'.c2, .int .i64 (s : Int), .slice r'.A3 r'.n3 r'.c3] #[.slice none 0 0, .slice none 0 0, .int .i64 0, .slice none 0 0] 34 (by rfl) X7.out.h7 (size43c _ _ _ _) rfl (one43 _ _ _ _ _ _ _ _ _ _) ?_
  intro m8 j8 f8
  have J8 := Lib.hid j8
  have BO8 := Lib.hid (show Bo m8 B p pl D' r' (spRf R z x.sector x.at_ x.byte) s z from BO.out.far f8 (fun hk => by have := (H.out.da.lt _ hk).1; omega) (fun hk => by rcases NA0.out _ hk with h | h; (have := H.out.rf.lt h; omega); omega))
  have FR8 := Lib.hid (FR.out.then_ f8 (fun i hi e => by omega))
  have X8 := Lib.hid (show Blk m8 (w.heap.size + 1) 28 x.cs.toArray ∧ Blk m8 W5.heap.size 34 #[.slice r'.A1 r'.n1 r'.c1, .slice r'.A2 r'.n2 r'.c2, .int .i64 (s : Int), .slice r'.A3 r'.n3 r'.c3] from ⟨f8.keepBlk X7.out.h1 (by omega), f8.keepBlk X7.out.hg (by have := GG.out; omega)⟩)
  clear hHeld j8 f8 BO FR X7
  refine hK.out _ _ ⟨(X8.out.1.cell 1).trans rfl, (X8.out.1.cell 2).trans rfl, (X8.out.1.cell 3).trans rfl, X8.out.2⟩ (fun hHeld => ?_)
  clear hK K
  try simp only [Act.put, List.getElem_toArray, List.getElem_cons_succ, List.getElem_cons_zero]
  refine wpAnyH_take (i := 15) (v := ?v12) rfl (by kernel_rfl) (by kernel_rfl) (by kernel_rfl) (fun _ _ _ h => h) (Or.inl ⟨by rfl, ?hy12⟩) hHeld ?rest12
  case hy12 =>
    intro w' hSw
    try dsimp only at hSw
    go_simp
    first | done | with_reducible rfl
  try simp only [Act.put, List.getElem_toArray, List.getElem_cons_succ, List.getElem_cons_zero, List.setIfInBounds_toArray, List.set_cons_zero, List.set_cons_succ]
  refine wpAnyH_done (by kernel_rfl) ?_ _
  refine OnlyN.normal ?_
  clear hHeld
  go_wp2_with fail
  exact bodyPost_ret (results_act rfl _ _ (w.heap.size + 1 + 1) #[.slice r'.A1 r'.n1 r'.c1, .slice r'.A2 r'.n2 r'.c2, .int .i64 (s : Int), .slice r'.A3 r'.n3 r'.c3] rfl rfl J8.out) rfl ⟨pl, D', r', rfl, BO8.out, FR8.out, fun q hq => .inl hq, fun b hb' => (NA0.out b hb').imp id (fun h => by omega)⟩
end Go.Proofs.Ytgjamgojjajcnaa

/- disk: Copy. -/
import Derived.Test.YtokbghpddgfnpaaCrash
namespace Go.Proofs.Ytokbghpddgfnpaa
open Go.RowKit
section
variable {w : World} {base p : Nat} {pl : Pl} {D : Dk}
set_option maxRecDepth 8000 in
theorem own_below' {w w' : World} {base n size : Nat} {e : TypeId} {v : Value} {xs : List Value} (h : w.ownsRow base e size v n xs) (hb : Below w.heap.size w w') : w'.ownsRow base e size v n xs := by
  refine h.kept (row := none) ⟨hb.os, hb.tape, hb.output, hb.size, fun k hk _ => hb.block k hk⟩ ?_
  cases hv : v.ownBlock with
  | none => exact .inl rfl
  | some k => exact .inr (by simp)
set_option maxRecDepth 8000 in
theorem own_set {w : World} {base n size : Nat} {e : TypeId} {v : Value} {xs : List Value} (h : w.ownsRow base e size v n xs) (q : Addr) (u : Value) (hq : ∀ k, v.ownBlock = some k → k ≠ q.block) : (w.setCell q u).ownsRow base e size v n xs := by
  refine ⟨h.1, ?_⟩
  rcases h.2 with h' | ⟨g, cap, cur, hv, hb, hg, rest⟩
  · exact .inl h'
  · exact .inr ⟨g, cap, cur, hv, hb, (Below.heap_setCell w q u g (hq g (by rw [hv]; rfl))).trans hg, rest⟩
theorem SecMap.below {w w' : World} {m : Nat} {L : Nat → List UInt8} (h : SecMap w m L) (hb : Below w.heap.size w w') : SecMap w' m L := h.keep (hb.block m h.lt)
set_option maxRecDepth 8000 in
theorem clone73_any {m : Nat} {L : Nat → List UInt8} (h : SecMap w m L) : Calls Try.prog 49 #[.map (some m)] w fun e w' =>
    ∃ m', e = .returned (.map (some m')) ∧ SecMap w' m' L ∧ w.heap.size ≤ m' ∧ Below w.heap.size w w' := by
  have hc := h.clone
  obtain ⟨es, clock, he, hs⟩ := hc
  refine (clone73 m es clock w he).mono ?_
  rintro e w' ⟨rfl, rfl⟩
  exact ⟨_, rfl, hs w, Nat.le_refl _, (Below.refl _ w).alloc (Nat.le_refl _) _⟩
set_option maxRecDepth 8000 in
theorem clone75_any {f : Option Nat} {S : Int → Bool} (h : SetMap w f S) : Calls Try.prog 51 #[.map f] w fun e w' =>
    ∃ f', e = .returned (.map f') ∧ SetMap w' f' S ∧ (∀ b, f' = some b → w.heap.size ≤ b) ∧ Below w.heap.size w w' := by
  cases f with
  | none =>
    refine (clone75_nil w).mono ?_
    rintro e w' ⟨rfl, rfl⟩
    exact ⟨none, rfl, h, (fun b e => nomatch e), Below.refl _ w⟩
  | some b =>
    obtain ⟨es, clock, h1, h2⟩ := h
    refine (clone75 b es clock w h1).mono ?_
    rintro e w' ⟨rfl, rfl⟩
    exact ⟨some w.heap.size, rfl, ⟨es, clock, heap_alloc_new w _, h2⟩, fun b e => by injection e with e; omega, (Below.refl _ w).alloc (Nat.le_refl _) _⟩
set_option maxRecDepth 8000 in
theorem clone58_any (h : DiskAt w base p pl D) (hN : D.waits.length ≤ 1000000) : Calls Try.prog 50 #[pl.wv] w fun e w' =>
    ∃ v, e = .returned v ∧ w'.ownsRow w.heap.size 89 513 v D.waits.length (D.waits.flatMap wc) ∧ Below w.heap.size w w' := by
  have hr := h.row
  rcases hr.2 with ⟨h1, h2⟩ | ⟨g, cap, cur, h1, _⟩
  · rw [h1]
    refine (clone58_nil w).mono ?_
    rintro e w' ⟨rfl, rfl⟩
    refine ⟨_, rfl, ?_, Below.refl _ w⟩
    have h0 : D.waits = [] := List.eq_nil_of_length_eq_zero h2
    rw [h0]
    exact World.ownsRow_nil _ _ _ _
  · rw [h1] at hr ⊢
    exact clone58_some w base g _ cap D.waits hN hr
end
set_option maxRecDepth 100000 in
set_option maxHeartbeats 1600000 in
theorem copy_nil (w : World) : Calls Try.prog 18 #[.pointer none] w fun e w' => e = .returned (.pointer none) ∧ w = w' := by
  go_enter Try.func18, Try.ntmps18
  go_wp2_with (go_at_call 48; refine (there_nil _).mono ?_; rintro e w' ⟨rfl, rfl⟩)
  go_ret
  exact ⟨rfl, rfl⟩
set_option maxRecDepth 100000 in
set_option maxHeartbeats 1600000 in
theorem copy_at {w : World} {base p : Nat} {pl : Pl} {D : Dk} (h : DiskAt w base p pl D) (hN : D.waits.length ≤ 1000000) :
    Calls Try.prog 18 #[.pointer (some ⟨p, 0, none⟩)] w fun e w' => ∃ p' pl', e = .returned (.pointer (some ⟨p', 0, none⟩)) ∧ DiskAt w' w.heap.size p' pl' D ∧ Below w.heap.size w w' := by
  have H := Lib.hid h
  have hz := z77
  have c0 := h.c0
  have c1 := h.c1
  obtain ⟨A2, cap2, hv⟩ := own_shape h.row
  have HV := Lib.hid hv
  have c2 := h.c2
  rw [hv] at c2
  have c3 := h.c3
  have c4 := h.c4
  have c5 := h.c5
  have c1a := (h.alloc (.cells #[.int .i64 (D.size : Int), .map (some pl.m), .slice A2 D.waits.length cap2, .int .i64 (D.steps : Int), .int .i64 (D.frm : Int), .map pl.f] 85)).c1
  clear h hv
  go_enter Try.func18, Try.ntmps18
  go_wp2_with (go_at_call 48; refine (there_at H.out).mono ?_; rintro e w' ⟨rfl, rfl⟩)
  have HP := Lib.hid (Blk.new w 85 #[.int .i64 (D.size : Int), .map (some pl.m), .slice A2 D.waits.length cap2, .int .i64 (D.steps : Int), .int .i64 (D.frm : Int), .map pl.f])
  have H0 := Lib.hid (H.out.alloc (.cells #[.int .i64 (D.size : Int), .map (some pl.m), .slice A2 D.waits.length cap2, .int .i64 (D.steps : Int), .int .i64 (D.frm : Int), .map pl.f] 85))
  have BL := Lib.hid ((Below.refl w.heap.size w).alloc (Nat.le_refl _) (.cells #[.int .i64 (D.size : Int), .map (some pl.m), .slice A2 D.waits.length cap2, .int .i64 (D.steps : Int), .int .i64 (D.frm : Int), .map pl.f] 85))
  have S0 := Lib.hid (show (w.alloc (.cells #[.int .i64 (D.size : Int), .map (some pl.m), .slice A2 D.waits.length cap2, .int .i64 (D.steps : Int), .int .i64 (D.frm : Int), .map pl.f] 85)).heap.size = w.heap.size + 1 by simp)
  generalize w.alloc (.cells #[.int .i64 (D.size : Int), .map (some pl.m), .slice A2 D.waits.length cap2, .int .i64 (D.steps : Int), .int .i64 (D.frm : Int), .map pl.f] 85) = W0 at HP H0 BL S0 ⊢
  clear c0 c1 c2 c3 c4 c5 c1a hz
  refine (clone73_any H0.out.map).mono ?_
  rintro e w1 ⟨m', rfl, sm, hm, b1⟩
  have HP1 := Lib.hid (HP.out.below b1 HP.out.lt)
  have SM := Lib.hid (sm.keep (Below.heap_setCell w1 ⟨w.heap.size, 1, none⟩ (.map (some m')) m' (by have := S0.out; simp; omega)))
  have HP2 := Lib.hid (HP1.out.set_ 1 (.map (some m')))
  have H1 := Lib.hid ((H0.out.below b1).keep (w' := w1.setCell ⟨w.heap.size, 1, none⟩ (.map (some m'))) (fun k hk => Below.heap_setCell w1 _ _ k (by have := (H.out.lt k hk).1; simp; omega)))
  have B1 := Lib.hid ((BL.out.trans (b1.mono BL.out.size)).setCell (Nat.le_refl _) (p := ⟨w.heap.size, 1, none⟩) (.map (some m')))
  have p1 := (HP1.out.cell 1).trans (show _ = some (.map (some pl.m)) from rfl)
  have f1 := HP1.out.frozen 1
  have c2 := H1.out.c2
  rw [HV.out] at c2
  have HM := Lib.hid hm
  have S1 := Lib.hid (show W0.heap.size ≤ (w1.setCell ⟨w.heap.size, 1, none⟩ (.map (some m'))).heap.size by simpa [World.setCell] using b1.size)
  clear sm hm b1
  go_wp2_with fail
  generalize w1.setCell ⟨w.heap.size, 1, none⟩ (.map (some m')) = W1 at SM HP2 H1 B1 S1 ⊢
  clear p1 f1 c2 HP1 HP H0 BL
  refine (show Calls Try.prog _ #[.slice A2 D.waits.length cap2] W1 _ from HV.out ▸ clone58_any H1.out hN).mono ?_
  rintro e w2 ⟨v', rfl, own2, b2⟩
  obtain ⟨A3, cap3, rfl⟩ := own_shape own2
  have HP3 := Lib.hid (HP2.out.below b2 HP2.out.lt)
  have hne : ∀ k, (Value.slice A3 D.waits.length cap3).ownBlock = some k → k ≠ w.heap.size := fun k hk e => by have := (own2.lt k hk).1; have := S1.out; have := S0.out; omega
  have OW := Lib.hid (own_set own2 ⟨w.heap.size, 2, none⟩ (.slice A3 D.waits.length cap3) hne)
  have HP4 := Lib.hid (HP3.out.set_ 2 (.slice A3 D.waits.length cap3))
  have SM2 := Lib.hid ((SM.out.below b2).keep (Below.heap_setCell w2 ⟨w.heap.size, 2, none⟩ (.slice A3 D.waits.length cap3) m' (by have := S0.out; have := HM.out; simp; omega)))
  have H2 := Lib.hid ((H1.out.below b2).keep (w' := w2.setCell ⟨w.heap.size, 2, none⟩ (.slice A3 D.waits.length cap3)) (fun k hk => Below.heap_setCell w2 _ _ k (by have := (H.out.lt k hk).1; simp; omega)))
  have B2 := Lib.hid ((B1.out.trans (b2.mono B1.out.size)).setCell (Nat.le_refl _) (p := ⟨w.heap.size, 2, none⟩) (.slice A3 D.waits.length cap3))
  have p2 := (HP3.out.cell 2).trans (show _ = some (.slice A2 D.waits.length cap2) from rfl)
  have f2 := HP3.out.frozen 2
  have c5 := H2.out.c5
  have S2 := Lib.hid (show W0.heap.size ≤ (w2.setCell ⟨w.heap.size, 2, none⟩ (.slice A3 D.waits.length cap3)).heap.size by have := b2.size; have := S1.out; simp [World.setCell]; omega)
  clear own2 b2 hne
  go_wp2_with fail
  generalize w2.setCell ⟨w.heap.size, 2, none⟩ (.slice A3 D.waits.length cap3) = W2 at OW HP4 SM2 H2 B2 S2 ⊢
  clear p2 f2 c5 HP3 HP2 SM H1 B1
  refine (clone75_any H2.out.set).mono ?_
  rintro e w3 ⟨f', rfl, st3, hf3, b3⟩
  have HP5 := Lib.hid (HP4.out.below b3 HP4.out.lt)
  have HP6 := Lib.hid (HP5.out.set_ 5 (.map f'))
  have p3 := (HP5.out.cell 5).trans (show _ = some (.map pl.f) from rfl)
  have f3 := HP5.out.frozen 5
  have ST := Lib.hid (st3.keep (w' := w3.setCell ⟨w.heap.size, 5, none⟩ (.map f')) (fun b hb => Below.heap_setCell w3 _ _ b (by have := hf3 b hb; have := S2.out; have := S0.out; simp; omega)))
  have SM3 := Lib.hid ((SM2.out.below b3).keep (Below.heap_setCell w3 ⟨w.heap.size, 5, none⟩ (.map f') m' (by have := S0.out; have := HM.out; simp; omega)))
  have hne : ∀ k, (Value.slice A3 D.waits.length cap3).ownBlock = some k → k ≠ w.heap.size := fun k hk e => by have := (OW.out.lt k hk).1; have := S1.out; have := S0.out; omega
  have OW2 := Lib.hid (own_set (own_below' OW.out b3) ⟨w.heap.size, 5, none⟩ (.map f') hne)
  have B3 := Lib.hid ((B2.out.trans (b3.mono B2.out.size)).setCell (Nat.le_refl _) (p := ⟨w.heap.size, 5, none⟩) (.map f'))
  have HF := Lib.hid hf3
  clear st3 hf3 b3 hne
  go_wp2
  have hw1 : w.heap.size ≤ W1.heap.size := by have := S0.out; have := S1.out; omega
  have hw2 : w.heap.size ≤ W2.heap.size := by have := S0.out; have := S2.out; omega
  have hmm : w.heap.size ≤ m' := by have := S0.out; have := HM.out; omega
  have hml : m' < W2.heap.size := SM2.out.lt
  go_ret
  refine ⟨w.heap.size, { m := m', wv := .slice A3 D.waits.length cap3, f := f' }, rfl, ?_, B3.out⟩
  exact {
    blk := HP6.out
    map := SM3.out
    row := own_base OW2.out hw1
    set := ST.out
    bp := Nat.le_refl _
    bm := hmm
    bf := fun b hb => Nat.le_trans hw2 (HF.out b hb)
    ne := fun hb => by have := HF.out m' hb; omega
    size1 := H.out.size1
    size2 := H.out.size2
    lens := H.out.lens
    wlens := H.out.wlens
    frm := H.out.frm }
end Go.Proofs.Ytokbghpddgfnpaa

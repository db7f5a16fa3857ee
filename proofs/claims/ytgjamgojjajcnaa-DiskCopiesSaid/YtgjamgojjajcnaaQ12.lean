/- law 2: DiskMakes, the walk. -/
import Derived.Test.YtgjamgojjajcnaaQ11
import Derived.Test.YtgjamgojjajcnaaQ08
namespace Go.Proofs.Ytgjamgojjajcnaa.diskMakes
open Go.RowKit
attribute [local go_sem] Oper.semAt_some
set_option maxRecDepth 8000 in
theorem wrap_i64_of (x : Int) (h0 : 0 ≤ x) (h1 : x ≤ 9223372036854775807) : IntKind.i64.wrap x = x := by
  simp only [IntKind.wrap, IntKind.bits, IntKind.signed]
  simp
  omega
theorem rd77 (w : World) (t : TypeId) : Rd (w.alloc (.cells #[.int .u8 77] t)) (some ⟨w.heap.size, 0, none⟩) [77] := rd_new w 77 t rfl
theorem run_strB (w : World) {A : Option Addr} {c : Nat} {l : List UInt8} (hr : Rd w A l) : (convert 22 9 (.slice A l.length c)).run Try.prog w = .ok (.string (st l)) w := run_str w Try.underlying22 Try.underlying5 Try.underlying9 rfl hr
set_option maxRecDepth 8000 in
theorem cut_more (g k cap : Nat) (h : k + 1 ≤ cap) (hk : k ≤ 20000) (W : World) : (Instr.slice 22 (.slice (some ⟨g, 0, none⟩) k cap) none (some (.int .i64 ((k : Int) + 1))) none).run Try.prog W = .ok (.slice (some ⟨g, 0, none⟩) (k + 1) cap) W := by
  have hw2 : (0 : Int) ≤ (k : Int) + 1 := by omega
  have hw3 : (k : Int) + 1 ≤ (cap : Int) := by omega
  have hw4 : ((k : Int) + 1).toNat = k + 1 := by omega
  have hw1 : IntKind.i64.wrap ((k : Int) + 1) = (k : Int) + 1 := wrap_i64_of _ hw2 (by omega)
  go_simp
theorem secs_zs : ∀ s : Nat, secs (fun _ => zs) s = List.replicate (s * 512) 0
  | 0 => rfl
  | s + 1 => by
    rw [secs_succ, secs_zs s, zs, List.replicate_append_replicate]
    exact congrArg (fun n => List.replicate n (0 : UInt8)) (by omega)
theorem secs_take (l : List UInt8) (s : Nat) : ∀ k, k ≤ s → secs (ofL l s) k = l.take (k * 512)
  | 0, _ => by simp [secs]
  | k + 1, h => by
    rw [secs_succ, secs_take l s k (by omega), show (k + 1) * 512 = k * 512 + 512 by omega, List.take_add]
    unfold ofL chunk
    rw [if_pos (by omega)]
set_option maxRecDepth 8000 in
theorem secs_of (l : List UInt8) (s : Nat) (hl : l.length = s * 512) : secs (ofL l s) s = l := by
  rw [secs_take l s s (Nat.le_refl _), List.take_of_length_le (by omega)]
set_option maxRecDepth 8000 in
theorem made_rd (W : World) (N : Nat) : Rd (W.alloc (.cells (madeCells #[.int .u8 0] N) 5)) (some ⟨W.heap.size, 0, none⟩) (List.replicate N 0) := by
  have e : madeCells #[.int .u8 0] N = (bv (List.replicate N 0)).toArray := by
    rw [bv_replicate]
    apply Array.ext
    · simp [size_madeCells]
    · intro i h1 h2
      simp [madeCells, Nat.mod_one]
  rw [e]
  exact rd_blk (Blk.new W 5 (bv (List.replicate N 0)).toArray) 0 _ (fun j hj => by rw [Nat.zero_add, bv_get, List.getElem?_eq_getElem hj]; rfl)
set_option maxRecDepth 8000 in
theorem of_zero (w : World) (A : Option Addr) (n cap : Nat) (h : n = 0) :
    Calls Try.prog 31 #[.slice A n cap] w fun e w' => e = .returned (.tuple #[.pointer none, .int .i64 2]) ∧ w = w' := by
  subst h
  exact of_none w A cap
end Go.Proofs.Ytgjamgojjajcnaa.diskMakes
namespace Go.Proofs.Ytgjamgojjajcnaa
open Go.RowKit
section
variable {w : World} {base p : Nat} {pl : Pl} {D : Dk}
set_option maxRecDepth 8000 in
theorem own_below' {w w' : World} {base n size : Nat} {e : TypeId} {v : Value} {xs : List Value} (h : w.ownsRow base e size v n xs) (hb : Below w.heap.size w w') : w'.ownsRow base e size v n xs := by
  refine h.kept (row := none) ⟨hb.os, hb.tape, hb.output, hb.size, fun k hk _ => hb.block k hk⟩ ?_
  cases hv : v.ownBlock with
  | none => exact .inl rfl
  | some k => exact .inr (by simp)
set_option maxRecDepth 8000 in
theorem own_set {w : World} {base n size : Nat} {e : TypeId} {v : Value} {xs : List Value} (h : w.ownsRow base e size v n xs) (q : Addr) (u : Value) (hq : ∀ k, v.ownBlock = some k → k ≠ q.block) : (w.setCell q u).ownsRow base e size v n xs := by
  refine ⟨h.1, ?_⟩
  rcases h.2 with h' | ⟨g, cap, cur, hv, hb, hg, rest⟩
  · exact .inl h'
  · exact .inr ⟨g, cap, cur, hv, hb, (Below.heap_setCell w q u g (hq g (by rw [hv]; rfl))).trans hg, rest⟩
theorem SecMap.below {w w' : World} {m : Nat} {L : Nat → List UInt8} (h : SecMap w m L) (hb : Below w.heap.size w w') : SecMap w' m L := h.keep (hb.block m h.lt)
set_option maxRecDepth 8000 in
theorem clone73_any {m : Nat} {L : Nat → List UInt8} (h : SecMap w m L) : Calls Try.prog 48 #[.map (some m)] w fun e w' =>
    ∃ m', e = .returned (.map (some m')) ∧ SecMap w' m' L ∧ w.heap.size ≤ m' ∧ Below w.heap.size w w' := by
  have hc := h.clone
  obtain ⟨es, clock, he, hs⟩ := hc
  refine (clone73 m es clock w he).mono ?_
  rintro e w' ⟨rfl, rfl⟩
  exact ⟨_, rfl, hs w, Nat.le_refl _, (Below.refl _ w).alloc (Nat.le_refl _) _⟩
set_option maxRecDepth 8000 in
theorem clone75_any {f : Option Nat} {S : Int → Bool} (h : SetMap w f S) : Calls Try.prog 50 #[.map f] w fun e w' =>
    ∃ f', e = .returned (.map f') ∧ SetMap w' f' S ∧ (∀ b, f' = some b → w.heap.size ≤ b) ∧ Below w.heap.size w w' := by
  cases f with
  | none =>
    refine (clone75_nil w).mono ?_
    rintro e w' ⟨rfl, rfl⟩
    exact ⟨none, rfl, h, (fun b e => nomatch e), Below.refl _ w⟩
  | some b =>
    obtain ⟨es, clock, h1, h2⟩ := h
    refine (clone75 b es clock w h1).mono ?_
    rintro e w' ⟨rfl, rfl⟩
    exact ⟨some w.heap.size, rfl, ⟨es, clock, heap_alloc_new w _, h2⟩, fun b e => by injection e with e; omega, (Below.refl _ w).alloc (Nat.le_refl _) _⟩
set_option maxRecDepth 8000 in
theorem clone58_any (h : DiskAt w base p pl D) (hN : D.waits.length ≤ 1000000) : Calls Try.prog 49 #[pl.wv] w fun e w' =>
    ∃ v, e = .returned v ∧ w'.ownsRow w.heap.size 89 513 v D.waits.length (D.waits.flatMap wc) ∧ Below w.heap.size w w' := by
  have hr := h.row
  rcases hr.2 with ⟨h1, h2⟩ | ⟨g, cap, cur, h1, _⟩
  · rw [h1]
    refine (clone58_nil w).mono ?_
    rintro e w' ⟨rfl, rfl⟩
    refine ⟨_, rfl, ?_, Below.refl _ w⟩
    have h0 : D.waits = [] := List.eq_nil_of_length_eq_zero h2
    rw [h0]
    exact World.ownsRow_nil _ _ _ _
  · rw [h1] at hr ⊢
    exact clone58_some w base g _ cap D.waits hN hr
end
set_option maxRecDepth 100000 in
set_option maxHeartbeats 1600000 in
theorem copy_nil (w : World) : Calls Try.prog 17 #[.pointer none] w fun e w' => e = .returned (.pointer none) ∧ w = w' := by
  go_enter Try.func17, Try.ntmps17
  go_wp2_with (go_at_call 47; refine (there_nil _).mono ?_; rintro e w' ⟨rfl, rfl⟩)
  go_ret
  exact ⟨rfl, rfl⟩
set_option maxRecDepth 100000 in
set_option maxHeartbeats 1600000 in
theorem copy_at {w : World} {base p : Nat} {pl : Pl} {D : Dk} (h : DiskAt w base p pl D) (hN : D.waits.length ≤ 1000000) :
    Calls Try.prog 17 #[.pointer (some ⟨p, 0, none⟩)] w fun e w' => ∃ p' pl', e = .returned (.pointer (some ⟨p', 0, none⟩)) ∧ DiskAt w' w.heap.size p' pl' D ∧ Below w.heap.size w w' := by
  have H := Lib.hid h
  have hz := z77
  have c0 := h.c0
  have c1 := h.c1
  obtain ⟨A2, cap2, hv⟩ := own_shape h.row
  have HV := Lib.hid hv
  have c2 := h.c2
  rw [hv] at c2
  have c3 := h.c3
  have c4 := h.c4
  have c5 := h.c5
  have c1a := (h.alloc (.cells #[.int .i64 (D.size : Int), .map (some pl.m), .slice A2 D.waits.length cap2, .int .i64 (D.steps : Int), .int .i64 (D.frm : Int), .map pl.f] 85)).c1
  clear h hv
  go_enter Try.func17, Try.ntmps17
  go_wp2_with (go_at_call 47; refine (there_at H.out).mono ?_; rintro e w' ⟨rfl, rfl⟩)
  have HP := Lib.hid (Blk.new w 85 #[.int .i64 (D.size : Int), .map (some pl.m), .slice A2 D.waits.length cap2, .int .i64 (D.steps : Int), .int .i64 (D.frm : Int), .map pl.f])
  have H0 := Lib.hid (H.out.alloc (.cells #[.int .i64 (D.size : Int), .map (some pl.m), .slice A2 D.waits.length cap2, .int .i64 (D.steps : Int), .int .i64 (D.frm : Int), .map pl.f] 85))
  have BL := Lib.hid ((Below.refl w.heap.size w).alloc (Nat.le_refl _) (.cells #[.int .i64 (D.size : Int), .map (some pl.m), .slice A2 D.waits.length cap2, .int .i64 (D.steps : Int), .int .i64 (D.frm : Int), .map pl.f] 85))
  have S0 := Lib.hid (show (w.alloc (.cells #[.int .i64 (D.size : Int), .map (some pl.m), .slice A2 D.waits.length cap2, .int .i64 (D.steps : Int), .int .i64 (D.frm : Int), .map pl.f] 85)).heap.size = w.heap.size + 1 by simp)
  generalize w.alloc (.cells #[.int .i64 (D.size : Int), .map (some pl.m), .slice A2 D.waits.length cap2, .int .i64 (D.steps : Int), .int .i64 (D.frm : Int), .map pl.f] 85) = W0 at HP H0 BL S0 ⊢
  clear c0 c1 c2 c3 c4 c5 c1a hz
  refine (clone73_any H0.out.map).mono ?_
  rintro e w1 ⟨m', rfl, sm, hm, b1⟩
  have HP1 := Lib.hid (HP.out.below b1 HP.out.lt)
  have SM := Lib.hid (sm.keep (Below.heap_setCell w1 ⟨w.heap.size, 1, none⟩ (.map (some m')) m' (by have := S0.out; simp; omega)))
  have HP2 := Lib.hid (HP1.out.set_ 1 (.map (some m')))
  have H1 := Lib.hid ((H0.out.below b1).keep (w' := w1.setCell ⟨w.heap.size, 1, none⟩ (.map (some m'))) (fun k hk => Below.heap_setCell w1 _ _ k (by have := (H.out.lt k hk).1; simp; omega)))
  have B1 := Lib.hid ((BL.out.trans (b1.mono BL.out.size)).setCell (Nat.le_refl _) (p := ⟨w.heap.size, 1, none⟩) (.map (some m')))
  have p1 := (HP1.out.cell 1).trans (show _ = some (.map (some pl.m)) from rfl)
  have f1 := HP1.out.frozen 1
  have c2 := H1.out.c2
  rw [HV.out] at c2
  have HM := Lib.hid hm
  have S1 := Lib.hid (show W0.heap.size ≤ (w1.setCell ⟨w.heap.size, 1, none⟩ (.map (some m'))).heap.size by simpa [World.setCell] using b1.size)
  clear sm hm b1
  go_wp2_with fail
  generalize w1.setCell ⟨w.heap.size, 1, none⟩ (.map (some m')) = W1 at SM HP2 H1 B1 S1 ⊢
  clear p1 f1 c2 HP1 HP H0 BL
  refine (show Calls Try.prog _ #[.slice A2 D.waits.length cap2] W1 _ from HV.out ▸ clone58_any H1.out hN).mono ?_
  rintro e w2 ⟨v', rfl, own2, b2⟩
  obtain ⟨A3, cap3, rfl⟩ := own_shape own2
  have HP3 := Lib.hid (HP2.out.below b2 HP2.out.lt)
  have hne : ∀ k, (Value.slice A3 D.waits.length cap3).ownBlock = some k → k ≠ w.heap.size := fun k hk e => by have := (own2.lt k hk).1; have := S1.out; have := S0.out; omega
  have OW := Lib.hid (own_set own2 ⟨w.heap.size, 2, none⟩ (.slice A3 D.waits.length cap3) hne)
  have HP4 := Lib.hid (HP3.out.set_ 2 (.slice A3 D.waits.length cap3))
  have SM2 := Lib.hid ((SM.out.below b2).keep (Below.heap_setCell w2 ⟨w.heap.size, 2, none⟩ (.slice A3 D.waits.length cap3) m' (by have := S0.out; have := HM.out; simp; omega)))
  have H2 := Lib.hid ((H1.out.below b2).keep (w' := w2.setCell ⟨w.heap.size, 2, none⟩ (.slice A3 D.waits.length cap3)) (fun k hk => Below.heap_setCell w2 _ _ k (by have := (H.out.lt k hk).1; simp; omega)))
  have B2 := Lib.hid ((B1.out.trans (b2.mono B1.out.size)).setCell (Nat.le_refl _) (p := ⟨w.heap.size, 2, none⟩) (.slice A3 D.waits.length cap3))
  have p2 := (HP3.out.cell 2).trans (show _ = some (.slice A2 D.waits.length cap2) from rfl)
  have f2 := HP3.out.frozen 2
  have c5 := H2.out.c5
  have S2 := Lib.hid (show W0.heap.size ≤ (w2.setCell ⟨w.heap.size, 2, none⟩ (.slice A3 D.waits.length cap3)).heap.size by have := b2.size; have := S1.out; simp [World.setCell]; omega)
  clear own2 b2 hne
  go_wp2_with fail
  generalize w2.setCell ⟨w.heap.size, 2, none⟩ (.slice A3 D.waits.length cap3) = W2 at OW HP4 SM2 H2 B2 S2 ⊢
  clear p2 f2 c5 HP3 HP2 SM H1 B1
  refine (clone75_any H2.out.set).mono ?_
  rintro e w3 ⟨f', rfl, st3, hf3, b3⟩
  have HP5 := Lib.hid (HP4.out.below b3 HP4.out.lt)
  have HP6 := Lib.hid (HP5.out.set_ 5 (.map f'))
  have p3 := (HP5.out.cell 5).trans (show _ = some (.map pl.f) from rfl)
  have f3 := HP5.out.frozen 5
  have ST := Lib.hid (st3.keep (w' := w3.setCell ⟨w.heap.size, 5, none⟩ (.map f')) (fun b hb => Below.heap_setCell w3 _ _ b (by have := hf3 b hb; have := S2.out; have := S0.out; simp; omega)))
  have SM3 := Lib.hid ((SM2.out.below b3).keep (Below.heap_setCell w3 ⟨w.heap.size, 5, none⟩ (.map f') m' (by have := S0.out; have := HM.out; simp; omega)))
  have hne : ∀ k, (Value.slice A3 D.waits.length cap3).ownBlock = some k → k ≠ w.heap.size := fun k hk e => by have := (OW.out.lt k hk).1; have := S1.out; have := S0.out; omega
  have OW2 := Lib.hid (own_set (own_below' OW.out b3) ⟨w.heap.size, 5, none⟩ (.map f') hne)
  have B3 := Lib.hid ((B2.out.trans (b3.mono B2.out.size)).setCell (Nat.le_refl _) (p := ⟨w.heap.size, 5, none⟩) (.map f'))
  have HF := Lib.hid hf3
  clear st3 hf3 b3 hne
  go_wp2
  have hw1 : w.heap.size ≤ W1.heap.size := by have := S0.out; have := S1.out; omega
  have hw2 : w.heap.size ≤ W2.heap.size := by have := S0.out; have := S2.out; omega
  have hmm : w.heap.size ≤ m' := by have := S0.out; have := HM.out; omega
  have hml : m' < W2.heap.size := SM2.out.lt
  go_ret
  refine ⟨w.heap.size, { m := m', wv := .slice A3 D.waits.length cap3, f := f' }, rfl, ?_, B3.out⟩
  exact {
    blk := HP6.out
    map := SM3.out
    row := own_base OW2.out hw1
    set := ST.out
    bp := Nat.le_refl _
    bm := hmm
    bf := fun b hb => Nat.le_trans hw2 (HF.out b hb)
    ne := fun hb => by have := HF.out m' hb; omega
    size1 := H.out.size1
    size2 := H.out.size2
    lens := H.out.lens
    wlens := H.out.wlens
    frm := H.out.frm }
end Go.Proofs.Ytgjamgojjajcnaa
namespace Go.Proofs.Ytgjamgojjajcnaa
open Go.RowKit
/-- where a disk of the document's answer has its lists -/
structure Rp where
  A1 : Option Addr
  n1 : Nat
  c1 : Nat
  A2 : Option Addr
  n2 : Nat
  c2 : Nat
  A3 : Option Addr
  n3 : Nat
  c3 : Nat
abbrev Rp.cells (r : Rp) (s : Nat) : Array Value := #[.slice r.A1 r.n1 r.c1, .slice r.A2 r.n2 r.c2, .int .i64 (s : Int), .slice r.A3 r.n3 r.c3]
abbrev Rp.val (r : Rp) (s : Nat) : Value := .agg (r.cells s)
set_option maxRecDepth 8000 in
theorem zero43 : (Try.prog.info? 34).map (fun i => (i.zero, i.size)) = some (some (.agg #[.slice none 0 0, .slice none 0 0, .int .i64 0, .slice none 0 0]), 4) := by kernel_rfl
theorem z43 (w : World) : (zeroValue 34).run Try.prog w = .ok (.agg #[.slice none 0 0, .slice none 0 0, .int .i64 0, .slice none 0 0]) w := (zero_of_info zero43).1 w
set_option maxRecDepth 8000 in
theorem size43 : (Try.prog.info? 34).map (·.size) = some 4 := by kernel_rfl
set_option maxRecDepth 8000 in
theorem results_ref {fn : Func} {p q : Tmp} (h : fn.results = #[.cell p 34, .tmp q]) (tmps : Array Value) (w : World) (g : Nat) (cs : Array Value) (hl : cs.size = 4)
    (hp : tmps.getD p undef = .pointer (some ⟨g, 0, none⟩)) (hg : Blk w g 34 cs) : (results fn tmps).run Try.prog w = .ok (.tuple #[.agg cs, tmps.getD q undef]) w := by
  have hp' : tmps[p]?.getD undef = .pointer (some ⟨g, 0, none⟩) := by simpa using hp
  have hl := run_loadVar_row (P := Try.prog) w g 34 34 cs (0, 0) _ hg Try.underlying34 rfl (by rw [hl]; exact size43)
  simp [results, h, hp', asAddr, hl]
theorem four_set {W : World} {b : Nat} {t : TypeId} {v0 v1 v2 v3 : Value} (h : Blk W b t #[v0, v1, v2, v3]) (u0 u1 u2 u3 : Value) :
    Blk ((((W.setCell ⟨b, 0, none⟩ u0).setCell ⟨b, 1, none⟩ u1).setCell ⟨b, 2, none⟩ u2).setCell ⟨b, 3, none⟩ u3) b t #[u0, u1, u2, u3] := (((h.set_ 0 u0).set_ 1 u1).set_ 2 u2).set_ 3 u3
set_option maxRecDepth 100000 in
set_option maxHeartbeats 1600000 in
theorem rstep_any (w : World) (r : Rp) (s : Nat) (l : List Int) (hl : l.length = r.n3) (hn : r.n3 ≤ 1000000) (hs : s ≤ 1000000) (hr : RdI w r.A3 l) :
    Calls Try.prog 42 #[r.val s] w fun e w' => e = .returned (.tuple #[r.val (s + 1), .bool (!(decide ((s : Int) ∈ l)))]) ∧ Below w.heap.size w w' := by
  have hz := z43
  have HR := Lib.hid hr
  have HL := Lib.hid hl
  clear hr hl
  go_enter Try.func42, Try.ntmps42
  go_wp2
  have P1 := Lib.hid ((Blk.new w 34 #[.slice r.A1 r.n1 r.c1, .slice r.A2 r.n2 r.c2, .int .i64 ((s : Int) + 1), .slice r.A3 r.n3 r.c3]).alloc (.cells #[.slice none 0 0, .slice none 0 0, .int .i64 0, .slice none 0 0] 34))
  have P2 := Blk.new (w.alloc (.cells #[.slice r.A1 r.n1 r.c1, .slice r.A2 r.n2 r.c2, .int .i64 ((s : Int) + 1), .slice r.A3 r.n3 r.c3] 34)) 34 #[.slice none 0 0, .slice none 0 0, .int .i64 0, .slice none 0 0]
  simp only [World.size_alloc] at P2
  have BL := Lib.hid (((Below.refl w.heap.size w).alloc (Nat.le_refl _) (.cells #[.slice r.A1 r.n1 r.c1, .slice r.A2 r.n2 r.c2, .int .i64 ((s : Int) + 1), .slice r.A3 r.n3 r.c3] 34)).alloc (by simp) (.cells #[.slice none 0 0, .slice none 0 0, .int .i64 0, .slice none 0 0] 34))
  have R2 := Lib.hid (HR.out.below BL.out)
  have PP2 := Lib.hid P2
  generalize (w.alloc (.cells #[.slice r.A1 r.n1 r.c1, .slice r.A2 r.n2 r.c2, .int .i64 ((s : Int) + 1), .slice r.A3 r.n3 r.c3] 34)).alloc (.cells #[.slice none 0 0, .slice none 0 0, .int .i64 0, .slice none 0 0] 34) = W at P1 PP2 BL R2 ⊢
  clear P2 hz
  have b3 := (P1.out.cell 3).trans (show _ = some (.slice r.A3 r.n3 r.c3) from rfl)
  have b0 := (P1.out.cell 0).trans (show _ = some (.slice r.A1 r.n1 r.c1) from rfl)
  have b1 := (P1.out.cell 1).trans (show _ = some (.slice r.A2 r.n2 r.c2) from rfl)
  have b2 := (P1.out.cell 2).trans (show _ = some (.int .i64 ((s : Int) + 1)) from rfl)
  have q0 := (PP2.out.cell 0).trans (show _ = some (.slice none 0 0) from rfl)
  have q1 := (PP2.out.cell 1).trans (show _ = some (.slice none 0 0) from rfl)
  have q2 := (PP2.out.cell 2).trans (show _ = some (.int .i64 0) from rfl)
  have q3 := (PP2.out.cell 3).trans (show _ = some (.slice none 0 0) from rfl)
  have g0 := PP2.out.frozen 0
  have g1 := PP2.out.frozen 1
  have g2 := PP2.out.frozen 2
  have g3 := PP2.out.frozen 3
  have i0 : (0 : Int) ≤ (r.n3 : Int) := Int.natCast_nonneg _
  go_loop [5] (fun i => ∃ k : Nat, k ≤ r.n3 ∧ i = .int .i64 k ∧ ¬ ((s : Int) ∈ l.take k)) (fun i => r.n3 - (intOf i).toNat)
  case atStart => exact ⟨0, Nat.zero_le _, rfl, by simp⟩
  case round =>
    obtain ⟨k, hk, rfl, hno⟩ := hrel
    by_cases hlt : k < r.n3
    · have hkl : k < l.length := by rw [HL.out]; exact hlt
      obtain ⟨b, off, he, hc⟩ := R2.out k hkl
      rw [he] at b3
      obtain ⟨x, hx⟩ : ∃ x, x = l[k] := ⟨_, rfl⟩
      rw [← hx] at hc
      have HT := Lib.hid (show l.take (k + 1) = l.take k ++ [x] by rw [List.take_add_one, List.getElem?_eq_getElem hkl, hx]; rfl)
      have HC := Lib.hid (show x ∈ l by rw [hx]; exact List.getElem_mem _)
      have HNO := Lib.hid hno
      have HE := Lib.hid he
      clear hx hno he
      by_cases hxs : x = (s : Int)
      · have hb : (x == (s : Int)) = true := beq_iff_eq.2 hxs
        have HX := Lib.hid hxs
        clear hxs
        go_wp2
        have E1 : (s : Int) ∈ l := by rw [← HX.out]; exact HC.out
        refine bodyPost_ret (results_ref rfl _ _ (w.heap.size + 1) (r.cells (s + 1)) rfl rfl ?_) rfl ⟨?_, ?_⟩
        · have h4 := four_set PP2.out (.slice r.A1 r.n1 r.c1) (.slice r.A2 r.n2 r.c2) (.int .i64 ((s : Int) + 1)) (.slice r.A3 r.n3 r.c3)
          rw [HE.out] at h4
          unfold Rp.cells
          rw [HE.out]
          exact h4
        · rw [decide_eq_true E1]
          rfl
        · exact (((BL.out.setCell (by simp) _).setCell (by simp) _).setCell (by simp) _).setCell (by simp) _
      · have hb : (x == (s : Int)) = false := beq_eq_false_iff_ne.2 hxs
        have HX := Lib.hid hxs
        clear hxs
        go_wp2
        go_round
        case rel => exact ⟨k + 1, by omega, by go_num, by rw [HT.out, List.mem_append, List.mem_singleton]; exact fun h => h.elim HNO.out (fun e => HX.out e.symm)⟩
        case measure => simp [intOf]; omega
    · have hkn : k = r.n3 := by omega
      subst hkn
      rw [← HL.out, List.take_length] at hno
      have HNO := Lib.hid hno
      clear hno
      go_wp2
      refine bodyPost_ret (results_ref rfl _ _ (w.heap.size + 1) (r.cells (s + 1)) rfl rfl ?_) rfl ⟨?_, ?_⟩
      · exact four_set PP2.out (.slice r.A1 r.n1 r.c1) (.slice r.A2 r.n2 r.c2) (.int .i64 ((s : Int) + 1)) (.slice r.A3 r.n3 r.c3)
      · rw [decide_eq_false HNO.out]
        rfl
      · exact (((BL.out.setCell (by simp) _).setCell (by simp) _).setCell (by simp) _).setCell (by simp) _
end Go.Proofs.Ytgjamgojjajcnaa

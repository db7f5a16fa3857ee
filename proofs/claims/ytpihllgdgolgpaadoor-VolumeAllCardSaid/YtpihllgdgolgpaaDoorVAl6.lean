/- volume: the law VolumeAll: its walk for a plan that is right. -/
import Derived.Test.YtpihllgdgolgpaaDoorVAl5
import Derived.Test.YtpihllgdgolgpaaDoorVW
import Derived.OwnWalkIn
namespace Go.Proofs.YtpihllgdgolgpaaDoor
open Go.RowKit Go.Shelf
attribute [local go_sem] Oper.semAt_some run_nilF
set_option maxRecDepth 8000 in
theorem row_blk {V : World} {base n b : Nat} {v : Value} {xs : List Value} {t : TypeId} {cs : Array Value} (hv : V.ownsRow base 30 3 v n xs) (e : v.ownBlock = some b) (hb : Blk V b t cs) (ht : 30 ≠ t) : False := by
  obtain ⟨_, ⟨rfl, _⟩ | ⟨g', cap, cur, rfl, _, hc, _⟩⟩ := hv
  · cases e
  · cases e
    unfold Blk at hb
    rw [hb] at hc
    cases hc
    exact ht rfl
theorem own_dfr {β : Type} {B D : Nat} (hD : D < B) : OwnFrom B (fun (_ : β) V => V.heap[D]? = some (.deferred (some []))) := fun _ X Y row hs hg hr =>
  (hg.block D (Array.getElem?_eq_some_iff.1 hs).1 (fun e => by have := (hr D e.symm).1; omega)).trans hs
set_option maxRecDepth 8000 in
theorem LA.far {nn : Nat} {w V : World} {n : Int} {S B : Nat} {xs : List (Ia nn)} (h : LA w n S xs V) (hB : w.heap.size + 4 ≤ B) (u : Value) (hr : ∀ v, V.ownsRow (w.heap.size + 4) 30 3 v xs.length (scs (xs.map fun y => plc nn y.i)) → v.ownBlock ≠ some B) : LA w n S xs (V.setCell ⟨B, 0, none⟩ u) := by
  obtain ⟨v, h1, h2⟩ := h.l
  refine ⟨h.p.far (by simp only; omega) _, h.q.far (by simp only; omega) _, ⟨v, h1.far (by simp only; omega) _, ?_⟩, h.f.far (by simp only; omega) _, h.below.setCell (p := ⟨B, 0, none⟩) (by simp only; omega) _, by simpa [World.setCell] using h.size⟩
  have hv := hr v h2
  obtain ⟨hl', h' | ⟨g', cap, cur, rfl, hb, hc, h'⟩⟩ := h2
  · exact ⟨hl', .inl h'⟩
  · exact ⟨hl', .inr ⟨g', cap, cur, rfl, hb, (Below.heap_setCell V _ _ g' (fun e => hv (by simp only at e; rw [e]; rfl))).trans hc, h'⟩⟩
theorem KA.keepsFrom {B : Nat} {A C : World} (h : ∀ l, KA l A C) (hB : 0 < B) : KeepsFrom B A C := (h 0).from hB
set_option maxRecDepth 100000 in
set_option maxHeartbeats 8000000 in
theorem vall_yes (nn : Nat) (w : World) (hT : Tab w) (hn : 1 ≤ nn ∧ nn ≤ 64) :
    Calls Tryd.prog 3 #[plan nn] w fun e w' => e = .returned (.bool true) ∧ Below w.heap.size w w' := by
  have hFw : ∀ f, Fence.wide.fn f := fun _ => trivial
  have HT := Lib.hid hT
  have HN := Lib.hid hn
  clear hT hn
  refine (callsIn_wide (n := 8)).1 (callsIn_of_wp_marks Tryd.func3 rfl trivial ?_ rfl)
  simp only [Tryd.ntmps3, List.size_toArray, List.length_cons, List.length_nil, Nat.reduceAdd, Nat.reduceSub, Array.replicate_succ, Array.replicate_zero, List.push_toArray, List.append_toArray, List.nil_append, List.cons_append]
  gi_wp2_with (gi_at_call 4; refine ((callsIn_wide (n := 7)).2 (vall_any _ _)).mono ?_; rintro e w1 ⟨rfl, rfl⟩)
  have H2 := Lib.hid (show LA (nn := nn) w nn (w.heap.size + 4) [] ((((w.alloc (.cells #[.int .i64 (nn : Int)] 23)).alloc (.cells #[.int .i64 (nn : Int)] 23)).alloc (.cells #[.slice none 0 0] 27)).alloc (.cells #[.bool true] 4)) from
    ⟨(((Blk.new w 23 #[.int .i64 (nn : Int)]).alloc _).alloc _).alloc _, by have := ((Blk.new (w.alloc (.cells #[.int .i64 (nn : Int)] 23)) 23 #[.int .i64 (nn : Int)]).alloc (.cells #[.slice none 0 0] 27)).alloc (.cells #[.bool true] 4); simpa using this,
     ⟨.slice none 0 0, by have := (Blk.new ((w.alloc (.cells #[.int .i64 (nn : Int)] 23)).alloc (.cells #[.int .i64 (nn : Int)] 23)) 27 #[.slice none 0 0]).alloc (.cells #[.bool true] 4); simpa using this, World.ownsRow_nil _ _ _ _⟩,
     by have := Blk.new (((w.alloc (.cells #[.int .i64 (nn : Int)] 23)).alloc (.cells #[.int .i64 (nn : Int)] 23)).alloc (.cells #[.slice none 0 0] 27)) 4 #[.bool true]; simpa [okx] using this,
     ((((Below.refl _ w).alloc (Nat.le_refl _) _).alloc (by simp) _).alloc (by simp; omega) _).alloc (by simp; omega) _, by simp⟩)
  have S2 := Lib.hid (show ((((w.alloc (.cells #[.int .i64 (nn : Int)] 23)).alloc (.cells #[.int .i64 (nn : Int)] 23)).alloc (.cells #[.slice none 0 0] 27)).alloc (.cells #[.bool true] 4)).heap.size = w.heap.size + 4 by simp)
  generalize ((((w.alloc (.cells #[.int .i64 (nn : Int)] 23)).alloc (.cells #[.int .i64 (nn : Int)] 23)).alloc (.cells #[.slice none 0 0] 27)).alloc (.cells #[.bool true] 4)) = W2 at H2 S2 ⊢
  refine rangeO (α := Ia nn) (Kp := KA) (w0 := W2) (a := { tmps := #[plan nn, pv w.heap.size, .bool false, .func (.func 8) #[] #[pv (w.heap.size + 1)], pv (w.heap.size + 1 + 1), pv (w.heap.size + 1 + 1 + 1), undef, undef, undef, undef, undef, .agg #[.int .i64 (nn : Int)], .func (.func 8) #[] #[pv (w.heap.size + 1)], .func (.func 8) #[] #[pv (w.heap.size + 1)], .bool false, .func (.func 8) #[] #[pv (w.heap.size + 1)], undef, undef, undef, undef, undef, undef, undef, undef, undef, undef, undef, undef, undef, undef, undef, undef, undef, undef, undef, undef, undef, undef, undef, undef, undef, undef, undef, undef, undef, undef, undef, undef, undef, undef, undef, undef, undef, undef, undef, undef, undef, undef, undef, undef, undef, undef, undef, undef, undef, undef, undef, undef, undef, undef, undef, undef, undef, undef, undef, undef, undef, undef, undef, undef, undef], defers := [] }) rfl (by omega) (gf := 8) (lb := #[pv (w.heap.size + 1)]) rfl trivial (enters_of Tryd.func8 (by kernel_rfl) rfl)
    (vall1_in nn 7 (by omega) HN.out (w.heap.size + 1) W2 H2.out.q) (fun h k => h.trans k) (fun V r r' hr => KA.put hr) (Below.refl _ _) (fun _ => rfl)
    (fun xs V => LA w nn W2.heap.size xs V) (fun _ _ _ => False) (LA.own (by have := S2.out; omega)) (fun _ _ _ _ _ h _ _ => h.elim)
    ⟨H2.out.p, H2.out.q, H2.out.l, H2.out.f, H2.out.below, Nat.le_refl _⟩
    (fun x a' V => ∃ bx, a' = { tmps := #[plan nn, pv w.heap.size, .bool false, .func (.func 8) #[] #[pv (w.heap.size + 1)], pv (w.heap.size + 1 + 1), pv (w.heap.size + 1 + 1 + 1), .int .i64 (x.i : Int), pv bx, undef, undef, undef, .agg #[.int .i64 (nn : Int)], .func (.func 8) #[] #[pv (w.heap.size + 1)], .func (.func 8) #[] #[pv (w.heap.size + 1)], .bool false, .func (.func 8) #[] #[pv (w.heap.size + 1)], .int .i64 (x.i : Int), (plc nn x.i).val, undef, undef, undef, undef, undef, undef, undef, undef, undef, undef, undef, undef, undef, undef, undef, undef, undef, undef, undef, undef, undef, undef, undef, undef, undef, undef, undef, undef, undef, undef, undef, undef, undef, undef, undef, undef, undef, undef, undef, undef, undef, undef, undef, undef, undef, undef, undef, undef, undef, undef, undef, undef, undef, undef, undef, undef, undef, undef, undef, undef, undef, undef, undef], defers := [] } ∧ Blk V bx 30 (plc nn x.i).cs.toArray ∧ W2.heap.size ≤ bx) ?hAx ?assign ?body ?done ?stop
  case hAx =>
    rintro x a' _ X Y row ⟨bx, e, hb, hB⟩ hg hr
    exact ⟨bx, e, own_blk W2.heap.size _ _ (fun _ : Unit => _) () X Y row hb hg hr, hB⟩
  case stop => exact fun _ _ _ _ _ _ h _ => h.elim
  case assign =>
    intro l' pre' x V K hi hK
    have hk := hK { tmps := #[plan nn, pv w.heap.size, .bool false, .func (.func 8) #[] #[pv (w.heap.size + 1)], pv (w.heap.size + 1 + 1), pv (w.heap.size + 1 + 1 + 1), .int .i64 (x.i : Int), pv V.heap.size, undef, undef, undef, .agg #[.int .i64 (nn : Int)], .func (.func 8) #[] #[pv (w.heap.size + 1)], .func (.func 8) #[] #[pv (w.heap.size + 1)], .bool false, .func (.func 8) #[] #[pv (w.heap.size + 1)], .int .i64 (x.i : Int), (plc nn x.i).val, undef, undef, undef, undef, undef, undef, undef, undef, undef, undef, undef, undef, undef, undef, undef, undef, undef, undef, undef, undef, undef, undef, undef, undef, undef, undef, undef, undef, undef, undef, undef, undef, undef, undef, undef, undef, undef, undef, undef, undef, undef, undef, undef, undef, undef, undef, undef, undef, undef, undef, undef, undef, undef, undef, undef, undef, undef, undef, undef, undef, undef, undef, undef], defers := [] } (V.alloc (.cells (plc nn x.i).cs.toArray 30)) (KeepsFrom.of_grownBy (World.grownBy_alloc V _ none) (by simp)) (KA.alloc _ _) ((LA.own (by have := S2.out; omega)).alloc _ hi) ⟨_, rfl, Blk.new _ _ _, hi.size⟩
    have HKK := Lib.hid hk
    clear hK hk hi
    gi_wp2
    exact HKK.out
  case body =>
    rintro l' pre' x a' V hi ⟨bx, rfl, hbx, hbB⟩ hlen
    obtain ⟨v, hv, hown⟩ := hi.l
    obtain ⟨A, cp, rfl⟩ : ∃ A cp, v = .slice A pre'.length cp := by
      obtain ⟨_, ⟨rfl, h0⟩ | ⟨g', cap, cur, rfl, _⟩⟩ := hown
      · exact ⟨none, 0, by rw [h0]⟩
      · exact ⟨_, _, rfl⟩
    obtain ⟨o1, ho1⟩ : ∃ o1, okx (pre' ++ [x]) = o1 := ⟨_, rfl⟩
    obtain ⟨q, hq⟩ : ∃ q, plc nn x.i = q := ⟨_, rfl⟩
    have r1 : (V.setCell ⟨w.heap.size + 1 + 1 + 1, 0, none⟩ (.bool o1)).ownsRow (w.heap.size + 4) 30 3 (.slice A pre'.length cp) pre'.length (scs (pre'.map fun y => plc nn y.i)) := by
      obtain ⟨hl', h' | ⟨g', cap, cur, he, hb, hc, h'⟩⟩ := hown
      · exact ⟨hl', .inl h'⟩
      · exact ⟨hl', .inr ⟨g', cap, cur, he, hb, (Below.heap_setCell V _ _ g' (by simp only; omega)).trans hc, h'⟩⟩
    have st := fun (g c : Nat) (w3 : World) => LA.step (x := x) (g := g) (c := c) (w3 := w3) hi (Nat.le_of_eq S2.out.symm) hv hown
    simp only [ho1, hq] at st
    have lw : ∀ (v : Value) (u : Option Nat) (w3 : World), True := fun _ _ _ => trivial
    have b1 : Below (w.heap.size + 3) V (V.setCell ⟨w.heap.size + 1 + 1 + 1, 0, none⟩ (.bool o1)) := (Below.refl _ _).setCell (p := ⟨w.heap.size + 1 + 1 + 1, 0, none⟩) (by simp only; omega) _
    have LW := Lib.hid (fun (g : Nat) (w3 : World) (hg : ((V.setCell ⟨w.heap.size + 1 + 1 + 1, 0, none⟩ (.bool o1)).alloc (.cells q.cs.toArray 30)).grownBy w3 (Value.slice A pre'.length cp).ownBlock) =>
      show Blk w3 (w.heap.size + 1 + 1) 27 #[.slice A pre'.length cp] from blk_grown ((hv.below b1 (by omega)).alloc _) (own_belowN r1 ((Below.refl _ _).alloc (Nat.le_refl _) _)) (by omega) hg)
    rw [hq] at hbx
    rw [hq]
    have HI := Lib.hid hi
    have ST := Lib.hid st
    have R1 := Lib.hid r1
    have HLN := Lib.hid hlen
    have n1 : bx ≠ w.heap.size + 1 + 1 + 1 := by have := S2.out; omega
    have n2 : bx ≠ w.heap.size + 1 + 1 := by have := S2.out; omega
    obtain ⟨k, a, t⟩ := q
    obtain ⟨c3, c4, c5⟩ := hbx.three
    have c1 : V.cell? ⟨w.heap.size + 1 + 1 + 1, 0, none⟩ = some (.bool (okx pre')) := hi.f.one
    have f1 : V.frozen? ⟨w.heap.size + 1 + 1 + 1, 0, none⟩ = false := hi.f.frozen 0
    have c2 : V.cell? ⟨w.heap.size + 1 + 1, 0, none⟩ = some (.slice A pre'.length cp) := hv.one
    have hok := okx_snoc pre' x
    rw [ho1] at hok
    have d3 : ¬ (300 : Int) < (pre'.length : Int) + 1 := by have := HN.out; omega
    clear hi hv hown hbx hbB hlen st r1 b1 lw hq ho1
    cases hb : okx pre' with
    | false =>
      rw [hb] at c1 hok
      simp only [Bool.false_and] at hok
      subst hok
      gi_wp2_with (first
        | (gi_at_builtin; go_loud (refine wpListIn_append_sp (W := V.setCell ⟨w.heap.size + 1 + 1 + 1, 0, none⟩ (.bool _)) rfl (.tmp 25) (.tmp 27) rfl (base := w.heap.size + 4) rfl R1.out ⟨k, a, t⟩ (by rw [show (V.setCell ⟨w.heap.size + 1 + 1 + 1, 0, none⟩ (.bool _)).heap.size = V.heap.size by simp [World.setCell]]; rfl) (by have := HLN.out; have := HN.out; omega) (by have := HI.out.size; have := S2.out; simp [World.setCell]; omega) ?_); intro g c w3 ho3 hg3; have O3 := Lib.hid ho3; have G3 := Lib.hid hg3; have lw3 := LW.out g w3 hg3; have c2 := lw3.one; have f2 := lw3.frozen 0; clear ho3 hg3 lw3 c3 c4 c5))
      obtain ⟨s1, s2⟩ := ST.out _ _ _ O3.out G3.out
      exact ⟨KA.keepsFrom s2 (by have := S2.out; omega), s2 _, s1⟩
    | true =>
      rw [hb] at c1 hok
      simp only [Bool.true_and] at hok
      by_cases he : x.i = pre'.length
      · have d1 : ((x.i : Int) == (pre'.length : Int)) = true := beq_iff_eq.2 (by omega)
        rw [decide_eq_true he] at hok
        subst hok
        gi_wp2_with (first
          | (gi_at_builtin; go_loud (refine wpListIn_append_sp (W := V.setCell ⟨w.heap.size + 1 + 1 + 1, 0, none⟩ (.bool _)) rfl (.tmp 25) (.tmp 27) rfl (base := w.heap.size + 4) rfl R1.out ⟨k, a, t⟩ (by rw [show (V.setCell ⟨w.heap.size + 1 + 1 + 1, 0, none⟩ (.bool _)).heap.size = V.heap.size by simp [World.setCell]]; rfl) (by have := HLN.out; have := HN.out; omega) (by have := HI.out.size; have := S2.out; simp [World.setCell]; omega) ?_); intro g c w3 ho3 hg3; have O3 := Lib.hid ho3; have G3 := Lib.hid hg3; have lw3 := LW.out g w3 hg3; have c2 := lw3.one; have f2 := lw3.frozen 0; clear ho3 hg3 lw3 c3 c4 c5))
        obtain ⟨s1, s2⟩ := ST.out _ _ _ O3.out G3.out
        exact ⟨KA.keepsFrom s2 (by have := S2.out; omega), s2 _, s1⟩
      · have d1 : ((x.i : Int) == (pre'.length : Int)) = false := beq_eq_false_iff_ne.2 (by omega)
        rw [decide_eq_false he] at hok
        subst hok
        gi_wp2_with (first
          | (gi_at_builtin; go_loud (refine wpListIn_append_sp (W := V.setCell ⟨w.heap.size + 1 + 1 + 1, 0, none⟩ (.bool _)) rfl (.tmp 25) (.tmp 27) rfl (base := w.heap.size + 4) rfl R1.out ⟨k, a, t⟩ (by rw [show (V.setCell ⟨w.heap.size + 1 + 1 + 1, 0, none⟩ (.bool _)).heap.size = V.heap.size by simp [World.setCell]]; rfl) (by have := HLN.out; have := HN.out; omega) (by have := HI.out.size; have := S2.out; simp [World.setCell]; omega) ?_); intro g c w3 ho3 hg3; have O3 := Lib.hid ho3; have G3 := Lib.hid hg3; have lw3 := LW.out g w3 hg3; have c2 := lw3.one; have f2 := lw3.frozen 0; clear ho3 hg3 lw3 c3 c4 c5))
        obtain ⟨s1, s2⟩ := ST.out _ _ _ O3.out G3.out
        exact ⟨KA.keepsFrom s2 (by have := S2.out; omega), s2 _, s1⟩
  case done =>
    intro D xs W hD hS hI hK
    have HDW := Lib.hid (show D < W.heap.size from (Array.getElem?_eq_some_iff.1 hK).1)
    have HD := Lib.hid hD
    have HX := Lib.hid hS
    have HIS := Lib.hid hI.size
    have I1 := Lib.hid ((LA.own (n := (nn : Int)) (S := W2.heap.size) (by have := S2.out; omega)).alloc (.cells #[.int .i64 0] 3) hI)
    have HK := Lib.hid (show (W.alloc (.cells #[.int .i64 0] 3)).heap[D]? = some (.deferred (some [])) from (Below.heap_alloc W _ D (Array.getElem?_eq_some_iff.1 hK).1).trans hK)
    have I9 := Lib.hid (Blk.new W 3 #[.int .i64 0])
    have SZ6 := Lib.hid (show (W.alloc (.cells #[.int .i64 0] 3)).heap.size = W.heap.size + 1 by simp)
    clear hD hS hI hK
    gi_wp2
    generalize W.alloc (.cells #[.int .i64 0] 3) = W6 at I1 HK I9 SZ6 ⊢
    refine rangeO (α := Ia nn) (Kp := KA) (w0 := W6) (a := { tmps := #[plan nn, pv w.heap.size, .bool false, .func (.func 8) #[] #[pv (w.heap.size + 1)], pv (w.heap.size + 1 + 1), pv (w.heap.size + 1 + 1 + 1), undef, undef, pv W.heap.size, undef, undef, .agg #[.int .i64 (nn : Int)], .func (.func 8) #[] #[pv (w.heap.size + 1)], .func (.func 8) #[] #[pv (w.heap.size + 1)], .bool false, .func (.func 8) #[] #[pv (w.heap.size + 1)], undef, undef, undef, undef, undef, undef, undef, undef, undef, undef, undef, undef, undef, undef, undef, undef, .func (.func 8) #[] #[pv (w.heap.size + 1)], undef, undef, undef, undef, undef, undef, undef, undef, undef, undef, undef, undef, undef, undef, undef, undef, undef, undef, undef, undef, undef, undef, undef, undef, undef, undef, undef, undef, undef, undef, undef, undef, undef, undef, undef, undef, undef, undef, undef, undef, undef, undef, undef, undef, undef, undef, undef, undef], defers := [{ target := .collected D, args := #[] }] }) rfl (by omega) (gf := 8) (lb := #[pv (w.heap.size + 1)]) rfl trivial (enters_of Tryd.func8 (by kernel_rfl) rfl)
      (vall1_in nn 7 (by omega) HN.out (w.heap.size + 1) W6 I1.out.q) (fun h k => h.trans k) (fun V r r' hr => KA.put hr) (Below.refl _ _) (fun _ => rfl)
      (fun (ys : List (Ia nn)) V => ys = [] ∧ LA w nn W2.heap.size xs V ∧ Blk V W.heap.size 3 #[.int .i64 0] ∧ V.heap[D]? = some (.deferred (some [])) ∧ W6.heap.size ≤ V.heap.size)
      (fun c (_ : List (Ia nn)) V => c = .exit 2 ∧ LA w nn W2.heap.size xs V ∧ Blk V W.heap.size 3 #[.int .i64 1] ∧ V.heap[D]? = some (.deferred (some [])) ∧ W6.heap.size ≤ V.heap.size)
      (fun s X Y row hs hg hr => ⟨hs.1, LA.own (by have := S2.out; omega) xs X Y row hs.2.1 hg (fun q e => ⟨by have := (hr q e).1; have := SZ6.out; have := HIS.out; omega, (hr q e).2⟩), own_blk _ _ _ (fun _ : Unit => _) () X Y row hs.2.2.1 hg hr, own_dfr (by have := SZ6.out; have := HDW.out; omega) () X Y row hs.2.2.2.1 hg hr, Nat.le_trans hs.2.2.2.2 hg.size⟩)
      (fun c s X Y row hs hg hr => ⟨hs.1, LA.own (by have := S2.out; omega) xs X Y row hs.2.1 hg (fun q e => ⟨by have := (hr q e).1; have := SZ6.out; have := HIS.out; omega, (hr q e).2⟩), own_blk _ _ _ (fun _ : Unit => _) () X Y row hs.2.2.1 hg hr, own_dfr (by have := SZ6.out; have := HDW.out; omega) () X Y row hs.2.2.2.1 hg hr, Nat.le_trans hs.2.2.2.2 hg.size⟩)
      ⟨rfl, I1.out, I9.out, HK.out, Nat.le_refl _⟩
      (fun x a' V => a' = { tmps := #[plan nn, pv w.heap.size, .bool false, .func (.func 8) #[] #[pv (w.heap.size + 1)], pv (w.heap.size + 1 + 1), pv (w.heap.size + 1 + 1 + 1), undef, undef, pv W.heap.size, undef, undef, .agg #[.int .i64 (nn : Int)], .func (.func 8) #[] #[pv (w.heap.size + 1)], .func (.func 8) #[] #[pv (w.heap.size + 1)], .bool false, .func (.func 8) #[] #[pv (w.heap.size + 1)], undef, undef, undef, undef, undef, undef, undef, undef, undef, undef, undef, undef, undef, undef, undef, undef, .func (.func 8) #[] #[pv (w.heap.size + 1)], .int .i64 (x.i : Int), (plc nn x.i).val, undef, undef, undef, undef, undef, undef, undef, undef, undef, undef, undef, undef, undef, undef, undef, undef, undef, undef, undef, undef, undef, undef, undef, undef, undef, undef, undef, undef, undef, undef, undef, undef, undef, undef, undef, undef, undef, undef, undef, undef, undef, undef, undef, undef, undef, undef], defers := [] })
      (fun _ _ _ _ _ _ hs _ _ => hs) ?assign2 ?body2 ?done2 ?stop2
    case assign2 =>
      intro l' pre' x V K hi hK2
      have hk := hK2 { tmps := #[plan nn, pv w.heap.size, .bool false, .func (.func 8) #[] #[pv (w.heap.size + 1)], pv (w.heap.size + 1 + 1), pv (w.heap.size + 1 + 1 + 1), undef, undef, pv W.heap.size, undef, undef, .agg #[.int .i64 (nn : Int)], .func (.func 8) #[] #[pv (w.heap.size + 1)], .func (.func 8) #[] #[pv (w.heap.size + 1)], .bool false, .func (.func 8) #[] #[pv (w.heap.size + 1)], undef, undef, undef, undef, undef, undef, undef, undef, undef, undef, undef, undef, undef, undef, undef, undef, .func (.func 8) #[] #[pv (w.heap.size + 1)], .int .i64 (x.i : Int), (plc nn x.i).val, undef, undef, undef, undef, undef, undef, undef, undef, undef, undef, undef, undef, undef, undef, undef, undef, undef, undef, undef, undef, undef, undef, undef, undef, undef, undef, undef, undef, undef, undef, undef, undef, undef, undef, undef, undef, undef, undef, undef, undef, undef, undef, undef, undef, undef, undef], defers := [] } V (KeepsFrom.refl _ _) ⟨fun _ _ _ _ h => h, fun _ _ _ h _ => h, Nat.le_refl _⟩ hi rfl
      have HKK := Lib.hid hk
      clear hK2 hk hi
      gi_wp2
      exact HKK.out
    case body2 =>
      rintro l' pre' x a' V ⟨rfl, i2, i3, i4, i5⟩ rfl hlen
      have c8 := i3.one
      have f8 := i3.frozen 0
      have r1 := i3.set_ 0 (.int .i64 1)
      have R := Lib.hid (show leftO W6.heap.size (KA (W6.heap.size + 1)) (fun (ys : List (Ia nn)) V => ys = [] ∧ LA w nn W2.heap.size xs V ∧ Blk V W.heap.size 3 #[.int .i64 0] ∧ V.heap[D]? = some (.deferred (some [])) ∧ W6.heap.size ≤ V.heap.size)
        (fun c (_ : List (Ia nn)) V => c = .exit 2 ∧ LA w nn W2.heap.size xs V ∧ Blk V W.heap.size 3 #[.int .i64 1] ∧ V.heap[D]? = some (.deferred (some [])) ∧ W6.heap.size ≤ V.heap.size) ([] ++ [x]) V (.exit 2) { tmps := #[], defers := [] } (V.setCell ⟨W.heap.size, 0, none⟩ (.int .i64 1)) from
        ⟨KA.keepsFrom (fun l => KA.store i3 (by decide) _) (by have := SZ6.out; omega), KA.store i3 (by decide) _, rfl, i2.far (by have := HIS.out; have := S2.out; omega) _ (fun v hv e => row_blk hv e i3 (by decide)), r1, (Below.heap_setCell V _ _ D (by have := HDW.out; simp only; omega)).trans i4, by simpa [World.setCell] using i5⟩)
      clear i2 i3 i4 i5 r1
      gi_wp2
      exact R.out
    case done2 =>
      rintro D2 ys V hD2 hS2 ⟨rfl, _⟩ _
      have h0 := hS2.1
      simp at h0
      omega
    case stop2 =>
      rintro D2 c ys V hD2 _ ⟨rfl, i2, i3, i4, i5⟩ hK2
      obtain ⟨v, hv, hown⟩ := i2.l
      have hel := HX.out.preS
      rw [hel, HX.out.1] at hown
      obtain ⟨g1, cp, rfl, hg1, hr1⟩ := RdS.of_own hown (by omega)
      have HI := Lib.hid i2
      have HV := Lib.hid hv
      have H3 := Lib.hid i3
      have HR := Lib.hid hr1
      have HK4 := Lib.hid i4
      have HK2 := Lib.hid hK2
      have HD2 := Lib.hid hD2
      have HDD := Lib.hid (show D < V.heap.size ∧ D2 < V.heap.size from ⟨(Array.getElem?_eq_some_iff.1 i4).1, (Array.getElem?_eq_some_iff.1 hK2).1⟩)
      have c1 := i2.p.one
      have HRT := Lib.hid (show decide (1 ≤ (nn : Int) ∧ (nn : Int) ≤ 64) = true from decide_eq_true (by have := HN.out; omega))
      clear i2 hv hown i3 hr1 i4 i5 hK2 hD2 hel hg1
      gi_wp2_with (first
        | (gi_at_call 5; refine ((callsIn_wide (n := 7)).2 (right_any nn _)).mono ?_; rw [HRT.out]; rintro r w1 ⟨rfl, hb⟩; have HB1 := Lib.hid hb; have c1 := (HI.out.p.keep hb).one; clear hb)
        | (gi_at_call 7; refine ((callsIn_wide (n := 7)).2 (refall_yes nn _ HN.out)).mono ?_; rintro r w2 ⟨⟨g, c, rfl, hrd⟩, hb⟩; have HB2 := Lib.hid (HB1.out.trans (hb.mono HB1.out.size)); have HG := Lib.hid hrd; have c2 := (HV.out.keep HB2.out).one; have c3 := (H3.out.keep HB2.out).one; have c4 := (HI.out.f.keep HB2.out).one; rw [HX.out.okx] at c4; clear hb hrd c1))
      obtain ⟨N, hN⟩ : ∃ N, 20 + 3 * nn = N := ⟨_, rfl⟩
      rw [hN] at HG HR HV HX c2 ⊢
      have HNN := Lib.hid hN
      have hN3 : N ≤ 300 := by have := HN.out; omega
      have HR2 := Lib.hid (HR.out.keep HB2.out)
      have HC2 := Lib.hid c2
      clear HR HB1
      gi_loopg [10] (N + 1) (fun k i wr => ∃ j : Nat, j ≤ N ∧ k = N + 1 - j ∧ i = .int .i64 j ∧ Below V.heap.size V wr ∧ RdS wr g (preS nn N) ∧ RdS wr g1 (preS nn N) ∧ wr.cell? ⟨w.heap.size + 1 + 1, 0, none⟩ = some (.slice (some ⟨g1, 0, none⟩) N cp))
      case atStart => exact ⟨0, Nat.zero_le _, rfl, rfl, HB2.out, HG.out, HR2.out, HC2.out⟩
      case round =>
        clear HB2 HG HR2 HC2 HV c2 c3 c4
        obtain ⟨j, hj, rfl, rfl, hb, hg, hr, c2⟩ := hrel
        have HB := Lib.hid hb
        have HG := Lib.hid hg
        have HR := Lib.hid hr
        have HC := Lib.hid c2
        clear hb hg hr
        by_cases hlt : j < N
        · have i2 : (j : Int) < (N : Int) := by omega
          have i1 : (0 : Int) ≤ (j : Int) := by omega
          have hyy := preS_get nn N j hlt
          obtain ⟨y, hy⟩ : ∃ y, plc nn j = y := ⟨_, rfl⟩
          rw [hy] at hyy
          obtain ⟨pk, pa, pt⟩ := y
          clear hy
          gi_wp2
          refine wpIn_region_out (S := fun w' => (w'.cell? ⟨g, j * 3, none⟩ = some (.int .i64 pk) ∧ w'.cell? ⟨g, j * 3 + 1, none⟩ = some (.int .i64 pa) ∧ w'.cell? ⟨g, j * 3 + 2, none⟩ = some (.int .i64 pt)) ∧ (w'.cell? ⟨g1, j * 3, none⟩ = some (.int .i64 pk) ∧ w'.cell? ⟨g1, j * 3 + 1, none⟩ = some (.int .i64 pa) ∧ w'.cell? ⟨g1, j * 3 + 2, none⟩ = some (.int .i64 pt)) ∧ w'.cell? ⟨w.heap.size + 1 + 1, 0, none⟩ = some (.slice (some ⟨g1, 0, none⟩) N cp)) (by kernel_rfl) ⟨HG.out.drew.at_ hyy, HR.out.drew.at_ hyy, HC.out⟩ (fun hHeld => ?_)
          refine wpAnyH_take (i := 0) (v := ?v1) rfl (by kernel_rfl) (by kernel_rfl) (by kernel_rfl) (fun _ _ _ h => h) (Or.inl ⟨by rfl, ?hy1⟩) hHeld ?rest1
          case hy1 =>
            intro w' hSw
            try dsimp only at hSw
            go_simp
            first | done | with_reducible rfl
          try simp only [Act.put, List.getElem_toArray, List.getElem_cons_zero, List.setIfInBounds_toArray, List.set_cons_zero, List.set_cons_succ]
          refine wpAnyH_take (i := 1) (v := ?v2) rfl (by kernel_rfl) (by kernel_rfl) (by kernel_rfl) (fun _ _ _ h => h) (Or.inl ⟨by rfl, ?hy2⟩) hHeld ?rest2
          case hy2 =>
            intro w' hSw
            try dsimp only at hSw
            go_simp
            first | done | with_reducible rfl
          try simp only [Act.put, List.getElem_toArray, List.getElem_cons_succ, List.getElem_cons_zero, List.setIfInBounds_toArray, List.set_cons_zero, List.set_cons_succ]
          refine wpAnyH_take (i := 2) (v := ?v3) rfl (by kernel_rfl) (by kernel_rfl) (by kernel_rfl) (fun _ _ _ h => h) (Or.inl ⟨by rfl, ?hy3⟩) hHeld ?rest3
          case hy3 =>
            intro w' hSw
            try dsimp only at hSw
            go_simp
            first | done | with_reducible rfl
          try simp only [Act.put, List.getElem_toArray, List.getElem_cons_succ, List.getElem_cons_zero, List.setIfInBounds_toArray, List.set_cons_zero, List.set_cons_succ]
          refine wpAnyH_take (i := 3) (v := ?v4) rfl (by kernel_rfl) (by kernel_rfl) (by kernel_rfl) (fun _ _ _ h => h) (Or.inl ⟨by rfl, ?hy4⟩) hHeld ?rest4
          case hy4 =>
            intro w' hSw
            try dsimp only at hSw
            go_simp
            first | done | with_reducible rfl
          try simp only [Act.put, List.getElem_toArray, List.getElem_cons_succ, List.getElem_cons_zero, List.setIfInBounds_toArray, List.set_cons_zero, List.set_cons_succ]
          refine wpAnyH_take (i := 4) (v := ?v5) rfl (by kernel_rfl) (by kernel_rfl) (by kernel_rfl) (fun _ _ _ h => h) (Or.inl ⟨by rfl, ?hy5⟩) hHeld ?rest5
          case hy5 =>
            intro w' hSw
            try dsimp only at hSw
            go_simp
            first | done | with_reducible rfl
          try simp only [Act.put, List.getElem_toArray, List.getElem_cons_succ, List.getElem_cons_zero, List.setIfInBounds_toArray, List.set_cons_zero, List.set_cons_succ]
          refine wpAnyH_take (i := 5) (v := ?v6) rfl (by kernel_rfl) (by kernel_rfl) (by kernel_rfl) (fun _ _ _ h => h) (Or.inl ⟨by rfl, ?hy6⟩) hHeld ?rest6
          case hy6 =>
            intro w' hSw
            try dsimp only at hSw
            go_simp
            first | done | with_reducible rfl
          try simp only [Act.put, List.getElem_toArray, List.getElem_cons_succ, List.getElem_cons_zero, List.setIfInBounds_toArray, List.set_cons_zero, List.set_cons_succ]
          refine wpAnyH_take (i := 6) (v := ?v7) rfl (by kernel_rfl) (by kernel_rfl) (by kernel_rfl) (fun _ _ _ h => h) (Or.inl ⟨by rfl, ?hy7⟩) hHeld ?rest7
          case hy7 =>
            intro w' hSw
            try dsimp only at hSw
            go_simp
            first | done | with_reducible rfl
          try simp only [Act.put, List.getElem_toArray, List.getElem_cons_succ, List.getElem_cons_zero, List.setIfInBounds_toArray, List.set_cons_zero, List.set_cons_succ]
          refine wpAnyH_take (i := 7) (v := ?v8) rfl (by kernel_rfl) (by kernel_rfl) (by kernel_rfl) (fun _ _ _ h => h) (Or.inl ⟨by rfl, ?hy8⟩) hHeld ?rest8
          case hy8 =>
            intro w' hSw
            try dsimp only at hSw
            go_simp
            first | done | with_reducible rfl
          try simp only [Act.put, List.getElem_toArray, List.getElem_cons_succ, List.getElem_cons_zero, List.setIfInBounds_toArray, List.set_cons_zero, List.set_cons_succ]
          refine wpAnyH_take (i := 8) rfl (by kernel_rfl) (by kernel_rfl) (by kernel_rfl) (fun _ _ _ h => h) (yields_sne (by rfl) (.tmp 74) (.tmp 78) rfl ⟨pk, pa, pt⟩ ⟨pk, pa, pt⟩ false (by simp) (by rfl) (by rfl)) hHeld ?_
          try simp only [Act.put, List.getElem_toArray, List.getElem_cons_succ, List.getElem_cons_zero, List.setIfInBounds_toArray, List.set_cons_zero, List.set_cons_succ]
          refine wpAnyH_done (by kernel_rfl) ?_ _
          refine OnlyN.normal ?_
          clear hHeld
          gi_wp2
          gi_roundg (N + 1 - (j + 1))
          case rel => exact ⟨j + 1, by omega, rfl, by go_num, Below.drew HB.out, HG.out.drew, HR.out.drew, HC.out⟩
          case measure => omega
        · obtain rfl : N = j := by omega
          have i2 : ¬ (N : Int) < (N : Int) := by omega
          gi_wp2_with (gi_at_call 6; refine ((callsIn_wide (n := 7)).2 (works_any _ (HT.out.below (HI.out.below.trans (HB.out.mono HI.out.below.size))))).mono ?_; rintro e w9 ⟨rfl, b9⟩; have B9 := Lib.hid (HB.out.trans (b9.mono HB.out.size)); clear b9)
          have HK9 := (B9.out.block D HDD.out.1).trans HK4.out
          have HK92 := (B9.out.block D2 HDD.out.2).trans HK2.out
          have hE := (World.putObj_heap_other (o := .deferred none) (show D ≠ D2 by have := HD2.out; have := SZ6.out; have := HDW.out; omega)).trans HK9
          refine ⟨by simp, .inl ⟨_, _, rfl, run_takeDeferred HK92, ⟨by simp, .inl ⟨_, _, rfl, run_takeDeferred hE, ?_⟩⟩⟩⟩
          have q1 := belowK_b (n₀ := w.heap.size) (w := w) (Nat.le_refl _) w9 D2 (.deferred (some [])) (.deferred none) (by have := HD2.out; have := SZ6.out; have := HIS.out; have := S2.out; omega) HK92 rfl rfl
          have q2 := belowK_b (n₀ := w.heap.size) (w := w) (Nat.le_refl _) _ D (.deferred (some [])) (.deferred none) (by have := HD.out; have := S2.out; omega) hE rfl rfl
          exact ⟨_, results_tmp rfl _ _ _, rfl, ((HI.out.below.trans (B9.out.mono HI.out.below.size)).trans q1).trans q2⟩
end Go.Proofs.YtpihllgdgolgpaaDoor

/- volume: the law VolumeAll: its walk for a plan that is not right. -/
import Derived.Test.YtpihllgdgolgpaaDoorVAl6
import Derived.OwnWalkIn
namespace Go.Proofs.YtpihllgdgolgpaaDoor
open Go.RowKit Go.Shelf
attribute [local go_sem] Oper.semAt_some run_nilF
set_option maxRecDepth 100000 in
set_option maxHeartbeats 8000000 in
theorem vall_no (n : Int) (w : World) (hT : Tab w) (hn : ¬ (1 ≤ n ∧ n ≤ 64)) :
    Calls Tryd.prog 3 #[plan n] w fun e w' => e = .returned (.bool true) ∧ Below w.heap.size w w' := by
  have hFw : ∀ f, Fence.wide.fn f := fun _ => trivial
  have HT := Lib.hid hT
  have HN := Lib.hid hn
  have HRT := Lib.hid (show decide (1 ≤ n ∧ n ≤ 64) = false from decide_eq_false hn)
  clear hT hn
  refine (callsIn_wide (n := 8)).1 (callsIn_of_wp_marks Tryd.func3 rfl trivial ?_ rfl)
  simp only [Tryd.ntmps3, List.size_toArray, List.length_cons, List.length_nil, Nat.reduceAdd, Nat.reduceSub, Array.replicate_succ, Array.replicate_zero, List.push_toArray, List.append_toArray, List.nil_append, List.cons_append]
  gi_wp2_with (gi_at_call 4; refine ((callsIn_wide (n := 7)).2 (vall_any _ _)).mono ?_; rintro e w1 ⟨rfl, rfl⟩)
  obtain ⟨PN, hPN⟩ : ∃ PN : World → Prop, PN = fun V => Blk V w.heap.size 23 #[.int .i64 n] ∧ Blk V (w.heap.size + 1) 23 #[.int .i64 n] ∧ Blk V (w.heap.size + 2) 27 #[.slice none 0 0] ∧ Below w.heap.size w V ∧ w.heap.size + 4 ≤ V.heap.size := ⟨_, rfl⟩
  have J2 := Lib.hid (show PN ((((w.alloc (.cells #[.int .i64 n] 23)).alloc (.cells #[.int .i64 n] 23)).alloc (.cells #[.slice none 0 0] 27)).alloc (.cells #[.bool true] 4)) from by
    rw [hPN]
    exact ⟨(((Blk.new w 23 #[.int .i64 n]).alloc _).alloc _).alloc _, by have := ((Blk.new (w.alloc (.cells #[.int .i64 n] 23)) 23 #[.int .i64 n]).alloc (.cells #[.slice none 0 0] 27)).alloc (.cells #[.bool true] 4); simpa using this,
     by have := (Blk.new ((w.alloc (.cells #[.int .i64 n] 23)).alloc (.cells #[.int .i64 n] 23)) 27 #[.slice none 0 0]).alloc (.cells #[.bool true] 4); simpa using this,
     ((((Below.refl _ w).alloc (Nat.le_refl _) _).alloc (by simp) _).alloc (by simp; omega) _).alloc (by simp; omega) _, by simp⟩)
  have S2 := Lib.hid (show ((((w.alloc (.cells #[.int .i64 n] 23)).alloc (.cells #[.int .i64 n] 23)).alloc (.cells #[.slice none 0 0] 27)).alloc (.cells #[.bool true] 4)).heap.size = w.heap.size + 4 by simp)
  have OW := Lib.hid (show ∀ B, w.heap.size + 4 ≤ B → ∀ (X Y : World) (row : Option Nat), PN X → X.grownBy Y row → (∀ q, row = some q → B ≤ q ∧ ∃ o, X.heap[q]? = some o ∧ o.isCells = false) → PN Y from by
    intro B hB X Y row hs hg hr
    rw [hPN] at hs ⊢
    exact ⟨own_blk _ _ _ (fun _ : Unit => _) () X Y row hs.1 hg hr, own_blk _ _ _ (fun _ : Unit => _) () X Y row hs.2.1 hg hr, own_blk _ _ _ (fun _ : Unit => _) () X Y row hs.2.2.1 hg hr, ownFrom_below (Nat.le_refl _) (by omega) () X Y row hs.2.2.2.1 hg hr, Nat.le_trans hs.2.2.2.2 hg.size⟩)
  generalize ((((w.alloc (.cells #[.int .i64 n] 23)).alloc (.cells #[.int .i64 n] 23)).alloc (.cells #[.slice none 0 0] 27)).alloc (.cells #[.bool true] 4)) = W2 at J2 S2 ⊢
  refine rangeO (α := Ia 0) (Kp := KA) (w0 := W2) (a := { tmps := #[plan n, pv w.heap.size, .bool false, .func (.func 8) #[] #[pv (w.heap.size + 1)], pv (w.heap.size + 1 + 1), pv (w.heap.size + 1 + 1 + 1), undef, undef, undef, undef, undef, .agg #[.int .i64 n], .func (.func 8) #[] #[pv (w.heap.size + 1)], .func (.func 8) #[] #[pv (w.heap.size + 1)], .bool false, .func (.func 8) #[] #[pv (w.heap.size + 1)], undef, undef, undef, undef, undef, undef, undef, undef, undef, undef, undef, undef, undef, undef, undef, undef, undef, undef, undef, undef, undef, undef, undef, undef, undef, undef, undef, undef, undef, undef, undef, undef, undef, undef, undef, undef, undef, undef, undef, undef, undef, undef, undef, undef, undef, undef, undef, undef, undef, undef, undef, undef, undef, undef, undef, undef, undef, undef, undef, undef, undef, undef, undef, undef, undef], defers := [] }) rfl (by omega) (gf := 8) (lb := #[pv (w.heap.size + 1)]) rfl trivial (enters_of Tryd.func8 (by kernel_rfl) rfl)
    (vall1_no n 7 (by omega) HN.out (w.heap.size + 1) W2 (by have := J2.out; rw [hPN] at this; exact this.2.1)) (fun h k => h.trans k) (fun V r r' hr => KA.put hr) (Below.refl _ _) (fun _ => rfl)
    (fun (ys : List (Ia 0)) V => PN V) (fun _ _ _ => False) (fun _ X Y row hs hg hr => OW.out _ (by have := S2.out; omega) X Y row hs hg hr) (fun _ _ _ _ _ hs _ _ => hs.elim) J2.out (fun _ _ _ => True) (fun _ _ _ _ _ _ hs _ _ => hs) ?assign ?body ?done ?stop
  case stop => exact fun _ _ _ _ _ h _ _ => h.elim
  case body => exact fun _ _ _ _ _ _ _ hl => absurd hl (Nat.not_lt_zero _)
  case assign =>
    intro l' pre' x V K hi hK
    have HI := Lib.hid hi
    have HKK := Lib.hid hK
    clear hi hK
    gi_wp2
    exact HKK.out _ _ (KeepsFrom.of_grownBy (World.grownBy_alloc V _ none) (by simp)) (KA.alloc _ _) (OW.out (w.heap.size + 4) (Nat.le_refl _) _ _ none HI.out (World.grownBy_alloc V _ none) (fun _ e => nomatch e)) trivial
  case done =>
    rintro D ys W hD rfl hI hK
    have HDW := Lib.hid (show D < W.heap.size from (Array.getElem?_eq_some_iff.1 hK).1)
    have HD := Lib.hid hD
    have HIS := Lib.hid (show w.heap.size + 4 ≤ W.heap.size by rw [hPN] at hI; exact hI.2.2.2.2)
    have I1 := Lib.hid (OW.out (w.heap.size + 4) (Nat.le_refl _) _ _ none hI (World.grownBy_alloc W (.cells #[.int .i64 0] 3) none) (fun _ e => nomatch e))
    have HK := Lib.hid (show (W.alloc (.cells #[.int .i64 0] 3)).heap[D]? = some (.deferred (some [])) from (Below.heap_alloc W _ D (Array.getElem?_eq_some_iff.1 hK).1).trans hK)
    have I9 := Lib.hid (Blk.new W 3 #[.int .i64 0])
    have SZ6 := Lib.hid (show (W.alloc (.cells #[.int .i64 0] 3)).heap.size = W.heap.size + 1 by simp)
    clear hD hI hK
    gi_wp2
    generalize W.alloc (.cells #[.int .i64 0] 3) = W6 at I1 HK I9 SZ6 ⊢
    refine rangeO (α := Ia 0) (Kp := KA) (w0 := W6) (a := { tmps := #[plan n, pv w.heap.size, .bool false, .func (.func 8) #[] #[pv (w.heap.size + 1)], pv (w.heap.size + 1 + 1), pv (w.heap.size + 1 + 1 + 1), undef, undef, pv W.heap.size, undef, undef, .agg #[.int .i64 n], .func (.func 8) #[] #[pv (w.heap.size + 1)], .func (.func 8) #[] #[pv (w.heap.size + 1)], .bool false, .func (.func 8) #[] #[pv (w.heap.size + 1)], undef, undef, undef, undef, undef, undef, undef, undef, undef, undef, undef, undef, undef, undef, undef, undef, .func (.func 8) #[] #[pv (w.heap.size + 1)], undef, undef, undef, undef, undef, undef, undef, undef, undef, undef, undef, undef, undef, undef, undef, undef, undef, undef, undef, undef, undef, undef, undef, undef, undef, undef, undef, undef, undef, undef, undef, undef, undef, undef, undef, undef, undef, undef, undef, undef, undef, undef, undef, undef, undef, undef, undef, undef], defers := [{ target := .collected D, args := #[] }] }) rfl (by omega) (gf := 8) (lb := #[pv (w.heap.size + 1)]) rfl trivial (enters_of Tryd.func8 (by kernel_rfl) rfl)
      (vall1_no n 7 (by omega) HN.out (w.heap.size + 1) W6 (by have := I1.out; rw [hPN] at this; exact this.2.1)) (fun h k => h.trans k) (fun V r r' hr => KA.put hr) (Below.refl _ _) (fun _ => rfl)
      (fun (ys : List (Ia 0)) V => PN V ∧ Blk V W.heap.size 3 #[.int .i64 0] ∧ V.heap[D]? = some (.deferred (some []))) (fun _ _ _ => False)
      (fun _ X Y row hs hg hr => ⟨OW.out _ (by have := SZ6.out; have := HIS.out; omega) X Y row hs.1 hg hr, own_blk _ _ _ (fun _ : Unit => _) () X Y row hs.2.1 hg hr, own_dfr (by have := SZ6.out; have := HDW.out; omega) () X Y row hs.2.2 hg hr⟩) (fun _ _ _ _ _ hs _ _ => hs.elim) ⟨I1.out, I9.out, HK.out⟩ (fun _ _ _ => True) (fun _ _ _ _ _ _ hs _ _ => hs) ?assign2 ?body2 ?done2 ?stop2
    case stop2 => exact fun _ _ _ _ _ h _ _ => h.elim
    case body2 => exact fun _ _ _ _ _ _ _ hl => absurd hl (Nat.not_lt_zero _)
    case assign2 =>
      intro l' pre' x V K hi hK2
      have HI := Lib.hid hi
      have HKK := Lib.hid hK2
      clear hi hK2
      gi_wp2
      exact HKK.out _ _ (KeepsFrom.refl _ _) ⟨fun _ _ _ _ h => h, fun _ _ _ h _ => h, Nat.le_refl _⟩ HI.out trivial
    case done2 =>
      rintro D2 ys V hD2 rfl ⟨hp, hb9, hd⟩ hK2
      rw [hPN] at hp
      obtain ⟨hp1, _, hp3, hpb, hps⟩ := hp
      have c1 := hp1.one
      have HDD := Lib.hid (show D < V.heap.size ∧ D2 < V.heap.size from ⟨(Array.getElem?_eq_some_iff.1 hd).1, (Array.getElem?_eq_some_iff.1 hK2).1⟩)
      have HD2 := Lib.hid hD2
      have HK4 := Lib.hid hd
      have HK2 := Lib.hid hK2
      have HP3 := Lib.hid hp3
      have H9 := Lib.hid hb9
      have HPB := Lib.hid hpb
      clear hp1 hp3 hpb hps hb9 hd hK2 hD2
      gi_wp2_with (first
        | (gi_at_call 5; refine ((callsIn_wide (n := 7)).2 (right_any n _)).mono ?_; rw [HRT.out]; rintro r w1 ⟨rfl, hb⟩; have HB1 := Lib.hid hb; have c2 := (HP3.out.keep hb).one; have c3 := (H9.out.keep hb).one; clear hb)
        | (gi_at_call 6; refine ((callsIn_wide (n := 7)).2 (works_any _ (HT.out.below (HPB.out.trans (HB1.out.mono HPB.out.size))))).mono ?_; rintro e w9 ⟨rfl, b9⟩; have B9 := Lib.hid (HB1.out.trans (b9.mono HB1.out.size)); clear b9))
      have HK9 := (B9.out.block D HDD.out.1).trans HK4.out
      have HK92 := (B9.out.block D2 HDD.out.2).trans HK2.out
      have hE := (World.putObj_heap_other (o := .deferred none) (show D ≠ D2 by have := HD2.out; have := SZ6.out; have := HDW.out; omega)).trans HK9
      refine ⟨by simp, .inl ⟨_, _, rfl, run_takeDeferred HK92, ⟨by simp, .inl ⟨_, _, rfl, run_takeDeferred hE, ?_⟩⟩⟩⟩
      have q1 := belowK_b (n₀ := w.heap.size) (w := w) (Nat.le_refl _) w9 D2 (.deferred (some [])) (.deferred none) (by have := HD2.out; have := SZ6.out; have := HIS.out; have := S2.out; omega) HK92 rfl rfl
      have q2 := belowK_b (n₀ := w.heap.size) (w := w) (Nat.le_refl _) _ D (.deferred (some [])) (.deferred none) (by have := HD.out; have := S2.out; omega) hE rfl rfl
      exact ⟨_, results_tmp rfl _ _ _, rfl, ((HPB.out.trans (B9.out.mono HPB.out.size)).trans q1).trans q2⟩
end Go.Proofs.YtpihllgdgolgpaaDoor

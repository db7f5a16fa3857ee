/- volume: All's iterator: its contract. -/
import Derived.Test.YtpihllgdgolgpaaDoorVAl1
namespace Go.Proofs.YtpihllgdgolgpaaDoor
open Go.RowKit Go.Shelf
attribute [local go_sem] Oper.semAt_some
set_option maxRecDepth 8000 in
theorem spots_any (r : Pt) (w : World) : Calls Tryd.prog 10 #[r.val] w fun e w' => e = .returned (.func (.func 17) #[] #[pv w.heap.size]) ∧ w' = w.alloc (.cells #[.int .i64 r.k, .int .i64 r.a, .int .i64 r.f, .int .i64 r.t] 40) := by
  go_enter Tryd.func10, Tryd.ntmps10
  go_wp2
  go_ret
  exact ⟨rfl, rfl⟩
/-- what holds while a part's sectors come up within All -/
structure InA {n f t : Nat} (J : List (Ia n) → World → Prop) (up : Iy f t → Ia n) (pre : List (Ia n)) (b0 : Nat) (yv : Value) (g bq : Nat) (cs : Array Value) (B S : Nat) (Ds : List Nat) (xs : List (Iy f t)) (V : World) : Prop where
  j : J (pre ++ xs.map up) V
  b0 : Blk V b0 34 #[yv]
  row : RdPt V g (partsL n)
  mks : Mks B V Ds
  bq : Blk V bq 40 cs
  size : S ≤ V.heap.size
theorem InA.own {n f t : Nat} {J : List (Ia n) → World → Prop} {up : Iy f t → Ia n} {pre : List (Ia n)} {b0 : Nat} {yv : Value} {g bq : Nat} {cs : Array Value} {B S : Nat} {Ds : List Nat} (hJ : OwnFrom B J) (hB : B ≤ S) (hD : ∀ D ∈ Ds, D < S) : OwnFrom S (fun xs V => InA J up pre b0 yv g bq cs B S Ds xs V) := fun _ X Y row hs hg hr =>
  ⟨hJ _ X Y row hs.j hg (fun q e => ⟨Nat.le_trans hB (hr q e).1, (hr q e).2⟩), own_blk S _ _ (fun _ : Unit => _) () X Y row hs.b0 hg hr, own_row S _ _ () X Y row hs.row hg hr, Mks.own hD () X Y row hs.mks hg hr, own_blk S _ _ (fun _ : Unit => _) () X Y row hs.bq hg hr, Nat.le_trans hs.size hg.size⟩
set_option maxRecDepth 8000 in
theorem elts_app {n f t q : Nat} {pre : List (Ia n)} {xs : List (Iy f t)} (up : Iy f t → Ia n) (hup : ∀ y, (up y).i = y.i) (h : EltsA f pre) (k : EltsY q xs) : EltsA (f + q) (pre ++ xs.map up) := by
  refine ⟨by simp [h.1, k.1], fun i y hy => ?_⟩
  rcases Nat.lt_or_ge i pre.length with hi | hi
  · rw [List.getElem?_append_left hi] at hy
    exact h.2 i y hy
  · rw [List.getElem?_append_right hi, List.getElem?_map] at hy
    obtain ⟨z, hz, rfl⟩ := Option.map_eq_some_iff.1 hy
    rw [hup, k.2 _ z hz]
    have := h.1
    omega
theorem Mks.cons {B : Nat} {w : World} {D : Nat} {Ds : List Nat} (h : Mks B w Ds) (hB : B ≤ D) (hD : w.heap[D]? = some (.deferred (some []))) (hn : ∀ E ∈ Ds, E < D) : Mks B w (D :: Ds) :=
  ⟨List.nodup_cons.2 ⟨fun hE => by have := hn D hE; omega, h.nodup⟩, fun E hE => by
    rcases List.mem_cons.1 hE with rfl | hE
    · exact ⟨hB, hD⟩
    · exact h.at_ E hE⟩
theorem KA.from {l B : Nat} {A C : World} (h : KA l A C) (hl : l < B) : KeepsFrom B A C := ⟨h.size, fun k o hB hk ho => h.same k o (by omega) hk ho⟩
set_option maxRecDepth 100000 in
set_option maxHeartbeats 4000000 in
theorem vall1_in (n m : Nat) (hn : 4 ≤ m) (hm : 1 ≤ n ∧ n ≤ 64) (bp : Nat) (w0 : World) (hbp : Blk w0 bp 23 #[.int .i64 (n : Int)]) :
    SeqO Fence.wide m Tryd.prog 8 #[pv bp] (fun y : Ia n => #[.int .i64 (y.i : Int), (plc n y.i).val]) KA (EltsA (20 + 3 * n)) (fun pre => ∃ q, q ≤ 20 + 3 * n ∧ EltsA q pre) (20 + 3 * n) w0 := by
  intro l J Jx W hlt0 hb hJ hJx hY h0
  have hFw : ∀ f, Fence.wide.fn f := fun _ => trivial
  have HBP := Lib.hid (Blk.keep hbp hb)
  have HJ := Lib.hid hJ
  have HJx := Lib.hid hJx
  have HY := Lib.hid hY
  have hn1 : 1 ≤ m := by omega
  have hn2 : 1 ≤ m - 1 := by omega
  have hn3 : 1 ≤ m - 1 - 1 := by omega
  have HL := Lib.hid hlt0
  have HM := Lib.hid hm
  have HM' := Lib.hid (show 1 ≤ (n : Int) ∧ (n : Int) ≤ 64 by omega)
  have H0 := Lib.hid (hJ.alloc (.cells #[.func (.yield l) #[] #[]] 34) h0)
  have HB0 := Lib.hid (Blk.new W 34 #[.func (.yield l) #[] #[]])
  have HBP1 := Lib.hid (HBP.out.alloc (.cells #[.func (.yield l) #[] #[]] 34))
  have c0 := HBP1.out.one
  clear hbp hJ hJx hY hb hlt0 hm h0
  refine callsIn_of_wp_marks Tryd.func8 rfl trivial ?_ rfl
  simp only [Tryd.ntmps8, List.size_toArray, List.length_cons, List.length_nil, Nat.reduceAdd, Nat.reduceSub, Array.replicate_succ, Array.replicate_zero, List.push_toArray, List.append_toArray, List.nil_append, List.cons_append]
  gi_wp2_with (gi_at_call 9; refine ((callsIn_wide (n := m - 1)).2 (parts_row n _ HM'.out)).mono ?_; rintro e w1 ⟨⟨g, c, rfl, hr⟩, hb1⟩; have J1 := Lib.hid (HJ.out _ _ _ none H0.out (grown_of_below hb1) (fun _ e => by cases e)); have B1 := Lib.hid (HB0.out.keep hb1); have R1 := Lib.hid hr; have S1 := Lib.hid hb1.size; clear hr hb1 c0)
  refine wpIn_loop_ghost (fun r a wr => ∃ (j : Nat) (Ds : List Nat) (u6 u17 u18 u19 u20 u21 u29 : Value), r = 8 - j ∧ j ≤ 8 ∧ a = { tmps := #[.func (.yield l) #[] #[], pv bp, pv W.heap.size, .slice (some ⟨g, 0, none⟩) 8 c, .int .i64 0, undef, u6, undef, undef, .tuple #[.slice (some ⟨g, 0, none⟩) 8 c, .int .i64 0], .agg #[.int .i64 (n : Int)], .tuple #[.slice (some ⟨g, 0, none⟩) 8 c, .int .i64 0], .slice (some ⟨g, 0, none⟩) 8 c, .int .i64 0, .slice (some ⟨g, 0, none⟩) 8 c, .int .i64 8, .int .i64 (j : Int), u17, u18, u19, u20, u21, undef, undef, undef, undef, undef, undef, undef, u29], defers := Ds.map mk1 } ∧ ∃ pre, EltsA (pf n j) pre ∧ J pre wr ∧ Blk wr W.heap.size 34 #[.func (.yield l) #[] #[]] ∧ RdPt wr g (partsL n) ∧ Mks W.heap.size wr Ds ∧ W.heap.size ≤ wr.heap.size) 8 ?_ ?_
  · exact ⟨0, [], undef, undef, undef, undef, undef, undef, undef, rfl, by omega, rfl, [], ⟨rfl, by simp⟩, J1.out, B1.out, R1.out, ⟨by simp, by simp⟩, by have := S1.out; simp at this; omega⟩
  clear J1 B1 R1 S1 H0 HB0 HBP1
  rintro r a wr ⟨j, Ds, u6, u17, u18, u19, u20, u21, u29, rfl, hj, rfl, pre, hpre, hJs, hB0, hR, hMk, hS⟩
  by_cases hlt : j < 8
  · obtain ⟨k, ar, hx, hfe, hte, hplc⟩ := part_at n j hlt
    obtain ⟨c0, c1, c2, c3⟩ := hR.2.at_ hx
    have d0 : decide ((j : Int) < 8) = true := decide_eq_true (by omega)
    have HPRE := Lib.hid hpre
    have HJS := Lib.hid hJs
    have HB0 := Lib.hid hB0
    have HR := Lib.hid hR
    have HMK := Lib.hid hMk
    have HS := Lib.hid hS
    have HF := Lib.hid hfe
    have HT := Lib.hid hte
    have HPL := Lib.hid hplc
    clear hpre hJs hB0 hR hMk hS hx hfe hte hplc
    gi_wp2_with (gi_at_call 10; refine ((callsIn_wide (n := m - 1)).2 (spots_any ⟨k, ar, (pf n j : Nat), (pf n (j + 1) : Nat)⟩ _)).mono ?_; rintro e w' ⟨rfl, rfl⟩)
    have J2 := Lib.hid (HJ.out.alloc (.cells #[.int .i64 k, .int .i64 ar, .int .i64 (pf n j : Nat), .int .i64 (pf n (j + 1) : Nat)] 40) (HJ.out.alloc (.cells #[.int .i64 k, .int .i64 ar, .int .i64 (pf n j : Nat), .int .i64 (pf n (j + 1) : Nat)] 40) HJS.out))
    have B2 := Lib.hid ((HB0.out.alloc (.cells #[.int .i64 k, .int .i64 ar, .int .i64 (pf n j : Nat), .int .i64 (pf n (j + 1) : Nat)] 40)).alloc (.cells #[.int .i64 k, .int .i64 ar, .int .i64 (pf n j : Nat), .int .i64 (pf n (j + 1) : Nat)] 40))
    have R2 := Lib.hid ((HR.out.keep (Below.heap_alloc wr (.cells #[.int .i64 k, .int .i64 ar, .int .i64 (pf n j : Nat), .int .i64 (pf n (j + 1) : Nat)] 40) g HR.out.lt)).keep (Below.heap_alloc (wr.alloc (.cells #[.int .i64 k, .int .i64 ar, .int .i64 (pf n j : Nat), .int .i64 (pf n (j + 1) : Nat)] 40)) (.cells #[.int .i64 k, .int .i64 ar, .int .i64 (pf n j : Nat), .int .i64 (pf n (j + 1) : Nat)] 40) g (by have := HR.out.lt; simp; omega)))
    have M2 := Lib.hid ((HMK.out.keep (fun D hD => Below.heap_alloc wr (.cells #[.int .i64 k, .int .i64 ar, .int .i64 (pf n j : Nat), .int .i64 (pf n (j + 1) : Nat)] 40) D (HMK.out.lt hD))).keep (fun D hD => Below.heap_alloc (wr.alloc (.cells #[.int .i64 k, .int .i64 ar, .int .i64 (pf n j : Nat), .int .i64 (pf n (j + 1) : Nat)] 40)) (.cells #[.int .i64 k, .int .i64 ar, .int .i64 (pf n j : Nat), .int .i64 (pf n (j + 1) : Nat)] 40) D (by have := HMK.out.lt hD; simp; omega)))
    have Q2 := Lib.hid (show Blk ((wr.alloc (.cells #[.int .i64 k, .int .i64 ar, .int .i64 (pf n j : Nat), .int .i64 (pf n (j + 1) : Nat)] 40)).alloc (.cells #[.int .i64 k, .int .i64 ar, .int .i64 (pf n j : Nat), .int .i64 (pf n (j + 1) : Nat)] 40)) (wr.heap.size + 1) 40 (Pt.cs ⟨k, ar, (pf n j : Nat), (pf n (j + 1) : Nat)⟩).toArray by have := Blk.new (wr.alloc (.cells #[.int .i64 k, .int .i64 ar, .int .i64 (pf n j : Nat), .int .i64 (pf n (j + 1) : Nat)] 40)) 40 #[.int .i64 k, .int .i64 ar, .int .i64 (pf n j : Nat), .int .i64 (pf n (j + 1) : Nat)]; simpa using this)
    have S2 := Lib.hid (show ((wr.alloc (.cells #[.int .i64 k, .int .i64 ar, .int .i64 (pf n j : Nat), .int .i64 (pf n (j + 1) : Nat)] 40)).alloc (.cells #[.int .i64 k, .int .i64 ar, .int .i64 (pf n j : Nat), .int .i64 (pf n (j + 1) : Nat)] 40)).heap.size = wr.heap.size + 2 by simp)
    have D2 := Lib.hid (fun D (hD : D ∈ Ds) => HMK.out.lt hD)
    clear HJS HB0 HR HMK c0 c1 c2 c3
    generalize (wr.alloc (.cells #[.int .i64 k, .int .i64 ar, .int .i64 (pf n j : Nat), .int .i64 (pf n (j + 1) : Nat)] 40)).alloc (.cells #[.int .i64 k, .int .i64 ar, .int .i64 (pf n j : Nat), .int .i64 (pf n (j + 1) : Nat)] 40) = W2 at J2 B2 R2 M2 Q2 S2 ⊢
    have hI : OwnFrom W2.heap.size (fun xs V => InA J (fun y : Iy (pf n j) (pf n (j + 1)) => (⟨y.i, Nat.lt_of_lt_of_le y.hi HT.out⟩ : Ia n)) pre W.heap.size (.func (.yield l) #[] #[]) g (wr.heap.size + 1) (Pt.cs ⟨k, ar, (pf n j : Nat), (pf n (j + 1) : Nat)⟩).toArray W.heap.size W2.heap.size Ds xs V) :=
      InA.own HJ.out (by have := S2.out; have := HS.out; omega) (fun D hD => by have := D2.out D hD; have := S2.out; omega)
    refine rangeO (α := Iy (pf n j) (pf n (j + 1))) (Kp := KB (wr.heap.size + 1)) (w0 := W2) (a := { tmps := #[.func (.yield l) #[] #[], pv bp, pv W.heap.size, .slice (some ⟨g, 0, none⟩) 8 c, .int .i64 0, undef, pv wr.heap.size, undef, undef, .tuple #[.slice (some ⟨g, 0, none⟩) 8 c, .int .i64 0], .agg #[.int .i64 (n : Int)], .tuple #[.slice (some ⟨g, 0, none⟩) 8 c, .int .i64 0], .slice (some ⟨g, 0, none⟩) 8 c, .int .i64 0, .slice (some ⟨g, 0, none⟩) 8 c, .int .i64 8, .int .i64 (j : Int), .bool true, .pointer (some ⟨g, j * 4, none⟩), .agg #[.int .i64 k, .int .i64 ar, .int .i64 (pf n j : Nat), .int .i64 (pf n (j + 1) : Nat)], .agg #[.int .i64 k, .int .i64 ar, .int .i64 (pf n j : Nat), .int .i64 (pf n (j + 1) : Nat)], .func (.func 17) #[] #[pv (wr.heap.size + 1)], undef, undef, undef, undef, undef, undef, undef, u29], defers := Ds.map mk1 }) rfl (by omega) (gf := 17) (lb := #[pv (wr.heap.size + 1)]) rfl trivial (enters_of Tryd.func17 (by kernel_rfl) rfl)
      (spots1_in (m - 1) (by omega) (wr.heap.size + 1) k ar (pf n j) (pf n (j + 1)) HF.out (by have := HT.out; have := HM.out; omega) W2 Q2.out) (fun h k cs hc => k cs (h cs hc))
      (fun V r r' hr cs hc => (World.putObj_heap_other (by rintro e; unfold Blk at hc; rw [e, hr] at hc; cases hc)).trans hc) (Below.refl _ _) (fun _ => rfl)
      _ (fun c xs V => c = .ret ∧ Jx (pre ++ xs.map (fun y : Iy (pf n j) (pf n (j + 1)) => (⟨y.i, Nat.lt_of_lt_of_le y.hi HT.out⟩ : Ia n))) V ∧ Mks W.heap.size V Ds) hI ?hIx
      ⟨by rw [List.map_nil, List.append_nil]; exact J2.out, B2.out, R2.out, M2.out, Q2.out, Nat.le_refl _⟩
      (fun x a' V => ∃ bx, a' = { tmps := #[.func (.yield l) #[] #[], pv bp, pv W.heap.size, .slice (some ⟨g, 0, none⟩) 8 c, .int .i64 0, undef, pv wr.heap.size, .int .i64 (x.i : Int), pv bx, .tuple #[.slice (some ⟨g, 0, none⟩) 8 c, .int .i64 0], .agg #[.int .i64 (n : Int)], .tuple #[.slice (some ⟨g, 0, none⟩) 8 c, .int .i64 0], .slice (some ⟨g, 0, none⟩) 8 c, .int .i64 0, .slice (some ⟨g, 0, none⟩) 8 c, .int .i64 8, .int .i64 (j : Int), .bool true, .pointer (some ⟨g, j * 4, none⟩), .agg #[.int .i64 k, .int .i64 ar, .int .i64 (pf n j : Nat), .int .i64 (pf n (j + 1) : Nat)], .agg #[.int .i64 k, .int .i64 ar, .int .i64 (pf n j : Nat), .int .i64 (pf n (j + 1) : Nat)], .func (.func 17) #[] #[pv (wr.heap.size + 1)], .int .i64 (x.i : Int), Sp.val ⟨k, ar, (x.i : Int) - (pf n j : Nat)⟩, undef, undef, undef, undef, undef, u29], defers := [] } ∧ Blk V bx 30 #[.int .i64 k, .int .i64 ar, .int .i64 ((x.i : Int) - (pf n j : Nat))]) ?hAx ?assign ?body ?done ?stop
    case hIx =>
      rintro c s X Y row ⟨rfl, h1, h2⟩ hg hr
      exact ⟨rfl, HJx.out _ X Y row h1 hg (fun q e => ⟨by have := (hr q e).1; have := S2.out; have := HS.out; omega, (hr q e).2⟩), Mks.own (B' := W2.heap.size) (fun D hD => by have := D2.out D hD; have := S2.out; omega) () X Y row h2 hg hr⟩
    case hAx =>
      rintro x a' _ X Y row ⟨bx, e, hb⟩ hg hr
      exact ⟨bx, e, own_blk W2.heap.size _ _ (fun _ : Unit => _) () X Y row hb hg hr⟩
    case assign =>
      intro l' pre' x V K hi hK
      have hk := hK { tmps := #[.func (.yield l) #[] #[], pv bp, pv W.heap.size, .slice (some ⟨g, 0, none⟩) 8 c, .int .i64 0, undef, pv wr.heap.size, .int .i64 (x.i : Int), pv V.heap.size, .tuple #[.slice (some ⟨g, 0, none⟩) 8 c, .int .i64 0], .agg #[.int .i64 (n : Int)], .tuple #[.slice (some ⟨g, 0, none⟩) 8 c, .int .i64 0], .slice (some ⟨g, 0, none⟩) 8 c, .int .i64 0, .slice (some ⟨g, 0, none⟩) 8 c, .int .i64 8, .int .i64 (j : Int), .bool true, .pointer (some ⟨g, j * 4, none⟩), .agg #[.int .i64 k, .int .i64 ar, .int .i64 (pf n j : Nat), .int .i64 (pf n (j + 1) : Nat)], .agg #[.int .i64 k, .int .i64 ar, .int .i64 (pf n j : Nat), .int .i64 (pf n (j + 1) : Nat)], .func (.func 17) #[] #[pv (wr.heap.size + 1)], .int .i64 (x.i : Int), Sp.val ⟨k, ar, (x.i : Int) - (pf n j : Nat)⟩, undef, undef, undef, undef, undef, u29], defers := [] } (V.alloc (.cells #[.int .i64 k, .int .i64 ar, .int .i64 ((x.i : Int) - (pf n j : Nat))] 30)) (KeepsFrom.of_grownBy (World.grownBy_alloc V _ none) (by simp)) (fun cs hc => hc.alloc _) (hI.alloc _ hi) ⟨_, rfl, Blk.new _ _ _⟩
      have HKK := Lib.hid hk
      clear hK hk hi hI
      gi_wp2
      exact HKK.out
    case body =>
      rintro l' pre' x a' V hi ⟨bx, rfl, hbx⟩ hlen
      obtain ⟨fn, tmps, assign, body, hy, hR⟩ := HY.out (pre ++ pre'.map (fun y : Iy (pf n j) (pf n (j + 1)) => (⟨y.i, Nat.lt_of_lt_of_le y.hi HT.out⟩ : Ia n))) ⟨x.i, Nat.lt_of_lt_of_le x.hi HT.out⟩ V hi.j (by rw [List.length_append, List.length_map, HPRE.out.1]; have := HT.out; omega)
      dsimp only at hy
      rw [HPL.out x.i x.lo x.hi] at hy
      have HRR := Lib.hid hR
      have HI := Lib.hid hi
      have cb := hi.b0.one
      obtain ⟨c0, c1, c2⟩ := hbx.three
      clear hi hR hI hbx
      gi_wp2
      refine (roundIn_wide HRR.out).mono ?_
      rintro e V2 ⟨hka, (⟨rfl, hJ2⟩ | ⟨rfl, hJ2⟩)⟩
      · have HKA := Lib.hid hka
        have HJ2 := Lib.hid hJ2
        clear hka hJ2
        gi_wp2
        refine ⟨HKA.out.from (by have := HL.out; have := S2.out; have := HS.out; omega), fun cs hc => HKA.out.blk (.inr (.inl rfl)) hc, ?_, HKA.out.blk (.inl rfl) HI.out.b0, HKA.out.row HI.out.row, HI.out.mks.ka HKA.out HL.out, HKA.out.blk (.inr (.inl rfl)) HI.out.bq, Nat.le_trans HI.out.size HKA.out.size⟩
        rw [List.map_append, ← List.append_assoc]
        exact HJ2.out
      · have HKA := Lib.hid hka
        have HJ2 := Lib.hid hJ2
        clear hka hJ2
        gi_wp2
        refine ⟨HKA.out.from (by have := HL.out; have := S2.out; have := HS.out; omega), fun cs hc => HKA.out.blk (.inr (.inl rfl)) hc, rfl, ?_, HI.out.mks.ka HKA.out HL.out⟩
        rw [List.map_append, ← List.append_assoc]
        exact HJ2.out
    case done =>
      rintro D xs V hD hSx hi hdef
      have HI := Lib.hid hi
      have HD := Lib.hid hD
      have HSX := Lib.hid hSx
      have HDF := Lib.hid hdef
      clear hi hdef hI hD hSx
      gi_wp2
      refine ⟨8 - (j + 1), by omega, j + 1, D :: Ds, _, _, _, _, _, _, _, rfl, by omega, rfl, _, ?_, HI.out.j, HI.out.b0, HI.out.row, HI.out.mks.cons (by have := HD.out; have := S2.out; have := HS.out; omega) HDF.out (fun E hE => by have := D2.out E hE; have := HD.out; have := S2.out; omega), by have := HI.out.size; have := S2.out; have := HS.out; omega⟩
      have he := elts_app (fun y : Iy (pf n j) (pf n (j + 1)) => (⟨y.i, Nat.lt_of_lt_of_le y.hi HT.out⟩ : Ia n)) (fun _ => rfl) HPRE.out HSX.out
      exact ⟨he.1.trans (Nat.add_sub_of_le HF.out), he.2⟩
    case stop =>
      rintro D c' xs V hD ⟨q, hq, hSx⟩ ⟨rfl, hjx, hmk⟩ hdef
      have HJX := Lib.hid hjx
      have HSX := Lib.hid hSx
      have HD := Lib.hid hD
      have HMV := Lib.hid hmk
      have HDF := Lib.hid hdef
      clear hjx hmk hdef hI hSx
      gi_wp2
      exact leaves_mks rfl (fun V => Jx (pre ++ xs.map (fun y : Iy (pf n j) (pf n (j + 1)) => (⟨y.i, Nat.lt_of_lt_of_le y.hi HT.out⟩ : Ia n))) V) (fun w D hg hB hD => HJx.out.putObj _ hg hB hD rfl)
        (fun V hV => ⟨⟨_, rfl⟩, .inr ⟨_, ⟨pf n j + q, by have := HT.out; have := HF.out; omega, elts_app _ (fun _ => rfl) HPRE.out HSX.out⟩, hV⟩⟩) (D :: Ds) _
        (HMV.out.cons (by have := HD.out; have := S2.out; have := HS.out; omega) HDF.out (fun E hE => by have := D2.out E hE; have := HD.out; have := S2.out; omega)) HJX.out
  · obtain rfl : j = 8 := by omega
    have d0 : decide (((8 : Nat) : Int) < 8) = false := rfl
    have HPRE := Lib.hid hpre
    have HJS := Lib.hid hJs
    have HMK := Lib.hid hMk
    clear hpre hJs hB0 hR hMk hS
    gi_wp2
    exact leaves_mks rfl (fun V => J pre V) (fun w D hg hB hD => HJ.out.putObj _ hg hB hD rfl) (fun V hV => ⟨⟨_, rfl⟩, .inl ⟨pre, HPRE.out, hV⟩⟩) Ds _ HMK.out HJS.out
end Go.Proofs.YtpihllgdgolgpaaDoor

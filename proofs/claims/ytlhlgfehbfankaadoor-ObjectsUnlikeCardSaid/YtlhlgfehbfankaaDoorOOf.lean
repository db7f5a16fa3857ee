/- objects: add, Of, New. -/
import Derived.Test.YtlhlgfehbfankaaDoorOPut
import Derived.Test.YtlhlgfehbfankaaDoorORchk
import Derived.Laws.MakeOwn
import Derived.Laws.OwnMore
namespace Go.Proofs.YtlhlgfehbfankaaDoor
open Go.RowKit
theorem ownBlock_row (A : Option Addr) (n c : Nat) : (Value.slice A n c).ownBlock = rowOf A := by cases A <;> rfl
theorem info78 : (Tryd.prog.info? 78).map (fun i => (i.zero, i.size, i.bytes)) = some (some (.pointer none), 1, 8) := by kernel_rfl
section
variable {w : World} {base p : Nat} {A : Option Addr} {cap : Nat} {ps : List Nat} {os : List Oj}
theorem StAt.push (h : StAt w base p A cap ps os) (o : Oj) (t : TypeId) (cs : Array Value) {w' : World} {g cap' : Nat}
    (hown : w'.ownsRow base 78 1 (.slice (some ⟨g, 0, none⟩) (os.length + 1) cap') (os.length + 1) (ps.map pv ++ [pv w.heap.size]))
    (hg : ((w.alloc (.cells o.cells.toArray 34)).alloc (.cells cs t)).grownBy w' (rowOf A)) (hr : rowOf A = some g ∨ g = w.heap.size + 2) :
    StAt (w'.setCell ⟨p, 0, none⟩ (.slice (some ⟨g, 0, none⟩) (os.length + 1) cap')) base p (some ⟨g, 0, none⟩) cap' (ps ++ [w.heap.size]) (os ++ [o]) ∧
    Below base w (w'.setCell ⟨p, 0, none⟩ (.slice (some ⟨g, 0, none⟩) (os.length + 1) cap')) := by
  have hp := h.lt p (.inl rfl)
  have hl : (os ++ [o]).length = os.length + 1 := by simp
  have hsz : ((w.alloc (.cells o.cells.toArray 34)).alloc (.cells cs t)).heap.size = w.heap.size + 2 := by simp
  have hb2 : Below w.heap.size w ((w.alloc (.cells o.cells.toArray 34)).alloc (.cells cs t)) := ((Below.refl _ _).alloc (Nat.le_refl _) _).alloc (by simp) _
  have hgl : ∀ k, k < w.heap.size → rowOf A ≠ some k → w'.heap[k]? = w.heap[k]? := fun k hk hne => (hg.block k (by rw [hsz]; omega) (fun e => hne e.symm)).trans (hb2.block k hk)
  have hgp : g ≠ p := by
    rcases hr with hr | rfl
    · rintro rfl; exact h.pn hr
    · omega
  have hgb : ∀ b ∈ ps, g ≠ b := fun b hb => by
    have := h.lt b (.inr (.inr hb))
    rcases hr with hr | rfl
    · rintro rfl; exact (h.pps _ hb).2.2 hr
    · omega
  have hgB : g ≠ w.heap.size := by
    rcases hr with hr | rfl
    · have := h.own_lt hr; omega
    · omega
  have hset : ∀ k, k ≠ p → (w'.setCell ⟨p, 0, none⟩ (.slice (some ⟨g, 0, none⟩) (os.length + 1) cap')).heap[k]? = w'.heap[k]? := fun k hk => Below.heap_setCell _ _ _ _ hk
  have hA : rowOf A ≠ some w.heap.size := fun e => by have := h.own_lt e; omega
  refine ⟨⟨?_, ?_, by simp [h.len], ?_, h.pge, ?_, ?_, ?_⟩, ?_⟩
  · have hb : Blk w' p 69 #[.slice A os.length cap] := (hgl p hp.2 h.pn).trans h.blk
    have := hb.set_ 0 (.slice (some ⟨g, 0, none⟩) (os.length + 1) cap')
    rw [hl]
    simpa using this
  · rw [hl, List.map_append]
    exact own_keep hown fun k hk => hset k (by injection hk with hk; simp only at hk; omega)
  · intro i h1 h2
    rw [hl] at h1
    by_cases hi : i < os.length
    · have hi' : i < ps.length := by rw [h.len]; exact hi
      rw [List.getElem_append_left hi', List.getElem_append_left hi]
      have hb := h.pps _ (List.getElem_mem hi')
      exact (hset _ hb.2.1).trans ((hgl _ (h.lt _ (.inr (.inr (List.getElem_mem hi')))).2 hb.2.2).trans (h.obj i hi hi'))
    · obtain rfl : i = os.length := by omega
      have e1 : (os ++ [o])[os.length]'(by simp) = o := by simp
      have e2 : (ps ++ [w.heap.size])[os.length]'h2 = w.heap.size := by
        rw [List.getElem_append_right (by rw [h.len]; exact Nat.le_refl _)]
        simp
      rw [e1, e2]
      refine (hset _ (by omega)).trans ((hg.block _ (by rw [hsz]; omega) (fun e => hA e.symm)).trans ?_)
      exact (Blk.new w 34 o.cells.toArray).alloc _
  · intro e
    injection e with e
    exact hgp e
  · intro b hb
    rcases List.mem_append.1 hb with hb | hb
    · have := h.pps b hb
      refine ⟨this.1, this.2.1, fun e => ?_⟩
      injection e with e
      exact hgb b hb e
    · obtain rfl : b = w.heap.size := by simpa using hb
      refine ⟨by omega, by omega, fun e => ?_⟩
      injection e with e
      exact hgB e
  · rw [List.nodup_append]
    refine ⟨h.nd, by simp, fun a ha b hb => ?_⟩
    obtain rfl : b = w.heap.size := by simpa using hb
    have := h.lt a (.inr (.inr ha))
    omega
  · have hb : Below base w w' := (hb2.mono (by omega)).grown hg (by rw [hsz]; omega) fun k hk => (h.own_lt hk).1
    exact hb.setCell (p := ⟨p, 0, none⟩) hp.1 _
set_option maxHeartbeats 1000000 in
theorem add_at (h : StAt w base p A cap ps os) (hn : os.length ≤ 1000) (o : Oj) :
    Calls Tryd.prog 35 #[pv p, o.val] w fun e w' => e = .returned (.tuple #[]) ∧ ∃ A' cap', StAt w' base p A' cap' (ps ++ [w.heap.size]) (os ++ [o]) ∧ Below base w w' := by
  have HS := Lib.hid h
  have HN := Lib.hid hn
  have hp := h.lt p (.inl rfl)
  have c0 := (h.alloc (.cells o.cells.toArray 34)).c0
  have HOW := Lib.hid ((h.alloc (.cells o.cells.toArray 34)).alloc (.cells #[pv w.heap.size] 78)).own
  have HP := Lib.hid hp
  have HC := Lib.hid (((h.alloc (.cells o.cells.toArray 34)).alloc (.cells #[pv w.heap.size] 78)).blk)
  have HPN := Lib.hid h.pn
  obtain ⟨i0, hi, hz0, hz1, hz2⟩ := info_parts info78
  have HI := Lib.hid (show _ ∧ _ ∧ _ ∧ _ from ⟨hi, hz0, hz1, hz2⟩)
  clear h hn hp hi hz0 hz1 hz2
  go_enter Tryd.func35, Tryd.ntmps35
  go_wp2_with (refine wpList_append_lies _ rfl (.tmp 8) (.tmp 9) 67 rfl base 78 i0 (.pointer none) 1 8 Tryd.underlying67 HI.out.1 HI.out.2.1 HI.out.2.2.1 HI.out.2.2.2 rfl (by decide) (.slice A os.length cap) os.length (ps.map pv) (by rfl) HOW.out ⟨w.heap.size + 1, 0, none⟩ 1 1 [pv w.heap.size] (by first | rfl | simp) rfl ?_ (by simp [Value.oneCell']) (by decide) (by have := HN.out; simp only [maxLen]; omega) (by have := HN.out; omega) (by have := HP.out; simp; omega) _ rfl ?_)
  · intro j u hu
    rw [Addr.add_mid, Nat.zero_add]
    have := (Blk.new (w.alloc (.cells o.cells.toArray 34)) 78 #[pv w.heap.size]).cell j
    rw [World.size_alloc] at this
    rw [this]
    simpa using hu
  · intro g cap' w' hown hg hr _
    rw [ownBlock_row] at hg hr
    have hpush := HS.out.push o 78 #[pv w.heap.size] hown hg hr
    have hb : Blk w' p 69 #[.slice A os.length cap] := (hg.block p (by have := HP.out; simp; omega) (fun e => HPN.out e.symm)).trans HC.out
    have c1 := (hb.cell 0).trans rfl
    have f1 := hb.frozen 0
    have HPU := Lib.hid hpush
    clear hpush hb hown hg hr c0
    go_wp2
    go_end0
    exact ⟨rfl, _, _, HPU.out⟩
end
/-- the objects l lie from A on -/
def RdO (w : World) (A : Option Addr) (l : List Oj) : Prop := ∀ i (h : i < l.length), ∃ b off, A = some ⟨b, off, none⟩ ∧ ObAt w b (off + i * 163) l[i]
section
variable {w w' : World} {A : Option Addr} {l : List Oj}
theorem RdO.below (h : RdO w A l) (hb : Below w.heap.size w w') : RdO w' A l := fun i hi => by
  obtain ⟨b, off, e, ho⟩ := h i hi
  exact ⟨b, off, e, ho.below hb⟩
theorem RdO.alloc (h : RdO w A l) (o : Obj) : RdO (w.alloc o) A l := h.below ((Below.refl _ _).alloc (Nat.le_refl _) _)
theorem RdO.drew (h : RdO w A l) : RdO w.drew A l := h
end
theorem StAt.nil (w : World) (base : Nat) (hb : base ≤ w.heap.size) : StAt (w.alloc (.cells #[.slice none 0 0] 69)) base w.heap.size none 0 [] [] where
  blk := Blk.new w _ _
  own := ⟨rfl, .inl ⟨rfl, rfl⟩⟩
  len := rfl
  obj := fun i h => absurd h (by simp)
  pge := hb
  pn := fun e => by cases e
  pps := fun b hb => by cases hb
  nd := List.nodup_nil
/-- may these be a store -/
def okAll (n : Int) (l : List Oj) : Prop := ∀ x ∈ l, x.ok n
theorem ok_x {n : Int} {l : List Oj} {k : Nat} {x : Oj} (h : okAll n l) (hk : k < l.length) (e : l[k] = x) : x.ok n := e ▸ h _ (List.getElem_mem hk)
theorem take_x {α : Type} {l : List α} {k : Nat} {x : α} (hk : k < l.length) (e : l[k] = x) : l.take k ++ [x] = l.take (k + 1) := by rw [List.take_succ_eq_append_getElem hk, e]
theorem of_many (A : Option Addr) (len cap : Nat) (w : World) (hn : ¬ (1 ≤ len ∧ len ≤ 64)) :
    Calls Tryd.prog 14 #[.slice A len cap] w fun e w' => e = .returned (.tuple #[.pointer none, .int .i64 2]) ∧ w = w' := by
  have DM := Lib.hid (show decide (1 ≤ (len : Int) ∧ (len : Int) ≤ 64) = false from decide_eq_false (by omega))
  clear hn
  go_enter Tryd.func14, Tryd.ntmps14
  go_wp2_with (go_at_call 31; refine (DM.out ▸ many_any (len : Int) _).mono ?_; rintro e w1 ⟨rfl, rfl⟩)
  go_ret2
  exact ⟨rfl, rfl⟩
set_option maxRecDepth 100000 in
set_option maxHeartbeats 2000000 in
theorem of_any (A : Option Addr) (l : List Oj) (cap : Nat) (w : World) (hT : Tab w) (hr : RdO w A l) (h1 : 1 ≤ l.length) (h2 : l.length ≤ 64) :
    Calls Tryd.prog 14 #[.slice A l.length cap] w fun e w' => ((∃ A' cap' ps, e = .returned (.tuple #[pv w.heap.size, .int .i64 0]) ∧ StAt w' w.heap.size w.heap.size A' cap' ps l ∧ okAll l.length l) ∨ (e = .returned (.tuple #[.pointer none, .int .i64 2]) ∧ ¬ okAll l.length l)) ∧ Below w.heap.size w w' := by
  have hz := z34
  have hbl := oz_len
  have DM := Lib.hid (show decide (1 ≤ (l.length : Int) ∧ (l.length : Int) ≤ 64) = true from decide_eq_true (by omega))
  have HT := Lib.hid (hT.alloc (.cells #[.slice none 0 0] 69))
  have HR := Lib.hid (hr.alloc (.cells #[.slice none 0 0] 69))
  have HB := Lib.hid ((Below.refl w.heap.size w).alloc (Nat.le_refl _) (.cells #[.slice none 0 0] 69))
  have HS := Lib.hid (StAt.nil w w.heap.size (Nat.le_refl _))
  have H2 := Lib.hid h2
  have HTW := Lib.hid hT
  have HRW := Lib.hid hr
  clear hT hr h1
  go_enter Tryd.func14, Tryd.ntmps14
  go_wp2_with (go_at_call 31; refine (DM.out ▸ many_any (l.length : Int) _).mono ?_; rintro e w1 ⟨rfl, rfl⟩)
  generalize w.alloc (.cells #[.slice none 0 0] 69) = w0 at HT HR HB HS ⊢
  go_loopw [6, 7, 16] (fun _ _ i wr => ∃ k : Nat, k ≤ l.length ∧ i = .int .i64 k ∧ Below w.heap.size w wr ∧ Tab wr ∧ RdO wr A l ∧ (∃ A' cap' ps, StAt wr w.heap.size w.heap.size A' cap' ps (l.take k)) ∧ okAll l.length (l.take k)) (fun _ _ i _ => l.length + 1 - (intOf i).toNat)
  case atStart => exact ⟨0, by omega, rfl, HB.out, HT.out, HR.out, ⟨_, _, _, HS.out⟩, fun x hx => by simp at hx⟩
  case round =>
    obtain ⟨k, hk, rfl, hb, ht, hrd, ⟨A', cap', ps, hs⟩, hok⟩ := hrel
    clear HT HR HB HS
    by_cases hlt : k < l.length
    · obtain ⟨b, off, rfl, hob⟩ := hrd k hlt
      obtain ⟨x, hx⟩ : ∃ x, l[k] = x := ⟨_, rfl⟩
      rw [hx] at hob
      have HB0 := Lib.hid (hb.alloc hb.size (.cells x.cells.toArray 34))
      have HT0 := Lib.hid (ht.alloc (.cells x.cells.toArray 34))
      have HO0 := Lib.hid hob
      have HR0 := Lib.hid (hrd.alloc (.cells x.cells.toArray 34))
      have HS0 := Lib.hid (hs.alloc (.cells x.cells.toArray 34))
      have HG0 := Lib.hid (Blk.new wr 34 x.cells.toArray)
      have HK := Lib.hid hok
      have HX := Lib.hid hx
      have HLT := Lib.hid hlt
      clear hb ht hrd hs hok hob hx
      by_cases hxo : x.ok l.length
      · have HXO := Lib.hid hxo
        clear hxo
        go_wp2_with (first
          | (refine wpList_yields (S := fun w' => ObAt w' b (off + k * 163) x) (y_ob (by rfl) (.tmp 18) (by rfl) b (off + k * 163) (by rfl) x (fun _ h => h)) HO0.out ?_)
          | (refine wpList_store_last rfl (.tmp 6) (.tmp 19) rfl _ rfl rfl x oz rfl ?_)
          | (refine wpList_yields (S := fun w' => ObAt w' wr.heap.size 0 x) (y_ob (by rfl) (.tmp 6) (by rfl) wr.heap.size 0 (by rfl) x (fun _ h => h)) HG0.out.ob ?_)
          | (refine wpList_yields (S := fun w' => ObAt w' wr.heap.size 0 x) (y_ob (by rfl) (.tmp 6) (by rfl) wr.heap.size 0 (by rfl) x (fun _ h => h)) HG1.out.ob ?_)
          | (go_at_call 12; refine (Oj.chk_yes HXO.out ▸ check_any x l.length _ HT0.out).mono ?_; rintro e w1 ⟨rfl, b1⟩; have HB1 := Lib.hid (HB0.out.trans (b1.mono HB0.out.size)); have HT1 := Lib.hid (HT0.out.below b1); have HR1 := Lib.hid (HR0.out.below b1); have HS1 := Lib.hid (HS0.out.below b1); have HG1 := Lib.hid (HG0.out.keep b1); clear b1)
          | (go_at_call 35; refine (add_at HS1.out (by have := H2.out; rw [List.length_take]; omega) x).mono ?_; rintro e w2 ⟨rfl, A2, cap2, hs2, b2⟩; have HB2 := Lib.hid (HB1.out.trans b2); have HT2 := Lib.hid (HTW.out.below HB2.out); have HR2 := Lib.hid (HRW.out.below HB2.out); have HS2 := Lib.hid hs2; clear b2 hs2))
        go_roundw
        case rel => exact ⟨k + 1, by omega, by go_num, HB2.out, HT2.out, HR2.out, ⟨_, _, _, take_x HLT.out HX.out ▸ HS2.out⟩, take_snoc_x HLT.out HX.out HK.out HXO.out⟩
        case measure => simp [intOf]; omega
      · have HXO := Lib.hid hxo
        clear hxo
        go_wp2_with (first
          | (refine wpList_yields (S := fun w' => ObAt w' b (off + k * 163) x) (y_ob (by rfl) (.tmp 18) (by rfl) b (off + k * 163) (by rfl) x (fun _ h => h)) HO0.out ?_)
          | (refine wpList_store_last rfl (.tmp 6) (.tmp 19) rfl _ rfl rfl x oz rfl ?_)
          | (refine wpList_yields (S := fun w' => ObAt w' wr.heap.size 0 x) (y_ob (by rfl) (.tmp 6) (by rfl) wr.heap.size 0 (by rfl) x (fun _ h => h)) HG0.out.ob ?_)
          | (refine wpList_yields (S := fun w' => ObAt w' wr.heap.size 0 x) (y_ob (by rfl) (.tmp 6) (by rfl) wr.heap.size 0 (by rfl) x (fun _ h => h)) HG1.out.ob ?_)
          | (go_at_call 12; refine (Oj.chk_no HXO.out ▸ check_any x l.length _ HT0.out).mono ?_; rintro e w1 ⟨rfl, b1⟩; have HB1 := Lib.hid (HB0.out.trans (b1.mono HB0.out.size)); have HT1 := Lib.hid (HT0.out.below b1); have HR1 := Lib.hid (HR0.out.below b1); have HS1 := Lib.hid (HS0.out.below b1); have HG1 := Lib.hid (HG0.out.keep b1); clear b1))
        go_ret2
        exact ⟨.inr ⟨rfl, fun h => HXO.out (ok_x h HLT.out HX.out)⟩, HB1.out⟩
    · obtain rfl : k = l.length := by omega
      rw [List.take_length] at hs hok
      go_wp2
      go_ret2
      exact ⟨.inl ⟨_, _, _, rfl, hs, hok⟩, hb⟩
end Go.Proofs.YtlhlgfehbfankaaDoor

/- objects: add, Of, New. -/
import Derived.Test.YteodgefnbmiblaaDoorR08
import Derived.Laws.MakeOwn
import Derived.Laws.OwnMore
namespace Go.Proofs.YteodgefnbmiblaaDoor
open Go.RowKit
set_option maxRecDepth 8000 in
theorem ownBlock_row (A : Option Addr) (n c : Nat) : (Value.slice A n c).ownBlock = rowOf A := by cases A <;> rfl
set_option maxRecDepth 8000 in
theorem info78 : (Tryd.prog.info? 91).map (fun i => (i.zero, i.size, i.bytes)) = some (some (.pointer none), 1, 8) := by kernel_rfl
section
variable {w : World} {base p : Nat} {A : Option Addr} {cap : Nat} {ps : List Nat} {os : List Oj}
set_option maxRecDepth 8000 in
theorem StAt.push (h : StAt w base p A cap ps os) (o : Oj) (t : TypeId) (cs : Array Value) {w' : World} {g cap' : Nat}
    (hown : w'.ownsRow base 91 1 (.slice (some ⟨g, 0, none⟩) (os.length + 1) cap') (os.length + 1) (ps.map pv ++ [pv w.heap.size]))
    (hg : ((w.alloc (.cells o.cells.toArray 47)).alloc (.cells cs t)).grownBy w' (rowOf A)) (hr : rowOf A = some g ∨ g = w.heap.size + 2) :
    StAt (w'.setCell ⟨p, 0, none⟩ (.slice (some ⟨g, 0, none⟩) (os.length + 1) cap')) base p (some ⟨g, 0, none⟩) cap' (ps ++ [w.heap.size]) (os ++ [o]) ∧
    Below base w (w'.setCell ⟨p, 0, none⟩ (.slice (some ⟨g, 0, none⟩) (os.length + 1) cap')) := by
  have hp := h.lt p (.inl rfl)
  have hl : (os ++ [o]).length = os.length + 1 := by simp
  have hsz : ((w.alloc (.cells o.cells.toArray 47)).alloc (.cells cs t)).heap.size = w.heap.size + 2 := by simp
  have hb2 : Below w.heap.size w ((w.alloc (.cells o.cells.toArray 47)).alloc (.cells cs t)) := ((Below.refl _ _).alloc (Nat.le_refl _) _).alloc (by simp) _
  have hgl : ∀ k, k < w.heap.size → rowOf A ≠ some k → w'.heap[k]? = w.heap[k]? := fun k hk hne => (hg.block k (by rw [hsz]; omega) (fun e => hne e.symm)).trans (hb2.block k hk)
  have hgp : g ≠ p := by
    rcases hr with hr | rfl
    · rintro rfl; exact h.pn hr
    · omega
  have hgb : ∀ b ∈ ps, g ≠ b := fun b hb => by
    have := h.lt b (.inr (.inr hb))
    rcases hr with hr | rfl
    · rintro rfl; exact (h.pps _ hb).2.2 hr
    · omega
  have hgB : g ≠ w.heap.size := by
    rcases hr with hr | rfl
    · have := h.own_lt hr; omega
    · omega
  have hset : ∀ k, k ≠ p → (w'.setCell ⟨p, 0, none⟩ (.slice (some ⟨g, 0, none⟩) (os.length + 1) cap')).heap[k]? = w'.heap[k]? := fun k hk => Below.heap_setCell _ _ _ _ hk
  have hA : rowOf A ≠ some w.heap.size := fun e => by have := h.own_lt e; omega
  refine ⟨⟨?_, ?_, by simp [h.len], ?_, h.pge, ?_, ?_, ?_⟩, ?_⟩
  · have hb : Blk w' p 68 #[.slice A os.length cap] := (hgl p hp.2 h.pn).trans h.blk
    have := hb.set_ 0 (.slice (some ⟨g, 0, none⟩) (os.length + 1) cap')
    rw [hl]
    simpa using this
  · rw [hl, List.map_append]
    exact own_keep hown fun k hk => hset k (by injection hk with hk; simp only at hk; omega)
  · intro i h1 h2
    rw [hl] at h1
    by_cases hi : i < os.length
    · have hi' : i < ps.length := by rw [h.len]; exact hi
      rw [List.getElem_append_left hi', List.getElem_append_left hi]
      have hb := h.pps _ (List.getElem_mem hi')
      exact (hset _ hb.2.1).trans ((hgl _ (h.lt _ (.inr (.inr (List.getElem_mem hi')))).2 hb.2.2).trans (h.obj i hi hi'))
    · obtain rfl : i = os.length := by omega
      have e1 : (os ++ [o])[os.length]'(by simp) = o := by simp
      have e2 : (ps ++ [w.heap.size])[os.length]'h2 = w.heap.size := by
        rw [List.getElem_append_right (by rw [h.len]; exact Nat.le_refl _)]
        simp
      rw [e1, e2]
      refine (hset _ (by omega)).trans ((hg.block _ (by rw [hsz]; omega) (fun e => hA e.symm)).trans ?_)
      exact (Blk.new w 47 o.cells.toArray).alloc _
  · intro e
    injection e with e
    exact hgp e
  · intro b hb
    rcases List.mem_append.1 hb with hb | hb
    · have := h.pps b hb
      refine ⟨this.1, this.2.1, fun e => ?_⟩
      injection e with e
      exact hgb b hb e
    · obtain rfl : b = w.heap.size := by simpa using hb
      refine ⟨by omega, by omega, fun e => ?_⟩
      injection e with e
      exact hgB e
  · rw [List.nodup_append]
    refine ⟨h.nd, by simp, fun a ha b hb => ?_⟩
    obtain rfl : b = w.heap.size := by simpa using hb
    have := h.lt a (.inr (.inr ha))
    omega
  · have hb : Below base w w' := (hb2.mono (by omega)).grown hg (by rw [hsz]; omega) fun k hk => (h.own_lt hk).1
    exact hb.setCell (p := ⟨p, 0, none⟩) hp.1 _
set_option maxRecDepth 8000 in
set_option maxHeartbeats 1000000 in
theorem add_at (h : StAt w base p A cap ps os) (hn : os.length ≤ 1000) (o : Oj) :
    Calls Tryd.prog 24 #[pv p, o.val] w fun e w' => e = .returned (.tuple #[]) ∧ ∃ A' cap', StAt w' base p A' cap' (ps ++ [w.heap.size]) (os ++ [o]) ∧ Below base w w' := by
  have HS := Lib.hid h
  have HN := Lib.hid hn
  have hp := h.lt p (.inl rfl)
  have c0 := (h.alloc (.cells o.cells.toArray 47)).c0
  have HOW := Lib.hid ((h.alloc (.cells o.cells.toArray 47)).alloc (.cells #[pv w.heap.size] 91)).own
  have HP := Lib.hid hp
  have HC := Lib.hid (((h.alloc (.cells o.cells.toArray 47)).alloc (.cells #[pv w.heap.size] 91)).blk)
  have HPN := Lib.hid h.pn
  obtain ⟨i0, hi, hz0, hz1, hz2⟩ := info_parts info78
  have HI := Lib.hid (show _ ∧ _ ∧ _ ∧ _ from ⟨hi, hz0, hz1, hz2⟩)
  clear h hn hp hi hz0 hz1 hz2
  go_enter Tryd.func24, Tryd.ntmps24
  go_wp2_with (refine wpList_append_lies _ rfl (.tmp 8) (.tmp 9) 66 rfl base 91 i0 (.pointer none) 1 8 Tryd.underlying66 HI.out.1 HI.out.2.1 HI.out.2.2.1 HI.out.2.2.2 rfl (by decide) (.slice A os.length cap) os.length (ps.map pv) (by rfl) HOW.out ⟨w.heap.size + 1, 0, none⟩ 1 1 [pv w.heap.size] (by first | rfl | simp) rfl ?_ (by simp [Value.oneCell']) (by decide) (by have := HN.out; simp only [maxLen]; omega) (by have := HN.out; omega) (by have := HP.out; simp; omega) _ rfl ?_)
  · intro j u hu
    rw [Addr.add_mid, Nat.zero_add]
    have := (Blk.new (w.alloc (.cells o.cells.toArray 47)) 91 #[pv w.heap.size]).cell j
    rw [World.size_alloc] at this
    rw [this]
    simpa using hu
  · intro g cap' w' hown hg hr _
    rw [ownBlock_row] at hg hr
    have hpush := HS.out.push o 91 #[pv w.heap.size] hown hg hr
    have hb : Blk w' p 68 #[.slice A os.length cap] := (hg.block p (by have := HP.out; simp; omega) (fun e => HPN.out e.symm)).trans HC.out
    have c1 := (hb.cell 0).trans rfl
    have f1 := hb.frozen 0
    have HPU := Lib.hid hpush
    clear hpush hb hown hg hr c0
    go_wp2
    go_end0
    exact ⟨rfl, _, _, HPU.out⟩
end
/-- the objects l lie from A on -/
def RdO (w : World) (A : Option Addr) (l : List Oj) : Prop := ∀ i (h : i < l.length), ∃ b off, A = some ⟨b, off, none⟩ ∧ ObAt w b (off + i * 163) l[i]
section
variable {w w' : World} {A : Option Addr} {l : List Oj}
theorem RdO.below (h : RdO w A l) (hb : Below w.heap.size w w') : RdO w' A l := fun i hi => by
  obtain ⟨b, off, e, ho⟩ := h i hi
  exact ⟨b, off, e, ho.below hb⟩
theorem RdO.alloc (h : RdO w A l) (o : Obj) : RdO (w.alloc o) A l := h.below ((Below.refl _ _).alloc (Nat.le_refl _) _)
theorem RdO.drew (h : RdO w A l) : RdO w.drew A l := h
end
theorem StAt.nil (w : World) (base : Nat) (hb : base ≤ w.heap.size) : StAt (w.alloc (.cells #[.slice none 0 0] 68)) base w.heap.size none 0 [] [] where
  blk := Blk.new w _ _
  own := ⟨rfl, .inl ⟨rfl, rfl⟩⟩
  len := rfl
  obj := fun i h => absurd h (by simp)
  pge := hb
  pn := fun e => by cases e
  pps := fun b hb => by cases hb
  nd := List.nodup_nil
/-- may these be a store -/
def okAll (n : Int) (l : List Oj) : Prop := ∀ x ∈ l, x.ok n
theorem ok_x {n : Int} {l : List Oj} {k : Nat} {x : Oj} (h : okAll n l) (hk : k < l.length) (e : l[k] = x) : x.ok n := e ▸ h _ (List.getElem_mem hk)
set_option maxRecDepth 8000 in
theorem take_x {α : Type} {l : List α} {k : Nat} {x : α} (hk : k < l.length) (e : l[k] = x) : l.take k ++ [x] = l.take (k + 1) := by rw [List.take_succ_eq_append_getElem hk, e]
set_option maxRecDepth 8000 in
theorem of_many (A : Option Addr) (len cap : Nat) (w : World) (hn : ¬ (1 ≤ len ∧ len ≤ 64)) :
    Calls Tryd.prog 22 #[.slice A len cap] w fun e w' => e = .returned (.tuple #[.pointer none, .int .i64 2]) ∧ w = w' := by
  have DM := Lib.hid (show decide (1 ≤ (len : Int) ∧ (len : Int) ≤ 64) = false from decide_eq_false (by omega))
  clear hn
  go_enter Tryd.func22, Tryd.ntmps22
  go_wp2_with (go_at_call 49; refine (DM.out ▸ many_any (len : Int) _).mono ?_; rintro e w1 ⟨rfl, rfl⟩)
  go_ret2
  exact ⟨rfl, rfl⟩
set_option maxRecDepth 100000 in
set_option maxHeartbeats 2000000 in
theorem of_any (A : Option Addr) (l : List Oj) (cap : Nat) (w : World) (hT : Tab w) (hr : RdO w A l) (h1 : 1 ≤ l.length) (h2 : l.length ≤ 64) :
    Calls Tryd.prog 22 #[.slice A l.length cap] w fun e w' => ((∃ A' cap' ps, e = .returned (.tuple #[pv w.heap.size, .int .i64 0]) ∧ StAt w' w.heap.size w.heap.size A' cap' ps l ∧ okAll l.length l) ∨ (e = .returned (.tuple #[.pointer none, .int .i64 2]) ∧ ¬ okAll l.length l)) ∧ Below w.heap.size w w' := by
  have hz := z34
  have hbl := oz_len
  have DM := Lib.hid (show decide (1 ≤ (l.length : Int) ∧ (l.length : Int) ≤ 64) = true from decide_eq_true (by omega))
  have HT := Lib.hid (hT.alloc (.cells #[.slice none 0 0] 68))
  have HR := Lib.hid (hr.alloc (.cells #[.slice none 0 0] 68))
  have HB := Lib.hid ((Below.refl w.heap.size w).alloc (Nat.le_refl _) (.cells #[.slice none 0 0] 68))
  have HS := Lib.hid (StAt.nil w w.heap.size (Nat.le_refl _))
  have H2 := Lib.hid h2
  have HTW := Lib.hid hT
  have HRW := Lib.hid hr
  clear hT hr h1
  go_enter Tryd.func22, Tryd.ntmps22
  go_wp2_with (go_at_call 49; refine (DM.out ▸ many_any (l.length : Int) _).mono ?_; rintro e w1 ⟨rfl, rfl⟩)
  generalize w.alloc (.cells #[.slice none 0 0] 68) = w0 at HT HR HB HS ⊢
  go_loopw [6, 7, 16] (fun _ _ i wr => ∃ k : Nat, k ≤ l.length ∧ i = .int .i64 k ∧ Below w.heap.size w wr ∧ Tab wr ∧ RdO wr A l ∧ (∃ A' cap' ps, StAt wr w.heap.size w.heap.size A' cap' ps (l.take k)) ∧ okAll l.length (l.take k)) (fun _ _ i _ => l.length + 1 - (intOf i).toNat)
  case atStart => exact ⟨0, by omega, rfl, HB.out, HT.out, HR.out, ⟨_, _, _, HS.out⟩, fun x hx => by simp at hx⟩
  case round =>
    obtain ⟨k, hk, rfl, hb, ht, hrd, ⟨A', cap', ps, hs⟩, hok⟩ := hrel
    clear HT HR HB HS
    by_cases hlt : k < l.length
    · obtain ⟨b, off, rfl, hob⟩ := hrd k hlt
      obtain ⟨x, hx⟩ : ∃ x, l[k] = x := ⟨_, rfl⟩
      rw [hx] at hob
      have HB0 := Lib.hid (hb.alloc hb.size (.cells x.cells.toArray 47))
      have HT0 := Lib.hid (ht.alloc (.cells x.cells.toArray 47))
      have HO0 := Lib.hid hob
      have HR0 := Lib.hid (hrd.alloc (.cells x.cells.toArray 47))
      have HS0 := Lib.hid (hs.alloc (.cells x.cells.toArray 47))
      have HG0 := Lib.hid (Blk.new wr 47 x.cells.toArray)
      have HK := Lib.hid hok
      have HX := Lib.hid hx
      have HLT := Lib.hid hlt
      clear hb ht hrd hs hok hob hx
      by_cases hxo : x.ok l.length
      · have HXO := Lib.hid hxo
        clear hxo
        go_wp2_with (first
          | (refine wpList_yields (S := fun w' => ObAt w' b (off + k * 163) x) (y_ob (by rfl) (.tmp 18) (by rfl) b (off + k * 163) (by rfl) x (fun _ h => h)) HO0.out ?_)
          | (refine wpList_store_last rfl (.tmp 6) (.tmp 19) rfl _ rfl rfl x oz rfl ?_)
          | (refine wpList_yields (S := fun w' => ObAt w' wr.heap.size 0 x) (y_ob (by rfl) (.tmp 6) (by rfl) wr.heap.size 0 (by rfl) x (fun _ h => h)) HG0.out.ob ?_)
          | (refine wpList_yields (S := fun w' => ObAt w' wr.heap.size 0 x) (y_ob (by rfl) (.tmp 6) (by rfl) wr.heap.size 0 (by rfl) x (fun _ h => h)) HG1.out.ob ?_)
          | (go_at_call 50; refine (Oj.chk_yes HXO.out ▸ check_any x l.length _ HT0.out).mono ?_; rintro e w1 ⟨rfl, b1⟩; have HB1 := Lib.hid (HB0.out.trans (b1.mono HB0.out.size)); have HT1 := Lib.hid (HT0.out.below b1); have HR1 := Lib.hid (HR0.out.below b1); have HS1 := Lib.hid (HS0.out.below b1); have HG1 := Lib.hid (HG0.out.keep b1); clear b1)
          | (go_at_call 24; refine (add_at HS1.out (by have := H2.out; rw [List.length_take]; omega) x).mono ?_; rintro e w2 ⟨rfl, A2, cap2, hs2, b2⟩; have HB2 := Lib.hid (HB1.out.trans b2); have HT2 := Lib.hid (HTW.out.below HB2.out); have HR2 := Lib.hid (HRW.out.below HB2.out); have HS2 := Lib.hid hs2; clear b2 hs2))
        go_roundw
        case rel => exact ⟨k + 1, by omega, by go_num, HB2.out, HT2.out, HR2.out, ⟨_, _, _, take_x HLT.out HX.out ▸ HS2.out⟩, take_snoc_x HLT.out HX.out HK.out HXO.out⟩
        case measure => simp [intOf]; omega
      · have HXO := Lib.hid hxo
        clear hxo
        go_wp2_with (first
          | (refine wpList_yields (S := fun w' => ObAt w' b (off + k * 163) x) (y_ob (by rfl) (.tmp 18) (by rfl) b (off + k * 163) (by rfl) x (fun _ h => h)) HO0.out ?_)
          | (refine wpList_store_last rfl (.tmp 6) (.tmp 19) rfl _ rfl rfl x oz rfl ?_)
          | (refine wpList_yields (S := fun w' => ObAt w' wr.heap.size 0 x) (y_ob (by rfl) (.tmp 6) (by rfl) wr.heap.size 0 (by rfl) x (fun _ h => h)) HG0.out.ob ?_)
          | (refine wpList_yields (S := fun w' => ObAt w' wr.heap.size 0 x) (y_ob (by rfl) (.tmp 6) (by rfl) wr.heap.size 0 (by rfl) x (fun _ h => h)) HG1.out.ob ?_)
          | (go_at_call 50; refine (Oj.chk_no HXO.out ▸ check_any x l.length _ HT0.out).mono ?_; rintro e w1 ⟨rfl, b1⟩; have HB1 := Lib.hid (HB0.out.trans (b1.mono HB0.out.size)); have HT1 := Lib.hid (HT0.out.below b1); have HR1 := Lib.hid (HR0.out.below b1); have HS1 := Lib.hid (HS0.out.below b1); have HG1 := Lib.hid (HG0.out.keep b1); clear b1))
        go_ret2
        exact ⟨.inr ⟨rfl, fun h => HXO.out (ok_x h HLT.out HX.out)⟩, HB1.out⟩
    · obtain rfl : k = l.length := by omega
      rw [List.take_length] at hs hok
      go_wp2
      go_ret2
      exact ⟨.inl ⟨_, _, _, rfl, hs, hok⟩, hb⟩
end Go.Proofs.YteodgefnbmiblaaDoor
namespace Go.Proofs.YteodgefnbmiblaaDoor
open Go.RowKit
set_option maxRecDepth 8000 in
theorem infoOb : (Tryd.prog.info? 47).map (fun i => (i.zero, i.size, i.bytes)) = some (some oz.val, 163, 856) := by kernel_rfl
/-- n free ones, as they lie -/
def mkO (n : Nat) : List Value := (madeCells oz.cells.toArray (n * 163)).toList
set_option maxRecDepth 8000 in
theorem made_get (z : List Value) (hl : z.length = 163) (n i j : Nat) (hi : i < n) (hj : j < 163) : (madeCells z.toArray (n * 163)).toList[i * 163 + j]? = z[j]? := by
  unfold madeCells
  rw [Array.getElem?_toList, Array.getElem?_map, Array.getElem?_range, if_pos (by
    have : (i + 1) * 163 ≤ n * 163 := Nat.mul_le_mul_right _ hi
    omega)]
  have e : (i * 163 + j) % 163 = j := by rw [Nat.mul_comm, Nat.mul_add_mod]; exact Nat.mod_eq_of_lt hj
  have hj' : j < z.length := by omega
  simp only [Option.map_some, List.size_toArray, hl, e]
  rw [List.getElem?_eq_getElem hj']
  congr 1
  rw [getElem!_pos z.toArray j (by simpa using hj')]
  simp
theorem mkO_get (n i j : Nat) (hi : i < n) (hj : j < 163) : (mkO n)[i * 163 + j]? = oz.cells[j]? := made_get oz.cells oz_len n i j hi hj
set_option maxRecDepth 8000 in
theorem mk_rdo {w : World} {g : Nat} {t : TypeId} (n : Nat) (h : Blk w g t (mkO n).toArray) : RdO w (some ⟨g, 0, none⟩) (List.replicate n oz) := fun i hi => by
  have hi' : i < n := by simpa using hi
  refine ⟨g, 0, rfl, fun j v hv => ?_⟩
  rw [List.getElem_replicate] at hv
  have hj : j < 163 := by have := (List.getElem?_eq_some_iff.1 hv).1; have := oz_len; omega
  rw [Nat.zero_add, h.cell, ← hv, ← mkO_get n i j hi' hj]
  simp
set_option maxRecDepth 8000 in
theorem run_mk (n : Nat) (hn : n ≤ 64) (w : World) : (Instr.makeSlice 22 (.int .i64 (n : Int)) (.int .i64 (n : Int))).run Tryd.prog w = .ok (.slice (some ⟨w.heap.size, 0, none⟩) n n) (w.alloc (.cells (mkO n).toArray 47)) := by
  obtain ⟨i, hi, hz, hs, hb⟩ := info_parts infoOb
  have hr := run_make (P := Tryd.prog) w 22 47 i oz.val Tryd.underlying22 hi hz .i64 .i64 n n (by omega) (Int.le_refl _) (by rw [hb]; omega) (by omega)
  rw [hs, Int.toNat_natCast] at hr
  rw [hr]
  rfl
theorem oz_ok {n : Int} (h1 : 1 ≤ n) (h2 : n ≤ 64) : oz.ok n := ⟨⟨h1, h2⟩, by decide, by decide, .inr (.inr ⟨.inl rfl, rfl, rfl, rfl⟩)⟩
theorem okAll_oz {n : Nat} (h1 : 1 ≤ n) (h2 : n ≤ 64) : okAll (n : Int) (List.replicate n oz) := fun x hx => by
  obtain rfl := (List.mem_replicate.1 hx).2
  exact oz_ok (by omega) (by omega)
set_option maxRecDepth 8000 in
theorem ofN (g n : Nat) (w : World) (hT : Tab w) (hr : RdO w (some ⟨g, 0, none⟩) (List.replicate n oz)) (h1 : 1 ≤ n) (h2 : n ≤ 64) :
    Calls Tryd.prog 22 #[.slice (some ⟨g, 0, none⟩) n n] w fun e w' => e = .returned (.tuple #[pv w.heap.size, .int .i64 0]) ∧ (∃ A' cap' ps, StAt w' w.heap.size w.heap.size A' cap' ps (List.replicate n oz)) ∧ Below w.heap.size w w' := by
  have hl : (List.replicate n oz).length = n := List.length_replicate
  have := of_any (some ⟨g, 0, none⟩) (List.replicate n oz) n w hT hr (by omega) (by omega)
  rw [hl] at this
  refine this.mono ?_
  rintro e w' ⟨⟨A', cap', ps, he, hs, _⟩ | ⟨_, hno⟩, hb⟩
  · exact ⟨he, ⟨_, _, _, hs⟩, hb⟩
  · exact absurd (okAll_oz h1 h2) hno
end Go.Proofs.YteodgefnbmiblaaDoor
namespace Go.Proofs.YteodgefnbmiblaaDoor
open Go.RowKit
attribute [local go_sem] Oper.semAt_some
set_option maxRecDepth 8000 in
theorem cnt_of {x : Ky} {kk cc ll : Int} (hf : x.of) : x.cnt kk cc ll = true ↔ x.want = kk ∧ x.c = cc ∧ (x.k ≠ 7 ∨ x.l = ll) := by
  unfold Ky.cnt
  simp only [decide_eq_true_eq]
  exact ⟨fun h => h.2 hf, fun h => ⟨hf.1, fun _ => h⟩⟩
set_option maxRecDepth 8000 in
theorem cnt_f {x : Ky} {kk cc ll : Int} (hf : x.of) (h : ¬ (x.want = kk ∧ x.c = cc ∧ (x.k ≠ 7 ∨ x.l = ll))) : x.cnt kk cc ll = false := by
  rw [← Bool.not_eq_true]
  exact fun e => h ((cnt_of hf).1 e)
set_option maxRecDepth 8000 in
theorem want_of {x : Ky} (hf : x.of) : kWants x.k.toNat = x.want := by
  unfold Ky.want
  rw [if_pos hf, wants_of hf]
set_option maxRecDepth 8000 in
theorem want_ne {x : Ky} (hf : x.of) : x.want ≠ 0 := by
  rw [← want_of hf, wants_of hf]
  split <;> decide
set_option maxRecDepth 8000 in
theorem count_any (x : Ky) (l : List Value) (kk cc ll : Int) (w : World) (hT : Tab w) (ho : Ob l kk cc ll) :
    Calls Tryd.prog 42 #[x.val, .agg l.toArray] w fun e w' => e = .returned (.bool (x.cnt kk cc ll)) ∧ Below w.heap.size w w' := by
  by_cases hok : x.ok
  · by_cases hf : x.of
    · have hw := want_of hf
      have hn := want_ne hf
      have hkn := hf.2
      obtain ⟨k, oo, c, l', r, v⟩ := x
      simp only at hkn
      obtain ⟨n, rfl⟩ := Int.eq_ofNat_of_zero_le (show 0 ≤ k by omega)
      by_cases h7 : n = 7
      · subst h7
        by_cases hk : Ky.want ⟨((7 : Nat) : Int), oo, c, l', r, v⟩ = kk
        · by_cases hc : c = cc
          · have e : Ky.cnt ⟨((7 : Nat) : Int), oo, c, l', r, v⟩ kk cc ll = (l' == ll) := by
              rw [Bool.eq_iff_iff, cnt_of hf]
              exact ⟨fun h => beq_iff_eq.2 (h.2.2.resolve_left (fun e => e rfl)), fun h => ⟨hk, hc, .inr (beq_iff_eq.1 h)⟩⟩
            rw [e]
            exact cou7_y oo c l' r v l kk cc ll w hT ho hok _ hw hn hk hc
          · rw [cnt_f hf (fun h => hc h.2.1)]
            exact cou7_c oo c l' r v l kk cc ll w hT ho hok _ hw hn hk hc
        · rw [cnt_f hf (fun h => hk h.1)]
          exact cou7_k oo c l' r v l kk cc ll w hT ho hok _ hw hn hk
      · have h7' : ((n : Int)) ≠ 7 := by omega
        by_cases hk : Ky.want ⟨(n : Int), oo, c, l', r, v⟩ = kk
        · by_cases hc : c = cc
          · rw [cnt_yes ⟨hok, fun _ => ⟨hk, hc, .inl h7'⟩⟩]
            exact cou_y n oo c l' r v l kk cc ll w hT ho hok _ hw hn h7 hk hc
          · rw [cnt_f hf (fun h => hc h.2.1)]
            exact cou_c n oo c l' r v l kk cc ll w hT ho hok _ hw hn h7 hk hc
        · rw [cnt_f hf (fun h => hk h.1)]
          exact cou_k n oo c l' r v l kk cc ll w hT ho hok _ hw hn h7 hk
    · rw [cnt_yes ⟨hok, fun h => absurd h hf⟩]
      have hw := wants_not hf hok
      have hk0 := okK_in hok
      obtain ⟨k, oo, c, l', r, v⟩ := x
      simp only at hk0
      obtain ⟨n, rfl⟩ := Int.eq_ofNat_of_zero_le hk0.1
      exact cou_none n oo c l' r v l kk cc ll w hT ho hok _ hw rfl
  · rw [cnt_no (fun h => hok h.1)]
    exact cou_bad x l kk cc ll w hT ho hok
end Go.Proofs.YteodgefnbmiblaaDoor
namespace Go.Proofs.YteodgefnbmiblaaDoor
open Go.RowKit
theorem Oj.ob (o : Oj) : Ob o.cells o.k o.c o.l := ⟨rfl, rfl, rfl⟩
/-- does a key count with an object -/
noncomputable def Ky.cn (x : Ky) (o : Oj) : Bool := x.cnt o.k o.c o.l
theorem cn_any (x : Ky) (o : Oj) (w : World) (hT : Tab w) : Calls Tryd.prog 42 #[x.val, o.val] w fun e w' => e = .returned (.bool (x.cn o)) ∧ Below w.heap.size w w' := count_any x o.cells _ _ _ w hT o.ob
theorem cn_eq {x : Ky} {o : Oj} {b : Bool} {w : World} (h : x.cn o = b) (hT : Tab w) : Calls Tryd.prog 42 #[x.val, o.val] w fun e w' => e = .returned (.bool b) ∧ Below w.heap.size w w' := h ▸ cn_any x o w hT
/-- a pointer to a store, or nil -/
def IsP (v : Value) : Prop := v = .pointer none ∨ ∃ q, v = pv q
theorem Blk.setRow {w : World} {b : Nat} {t : TypeId} {l0 : Array Value} (h : Blk w b t l0) (c : Array Value) : Blk (w.setRow b c) b t c := setRow_heap w b l0 c t (0, 0) h
theorem below_setRow {B : Nat} {a w : World} {b : Nat} (h : Below B a w) (hb : B ≤ b) (c : Array Value) : Below B a (w.setRow b c) := ⟨h.os, h.tape, h.output, by have := h.size; simpa [World.setRow] using this, fun k hk => (setRow_other w b k c (by omega)).trans (h.block k hk)⟩
set_option maxRecDepth 100000 in
set_option maxHeartbeats 2000000 in
theorem nam_not0 (P : Value) (hP : IsP P) (x : Ky) (o : Oj) (hf : ¬ x.of) (w : World) (hT : Tab w) (ha : ∀ W, Below w.heap.size w W → Calls Tryd.prog 14 #[P, .int .i64 0] W fun e' w' => e' = .returned (.tuple #[o.val, .int .i64 0]) ∧ Below W.heap.size W w') :
    Calls Tryd.prog 17 #[P, x.val] w fun e' w' => e' = .returned (.tuple #[oz.val, .bool false]) ∧ Below w.heap.size w w' := by
  have hz := z34
  have hbl := oz_len
  have HA := Lib.hid ha
  have HF := Lib.hid hf
  have HT0 := Lib.hid ((hT.alloc (.cells (kc x.k x.o x.c x.l x.r x.v) 33)).alloc (.cells oz.cells.toArray 47))
  have HB0 := Lib.hid (((Below.refl w.heap.size w).alloc (Nat.le_refl _) (.cells (kc x.k x.o x.c x.l x.r x.v) 33)).alloc (by simp) (.cells oz.cells.toArray 47))
  have HK0 := Lib.hid ((Blk.new w 33 (kc x.k x.o x.c x.l x.r x.v)).alloc (.cells oz.cells.toArray 47))
  have HO0 := Lib.hid (show Blk ((w.alloc (.cells (kc x.k x.o x.c x.l x.r x.v) 33)).alloc (.cells oz.cells.toArray 47)) (w.heap.size + 1) 47 oz.cells.toArray from by have := Blk.new (w.alloc (.cells (kc x.k x.o x.c x.l x.r x.v) 33)) 47 oz.cells.toArray; simpa using this)
  clear hT ha hf
  rcases hP with rfl | ⟨q, rfl⟩
  all_goals
    go_enter Tryd.func17, Tryd.ntmps17
    go_wp2_with (first
      | (go_at_call 44; refine (kname_no x _ HT0.out HF.out).mono ?_; rintro e w1 ⟨rfl, b1⟩; have HB1 := Lib.hid (HB0.out.trans (b1.mono HB0.out.size)); have HT1 := Lib.hid (HT0.out.below b1); have HK1 := Lib.hid (HK0.out.keep b1); have HO1 := Lib.hid (HO0.out.keep b1); clear b1)
      | (go_at_call 14; refine (HA.out _ HB1.out).mono ?_; rintro e w2 ⟨rfl, b2⟩; have HB2 := Lib.hid (((HB1.out.trans (b2.mono HB1.out.size)).alloc (by have := HB1.out.size; have := b2.size; omega) (.cells o.cells.toArray 47))); have HT2 := Lib.hid ((HT1.out.below b2).alloc (.cells o.cells.toArray 47)); have HK2 := Lib.hid ((HK1.out.keep b2).alloc (.cells o.cells.toArray 47)); have HO2 := Lib.hid ((HO1.out.keep b2).alloc (.cells o.cells.toArray 47)); have HG2 := Lib.hid (Blk.new w2 47 o.cells.toArray); obtain ⟨c0, c1, c2, c3, c4, c5⟩ := HK2.out.six; clear b2)
      | (refine wpList_store_last rfl (.tmp 8) (.tmp 19) rfl _ rfl rfl o oz rfl ?_)
      | (refine wpList_yields (S := fun _ => True) (y_build (by rfl) (by rfl) built34) trivial ?_)
      | (refine wpList_store_ob HO2.out rfl (.tmp 4) (.tmp 33) rfl (by rfl) oz rfl ?_))
    exact bodyPost_ret (results_obj rfl _ _ (w.heap.size + 1) oz rfl (HO2.out.setRow _)) rfl ⟨rfl, below_setRow HB2.out (by omega) _⟩
set_option maxRecDepth 100000 in
set_option maxHeartbeats 2000000 in
theorem nam_notE (P : Value) (hP : IsP P) (x : Ky) (o : Oj) (hf : ¬ x.of) (e : Int) (w : World) (hT : Tab w) (ha : ∀ W, Below w.heap.size w W → Calls Tryd.prog 14 #[P, .int .i64 0] W fun e' w' => e' = .returned (.tuple #[o.val, .int .i64 e]) ∧ Below W.heap.size W w') :
    Calls Tryd.prog 17 #[P, x.val] w fun e' w' => e' = .returned (.tuple #[oz.val, .bool false]) ∧ Below w.heap.size w w' := by
  have hz := z34
  have hbl := oz_len
  have HA := Lib.hid ha
  have HF := Lib.hid hf
  have HT0 := Lib.hid ((hT.alloc (.cells (kc x.k x.o x.c x.l x.r x.v) 33)).alloc (.cells oz.cells.toArray 47))
  have HB0 := Lib.hid (((Below.refl w.heap.size w).alloc (Nat.le_refl _) (.cells (kc x.k x.o x.c x.l x.r x.v) 33)).alloc (by simp) (.cells oz.cells.toArray 47))
  have HK0 := Lib.hid ((Blk.new w 33 (kc x.k x.o x.c x.l x.r x.v)).alloc (.cells oz.cells.toArray 47))
  have HO0 := Lib.hid (show Blk ((w.alloc (.cells (kc x.k x.o x.c x.l x.r x.v) 33)).alloc (.cells oz.cells.toArray 47)) (w.heap.size + 1) 47 oz.cells.toArray from by have := Blk.new (w.alloc (.cells (kc x.k x.o x.c x.l x.r x.v) 33)) 47 oz.cells.toArray; simpa using this)
  clear hT ha hf
  rcases hP with rfl | ⟨q, rfl⟩
  all_goals
    go_enter Tryd.func17, Tryd.ntmps17
    go_wp2_with (first
      | (go_at_call 44; refine (kname_no x _ HT0.out HF.out).mono ?_; rintro e w1 ⟨rfl, b1⟩; have HB1 := Lib.hid (HB0.out.trans (b1.mono HB0.out.size)); have HT1 := Lib.hid (HT0.out.below b1); have HK1 := Lib.hid (HK0.out.keep b1); have HO1 := Lib.hid (HO0.out.keep b1); clear b1)
      | (go_at_call 14; refine (HA.out _ HB1.out).mono ?_; rintro e w2 ⟨rfl, b2⟩; have HB2 := Lib.hid (((HB1.out.trans (b2.mono HB1.out.size)).alloc (by have := HB1.out.size; have := b2.size; omega) (.cells o.cells.toArray 47))); have HT2 := Lib.hid ((HT1.out.below b2).alloc (.cells o.cells.toArray 47)); have HK2 := Lib.hid ((HK1.out.keep b2).alloc (.cells o.cells.toArray 47)); have HO2 := Lib.hid ((HO1.out.keep b2).alloc (.cells o.cells.toArray 47)); have HG2 := Lib.hid (Blk.new w2 47 o.cells.toArray); obtain ⟨c0, c1, c2, c3, c4, c5⟩ := HK2.out.six; clear b2)
      | (refine wpList_store_last rfl (.tmp 8) (.tmp 19) rfl _ rfl rfl o oz rfl ?_)
      | (refine wpList_yields (S := fun _ => True) (y_build (by rfl) (by rfl) built34) trivial ?_)
      | (refine wpList_store_ob HO2.out rfl (.tmp 4) (.tmp 33) rfl (by rfl) oz rfl ?_))
    exact bodyPost_ret (results_obj rfl _ _ (w.heap.size + 1) oz rfl (HO2.out.setRow _)) rfl ⟨rfl, below_setRow HB2.out (by omega) _⟩
set_option maxRecDepth 100000 in
set_option maxHeartbeats 2000000 in
theorem nam_out (P : Value) (hP : IsP P) (x : Ky) (o : Oj) (hf : x.of) (e : Int) (he : e ≠ 0) (w : World) (hT : Tab w) (ha : ∀ W, Below w.heap.size w W → Calls Tryd.prog 14 #[P, .int .i64 x.o] W fun e' w' => e' = .returned (.tuple #[o.val, .int .i64 e]) ∧ Below W.heap.size W w') :
    Calls Tryd.prog 17 #[P, x.val] w fun e' w' => e' = .returned (.tuple #[oz.val, .bool false]) ∧ Below w.heap.size w w' := by
  have hz := z34
  have hbl := oz_len
  have HA := Lib.hid ha
  have HF := Lib.hid hf
  have de : (e != 0) = true := by simpa using he
  have HT0 := Lib.hid ((hT.alloc (.cells (kc x.k x.o x.c x.l x.r x.v) 33)).alloc (.cells oz.cells.toArray 47))
  have HB0 := Lib.hid (((Below.refl w.heap.size w).alloc (Nat.le_refl _) (.cells (kc x.k x.o x.c x.l x.r x.v) 33)).alloc (by simp) (.cells oz.cells.toArray 47))
  have HK0 := Lib.hid ((Blk.new w 33 (kc x.k x.o x.c x.l x.r x.v)).alloc (.cells oz.cells.toArray 47))
  have HO0 := Lib.hid (show Blk ((w.alloc (.cells (kc x.k x.o x.c x.l x.r x.v) 33)).alloc (.cells oz.cells.toArray 47)) (w.heap.size + 1) 47 oz.cells.toArray from by have := Blk.new (w.alloc (.cells (kc x.k x.o x.c x.l x.r x.v) 33)) 47 oz.cells.toArray; simpa using this)
  clear hT ha hf he
  rcases hP with rfl | ⟨q, rfl⟩
  all_goals
    go_enter Tryd.func17, Tryd.ntmps17
    go_wp2_with (first
      | (go_at_call 44; refine (kname_yes x _ HT0.out HF.out).mono ?_; rintro e w1 ⟨rfl, b1⟩; have HB1 := Lib.hid (HB0.out.trans (b1.mono HB0.out.size)); have HT1 := Lib.hid (HT0.out.below b1); have HK1 := Lib.hid (HK0.out.keep b1); have HO1 := Lib.hid (HO0.out.keep b1); clear b1)
      | (go_at_call 14; refine (HA.out _ HB1.out).mono ?_; rintro e w2 ⟨rfl, b2⟩; have HB2 := Lib.hid (((HB1.out.trans (b2.mono HB1.out.size)).alloc (by have := HB1.out.size; have := b2.size; omega) (.cells o.cells.toArray 47))); have HT2 := Lib.hid ((HT1.out.below b2).alloc (.cells o.cells.toArray 47)); have HK2 := Lib.hid ((HK1.out.keep b2).alloc (.cells o.cells.toArray 47)); have HO2 := Lib.hid ((HO1.out.keep b2).alloc (.cells o.cells.toArray 47)); have HG2 := Lib.hid (Blk.new w2 47 o.cells.toArray); obtain ⟨c0, c1, c2, c3, c4, c5⟩ := HK2.out.six; clear b2)
      | (refine wpList_store_last rfl (.tmp 8) (.tmp 19) rfl _ rfl rfl o oz rfl ?_)
      | (refine wpList_yields (S := fun _ => True) (y_build (by rfl) (by rfl) built34) trivial ?_)
      | (refine wpList_store_ob HO2.out rfl (.tmp 4) (.tmp 33) rfl (by rfl) oz rfl ?_))
    exact bodyPost_ret (results_obj rfl _ _ (w.heap.size + 1) oz rfl (HO2.out.setRow _)) rfl ⟨rfl, below_setRow HB2.out (by omega) _⟩
set_option maxRecDepth 100000 in
set_option maxHeartbeats 2000000 in
theorem nam_no (P : Value) (hP : IsP P) (x : Ky) (o : Oj) (hf : x.of) (hc : x.cn o = false) (w : World) (hT : Tab w) (ha : ∀ W, Below w.heap.size w W → Calls Tryd.prog 14 #[P, .int .i64 x.o] W fun e' w' => e' = .returned (.tuple #[o.val, .int .i64 0]) ∧ Below W.heap.size W w') :
    Calls Tryd.prog 17 #[P, x.val] w fun e' w' => e' = .returned (.tuple #[oz.val, .bool false]) ∧ Below w.heap.size w w' := by
  have hz := z34
  have hbl := oz_len
  have HA := Lib.hid ha
  have HF := Lib.hid hf
  have HC := Lib.hid hc
  have HT0 := Lib.hid ((hT.alloc (.cells (kc x.k x.o x.c x.l x.r x.v) 33)).alloc (.cells oz.cells.toArray 47))
  have HB0 := Lib.hid (((Below.refl w.heap.size w).alloc (Nat.le_refl _) (.cells (kc x.k x.o x.c x.l x.r x.v) 33)).alloc (by simp) (.cells oz.cells.toArray 47))
  have HK0 := Lib.hid ((Blk.new w 33 (kc x.k x.o x.c x.l x.r x.v)).alloc (.cells oz.cells.toArray 47))
  have HO0 := Lib.hid (show Blk ((w.alloc (.cells (kc x.k x.o x.c x.l x.r x.v) 33)).alloc (.cells oz.cells.toArray 47)) (w.heap.size + 1) 47 oz.cells.toArray from by have := Blk.new (w.alloc (.cells (kc x.k x.o x.c x.l x.r x.v) 33)) 47 oz.cells.toArray; simpa using this)
  clear hT ha hf hc
  rcases hP with rfl | ⟨q, rfl⟩
  all_goals
    go_enter Tryd.func17, Tryd.ntmps17
    go_wp2_with (first
      | (go_at_call 44; refine (kname_yes x _ HT0.out HF.out).mono ?_; rintro e w1 ⟨rfl, b1⟩; have HB1 := Lib.hid (HB0.out.trans (b1.mono HB0.out.size)); have HT1 := Lib.hid (HT0.out.below b1); have HK1 := Lib.hid (HK0.out.keep b1); have HO1 := Lib.hid (HO0.out.keep b1); clear b1)
      | (go_at_call 14; refine (HA.out _ HB1.out).mono ?_; rintro e w2 ⟨rfl, b2⟩; have HB2 := Lib.hid (((HB1.out.trans (b2.mono HB1.out.size)).alloc (by have := HB1.out.size; have := b2.size; omega) (.cells o.cells.toArray 47))); have HT2 := Lib.hid ((HT1.out.below b2).alloc (.cells o.cells.toArray 47)); have HK2 := Lib.hid ((HK1.out.keep b2).alloc (.cells o.cells.toArray 47)); have HO2 := Lib.hid ((HO1.out.keep b2).alloc (.cells o.cells.toArray 47)); have HG2 := Lib.hid (Blk.new w2 47 o.cells.toArray); obtain ⟨c0, c1, c2, c3, c4, c5⟩ := HK2.out.six; clear b2)
      | (refine wpList_store_last rfl (.tmp 8) (.tmp 19) rfl _ rfl rfl o oz rfl ?_)
      | (refine wpList_yields (S := fun w' => ObAt w' w2.heap.size 0 o) (y_ob (by rfl) (.tmp 8) (by rfl) w2.heap.size 0 (by rfl) o (fun _ h => h)) HG2.out.ob ?_)
      | (go_at_call 42; refine (cn_eq HC.out HT2.out).mono ?_; rintro e w3 ⟨rfl, b3⟩; have HB3 := Lib.hid (HB2.out.trans (b3.mono HB2.out.size)); have HO3 := Lib.hid (HO2.out.keep b3); have HG3 := Lib.hid (HG2.out.keep b3); clear b3 c0 c1 c2 c3 c4 c5)
      | (refine wpList_yields (S := fun _ => True) (y_build (by rfl) (by rfl) built34) trivial ?_)
      | (refine wpList_store_ob HO3.out rfl (.tmp 4) (.tmp 33) rfl (by rfl) oz rfl ?_))
    exact bodyPost_ret (results_obj rfl _ _ (w.heap.size + 1) oz rfl (HO3.out.setRow _)) rfl ⟨rfl, below_setRow HB3.out (by omega) _⟩
set_option maxRecDepth 100000 in
set_option maxHeartbeats 2000000 in
theorem nam_yes (P : Value) (hP : IsP P) (x : Ky) (o : Oj) (hf : x.of) (hc : x.cn o = true) (w : World) (hT : Tab w) (ha : ∀ W, Below w.heap.size w W → Calls Tryd.prog 14 #[P, .int .i64 x.o] W fun e' w' => e' = .returned (.tuple #[o.val, .int .i64 0]) ∧ Below W.heap.size W w') :
    Calls Tryd.prog 17 #[P, x.val] w fun e' w' => e' = .returned (.tuple #[o.val, .bool true]) ∧ Below w.heap.size w w' := by
  have hz := z34
  have hbl := oz_len
  have HA := Lib.hid ha
  have HF := Lib.hid hf
  have HC := Lib.hid hc
  have HT0 := Lib.hid ((hT.alloc (.cells (kc x.k x.o x.c x.l x.r x.v) 33)).alloc (.cells oz.cells.toArray 47))
  have HB0 := Lib.hid (((Below.refl w.heap.size w).alloc (Nat.le_refl _) (.cells (kc x.k x.o x.c x.l x.r x.v) 33)).alloc (by simp) (.cells oz.cells.toArray 47))
  have HK0 := Lib.hid ((Blk.new w 33 (kc x.k x.o x.c x.l x.r x.v)).alloc (.cells oz.cells.toArray 47))
  have HO0 := Lib.hid (show Blk ((w.alloc (.cells (kc x.k x.o x.c x.l x.r x.v) 33)).alloc (.cells oz.cells.toArray 47)) (w.heap.size + 1) 47 oz.cells.toArray from by have := Blk.new (w.alloc (.cells (kc x.k x.o x.c x.l x.r x.v) 33)) 47 oz.cells.toArray; simpa using this)
  clear hT ha hf hc
  rcases hP with rfl | ⟨q, rfl⟩
  all_goals
    go_enter Tryd.func17, Tryd.ntmps17
    go_wp2_with (first
      | (go_at_call 44; refine (kname_yes x _ HT0.out HF.out).mono ?_; rintro e w1 ⟨rfl, b1⟩; have HB1 := Lib.hid (HB0.out.trans (b1.mono HB0.out.size)); have HT1 := Lib.hid (HT0.out.below b1); have HK1 := Lib.hid (HK0.out.keep b1); have HO1 := Lib.hid (HO0.out.keep b1); clear b1)
      | (go_at_call 14; refine (HA.out _ HB1.out).mono ?_; rintro e w2 ⟨rfl, b2⟩; have HB2 := Lib.hid (((HB1.out.trans (b2.mono HB1.out.size)).alloc (by have := HB1.out.size; have := b2.size; omega) (.cells o.cells.toArray 47))); have HT2 := Lib.hid ((HT1.out.below b2).alloc (.cells o.cells.toArray 47)); have HK2 := Lib.hid ((HK1.out.keep b2).alloc (.cells o.cells.toArray 47)); have HO2 := Lib.hid ((HO1.out.keep b2).alloc (.cells o.cells.toArray 47)); have HG2 := Lib.hid (Blk.new w2 47 o.cells.toArray); obtain ⟨c0, c1, c2, c3, c4, c5⟩ := HK2.out.six; clear b2)
      | (refine wpList_store_last rfl (.tmp 8) (.tmp 19) rfl _ rfl rfl o oz rfl ?_)
      | (refine wpList_yields (S := fun w' => ObAt w' w2.heap.size 0 o) (y_ob (by rfl) (.tmp 8) (by rfl) w2.heap.size 0 (by rfl) o (fun _ h => h)) HG2.out.ob ?_)
      | (go_at_call 42; refine (cn_eq HC.out HT2.out).mono ?_; rintro e w3 ⟨rfl, b3⟩; have HB3 := Lib.hid (HB2.out.trans (b3.mono HB2.out.size)); have HO3 := Lib.hid (HO2.out.keep b3); have HG3 := Lib.hid (HG2.out.keep b3); clear b3 c0 c1 c2 c3 c4 c5)
      | (refine wpList_yields (S := fun w' => ObAt w' w2.heap.size 0 o) (y_ob (by rfl) (.tmp 8) (by rfl) w2.heap.size 0 (by rfl) o (fun _ h => h)) HG3.out.ob ?_)
      | (refine wpList_store_ob HO3.out rfl (.tmp 4) (.tmp 34) rfl (by rfl) o rfl ?_))
    exact bodyPost_ret (results_obj rfl _ _ (w.heap.size + 1) o rfl (HO3.out.setRow _)) rfl ⟨rfl, below_setRow HB3.out (by omega) _⟩
end Go.Proofs.YteodgefnbmiblaaDoor

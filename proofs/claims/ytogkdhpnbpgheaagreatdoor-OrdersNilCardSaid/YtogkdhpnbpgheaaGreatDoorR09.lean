/- objects: add, Of, New. -/
import Derived.Test.YtogkdhpnbpgheaaGreatDoorR08
import Derived.Laws.MakeOwn
import Derived.Laws.OwnMore
namespace Go.Proofs.YtogkdhpnbpgheaaGreatDoor
open Go.RowKit
set_option maxRecDepth 8000 in
theorem ownBlock_row (A : Option Addr) (n c : Nat) : (Value.slice A n c).ownBlock = rowOf A := by cases A <;> rfl
set_option maxRecDepth 8000 in
theorem info78 : (Tryz.prog.info? 84).map (fun i => (i.zero, i.size, i.bytes)) = some (some (.pointer none), 1, 8) := by kernel_rfl
section
variable {w : World} {base p : Nat} {A : Option Addr} {cap : Nat} {ps : List Nat} {os : List Oj}
set_option maxRecDepth 8000 in
theorem StAt.push (h : StAt w base p A cap ps os) (o : Oj) (t : TypeId) (cs : Array Value) {w' : World} {g cap' : Nat}
    (hown : w'.ownsRow base 84 1 (.slice (some ⟨g, 0, none⟩) (os.length + 1) cap') (os.length + 1) (ps.map pv ++ [pv w.heap.size]))
    (hg : ((w.alloc (.cells o.cells.toArray 49)).alloc (.cells cs t)).grownBy w' (rowOf A)) (hr : rowOf A = some g ∨ g = w.heap.size + 2) :
    StAt (w'.setCell ⟨p, 0, none⟩ (.slice (some ⟨g, 0, none⟩) (os.length + 1) cap')) base p (some ⟨g, 0, none⟩) cap' (ps ++ [w.heap.size]) (os ++ [o]) ∧
    Below base w (w'.setCell ⟨p, 0, none⟩ (.slice (some ⟨g, 0, none⟩) (os.length + 1) cap')) := by
  have hp := h.lt p (.inl rfl)
  have hl : (os ++ [o]).length = os.length + 1 := by simp
  have hsz : ((w.alloc (.cells o.cells.toArray 49)).alloc (.cells cs t)).heap.size = w.heap.size + 2 := by simp
  have hb2 : Below w.heap.size w ((w.alloc (.cells o.cells.toArray 49)).alloc (.cells cs t)) := ((Below.refl _ _).alloc (Nat.le_refl _) _).alloc (by simp) _
  have hgl : ∀ k, k < w.heap.size → rowOf A ≠ some k → w'.heap[k]? = w.heap[k]? := fun k hk hne => (hg.block k (by rw [hsz]; omega) (fun e => hne e.symm)).trans (hb2.block k hk)
  have hgp : g ≠ p := by
    rcases hr with hr | rfl
    · rintro rfl; exact h.pn hr
    · omega
  have hgb : ∀ b ∈ ps, g ≠ b := fun b hb => by
    have := h.lt b (.inr (.inr hb))
    rcases hr with hr | rfl
    · rintro rfl; exact (h.pps _ hb).2.2 hr
    · omega
  have hgB : g ≠ w.heap.size := by
    rcases hr with hr | rfl
    · have := h.own_lt hr; omega
    · omega
  have hset : ∀ k, k ≠ p → (w'.setCell ⟨p, 0, none⟩ (.slice (some ⟨g, 0, none⟩) (os.length + 1) cap')).heap[k]? = w'.heap[k]? := fun k hk => Below.heap_setCell _ _ _ _ hk
  have hA : rowOf A ≠ some w.heap.size := fun e => by have := h.own_lt e; omega
  refine ⟨⟨?_, ?_, by simp [h.len], ?_, h.pge, ?_, ?_, ?_⟩, ?_⟩
  · have hb : Blk w' p 56 #[.slice A os.length cap] := (hgl p hp.2 h.pn).trans h.blk
    have := hb.set_ 0 (.slice (some ⟨g, 0, none⟩) (os.length + 1) cap')
    rw [hl]
    simpa using this
  · rw [hl, List.map_append]
    exact own_keep hown fun k hk => hset k (by injection hk with hk; simp only at hk; omega)
  · intro i h1 h2
    rw [hl] at h1
    by_cases hi : i < os.length
    · have hi' : i < ps.length := by rw [h.len]; exact hi
      rw [List.getElem_append_left hi', List.getElem_append_left hi]
      have hb := h.pps _ (List.getElem_mem hi')
      exact (hset _ hb.2.1).trans ((hgl _ (h.lt _ (.inr (.inr (List.getElem_mem hi')))).2 hb.2.2).trans (h.obj i hi hi'))
    · obtain rfl : i = os.length := by omega
      have e1 : (os ++ [o])[os.length]'(by simp) = o := by simp
      have e2 : (ps ++ [w.heap.size])[os.length]'h2 = w.heap.size := by
        rw [List.getElem_append_right (by rw [h.len]; exact Nat.le_refl _)]
        simp
      rw [e1, e2]
      refine (hset _ (by omega)).trans ((hg.block _ (by rw [hsz]; omega) (fun e => hA e.symm)).trans ?_)
      exact (Blk.new w 49 o.cells.toArray).alloc _
  · intro e
    injection e with e
    exact hgp e
  · intro b hb
    rcases List.mem_append.1 hb with hb | hb
    · have := h.pps b hb
      refine ⟨this.1, this.2.1, fun e => ?_⟩
      injection e with e
      exact hgb b hb e
    · obtain rfl : b = w.heap.size := by simpa using hb
      refine ⟨by omega, by omega, fun e => ?_⟩
      injection e with e
      exact hgB e
  · rw [List.nodup_append]
    refine ⟨h.nd, by simp, fun a ha b hb => ?_⟩
    obtain rfl : b = w.heap.size := by simpa using hb
    have := h.lt a (.inr (.inr ha))
    omega
  · have hb : Below base w w' := (hb2.mono (by omega)).grown hg (by rw [hsz]; omega) fun k hk => (h.own_lt hk).1
    exact hb.setCell (p := ⟨p, 0, none⟩) hp.1 _
set_option maxRecDepth 8000 in
set_option maxHeartbeats 1000000 in
theorem add_at (h : StAt w base p A cap ps os) (hn : os.length ≤ 1000) (o : Oj) :
    Calls Tryz.prog 36 #[pv p, o.val] w fun e w' => e = .returned (.tuple #[]) ∧ ∃ A' cap', StAt w' base p A' cap' (ps ++ [w.heap.size]) (os ++ [o]) ∧ Below base w w' := by
  have HS := Lib.hid h
  have HN := Lib.hid hn
  have hp := h.lt p (.inl rfl)
  have c0 := (h.alloc (.cells o.cells.toArray 49)).c0
  have HOW := Lib.hid ((h.alloc (.cells o.cells.toArray 49)).alloc (.cells #[pv w.heap.size] 84)).own
  have HP := Lib.hid hp
  have HC := Lib.hid (((h.alloc (.cells o.cells.toArray 49)).alloc (.cells #[pv w.heap.size] 84)).blk)
  have HPN := Lib.hid h.pn
  obtain ⟨i0, hi, hz0, hz1, hz2⟩ := info_parts info78
  have HI := Lib.hid (show _ ∧ _ ∧ _ ∧ _ from ⟨hi, hz0, hz1, hz2⟩)
  clear h hn hp hi hz0 hz1 hz2
  go_enter Tryz.func36, Tryz.ntmps36
  go_wp2_with (refine wpList_append_lies _ rfl (.tmp 8) (.tmp 9) 54 rfl base 84 i0 (.pointer none) 1 8 Tryz.underlying54 HI.out.1 HI.out.2.1 HI.out.2.2.1 HI.out.2.2.2 rfl (by decide) (.slice A os.length cap) os.length (ps.map pv) (by rfl) HOW.out ⟨w.heap.size + 1, 0, none⟩ 1 1 [pv w.heap.size] (by first | rfl | simp) rfl ?_ (by simp [Value.oneCell']) (by decide) (by have := HN.out; simp only [maxLen]; omega) (by have := HN.out; omega) (by have := HP.out; simp; omega) _ rfl ?_)
  · intro j u hu
    rw [Addr.add_mid, Nat.zero_add]
    have := (Blk.new (w.alloc (.cells o.cells.toArray 49)) 84 #[pv w.heap.size]).cell j
    rw [World.size_alloc] at this
    rw [this]
    simpa using hu
  · intro g cap' w' hown hg hr _
    rw [ownBlock_row] at hg hr
    have hpush := HS.out.push o 84 #[pv w.heap.size] hown hg hr
    have hb : Blk w' p 56 #[.slice A os.length cap] := (hg.block p (by have := HP.out; simp; omega) (fun e => HPN.out e.symm)).trans HC.out
    have c1 := (hb.cell 0).trans rfl
    have f1 := hb.frozen 0
    have HPU := Lib.hid hpush
    clear hpush hb hown hg hr c0
    go_wp2
    go_end0
    exact ⟨rfl, _, _, HPU.out⟩
end
/-- the objects l lie from A on -/
def RdO (w : World) (A : Option Addr) (l : List Oj) : Prop := ∀ i (h : i < l.length), ∃ b off, A = some ⟨b, off, none⟩ ∧ ObAt w b (off + i * 163) l[i]
section
variable {w w' : World} {A : Option Addr} {l : List Oj}
theorem RdO.below (h : RdO w A l) (hb : Below w.heap.size w w') : RdO w' A l := fun i hi => by
  obtain ⟨b, off, e, ho⟩ := h i hi
  exact ⟨b, off, e, ho.below hb⟩
theorem RdO.alloc (h : RdO w A l) (o : Obj) : RdO (w.alloc o) A l := h.below ((Below.refl _ _).alloc (Nat.le_refl _) _)
theorem RdO.drew (h : RdO w A l) : RdO w.drew A l := h
end
theorem StAt.nil (w : World) (base : Nat) (hb : base ≤ w.heap.size) : StAt (w.alloc (.cells #[.slice none 0 0] 56)) base w.heap.size none 0 [] [] where
  blk := Blk.new w _ _
  own := ⟨rfl, .inl ⟨rfl, rfl⟩⟩
  len := rfl
  obj := fun i h => absurd h (by simp)
  pge := hb
  pn := fun e => by cases e
  pps := fun b hb => by cases hb
  nd := List.nodup_nil
/-- may these be a store -/
def okAll (n : Int) (l : List Oj) : Prop := ∀ x ∈ l, x.ok n
theorem ok_x {n : Int} {l : List Oj} {k : Nat} {x : Oj} (h : okAll n l) (hk : k < l.length) (e : l[k] = x) : x.ok n := e ▸ h _ (List.getElem_mem hk)
set_option maxRecDepth 8000 in
theorem take_x {α : Type} {l : List α} {k : Nat} {x : α} (hk : k < l.length) (e : l[k] = x) : l.take k ++ [x] = l.take (k + 1) := by rw [List.take_succ_eq_append_getElem hk, e]
set_option maxRecDepth 8000 in
theorem of_many (A : Option Addr) (len cap : Nat) (w : World) (hn : ¬ (1 ≤ len ∧ len ≤ 64)) :
    Calls Tryz.prog 21 #[.slice A len cap] w fun e w' => e = .returned (.tuple #[.pointer none, .int .i64 2]) ∧ w = w' := by
  have DM := Lib.hid (show decide (1 ≤ (len : Int) ∧ (len : Int) ≤ 64) = false from decide_eq_false (by omega))
  clear hn
  go_enter Tryz.func21, Tryz.ntmps21
  go_wp2_with (go_at_call 34; refine (DM.out ▸ many_any (len : Int) _).mono ?_; rintro e w1 ⟨rfl, rfl⟩)
  go_ret2
  exact ⟨rfl, rfl⟩
set_option maxRecDepth 100000 in
set_option maxHeartbeats 2000000 in
theorem of_any (A : Option Addr) (l : List Oj) (cap : Nat) (w : World) (hT : Tab w) (hr : RdO w A l) (h1 : 1 ≤ l.length) (h2 : l.length ≤ 64) :
    Calls Tryz.prog 21 #[.slice A l.length cap] w fun e w' => ((∃ A' cap' ps, e = .returned (.tuple #[pv w.heap.size, .int .i64 0]) ∧ StAt w' w.heap.size w.heap.size A' cap' ps l ∧ okAll l.length l) ∨ (e = .returned (.tuple #[.pointer none, .int .i64 2]) ∧ ¬ okAll l.length l)) ∧ Below w.heap.size w w' := by
  have hz := z34
  have hbl := oz_len
  have DM := Lib.hid (show decide (1 ≤ (l.length : Int) ∧ (l.length : Int) ≤ 64) = true from decide_eq_true (by omega))
  have HT := Lib.hid (hT.alloc (.cells #[.slice none 0 0] 56))
  have HR := Lib.hid (hr.alloc (.cells #[.slice none 0 0] 56))
  have HB := Lib.hid ((Below.refl w.heap.size w).alloc (Nat.le_refl _) (.cells #[.slice none 0 0] 56))
  have HS := Lib.hid (StAt.nil w w.heap.size (Nat.le_refl _))
  have H2 := Lib.hid h2
  have HTW := Lib.hid hT
  have HRW := Lib.hid hr
  clear hT hr h1
  go_enter Tryz.func21, Tryz.ntmps21
  go_wp2_with (go_at_call 34; refine (DM.out ▸ many_any (l.length : Int) _).mono ?_; rintro e w1 ⟨rfl, rfl⟩)
  generalize w.alloc (.cells #[.slice none 0 0] 56) = w0 at HT HR HB HS ⊢
  go_loopw [6, 7, 16] (fun _ _ i wr => ∃ k : Nat, k ≤ l.length ∧ i = .int .i64 k ∧ Below w.heap.size w wr ∧ Tab wr ∧ RdO wr A l ∧ (∃ A' cap' ps, StAt wr w.heap.size w.heap.size A' cap' ps (l.take k)) ∧ okAll l.length (l.take k)) (fun _ _ i _ => l.length + 1 - (intOf i).toNat)
  case atStart => exact ⟨0, by omega, rfl, HB.out, HT.out, HR.out, ⟨_, _, _, HS.out⟩, fun x hx => by simp at hx⟩
  case round =>
    obtain ⟨k, hk, rfl, hb, ht, hrd, ⟨A', cap', ps, hs⟩, hok⟩ := hrel
    clear HT HR HB HS
    by_cases hlt : k < l.length
    · obtain ⟨b, off, rfl, hob⟩ := hrd k hlt
      obtain ⟨x, hx⟩ : ∃ x, l[k] = x := ⟨_, rfl⟩
      rw [hx] at hob
      have HB0 := Lib.hid (hb.alloc hb.size (.cells x.cells.toArray 49))
      have HT0 := Lib.hid (ht.alloc (.cells x.cells.toArray 49))
      have HO0 := Lib.hid hob
      have HR0 := Lib.hid (hrd.alloc (.cells x.cells.toArray 49))
      have HS0 := Lib.hid (hs.alloc (.cells x.cells.toArray 49))
      have HG0 := Lib.hid (Blk.new wr 49 x.cells.toArray)
      have HK := Lib.hid hok
      have HX := Lib.hid hx
      have HLT := Lib.hid hlt
      clear hb ht hrd hs hok hob hx
      by_cases hxo : x.ok l.length
      · have HXO := Lib.hid hxo
        clear hxo
        go_wp2_with (first
          | (refine wpList_yields (S := fun w' => ObAt w' b (off + k * 163) x) (y_ob (by rfl) (.tmp 18) (by rfl) b (off + k * 163) (by rfl) x (fun _ h => h)) HO0.out ?_)
          | (refine wpList_store_last rfl (.tmp 6) (.tmp 19) rfl _ rfl rfl x oz rfl ?_)
          | (refine wpList_yields (S := fun w' => ObAt w' wr.heap.size 0 x) (y_ob (by rfl) (.tmp 6) (by rfl) wr.heap.size 0 (by rfl) x (fun _ h => h)) HG0.out.ob ?_)
          | (refine wpList_yields (S := fun w' => ObAt w' wr.heap.size 0 x) (y_ob (by rfl) (.tmp 6) (by rfl) wr.heap.size 0 (by rfl) x (fun _ h => h)) HG1.out.ob ?_)
          | (go_at_call 35; refine (Oj.chk_yes HXO.out ▸ check_any x l.length _ HT0.out).mono ?_; rintro e w1 ⟨rfl, b1⟩; have HB1 := Lib.hid (HB0.out.trans (b1.mono HB0.out.size)); have HT1 := Lib.hid (HT0.out.below b1); have HR1 := Lib.hid (HR0.out.below b1); have HS1 := Lib.hid (HS0.out.below b1); have HG1 := Lib.hid (HG0.out.keep b1); clear b1)
          | (go_at_call 36; refine (add_at HS1.out (by have := H2.out; rw [List.length_take]; omega) x).mono ?_; rintro e w2 ⟨rfl, A2, cap2, hs2, b2⟩; have HB2 := Lib.hid (HB1.out.trans b2); have HT2 := Lib.hid (HTW.out.below HB2.out); have HR2 := Lib.hid (HRW.out.below HB2.out); have HS2 := Lib.hid hs2; clear b2 hs2))
        go_roundw
        case rel => exact ⟨k + 1, by omega, by go_num, HB2.out, HT2.out, HR2.out, ⟨_, _, _, take_x HLT.out HX.out ▸ HS2.out⟩, take_snoc_x HLT.out HX.out HK.out HXO.out⟩
        case measure => simp [intOf]; omega
      · have HXO := Lib.hid hxo
        clear hxo
        go_wp2_with (first
          | (refine wpList_yields (S := fun w' => ObAt w' b (off + k * 163) x) (y_ob (by rfl) (.tmp 18) (by rfl) b (off + k * 163) (by rfl) x (fun _ h => h)) HO0.out ?_)
          | (refine wpList_store_last rfl (.tmp 6) (.tmp 19) rfl _ rfl rfl x oz rfl ?_)
          | (refine wpList_yields (S := fun w' => ObAt w' wr.heap.size 0 x) (y_ob (by rfl) (.tmp 6) (by rfl) wr.heap.size 0 (by rfl) x (fun _ h => h)) HG0.out.ob ?_)
          | (refine wpList_yields (S := fun w' => ObAt w' wr.heap.size 0 x) (y_ob (by rfl) (.tmp 6) (by rfl) wr.heap.size 0 (by rfl) x (fun _ h => h)) HG1.out.ob ?_)
          | (go_at_call 35; refine (Oj.chk_no HXO.out ▸ check_any x l.length _ HT0.out).mono ?_; rintro e w1 ⟨rfl, b1⟩; have HB1 := Lib.hid (HB0.out.trans (b1.mono HB0.out.size)); have HT1 := Lib.hid (HT0.out.below b1); have HR1 := Lib.hid (HR0.out.below b1); have HS1 := Lib.hid (HS0.out.below b1); have HG1 := Lib.hid (HG0.out.keep b1); clear b1))
        go_ret2
        exact ⟨.inr ⟨rfl, fun h => HXO.out (ok_x h HLT.out HX.out)⟩, HB1.out⟩
    · obtain rfl : k = l.length := by omega
      rw [List.take_length] at hs hok
      go_wp2
      go_ret2
      exact ⟨.inl ⟨_, _, _, rfl, hs, hok⟩, hb⟩
end Go.Proofs.YtogkdhpnbpgheaaGreatDoor
namespace Go.Proofs.YtogkdhpnbpgheaaGreatDoor
open Go.RowKit
set_option maxRecDepth 8000 in
theorem infoOb : (Tryz.prog.info? 49).map (fun i => (i.zero, i.size, i.bytes)) = some (some oz.val, 163, 856) := by kernel_rfl
/-- n free ones, as they lie -/
def mkO (n : Nat) : List Value := (madeCells oz.cells.toArray (n * 163)).toList
set_option maxRecDepth 8000 in
theorem made_get (z : List Value) (hl : z.length = 163) (n i j : Nat) (hi : i < n) (hj : j < 163) : (madeCells z.toArray (n * 163)).toList[i * 163 + j]? = z[j]? := by
  unfold madeCells
  rw [Array.getElem?_toList, Array.getElem?_map, Array.getElem?_range, if_pos (by
    have : (i + 1) * 163 ≤ n * 163 := Nat.mul_le_mul_right _ hi
    omega)]
  have e : (i * 163 + j) % 163 = j := by rw [Nat.mul_comm, Nat.mul_add_mod]; exact Nat.mod_eq_of_lt hj
  have hj' : j < z.length := by omega
  simp only [Option.map_some, List.size_toArray, hl, e]
  rw [List.getElem?_eq_getElem hj']
  congr 1
  rw [getElem!_pos z.toArray j (by simpa using hj')]
  simp
theorem mkO_get (n i j : Nat) (hi : i < n) (hj : j < 163) : (mkO n)[i * 163 + j]? = oz.cells[j]? := made_get oz.cells oz_len n i j hi hj
set_option maxRecDepth 8000 in
theorem mk_rdo {w : World} {g : Nat} {t : TypeId} (n : Nat) (h : Blk w g t (mkO n).toArray) : RdO w (some ⟨g, 0, none⟩) (List.replicate n oz) := fun i hi => by
  have hi' : i < n := by simpa using hi
  refine ⟨g, 0, rfl, fun j v hv => ?_⟩
  rw [List.getElem_replicate] at hv
  have hj : j < 163 := by have := (List.getElem?_eq_some_iff.1 hv).1; have := oz_len; omega
  rw [Nat.zero_add, h.cell, ← hv, ← mkO_get n i j hi' hj]
  simp
set_option maxRecDepth 8000 in
theorem run_mk (n : Nat) (hn : n ≤ 64) (w : World) : (Instr.makeSlice 22 (.int .i64 (n : Int)) (.int .i64 (n : Int))).run Tryz.prog w = .ok (.slice (some ⟨w.heap.size, 0, none⟩) n n) (w.alloc (.cells (mkO n).toArray 49)) := by
  obtain ⟨i, hi, hz, hs, hb⟩ := info_parts infoOb
  have hr := run_make (P := Tryz.prog) w 22 49 i oz.val Tryz.underlying22 hi hz .i64 .i64 n n (by omega) (Int.le_refl _) (by rw [hb]; omega) (by omega)
  rw [hs, Int.toNat_natCast] at hr
  rw [hr]
  rfl
theorem oz_ok {n : Int} (h1 : 1 ≤ n) (h2 : n ≤ 64) : oz.ok n := ⟨⟨h1, h2⟩, by decide, by decide, .inr (.inr ⟨.inl rfl, rfl, rfl, rfl⟩)⟩
theorem okAll_oz {n : Nat} (h1 : 1 ≤ n) (h2 : n ≤ 64) : okAll (n : Int) (List.replicate n oz) := fun x hx => by
  obtain rfl := (List.mem_replicate.1 hx).2
  exact oz_ok (by omega) (by omega)
set_option maxRecDepth 8000 in
theorem new_no (n : Int) (w : World) (hn : ¬ (1 ≤ n ∧ n ≤ 64)) :
    Calls Tryz.prog 22 #[.int .i64 n] w fun e w' => e = .returned (.tuple #[.pointer none, .int .i64 2]) ∧ w = w' := by
  have DM := Lib.hid (show decide (1 ≤ n ∧ n ≤ 64) = false from decide_eq_false hn)
  clear hn
  go_enter Tryz.func22, Tryz.ntmps22
  go_wp2_with (go_at_call 34; refine (DM.out ▸ many_any n _).mono ?_; rintro e w1 ⟨rfl, rfl⟩)
  go_ret2
  exact ⟨rfl, rfl⟩
set_option maxRecDepth 8000 in
theorem ofN (g n : Nat) (w : World) (hT : Tab w) (hr : RdO w (some ⟨g, 0, none⟩) (List.replicate n oz)) (h1 : 1 ≤ n) (h2 : n ≤ 64) :
    Calls Tryz.prog 21 #[.slice (some ⟨g, 0, none⟩) n n] w fun e w' => e = .returned (.tuple #[pv w.heap.size, .int .i64 0]) ∧ (∃ A' cap' ps, StAt w' w.heap.size w.heap.size A' cap' ps (List.replicate n oz)) ∧ Below w.heap.size w w' := by
  have hl : (List.replicate n oz).length = n := List.length_replicate
  have := of_any (some ⟨g, 0, none⟩) (List.replicate n oz) n w hT hr (by omega) (by omega)
  rw [hl] at this
  refine this.mono ?_
  rintro e w' ⟨⟨A', cap', ps, he, hs, _⟩ | ⟨_, hno⟩, hb⟩
  · exact ⟨he, ⟨_, _, _, hs⟩, hb⟩
  · exact absurd (okAll_oz h1 h2) hno
set_option maxRecDepth 8000 in
set_option maxHeartbeats 1000000 in
theorem new_ok (n : Nat) (w : World) (hT : Tab w) (h1 : 1 ≤ n) (h2 : n ≤ 64) :
    Calls Tryz.prog 22 #[.int .i64 (n : Int)] w fun e w' => e = .returned (.tuple #[pv (w.heap.size + 1), .int .i64 0]) ∧ (∃ A' cap' ps, StAt w' (w.heap.size + 1) (w.heap.size + 1) A' cap' ps (List.replicate n oz)) ∧ Below w.heap.size w w' := by
  have DM := Lib.hid (show decide (1 ≤ (n : Int) ∧ (n : Int) ≤ 64) = true from decide_eq_true (by omega))
  have hmk := fun W : World => run_mk n h2 W
  have HT := Lib.hid (hT.alloc (.cells (mkO n).toArray 49))
  have HR := Lib.hid (mk_rdo n (Blk.new w 49 (mkO n).toArray))
  have H1 := Lib.hid h1
  have H2 := Lib.hid h2
  have HB := Lib.hid ((Below.refl w.heap.size w).alloc (Nat.le_refl _) (.cells (mkO n).toArray 49))
  clear hT h1 h2
  go_enter Tryz.func22, Tryz.ntmps22
  go_wp2_with (first
    | (go_at_call 34; refine (DM.out ▸ many_any (n : Int) _).mono ?_; rintro e w1 ⟨rfl, rfl⟩)
    | (go_at_call 21; refine (ofN w.heap.size n _ HT.out HR.out H1.out H2.out).mono ?_; rintro e w1 ⟨rfl, hs, b1⟩; have HS := Lib.hid hs; have HB1 := Lib.hid (HB.out.trans (b1.mono HB.out.size)); clear hs b1))
  go_ret2
  refine ⟨?_, ?_, HB1.out⟩
  · simp
  · have := HS.out
    simpa using this
end Go.Proofs.YtogkdhpnbpgheaaGreatDoor
namespace Go.Proofs.YtogkdhpnbpgheaaGreatDoor
open Go.RowKit
attribute [local go_sem] Oper.semAt_some
set_option maxRecDepth 100000 in
set_option maxHeartbeats 2000000 in
theorem rcou_bad (x : Ky) (l : List Value) (kk cc ll : Int) (w : World) (ho : Ob l kk cc ll) (h : ¬ x.ok) :
    Calls Tryz.prog 132 #[x.val, .agg l.toArray] w fun e w' => e = .returned (.bool false) ∧ Below w.heap.size w w' := by
  have HO := Lib.hid ho
  have HK := Lib.hid h
  clear h
  clear ho
  go_enter Tryz.func132, Tryz.ntmps132
  go_wp2_with (first
    | (go_at_call 17; refine (rchk_no x.k x.o x.c x.l x.r x.v _ HK.out).mono ?_; rintro e w1 ⟨rfl, b1⟩; obtain ⟨B1, B2, b2⟩ := box2 b1; have HB := Lib.hid b2; have H1 := Lib.hid B1; have H2 := Lib.hid B2; clear b1; obtain ⟨c0, c1, c2, c3, c4, c5⟩ := B1.six; obtain ⟨d0, d1, d2⟩ := ob3 B2 HO.out; clear B1 B2 b2))
  go_ret
  exact ⟨rfl, HB.out⟩
set_option maxRecDepth 100000 in
set_option maxHeartbeats 2000000 in
theorem rcou_none (x : Ky) (l : List Value) (kk cc ll : Int) (w : World) (ho : Ob l kk cc ll) (h : x.ok) (hf : ¬ x.of) :
    Calls Tryz.prog 132 #[x.val, .agg l.toArray] w fun e w' => e = .returned (.bool true) ∧ Below w.heap.size w w' := by
  have HO := Lib.hid ho
  have HK := Lib.hid h
  have HF := Lib.hid hf
  clear h hf
  clear ho
  go_enter Tryz.func132, Tryz.ntmps132
  go_wp2_with (first
    | (go_at_call 17; refine (rchk_ok x.k x.o x.c x.l x.r x.v _ HK.out).mono ?_; rintro e w1 ⟨rfl, b1⟩; obtain ⟨B1, B2, b2⟩ := box2 b1; have HB := Lib.hid b2; have H1 := Lib.hid B1; have H2 := Lib.hid B2; clear b1; obtain ⟨c0, c1, c2, c3, c4, c5⟩ := B1.six; obtain ⟨d0, d1, d2⟩ := ob3 B2 HO.out; clear B1 B2 b2)
    | (go_at_call 19; refine (rname_no x _ HF.out).mono ?_; rintro e w2 ⟨rfl, b2⟩; have HB2 := Lib.hid (HB.out.trans (b2.mono HB.out.size)); have P1 := Lib.hid (H1.out.keep b2); have P2 := Lib.hid (H2.out.keep b2); clear b2 c0 c1 c2 c3 c4 c5 d0 d1 d2))
  go_ret
  exact ⟨rfl, HB2.out⟩
set_option maxRecDepth 100000 in
set_option maxHeartbeats 2000000 in
theorem rcou_k (x : Ky) (l : List Value) (kk cc ll : Int) (w : World) (ho : Ob l kk cc ll) (hf : x.of) (hk : x.want ≠ kk) :
    Calls Tryz.prog 132 #[x.val, .agg l.toArray] w fun e w' => e = .returned (.bool false) ∧ Below w.heap.size w w' := by
  have HO := Lib.hid ho
  have HF := Lib.hid hf
  have HK := Lib.hid hf.1
  have h0 := of_o hf
  have h0' : ¬ x.o < 0 := by omega
  have d0 : decide (x.o < 0) = false := by simpa using h0'
  clear h0 h0'
  obtain ⟨wv, hwv⟩ : ∃ y : Int, x.want = y := ⟨_, rfl⟩
  have HW := Lib.hid hwv
  rw [hwv] at hk
  clear hf hwv
  have dk : (kk == wv) = false := by simp; exact fun e => hk e.symm
  clear hk
  clear ho
  go_enter Tryz.func132, Tryz.ntmps132
  go_wp2_with (first
    | (go_at_call 17; refine (rchk_ok x.k x.o x.c x.l x.r x.v _ HK.out).mono ?_; rintro e w1 ⟨rfl, b1⟩; obtain ⟨B1, B2, b2⟩ := box2 b1; have HB := Lib.hid b2; have H1 := Lib.hid B1; have H2 := Lib.hid B2; clear b1; obtain ⟨c0, c1, c2, c3, c4, c5⟩ := B1.six; obtain ⟨d0, d1, d2⟩ := ob3 B2 HO.out; clear B1 B2 b2)
    | (go_at_call 19; refine (rname_yes x _ HF.out).mono ?_; rintro e w2 ⟨rfl, b2⟩; have HB2 := Lib.hid (HB.out.trans (b2.mono HB.out.size)); have P1 := Lib.hid (H1.out.keep b2); have P2 := Lib.hid (H2.out.keep b2); clear b2 c0 c1 c2 c3 c4 c5 d0 d1 d2))
  refine wp_region_only (S := fun w' => (w'.cell? ⟨w.heap.size, 0, none⟩ = some (.int .i64 x.k) ∧ w'.cell? ⟨w.heap.size, 1, none⟩ = some (.int .i64 x.o) ∧ w'.cell? ⟨w.heap.size, 2, none⟩ = some (.int .i64 x.c) ∧ w'.cell? ⟨w.heap.size, 3, none⟩ = some (.int .i64 x.l) ∧ w'.cell? ⟨w.heap.size, 4, none⟩ = some (.int .i64 x.r) ∧ w'.cell? ⟨w.heap.size, 5, none⟩ = some (.int .i64 x.v)) ∧ (w'.cell? ⟨w.heap.size + 1, 0, none⟩ = some (.int .i64 kk) ∧ w'.cell? ⟨w.heap.size + 1, 1, none⟩ = some (.int .i64 cc) ∧ w'.cell? ⟨w.heap.size + 1, 2, none⟩ = some (.int .i64 ll))) (by kernel_rfl) ⟨P1.out.drew.six, ob3 P2.out.drew HO.out⟩ (fun hHeld => ?_)
  refine wpAnyH_take (i := 0) (v := ?v1) rfl (by kernel_rfl) (by kernel_rfl) (by kernel_rfl) (fun _ _ _ h => h) (Or.inl ⟨by rfl, ?hy1⟩) hHeld ?rest1
  case hy1 =>
    intro w' hSw
    try dsimp only at hSw
    go_simp
    first | done | with_reducible rfl
  try simp only [Act.put, List.getElem_toArray, List.getElem_cons_zero, List.setIfInBounds_toArray, List.set_cons_zero, List.set_cons_succ]
  refine wpAnyH_take (i := 1) (v := ?v2) rfl (by kernel_rfl) (by kernel_rfl) (by kernel_rfl) (fun _ _ _ h => h) (Or.inl ⟨by rfl, ?hy2⟩) hHeld ?rest2
  case hy2 =>
    intro w' hSw
    try dsimp only at hSw
    go_simp
    first | done | with_reducible rfl
  try simp only [Act.put, List.getElem_toArray, List.getElem_cons_succ, List.getElem_cons_zero, List.setIfInBounds_toArray, List.set_cons_zero, List.set_cons_succ]
  refine wpAnyH_take (i := 2) (v := ?v3) rfl (by kernel_rfl) (by kernel_rfl) (by kernel_rfl) (fun _ _ _ h => h) (Or.inl ⟨by rfl, ?hy3⟩) hHeld ?rest3
  case hy3 =>
    intro w' hSw
    try dsimp only at hSw
    go_simp
    first | done | with_reducible rfl
  try simp only [Act.put, List.getElem_toArray, List.getElem_cons_succ, List.getElem_cons_zero, List.setIfInBounds_toArray, List.set_cons_zero, List.set_cons_succ]
  refine wpAnyH_ready (rs := [3]) (by kernel_rfl) (by simp) ?_
  refine AllReadyH.cons (by rfl) (fun K hK => ?_) AllReadyH.nil
  go_simp
  refine (HW.out ▸ rwant_any x _).mono ?_
  rintro e w3 ⟨rfl, b3⟩
  have HB3 := Lib.hid ((below_drew HB2.out).trans (b3.mono HB2.out.size))
  have Q1 := Lib.hid (P1.out.drew.keep b3)
  have Q2 := Lib.hid (P2.out.drew.keep b3)
  clear b3 hHeld
  go_wp2_with fail
  refine hK.out _ _ ⟨Q1.out.six, ob3 Q2.out HO.out⟩ (fun hHeld => ?_)
  clear hK K
  try simp only [Act.put, List.getElem_toArray, List.getElem_cons_succ, List.getElem_cons_zero, List.setIfInBounds_toArray, List.set_cons_zero, List.set_cons_succ]
  refine wpAnyH_take (i := 4) (v := ?v4) rfl (by kernel_rfl) (by kernel_rfl) (by kernel_rfl) (fun _ _ _ h => h) (Or.inl ⟨by rfl, ?hy4⟩) hHeld ?rest4
  case hy4 =>
    intro w' hSw
    try dsimp only at hSw
    go_simp
    first | done | with_reducible rfl
  try simp only [Act.put, List.getElem_toArray, List.getElem_cons_succ, List.getElem_cons_zero, List.setIfInBounds_toArray, List.set_cons_zero, List.set_cons_succ]
  refine wpAnyH_take (i := 5) (v := ?v5) rfl (by kernel_rfl) (by kernel_rfl) (by kernel_rfl) (fun _ _ _ h => h) (Or.inl ⟨by rfl, ?hy5⟩) hHeld ?rest5
  case hy5 =>
    intro w' hSw
    try dsimp only at hSw
    go_simp
    first | done | with_reducible rfl
  try simp only [Act.put, List.getElem_toArray, List.getElem_cons_succ, List.getElem_cons_zero, List.setIfInBounds_toArray, List.set_cons_zero, List.set_cons_succ]
  refine wpAnyH_take (i := 6) (v := undef) rfl (by kernel_rfl) (by kernel_rfl) (by kernel_rfl) (fun _ _ _ h => h) (Or.inr ⟨by rfl, rfl⟩) hHeld ?_
  try simp only [Act.put, List.getElem_toArray, List.getElem_cons_succ, List.getElem_cons_zero, List.setIfInBounds_toArray, List.set_cons_zero, List.set_cons_succ]
  refine wpAnyH_take (i := 7) (v := undef) rfl (by kernel_rfl) (by kernel_rfl) (by kernel_rfl) (fun _ _ _ h => h) (Or.inr ⟨by rfl, rfl⟩) hHeld ?_
  try simp only [Act.put, List.getElem_toArray, List.getElem_cons_succ, List.getElem_cons_zero, List.setIfInBounds_toArray, List.set_cons_zero, List.set_cons_succ]
  refine wpAnyH_take (i := 8) (v := undef) rfl (by kernel_rfl) (by kernel_rfl) (by kernel_rfl) (fun _ _ _ h => h) (Or.inr ⟨by rfl, rfl⟩) hHeld ?_
  try simp only [Act.put, List.getElem_toArray, List.getElem_cons_succ, List.getElem_cons_zero, List.setIfInBounds_toArray, List.set_cons_zero, List.set_cons_succ]
  refine wpAnyH_take (i := 9) (v := undef) rfl (by kernel_rfl) (by kernel_rfl) (by kernel_rfl) (fun _ _ _ h => h) (Or.inr ⟨by rfl, rfl⟩) hHeld ?_
  try simp only [Act.put, List.getElem_toArray, List.getElem_cons_succ, List.getElem_cons_zero, List.setIfInBounds_toArray, List.set_cons_zero, List.set_cons_succ]
  refine wpAnyH_take (i := 10) (v := undef) rfl (by kernel_rfl) (by kernel_rfl) (by kernel_rfl) (fun _ _ _ h => h) (Or.inr ⟨by rfl, rfl⟩) hHeld ?_
  try simp only [Act.put, List.getElem_toArray, List.getElem_cons_succ, List.getElem_cons_zero, List.setIfInBounds_toArray, List.set_cons_zero, List.set_cons_succ]
  refine wpAnyH_take (i := 11) (v := ?v6) rfl (by kernel_rfl) (by kernel_rfl) (by kernel_rfl) (fun _ _ _ h => h) (Or.inl ⟨by rfl, ?hy6⟩) hHeld ?rest6
  case hy6 =>
    intro w' hSw
    try dsimp only at hSw
    go_simp
    first | done | with_reducible rfl
  try simp only [Act.put, List.getElem_toArray, List.getElem_cons_succ, List.getElem_cons_zero, List.setIfInBounds_toArray, List.set_cons_zero, List.set_cons_succ]
  refine wpAnyH_take (i := 12) (v := ?v7) rfl (by kernel_rfl) (by kernel_rfl) (by kernel_rfl) (fun _ _ _ h => h) (Or.inl ⟨by rfl, ?hy7⟩) hHeld ?rest7
  case hy7 =>
    intro w' hSw
    try dsimp only at hSw
    go_simp
    first | done | with_reducible rfl
  try simp only [Act.put, List.getElem_toArray, List.getElem_cons_succ, List.getElem_cons_zero, List.setIfInBounds_toArray, List.set_cons_zero, List.set_cons_succ]
  refine wpAnyH_take (i := 13) (v := undef) rfl (by kernel_rfl) (by kernel_rfl) (by kernel_rfl) (fun _ _ _ h => h) (Or.inr ⟨by rfl, rfl⟩) hHeld ?_
  try simp only [Act.put, List.getElem_toArray, List.getElem_cons_succ, List.getElem_cons_zero, List.setIfInBounds_toArray, List.set_cons_zero, List.set_cons_succ]
  refine wpAnyH_take (i := 14) (v := undef) rfl (by kernel_rfl) (by kernel_rfl) (by kernel_rfl) (fun _ _ _ h => h) (Or.inr ⟨by rfl, rfl⟩) hHeld ?_
  try simp only [Act.put, List.getElem_toArray, List.getElem_cons_succ, List.getElem_cons_zero, List.setIfInBounds_toArray, List.set_cons_zero, List.set_cons_succ]
  refine wpAnyH_take (i := 15) (v := undef) rfl (by kernel_rfl) (by kernel_rfl) (by kernel_rfl) (fun _ _ _ h => h) (Or.inr ⟨by rfl, rfl⟩) hHeld ?_
  try simp only [Act.put, List.getElem_toArray, List.getElem_cons_succ, List.getElem_cons_zero, List.setIfInBounds_toArray, List.set_cons_zero, List.set_cons_succ]
  refine wpAnyH_take (i := 16) (v := undef) rfl (by kernel_rfl) (by kernel_rfl) (by kernel_rfl) (fun _ _ _ h => h) (Or.inr ⟨by rfl, rfl⟩) hHeld ?_
  try simp only [Act.put, List.getElem_toArray, List.getElem_cons_succ, List.getElem_cons_zero, List.setIfInBounds_toArray, List.set_cons_zero, List.set_cons_succ]
  refine wpAnyH_take (i := 17) (v := undef) rfl (by kernel_rfl) (by kernel_rfl) (by kernel_rfl) (fun _ _ _ h => h) (Or.inr ⟨by rfl, rfl⟩) hHeld ?_
  try simp only [Act.put, List.getElem_toArray, List.getElem_cons_succ, List.getElem_cons_zero, List.setIfInBounds_toArray, List.set_cons_zero, List.set_cons_succ]
  refine wpAnyH_take (i := 18) (v := undef) rfl (by kernel_rfl) (by kernel_rfl) (by kernel_rfl) (fun _ _ _ h => h) (Or.inr ⟨by rfl, rfl⟩) hHeld ?_
  try simp only [Act.put, List.getElem_toArray, List.getElem_cons_succ, List.getElem_cons_zero, List.setIfInBounds_toArray, List.set_cons_zero, List.set_cons_succ]
  refine wpAnyH_take (i := 19) (v := undef) rfl (by kernel_rfl) (by kernel_rfl) (by kernel_rfl) (fun _ _ _ h => h) (Or.inr ⟨by rfl, rfl⟩) hHeld ?_
  try simp only [Act.put, List.getElem_toArray, List.getElem_cons_succ, List.getElem_cons_zero, List.setIfInBounds_toArray, List.set_cons_zero, List.set_cons_succ]
  refine wpAnyH_take (i := 20) (v := undef) rfl (by kernel_rfl) (by kernel_rfl) (by kernel_rfl) (fun _ _ _ h => h) (Or.inr ⟨by rfl, rfl⟩) hHeld ?_
  try simp only [Act.put, List.getElem_toArray, List.getElem_cons_succ, List.getElem_cons_zero, List.setIfInBounds_toArray, List.set_cons_zero, List.set_cons_succ]
  refine wpAnyH_take (i := 21) (v := undef) rfl (by kernel_rfl) (by kernel_rfl) (by kernel_rfl) (fun _ _ _ h => h) (Or.inr ⟨by rfl, rfl⟩) hHeld ?_
  try simp only [Act.put, List.getElem_toArray, List.getElem_cons_succ, List.getElem_cons_zero, List.setIfInBounds_toArray, List.set_cons_zero, List.set_cons_succ]
  refine wpAnyH_take (i := 22) (v := undef) rfl (by kernel_rfl) (by kernel_rfl) (by kernel_rfl) (fun _ _ _ h => h) (Or.inr ⟨by rfl, rfl⟩) hHeld ?_
  try simp only [Act.put, List.getElem_toArray, List.getElem_cons_succ, List.getElem_cons_zero, List.setIfInBounds_toArray, List.set_cons_zero, List.set_cons_succ]
  refine wpAnyH_take (i := 23) (v := ?v8) rfl (by kernel_rfl) (by kernel_rfl) (by kernel_rfl) (fun _ _ _ h => h) (Or.inl ⟨by rfl, ?hy8⟩) hHeld ?rest8
  case hy8 =>
    intro w' hSw
    try dsimp only at hSw
    go_simp
    first | done | with_reducible rfl
  try simp only [Act.put, List.getElem_toArray, List.getElem_cons_succ, List.getElem_cons_zero, List.setIfInBounds_toArray, List.set_cons_zero, List.set_cons_succ]
  refine wpAnyH_take (i := 24) (v := ?v9) rfl (by kernel_rfl) (by kernel_rfl) (by kernel_rfl) (fun _ _ _ h => h) (Or.inl ⟨by rfl, ?hy9⟩) hHeld ?rest9
  case hy9 =>
    intro w' hSw
    try dsimp only at hSw
    go_simp
    first | done | with_reducible rfl
  try simp only [Act.put, List.getElem_toArray, List.getElem_cons_succ, List.getElem_cons_zero, List.setIfInBounds_toArray, List.set_cons_zero, List.set_cons_succ]
  refine wpAnyH_done (by kernel_rfl) ?_ _
  refine OnlyN.normal ?_
  clear hHeld
  go_wp2
  go_ret
  exact ⟨rfl, HB3.out⟩
set_option maxRecDepth 100000 in
set_option maxHeartbeats 2000000 in
theorem rcou_c (x : Ky) (l : List Value) (kk cc ll : Int) (w : World) (ho : Ob l kk cc ll) (hf : x.of) (hk : x.want = kk) (hc : x.c ≠ cc) :
    Calls Tryz.prog 132 #[x.val, .agg l.toArray] w fun e w' => e = .returned (.bool false) ∧ Below w.heap.size w w' := by
  have HO := Lib.hid ho
  have HF := Lib.hid hf
  have HK := Lib.hid hf.1
  have h0 := of_o hf
  have h0' : ¬ x.o < 0 := by omega
  have d0 : decide (x.o < 0) = false := by simpa using h0'
  clear h0 h0'
  obtain ⟨wv, hwv⟩ : ∃ y : Int, x.want = y := ⟨_, rfl⟩
  have HW := Lib.hid hwv
  rw [hwv] at hk
  clear hf hwv
  have hk' := hk.symm
  subst hk'
  clear hk
  have dc : (cc == x.c) = false := by simp; exact fun e => hc e.symm
  clear hc
  clear ho
  go_enter Tryz.func132, Tryz.ntmps132
  go_wp2_with (first
    | (go_at_call 17; refine (rchk_ok x.k x.o x.c x.l x.r x.v _ HK.out).mono ?_; rintro e w1 ⟨rfl, b1⟩; obtain ⟨B1, B2, b2⟩ := box2 b1; have HB := Lib.hid b2; have H1 := Lib.hid B1; have H2 := Lib.hid B2; clear b1; obtain ⟨c0, c1, c2, c3, c4, c5⟩ := B1.six; obtain ⟨d0, d1, d2⟩ := ob3 B2 HO.out; clear B1 B2 b2)
    | (go_at_call 19; refine (rname_yes x _ HF.out).mono ?_; rintro e w2 ⟨rfl, b2⟩; have HB2 := Lib.hid (HB.out.trans (b2.mono HB.out.size)); have P1 := Lib.hid (H1.out.keep b2); have P2 := Lib.hid (H2.out.keep b2); clear b2 c0 c1 c2 c3 c4 c5 d0 d1 d2))
  refine wp_region_only (S := fun w' => (w'.cell? ⟨w.heap.size, 0, none⟩ = some (.int .i64 x.k) ∧ w'.cell? ⟨w.heap.size, 1, none⟩ = some (.int .i64 x.o) ∧ w'.cell? ⟨w.heap.size, 2, none⟩ = some (.int .i64 x.c) ∧ w'.cell? ⟨w.heap.size, 3, none⟩ = some (.int .i64 x.l) ∧ w'.cell? ⟨w.heap.size, 4, none⟩ = some (.int .i64 x.r) ∧ w'.cell? ⟨w.heap.size, 5, none⟩ = some (.int .i64 x.v)) ∧ (w'.cell? ⟨w.heap.size + 1, 0, none⟩ = some (.int .i64 kk) ∧ w'.cell? ⟨w.heap.size + 1, 1, none⟩ = some (.int .i64 cc) ∧ w'.cell? ⟨w.heap.size + 1, 2, none⟩ = some (.int .i64 ll))) (by kernel_rfl) ⟨P1.out.drew.six, ob3 P2.out.drew HO.out⟩ (fun hHeld => ?_)
  refine wpAnyH_take (i := 0) (v := ?v10) rfl (by kernel_rfl) (by kernel_rfl) (by kernel_rfl) (fun _ _ _ h => h) (Or.inl ⟨by rfl, ?hy10⟩) hHeld ?rest10
  case hy10 =>
    intro w' hSw
    try dsimp only at hSw
    go_simp
    first | done | with_reducible rfl
  try simp only [Act.put, List.getElem_toArray, List.getElem_cons_zero, List.setIfInBounds_toArray, List.set_cons_zero, List.set_cons_succ]
  refine wpAnyH_take (i := 1) (v := ?v11) rfl (by kernel_rfl) (by kernel_rfl) (by kernel_rfl) (fun _ _ _ h => h) (Or.inl ⟨by rfl, ?hy11⟩) hHeld ?rest11
  case hy11 =>
    intro w' hSw
    try dsimp only at hSw
    go_simp
    first | done | with_reducible rfl
  try simp only [Act.put, List.getElem_toArray, List.getElem_cons_succ, List.getElem_cons_zero, List.setIfInBounds_toArray, List.set_cons_zero, List.set_cons_succ]
  refine wpAnyH_take (i := 2) (v := ?v12) rfl (by kernel_rfl) (by kernel_rfl) (by kernel_rfl) (fun _ _ _ h => h) (Or.inl ⟨by rfl, ?hy12⟩) hHeld ?rest12
  case hy12 =>
    intro w' hSw
    try dsimp only at hSw
    go_simp
    first | done | with_reducible rfl
  try simp only [Act.put, List.getElem_toArray, List.getElem_cons_succ, List.getElem_cons_zero, List.setIfInBounds_toArray, List.set_cons_zero, List.set_cons_succ]
  refine wpAnyH_ready (rs := [3]) (by kernel_rfl) (by simp) ?_
  refine AllReadyH.cons (by rfl) (fun K hK => ?_) AllReadyH.nil
  go_simp
  refine (HW.out ▸ rwant_any x _).mono ?_
  rintro e w3 ⟨rfl, b3⟩
  have HB3 := Lib.hid ((below_drew HB2.out).trans (b3.mono HB2.out.size))
  have Q1 := Lib.hid (P1.out.drew.keep b3)
  have Q2 := Lib.hid (P2.out.drew.keep b3)
  clear b3 hHeld
  go_wp2_with fail
  refine hK.out _ _ ⟨Q1.out.six, ob3 Q2.out HO.out⟩ (fun hHeld => ?_)
  clear hK K
  try simp only [Act.put, List.getElem_toArray, List.getElem_cons_succ, List.getElem_cons_zero, List.setIfInBounds_toArray, List.set_cons_zero, List.set_cons_succ]
  refine wpAnyH_take (i := 4) (v := ?v13) rfl (by kernel_rfl) (by kernel_rfl) (by kernel_rfl) (fun _ _ _ h => h) (Or.inl ⟨by rfl, ?hy13⟩) hHeld ?rest13
  case hy13 =>
    intro w' hSw
    try dsimp only at hSw
    go_simp
    first | done | with_reducible rfl
  try simp only [Act.put, List.getElem_toArray, List.getElem_cons_succ, List.getElem_cons_zero, List.setIfInBounds_toArray, List.set_cons_zero, List.set_cons_succ]
  refine wpAnyH_take (i := 5) (v := ?v14) rfl (by kernel_rfl) (by kernel_rfl) (by kernel_rfl) (fun _ _ _ h => h) (Or.inl ⟨by rfl, ?hy14⟩) hHeld ?rest14
  case hy14 =>
    intro w' hSw
    try dsimp only at hSw
    go_simp
    first | done | with_reducible rfl
  try simp only [Act.put, List.getElem_toArray, List.getElem_cons_succ, List.getElem_cons_zero, List.setIfInBounds_toArray, List.set_cons_zero, List.set_cons_succ]
  refine wpAnyH_take (i := 6) (v := ?v15) rfl (by kernel_rfl) (by kernel_rfl) (by kernel_rfl) (fun _ _ _ h => h) (Or.inl ⟨by rfl, ?hy15⟩) hHeld ?rest15
  case hy15 =>
    intro w' hSw
    try dsimp only at hSw
    go_simp
    first | done | with_reducible rfl
  try simp only [Act.put, List.getElem_toArray, List.getElem_cons_succ, List.getElem_cons_zero, List.setIfInBounds_toArray, List.set_cons_zero, List.set_cons_succ]
  refine wpAnyH_take (i := 7) (v := ?v16) rfl (by kernel_rfl) (by kernel_rfl) (by kernel_rfl) (fun _ _ _ h => h) (Or.inl ⟨by rfl, ?hy16⟩) hHeld ?rest16
  case hy16 =>
    intro w' hSw
    try dsimp only at hSw
    go_simp
    first | done | with_reducible rfl
  try simp only [Act.put, List.getElem_toArray, List.getElem_cons_succ, List.getElem_cons_zero, List.setIfInBounds_toArray, List.set_cons_zero, List.set_cons_succ]
  refine wpAnyH_take (i := 8) (v := ?v17) rfl (by kernel_rfl) (by kernel_rfl) (by kernel_rfl) (fun _ _ _ h => h) (Or.inl ⟨by rfl, ?hy17⟩) hHeld ?rest17
  case hy17 =>
    intro w' hSw
    try dsimp only at hSw
    go_simp
    first | done | with_reducible rfl
  try simp only [Act.put, List.getElem_toArray, List.getElem_cons_succ, List.getElem_cons_zero, List.setIfInBounds_toArray, List.set_cons_zero, List.set_cons_succ]
  refine wpAnyH_take (i := 9) (v := ?v18) rfl (by kernel_rfl) (by kernel_rfl) (by kernel_rfl) (fun _ _ _ h => h) (Or.inl ⟨by rfl, ?hy18⟩) hHeld ?rest18
  case hy18 =>
    intro w' hSw
    try dsimp only at hSw
    go_simp
    first | done | with_reducible rfl
  try simp only [Act.put, List.getElem_toArray, List.getElem_cons_succ, List.getElem_cons_zero, List.setIfInBounds_toArray, List.set_cons_zero, List.set_cons_succ]
  refine wpAnyH_take (i := 10) (v := ?v19) rfl (by kernel_rfl) (by kernel_rfl) (by kernel_rfl) (fun _ _ _ h => h) (Or.inl ⟨by rfl, ?hy19⟩) hHeld ?rest19
  case hy19 =>
    intro w' hSw
    try dsimp only at hSw
    go_simp
    first | done | with_reducible rfl
  try simp only [Act.put, List.getElem_toArray, List.getElem_cons_succ, List.getElem_cons_zero, List.setIfInBounds_toArray, List.set_cons_zero, List.set_cons_succ]
  refine wpAnyH_take (i := 11) (v := ?v20) rfl (by kernel_rfl) (by kernel_rfl) (by kernel_rfl) (fun _ _ _ h => h) (Or.inl ⟨by rfl, ?hy20⟩) hHeld ?rest20
  case hy20 =>
    intro w' hSw
    try dsimp only at hSw
    go_simp
    first | done | with_reducible rfl
  try simp only [Act.put, List.getElem_toArray, List.getElem_cons_succ, List.getElem_cons_zero, List.setIfInBounds_toArray, List.set_cons_zero, List.set_cons_succ]
  refine wpAnyH_take (i := 12) (v := ?v21) rfl (by kernel_rfl) (by kernel_rfl) (by kernel_rfl) (fun _ _ _ h => h) (Or.inl ⟨by rfl, ?hy21⟩) hHeld ?rest21
  case hy21 =>
    intro w' hSw
    try dsimp only at hSw
    go_simp
    first | done | with_reducible rfl
  try simp only [Act.put, List.getElem_toArray, List.getElem_cons_succ, List.getElem_cons_zero, List.setIfInBounds_toArray, List.set_cons_zero, List.set_cons_succ]
  refine wpAnyH_take (i := 13) (v := undef) rfl (by kernel_rfl) (by kernel_rfl) (by kernel_rfl) (fun _ _ _ h => h) (Or.inr ⟨by rfl, rfl⟩) hHeld ?_
  try simp only [Act.put, List.getElem_toArray, List.getElem_cons_succ, List.getElem_cons_zero, List.setIfInBounds_toArray, List.set_cons_zero, List.set_cons_succ]
  refine wpAnyH_take (i := 14) (v := undef) rfl (by kernel_rfl) (by kernel_rfl) (by kernel_rfl) (fun _ _ _ h => h) (Or.inr ⟨by rfl, rfl⟩) hHeld ?_
  try simp only [Act.put, List.getElem_toArray, List.getElem_cons_succ, List.getElem_cons_zero, List.setIfInBounds_toArray, List.set_cons_zero, List.set_cons_succ]
  refine wpAnyH_take (i := 15) (v := undef) rfl (by kernel_rfl) (by kernel_rfl) (by kernel_rfl) (fun _ _ _ h => h) (Or.inr ⟨by rfl, rfl⟩) hHeld ?_
  try simp only [Act.put, List.getElem_toArray, List.getElem_cons_succ, List.getElem_cons_zero, List.setIfInBounds_toArray, List.set_cons_zero, List.set_cons_succ]
  refine wpAnyH_take (i := 16) (v := undef) rfl (by kernel_rfl) (by kernel_rfl) (by kernel_rfl) (fun _ _ _ h => h) (Or.inr ⟨by rfl, rfl⟩) hHeld ?_
  try simp only [Act.put, List.getElem_toArray, List.getElem_cons_succ, List.getElem_cons_zero, List.setIfInBounds_toArray, List.set_cons_zero, List.set_cons_succ]
  refine wpAnyH_take (i := 17) (v := undef) rfl (by kernel_rfl) (by kernel_rfl) (by kernel_rfl) (fun _ _ _ h => h) (Or.inr ⟨by rfl, rfl⟩) hHeld ?_
  try simp only [Act.put, List.getElem_toArray, List.getElem_cons_succ, List.getElem_cons_zero, List.setIfInBounds_toArray, List.set_cons_zero, List.set_cons_succ]
  refine wpAnyH_take (i := 18) (v := undef) rfl (by kernel_rfl) (by kernel_rfl) (by kernel_rfl) (fun _ _ _ h => h) (Or.inr ⟨by rfl, rfl⟩) hHeld ?_
  try simp only [Act.put, List.getElem_toArray, List.getElem_cons_succ, List.getElem_cons_zero, List.setIfInBounds_toArray, List.set_cons_zero, List.set_cons_succ]
  refine wpAnyH_take (i := 19) (v := undef) rfl (by kernel_rfl) (by kernel_rfl) (by kernel_rfl) (fun _ _ _ h => h) (Or.inr ⟨by rfl, rfl⟩) hHeld ?_
  try simp only [Act.put, List.getElem_toArray, List.getElem_cons_succ, List.getElem_cons_zero, List.setIfInBounds_toArray, List.set_cons_zero, List.set_cons_succ]
  refine wpAnyH_take (i := 20) (v := undef) rfl (by kernel_rfl) (by kernel_rfl) (by kernel_rfl) (fun _ _ _ h => h) (Or.inr ⟨by rfl, rfl⟩) hHeld ?_
  try simp only [Act.put, List.getElem_toArray, List.getElem_cons_succ, List.getElem_cons_zero, List.setIfInBounds_toArray, List.set_cons_zero, List.set_cons_succ]
  refine wpAnyH_take (i := 21) (v := undef) rfl (by kernel_rfl) (by kernel_rfl) (by kernel_rfl) (fun _ _ _ h => h) (Or.inr ⟨by rfl, rfl⟩) hHeld ?_
  try simp only [Act.put, List.getElem_toArray, List.getElem_cons_succ, List.getElem_cons_zero, List.setIfInBounds_toArray, List.set_cons_zero, List.set_cons_succ]
  refine wpAnyH_take (i := 22) (v := undef) rfl (by kernel_rfl) (by kernel_rfl) (by kernel_rfl) (fun _ _ _ h => h) (Or.inr ⟨by rfl, rfl⟩) hHeld ?_
  try simp only [Act.put, List.getElem_toArray, List.getElem_cons_succ, List.getElem_cons_zero, List.setIfInBounds_toArray, List.set_cons_zero, List.set_cons_succ]
  refine wpAnyH_take (i := 23) (v := ?v22) rfl (by kernel_rfl) (by kernel_rfl) (by kernel_rfl) (fun _ _ _ h => h) (Or.inl ⟨by rfl, ?hy22⟩) hHeld ?rest22
  case hy22 =>
    intro w' hSw
    try dsimp only at hSw
    go_simp
    first | done | with_reducible rfl
  try simp only [Act.put, List.getElem_toArray, List.getElem_cons_succ, List.getElem_cons_zero, List.setIfInBounds_toArray, List.set_cons_zero, List.set_cons_succ]
  refine wpAnyH_take (i := 24) (v := ?v23) rfl (by kernel_rfl) (by kernel_rfl) (by kernel_rfl) (fun _ _ _ h => h) (Or.inl ⟨by rfl, ?hy23⟩) hHeld ?rest23
  case hy23 =>
    intro w' hSw
    try dsimp only at hSw
    go_simp
    first | done | with_reducible rfl
  try simp only [Act.put, List.getElem_toArray, List.getElem_cons_succ, List.getElem_cons_zero, List.setIfInBounds_toArray, List.set_cons_zero, List.set_cons_succ]
  refine wpAnyH_done (by kernel_rfl) ?_ _
  refine OnlyN.normal ?_
  clear hHeld
  go_wp2
  go_ret
  exact ⟨rfl, HB3.out⟩
set_option maxRecDepth 100000 in
set_option maxHeartbeats 2000000 in
theorem rcou_y (x : Ky) (l : List Value) (kk cc ll : Int) (w : World) (ho : Ob l kk cc ll) (hf : x.of) (hk : x.want = kk) (hc : x.c = cc) (h7 : x.k ≠ 7) :
    Calls Tryz.prog 132 #[x.val, .agg l.toArray] w fun e w' => e = .returned (.bool true) ∧ Below w.heap.size w w' := by
  have HO := Lib.hid ho
  have HF := Lib.hid hf
  have HK := Lib.hid hf.1
  have h0 := of_o hf
  have h0' : ¬ x.o < 0 := by omega
  have d0 : decide (x.o < 0) = false := by simpa using h0'
  clear h0 h0'
  obtain ⟨wv, hwv⟩ : ∃ y : Int, x.want = y := ⟨_, rfl⟩
  have HW := Lib.hid hwv
  rw [hwv] at hk
  clear hf hwv
  have hk' := hk.symm
  subst hk'
  clear hk
  have dc : (cc == x.c) = true := by simp; exact hc.symm
  have d7 : (x.k != 7) = true := by simpa using h7
  clear hc h7
  clear ho
  go_enter Tryz.func132, Tryz.ntmps132
  go_wp2_with (first
    | (go_at_call 17; refine (rchk_ok x.k x.o x.c x.l x.r x.v _ HK.out).mono ?_; rintro e w1 ⟨rfl, b1⟩; obtain ⟨B1, B2, b2⟩ := box2 b1; have HB := Lib.hid b2; have H1 := Lib.hid B1; have H2 := Lib.hid B2; clear b1; obtain ⟨c0, c1, c2, c3, c4, c5⟩ := B1.six; obtain ⟨d0, d1, d2⟩ := ob3 B2 HO.out; clear B1 B2 b2)
    | (go_at_call 19; refine (rname_yes x _ HF.out).mono ?_; rintro e w2 ⟨rfl, b2⟩; have HB2 := Lib.hid (HB.out.trans (b2.mono HB.out.size)); have P1 := Lib.hid (H1.out.keep b2); have P2 := Lib.hid (H2.out.keep b2); clear b2 c0 c1 c2 c3 c4 c5 d0 d1 d2))
  refine wp_region_only (S := fun w' => (w'.cell? ⟨w.heap.size, 0, none⟩ = some (.int .i64 x.k) ∧ w'.cell? ⟨w.heap.size, 1, none⟩ = some (.int .i64 x.o) ∧ w'.cell? ⟨w.heap.size, 2, none⟩ = some (.int .i64 x.c) ∧ w'.cell? ⟨w.heap.size, 3, none⟩ = some (.int .i64 x.l) ∧ w'.cell? ⟨w.heap.size, 4, none⟩ = some (.int .i64 x.r) ∧ w'.cell? ⟨w.heap.size, 5, none⟩ = some (.int .i64 x.v)) ∧ (w'.cell? ⟨w.heap.size + 1, 0, none⟩ = some (.int .i64 kk) ∧ w'.cell? ⟨w.heap.size + 1, 1, none⟩ = some (.int .i64 cc) ∧ w'.cell? ⟨w.heap.size + 1, 2, none⟩ = some (.int .i64 ll))) (by kernel_rfl) ⟨P1.out.drew.six, ob3 P2.out.drew HO.out⟩ (fun hHeld => ?_)
  refine wpAnyH_take (i := 0) (v := ?v24) rfl (by kernel_rfl) (by kernel_rfl) (by kernel_rfl) (fun _ _ _ h => h) (Or.inl ⟨by rfl, ?hy24⟩) hHeld ?rest24
  case hy24 =>
    intro w' hSw
    try dsimp only at hSw
    go_simp
    first | done | with_reducible rfl
  try simp only [Act.put, List.getElem_toArray, List.getElem_cons_zero, List.setIfInBounds_toArray, List.set_cons_zero, List.set_cons_succ]
  refine wpAnyH_take (i := 1) (v := ?v25) rfl (by kernel_rfl) (by kernel_rfl) (by kernel_rfl) (fun _ _ _ h => h) (Or.inl ⟨by rfl, ?hy25⟩) hHeld ?rest25
  case hy25 =>
    intro w' hSw
    try dsimp only at hSw
    go_simp
    first | done | with_reducible rfl
  try simp only [Act.put, List.getElem_toArray, List.getElem_cons_succ, List.getElem_cons_zero, List.setIfInBounds_toArray, List.set_cons_zero, List.set_cons_succ]
  refine wpAnyH_take (i := 2) (v := ?v26) rfl (by kernel_rfl) (by kernel_rfl) (by kernel_rfl) (fun _ _ _ h => h) (Or.inl ⟨by rfl, ?hy26⟩) hHeld ?rest26
  case hy26 =>
    intro w' hSw
    try dsimp only at hSw
    go_simp
    first | done | with_reducible rfl
  try simp only [Act.put, List.getElem_toArray, List.getElem_cons_succ, List.getElem_cons_zero, List.setIfInBounds_toArray, List.set_cons_zero, List.set_cons_succ]
  refine wpAnyH_ready (rs := [3]) (by kernel_rfl) (by simp) ?_
  refine AllReadyH.cons (by rfl) (fun K hK => ?_) AllReadyH.nil
  go_simp
  refine (HW.out ▸ rwant_any x _).mono ?_
  rintro e w3 ⟨rfl, b3⟩
  have HB3 := Lib.hid ((below_drew HB2.out).trans (b3.mono HB2.out.size))
  have Q1 := Lib.hid (P1.out.drew.keep b3)
  have Q2 := Lib.hid (P2.out.drew.keep b3)
  clear b3 hHeld
  go_wp2_with fail
  refine hK.out _ _ ⟨Q1.out.six, ob3 Q2.out HO.out⟩ (fun hHeld => ?_)
  clear hK K
  try simp only [Act.put, List.getElem_toArray, List.getElem_cons_succ, List.getElem_cons_zero, List.setIfInBounds_toArray, List.set_cons_zero, List.set_cons_succ]
  refine wpAnyH_take (i := 4) (v := ?v27) rfl (by kernel_rfl) (by kernel_rfl) (by kernel_rfl) (fun _ _ _ h => h) (Or.inl ⟨by rfl, ?hy27⟩) hHeld ?rest27
  case hy27 =>
    intro w' hSw
    try dsimp only at hSw
    go_simp
    first | done | with_reducible rfl
  try simp only [Act.put, List.getElem_toArray, List.getElem_cons_succ, List.getElem_cons_zero, List.setIfInBounds_toArray, List.set_cons_zero, List.set_cons_succ]
  refine wpAnyH_take (i := 5) (v := ?v28) rfl (by kernel_rfl) (by kernel_rfl) (by kernel_rfl) (fun _ _ _ h => h) (Or.inl ⟨by rfl, ?hy28⟩) hHeld ?rest28
  case hy28 =>
    intro w' hSw
    try dsimp only at hSw
    go_simp
    first | done | with_reducible rfl
  try simp only [Act.put, List.getElem_toArray, List.getElem_cons_succ, List.getElem_cons_zero, List.setIfInBounds_toArray, List.set_cons_zero, List.set_cons_succ]
  refine wpAnyH_take (i := 6) (v := ?v29) rfl (by kernel_rfl) (by kernel_rfl) (by kernel_rfl) (fun _ _ _ h => h) (Or.inl ⟨by rfl, ?hy29⟩) hHeld ?rest29
  case hy29 =>
    intro w' hSw
    try dsimp only at hSw
    go_simp
    first | done | with_reducible rfl
  try simp only [Act.put, List.getElem_toArray, List.getElem_cons_succ, List.getElem_cons_zero, List.setIfInBounds_toArray, List.set_cons_zero, List.set_cons_succ]
  refine wpAnyH_take (i := 7) (v := ?v30) rfl (by kernel_rfl) (by kernel_rfl) (by kernel_rfl) (fun _ _ _ h => h) (Or.inl ⟨by rfl, ?hy30⟩) hHeld ?rest30
  case hy30 =>
    intro w' hSw
    try dsimp only at hSw
    go_simp
    first | done | with_reducible rfl
  try simp only [Act.put, List.getElem_toArray, List.getElem_cons_succ, List.getElem_cons_zero, List.setIfInBounds_toArray, List.set_cons_zero, List.set_cons_succ]
  refine wpAnyH_take (i := 8) (v := ?v31) rfl (by kernel_rfl) (by kernel_rfl) (by kernel_rfl) (fun _ _ _ h => h) (Or.inl ⟨by rfl, ?hy31⟩) hHeld ?rest31
  case hy31 =>
    intro w' hSw
    try dsimp only at hSw
    go_simp
    first | done | with_reducible rfl
  try simp only [Act.put, List.getElem_toArray, List.getElem_cons_succ, List.getElem_cons_zero, List.setIfInBounds_toArray, List.set_cons_zero, List.set_cons_succ]
  refine wpAnyH_take (i := 9) (v := ?v32) rfl (by kernel_rfl) (by kernel_rfl) (by kernel_rfl) (fun _ _ _ h => h) (Or.inl ⟨by rfl, ?hy32⟩) hHeld ?rest32
  case hy32 =>
    intro w' hSw
    try dsimp only at hSw
    go_simp
    first | done | with_reducible rfl
  try simp only [Act.put, List.getElem_toArray, List.getElem_cons_succ, List.getElem_cons_zero, List.setIfInBounds_toArray, List.set_cons_zero, List.set_cons_succ]
  refine wpAnyH_take (i := 10) (v := ?v33) rfl (by kernel_rfl) (by kernel_rfl) (by kernel_rfl) (fun _ _ _ h => h) (Or.inl ⟨by rfl, ?hy33⟩) hHeld ?rest33
  case hy33 =>
    intro w' hSw
    try dsimp only at hSw
    go_simp
    first | done | with_reducible rfl
  try simp only [Act.put, List.getElem_toArray, List.getElem_cons_succ, List.getElem_cons_zero, List.setIfInBounds_toArray, List.set_cons_zero, List.set_cons_succ]
  refine wpAnyH_take (i := 11) (v := ?v34) rfl (by kernel_rfl) (by kernel_rfl) (by kernel_rfl) (fun _ _ _ h => h) (Or.inl ⟨by rfl, ?hy34⟩) hHeld ?rest34
  case hy34 =>
    intro w' hSw
    try dsimp only at hSw
    go_simp
    first | done | with_reducible rfl
  try simp only [Act.put, List.getElem_toArray, List.getElem_cons_succ, List.getElem_cons_zero, List.setIfInBounds_toArray, List.set_cons_zero, List.set_cons_succ]
  refine wpAnyH_take (i := 12) (v := ?v35) rfl (by kernel_rfl) (by kernel_rfl) (by kernel_rfl) (fun _ _ _ h => h) (Or.inl ⟨by rfl, ?hy35⟩) hHeld ?rest35
  case hy35 =>
    intro w' hSw
    try dsimp only at hSw
    go_simp
    first | done | with_reducible rfl
  try simp only [Act.put, List.getElem_toArray, List.getElem_cons_succ, List.getElem_cons_zero, List.setIfInBounds_toArray, List.set_cons_zero, List.set_cons_succ]
  refine wpAnyH_take (i := 13) (v := ?v36) rfl (by kernel_rfl) (by kernel_rfl) (by kernel_rfl) (fun _ _ _ h => h) (Or.inl ⟨by rfl, ?hy36⟩) hHeld ?rest36
  case hy36 =>
    intro w' hSw
    try dsimp only at hSw
    go_simp
    first | done | with_reducible rfl
  try simp only [Act.put, List.getElem_toArray, List.getElem_cons_succ, List.getElem_cons_zero, List.setIfInBounds_toArray, List.set_cons_zero, List.set_cons_succ]
  refine wpAnyH_take (i := 14) (v := ?v37) rfl (by kernel_rfl) (by kernel_rfl) (by kernel_rfl) (fun _ _ _ h => h) (Or.inl ⟨by rfl, ?hy37⟩) hHeld ?rest37
  case hy37 =>
    intro w' hSw
    try dsimp only at hSw
    go_simp
    first | done | with_reducible rfl
  try simp only [Act.put, List.getElem_toArray, List.getElem_cons_succ, List.getElem_cons_zero, List.setIfInBounds_toArray, List.set_cons_zero, List.set_cons_succ]
  refine wpAnyH_take (i := 15) (v := ?v38) rfl (by kernel_rfl) (by kernel_rfl) (by kernel_rfl) (fun _ _ _ h => h) (Or.inl ⟨by rfl, ?hy38⟩) hHeld ?rest38
  case hy38 =>
    intro w' hSw
    try dsimp only at hSw
    go_simp
    first | done | with_reducible rfl
  try simp only [Act.put, List.getElem_toArray, List.getElem_cons_succ, List.getElem_cons_zero, List.setIfInBounds_toArray, List.set_cons_zero, List.set_cons_succ]
  refine wpAnyH_take (i := 16) (v := ?v39) rfl (by kernel_rfl) (by kernel_rfl) (by kernel_rfl) (fun _ _ _ h => h) (Or.inl ⟨by rfl, ?hy39⟩) hHeld ?rest39
  case hy39 =>
    intro w' hSw
    try dsimp only at hSw
    go_simp
    first | done | with_reducible rfl
  try simp only [Act.put, List.getElem_toArray, List.getElem_cons_succ, List.getElem_cons_zero, List.setIfInBounds_toArray, List.set_cons_zero, List.set_cons_succ]
  refine wpAnyH_take (i := 17) (v := undef) rfl (by kernel_rfl) (by kernel_rfl) (by kernel_rfl) (fun _ _ _ h => h) (Or.inr ⟨by rfl, rfl⟩) hHeld ?_
  try simp only [Act.put, List.getElem_toArray, List.getElem_cons_succ, List.getElem_cons_zero, List.setIfInBounds_toArray, List.set_cons_zero, List.set_cons_succ]
  refine wpAnyH_take (i := 18) (v := undef) rfl (by kernel_rfl) (by kernel_rfl) (by kernel_rfl) (fun _ _ _ h => h) (Or.inr ⟨by rfl, rfl⟩) hHeld ?_
  try simp only [Act.put, List.getElem_toArray, List.getElem_cons_succ, List.getElem_cons_zero, List.setIfInBounds_toArray, List.set_cons_zero, List.set_cons_succ]
  refine wpAnyH_take (i := 19) (v := undef) rfl (by kernel_rfl) (by kernel_rfl) (by kernel_rfl) (fun _ _ _ h => h) (Or.inr ⟨by rfl, rfl⟩) hHeld ?_
  try simp only [Act.put, List.getElem_toArray, List.getElem_cons_succ, List.getElem_cons_zero, List.setIfInBounds_toArray, List.set_cons_zero, List.set_cons_succ]
  refine wpAnyH_take (i := 20) (v := undef) rfl (by kernel_rfl) (by kernel_rfl) (by kernel_rfl) (fun _ _ _ h => h) (Or.inr ⟨by rfl, rfl⟩) hHeld ?_
  try simp only [Act.put, List.getElem_toArray, List.getElem_cons_succ, List.getElem_cons_zero, List.setIfInBounds_toArray, List.set_cons_zero, List.set_cons_succ]
  refine wpAnyH_take (i := 21) (v := undef) rfl (by kernel_rfl) (by kernel_rfl) (by kernel_rfl) (fun _ _ _ h => h) (Or.inr ⟨by rfl, rfl⟩) hHeld ?_
  try simp only [Act.put, List.getElem_toArray, List.getElem_cons_succ, List.getElem_cons_zero, List.setIfInBounds_toArray, List.set_cons_zero, List.set_cons_succ]
  refine wpAnyH_take (i := 22) (v := ?v40) rfl (by kernel_rfl) (by kernel_rfl) (by kernel_rfl) (fun _ _ _ h => h) (Or.inl ⟨by rfl, ?hy40⟩) hHeld ?rest40
  case hy40 =>
    intro w' hSw
    try dsimp only at hSw
    go_simp
    first | done | with_reducible rfl
  try simp only [Act.put, List.getElem_toArray, List.getElem_cons_succ, List.getElem_cons_zero, List.setIfInBounds_toArray, List.set_cons_zero, List.set_cons_succ]
  refine wpAnyH_take (i := 23) (v := ?v41) rfl (by kernel_rfl) (by kernel_rfl) (by kernel_rfl) (fun _ _ _ h => h) (Or.inl ⟨by rfl, ?hy41⟩) hHeld ?rest41
  case hy41 =>
    intro w' hSw
    try dsimp only at hSw
    go_simp
    first | done | with_reducible rfl
  try simp only [Act.put, List.getElem_toArray, List.getElem_cons_succ, List.getElem_cons_zero, List.setIfInBounds_toArray, List.set_cons_zero, List.set_cons_succ]
  refine wpAnyH_take (i := 24) (v := ?v42) rfl (by kernel_rfl) (by kernel_rfl) (by kernel_rfl) (fun _ _ _ h => h) (Or.inl ⟨by rfl, ?hy42⟩) hHeld ?rest42
  case hy42 =>
    intro w' hSw
    try dsimp only at hSw
    go_simp
    first | done | with_reducible rfl
  try simp only [Act.put, List.getElem_toArray, List.getElem_cons_succ, List.getElem_cons_zero, List.setIfInBounds_toArray, List.set_cons_zero, List.set_cons_succ]
  refine wpAnyH_done (by kernel_rfl) ?_ _
  refine OnlyN.normal ?_
  clear hHeld
  go_wp2
  go_ret
  exact ⟨rfl, HB3.out⟩
set_option maxRecDepth 100000 in
set_option maxHeartbeats 2000000 in
theorem rcou_z (x : Ky) (l : List Value) (kk cc ll : Int) (w : World) (ho : Ob l kk cc ll) (hf : x.of) (hk : x.want = kk) (hc : x.c = cc) (h7 : x.k = 7) :
    Calls Tryz.prog 132 #[x.val, .agg l.toArray] w fun e w' => e = .returned (.bool (ll == x.l)) ∧ Below w.heap.size w w' := by
  have HO := Lib.hid ho
  have HF := Lib.hid hf
  have HK := Lib.hid hf.1
  have h0 := of_o hf
  have h0' : ¬ x.o < 0 := by omega
  have d0 : decide (x.o < 0) = false := by simpa using h0'
  clear h0 h0'
  obtain ⟨wv, hwv⟩ : ∃ y : Int, x.want = y := ⟨_, rfl⟩
  have HW := Lib.hid hwv
  rw [hwv] at hk
  clear hf hwv
  have hk' := hk.symm
  subst hk'
  clear hk
  have dc : (cc == x.c) = true := by simp; exact hc.symm
  have d7 : (x.k != 7) = false := by simpa using h7
  clear hc h7
  clear ho
  go_enter Tryz.func132, Tryz.ntmps132
  go_wp2_with (first
    | (go_at_call 17; refine (rchk_ok x.k x.o x.c x.l x.r x.v _ HK.out).mono ?_; rintro e w1 ⟨rfl, b1⟩; obtain ⟨B1, B2, b2⟩ := box2 b1; have HB := Lib.hid b2; have H1 := Lib.hid B1; have H2 := Lib.hid B2; clear b1; obtain ⟨c0, c1, c2, c3, c4, c5⟩ := B1.six; obtain ⟨d0, d1, d2⟩ := ob3 B2 HO.out; clear B1 B2 b2)
    | (go_at_call 19; refine (rname_yes x _ HF.out).mono ?_; rintro e w2 ⟨rfl, b2⟩; have HB2 := Lib.hid (HB.out.trans (b2.mono HB.out.size)); have P1 := Lib.hid (H1.out.keep b2); have P2 := Lib.hid (H2.out.keep b2); clear b2 c0 c1 c2 c3 c4 c5 d0 d1 d2))
  refine wp_region_only (S := fun w' => (w'.cell? ⟨w.heap.size, 0, none⟩ = some (.int .i64 x.k) ∧ w'.cell? ⟨w.heap.size, 1, none⟩ = some (.int .i64 x.o) ∧ w'.cell? ⟨w.heap.size, 2, none⟩ = some (.int .i64 x.c) ∧ w'.cell? ⟨w.heap.size, 3, none⟩ = some (.int .i64 x.l) ∧ w'.cell? ⟨w.heap.size, 4, none⟩ = some (.int .i64 x.r) ∧ w'.cell? ⟨w.heap.size, 5, none⟩ = some (.int .i64 x.v)) ∧ (w'.cell? ⟨w.heap.size + 1, 0, none⟩ = some (.int .i64 kk) ∧ w'.cell? ⟨w.heap.size + 1, 1, none⟩ = some (.int .i64 cc) ∧ w'.cell? ⟨w.heap.size + 1, 2, none⟩ = some (.int .i64 ll))) (by kernel_rfl) ⟨P1.out.drew.six, ob3 P2.out.drew HO.out⟩ (fun hHeld => ?_)
  refine wpAnyH_take (i := 0) (v := ?v43) rfl (by kernel_rfl) (by kernel_rfl) (by kernel_rfl) (fun _ _ _ h => h) (Or.inl ⟨by rfl, ?hy43⟩) hHeld ?rest43
  case hy43 =>
    intro w' hSw
    try dsimp only at hSw
    go_simp
    first | done | with_reducible rfl
  try simp only [Act.put, List.getElem_toArray, List.getElem_cons_zero, List.setIfInBounds_toArray, List.set_cons_zero, List.set_cons_succ]
  refine wpAnyH_take (i := 1) (v := ?v44) rfl (by kernel_rfl) (by kernel_rfl) (by kernel_rfl) (fun _ _ _ h => h) (Or.inl ⟨by rfl, ?hy44⟩) hHeld ?rest44
  case hy44 =>
    intro w' hSw
    try dsimp only at hSw
    go_simp
    first | done | with_reducible rfl
  try simp only [Act.put, List.getElem_toArray, List.getElem_cons_succ, List.getElem_cons_zero, List.setIfInBounds_toArray, List.set_cons_zero, List.set_cons_succ]
  refine wpAnyH_take (i := 2) (v := ?v45) rfl (by kernel_rfl) (by kernel_rfl) (by kernel_rfl) (fun _ _ _ h => h) (Or.inl ⟨by rfl, ?hy45⟩) hHeld ?rest45
  case hy45 =>
    intro w' hSw
    try dsimp only at hSw
    go_simp
    first | done | with_reducible rfl
  try simp only [Act.put, List.getElem_toArray, List.getElem_cons_succ, List.getElem_cons_zero, List.setIfInBounds_toArray, List.set_cons_zero, List.set_cons_succ]
  refine wpAnyH_ready (rs := [3]) (by kernel_rfl) (by simp) ?_
  refine AllReadyH.cons (by rfl) (fun K hK => ?_) AllReadyH.nil
  go_simp
  refine (HW.out ▸ rwant_any x _).mono ?_
  rintro e w3 ⟨rfl, b3⟩
  have HB3 := Lib.hid ((below_drew HB2.out).trans (b3.mono HB2.out.size))
  have Q1 := Lib.hid (P1.out.drew.keep b3)
  have Q2 := Lib.hid (P2.out.drew.keep b3)
  clear b3 hHeld
  go_wp2_with fail
  refine hK.out _ _ ⟨Q1.out.six, ob3 Q2.out HO.out⟩ (fun hHeld => ?_)
  clear hK K
  try simp only [Act.put, List.getElem_toArray, List.getElem_cons_succ, List.getElem_cons_zero, List.setIfInBounds_toArray, List.set_cons_zero, List.set_cons_succ]
  refine wpAnyH_take (i := 4) (v := ?v46) rfl (by kernel_rfl) (by kernel_rfl) (by kernel_rfl) (fun _ _ _ h => h) (Or.inl ⟨by rfl, ?hy46⟩) hHeld ?rest46
  case hy46 =>
    intro w' hSw
    try dsimp only at hSw
    go_simp
    first | done | with_reducible rfl
  try simp only [Act.put, List.getElem_toArray, List.getElem_cons_succ, List.getElem_cons_zero, List.setIfInBounds_toArray, List.set_cons_zero, List.set_cons_succ]
  refine wpAnyH_take (i := 5) (v := ?v47) rfl (by kernel_rfl) (by kernel_rfl) (by kernel_rfl) (fun _ _ _ h => h) (Or.inl ⟨by rfl, ?hy47⟩) hHeld ?rest47
  case hy47 =>
    intro w' hSw
    try dsimp only at hSw
    go_simp
    first | done | with_reducible rfl
  try simp only [Act.put, List.getElem_toArray, List.getElem_cons_succ, List.getElem_cons_zero, List.setIfInBounds_toArray, List.set_cons_zero, List.set_cons_succ]
  refine wpAnyH_take (i := 6) (v := ?v48) rfl (by kernel_rfl) (by kernel_rfl) (by kernel_rfl) (fun _ _ _ h => h) (Or.inl ⟨by rfl, ?hy48⟩) hHeld ?rest48
  case hy48 =>
    intro w' hSw
    try dsimp only at hSw
    go_simp
    first | done | with_reducible rfl
  try simp only [Act.put, List.getElem_toArray, List.getElem_cons_succ, List.getElem_cons_zero, List.setIfInBounds_toArray, List.set_cons_zero, List.set_cons_succ]
  refine wpAnyH_take (i := 7) (v := ?v49) rfl (by kernel_rfl) (by kernel_rfl) (by kernel_rfl) (fun _ _ _ h => h) (Or.inl ⟨by rfl, ?hy49⟩) hHeld ?rest49
  case hy49 =>
    intro w' hSw
    try dsimp only at hSw
    go_simp
    first | done | with_reducible rfl
  try simp only [Act.put, List.getElem_toArray, List.getElem_cons_succ, List.getElem_cons_zero, List.setIfInBounds_toArray, List.set_cons_zero, List.set_cons_succ]
  refine wpAnyH_take (i := 8) (v := ?v50) rfl (by kernel_rfl) (by kernel_rfl) (by kernel_rfl) (fun _ _ _ h => h) (Or.inl ⟨by rfl, ?hy50⟩) hHeld ?rest50
  case hy50 =>
    intro w' hSw
    try dsimp only at hSw
    go_simp
    first | done | with_reducible rfl
  try simp only [Act.put, List.getElem_toArray, List.getElem_cons_succ, List.getElem_cons_zero, List.setIfInBounds_toArray, List.set_cons_zero, List.set_cons_succ]
  refine wpAnyH_take (i := 9) (v := ?v51) rfl (by kernel_rfl) (by kernel_rfl) (by kernel_rfl) (fun _ _ _ h => h) (Or.inl ⟨by rfl, ?hy51⟩) hHeld ?rest51
  case hy51 =>
    intro w' hSw
    try dsimp only at hSw
    go_simp
    first | done | with_reducible rfl
  try simp only [Act.put, List.getElem_toArray, List.getElem_cons_succ, List.getElem_cons_zero, List.setIfInBounds_toArray, List.set_cons_zero, List.set_cons_succ]
  refine wpAnyH_take (i := 10) (v := ?v52) rfl (by kernel_rfl) (by kernel_rfl) (by kernel_rfl) (fun _ _ _ h => h) (Or.inl ⟨by rfl, ?hy52⟩) hHeld ?rest52
  case hy52 =>
    intro w' hSw
    try dsimp only at hSw
    go_simp
    first | done | with_reducible rfl
  try simp only [Act.put, List.getElem_toArray, List.getElem_cons_succ, List.getElem_cons_zero, List.setIfInBounds_toArray, List.set_cons_zero, List.set_cons_succ]
  refine wpAnyH_take (i := 11) (v := ?v53) rfl (by kernel_rfl) (by kernel_rfl) (by kernel_rfl) (fun _ _ _ h => h) (Or.inl ⟨by rfl, ?hy53⟩) hHeld ?rest53
  case hy53 =>
    intro w' hSw
    try dsimp only at hSw
    go_simp
    first | done | with_reducible rfl
  try simp only [Act.put, List.getElem_toArray, List.getElem_cons_succ, List.getElem_cons_zero, List.setIfInBounds_toArray, List.set_cons_zero, List.set_cons_succ]
  refine wpAnyH_take (i := 12) (v := ?v54) rfl (by kernel_rfl) (by kernel_rfl) (by kernel_rfl) (fun _ _ _ h => h) (Or.inl ⟨by rfl, ?hy54⟩) hHeld ?rest54
  case hy54 =>
    intro w' hSw
    try dsimp only at hSw
    go_simp
    first | done | with_reducible rfl
  try simp only [Act.put, List.getElem_toArray, List.getElem_cons_succ, List.getElem_cons_zero, List.setIfInBounds_toArray, List.set_cons_zero, List.set_cons_succ]
  refine wpAnyH_take (i := 13) (v := ?v55) rfl (by kernel_rfl) (by kernel_rfl) (by kernel_rfl) (fun _ _ _ h => h) (Or.inl ⟨by rfl, ?hy55⟩) hHeld ?rest55
  case hy55 =>
    intro w' hSw
    try dsimp only at hSw
    go_simp
    first | done | with_reducible rfl
  try simp only [Act.put, List.getElem_toArray, List.getElem_cons_succ, List.getElem_cons_zero, List.setIfInBounds_toArray, List.set_cons_zero, List.set_cons_succ]
  refine wpAnyH_take (i := 14) (v := ?v56) rfl (by kernel_rfl) (by kernel_rfl) (by kernel_rfl) (fun _ _ _ h => h) (Or.inl ⟨by rfl, ?hy56⟩) hHeld ?rest56
  case hy56 =>
    intro w' hSw
    try dsimp only at hSw
    go_simp
    first | done | with_reducible rfl
  try simp only [Act.put, List.getElem_toArray, List.getElem_cons_succ, List.getElem_cons_zero, List.setIfInBounds_toArray, List.set_cons_zero, List.set_cons_succ]
  refine wpAnyH_take (i := 15) (v := ?v57) rfl (by kernel_rfl) (by kernel_rfl) (by kernel_rfl) (fun _ _ _ h => h) (Or.inl ⟨by rfl, ?hy57⟩) hHeld ?rest57
  case hy57 =>
    intro w' hSw
    try dsimp only at hSw
    go_simp
    first | done | with_reducible rfl
  try simp only [Act.put, List.getElem_toArray, List.getElem_cons_succ, List.getElem_cons_zero, List.setIfInBounds_toArray, List.set_cons_zero, List.set_cons_succ]
  refine wpAnyH_take (i := 16) (v := ?v58) rfl (by kernel_rfl) (by kernel_rfl) (by kernel_rfl) (fun _ _ _ h => h) (Or.inl ⟨by rfl, ?hy58⟩) hHeld ?rest58
  case hy58 =>
    intro w' hSw
    try dsimp only at hSw
    go_simp
    first | done | with_reducible rfl
  try simp only [Act.put, List.getElem_toArray, List.getElem_cons_succ, List.getElem_cons_zero, List.setIfInBounds_toArray, List.set_cons_zero, List.set_cons_succ]
  refine wpAnyH_take (i := 17) (v := ?v59) rfl (by kernel_rfl) (by kernel_rfl) (by kernel_rfl) (fun _ _ _ h => h) (Or.inl ⟨by rfl, ?hy59⟩) hHeld ?rest59
  case hy59 =>
    intro w' hSw
    try dsimp only at hSw
    go_simp
    first | done | with_reducible rfl
  try simp only [Act.put, List.getElem_toArray, List.getElem_cons_succ, List.getElem_cons_zero, List.setIfInBounds_toArray, List.set_cons_zero, List.set_cons_succ]
  refine wpAnyH_take (i := 18) (v := ?v60) rfl (by kernel_rfl) (by kernel_rfl) (by kernel_rfl) (fun _ _ _ h => h) (Or.inl ⟨by rfl, ?hy60⟩) hHeld ?rest60
  case hy60 =>
    intro w' hSw
    try dsimp only at hSw
    go_simp
    first | done | with_reducible rfl
  try simp only [Act.put, List.getElem_toArray, List.getElem_cons_succ, List.getElem_cons_zero, List.setIfInBounds_toArray, List.set_cons_zero, List.set_cons_succ]
  refine wpAnyH_take (i := 19) (v := ?v61) rfl (by kernel_rfl) (by kernel_rfl) (by kernel_rfl) (fun _ _ _ h => h) (Or.inl ⟨by rfl, ?hy61⟩) hHeld ?rest61
  case hy61 =>
    intro w' hSw
    try dsimp only at hSw
    go_simp
    first | done | with_reducible rfl
  try simp only [Act.put, List.getElem_toArray, List.getElem_cons_succ, List.getElem_cons_zero, List.setIfInBounds_toArray, List.set_cons_zero, List.set_cons_succ]
  refine wpAnyH_take (i := 20) (v := ?v62) rfl (by kernel_rfl) (by kernel_rfl) (by kernel_rfl) (fun _ _ _ h => h) (Or.inl ⟨by rfl, ?hy62⟩) hHeld ?rest62
  case hy62 =>
    intro w' hSw
    try dsimp only at hSw
    go_simp
    first | done | with_reducible rfl
  try simp only [Act.put, List.getElem_toArray, List.getElem_cons_succ, List.getElem_cons_zero, List.setIfInBounds_toArray, List.set_cons_zero, List.set_cons_succ]
  refine wpAnyH_take (i := 21) (v := ?v63) rfl (by kernel_rfl) (by kernel_rfl) (by kernel_rfl) (fun _ _ _ h => h) (Or.inl ⟨by rfl, ?hy63⟩) hHeld ?rest63
  case hy63 =>
    intro w' hSw
    try dsimp only at hSw
    go_simp
    first | done | with_reducible rfl
  try simp only [Act.put, List.getElem_toArray, List.getElem_cons_succ, List.getElem_cons_zero, List.setIfInBounds_toArray, List.set_cons_zero, List.set_cons_succ]
  refine wpAnyH_take (i := 22) (v := ?v64) rfl (by kernel_rfl) (by kernel_rfl) (by kernel_rfl) (fun _ _ _ h => h) (Or.inl ⟨by rfl, ?hy64⟩) hHeld ?rest64
  case hy64 =>
    intro w' hSw
    try dsimp only at hSw
    go_simp
    first | done | with_reducible rfl
  try simp only [Act.put, List.getElem_toArray, List.getElem_cons_succ, List.getElem_cons_zero, List.setIfInBounds_toArray, List.set_cons_zero, List.set_cons_succ]
  refine wpAnyH_take (i := 23) (v := ?v65) rfl (by kernel_rfl) (by kernel_rfl) (by kernel_rfl) (fun _ _ _ h => h) (Or.inl ⟨by rfl, ?hy65⟩) hHeld ?rest65
  case hy65 =>
    intro w' hSw
    try dsimp only at hSw
    go_simp
    first | done | with_reducible rfl
  try simp only [Act.put, List.getElem_toArray, List.getElem_cons_succ, List.getElem_cons_zero, List.setIfInBounds_toArray, List.set_cons_zero, List.set_cons_succ]
  refine wpAnyH_take (i := 24) (v := ?v66) rfl (by kernel_rfl) (by kernel_rfl) (by kernel_rfl) (fun _ _ _ h => h) (Or.inl ⟨by rfl, ?hy66⟩) hHeld ?rest66
  case hy66 =>
    intro w' hSw
    try dsimp only at hSw
    go_simp
    first | done | with_reducible rfl
  try simp only [Act.put, List.getElem_toArray, List.getElem_cons_succ, List.getElem_cons_zero, List.setIfInBounds_toArray, List.set_cons_zero, List.set_cons_succ]
  refine wpAnyH_done (by kernel_rfl) ?_ _
  refine OnlyN.normal ?_
  clear hHeld
  go_wp2
  go_ret
  exact ⟨rfl, HB3.out⟩
set_option maxRecDepth 8000 in
theorem cnt_of {x : Ky} {kk cc ll : Int} (hf : x.of) : x.cnt kk cc ll = true ↔ x.want = kk ∧ x.c = cc ∧ (x.k ≠ 7 ∨ x.l = ll) := by
  unfold Ky.cnt
  simp only [decide_eq_true_eq]
  exact ⟨fun h => h.2 hf, fun h => ⟨hf.1, fun _ => h⟩⟩
set_option maxRecDepth 8000 in
theorem cnt_f {x : Ky} {kk cc ll : Int} (hf : x.of) (h : ¬ (x.want = kk ∧ x.c = cc ∧ (x.k ≠ 7 ∨ x.l = ll))) : x.cnt kk cc ll = false := by
  rw [← Bool.not_eq_true]
  exact fun e => h ((cnt_of hf).1 e)
set_option maxRecDepth 8000 in
theorem want_of {x : Ky} (hf : x.of) : kWants x.k.toNat = x.want := by
  unfold Ky.want
  rw [if_pos hf, wants_of hf]
set_option maxRecDepth 8000 in
theorem want_ne {x : Ky} (hf : x.of) : x.want ≠ 0 := by
  rw [← want_of hf, wants_of hf]
  split <;> decide
set_option maxRecDepth 8000 in
theorem count_any (x : Ky) (l : List Value) (kk cc ll : Int) (w : World) (hT : Tab w) (ho : Ob l kk cc ll) :
    Calls Tryz.prog 83 #[x.val, .agg l.toArray] w fun e w' => e = .returned (.bool (x.cnt kk cc ll)) ∧ Below w.heap.size w w' := by
  by_cases hok : x.ok
  · by_cases hf : x.of
    · have hw := want_of hf
      have hn := want_ne hf
      have hkn := hf.2
      obtain ⟨k, oo, c, l', r, v⟩ := x
      simp only at hkn
      obtain ⟨n, rfl⟩ := Int.eq_ofNat_of_zero_le (show 0 ≤ k by omega)
      by_cases h7 : n = 7
      · subst h7
        by_cases hk : Ky.want ⟨((7 : Nat) : Int), oo, c, l', r, v⟩ = kk
        · by_cases hc : c = cc
          · have e : Ky.cnt ⟨((7 : Nat) : Int), oo, c, l', r, v⟩ kk cc ll = (l' == ll) := by
              rw [Bool.eq_iff_iff, cnt_of hf]
              exact ⟨fun h => beq_iff_eq.2 (h.2.2.resolve_left (fun e => e rfl)), fun h => ⟨hk, hc, .inr (beq_iff_eq.1 h)⟩⟩
            rw [e]
            exact cou7_y oo c l' r v l kk cc ll w hT ho hok _ hw hn hk hc
          · rw [cnt_f hf (fun h => hc h.2.1)]
            exact cou7_c oo c l' r v l kk cc ll w hT ho hok _ hw hn hk hc
        · rw [cnt_f hf (fun h => hk h.1)]
          exact cou7_k oo c l' r v l kk cc ll w hT ho hok _ hw hn hk
      · have h7' : ((n : Int)) ≠ 7 := by omega
        by_cases hk : Ky.want ⟨(n : Int), oo, c, l', r, v⟩ = kk
        · by_cases hc : c = cc
          · rw [cnt_yes ⟨hok, fun _ => ⟨hk, hc, .inl h7'⟩⟩]
            exact cou_y n oo c l' r v l kk cc ll w hT ho hok _ hw hn h7 hk hc
          · rw [cnt_f hf (fun h => hc h.2.1)]
            exact cou_c n oo c l' r v l kk cc ll w hT ho hok _ hw hn h7 hk hc
        · rw [cnt_f hf (fun h => hk h.1)]
          exact cou_k n oo c l' r v l kk cc ll w hT ho hok _ hw hn h7 hk
    · rw [cnt_yes ⟨hok, fun h => absurd h hf⟩]
      have hw := wants_not hf hok
      have hk0 := okK_in hok
      obtain ⟨k, oo, c, l', r, v⟩ := x
      simp only at hk0
      obtain ⟨n, rfl⟩ := Int.eq_ofNat_of_zero_le hk0.1
      exact cou_none n oo c l' r v l kk cc ll w hT ho hok _ hw rfl
  · rw [cnt_no (fun h => hok h.1)]
    exact cou_bad x l kk cc ll w hT ho hok
set_option maxRecDepth 8000 in
theorem rcount_any (x : Ky) (l : List Value) (kk cc ll : Int) (w : World) (ho : Ob l kk cc ll) :
    Calls Tryz.prog 132 #[x.val, .agg l.toArray] w fun e w' => e = .returned (.bool (x.cnt kk cc ll)) ∧ Below w.heap.size w w' := by
  by_cases hok : x.ok
  · by_cases hf : x.of
    · by_cases hk : x.want = kk
      · by_cases hc : x.c = cc
        · by_cases h7 : x.k = 7
          · have e : x.cnt kk cc ll = (ll == x.l) := by
              rw [Bool.eq_iff_iff, cnt_of hf]
              exact ⟨fun h => beq_iff_eq.2 (h.2.2.resolve_left (fun e => e h7)).symm, fun h => ⟨hk, hc, .inr (beq_iff_eq.1 h).symm⟩⟩
            rw [e]
            exact rcou_z x l kk cc ll w ho hf hk hc h7
          · rw [cnt_yes ⟨hok, fun _ => ⟨hk, hc, .inl h7⟩⟩]
            exact rcou_y x l kk cc ll w ho hf hk hc h7
        · rw [cnt_f hf (fun h => hc h.2.1)]
          exact rcou_c x l kk cc ll w ho hf hk hc
      · rw [cnt_f hf (fun h => hk h.1)]
        exact rcou_k x l kk cc ll w ho hf hk
    · rw [cnt_yes ⟨hok, fun h => absurd h hf⟩]
      exact rcou_none x l kk cc ll w ho hok hf
  · rw [cnt_no (fun h => hok h.1)]
    exact rcou_bad x l kk cc ll w ho hok
end Go.Proofs.YtogkdhpnbpgheaaGreatDoor
namespace Go.Proofs.YtogkdhpnbpgheaaGreatDoor
open Go.RowKit
theorem Oj.ob (o : Oj) : Ob o.cells o.k o.c o.l := ⟨rfl, rfl, rfl⟩
/-- does a key count with an object -/
noncomputable def Ky.cn (x : Ky) (o : Oj) : Bool := x.cnt o.k o.c o.l
theorem cn_any (x : Ky) (o : Oj) (w : World) (hT : Tab w) : Calls Tryz.prog 83 #[x.val, o.val] w fun e w' => e = .returned (.bool (x.cn o)) ∧ Below w.heap.size w w' := count_any x o.cells _ _ _ w hT o.ob
theorem rcn_any (x : Ky) (o : Oj) (w : World) : Calls Tryz.prog 132 #[x.val, o.val] w fun e w' => e = .returned (.bool (x.cn o)) ∧ Below w.heap.size w w' := rcount_any x o.cells _ _ _ w o.ob
theorem cn_eq {x : Ky} {o : Oj} {b : Bool} {w : World} (h : x.cn o = b) (hT : Tab w) : Calls Tryz.prog 83 #[x.val, o.val] w fun e w' => e = .returned (.bool b) ∧ Below w.heap.size w w' := h ▸ cn_any x o w hT
/-- a pointer to a store, or nil -/
def IsP (v : Value) : Prop := v = .pointer none ∨ ∃ q, v = pv q
theorem Blk.setRow {w : World} {b : Nat} {t : TypeId} {l0 : Array Value} (h : Blk w b t l0) (c : Array Value) : Blk (w.setRow b c) b t c := setRow_heap w b l0 c t (0, 0) h
theorem below_setRow {B : Nat} {a w : World} {b : Nat} (h : Below B a w) (hb : B ≤ b) (c : Array Value) : Below B a (w.setRow b c) := ⟨h.os, h.tape, h.output, by have := h.size; simpa [World.setRow] using this, fun k hk => (setRow_other w b k c (by omega)).trans (h.block k hk)⟩
set_option maxRecDepth 100000 in
set_option maxHeartbeats 2000000 in
theorem nam_not0 (P : Value) (hP : IsP P) (x : Ky) (o : Oj) (hf : ¬ x.of) (w : World) (hT : Tab w) (ha : ∀ W, Below w.heap.size w W → Calls Tryz.prog 16 #[P, .int .i64 0] W fun e' w' => e' = .returned (.tuple #[o.val, .int .i64 0]) ∧ Below W.heap.size W w') :
    Calls Tryz.prog 82 #[P, x.val] w fun e' w' => e' = .returned (.tuple #[oz.val, .bool false]) ∧ Below w.heap.size w w' := by
  have hz := z34
  have hbl := oz_len
  have HA := Lib.hid ha
  have HF := Lib.hid hf
  have HT0 := Lib.hid ((hT.alloc (.cells (kc x.k x.o x.c x.l x.r x.v) 33)).alloc (.cells oz.cells.toArray 49))
  have HB0 := Lib.hid (((Below.refl w.heap.size w).alloc (Nat.le_refl _) (.cells (kc x.k x.o x.c x.l x.r x.v) 33)).alloc (by simp) (.cells oz.cells.toArray 49))
  have HK0 := Lib.hid ((Blk.new w 33 (kc x.k x.o x.c x.l x.r x.v)).alloc (.cells oz.cells.toArray 49))
  have HO0 := Lib.hid (show Blk ((w.alloc (.cells (kc x.k x.o x.c x.l x.r x.v) 33)).alloc (.cells oz.cells.toArray 49)) (w.heap.size + 1) 49 oz.cells.toArray from by have := Blk.new (w.alloc (.cells (kc x.k x.o x.c x.l x.r x.v) 33)) 49 oz.cells.toArray; simpa using this)
  clear hT ha hf
  rcases hP with rfl | ⟨q, rfl⟩
  all_goals
    go_enter Tryz.func82, Tryz.ntmps82
    go_wp2_with (first
      | (go_at_call 80; refine (kname_no x _ HT0.out HF.out).mono ?_; rintro e w1 ⟨rfl, b1⟩; have HB1 := Lib.hid (HB0.out.trans (b1.mono HB0.out.size)); have HT1 := Lib.hid (HT0.out.below b1); have HK1 := Lib.hid (HK0.out.keep b1); have HO1 := Lib.hid (HO0.out.keep b1); clear b1)
      | (go_at_call 16; refine (HA.out _ HB1.out).mono ?_; rintro e w2 ⟨rfl, b2⟩; have HB2 := Lib.hid (((HB1.out.trans (b2.mono HB1.out.size)).alloc (by have := HB1.out.size; have := b2.size; omega) (.cells o.cells.toArray 49))); have HT2 := Lib.hid ((HT1.out.below b2).alloc (.cells o.cells.toArray 49)); have HK2 := Lib.hid ((HK1.out.keep b2).alloc (.cells o.cells.toArray 49)); have HO2 := Lib.hid ((HO1.out.keep b2).alloc (.cells o.cells.toArray 49)); have HG2 := Lib.hid (Blk.new w2 49 o.cells.toArray); obtain ⟨c0, c1, c2, c3, c4, c5⟩ := HK2.out.six; clear b2)
      | (refine wpList_store_last rfl (.tmp 8) (.tmp 19) rfl _ rfl rfl o oz rfl ?_)
      | (refine wpList_yields (S := fun _ => True) (y_build (by rfl) (by rfl) built34) trivial ?_)
      | (refine wpList_store_ob HO2.out rfl (.tmp 4) (.tmp 33) rfl (by rfl) oz rfl ?_))
    exact bodyPost_ret (results_obj rfl _ _ (w.heap.size + 1) oz rfl (HO2.out.setRow _)) rfl ⟨rfl, below_setRow HB2.out (by omega) _⟩
set_option maxRecDepth 100000 in
set_option maxHeartbeats 2000000 in
theorem nam_notE (P : Value) (hP : IsP P) (x : Ky) (o : Oj) (hf : ¬ x.of) (e : Int) (w : World) (hT : Tab w) (ha : ∀ W, Below w.heap.size w W → Calls Tryz.prog 16 #[P, .int .i64 0] W fun e' w' => e' = .returned (.tuple #[o.val, .int .i64 e]) ∧ Below W.heap.size W w') :
    Calls Tryz.prog 82 #[P, x.val] w fun e' w' => e' = .returned (.tuple #[oz.val, .bool false]) ∧ Below w.heap.size w w' := by
  have hz := z34
  have hbl := oz_len
  have HA := Lib.hid ha
  have HF := Lib.hid hf
  have HT0 := Lib.hid ((hT.alloc (.cells (kc x.k x.o x.c x.l x.r x.v) 33)).alloc (.cells oz.cells.toArray 49))
  have HB0 := Lib.hid (((Below.refl w.heap.size w).alloc (Nat.le_refl _) (.cells (kc x.k x.o x.c x.l x.r x.v) 33)).alloc (by simp) (.cells oz.cells.toArray 49))
  have HK0 := Lib.hid ((Blk.new w 33 (kc x.k x.o x.c x.l x.r x.v)).alloc (.cells oz.cells.toArray 49))
  have HO0 := Lib.hid (show Blk ((w.alloc (.cells (kc x.k x.o x.c x.l x.r x.v) 33)).alloc (.cells oz.cells.toArray 49)) (w.heap.size + 1) 49 oz.cells.toArray from by have := Blk.new (w.alloc (.cells (kc x.k x.o x.c x.l x.r x.v) 33)) 49 oz.cells.toArray; simpa using this)
  clear hT ha hf
  rcases hP with rfl | ⟨q, rfl⟩
  all_goals
    go_enter Tryz.func82, Tryz.ntmps82
    go_wp2_with (first
      | (go_at_call 80; refine (kname_no x _ HT0.out HF.out).mono ?_; rintro e w1 ⟨rfl, b1⟩; have HB1 := Lib.hid (HB0.out.trans (b1.mono HB0.out.size)); have HT1 := Lib.hid (HT0.out.below b1); have HK1 := Lib.hid (HK0.out.keep b1); have HO1 := Lib.hid (HO0.out.keep b1); clear b1)
      | (go_at_call 16; refine (HA.out _ HB1.out).mono ?_; rintro e w2 ⟨rfl, b2⟩; have HB2 := Lib.hid (((HB1.out.trans (b2.mono HB1.out.size)).alloc (by have := HB1.out.size; have := b2.size; omega) (.cells o.cells.toArray 49))); have HT2 := Lib.hid ((HT1.out.below b2).alloc (.cells o.cells.toArray 49)); have HK2 := Lib.hid ((HK1.out.keep b2).alloc (.cells o.cells.toArray 49)); have HO2 := Lib.hid ((HO1.out.keep b2).alloc (.cells o.cells.toArray 49)); have HG2 := Lib.hid (Blk.new w2 49 o.cells.toArray); obtain ⟨c0, c1, c2, c3, c4, c5⟩ := HK2.out.six; clear b2)
      | (refine wpList_store_last rfl (.tmp 8) (.tmp 19) rfl _ rfl rfl o oz rfl ?_)
      | (refine wpList_yields (S := fun _ => True) (y_build (by rfl) (by rfl) built34) trivial ?_)
      | (refine wpList_store_ob HO2.out rfl (.tmp 4) (.tmp 33) rfl (by rfl) oz rfl ?_))
    exact bodyPost_ret (results_obj rfl _ _ (w.heap.size + 1) oz rfl (HO2.out.setRow _)) rfl ⟨rfl, below_setRow HB2.out (by omega) _⟩
set_option maxRecDepth 100000 in
set_option maxHeartbeats 2000000 in
theorem nam_out (P : Value) (hP : IsP P) (x : Ky) (o : Oj) (hf : x.of) (e : Int) (he : e ≠ 0) (w : World) (hT : Tab w) (ha : ∀ W, Below w.heap.size w W → Calls Tryz.prog 16 #[P, .int .i64 x.o] W fun e' w' => e' = .returned (.tuple #[o.val, .int .i64 e]) ∧ Below W.heap.size W w') :
    Calls Tryz.prog 82 #[P, x.val] w fun e' w' => e' = .returned (.tuple #[oz.val, .bool false]) ∧ Below w.heap.size w w' := by
  have hz := z34
  have hbl := oz_len
  have HA := Lib.hid ha
  have HF := Lib.hid hf
  have de : (e != 0) = true := by simpa using he
  have HT0 := Lib.hid ((hT.alloc (.cells (kc x.k x.o x.c x.l x.r x.v) 33)).alloc (.cells oz.cells.toArray 49))
  have HB0 := Lib.hid (((Below.refl w.heap.size w).alloc (Nat.le_refl _) (.cells (kc x.k x.o x.c x.l x.r x.v) 33)).alloc (by simp) (.cells oz.cells.toArray 49))
  have HK0 := Lib.hid ((Blk.new w 33 (kc x.k x.o x.c x.l x.r x.v)).alloc (.cells oz.cells.toArray 49))
  have HO0 := Lib.hid (show Blk ((w.alloc (.cells (kc x.k x.o x.c x.l x.r x.v) 33)).alloc (.cells oz.cells.toArray 49)) (w.heap.size + 1) 49 oz.cells.toArray from by have := Blk.new (w.alloc (.cells (kc x.k x.o x.c x.l x.r x.v) 33)) 49 oz.cells.toArray; simpa using this)
  clear hT ha hf he
  rcases hP with rfl | ⟨q, rfl⟩
  all_goals
    go_enter Tryz.func82, Tryz.ntmps82
    go_wp2_with (first
      | (go_at_call 80; refine (kname_yes x _ HT0.out HF.out).mono ?_; rintro e w1 ⟨rfl, b1⟩; have HB1 := Lib.hid (HB0.out.trans (b1.mono HB0.out.size)); have HT1 := Lib.hid (HT0.out.below b1); have HK1 := Lib.hid (HK0.out.keep b1); have HO1 := Lib.hid (HO0.out.keep b1); clear b1)
      | (go_at_call 16; refine (HA.out _ HB1.out).mono ?_; rintro e w2 ⟨rfl, b2⟩; have HB2 := Lib.hid (((HB1.out.trans (b2.mono HB1.out.size)).alloc (by have := HB1.out.size; have := b2.size; omega) (.cells o.cells.toArray 49))); have HT2 := Lib.hid ((HT1.out.below b2).alloc (.cells o.cells.toArray 49)); have HK2 := Lib.hid ((HK1.out.keep b2).alloc (.cells o.cells.toArray 49)); have HO2 := Lib.hid ((HO1.out.keep b2).alloc (.cells o.cells.toArray 49)); have HG2 := Lib.hid (Blk.new w2 49 o.cells.toArray); obtain ⟨c0, c1, c2, c3, c4, c5⟩ := HK2.out.six; clear b2)
      | (refine wpList_store_last rfl (.tmp 8) (.tmp 19) rfl _ rfl rfl o oz rfl ?_)
      | (refine wpList_yields (S := fun _ => True) (y_build (by rfl) (by rfl) built34) trivial ?_)
      | (refine wpList_store_ob HO2.out rfl (.tmp 4) (.tmp 33) rfl (by rfl) oz rfl ?_))
    exact bodyPost_ret (results_obj rfl _ _ (w.heap.size + 1) oz rfl (HO2.out.setRow _)) rfl ⟨rfl, below_setRow HB2.out (by omega) _⟩
set_option maxRecDepth 100000 in
set_option maxHeartbeats 2000000 in
theorem nam_no (P : Value) (hP : IsP P) (x : Ky) (o : Oj) (hf : x.of) (hc : x.cn o = false) (w : World) (hT : Tab w) (ha : ∀ W, Below w.heap.size w W → Calls Tryz.prog 16 #[P, .int .i64 x.o] W fun e' w' => e' = .returned (.tuple #[o.val, .int .i64 0]) ∧ Below W.heap.size W w') :
    Calls Tryz.prog 82 #[P, x.val] w fun e' w' => e' = .returned (.tuple #[oz.val, .bool false]) ∧ Below w.heap.size w w' := by
  have hz := z34
  have hbl := oz_len
  have HA := Lib.hid ha
  have HF := Lib.hid hf
  have HC := Lib.hid hc
  have HT0 := Lib.hid ((hT.alloc (.cells (kc x.k x.o x.c x.l x.r x.v) 33)).alloc (.cells oz.cells.toArray 49))
  have HB0 := Lib.hid (((Below.refl w.heap.size w).alloc (Nat.le_refl _) (.cells (kc x.k x.o x.c x.l x.r x.v) 33)).alloc (by simp) (.cells oz.cells.toArray 49))
  have HK0 := Lib.hid ((Blk.new w 33 (kc x.k x.o x.c x.l x.r x.v)).alloc (.cells oz.cells.toArray 49))
  have HO0 := Lib.hid (show Blk ((w.alloc (.cells (kc x.k x.o x.c x.l x.r x.v) 33)).alloc (.cells oz.cells.toArray 49)) (w.heap.size + 1) 49 oz.cells.toArray from by have := Blk.new (w.alloc (.cells (kc x.k x.o x.c x.l x.r x.v) 33)) 49 oz.cells.toArray; simpa using this)
  clear hT ha hf hc
  rcases hP with rfl | ⟨q, rfl⟩
  all_goals
    go_enter Tryz.func82, Tryz.ntmps82
    go_wp2_with (first
      | (go_at_call 80; refine (kname_yes x _ HT0.out HF.out).mono ?_; rintro e w1 ⟨rfl, b1⟩; have HB1 := Lib.hid (HB0.out.trans (b1.mono HB0.out.size)); have HT1 := Lib.hid (HT0.out.below b1); have HK1 := Lib.hid (HK0.out.keep b1); have HO1 := Lib.hid (HO0.out.keep b1); clear b1)
      | (go_at_call 16; refine (HA.out _ HB1.out).mono ?_; rintro e w2 ⟨rfl, b2⟩; have HB2 := Lib.hid (((HB1.out.trans (b2.mono HB1.out.size)).alloc (by have := HB1.out.size; have := b2.size; omega) (.cells o.cells.toArray 49))); have HT2 := Lib.hid ((HT1.out.below b2).alloc (.cells o.cells.toArray 49)); have HK2 := Lib.hid ((HK1.out.keep b2).alloc (.cells o.cells.toArray 49)); have HO2 := Lib.hid ((HO1.out.keep b2).alloc (.cells o.cells.toArray 49)); have HG2 := Lib.hid (Blk.new w2 49 o.cells.toArray); obtain ⟨c0, c1, c2, c3, c4, c5⟩ := HK2.out.six; clear b2)
      | (refine wpList_store_last rfl (.tmp 8) (.tmp 19) rfl _ rfl rfl o oz rfl ?_)
      | (refine wpList_yields (S := fun w' => ObAt w' w2.heap.size 0 o) (y_ob (by rfl) (.tmp 8) (by rfl) w2.heap.size 0 (by rfl) o (fun _ h => h)) HG2.out.ob ?_)
      | (go_at_call 83; refine (cn_eq HC.out HT2.out).mono ?_; rintro e w3 ⟨rfl, b3⟩; have HB3 := Lib.hid (HB2.out.trans (b3.mono HB2.out.size)); have HO3 := Lib.hid (HO2.out.keep b3); have HG3 := Lib.hid (HG2.out.keep b3); clear b3 c0 c1 c2 c3 c4 c5)
      | (refine wpList_yields (S := fun _ => True) (y_build (by rfl) (by rfl) built34) trivial ?_)
      | (refine wpList_store_ob HO3.out rfl (.tmp 4) (.tmp 33) rfl (by rfl) oz rfl ?_))
    exact bodyPost_ret (results_obj rfl _ _ (w.heap.size + 1) oz rfl (HO3.out.setRow _)) rfl ⟨rfl, below_setRow HB3.out (by omega) _⟩
set_option maxRecDepth 100000 in
set_option maxHeartbeats 2000000 in
theorem nam_yes (P : Value) (hP : IsP P) (x : Ky) (o : Oj) (hf : x.of) (hc : x.cn o = true) (w : World) (hT : Tab w) (ha : ∀ W, Below w.heap.size w W → Calls Tryz.prog 16 #[P, .int .i64 x.o] W fun e' w' => e' = .returned (.tuple #[o.val, .int .i64 0]) ∧ Below W.heap.size W w') :
    Calls Tryz.prog 82 #[P, x.val] w fun e' w' => e' = .returned (.tuple #[o.val, .bool true]) ∧ Below w.heap.size w w' := by
  have hz := z34
  have hbl := oz_len
  have HA := Lib.hid ha
  have HF := Lib.hid hf
  have HC := Lib.hid hc
  have HT0 := Lib.hid ((hT.alloc (.cells (kc x.k x.o x.c x.l x.r x.v) 33)).alloc (.cells oz.cells.toArray 49))
  have HB0 := Lib.hid (((Below.refl w.heap.size w).alloc (Nat.le_refl _) (.cells (kc x.k x.o x.c x.l x.r x.v) 33)).alloc (by simp) (.cells oz.cells.toArray 49))
  have HK0 := Lib.hid ((Blk.new w 33 (kc x.k x.o x.c x.l x.r x.v)).alloc (.cells oz.cells.toArray 49))
  have HO0 := Lib.hid (show Blk ((w.alloc (.cells (kc x.k x.o x.c x.l x.r x.v) 33)).alloc (.cells oz.cells.toArray 49)) (w.heap.size + 1) 49 oz.cells.toArray from by have := Blk.new (w.alloc (.cells (kc x.k x.o x.c x.l x.r x.v) 33)) 49 oz.cells.toArray; simpa using this)
  clear hT ha hf hc
  rcases hP with rfl | ⟨q, rfl⟩
  all_goals
    go_enter Tryz.func82, Tryz.ntmps82
    go_wp2_with (first
      | (go_at_call 80; refine (kname_yes x _ HT0.out HF.out).mono ?_; rintro e w1 ⟨rfl, b1⟩; have HB1 := Lib.hid (HB0.out.trans (b1.mono HB0.out.size)); have HT1 := Lib.hid (HT0.out.below b1); have HK1 := Lib.hid (HK0.out.keep b1); have HO1 := Lib.hid (HO0.out.keep b1); clear b1)
      | (go_at_call 16; refine (HA.out _ HB1.out).mono ?_; rintro e w2 ⟨rfl, b2⟩; have HB2 := Lib.hid (((HB1.out.trans (b2.mono HB1.out.size)).alloc (by have := HB1.out.size; have := b2.size; omega) (.cells o.cells.toArray 49))); have HT2 := Lib.hid ((HT1.out.below b2).alloc (.cells o.cells.toArray 49)); have HK2 := Lib.hid ((HK1.out.keep b2).alloc (.cells o.cells.toArray 49)); have HO2 := Lib.hid ((HO1.out.keep b2).alloc (.cells o.cells.toArray 49)); have HG2 := Lib.hid (Blk.new w2 49 o.cells.toArray); obtain ⟨c0, c1, c2, c3, c4, c5⟩ := HK2.out.six; clear b2)
      | (refine wpList_store_last rfl (.tmp 8) (.tmp 19) rfl _ rfl rfl o oz rfl ?_)
      | (refine wpList_yields (S := fun w' => ObAt w' w2.heap.size 0 o) (y_ob (by rfl) (.tmp 8) (by rfl) w2.heap.size 0 (by rfl) o (fun _ h => h)) HG2.out.ob ?_)
      | (go_at_call 83; refine (cn_eq HC.out HT2.out).mono ?_; rintro e w3 ⟨rfl, b3⟩; have HB3 := Lib.hid (HB2.out.trans (b3.mono HB2.out.size)); have HO3 := Lib.hid (HO2.out.keep b3); have HG3 := Lib.hid (HG2.out.keep b3); clear b3 c0 c1 c2 c3 c4 c5)
      | (refine wpList_yields (S := fun w' => ObAt w' w2.heap.size 0 o) (y_ob (by rfl) (.tmp 8) (by rfl) w2.heap.size 0 (by rfl) o (fun _ h => h)) HG3.out.ob ?_)
      | (refine wpList_store_ob HO3.out rfl (.tmp 4) (.tmp 34) rfl (by rfl) o rfl ?_))
    exact bodyPost_ret (results_obj rfl _ _ (w.heap.size + 1) o rfl (HO3.out.setRow _)) rfl ⟨rfl, below_setRow HB3.out (by omega) _⟩
end Go.Proofs.YtogkdhpnbpgheaaGreatDoor

/- disk: the walk of Waits. -/
import Derived.Test.YtokbghpddgfnpaaClone
namespace Go.Proofs.Ytokbghpddgfnpaa
open Go.RowKit Go.Shelf
attribute [local go_sem] Oper.semAt_some
attribute [local go_sem] run_store_bv run_store_wc run_store_bv_drew run_store_wc_drew
/-- the cells of ints -/
def iv (l : List Nat) : List Value := l.map fun (x : Nat) => .int .i64 ((x : Nat) : Int)
set_option maxRecDepth 8000 in
theorem iv_snoc (l : List Nat) (x : Nat) : iv (l ++ [x]) = iv l ++ [.int .i64 (x : Int)] := by simp [iv]
set_option maxRecDepth 8000 in
theorem infoI64 : (Try.prog.info? 3).map (fun i => (i.zero, i.size, i.bytes)) = some (some (.int .i64 0), 1, 8) := by kernel_rfl
set_option maxRecDepth 8000 in
theorem z32 (w : World) : (zeroValue 23).run Try.prog w = .ok (.slice none 0 0) w := by kernel_rfl
set_option maxRecDepth 100000 in
set_option maxHeartbeats 800000 in
theorem waits_nil (w : World) : Calls Try.prog 29 #[.pointer none] w fun e w' => e = .returned (.slice none 0 0) ∧ w = w' := by
  have hFw : ∀ f, Fence.wide.fn f := fun _ => trivial
  refine (callsIn_wide (n := 4)).1 (callsIn_of_wp_marks Try.func29 rfl trivial ?_ rfl)
  simp only [Try.ntmps29, List.size_toArray, List.length_cons, List.length_nil, Nat.reduceAdd, Nat.reduceSub, Array.replicate_succ, Array.replicate_zero, List.push_toArray, List.append_toArray, List.nil_append, List.cons_append]
  gi_wp2_with (gi_at_call 48; refine ((callsIn_wide (n := 3)).2 (there_nil _)).mono ?_; rintro e w' ⟨rfl, rfl⟩)
  exact ⟨_, results_tmp rfl _ _ _, rfl, rfl⟩
set_option maxRecDepth 100000 in
set_option maxHeartbeats 2000000 in
theorem waits_at {w : World} {base p : Nat} {pl : Pl} {D : Dk} (h : DiskAt w base p pl D) (hN : D.waits.length ≤ 1000000) :
    Calls Try.prog 29 #[.pointer (some ⟨p, 0, none⟩)] w fun e w' => ∃ v, e = .returned v ∧ w'.ownsRow w.heap.size 3 1 v D.waits.length (iv (D.waits.map (·.1))) ∧ Below w.heap.size w w' := by
  have hz8 := z84
  have hz3 := z32
  have hFw : ∀ f, Fence.wide.fn f := fun _ => trivial
  have H := Lib.hid h
  clear h
  refine (callsIn_wide (n := 4)).1 (callsIn_of_wp_marks Try.func29 rfl trivial ?_ rfl)
  simp only [Try.ntmps29, List.size_toArray, List.length_cons, List.length_nil, Nat.reduceAdd, Nat.reduceSub, Array.replicate_succ, Array.replicate_zero, List.push_toArray, List.append_toArray, List.nil_append, List.cons_append]
  gi_wp2_with (first
    | (gi_at_call 48; refine ((callsIn_wide (n := 3)).2 (there_at H.out)).mono ?_; rintro e w' ⟨rfl, rfl⟩)
    | (gi_at_call 55; refine ((callsIn_wide (n := 3)).2 (waiting_any _ _)).mono ?_; rintro e w' ⟨rfl, rfl⟩))
  have B3 := Lib.hid ((Blk.new w 23 #[.slice none 0 0]).alloc (.cells #[.pointer (some ⟨p, 0, none⟩)] 31))
  have B4 := Lib.hid (show Blk ((w.alloc (.cells #[.slice none 0 0] 23)).alloc (.cells #[.pointer (some ⟨p, 0, none⟩)] 31)) (w.heap.size + 1) 31 #[.pointer (some ⟨p, 0, none⟩)] from heap_alloc2_new _ _ _)
  have HD := Lib.hid ((H.out.alloc (.cells #[.slice none 0 0] 23)).alloc (.cells #[.pointer (some ⟨p, 0, none⟩)] 31))
  have BL := Lib.hid (((Below.refl w.heap.size w).alloc (Nat.le_refl _) (.cells #[.slice none 0 0] 23)).alloc (by simp) (.cells #[.pointer (some ⟨p, 0, none⟩)] 31))
  have SZ := Lib.hid (show ((w.alloc (.cells #[.slice none 0 0] 23)).alloc (.cells #[.pointer (some ⟨p, 0, none⟩)] 31)).heap.size = w.heap.size + 2 by simp)
  generalize (w.alloc (.cells #[.slice none 0 0] 23)).alloc (.cells #[.pointer (some ⟨p, 0, none⟩)] 31) = W0 at B3 B4 HD BL SZ ⊢
  refine range_waiting HD.out hN rfl ((B4.out.cell 0).trans rfl) rfl (by omega)
    (fun xs W => (∃ v, Boxed W w.heap.size 23 v ∧ W.ownsRow w.heap.size 3 1 v (wxs xs).length (iv ((wxs xs).map (·.1))) ∧ True) ∧ Below w.heap.size w W ∧ W0.heap.size ≤ W.heap.size)
    (((holdsRow_own w.heap.size w.heap.size 23 3 1 (fun xs => (wxs xs).length) (fun xs => iv ((wxs xs).map (·.1))) (fun _ _ => True)).from _).and ((ownFrom_below (Nat.le_refl _) BL.out.size).and (own_size _ _)))
    ⟨⟨_, B3.out, World.ownsRow_nil _ _ _ _, trivial⟩, BL.out, Nat.le_refl _⟩
    (fun x b => { tmps := #[.pointer (some ⟨p, 0, none⟩), undef, .slice none 0 0, .pointer (some ⟨w.heap.size, 0, none⟩), undef, .pointer (some ⟨b, 0, none⟩), .pointer (some ⟨p, 0, none⟩), .bool true, .bool false, .pointer (some ⟨p, 0, none⟩), .func (.func 63) #[] #[.pointer (some ⟨w.heap.size + 1, 0, none⟩)], .int .i64 (x.i : Int), wv x.x, undef, undef, undef, undef, undef, undef], defers := [] })
    ?assign ?body (fun pre W h => h.2.2) ?done
  case assign =>
    intro l x W K hK
    have hxz : x.x.2.length = zs.length := by rw [x.len, zs_length]
    have hwl : (wc x.x).length = 513 := wc_length x.x x.len
    have HKK := Lib.hid hK
    clear hK
    gi_wp2
    exact HKK.out
  case body =>
    rintro l pre x b W hpl ⟨⟨v, i1, i2, _⟩, i3, i4⟩ hb hbw
    have hc0 := (hbw.cell 0).trans (show (wc x.x).toArray[0]? = some (.int .i64 (x.x.1 : Int)) from rfl)
    have hc3 := i1.cell
    have hlen : (wxs pre).length ≤ 1000000 := by simp only [wxs, List.length_map]; omega
    clear hpl
    obtain ⟨i0, hi, hz0, hz1, hz2⟩ := info_parts infoI64
    have I1 := Lib.hid i1
    have I2 := Lib.hid i2
    have I3 := Lib.hid i3
    have I4 := Lib.hid i4
    have WS := Lib.hid (wxs_snoc pre x)
    clear i1 i2 i3 i4 hbw
    gi_wp2_with (gi_at_builtin; refine wpListIn_append_own _ rfl (.tmp 13) (.tmp 16) _ rfl w.heap.size 3 i0 _ 1 8 Try.underlying23 hi hz0 hz1 hz2 rfl (by omega) v (wxs pre).length _ rfl (I2.out.alloc _) ⟨W.heap.size, 0, none⟩ 1 1 [.int .i64 (x.x.1 : Int)] rfl rfl (cell_one_new _ _ _) (ints_oneCell .i64 [(x.x.1 : Int)]) (by simp only [maxLen]; omega) (by omega) (by have := I3.out.size; simp; omega) ?_; intro v' w1 hown' hgrow hnil; obtain ⟨g', cap', rfl⟩ := ownsRow_succ hown'; obtain ⟨r1, r2, r3, r4, r5⟩ := I1.out.appended (by decide) I2.out I3.out.size (Nat.le_refl _) hown' hgrow; have hc1 := r1.cell; have hf1 := r1.frozen; have R2 := Lib.hid r2; have R3 := Lib.hid r3; have R4 := Lib.hid r4; have R5 := Lib.hid r5; have SZ1 := Lib.hid hgrow.size; clear r1 r2 r3 r4 r5 hown' hgrow hnil)
    refine ⟨rfl, R4.out.from _, fun k hk => R5.out.block k ?_, ⟨_, R2.out, ?_, trivial⟩, I3.out.trans R5.out, Nat.le_trans I4.out R4.out.size⟩
    · exact (H.out.row.lt k hk).2
    · rw [WS.out, List.map_append, List.map_cons, List.map_nil, iv_snoc, List.length_append]
      exact R3.out
  case done =>
    rintro B xs W hB hxs _ ⟨⟨v, i1, i2, _⟩, i3, i4⟩ hD
    rw [hxs] at i2
    have hc3 := i1.cell
    have I2 := Lib.hid i2
    have I3 := Lib.hid i3
    have HDB := Lib.hid hD
    have HB := Lib.hid hB
    clear i1 i2 i3 i4 hD hxs hB
    gi_wp2
    refine ⟨by simp, .inl ⟨_, _, rfl, run_takeDeferred HDB.out, ?_⟩⟩
    exact ⟨_, results_tmp rfl _ _ _, v, rfl, ownsRow_putObj I2.out _ HDB.out rfl, I3.out.trans (belowK_b (w := w) (Nat.le_refl _) _ B _ _ (Nat.le_trans BL.out.size HB.out) HDB.out rfl rfl)⟩
end Go.Proofs.Ytokbghpddgfnpaa

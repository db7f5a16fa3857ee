/- disk: the walks of part, kept, maps.Clone, slices.Clone. -/
import Derived.Test.YtgjamgojjajcnaaQ03
import Derived.Test.YtgjamgojjajcnaaQ06
import Derived.Laws.Externs
import Derived.WalkSpells
import Derived.LoopNIn
import Derived.Deep.OwnRows
namespace Go.Proofs.Ytgjamgojjajcnaa
open Go.RowKit
set_option maxRecDepth 100000 in
set_option maxHeartbeats 800000 in
theorem part_at (g o len cap n : Nat) (w : World) (hc : (n + 1) * 512 ≤ cap) (hn : n ≤ 4096) :
    Calls Try.prog 58 #[.slice (some ⟨g, o, none⟩) len cap, .int .i64 (n : Int)] w fun e w' => e = .returned (.slice (some ⟨g, o + n * 512, none⟩) 512 512) ∧ w = w' := by
  have e1 : ((n : Int) + 1) * 512 = (((n + 1) * 512 : Nat) : Int) := by omega
  have e0 : (n : Int) * 512 = ((n * 512 : Nat) : Int) := by omega
  obtain ⟨a, ha⟩ : ∃ a, a = n * 512 := ⟨_, rfl⟩
  obtain ⟨b, hb⟩ : ∃ b, b = (n + 1) * 512 := ⟨_, rfl⟩
  have HA := Lib.hid ha
  have HB := Lib.hid hb
  have hab : b = a + 512 := by omega
  have HAB := Lib.hid hab
  rw [← ha] at e0 ⊢
  rw [← hb] at e1
  have w1 : IntKind.i64.wrap ((n : Int) * 512) = (a : Int) := by rw [e0]; exact IntWalk.i64_in _ (by omega)
  have w2 : IntKind.i64.wrap (((n : Int) + 1) * 512) = (b : Int) := by rw [e1]; exact IntWalk.i64_in _ (by omega)
  have w3 : IntKind.i64.wrap ((n : Int) + 1) = (n : Int) + 1 := IntWalk.i64_in _ (by omega)
  have f1 : (0 : Int) ≤ (a : Int) := by omega
  have f2 : (a : Int) ≤ (b : Int) := by omega
  have f3 : (0 : Int) ≤ (b : Int) := by omega
  have f4 : (b : Int) ≤ (cap : Int) := by omega
  have f5 : ¬ b = a := by omega
  have f6 : (b : Int) ≤ 3000000 := by omega
  have f7 : (a : Int) ≤ 3000000 := by omega
  have f8 : b - a = 512 := by omega
  clear ha hb hab hc hn
  go_enter Try.func58, Try.ntmps58
  go_wp2
  go_ret
  exact ⟨rfl, rfl⟩
set_option maxRecDepth 8000 in
theorem run_equalIn_map_nil {P : Program} (w : World) (d : Nat) (t k e : TypeId) (p : Option Nat) (h : P.underlying t = some (.map k e)) : (Op.equalIn (d + 1) t (.map p) (.map none)).run P w = .ok p.isNone w := by
  cases p <;> simp [Op.equalIn, run_underlying h]
set_option maxRecDepth 8000 in
theorem run_eql_map_nil {P : Program} (w : World) (t k e : TypeId) (p : Option Nat) (h : P.underlying t = some (.map k e)) : (binOp .eql t (.map p) (.map none)).run P w = .ok (.bool p.isNone) w := by
  simp only [binOp]
  simp [show Op.equal t (.map p) (.map none) = Op.equalIn (9999 + 1) t (.map p) (.map none) from rfl, run_equalIn_map_nil w 9999 t k e p h]
set_option maxRecDepth 8000 in
theorem run_clone_i {P : Program} (w : World) {r : Nat} {es : Array MapEntry} {clock : Nat} (t : TypeId) (hb : w.heap[r]? = some (.map es clock)) :
    (Extern.MapsClone.clone #[.iface t (.map (some r))]).run P w = .ok (.iface t (.map (some w.heap.size))) (w.alloc (.map es clock)) := by
  have e : Extern.MapsClone.clone #[.iface t (.map (some r))] = (getObj r >>= fun o => match o with
      | .map entries clock => (newObj (.map entries clock) >>= fun n => pure (.iface t (.map (some n))))
      | _ => stuck "maps.clone: a map expected") := rfl
  rw [e]
  simp [MapKept.run_getObj_map hb, Result.andThen, go_sem]
set_option maxRecDepth 8000 in
theorem run_assert_map {P : Program} (w : World) (t xT k e : TypeId) (v : Value) (h : P.underlying t = some (.map k e)) : (Instr.typeAssert (.iface t v) xT t false).run P w = .ok v w := by
  simp [Instr.typeAssert, run_underlying h, go_sem, Result.andThen]
set_option maxRecDepth 100000 in
set_option maxHeartbeats 800000 in
theorem clone73 (b : Nat) (es : Array MapEntry) (clock : Nat) (w : World) (hb : w.heap[b]? = some (.map es clock)) :
    Calls Try.prog 48 #[.map (some b)] w fun e w' => e = .returned (.map (some w.heap.size)) ∧ w.alloc (.map es clock) = w' := by
  have hq := fun w => run_eql_map_nil (P := Try.prog) w 81 _ _ (some b) Try.underlying81
  go_enter Try.func48, Try.ntmps48
  go_wp2
  rw [run_callFunc_extern Try.func61 (by kernel_rfl) (by kernel_rfl) (by kernel_rfl) (e := Extern.MapsClone.clone) (by kernel_rfl), run_clone_i w _ hb]
  simp only [Result.andThen]
  rw [Oper.upon_value]
  go_wp2
  rw [run_assert_map _ 81 _ _ _ _ Try.underlying81]
  simp only [Result.andThen]
  rw [Oper.upon_value]
  go_wp2
  go_ret
  exact ⟨rfl, rfl⟩
set_option maxRecDepth 100000 in
set_option maxHeartbeats 800000 in
theorem clone75 (b : Nat) (es : Array MapEntry) (clock : Nat) (w : World) (hb : w.heap[b]? = some (.map es clock)) :
    Calls Try.prog 50 #[.map (some b)] w fun e w' => e = .returned (.map (some w.heap.size)) ∧ w.alloc (.map es clock) = w' := by
  have hq := fun w => run_eql_map_nil (P := Try.prog) w 83 _ _ (some b) Try.underlying83
  go_enter Try.func50, Try.ntmps50
  go_wp2
  rw [run_callFunc_extern Try.func61 (by kernel_rfl) (by kernel_rfl) (by kernel_rfl) (e := Extern.MapsClone.clone) (by kernel_rfl), run_clone_i w _ hb]
  simp only [Result.andThen]
  rw [Oper.upon_value]
  go_wp2
  rw [run_assert_map _ 83 _ _ _ _ Try.underlying83]
  simp only [Result.andThen]
  rw [Oper.upon_value]
  go_wp2
  go_ret
  exact ⟨rfl, rfl⟩
set_option maxRecDepth 100000 in
set_option maxHeartbeats 800000 in
theorem clone75_nil (w : World) : Calls Try.prog 50 #[.map none] w fun e w' => e = .returned (.map none) ∧ w = w' := by
  have hq := fun w => run_eql_map_nil (P := Try.prog) w 83 _ _ none Try.underlying83
  go_enter Try.func50, Try.ntmps50
  go_wp2
  go_ret
  exact ⟨rfl, rfl⟩
set_option maxRecDepth 8000 in
theorem flat_len (ws : List (Nat × List UInt8)) (hw : ∀ x ∈ ws, x.2.length = 512) : (ws.flatMap wc).length = ws.length * 513 := by
  induction ws with
  | nil => rfl
  | cons y ws ih => rw [List.flatMap_cons, List.length_append, wc_length y (hw y (by simp)), ih (fun x hx => hw x (by simp [hx])), List.length_cons]; omega
set_option maxRecDepth 8000 in
theorem flat_one (ws : List (Nat × List UInt8)) : ∀ u ∈ ws.flatMap wc, u.oneCell' = true := by
  intro u hu
  obtain ⟨x, _, hx⟩ := List.mem_flatMap.1 hu
  exact wc_one x u hx
set_option maxRecDepth 100000 in
set_option maxHeartbeats 800000 in
theorem clone58_nil (w : World) : Calls Try.prog 49 #[.slice none 0 0] w fun e w' => e = .returned (.slice none 0 0) ∧ w = w' := by
  have hq := fun w : World => Lib.run_eql_slice_nil (P := Try.prog) w 82 _ none 0 0 0 0 Try.underlying82
  go_enter Try.func49, Try.ntmps49
  go_wp2
  go_ret
  exact ⟨rfl, rfl⟩
set_option maxRecDepth 100000 in
set_option maxHeartbeats 800000 in
theorem clone58_some (w : World) (base g n cap : Nat) (ws : List (Nat × List UInt8)) (hn : n ≤ 1000000) (hown : w.ownsRow base 89 513 (.slice (some ⟨g, 0, none⟩) n cap) n (ws.flatMap wc)) :
    Calls Try.prog 49 #[.slice (some ⟨g, 0, none⟩) n cap] w fun e w' => ∃ v, e = .returned v ∧ w'.ownsRow w.heap.size 89 513 v n (ws.flatMap wc) ∧ Below w.heap.size w w' := by
  have hq := fun w : World => Lib.run_eql_slice_nil (P := Try.prog) w 82 _ (some ⟨g, 0, none⟩) n cap 0 0 Try.underlying82
  obtain ⟨i0, hi, hz0, hz1, hz2⟩ := info_parts info84
  have HO := Lib.hid (hown.alloc (.cells #[] 89))
  have HL := Lib.hid hown.1
  clear hown
  go_enter Try.func49, Try.ntmps49
  go_wp2_with (at_builtin; refine wpList_append_own _ rfl (.tmp 5) (.tmp 6) _ rfl w.heap.size 89 i0 _ 513 520 Try.underlying82 hi hz0 hz1 hz2 (by show (wc (0, zs)).toArray.size = 513; rw [List.size_toArray, wc_length _ zs_length]) (by omega) (.slice (some ⟨w.heap.size, 0, none⟩) 0 0) 0 [] rfl (World.ownsRow_made w #[] 0 (Nat.le_refl _) (by simp [maxLen]) rfl) ⟨g, 0, none⟩ n cap (ws.flatMap wc) rfl HL.out (HO.out.cells (g := g) rfl) (flat_one ws) (by simp only [maxLen]; omega) (by omega) (by simp) ?_; intro v' w1 hown1 hg1 hnil1)
  simp only [Nat.zero_add, List.nil_append] at hown1
  have HO1 := Lib.hid hown1
  have HB1 := Lib.hid (((Below.refl w.heap.size w).alloc (Nat.le_refl _) (.cells #[] 89)).grown hg1 (by simp) (fun k hk => by simp [Value.ownBlock] at hk; omega))
  clear hown1 hg1 hnil1 HO
  go_wp2
  go_ret
  exact ⟨v', rfl, HO1.out, HB1.out⟩
/-- the cells from A on read as these bools -/
def RdB (w : World) (A : Option Addr) (l : List Bool) : Prop := ∀ j (h : j < l.length), ∃ b off, A = some ⟨b, off, none⟩ ∧ w.cell? ⟨b, off + j, none⟩ = some (.bool l[j])
theorem RdB.below {w w' : World} {A : Option Addr} {l : List Bool} (h : RdB w A l) (hb : Below w.heap.size w w') : RdB w' A l := fun j hj => by
  obtain ⟨b, off, e, hc⟩ := h j hj
  exact ⟨b, off, e, (hb.cell (cell_lt hc)).trans hc⟩
/-- a crash, as it is told by plain data -/
structure Cr where
  keep : List Bool
  torn : Int
  bytes : Int
/-- its value -/
def Cr.val (c : Cr) (A : Option Addr) (cap : Nat) : Value := .agg #[.slice A c.keep.length cap, .int .i64 c.torn, .int .i64 c.bytes]
/-- how many bytes are kept of the write of that number -/
def Cr.kept (c : Cr) (i : Nat) : Int := if (i : Int) = c.torn then c.bytes else if c.keep[i]? = some true then 512 else 0
set_option maxRecDepth 100000 in
set_option maxHeartbeats 800000 in
theorem kept_at (w : World) (c : Cr) (A : Option Addr) (cap : Nat) (hr : RdB w A c.keep) (i : Nat) (hi : i ≤ 1000000) :
    Calls Try.prog 56 #[c.val A cap, .int .i64 (i : Int)] w fun e w' => e = .returned (.int .i64 (c.kept i)) ∧ Below w.heap.size w w' := by
  have bl : Below w.heap.size w (w.alloc (.cells #[.slice A c.keep.length cap, .int .i64 c.torn, .int .i64 c.bytes] 26)) := (Below.refl _ w).alloc (Nat.le_refl _) _
  unfold Cr.val
  by_cases ht : (i : Int) = c.torn
  · have h1 : ((i : Int) == c.torn) = true := beq_iff_eq.2 ht
    have HR := Lib.hid (show c.kept i = c.bytes by unfold Cr.kept; rw [if_pos ht])
    have BL := Lib.hid bl
    clear ht bl hr
    go_enter Try.func56, Try.ntmps56
    go_wp2
    go_ret
    exact ⟨by rw [HR.out]; rfl, BL.out⟩
  · have h1 : ((i : Int) == c.torn) = false := beq_eq_false_iff_ne.2 ht
    by_cases hl : i < c.keep.length
    · obtain ⟨b, off, rfl, hc⟩ := hr i hl
      have hc2 := (bl.cell (cell_lt hc)).trans hc
      have h2 : decide (i < c.keep.length) = true := by simpa using hl
      have i1 : (0 : Int) ≤ (i : Int) := by omega
      have i2 : (i : Int) < (c.keep.length : Int) := by omega
      have HR := Lib.hid (show c.kept i = if c.keep[i] = true then 512 else 0 by unfold Cr.kept; rw [if_neg ht, List.getElem?_eq_getElem hl]; simp)
      have BL := Lib.hid bl
      generalize c.keep[i] = u at hc2 HR
      clear ht bl hr hl hc
      cases u
      all_goals
        go_enter Try.func56, Try.ntmps56
        go_wp2
        go_ret
        exact ⟨by rw [HR.out]; rfl, BL.out⟩
    · have h2 : decide (i < c.keep.length) = false := by simpa using hl
      have HR := Lib.hid (show c.kept i = 0 by unfold Cr.kept; rw [if_neg ht, List.getElem?_eq_none (by omega)]; simp)
      have BL := Lib.hid bl
      clear ht bl hr hl
      go_enter Try.func56, Try.ntmps56
      go_wp2
      go_ret
      exact ⟨by rw [HR.out]; rfl, BL.out⟩
end Go.Proofs.Ytgjamgojjajcnaa
namespace Go.Proofs.Ytgjamgojjajcnaa
open Go.RowKit Go.Shelf
attribute [local go_sem] Oper.semAt_some
attribute [local go_sem] run_store_bv run_store_wc run_store_bv_drew run_store_wc_drew
/-- the cells of ints -/
def iv (l : List Nat) : List Value := l.map fun (x : Nat) => .int .i64 ((x : Nat) : Int)
set_option maxRecDepth 8000 in
theorem iv_snoc (l : List Nat) (x : Nat) : iv (l ++ [x]) = iv l ++ [.int .i64 (x : Int)] := by simp [iv]
set_option maxRecDepth 8000 in
theorem infoI64 : (Try.prog.info? 3).map (fun i => (i.zero, i.size, i.bytes)) = some (some (.int .i64 0), 1, 8) := by kernel_rfl
set_option maxRecDepth 8000 in
theorem z32 (w : World) : (zeroValue 23).run Try.prog w = .ok (.slice none 0 0) w := by kernel_rfl
set_option maxRecDepth 100000 in
set_option maxHeartbeats 800000 in
theorem waits_nil (w : World) : Calls Try.prog 28 #[.pointer none] w fun e w' => e = .returned (.slice none 0 0) ∧ w = w' := by
  have hFw : ∀ f, Fence.wide.fn f := fun _ => trivial
  refine (callsIn_wide (n := 4)).1 (callsIn_of_wp_marks Try.func28 rfl trivial ?_ rfl)
  simp only [Try.ntmps28, List.size_toArray, List.length_cons, List.length_nil, Nat.reduceAdd, Nat.reduceSub, Array.replicate_succ, Array.replicate_zero, List.push_toArray, List.append_toArray, List.nil_append, List.cons_append]
  gi_wp2_with (gi_at_call 47; refine ((callsIn_wide (n := 3)).2 (there_nil _)).mono ?_; rintro e w' ⟨rfl, rfl⟩)
  exact ⟨_, results_tmp rfl _ _ _, rfl, rfl⟩
set_option maxRecDepth 100000 in
set_option maxHeartbeats 2000000 in
theorem waits_at {w : World} {base p : Nat} {pl : Pl} {D : Dk} (h : DiskAt w base p pl D) (hN : D.waits.length ≤ 1000000) :
    Calls Try.prog 28 #[.pointer (some ⟨p, 0, none⟩)] w fun e w' => ∃ v, e = .returned v ∧ w'.ownsRow w.heap.size 3 1 v D.waits.length (iv (D.waits.map (·.1))) ∧ Below w.heap.size w w' := by
  have hz8 := z84
  have hz3 := z32
  have hFw : ∀ f, Fence.wide.fn f := fun _ => trivial
  have H := Lib.hid h
  clear h
  refine (callsIn_wide (n := 4)).1 (callsIn_of_wp_marks Try.func28 rfl trivial ?_ rfl)
  simp only [Try.ntmps28, List.size_toArray, List.length_cons, List.length_nil, Nat.reduceAdd, Nat.reduceSub, Array.replicate_succ, Array.replicate_zero, List.push_toArray, List.append_toArray, List.nil_append, List.cons_append]
  gi_wp2_with (first
    | (gi_at_call 47; refine ((callsIn_wide (n := 3)).2 (there_at H.out)).mono ?_; rintro e w' ⟨rfl, rfl⟩)
    | (gi_at_call 54; refine ((callsIn_wide (n := 3)).2 (waiting_any _ _)).mono ?_; rintro e w' ⟨rfl, rfl⟩))
  have B3 := Lib.hid ((Blk.new w 23 #[.slice none 0 0]).alloc (.cells #[.pointer (some ⟨p, 0, none⟩)] 31))
  have B4 := Lib.hid (show Blk ((w.alloc (.cells #[.slice none 0 0] 23)).alloc (.cells #[.pointer (some ⟨p, 0, none⟩)] 31)) (w.heap.size + 1) 31 #[.pointer (some ⟨p, 0, none⟩)] from heap_alloc2_new _ _ _)
  have HD := Lib.hid ((H.out.alloc (.cells #[.slice none 0 0] 23)).alloc (.cells #[.pointer (some ⟨p, 0, none⟩)] 31))
  have BL := Lib.hid (((Below.refl w.heap.size w).alloc (Nat.le_refl _) (.cells #[.slice none 0 0] 23)).alloc (by simp) (.cells #[.pointer (some ⟨p, 0, none⟩)] 31))
  have SZ := Lib.hid (show ((w.alloc (.cells #[.slice none 0 0] 23)).alloc (.cells #[.pointer (some ⟨p, 0, none⟩)] 31)).heap.size = w.heap.size + 2 by simp)
  generalize (w.alloc (.cells #[.slice none 0 0] 23)).alloc (.cells #[.pointer (some ⟨p, 0, none⟩)] 31) = W0 at B3 B4 HD BL SZ ⊢
  refine range_waiting HD.out hN rfl ((B4.out.cell 0).trans rfl) rfl (by omega)
    (fun xs W => (∃ v, Boxed W w.heap.size 23 v ∧ W.ownsRow w.heap.size 3 1 v (wxs xs).length (iv ((wxs xs).map (·.1))) ∧ True) ∧ Below w.heap.size w W ∧ W0.heap.size ≤ W.heap.size)
    (((holdsRow_own w.heap.size w.heap.size 23 3 1 (fun xs => (wxs xs).length) (fun xs => iv ((wxs xs).map (·.1))) (fun _ _ => True)).from _).and ((ownFrom_below (Nat.le_refl _) BL.out.size).and (own_size _ _)))
    ⟨⟨_, B3.out, World.ownsRow_nil _ _ _ _, trivial⟩, BL.out, Nat.le_refl _⟩
    (fun x b => { tmps := #[.pointer (some ⟨p, 0, none⟩), undef, .slice none 0 0, .pointer (some ⟨w.heap.size, 0, none⟩), undef, .pointer (some ⟨b, 0, none⟩), .pointer (some ⟨p, 0, none⟩), .bool true, .bool false, .pointer (some ⟨p, 0, none⟩), .func (.func 62) #[] #[.pointer (some ⟨w.heap.size + 1, 0, none⟩)], .int .i64 (x.i : Int), wv x.x, undef, undef, undef, undef, undef, undef], defers := [] })
    ?assign ?body (fun pre W h => h.2.2) ?done
  case assign =>
    intro l x W K hK
    have hxz : x.x.2.length = zs.length := by rw [x.len, zs_length]
    have hwl : (wc x.x).length = 513 := wc_length x.x x.len
    have HKK := Lib.hid hK
    clear hK
    gi_wp2
    exact HKK.out
  case body =>
    rintro l pre x b W hpl ⟨⟨v, i1, i2, _⟩, i3, i4⟩ hb hbw
    have hc0 := (hbw.cell 0).trans (show (wc x.x).toArray[0]? = some (.int .i64 (x.x.1 : Int)) from rfl)
    have hc3 := i1.cell
    have hlen : (wxs pre).length ≤ 1000000 := by simp only [wxs, List.length_map]; omega
    clear hpl
    obtain ⟨i0, hi, hz0, hz1, hz2⟩ := info_parts infoI64
    have I1 := Lib.hid i1
    have I2 := Lib.hid i2
    have I3 := Lib.hid i3
    have I4 := Lib.hid i4
    have WS := Lib.hid (wxs_snoc pre x)
    clear i1 i2 i3 i4 hbw
    gi_wp2_with (gi_at_builtin; refine wpListIn_append_own _ rfl (.tmp 13) (.tmp 16) _ rfl w.heap.size 3 i0 _ 1 8 Try.underlying23 hi hz0 hz1 hz2 rfl (by omega) v (wxs pre).length _ rfl (I2.out.alloc _) ⟨W.heap.size, 0, none⟩ 1 1 [.int .i64 (x.x.1 : Int)] rfl rfl (cell_one_new _ _ _) (ints_oneCell .i64 [(x.x.1 : Int)]) (by simp only [maxLen]; omega) (by omega) (by have := I3.out.size; simp; omega) ?_; intro v' w1 hown' hgrow hnil; obtain ⟨g', cap', rfl⟩ := ownsRow_succ hown'; obtain ⟨r1, r2, r3, r4, r5⟩ := I1.out.appended (by decide) I2.out I3.out.size (Nat.le_refl _) hown' hgrow; have hc1 := r1.cell; have hf1 := r1.frozen; have R2 := Lib.hid r2; have R3 := Lib.hid r3; have R4 := Lib.hid r4; have R5 := Lib.hid r5; have SZ1 := Lib.hid hgrow.size; clear r1 r2 r3 r4 r5 hown' hgrow hnil)
    refine ⟨rfl, R4.out.from _, fun k hk => R5.out.block k ?_, ⟨_, R2.out, ?_, trivial⟩, I3.out.trans R5.out, Nat.le_trans I4.out R4.out.size⟩
    · exact (H.out.row.lt k hk).2
    · rw [WS.out, List.map_append, List.map_cons, List.map_nil, iv_snoc, List.length_append]
      exact R3.out
  case done =>
    rintro B xs W hB hxs _ ⟨⟨v, i1, i2, _⟩, i3, i4⟩ hD
    rw [hxs] at i2
    have hc3 := i1.cell
    have I2 := Lib.hid i2
    have I3 := Lib.hid i3
    have HDB := Lib.hid hD
    have HB := Lib.hid hB
    clear i1 i2 i3 i4 hD hxs hB
    gi_wp2
    refine ⟨by simp, .inl ⟨_, _, rfl, run_takeDeferred HDB.out, ?_⟩⟩
    exact ⟨_, results_tmp rfl _ _ _, v, rfl, ownsRow_putObj I2.out _ HDB.out rfl, I3.out.trans (belowK_b (w := w) (Nat.le_refl _) _ B _ _ (Nat.le_trans BL.out.size HB.out) HDB.out rfl rfl)⟩
end Go.Proofs.Ytgjamgojjajcnaa
namespace Go.Proofs.Ytgjamgojjajcnaa
open Go.RowKit Go.Shelf
attribute [local go_sem] Oper.semAt_some
attribute [local go_sem] run_store_bv run_store_wc run_store_bv_drew run_store_wc_drew
/-- the first so many sectors, one behind the other -/
def secs (L : Nat → List UInt8) (k : Nat) : List UInt8 := (List.range k).flatMap L
set_option maxRecDepth 8000 in
theorem secs_succ (L : Nat → List UInt8) (k : Nat) : secs L (k + 1) = secs L k ++ L k := by simp [secs, List.range_succ]
theorem secs_length (L : Nat → List UInt8) (hL : ∀ n, (L n).length = 512) : ∀ k, (secs L k).length = k * 512
  | 0 => rfl
  | k + 1 => by rw [secs_succ, List.length_append, secs_length L hL k, hL]; omega
/-- what is read of all sectors -/
def Dk.all (D : Dk) : List UInt8 := secs (D.laid (fun _ => 512)) D.size
theorem Dk.laid_len {w : World} {base p : Nat} {pl : Pl} {D : Dk} (h : DiskAt w base p pl D) (kf : Nat → Nat) (hk : ∀ i, kf i ≤ 512) : ∀ n, (D.laid kf n).length = 512 :=
  layC_length kf hk D.nums D.lasts h.lens (fun e he => by
    obtain ⟨i, hi, rfl⟩ := List.mem_mapIdx.1 he
    exact (h.wlens _ (List.getElem_mem hi)).1)
/-- a row whose first sectors are filled -/
def rowK (L : Nat → List UInt8) (s k : Nat) : List UInt8 := secs L k ++ List.replicate ((s - k) * 512) 0
set_option maxRecDepth 8000 in
theorem rowK_length (L : Nat → List UInt8) (hL : ∀ n, (L n).length = 512) (s k : Nat) (hk : k ≤ s) : (rowK L s k).length = s * 512 := by
  rw [rowK, List.length_append, secs_length L hL, List.length_replicate, ← Nat.add_mul]
  congr 1
  omega
set_option maxRecDepth 8000 in
theorem rowK_splice (L : Nat → List UInt8) (hL : ∀ n, (L n).length = 512) (s k : Nat) (hk : k < s) : splice (rowK L s k) (k * 512) (L k) = rowK L s (k + 1) := by
  have hl := secs_length L hL k
  have e : (s - k) * 512 = 512 + (s - (k + 1)) * 512 := by
    have : s - k = (s - (k + 1)) + 1 := by omega
    rw [this]; omega
  unfold splice rowK
  rw [List.take_left' hl, secs_succ, List.append_assoc, e]
  congr 2
  rw [hL, List.drop_append, hl, List.drop_eq_nil_of_le (by rw [hl]; omega), List.nil_append, show k * 512 + 512 - k * 512 = 512 by omega, ← List.replicate_append_replicate, List.drop_left' (List.length_replicate ..)]
set_option maxRecDepth 8000 in
theorem rowK_all (L : Nat → List UInt8) (s : Nat) : rowK L s s = secs L s := by simp [rowK]
set_option maxRecDepth 8000 in
theorem bv_replicate (n : Nat) : bv (List.replicate n 0) = List.replicate n (.int .u8 0) := by simp [bv]
set_option maxRecDepth 8000 in
theorem infoU8 : (Try.prog.info? 5).map (fun i => (i.zero, i.size, i.bytes)) = some (some (.int .u8 0), 1, 1) := by kernel_rfl
set_option maxRecDepth 8000 in
theorem z73 (w : World) : (zeroValue 81).run Try.prog w = .ok (.map none) w := by kernel_rfl
set_option maxRecDepth 100000 in
set_option maxHeartbeats 800000 in
theorem bytes_nil (w : World) : Calls Try.prog 29 #[.pointer none] w fun e w' => e = .returned (.slice none 0 0) ∧ w = w' := by
  have hFw : ∀ f, Fence.wide.fn f := fun _ => trivial
  refine (callsIn_wide (n := 4)).1 (callsIn_of_wp_marks Try.func29 rfl trivial ?_ rfl)
  simp only [Try.ntmps29, List.size_toArray, List.length_cons, List.length_nil, Nat.reduceAdd, Nat.reduceSub, Array.replicate_succ, Array.replicate_zero, List.push_toArray, List.append_toArray, List.nil_append, List.cons_append]
  gi_wp2_with (gi_at_call 47; refine ((callsIn_wide (n := 3)).2 (there_nil _)).mono ?_; rintro e w' ⟨rfl, rfl⟩)
  exact ⟨_, results_tmp rfl _ _ _, rfl, rfl⟩
set_option maxRecDepth 100000 in
set_option maxHeartbeats 4000000 in
theorem bytes_at {w : World} {base p : Nat} {pl : Pl} {D : Dk} (h : DiskAt w base p pl D) (hN : D.waits.length ≤ 1000000) :
    Calls Try.prog 29 #[.pointer (some ⟨p, 0, none⟩)] w fun e w' => ∃ v, e = .returned v ∧ w'.ownsRow w.heap.size 5 1 v (D.size * 512) (bv D.all) ∧ Below w.heap.size w w' := by
  have hz8 := z84
  have hz7 := z73
  have hz4 := z47
  have hFw : ∀ f, Fence.wide.fn f := fun _ => trivial
  have H := Lib.hid h
  have hc1 := h.c1
  obtain ⟨es, clock, hes, hcl⟩ := h.map.clone
  have HES := Lib.hid hes
  have HCL := Lib.hid hcl
  clear h hes hcl
  refine (callsIn_wide (n := 4)).1 (callsIn_of_wp_marks Try.func29 rfl trivial ?_ rfl)
  simp only [Try.ntmps29, List.size_toArray, List.length_cons, List.length_nil, Nat.reduceAdd, Nat.reduceSub, Array.replicate_succ, Array.replicate_zero, List.push_toArray, List.append_toArray, List.nil_append, List.cons_append]
  gi_wp2_with (first
    | (gi_at_call 47; refine ((callsIn_wide (n := 3)).2 (there_at H.out)).mono ?_; rintro e w' ⟨rfl, rfl⟩)
    | (gi_at_call 48; refine ((callsIn_wide (n := 3)).2 (clone73 pl.m es clock _ HES.out)).mono ?_; rintro e w' ⟨rfl, rfl⟩)
    | (gi_at_call 54; refine ((callsIn_wide (n := 3)).2 (waiting_any _ _)).mono ?_; rintro e w' ⟨rfl, rfl⟩))
  have BM := Lib.hid (((HCL.out w).keep (Below.heap_alloc _ (.cells #[.map (some w.heap.size)] 81) _ (by simp))).keep (Below.heap_alloc _ (.cells #[.pointer (some ⟨p, 0, none⟩)] 31) _ (by simp; omega)))
  have B3 := Lib.hid ((show Blk ((w.alloc (.map es clock)).alloc (.cells #[.map (some w.heap.size)] 81)) (w.heap.size + 1) 81 #[.map (some w.heap.size)] from heap_alloc2_new _ _ _).alloc (.cells #[.pointer (some ⟨p, 0, none⟩)] 31))
  have B4 := Blk.new ((w.alloc (.map es clock)).alloc (.cells #[.map (some w.heap.size)] 81)) 31 #[.pointer (some ⟨p, 0, none⟩)]
  simp only [World.size_alloc] at B4
  have HB4 := Lib.hid B4
  clear B4
  have HD := Lib.hid (((H.out.alloc (.map es clock)).alloc (.cells #[.map (some w.heap.size)] 81)).alloc (.cells #[.pointer (some ⟨p, 0, none⟩)] 31))
  have BL := Lib.hid ((((Below.refl w.heap.size w).alloc (Nat.le_refl _) (.map es clock)).alloc (by simp) (.cells #[.map (some w.heap.size)] 81)).alloc (by simp; omega) (.cells #[.pointer (some ⟨p, 0, none⟩)] 31))
  have SZ := Lib.hid (show (((w.alloc (.map es clock)).alloc (.cells #[.map (some w.heap.size)] 81)).alloc (.cells #[.pointer (some ⟨p, 0, none⟩)] 31)).heap.size = w.heap.size + 3 by simp)
  generalize ((w.alloc (.map es clock)).alloc (.cells #[.map (some w.heap.size)] 81)).alloc (.cells #[.pointer (some ⟨p, 0, none⟩)] 31) = W0 at BM B3 HB4 HD BL SZ ⊢
  clear hc1 HES HCL
  refine range_waiting HD.out hN rfl ((HB4.out.cell 0).trans rfl) rfl (by omega)
    (fun xs W => SecMap W w.heap.size (layC (fun _ => 512) D.lasts (wis xs)) ∧ Blk W (w.heap.size + 1) 81 #[.map (some w.heap.size)] ∧ Below w.heap.size w W ∧ W0.heap.size ≤ W.heap.size)
    ((own_sec BM.out.lt (fun xs => layC (fun _ => 512) D.lasts (wis xs))).and ((own_blk _ _ _ (fun _ => _)).and ((ownFrom_below (Nat.le_refl _) BL.out.size).and (own_size _ _))))
    ⟨BM.out, B3.out, BL.out, Nat.le_refl _⟩
    (fun x b => { tmps := #[.pointer (some ⟨p, 0, none⟩), undef, .slice none 0 0, .pointer (some ⟨w.heap.size + 1, 0, none⟩), undef, .pointer (some ⟨b, 0, none⟩), undef, undef, undef, .pointer (some ⟨p, 0, none⟩), .bool true, .bool false, .pointer (some ⟨p, 0, none⟩), .pointer (some ⟨p, 0, none⟩), .pointer (some ⟨p, 1, none⟩), .map (some pl.m), .map (some w.heap.size), .pointer (some ⟨p, 0, none⟩), .func (.func 62) #[] #[.pointer (some ⟨w.heap.size + 1 + 1, 0, none⟩)], .int .i64 (x.i : Int), wv x.x, undef, undef, undef, undef, undef, undef, undef, undef, undef, undef, undef, undef, undef, undef, undef, undef, undef, undef, undef, undef, undef, undef, undef, undef, undef, undef], defers := [] })
    ?assign ?body (fun pre W h => h.2.2.2) ?done
  case assign =>
    intro l x W K hK
    have hxz : x.x.2.length = zs.length := by rw [x.len, zs_length]
    have hwl : (wc x.x).length = 513 := wc_length x.x x.len
    have HKK := Lib.hid hK
    clear hK
    gi_wp2
    exact HKK.out
  case body =>
    rintro l pre x b W _ ⟨i1, i2, i3, i4⟩ hb hbw
    have XL := Lib.hid x.len
    have I1 := Lib.hid i1
    have I2 := Lib.hid i2
    have I3 := Lib.hid i3
    have I4 := Lib.hid i4
    have HR := Lib.hid hbw.rangeAt
    have hc3 := (i2.cell 0).trans (show (#[.map (some w.heap.size)] : Array Value)[0]? = some (.map (some w.heap.size)) from rfl)
    have LL := Lib.hid (layC_length (fun _ => 512) (fun _ => Nat.le_refl _) (wis pre) D.lasts HD.out.lens (wis_len pre) x.x.1)
    have WS := Lib.hid (wis_snoc pre x)
    have LS := Lib.hid (layC_snoc (fun _ => 512) D.lasts (wis pre) (x.i, x.x))
    clear i1 i2 i3 i4 hbw hb
    gi_wp2_with (first
      | (refine wpListIn_load84 rfl (.tmp 5) rfl b 0 rfl x.x HR.out XL.out ?_)
      | (gi_at_call 55; refine (CallsIn.inRound l ((callsIn_wide (n := 1)).2 (lay_any W w.heap.size _ x.x 512 I1.out XL.out LL.out (Nat.le_refl _)))).mono ?_; rintro e w5 ⟨rfl, sm5, fr5⟩; have SM5 := Lib.hid sm5; have FR5 := Lib.hid fr5; clear sm5 fr5))
    refine ⟨rfl, keepsFrom_fr FR5.out BM.out.lt, fun k hk => FR5.out.block k ?_ (fun e => ?_), ?_, FR5.out.keepBlk I2.out (by omega), I3.out.trans (FR5.out.to_below (fun k e => Nat.le_of_eq e.symm) I3.out.size), Nat.le_trans I4.out FR5.out.size⟩
    · exact Nat.lt_of_lt_of_le (H.out.row.lt k hk).2 I3.out.size
    · have := (H.out.row.lt k hk).2; omega
    · rw [WS.out, LS.out]
      exact SM5.out
  case done =>
    rintro B xs W hB hxs hxi ⟨i1, i2, i3, i4⟩ hD
    rw [wis_all hxs hxi] at i1
    have I1 := Lib.hid i1
    have I2 := Lib.hid i2
    have I3 := Lib.hid i3
    have HDW := Lib.hid (H.out.below i3)
    have c0W := (H.out.below i3).c0
    have HDB := Lib.hid hD
    have HB := Lib.hid hB
    have s1 := H.out.size1
    have s2 := H.out.size2
    obtain ⟨N, hNe⟩ : ∃ N, N = D.size * 512 := ⟨_, rfl⟩
    have NE := Lib.hid hNe
    have e1 : (D.size : Int) * 512 = (N : Int) := by omega
    have wr1 : IntKind.i64.wrap ((D.size : Int) * 512) = (N : Int) := by rw [e1]; exact IntWalk.i64_in _ (by omega)
    have n1 : (N : Int) ≤ 3000000 := by omega
    have n0 : (0 : Int) ≤ (N : Int) := by omega
    have hmk := fun W : World => run_make_row' (P := Try.prog) 22 5 (.int .u8 0) 1 Try.underlying22 infoU8 rfl .i64 .i64 N (by omega) (by omega) W
    clear i1 i2 i3 i4 hD hB hxs hxi hNe
    have c0W2 := (HDW.out.alloc (.cells (madeCells #[.int .u8 0] N) 5)).c0
    gi_wp2
    have hmc : madeCells #[.int .u8 0] N = (bv (rowK (D.laid (fun _ => 512)) D.size 0)).toArray := by
      have e2 : rowK (D.laid (fun _ => 512)) D.size 0 = List.replicate N 0 := by rw [rowK, NE.out]; simp [secs]
      rw [e2, bv_replicate]
      apply Array.ext
      · simp [size_madeCells]
      · intro i h1 h2
        simp [madeCells, Nat.mod_one]
    have G := Lib.hid (show Blk (W.alloc (.cells (madeCells #[.int .u8 0] N) 5)) W.heap.size 5 (bv (rowK (D.laid (fun _ => 512)) D.size 0)).toArray by rw [← hmc]; exact Blk.new _ _ _)
    have J1 := Lib.hid (I1.out.keep (Below.heap_alloc W (.cells (madeCells #[.int .u8 0] N) 5) _ I1.out.lt))
    have J2 := Lib.hid (I2.out.alloc (.cells (madeCells #[.int .u8 0] N) 5))
    have J3 := Lib.hid (I3.out.alloc I3.out.size (.cells (madeCells #[.int .u8 0] N) 5))
    have JB := Lib.hid ((Below.heap_alloc W (.cells (madeCells #[.int .u8 0] N) 5) B (Array.getElem?_eq_some_iff.1 HDB.out).1).trans HDB.out)
    have GW := Lib.hid (show w.heap.size + 3 ≤ W.heap.size by have := (Array.getElem?_eq_some_iff.1 HDB.out).1; have := SZ.out; have := HB.out; omega)
    have BW := Lib.hid (Array.getElem?_eq_some_iff.1 HDB.out).1
    clear hmc c0W c0W2
    generalize W.alloc (.cells (madeCells #[.int .u8 0] N) 5) = W1 at G J1 J2 J3 JB ⊢
    have LL := Lib.hid (Dk.laid_len H.out (fun _ => 512) (fun _ => Nat.le_refl _))
    obtain ⟨L, hLe⟩ : ∃ L, L = D.laid (fun _ => 512) := ⟨_, rfl⟩
    have LE := Lib.hid hLe
    change Hid (SecMap W1 w.heap.size (D.laid (fun _ => 512))) at J1
    rw [← hLe] at G J1 LL
    clear hLe hmk
    obtain ⟨s, hs⟩ : ∃ s, s = D.size := ⟨_, rfl⟩
    have SE := Lib.hid hs
    rw [← hs] at G s1 s2 ⊢
    have NE2 := Lib.hid (show N = s * 512 by rw [NE.out, hs])
    clear hs e1 wr1 NE
    gi_loopw [34] (fun i wr => ∃ k : Nat, k ≤ s ∧ i = .int .i64 k ∧ Blk wr W.heap.size 5 (bv (rowK L s k)).toArray ∧ Fr (· = W.heap.size) W1 wr) (fun i _ => s - (intOf i).toNat)
    case atStart => exact ⟨0, Nat.zero_le _, rfl, G.out, Fr.refl _ _⟩
    case round =>
      obtain ⟨k, hk, rfl, hb, hf⟩ := hrel
      by_cases hlt : k < s
      · have HBk := Lib.hid hb
        have HF := Lib.hid hf
        have hne : ∀ q, q ≠ W.heap.size → ¬ (q = W.heap.size) := fun _ h => h
        have SM := Lib.hid (J1.out.keep (hf.block _ J1.out.lt (by have := GW.out; omega)))
        have B3k := hf.keepBlk J2.out (by have := GW.out; omega)
        have hc3 := (B3k.cell 0).trans (show (#[.map (some w.heap.size)] : Array Value)[0]? = some (.map (some w.heap.size)) from rfl)
        have hl := SM.out.look k
        have LK := Lib.hid (LL.out k)
        have hbl : (bv (L k)).length = 512 := by rw [bv_length, LK.out]
        have hlz : (L k).length = zs.length := by rw [LK.out, zs_length]
        clear hb hf B3k hne
        gi_wp2
        have NL := Lib.hid (show (k + 1) * 512 ≤ N by rw [NE2.out]; exact Nat.mul_le_mul_right _ hlt)
        have K1 := Lib.hid (show Blk (wr.alloc (.cells (bv (L k)).toArray 38)) W.heap.size 5 (bv (rowK L s k)).toArray from HBk.out.alloc _)
        have K2 := Lib.hid (rd_blk (Blk.new wr 38 (bv (L k)).toArray) 0 (L k) (fun j hj => by rw [Nat.zero_add, bv_get, List.getElem?_eq_getElem hj]; rfl))
        have K3 := Lib.hid (HF.out.alloc (.cells (bv (L k)).toArray 38))
        have K4 := Lib.hid (rowK_splice L LL.out s k hlt)
        have K5 := Lib.hid (rowK_length L LL.out s k hk)
        have k4 : k ≤ 4096 := by omega
        have o1 : (0 : Nat) + k * 512 = k * 512 := by omega
        generalize hwr : wr.alloc (.cells (bv (L k)).toArray 38) = W2 at K1 K2 K3 ⊢
        clear hl hbl hlz hc3 hwr
        refine wpIn_region_out (S := fun _ => True) (by kernel_rfl) trivial (fun hHeld => ?_)
        refine wpAnyH_take (i := 0) (v := ?v1) rfl (by kernel_rfl) (by kernel_rfl) (by kernel_rfl) (fun _ _ _ h => h) (Or.inl ⟨by rfl, ?hy1⟩) hHeld ?rest1
        case hy1 =>
          intro w' hSw
          try dsimp only at hSw
          go_simp
          first | done | with_reducible rfl
        try simp only [Act.put, List.getElem_toArray, List.getElem_cons_zero, List.setIfInBounds_toArray, List.set_cons_zero, List.set_cons_succ]
        refine wpAnyH_take (i := 1) (v := ?v2) rfl (by kernel_rfl) (by kernel_rfl) (by kernel_rfl) (fun _ _ _ h => h) (Or.inl ⟨by rfl, ?hy2⟩) hHeld ?rest2
        case hy2 =>
          intro w' hSw
          try dsimp only at hSw
          go_simp
          first | done | with_reducible rfl
        try simp only [Act.put, List.getElem_toArray, List.getElem_cons_succ, List.getElem_cons_zero, List.setIfInBounds_toArray, List.set_cons_zero, List.set_cons_succ]
        refine wpAnyH_take (i := 3) (v := ?v3) rfl (by kernel_rfl) (by kernel_rfl) (by kernel_rfl) (fun _ _ _ h => h) (Or.inl ⟨by rfl, ?hy3⟩) hHeld ?rest3
        case hy3 =>
          intro w' hSw
          try dsimp only at hSw
          go_simp
          first | done | with_reducible rfl
        try simp only [Act.put, List.getElem_toArray, List.getElem_cons_succ, List.getElem_cons_zero, List.setIfInBounds_toArray, List.set_cons_zero, List.set_cons_succ]
        refine wpAnyH_ready (rs := [2]) (by kernel_rfl) (by simp) ?_
        refine AllReadyH.cons (by rfl) (fun K hK => ?_) AllReadyH.nil
        go_simp
        refine (part_at W.heap.size 0 N N k _ NL.out k4).mono ?_
        rintro e w5 ⟨rfl, rfl⟩
        go_wp2_with fail
        refine hK.out _ _ trivial (fun hHeld => ?_)
        clear hK K
        try simp only [Act.put, List.getElem_toArray, List.getElem_cons_succ, List.getElem_cons_zero, List.setIfInBounds_toArray, List.set_cons_zero, List.set_cons_succ]
        refine wpAnyH_ready (rs := [4]) (by kernel_rfl) (by simp) ?_
        refine AllReadyH.cons (by rfl) (fun K hK => ?_) AllReadyH.nil
        refine step_copy rfl (.tmp 42) (.tmp 43) (by rfl) Try.underlying22 size5 W.heap.size (k * 512) 512 512 (some ⟨wr.heap.size, 0, none⟩) 512 512 (by simp [Act.eval]) (by simp [Act.eval]) (rowK L s k) (L k) K1.out (by rw [LK.out]; rfl) K2.out (by rw [LK.out, K5.out]; have := NL.out; rw [NE2.out] at this; omega) ?_
        intro w6 hb6 hg6 hs6
        rw [K4.out] at hb6
        have HB6 := Lib.hid hb6
        have HF6 := Lib.hid (K3.out.drew.grown hg6 (fun i e _ => by injection e with e; exact e.symm))
        clear hb6 hg6 hs6
        refine hK.out _ _ trivial (fun hHeld => ?_)
        clear hK K
        try simp only [Act.put, List.getElem_toArray, List.getElem_cons_succ, List.getElem_cons_zero, List.setIfInBounds_toArray, List.set_cons_zero, List.set_cons_succ]
        refine wpAnyH_done (by kernel_rfl) ?_ _
        refine OnlyN.normal ?_
        clear hHeld
        gi_wp2
        go_roundw
        case rel => exact ⟨k + 1, by omega, by go_num, HB6.out, HF6.out⟩
        case measure => simp [intOf]; omega
      · obtain rfl : k = s := by omega
        rw [rowK_all] at hb
        have HBk := Lib.hid hb
        have HF := Lib.hid hf
        have HDBr := Lib.hid ((hf.block B (Array.getElem?_eq_some_iff.1 JB.out).1 (by have := BW.out; omega)).trans JB.out)
        clear hb hf
        gi_wp2
        refine ⟨by simp, .inl ⟨_, _, rfl, run_takeDeferred HDBr.out, ?_⟩⟩
        refine ⟨_, results_tmp rfl _ _ _, .slice (some ⟨W.heap.size, 0, none⟩) N N, rfl, ?_, ?_⟩
        · refine ownsRow_putObj ?_ _ HDBr.out rfl
          have hall : D.all = secs L k := by rw [Dk.all, LE.out, SE.out]
          rw [hall, ← SE.out, ← NE2.out]
          have hlen : (bv (secs L k)).length = N * 1 := by rw [bv_length, secs_length L LL.out, NE2.out]; omega
          exact ⟨hlen, .inr ⟨W.heap.size, N, _, rfl, by have := GW.out; omega, HBk.out, Nat.le_refl _, by simp only [maxLen]; omega, by rw [List.size_toArray]; exact hlen, by rw [List.take_of_length_le (by simp [hlen])]⟩⟩
        · refine (J3.out.trans (HF.out.to_below (B := w.heap.size) (fun q e => by have := GW.out; omega) J3.out.size)).trans ?_
          exact belowK_b (w := w) (Nat.le_refl _) _ B _ _ (Nat.le_trans BL.out.size HB.out) HDBr.out rfl rfl
end Go.Proofs.Ytgjamgojjajcnaa

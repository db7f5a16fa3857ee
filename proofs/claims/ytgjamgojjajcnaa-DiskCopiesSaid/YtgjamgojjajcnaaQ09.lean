/- A region that draws its order, quiet in a class of worlds of the prover's own: steps by hand. -/
import Derived.Test.YtgjamgojjajcnaaQ01
import Derived.Deep.Quiet
import Derived.OrdersHeld
import Derived.Shelf.RegionOpen
import Derived.Test.YtgjamgojjajcnaaQ08
namespace Go.Proofs.Ytgjamgojjajcnaa
open Go.RowKit
section
variable {P : Program} {ops : Array Oper} {C : World → Prop} {Q : Act → Prop} {o : Oper} {rest : List Oper} {a : Act}
theorem q_take {v : Value} (hw : Region.wanted o (yielded ops a.tmps) = true) (hy : ∀ w, C w → (execOp a.eval o).run P w = .ok (.value v) w) (h : wpQuiet P ops C Q rest (a.put o.dst v)) : wpQuiet P ops C Q (o :: rest) a :=
  wpQuiet_step fun K hK => by
    rw [if_pos hw]
    exact ⟨v, fun w hc => by unfold Oper.quietAt; rw [hy w hc]; exact ⟨rfl, rfl⟩, hK _ h⟩
set_option maxRecDepth 8000 in
theorem q_yield {v : Value} (hw : Region.wanted o (yielded ops a.tmps) = true) (hy : YieldsIf P ops C o v a) (h : wpQuiet P ops C Q rest (a.put o.dst v)) : wpQuiet P ops C Q (o :: rest) a := by
  rcases hy with ⟨_, hy⟩ | ⟨hn, _⟩
  · exact q_take hw hy h
  · rw [hw] at hn; cases hn
theorem q_skip (hw : Region.wanted o (yielded ops a.tmps) = false) (h : wpQuiet P ops C Q rest (a.put o.dst undef)) : wpQuiet P ops C Q (o :: rest) a :=
  wpQuiet_step fun K hK => by
    rw [if_neg (by rw [hw]; exact Bool.false_ne_true)]
    exact hK _ h
theorem q_call {v : Value} {f : FuncId} {args : Array Value} (hw : Region.wanted o (yielded ops a.tmps) = true) (he : ∀ w, (execOp a.eval o).run P w = .ok (.enter f args) w)
    (hc : ∀ w, C w → Calls P f args w fun e w' => e = .returned v ∧ C w') (h : wpQuiet P ops C Q rest (a.put o.dst v)) : wpQuiet P ops C Q (o :: rest) a :=
  wpQuiet_step fun K hK => by
    rw [if_pos hw]
    exact ⟨v, fun w hC => by unfold Oper.quietAt; rw [he w]; exact ⟨rfl, hc w hC⟩, hK _ h⟩
theorem wp_quiet {id : Nat} {Q : Exit → Act → World → Prop} {a : Act} {w : World} {l : List Oper} (C : World → Prop) (hm : P.follows .mixedOrders = true) (hB : Region.lexB .any l.toArray = true) (hC : C w.drew)
    (h : wpQuiet P l.toArray C (fun a' => ∀ w', C w' → Q .normal a' w') l a) : (Code.region id l.toArray true).wp P Q a w :=
  wp_region_quiet (C := C) hm hB hC (by simpa using h)
theorem wpIn_quiet {n id : Nat} {Q : Exit → Act → World → Prop} {a : Act} {w : World} {l : List Oper} (C : World → Prop) (hm : P.follows .mixedOrders = true) (hB : Region.lexB .any l.toArray = true) (hC : C w.drew)
    (h : wpQuiet P l.toArray C (fun a' => ∀ w', C w' → Q .normal a' w') l a) : (Code.region id l.toArray true).wpIn Fence.wide n P Q a w :=
  wpIn_wide.2 (wp_quiet C hm hB hC h)
end
end Go.Proofs.Ytgjamgojjajcnaa
namespace Go.Proofs.Ytgjamgojjajcnaa
open Go.RowKit
attribute [local go_sem] run_store_bv run_store_wc
set_option maxRecDepth 8000 in
set_option maxHeartbeats 400000 in
theorem num_any (w : World) (n : Int) : Calls Try.prog 14 #[.int .i64 n] w fun e w' => e = .returned (.int .i64 n) ∧ w = w' := by
  go_enter Try.func14, Try.ntmps14
  go_wp2
  go_ret
  exact ⟨rfl, rfl⟩
/-- the first k bytes are c -/
def fillK (c : UInt8) (k : Nat) : List UInt8 := List.replicate k c ++ List.replicate (512 - k) 0
set_option maxRecDepth 8000 in
theorem fillK_length (c : UInt8) (k : Nat) (h : k ≤ 512) : (fillK c k).length = 512 := by simp [fillK]; omega
set_option maxRecDepth 8000 in
theorem fillK_zero (c : UInt8) : fillK c 0 = zs := by
  unfold fillK zs
  rw [List.replicate_zero, List.nil_append]
set_option maxRecDepth 8000 in
theorem fillK_set (c : UInt8) (k : Nat) (h : k < 512) : (bv (fillK c k)).toArray.setIfInBounds k (.int .u8 (c.toNat : Int)) = (bv (fillK c (k + 1))).toArray := by
  have e : (fillK c k).set k c = fillK c (k + 1) := by
    unfold fillK
    rw [List.set_append_right _ _ (by simp), List.length_replicate, Nat.sub_self, show 512 - k = (512 - (k + 1)) + 1 by omega, List.replicate_succ, List.set_cons_zero, List.replicate_succ', List.append_assoc]
    rfl
  rw [List.setIfInBounds_toArray, ← e]
  congr 1
  simp [bv, List.map_set]
/-- a sector of one byte again and again -/
def fullL (c : UInt8) : List UInt8 := List.replicate 512 c
theorem fullL_length (c : UInt8) : (fullL c).length = 512 := List.length_replicate ..
set_option maxRecDepth 8000 in
theorem fillK_full (c : UInt8) : fillK c 512 = fullL c := by
  unfold fillK fullL
  rw [Nat.sub_self, List.replicate_zero, List.append_nil]
set_option maxRecDepth 100000 in
set_option maxHeartbeats 1600000 in
theorem full_at (w : World) (c : UInt8) : Calls Try.prog 22 #[.int .u8 (c.toNat : Int)] w fun e w' => e = .returned (sec (fullL c)) ∧ Below w.heap.size w w' := by
  have hz := z47
  have B0 := Lib.hid ((Blk.new w 38 (bv zs).toArray).alloc (.cells (bv zs).toArray 38))
  have B1 := Lib.hid (Blk.new (w.alloc (.cells (bv zs).toArray 38)) 38 (bv zs).toArray)
  have BL := Lib.hid (((Below.refl w.heap.size w).alloc (Nat.le_refl _) (.cells (bv zs).toArray 38)).alloc (by simp) (.cells (bv zs).toArray 38))
  go_enter Try.func22, Try.ntmps22
  go_wp2
  simp only [World.size_alloc] at B1
  generalize (w.alloc (.cells (bv zs).toArray 38)).alloc (.cells (bv zs).toArray 38) = W at B0 B1 BL ⊢
  clear hz
  go_loopw [4] (fun i wr => ∃ k : Nat, k ≤ 512 ∧ i = .int .i64 k ∧ Blk wr (w.heap.size + 1) 38 (bv (fillK c k)).toArray ∧ Blk wr w.heap.size 38 (bv zs).toArray ∧ Below w.heap.size w wr) (fun i _ => 512 - (intOf i).toNat)
  case atStart => exact ⟨0, Nat.zero_le _, rfl, by rw [fillK_zero]; exact B1.out, B0.out, BL.out⟩
  case round =>
    obtain ⟨k, hk, rfl, hb1, hb0, hb⟩ := hrel
    by_cases hlt : k < 512
    · have HB1 := Lib.hid hb1
      have HB0 := Lib.hid hb0
      have HB := Lib.hid hb
      have FS := Lib.hid (fillK_set c k hlt)
      have hfr := hb1.frozen k
      have hcell := (hb1.cell k).trans (show (bv (fillK c k)).toArray[k]? = some ((bv (fillK c k)).toArray[k]'(by rw [List.size_toArray, bv_length, fillK_length c k hk]; exact hlt)) from Array.getElem?_eq_getElem _)
      generalize (bv (fillK c k)).toArray[k]'(by rw [List.size_toArray, bv_length, fillK_length c k hk]; exact hlt) = u at hcell
      clear hb1 hb0 hb
      go_wp2
      go_roundw
      case rel => exact ⟨k + 1, by omega, by go_num, by rw [← FS.out]; exact HB1.out.set_ k _, HB0.out.far (by simp) _, HB.out.setCell (by simp) _⟩
      case measure => simp [intOf]; omega
    · have : k = 512 := by omega
      subst this
      rw [fillK_full] at hb1
      have HB1 := Lib.hid hb1
      have HB0 := Lib.hid hb0
      have HB := Lib.hid hb
      have hst := run_store_all (P := Try.prog) (bv (fullL c)) (bv zs) (by rw [bv_length, bv_length, fullL_length, zs_length]) (bv_one _) hb0
      have J0 := Lib.hid (hb0.setRow (bv (fullL c)).toArray)
      have J := Lib.hid (below_setRow hb (Nat.le_refl _) (bv (fullL c)).toArray)
      clear hb1 hb0 hb
      go_wp2_with (refine wpList_load47 rfl (.tmp 3) rfl (w.heap.size + 1) 0 rfl (fullL c) HB1.out.rangeAt (fullL_length c) ?_)
      exact bodyPost_ret (results_cell_row rfl _ _ w.heap.size 38 _ (0, 0) _ rfl J0.out Try.underlying38 rfl (by rw [List.size_toArray, bv_length, fullL_length]; exact size47)) rfl ⟨rfl, J.out⟩
end Go.Proofs.Ytgjamgojjajcnaa

/- disk: the walk of lay. -/
import Derived.Test.YtokbghpddgfnpaaThere
import Derived.Test.YtokbghpddgfnpaaArr
import Derived.Deep.RegionHeld3
import Derived.Outline
namespace Go.Proofs.Ytokbghpddgfnpaa
open Go.RowKit
attribute [local go_sem] run_store_bv run_store_wc
theorem wc_0 (x : Nat × List UInt8) : (wc x)[0]? = some (.int .i64 (x.1 : Int)) := rfl
set_option maxRecDepth 8000 in
theorem size5 : (Try.prog.info? 5).map (·.size) = some 1 := by kernel_rfl
def layL (a l : List UInt8) (k : Nat) : List UInt8 := l.take k ++ a.drop k
set_option maxRecDepth 8000 in
theorem splice_lay (a l : List UInt8) (k : Nat) (hk : k ≤ l.length) : splice a 0 (l.take k) = layL a l k := by
  simp [splice, layL, List.length_take, Nat.min_eq_left hk]
set_option maxRecDepth 8000 in
theorem layL_length (a l : List UInt8) (k : Nat) (ha : a.length = 512) (hl : l.length = 512) (hk : k ≤ 512) : (layL a l k).length = 512 := by
  simp [layL, ha, hl]; omega
theorem rd_blk {w : World} {b : Nat} {t : TypeId} {cs : List Value} (h : Blk w b t cs.toArray) (o : Nat) (l : List UInt8) (hl : ∀ j (hj : j < l.length), cs[o + j]? = some (.int .u8 (l[j].toNat : Int))) : Rd w (some ⟨b, o, none⟩) l := fun j hj => ⟨b, o, rfl, by rw [h.cell]; simpa using hl j hj⟩
set_option maxRecDepth 8000 in
theorem wc_get (x : Nat × List UInt8) (j : Nat) (hj : j < x.2.length) : (wc x)[1 + j]? = some (.int .u8 (x.2[j].toNat : Int)) := by
  rw [Nat.add_comm, wc, List.getElem?_cons_succ, bv_get, List.getElem?_eq_getElem hj]
  rfl
set_option maxRecDepth 20000 in
set_option maxHeartbeats 800000 in
theorem lay_any (w : World) (m : Nat) (L : Nat → List UInt8) (x : Nat × List UInt8) (k : Nat) (hm : SecMap w m L) (hx : x.2.length = 512) (hL : (L x.1).length = 512) (hk : k ≤ 512) :
    Calls Try.prog 56 #[.map (some m), wv x, .int .i64 (k : Int)] w fun e w' => e = .returned (.tuple #[]) ∧ SecMap w' m (upL L x.1 (layL (L x.1) x.2 k)) ∧ Fr (· = m) w w' := by
  have hz := z47
  have hw0 := wc_0 x
  have hl := (hm.keep (Below.heap_alloc w (.cells (wc x).toArray 89) m hm.lt)).look x.1
  have HM := Lib.hid hm
  have HX := Lib.hid hx
  have HL := Lib.hid hL
  have hbl : (bv (L x.1)).length = 512 := by rw [bv_length, hL]
  have hll : (L x.1).length = zs.length := by rw [hL, zs_length]
  have k1 : (0 : Int) ≤ (k : Int) := by omega
  have k2 : (k : Int) ≤ 512 := by omega
  clear hm hx hL
  go_enter Try.func56, Try.ntmps56
  go_wp2_with fail
  have b0 : Blk ((w.alloc (.cells (wc x).toArray 89)).alloc (.cells (bv (L x.1)).toArray 38)) w.heap.size 89 (wc x).toArray := (Blk.new w _ _).alloc _
  have b1 : Blk ((w.alloc (.cells (wc x).toArray 89)).alloc (.cells (bv (L x.1)).toArray 38)) (w.heap.size + 1) 38 (bv (L x.1)).toArray := heap_alloc2_new _ _ _
  have sm : SecMap ((w.alloc (.cells (wc x).toArray 89)).alloc (.cells (bv (L x.1)).toArray 38)) m L := (HM.out.keep (Below.heap_alloc _ _ _ HM.out.lt)).keep (Below.heap_alloc _ _ _ (by have := HM.out.lt; simp; omega))
  have fr : Fr (· = m) w ((w.alloc (.cells (wc x).toArray 89)).alloc (.cells (bv (L x.1)).toArray 38)) := ((Fr.refl _ w).alloc _).alloc _
  generalize (w.alloc (.cells (wc x).toArray 89)).alloc (.cells (bv (L x.1)).toArray 38) = W at b0 b1 sm fr ⊢
  have R1 := Lib.hid (rd_blk b0 1 (x.2.take k) (fun j hj => by rw [wc_get x j (by simp at hj; omega)]; simp))
  have B0 := Lib.hid b0
  have B1 := Lib.hid b1
  have SM := Lib.hid sm
  have FR := Lib.hid fr
  have TL := Lib.hid (show (x.2.take k).length = k by rw [List.length_take, HX.out]; omega)
  have TF := Lib.hid (show 0 + (x.2.take k).length ≤ (L x.1).length by rw [TL.out, HL.out]; omega)
  have mp := HM.out.lt
  clear b0 b1 sm fr hl hbl hll
  go_region_held3 (fun _ => True) (trivial) ((refine step_copy rfl (.tmp 13) (.tmp 17) (by rfl) Try.underlying22 size5 (w.heap.size + 1) 0 k k (some ⟨w.heap.size, 1, none⟩) k k (by simp [Act.eval]) (by simp [Act.eval]) (L x.1) (x.2.take k) B1.out (by rw [TL.out]; simp) R1.out TF.out ?_; intro w2 hb2 hg2 hs2))
  rw [splice_lay _ _ _ (by rw [HX.out]; omega)] at hb2
  have hb0 : Blk w2 w.heap.size 89 (wc x).toArray := (hg2.block _ (by have := B0.out.lt; simpa using this) (by simp)).trans B0.out
  have sm2 : SecMap w2 m L := SM.out.keep ((hg2.block m (by have := SM.out.lt; simpa using this) (by simp; omega)).trans rfl)
  have FR2 := Lib.hid ((FR.out.drew).grown hg2 (fun i e hi => by injection e with e; omega))
  have hll := layL_length (L x.1) x.2 k HL.out HX.out hk
  have hc0 : w2.cell? ⟨w.heap.size, 0, none⟩ = some (.int .i64 (x.1 : Int)) := (hb0.cell 0).trans rfl
  have HB2 := Lib.hid hb2.rangeAt
  have HLL := Lib.hid hll
  obtain ⟨w3, hup, sm3, hg3, _⟩ := sm2.update x.1 (layL (L x.1) x.2 k)
  have SM3 := Lib.hid sm3
  have FR3 := Lib.hid (FR2.out.grown hg3 (fun i e _ => by injection e with e; exact e.symm))
  clear hb2 hg2 hs2 hb0 sm2 hll sm3 hg3
  go_wp2_with (refine wpList_load47 rfl (.tmp 6) rfl (w.heap.size + 1) 0 rfl _ HB2.out HLL.out ?_)
  go_end0
  exact ⟨rfl, SM3.out, FR3.out⟩
end Go.Proofs.Ytokbghpddgfnpaa

/- banks: give: a node of the store is made a bank. -/
import Derived.Test.YteodgefnbmiblaaDoorBCl
import Derived.Test.YteodgefnbmiblaaDoorR17
import Derived.LoopN
namespace Go.Proofs.YteodgefnbmiblaaDoor
open Go.RowKit
/-- the key of a number -/
def nK (v : Int) : Ky := ⟨1, 0, 0, 0, 0, v⟩
theorem nK_ok (v : Int) : (nK v).ok := show OkK 1 0 0 0 0 v from ⟨1, rfl, by decide, by decide, by decide, by decide, by decide, by decide, by decide, by decide, by decide, .inr rfl⟩
theorem nK_may (n v : Int) : (nK v).may n := ⟨nK_ok v, fun h => absurd h.2.1 (show ¬ (2 : Int) ≤ 1 by decide)⟩
set_option maxRecDepth 8000 in
theorem nK_prepd (os : List Oj) (v : Int) : prepd os (nK v) = nK v := by
  unfold prepd
  rw [cn_oz.2 ⟨nK_ok v, fun h => absurd h.2.1 (show ¬ (2 : Int) ≤ 1 by decide)⟩, Bool.or_true, if_pos rfl]
/-- the store behind a giving -/
noncomputable def gvA (os : List Oj) (z : Ky) (f l : Int) : List Oj := (putA (putA os z 0 (nK f)).1 z 1 (nK l)).1
set_option maxRecDepth 8000 in
theorem gvA_len (os : List Oj) (z : Ky) (f l : Int) : (gvA os z f l).length = os.length := by
  unfold gvA
  rw [putA_len, putA_len]
set_option maxRecDepth 8000 in
theorem gvA_ok {os : List Oj} (ho : okAll os.length os) (z : Ky) (f l : Int) : okAll os.length (gvA os z f l) := by
  unfold gvA
  have h1 := putA_ok ho z 0 (nK f)
  have e := putA_len os z 0 (nK f)
  have h2 : okAll (putA os z 0 (nK f)).1.length (putA os z 0 (nK f)).1 := by rw [e]; exact h1
  have := putA_ok h2 z 1 (nK l)
  rwa [e] at this
set_option maxRecDepth 8000 in
theorem ix_0 (f l : Int) (w : World) : (Instr.index 95 (.agg #[.int .i64 f, .int .i64 l]) (.int .i64 0)).run Tryd.prog w = .ok (.int .i64 f) w := by kernel_rfl
set_option maxRecDepth 8000 in
theorem ix_1 (f l : Int) (w : World) : (Instr.index 95 (.agg #[.int .i64 f, .int .i64 l]) (.int .i64 1)).run Tryd.prog w = .ok (.int .i64 l) w := by kernel_rfl
section
variable {w : World} {base p : Nat} {A : Option Addr} {cap : Nat} {ps : List Nat} {os : List Oj}
set_option maxRecDepth 100000 in
set_option maxHeartbeats 4000000 in
theorem give_any (h : StAt w base p A cap ps os) (ho : okAll os.length os) (hn : 0 < os.length) (hT : TabB base w) (x : Int) (u : Oj) (z : Ky) (f l : Int) :
    Calls Tryd.prog 58 #[bkv p x u, z.val, .int .i64 f, .int .i64 l] w fun e w' => e = .returned (.tuple #[]) ∧ StAt w' base p A cap ps (gvA os z f l) ∧ Fr (fun k => k ∈ ps) w w' := by
  have hbl := bkc_len p x u
  have hx0 := ix_0 f l
  have hx1 := ix_1 f l
  have HB0 := Lib.hid (((Below.refl w.heap.size w).alloc (Nat.le_refl _) (.cells (bkc p x u).toArray 78)).alloc (by simp) (.cells (kc z.k z.o z.c z.l z.r z.v) 33))
  have HK0 := Lib.hid ((Blk.new w 78 (bkc p x u).toArray).alloc (.cells (kc z.k z.o z.c z.l z.r z.v) 33))
  have HZ0 := Lib.hid (Blk.new_of (w.alloc (.cells (bkc p x u).toArray 78)) 33 (kc z.k z.o z.c z.l z.r z.v) (g := w.heap.size + 1) (by simp))
  have HS0 := Lib.hid ((h.alloc (.cells (bkc p x u).toArray 78)).alloc (.cells (kc z.k z.o z.c z.l z.r z.v) 33))
  have HT0 := Lib.hid (hT.up h HB0.out)
  have HN := Lib.hid hn
  have HO := Lib.hid ho
  have HB1 := Lib.hid (builtN 1 f)
  have HB2 := Lib.hid (builtN 1 l)
  have HBT := Lib.hid (builtT f l)
  have c164 : ((w.alloc (.cells (bkc p x u).toArray 78)).alloc (.cells (kc z.k z.o z.c z.l z.r z.v) 33)).cell? ⟨w.heap.size, 164, none⟩ = some (pv p) := by have := HK0.out.bk.st; simpa using this
  obtain ⟨k0, k1, k2, k3, k4, k5⟩ := HZ0.out.six
  clear h ho hn hT
  go_enter Tryd.func58, Tryd.ntmps58
  go_wp2_with (first
    | (show wpList _ _ _ ({ dst := some 12, op := .build _ _, type := _, pos := _, after := _, guard := _ } :: _) _ _; refine wpList_yields (S := fun _ => True) (y_bl2 (by rfl) (.tmp 10) (.tmp 11) (by rfl) (by rfl) (by rfl) HBT.out) trivial ?_))
  generalize (w.alloc (.cells (bkc p x u).toArray 78)).alloc (.cells (kc z.k z.o z.c z.l z.r z.v) 33) = W0 at HB0 HK0 HZ0 HS0 HT0 c164 k0 k1 k2 k3 k4 k5 ⊢
  refine wp_loop_rounds 3 ?_
  rw [rounds_succ]
  go_wp2_with (first
    | (show wpList _ _ _ ({ dst := some 22, op := .build _ _, type := _, pos := _, after := _, guard := _ } :: _) _ _; refine wpList_yields (S := fun _ => True) (y_bl2 (by rfl) _ (.tmp 21) (by rfl) (by rfl) (by rfl) HB1.out) trivial ?_)
    | (go_at_call 71; refine (put_all HS0.out HO.out HN.out HT0.out.tab z 0 (nK f)).mono ?_; rintro e w1 ⟨rfl, hs, hf⟩; have HS1 := Lib.hid hs; have HF1 := Lib.hid ((Fr.of_below HB0.out : Fr (fun k => k ∈ ps) w _).trans hf); have HT1 := Lib.hid (HT0.out.fr HS0.out hf); have HK1 := Lib.hid (HS0.out.blkF hf HK0.out (by decide)); have HZ1 := Lib.hid (HS0.out.blkF hf HZ0.out (by decide)); clear hs hf c164 k0 k1 k2 k3 k4 k5))
  have c164 : w1.cell? ⟨w.heap.size, 164, none⟩ = some (pv p) := by have := HK1.out.bk.st; simpa using this
  obtain ⟨k0, k1, k2, k3, k4, k5⟩ := HZ1.out.six
  rw [rounds_succ]
  go_wp2_with (first
    | (show wpList _ _ _ ({ dst := some 22, op := .build _ _, type := _, pos := _, after := _, guard := _ } :: _) _ _; refine wpList_yields (S := fun _ => True) (y_bl2 (by rfl) _ (.tmp 21) (by rfl) (by rfl) (by rfl) HB2.out) trivial ?_)
    | (go_at_call 71; refine (put_all HS1.out (by rw [putA_len]; exact putA_ok HO.out _ _ _) (by rw [putA_len]; exact HN.out) HT1.out.tab z 1 (nK l)).mono ?_; rintro e w2 ⟨rfl, hs, hf⟩; have HS2 := Lib.hid hs; have HF2 := Lib.hid (HF1.out.trans hf); clear hs hf c164 k0 k1 k2 k3 k4 k5))
  rw [rounds_succ]
  go_wp2_with fail
  go_end0
  exact ⟨rfl, HS2.out, HF2.out⟩
end
end Go.Proofs.YteodgefnbmiblaaDoor

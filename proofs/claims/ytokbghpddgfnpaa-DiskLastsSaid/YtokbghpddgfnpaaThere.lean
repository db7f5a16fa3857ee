/- disk: the walks of there, Size, Steps, asked, New, waiting. -/
import Derived.Test.YtokbghpddgfnpaaDisk
namespace Go.Proofs.Ytokbghpddgfnpaa
open Go.RowKit
set_option maxRecDepth 8000 in
set_option maxHeartbeats 400000 in
theorem there_nil (w : World) : Calls Try.prog 48 #[.pointer none] w fun e w' => e = .returned (.bool false) ∧ w = w' := by
  go_enter Try.func48, Try.ntmps48
  go_wp2
  go_ret
  exact ⟨rfl, rfl⟩
section
variable {w : World} {base p : Nat} {pl : Pl} {D : Dk}
theorem DiskAt.c0 (h : DiskAt w base p pl D) : w.cell? ⟨p, 0, none⟩ = some (.int .i64 (D.size : Int)) := (h.blk.cell 0).trans rfl
theorem DiskAt.c1 (h : DiskAt w base p pl D) : w.cell? ⟨p, 1, none⟩ = some (.map (some pl.m)) := (h.blk.cell 1).trans rfl
theorem DiskAt.c2 (h : DiskAt w base p pl D) : w.cell? ⟨p, 2, none⟩ = some pl.wv := (h.blk.cell 2).trans rfl
theorem DiskAt.c3 (h : DiskAt w base p pl D) : w.cell? ⟨p, 3, none⟩ = some (.int .i64 (D.steps : Int)) := (h.blk.cell 3).trans rfl
theorem DiskAt.c4 (h : DiskAt w base p pl D) : w.cell? ⟨p, 4, none⟩ = some (.int .i64 (D.frm : Int)) := (h.blk.cell 4).trans rfl
theorem DiskAt.c5 (h : DiskAt w base p pl D) : w.cell? ⟨p, 5, none⟩ = some (.map pl.f) := (h.blk.cell 5).trans rfl
end
set_option maxRecDepth 8000 in
set_option maxHeartbeats 400000 in
theorem there_yes (p n : Nat) (w : World) (hc : w.cell? ⟨p, 0, none⟩ = some (.int .i64 (n : Int))) (hn : 1 ≤ n) :
    Calls Try.prog 48 #[.pointer (some ⟨p, 0, none⟩)] w fun e w' => e = .returned (.bool true) ∧ w = w' := by
  have h1 : decide (0 < n) = true := by simp; omega
  go_enter Try.func48, Try.ntmps48
  go_wp2
  go_ret
  exact ⟨rfl, rfl⟩
theorem there_at {w : World} {base p : Nat} {pl : Pl} {D : Dk} (h : DiskAt w base p pl D) :
    Calls Try.prog 48 #[.pointer (some ⟨p, 0, none⟩)] w fun e w' => e = .returned (.bool true) ∧ w = w' := there_yes p D.size w h.c0 h.size1
set_option maxRecDepth 8000 in
set_option maxHeartbeats 400000 in
theorem size_nil (w : World) : Calls Try.prog 27 #[.pointer none] w fun e w' => e = .returned (.int .i64 0) ∧ w = w' := by
  go_enter Try.func27, Try.ntmps27
  go_wp2_with (go_at_call 48; refine (there_nil _).mono ?_; rintro e w' ⟨rfl, rfl⟩)
  go_ret
  exact ⟨rfl, rfl⟩
set_option maxRecDepth 8000 in
set_option maxHeartbeats 400000 in
theorem steps_nil (w : World) : Calls Try.prog 28 #[.pointer none] w fun e w' => e = .returned (.int .i64 0) ∧ w = w' := by
  go_enter Try.func28, Try.ntmps28
  go_wp2_with (go_at_call 48; refine (there_nil _).mono ?_; rintro e w' ⟨rfl, rfl⟩)
  go_ret
  exact ⟨rfl, rfl⟩
set_option maxRecDepth 8000 in
set_option maxHeartbeats 400000 in
theorem size_at {w : World} {base p : Nat} {pl : Pl} {D : Dk} (h : DiskAt w base p pl D) :
    Calls Try.prog 27 #[.pointer (some ⟨p, 0, none⟩)] w fun e w' => e = .returned (.int .i64 (D.size : Int)) ∧ w = w' := by
  have hc := h.c0
  have HT := Lib.hid (there_at h)
  clear h
  go_enter Try.func27, Try.ntmps27
  go_wp2_with (go_at_call 48; refine HT.out.mono ?_; rintro e w' ⟨rfl, rfl⟩)
  go_ret
  exact ⟨rfl, rfl⟩
set_option maxRecDepth 8000 in
set_option maxHeartbeats 400000 in
theorem steps_at {w : World} {base p : Nat} {pl : Pl} {D : Dk} (h : DiskAt w base p pl D) :
    Calls Try.prog 28 #[.pointer (some ⟨p, 0, none⟩)] w fun e w' => e = .returned (.int .i64 (D.steps : Int)) ∧ w = w' := by
  have hc := h.c3
  have HT := Lib.hid (there_at h)
  clear h
  go_enter Try.func28, Try.ntmps28
  go_wp2_with (go_at_call 48; refine HT.out.mono ?_; rintro e w' ⟨rfl, rfl⟩)
  go_ret
  exact ⟨rfl, rfl⟩
set_option maxRecDepth 8000 in
set_option maxHeartbeats 400000 in
theorem asked_nil (w : World) (n : Int) : Calls Try.prog 38 #[.pointer none, .int .i64 n] w fun e w' => e = .returned (.int .i64 1) ∧ w = w' := by
  go_enter Try.func38, Try.ntmps38
  go_wp2_with (go_at_call 48; refine (there_nil _).mono ?_; rintro e w' ⟨rfl, rfl⟩)
  go_ret
  exact ⟨rfl, rfl⟩
set_option maxRecDepth 8000 in
set_option maxHeartbeats 400000 in
theorem asked_ok {w : World} {base p : Nat} {pl : Pl} {D : Dk} (h : DiskAt w base p pl D) (n : Nat) (hn : n < D.size) :
    Calls Try.prog 38 #[.pointer (some ⟨p, 0, none⟩), .int .i64 (n : Int)] w fun e w' => e = .returned (.int .i64 0) ∧ w = w' := by
  have hc := h.c0
  have HT := Lib.hid (there_at h)
  have h1 : decide ((n : Int) < 0) = false := by simp
  have h2 : decide ((D.size : Int) ≤ (n : Int)) = false := by simp; omega
  have h2' : decide (D.size ≤ n) = false := by simp; omega
  clear h
  go_enter Try.func38, Try.ntmps38
  go_wp2_with (go_at_call 48; refine HT.out.mono ?_; rintro e w' ⟨rfl, rfl⟩)
  go_ret
  exact ⟨rfl, rfl⟩
set_option maxRecDepth 8000 in
set_option maxHeartbeats 400000 in
theorem asked_no {w : World} {base p : Nat} {pl : Pl} {D : Dk} (h : DiskAt w base p pl D) (n : Int) (hn : n < 0 ∨ (D.size : Int) ≤ n) :
    Calls Try.prog 38 #[.pointer (some ⟨p, 0, none⟩), .int .i64 n] w fun e w' => e = .returned (.int .i64 4) ∧ w = w' := by
  have hc := h.c0
  have HT := Lib.hid (there_at h)
  clear h
  by_cases h1 : n < 0
  · have h1' : decide (n < 0) = true := by simpa using h1
    go_enter Try.func38, Try.ntmps38
    go_wp2_with (go_at_call 48; refine HT.out.mono ?_; rintro e w' ⟨rfl, rfl⟩)
    go_ret
    exact ⟨rfl, rfl⟩
  · have h1' : decide (n < 0) = false := by simpa using h1
    have h2 : decide ((D.size : Int) ≤ n) = true := by simp; omega
    go_enter Try.func38, Try.ntmps38
    go_wp2_with (go_at_call 48; refine HT.out.mono ?_; rintro e w' ⟨rfl, rfl⟩)
    go_ret
    exact ⟨rfl, rfl⟩
set_option maxRecDepth 8000 in
set_option maxHeartbeats 400000 in
theorem new_no (w : World) (n : Int) (h : n < 1 ∨ 4096 < n) : Calls Try.prog 31 #[.int .i64 n] w fun e w' => e = .returned (.tuple #[.pointer none, .int .i64 2]) ∧ w = w' := by
  by_cases h1 : n < 1
  · have h1' : decide (n < 1) = true := by simpa using h1
    clear h
    go_enter Try.func31, Try.ntmps31
    go_wp2
    go_ret2
    exact ⟨rfl, rfl⟩
  · have h1' : decide (n < 1) = false := by simpa using h1
    have h2 : decide (4096 < n) = true := by simp; omega
    clear h
    go_enter Try.func31, Try.ntmps31
    go_wp2
    go_ret2
    exact ⟨rfl, rfl⟩
def newPl (m : Nat) : Pl := { m := m, wv := .slice none 0 0, f := none }
def newDk (n : Nat) : Dk := { size := n, lasts := fun _ => zs, waits := [], steps := 0, frm := 0, fails := fun _ => false }
set_option maxRecDepth 8000 in
theorem new_at (w : World) (n : Nat) (h1 : 1 ≤ n) (h2 : n ≤ 4096) : DiskAt ((w.alloc (.map #[] 0)).alloc (.cells (dcells (newPl w.heap.size) (newDk n)) 85)) w.heap.size (w.heap.size + 1) (newPl w.heap.size) (newDk n) where
  blk := heap_alloc2_new w _ _
  map := (SecMap.made w).keep (Below.heap_alloc _ _ _ (by simp))
  row := World.ownsRow_nil _ _ _ _
  set := fun _ => rfl
  bp := by omega
  bm := Nat.le_refl _
  bf := by simp [newPl]
  ne := by simp [newPl]
  size1 := h1
  size2 := h2
  lens := fun _ => zs_length
  wlens := by simp [newDk]
  frm := Nat.le_refl _
set_option maxRecDepth 8000 in
theorem zero77 : (Try.prog.info? 85).map (fun i => (i.zero, i.size)) = some (some (.agg #[.int .i64 0, .map none, .slice none 0 0, .int .i64 0, .int .i64 0, .map none]), 6) := by kernel_rfl
theorem z77 (w : World) : (zeroValue 85).run Try.prog w = .ok (.agg #[.int .i64 0, .map none, .slice none 0 0, .int .i64 0, .int .i64 0, .map none]) w := (zero_of_info zero77).1 w
set_option maxRecDepth 8000 in
set_option maxHeartbeats 400000 in
theorem new_yes (w : World) (n : Nat) (h1 : 1 ≤ n) (h2 : n ≤ 4096) : Calls Try.prog 31 #[.int .i64 (n : Int)] w fun e w' =>
    e = .returned (.tuple #[.pointer (some ⟨w.heap.size + 1, 0, none⟩), .int .i64 0]) ∧ (w.alloc (.map #[] 0)).alloc (.cells (dcells (newPl w.heap.size) (newDk n)) 85) = w' := by
  have h1' : decide ((n : Int) < 1) = false := by simp; omega
  have h2' : decide (4096 < (n : Int)) = false := by simp; omega
  have hmm := @run_makeMap Try.prog
  go_enter Try.func31, Try.ntmps31
  go_wp2
  go_ret2
  exact ⟨rfl, rfl⟩
set_option maxRecDepth 8000 in
set_option maxHeartbeats 400000 in
theorem waiting_any (p : Option Addr) (w : World) : Calls Try.prog 55 #[.pointer p] w fun e w' =>
    e = .returned (.func (.func 63) #[] #[.pointer (some ⟨w.heap.size, 0, none⟩)]) ∧ w.alloc (.cells #[.pointer p] 31) = w' := by
  go_enter Try.func55, Try.ntmps55
  go_wp2
  go_ret
  exact ⟨rfl, rfl⟩
end Go.Proofs.Ytokbghpddgfnpaa

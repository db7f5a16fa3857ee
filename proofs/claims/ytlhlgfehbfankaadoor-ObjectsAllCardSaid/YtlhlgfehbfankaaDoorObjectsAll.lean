/- The law ObjectsAll returns true for every input: all objects are gone over, as often as one likes, and may be left. No condition but that the listed variables read as the program's own text lays them; the card ties them to it. -/
import Derived.Test.YtlhlgfehbfankaaDoorOKn
import Derived.Test.YtlhlgfehbfankaaDoorOFr
import Derived.Test.YtlhlgfehbfankaaDoorRegIn
import Derived.Test.YtlhlgfehbfankaaDoorOSame
namespace Go.Proofs.YtlhlgfehbfankaaDoor.objectsAll
open Go.Shelf Go.ChangeShapes Go.WideShapes Go.ChangeAt Go.RowKit
attribute [local go_sem] Oper.semAt_some
attribute [local go_sem] fn_eql
theorem own_def {β : Type} {B D : Nat} (hD : D < B) : OwnFrom B (fun (_ : β) V => V.heap[D]? = some (.deferred (some []))) := fun _ X Y row hs hg hr =>
  (hg.block D (Array.getElem?_eq_some_iff.1 hs).1 (fun e => by have := (hr D e.symm).1; omega)).trans hs
set_option maxRecDepth 100000 in
set_option maxHeartbeats 1000000 in
theorem walk_big (w : World) (hT : Tab w) (A : Option Addr) (l : List Oj) (cap : Nat) (n : Int) (hl : 20 < l.length) :
    Calls Tryd.prog 8 #[.slice A l.length cap, .int .i64 n] w fun e w' => e = .returned (.bool true) ∧ Below w.heap.size w w' := by
  have HT := Lib.hid hT
  have HB := Lib.hid ((Below.refl w.heap.size w).alloc (Nat.le_refl _) (.cells #[.int .i64 n] 3))
  have d0 : decide ((20 : Int) < (l.length : Int)) = true := decide_eq_true (by omega)
  clear hl
  clear hT
  go_enter Tryd.func8, Tryd.ntmps8
  go_wp2_with (first
    | (go_at_call 11; refine (known_any _ (HT.out.below HB.out)).mono ?_; rintro e v9 ⟨rfl, b_⟩; have B9 := Lib.hid (HB.out.trans (b_.mono HB.out.size)); clear b_))
  go_ret
  exact ⟨rfl, B9.out⟩
set_option maxRecDepth 100000 in
set_option maxHeartbeats 1000000 in
theorem walk_no (w : World) (hT : Tab w) (A : Option Addr) (l : List Oj) (cap : Nat) (n : Int) (hr : RdO w A l) (hl : l.length ≤ 20) (h : ¬ rightP l) :
    Calls Tryd.prog 8 #[.slice A l.length cap, .int .i64 n] w fun e w' => e = .returned (.bool true) ∧ Below w.heap.size w w' := by
  have HT := Lib.hid hT
  have HB := Lib.hid ((Below.refl w.heap.size w).alloc (Nat.le_refl _) (.cells #[.int .i64 n] 3))
  have d0 : decide ((20 : Int) < (l.length : Int)) = false := decide_eq_false (by omega)
  have HR := Lib.hid (hr.alloc (.cells #[.int .i64 n] 3))
  have H := Lib.hid h
  clear h hr
  clear hT
  go_enter Tryd.func8, Tryd.ntmps8
  go_wp2_with (first
    | (go_at_call 15; refine (right_no HR.out H.out).mono ?_; rintro e w2 ⟨rfl, b2⟩; have HB2 := Lib.hid (HB.out.trans (b2.mono HB.out.size)); clear b2)
    | (go_at_call 11; refine (known_any _ (HT.out.below HB2.out)).mono ?_; rintro e v9 ⟨rfl, b_⟩; have B9 := Lib.hid (HB2.out.trans (b_.mono HB2.out.size)); clear b_))
  go_ret
  exact ⟨rfl, B9.out⟩
set_option maxRecDepth 100000 in
set_option maxHeartbeats 8000000 in
theorem walk_ok (w : World) (hT : Tab w) (A : Option Addr) (l : List Oj) (cap : Nat) (n : Int) (hr : RdO w A l) (hl : l.length ≤ 20) (h : rightP l) :
    Calls Tryd.prog 8 #[.slice A l.length cap, .int .i64 n] w fun e w' => e = .returned (.bool true) ∧ Below w.heap.size w w' := by
  have hFw : ∀ f, Fence.wide.fn f := fun _ => trivial
  have HT := Lib.hid hT
  have HR := Lib.hid (hr.alloc (.cells #[.int .i64 n] 3))
  have H := Lib.hid h
  have HN := Lib.hid (show 0 < l.length from h.1)
  have HN' := Lib.hid (show l.length ≤ 1000 by omega)
  have HB := Lib.hid ((Below.refl w.heap.size w).alloc (Nat.le_refl _) (.cells #[.int .i64 n] 3))
  have HG := Lib.hid (Blk.new w 3 #[.int .i64 n])
  have d0 : decide ((20 : Int) < (l.length : Int)) = false := decide_eq_false (by omega)
  clear hT hr h
  refine (callsIn_wide (n := 4)).1 (callsIn_of_wp_marks Tryd.func8 rfl trivial ?_ rfl)
  simp only [Tryd.ntmps8, List.size_toArray, List.length_cons, List.length_nil, Nat.reduceAdd, Nat.reduceSub, Array.replicate_succ, Array.replicate_zero, List.push_toArray, List.append_toArray, List.nil_append, List.cons_append]
  gi_wp2_with (first
    | (gi_at_call 15; refine ((callsIn_wide (n := 3)).2 (right_yes HR.out H.out)).mono ?_; rintro e w1 ⟨rfl, b1⟩; have HB1 := Lib.hid (HB.out.trans (b1.mono HB.out.size)); have HR1 := Lib.hid (HR.out.below b1); have HG1 := Lib.hid (HG.out.keep b1); clear b1)
    | (gi_at_call 14; refine ((callsIn_wide (n := 3)).2 (of_yes (HT.out.below HB1.out) HR1.out H.out)).mono ?_; rintro e w2 ⟨rfl, ⟨A', cap', ps, hs⟩, b2⟩; have HB2 := Lib.hid ((HB1.out.trans (b2.mono HB1.out.size))); have HG2 := Lib.hid (HG1.out.keep b2); have HS2 := Lib.hid hs; clear b2 hs)
    | (gi_at_call 29; refine ((callsIn_wide (n := 3)).2 (all_any _ (.inr ⟨_, rfl⟩) _)).mono ?_; rintro e w3 ⟨rfl, rfl⟩))
  have HSL := Lib.hid (fun (k : Nat) (hk : stHas w1.heap.size A' ps k) => (HS2.out.lt k hk).2)
  have HB4 := Lib.hid ((HB2.out.alloc HB2.out.size (.cells #[pv w1.heap.size] 37)).alloc (by have := HB2.out.size; simp; omega) (.cells #[.int .i64 0] 3))
  have HS4 := Lib.hid ((HS2.out.alloc (.cells #[pv w1.heap.size] 37)).alloc (.cells #[.int .i64 0] 3))
  have HG4 := Lib.hid ((HG2.out.alloc (.cells #[pv w1.heap.size] 37)).alloc (.cells #[.int .i64 0] 3))
  have HBX := Lib.hid ((Blk.new w2 37 #[pv w1.heap.size]).alloc (.cells #[.int .i64 0] 3))
  have HM4 := Lib.hid (show Blk ((w2.alloc (.cells #[pv w1.heap.size] 37)).alloc (.cells #[.int .i64 0] 3)) (w2.heap.size + 1) 3 #[.int .i64 0] from by have := Blk.new (w2.alloc (.cells #[pv w1.heap.size] 37)) 3 #[.int .i64 0]; simpa using this)
  have SZ4 := Lib.hid (show ((w2.alloc (.cells #[pv w1.heap.size] 37)).alloc (.cells #[.int .i64 0] 3)).heap.size = w2.heap.size + 2 by simp)
  have HGL := Lib.hid (show w.heap.size < w2.heap.size by have := HG2.out.lt; omega)
  generalize ((w2.alloc (.cells #[pv w1.heap.size] 37)).alloc (.cells #[.int .i64 0] 3)) = W4 at HB4 HS4 HG4 HBX HM4 SZ4 ⊢
  clear HS2 HG2 HB1 HG1 HR1
  obtain ⟨mx, hmx⟩ : ∃ mx, (if (1 : Int) < n then n else 1) = mx := ⟨_, rfl⟩
  refine wpIn_rangeFunc_ownH (α := Ie l) (Kp := KS w1.heap.size A' ps) (w0 := W4) rfl (by omega) (gf := 43) (a := { tmps := #[.slice A l.length cap, .int .i64 n, undef, .pointer (some ⟨w.heap.size, 0, none⟩), .bool false, pv w1.heap.size, .int .i64 0, .func (.func 43) #[] #[.pointer (some ⟨w2.heap.size, 0, none⟩)], .pointer (some ⟨w2.heap.size + 1, 0, none⟩), undef, .slice A l.length cap, .int .i64 (l.length : Int), .bool false, .bool false, .slice A l.length cap, .bool true, .bool false, .bool false, undef, .tuple #[pv w1.heap.size, .int .i64 0], .slice A l.length cap, .tuple #[pv w1.heap.size, .int .i64 0], pv w1.heap.size, .int .i64 0, pv w1.heap.size, .func (.func 43) #[] #[.pointer (some ⟨w2.heap.size, 0, none⟩)], .int .i64 0, .bool false, .bool false, .func (.func 43) #[] #[.pointer (some ⟨w2.heap.size, 0, none⟩)], .bool false, .bool false, .func (.func 43) #[] #[.pointer (some ⟨w2.heap.size, 0, none⟩)], undef, undef, undef, undef, undef, undef, undef, undef, undef, undef, undef, undef, undef, undef, undef, undef, undef, undef, undef, undef, undef, undef, undef, undef, undef, undef, undef], defers := [] }) rfl trivial (enters_of Tryd.func43 (by kernel_rfl) rfl)
    (all1_in 3 (by omega) (w2.heap.size) HS4.out HN.out HN'.out ((HBX.out.cell 0).trans rfl)) (fun h k => h.trans k) (fun W l o o' => KS.put HS4.out l o o') (Below.refl _ _) (fun _ => rfl)
    (fun pre W => Blk W (w2.heap.size + 1) 3 #[.int .i64 (pre.length : Int)] ∧ Blk W w.heap.size 3 #[.int .i64 n] ∧ Below w.heap.size w W ∧ W4.heap.size ≤ W.heap.size ∧ StAt W w1.heap.size w1.heap.size A' cap' ps l ∧ Blk W (w2.heap.size) 37 #[pv w1.heap.size] ∧ (pre.length = 0 ∨ (pre.length : Int) < n))
    (fun (c : Code) (xs : List (Ie l)) (W : World) => c = .exit 0 ∧ Blk W (w2.heap.size + 1) 3 #[.int .i64 (xs.length : Int)] ∧ Blk W w.heap.size 3 #[.int .i64 n] ∧ Below w.heap.size w W ∧ W4.heap.size ≤ W.heap.size ∧ StAt W w1.heap.size w1.heap.size A' cap' ps l ∧ Blk W (w2.heap.size) 37 #[pv w1.heap.size] ∧ (1 ≤ xs.length ∧ n ≤ xs.length ∧ (xs.length = 1 ∨ (xs.length : Int) - 1 < n)))
    ((own_blk _ _ _ (fun pre : List (Ie l) => #[.int .i64 (pre.length : Int)])).and ((own_blk _ _ _ (fun _ => _)).and ((ownFrom_below (Nat.le_refl _) HB4.out.size).and ((own_size _ _).and ((own_st HSL.out (by have := SZ4.out; omega)).and ((own_blk _ _ _ (fun _ => _)).and (fun _ _ _ _ hs _ _ => hs)))))))
    (fun c => by
      intro s X Y row hs hg hr
      obtain ⟨h0, h1, h2, h3, h4, h5, h6, h7⟩ := hs
      exact ⟨h0, own_blk _ _ _ (fun pre : List (Ie l) => #[.int .i64 (pre.length : Int)]) s X Y row h1 hg hr, own_blk _ _ _ (fun _ => _) s X Y row h2 hg hr, ownFrom_below (Nat.le_refl _) HB4.out.size s X Y row h3 hg hr, Nat.le_trans h4 hg.size, own_st HSL.out (by have := SZ4.out; omega) s X Y row h5 hg hr, own_blk _ _ _ (fun _ => _) s X Y row h6 hg hr, h7⟩)
    ⟨HM4.out, HG4.out, HB4.out, Nat.le_refl _, HS4.out, HBX.out, .inl rfl⟩
    (fun x a' W => a' = { tmps := #[.slice A l.length cap, .int .i64 n, undef, .pointer (some ⟨w.heap.size, 0, none⟩), .bool false, pv w1.heap.size, .int .i64 0, .func (.func 43) #[] #[.pointer (some ⟨w2.heap.size, 0, none⟩)], .pointer (some ⟨w2.heap.size + 1, 0, none⟩), undef, .slice A l.length cap, .int .i64 (l.length : Int), .bool false, .bool false, .slice A l.length cap, .bool true, .bool false, .bool false, undef, .tuple #[pv w1.heap.size, .int .i64 0], .slice A l.length cap, .tuple #[pv w1.heap.size, .int .i64 0], pv w1.heap.size, .int .i64 0, pv w1.heap.size, .func (.func 43) #[] #[.pointer (some ⟨w2.heap.size, 0, none⟩)], .int .i64 0, .bool false, .bool false, .func (.func 43) #[] #[.pointer (some ⟨w2.heap.size, 0, none⟩)], .bool false, .bool false, .func (.func 43) #[] #[.pointer (some ⟨w2.heap.size, 0, none⟩)], .int .i64 (x.i : Int), x.o.val, undef, undef, undef, undef, undef, undef, undef, undef, undef, undef, undef, undef, undef, undef, undef, undef, undef, undef, undef, undef, undef, undef, undef, undef, undef], defers := [] })
    (fun _ _ _ _ _ _ hs _ _ => hs)
    ?assign ?body ?done ?stop
  case assign =>
    intro l' pre x W K hi hK
    have hk := hK { tmps := #[.slice A l.length cap, .int .i64 n, undef, .pointer (some ⟨w.heap.size, 0, none⟩), .bool false, pv w1.heap.size, .int .i64 0, .func (.func 43) #[] #[.pointer (some ⟨w2.heap.size, 0, none⟩)], .pointer (some ⟨w2.heap.size + 1, 0, none⟩), undef, .slice A l.length cap, .int .i64 (l.length : Int), .bool false, .bool false, .slice A l.length cap, .bool true, .bool false, .bool false, undef, .tuple #[pv w1.heap.size, .int .i64 0], .slice A l.length cap, .tuple #[pv w1.heap.size, .int .i64 0], pv w1.heap.size, .int .i64 0, pv w1.heap.size, .func (.func 43) #[] #[.pointer (some ⟨w2.heap.size, 0, none⟩)], .int .i64 0, .bool false, .bool false, .func (.func 43) #[] #[.pointer (some ⟨w2.heap.size, 0, none⟩)], .bool false, .bool false, .func (.func 43) #[] #[.pointer (some ⟨w2.heap.size, 0, none⟩)], .int .i64 (x.i : Int), x.o.val, undef, undef, undef, undef, undef, undef, undef, undef, undef, undef, undef, undef, undef, undef, undef, undef, undef, undef, undef, undef, undef, undef, undef, undef, undef], defers := [] } W (KeepsFrom.refl _ _) (fun _ _ => rfl) hi rfl
    have HKK := Lib.hid hk
    clear hK hk hi
    gi_wp2
    exact HKK.out
  case body =>
    rintro l' pre x a' W hl' _ ⟨i1, i2, i3, i4, i5, i6, i7⟩ rfl hlen
    obtain ⟨k, hk⟩ : ∃ k, k = pre.length := ⟨_, rfl⟩
    rw [← hk] at i1 hlen i7
    have c1 : W.cell? ⟨w2.heap.size + 1, 0, none⟩ = some (.int .i64 (k : Int)) := (i1.cell 0).trans rfl
    have f1 : W.frozen? ⟨w2.heap.size + 1, 0, none⟩ = false := i1.frozen 0
    have c2 : W.cell? ⟨w.heap.size, 0, none⟩ = some (.int .i64 n) := (i2.cell 0).trans rfl
    have hne : w2.heap.size + 1 ≠ w.heap.size := by have := HGL.out; omega
    have hne' : w.heap.size ≠ w2.heap.size + 1 := by omega
    have HK1 : Hid (((k : Int) + 1) = (((pre ++ [x]).length : Nat) : Int)) := by show ((k : Int) + 1) = _; rw [List.length_append, ← hk]; simp
    have HKL : Hid ((pre ++ [x]).length = k + 1) := by show (pre ++ [x]).length = k + 1; rw [List.length_append, ← hk]; rfl
    have KF := Lib.hid (show KeepsFrom W4.heap.size W (W.setCell ⟨w2.heap.size + 1, 0, none⟩ (.int .i64 ((k : Int) + 1))) from (KeepsOthers.setCell _ _ _).from _)
    have KK := Lib.hid (show KS w1.heap.size A' ps W (W.setCell ⟨w2.heap.size + 1, 0, none⟩ (.int .i64 ((k : Int) + 1))) from fun q hq => Below.heap_setCell _ _ _ _ (by have := HSL.out q hq; simp; omega))
    have J1 := Lib.hid (show Blk (W.setCell ⟨w2.heap.size + 1, 0, none⟩ (.int .i64 ((k : Int) + 1))) (w2.heap.size + 1) 3 #[.int .i64 (((pre ++ [x]).length : Nat) : Int)] by rw [← HK1.out]; exact i1.set_ 0 _)
    have J2 := Lib.hid (show Blk (W.setCell ⟨w2.heap.size + 1, 0, none⟩ (.int .i64 ((k : Int) + 1))) w.heap.size 3 #[.int .i64 n] from i2.far hne' _)
    have J3 := Lib.hid (show Below w.heap.size w (W.setCell ⟨w2.heap.size + 1, 0, none⟩ (.int .i64 ((k : Int) + 1))) from i3.setCell (p := ⟨w2.heap.size + 1, 0, none⟩) (by have := HGL.out; simp; omega) _)
    have J4 := Lib.hid (show W4.heap.size ≤ (W.setCell ⟨w2.heap.size + 1, 0, none⟩ (.int .i64 ((k : Int) + 1))).heap.size by simpa [World.setCell] using i4)
    have J5 := Lib.hid (show StAt (W.setCell ⟨w2.heap.size + 1, 0, none⟩ (.int .i64 ((k : Int) + 1))) w1.heap.size w1.heap.size A' cap' ps l from i5.keep fun q hq => Below.heap_setCell _ _ _ _ (by have := HSL.out q hq; simp; omega))
    have J6 := Lib.hid (show Blk (W.setCell ⟨w2.heap.size + 1, 0, none⟩ (.int .i64 ((k : Int) + 1))) (w2.heap.size) 37 #[pv w1.heap.size] from i6.far (by simp) _)
    have I7 := Lib.hid i7
    clear i1 i2 i3 i4 i5 i6 hk i7
    by_cases hle : n ≤ (k : Int) + 1
    · have dd : decide (n ≤ (k : Int) + 1) = true := decide_eq_true hle
      have HLE := Lib.hid hle
      clear hle
      gi_wp2
      exact ⟨KF.out, rfl, J1.out, J2.out, J3.out, J4.out, J5.out, J6.out, by rw [HKL.out]; omega, by rw [HKL.out]; have := HLE.out; omega, by rw [HKL.out]; have := I7.out; omega⟩
    · have dd : decide (n ≤ (k : Int) + 1) = false := decide_eq_false hle
      have HLE := Lib.hid hle
      clear hle
      gi_wp2
      exact ⟨KF.out, KK.out, J1.out, J2.out, J3.out, J4.out, J5.out, J6.out, .inr (by rw [HKL.out]; have := HLE.out; omega)⟩
  case done =>
    rintro D xs W hD hS ⟨i1, i2, i3, i4, i5, i6, i7⟩ hK
    rw [hS.1] at i1 i7
    have hmin : (if mx < (l.length : Int) then mx else (l.length : Int)) = (l.length : Int) := by have := HN.out; rw [← hmx]; split <;> split <;> omega
    have SZW := Lib.hid (show w2.heap.size + 2 ≤ W.heap.size by have := SZ4.out; omega)
    have HD := Lib.hid (show w2.heap.size + 2 ≤ D by have := SZ4.out; omega)
    have HDW := Lib.hid (show D < W.heap.size from (Array.getElem?_eq_some_iff.1 hK).1)
    have I1 := Lib.hid (i1.alloc (.cells #[.int .i64 0] 3))
    have I2 := Lib.hid (i2.alloc (.cells #[.int .i64 0] 3))
    have I3 := Lib.hid (i3.alloc i3.size (.cells #[.int .i64 0] 3))
    have I5 := Lib.hid (i5.alloc (.cells #[.int .i64 0] 3))
    have I6 := Lib.hid (i6.alloc (.cells #[.int .i64 0] 3))
    have I9 := Lib.hid (Blk.new W 3 #[.int .i64 0])
    have HK := Lib.hid (show (W.alloc (.cells #[.int .i64 0] 3)).heap[D]? = some (.deferred (some [])) from (Below.heap_alloc W _ D (Array.getElem?_eq_some_iff.1 hK).1).trans hK)
    clear i1 i2 i3 i4 i5 i6 hK
    gi_wp2
    have SZ6 := Lib.hid (show (W.alloc (.cells #[.int .i64 0] 3)).heap.size = W.heap.size + 1 by simp)
    generalize hW6 : W.alloc (.cells #[.int .i64 0] 3) = W6 at I1 I2 I3 I5 I6 I9 HK SZ6 ⊢
    clear hW6
    have HSLW := Lib.hid (fun (k : Nat) (hk : stHas w1.heap.size A' ps k) => Nat.lt_of_lt_of_le (HSL.out k hk) (show w2.heap.size ≤ W.heap.size by have := SZW.out; omega))
    refine wpIn_rangeFunc_ownH (α := Ie l) (Kp := KS w1.heap.size A' ps) (w0 := W6) rfl (by omega) (gf := 43) (a := { tmps := #[.slice A l.length cap, .int .i64 n, undef, .pointer (some ⟨w.heap.size, 0, none⟩), .bool false, pv w1.heap.size, .int .i64 0, .func (.func 43) #[] #[.pointer (some ⟨w2.heap.size, 0, none⟩)], .pointer (some ⟨w2.heap.size + 1, 0, none⟩), .pointer (some ⟨W.heap.size, 0, none⟩), .slice A l.length cap, .int .i64 (l.length : Int), .bool false, .bool false, .slice A l.length cap, .bool true, .bool false, .bool false, undef, .tuple #[pv w1.heap.size, .int .i64 0], .slice A l.length cap, .tuple #[pv w1.heap.size, .int .i64 0], pv w1.heap.size, .int .i64 0, pv w1.heap.size, .func (.func 43) #[] #[.pointer (some ⟨w2.heap.size, 0, none⟩)], .int .i64 0, .bool false, .bool false, .func (.func 43) #[] #[.pointer (some ⟨w2.heap.size, 0, none⟩)], .bool false, .bool false, .func (.func 43) #[] #[.pointer (some ⟨w2.heap.size, 0, none⟩)], undef, undef, undef, undef, undef, undef, undef, .func (.func 43) #[] #[.pointer (some ⟨w2.heap.size, 0, none⟩)], undef, undef, undef, undef, undef, undef, undef, undef, undef, undef, undef, undef, undef, undef, undef, undef, undef, undef, undef], defers := [{ target := .collected D, args := #[] }] }) rfl trivial (enters_of Tryd.func43 (by kernel_rfl) rfl)
      (all1_in 3 (by omega) (w2.heap.size) I5.out HN.out HN'.out ((I6.out.cell 0).trans rfl)) (fun h k => h.trans k) (fun W l o o' => KS.put I5.out l o o') (Below.refl _ _) (fun _ => rfl)
      (fun pre V => Blk V (W.heap.size) 3 #[.int .i64 (pre.length : Int)] ∧ Blk V (w2.heap.size + 1) 3 #[.int .i64 (l.length : Int)] ∧ Blk V w.heap.size 3 #[.int .i64 n] ∧ Below w.heap.size w V ∧ W6.heap.size ≤ V.heap.size ∧ StAt V w1.heap.size w1.heap.size A' cap' ps l ∧ V.heap[D]? = some (.deferred (some [])))
      (fun _ _ _ => False)
      ((own_blk _ _ _ (fun pre : List (Ie l) => #[.int .i64 (pre.length : Int)])).and ((own_blk _ _ _ (fun _ => _)).and ((own_blk _ _ _ (fun _ => _)).and ((ownFrom_below (Nat.le_refl _) I3.out.size).and ((own_size _ _).and ((own_st HSLW.out (by have := SZ6.out; omega)).and (own_def (by have := SZ6.out; have := HDW.out; omega))))))))
      (fun _ _ _ _ _ hs _ _ => hs.elim)
      ⟨I9.out, I1.out, I2.out, I3.out, Nat.le_refl _, I5.out, HK.out⟩
      (fun x a' V => a' = { tmps := #[.slice A l.length cap, .int .i64 n, undef, .pointer (some ⟨w.heap.size, 0, none⟩), .bool false, pv w1.heap.size, .int .i64 0, .func (.func 43) #[] #[.pointer (some ⟨w2.heap.size, 0, none⟩)], .pointer (some ⟨w2.heap.size + 1, 0, none⟩), .pointer (some ⟨W.heap.size, 0, none⟩), .slice A l.length cap, .int .i64 (l.length : Int), .bool false, .bool false, .slice A l.length cap, .bool true, .bool false, .bool false, undef, .tuple #[pv w1.heap.size, .int .i64 0], .slice A l.length cap, .tuple #[pv w1.heap.size, .int .i64 0], pv w1.heap.size, .int .i64 0, pv w1.heap.size, .func (.func 43) #[] #[.pointer (some ⟨w2.heap.size, 0, none⟩)], .int .i64 0, .bool false, .bool false, .func (.func 43) #[] #[.pointer (some ⟨w2.heap.size, 0, none⟩)], .bool false, .bool false, .func (.func 43) #[] #[.pointer (some ⟨w2.heap.size, 0, none⟩)], undef, undef, undef, undef, undef, undef, undef, .func (.func 43) #[] #[.pointer (some ⟨w2.heap.size, 0, none⟩)], .int .i64 (x.i : Int), x.o.val, undef, undef, undef, undef, undef, undef, undef, undef, undef, undef, undef, undef, undef, undef, undef, undef, undef], defers := [] })
      (fun _ _ _ _ _ _ hs _ _ => hs)
      ?assign2 ?body2 ?done2 ?stop2
    case assign2 =>
      intro l' pre x V K hi hK
      have hk := hK { tmps := #[.slice A l.length cap, .int .i64 n, undef, .pointer (some ⟨w.heap.size, 0, none⟩), .bool false, pv w1.heap.size, .int .i64 0, .func (.func 43) #[] #[.pointer (some ⟨w2.heap.size, 0, none⟩)], .pointer (some ⟨w2.heap.size + 1, 0, none⟩), .pointer (some ⟨W.heap.size, 0, none⟩), .slice A l.length cap, .int .i64 (l.length : Int), .bool false, .bool false, .slice A l.length cap, .bool true, .bool false, .bool false, undef, .tuple #[pv w1.heap.size, .int .i64 0], .slice A l.length cap, .tuple #[pv w1.heap.size, .int .i64 0], pv w1.heap.size, .int .i64 0, pv w1.heap.size, .func (.func 43) #[] #[.pointer (some ⟨w2.heap.size, 0, none⟩)], .int .i64 0, .bool false, .bool false, .func (.func 43) #[] #[.pointer (some ⟨w2.heap.size, 0, none⟩)], .bool false, .bool false, .func (.func 43) #[] #[.pointer (some ⟨w2.heap.size, 0, none⟩)], undef, undef, undef, undef, undef, undef, undef, .func (.func 43) #[] #[.pointer (some ⟨w2.heap.size, 0, none⟩)], .int .i64 (x.i : Int), x.o.val, undef, undef, undef, undef, undef, undef, undef, undef, undef, undef, undef, undef, undef, undef, undef, undef, undef], defers := [] } V (KeepsFrom.refl _ _) (fun _ _ => rfl) hi rfl
      have HKK := Lib.hid hk
      clear hK hk hi
      gi_wp2
      exact HKK.out
    case stop2 =>
      rintro D2 c pre V _ _ hf _
      exact hf.elim
    case body2 =>
      rintro l' pre x a' V hl' _ ⟨i1, i2, i3, i4, i5, i6, i7⟩ rfl hlen
      obtain ⟨q, hq⟩ : ∃ q, q = pre.length := ⟨_, rfl⟩
      rw [← hq] at i1 hlen
      have c1 : V.cell? ⟨W.heap.size, 0, none⟩ = some (.int .i64 (q : Int)) := (i1.cell 0).trans rfl
      have f1 : V.frozen? ⟨W.heap.size, 0, none⟩ = false := i1.frozen 0
      have HQ1 : Hid (((q : Int) + 1) = (((pre ++ [x]).length : Nat) : Int)) := by show ((q : Int) + 1) = _; rw [List.length_append, ← hq]; simp
      have KF := Lib.hid (show KeepsFrom W6.heap.size V (V.setCell ⟨W.heap.size, 0, none⟩ (.int .i64 ((q : Int) + 1))) from (KeepsOthers.setCell _ _ _).from _)
      have KK := Lib.hid (show KS w1.heap.size A' ps V (V.setCell ⟨W.heap.size, 0, none⟩ (.int .i64 ((q : Int) + 1))) from fun z hz => Below.heap_setCell _ _ _ _ (by have := HSLW.out z hz; simp; omega))
      have J1 := Lib.hid (show Blk (V.setCell ⟨W.heap.size, 0, none⟩ (.int .i64 ((q : Int) + 1))) (W.heap.size) 3 #[.int .i64 (((pre ++ [x]).length : Nat) : Int)] by rw [← HQ1.out]; exact i1.set_ 0 _)
      have J2 := Lib.hid (show Blk (V.setCell ⟨W.heap.size, 0, none⟩ (.int .i64 ((q : Int) + 1))) (w2.heap.size + 1) 3 #[.int .i64 (l.length : Int)] from i2.far (by have := SZW.out; simp; omega) _)
      have J3 := Lib.hid (show Blk (V.setCell ⟨W.heap.size, 0, none⟩ (.int .i64 ((q : Int) + 1))) w.heap.size 3 #[.int .i64 n] from i3.far (by have := SZW.out; have := HGL.out; simp; omega) _)
      have J4 := Lib.hid (show Below w.heap.size w (V.setCell ⟨W.heap.size, 0, none⟩ (.int .i64 ((q : Int) + 1))) from i4.setCell (p := ⟨W.heap.size, 0, none⟩) (by have := SZW.out; have := HGL.out; simp; omega) _)
      have J5 := Lib.hid (show W6.heap.size ≤ (V.setCell ⟨W.heap.size, 0, none⟩ (.int .i64 ((q : Int) + 1))).heap.size by simpa [World.setCell] using i5)
      have J6 := Lib.hid (show StAt (V.setCell ⟨W.heap.size, 0, none⟩ (.int .i64 ((q : Int) + 1))) w1.heap.size w1.heap.size A' cap' ps l from i6.keep fun z hz => Below.heap_setCell _ _ _ _ (by have := HSLW.out z hz; simp; omega))
      have J7 := Lib.hid (show (V.setCell ⟨W.heap.size, 0, none⟩ (.int .i64 ((q : Int) + 1))).heap[D]? = some (.deferred (some [])) from (Below.heap_setCell _ _ _ _ (by have := HDW.out; simp; omega)).trans i7)
      clear i1 i2 i3 i4 i5 i6 i7 hq
      gi_wp2
      exact ⟨KF.out, KK.out, J1.out, J2.out, J3.out, J4.out, J5.out, J6.out, J7.out⟩
    case done2 =>
      rintro D2 ys V hD2 hS2 ⟨i1, i2, i3, i4, i5, i6, i7⟩ hK2
      rw [hS2.1] at i1
      have c1 : V.cell? ⟨W.heap.size, 0, none⟩ = some (.int .i64 (l.length : Int)) := (i1.cell 0).trans rfl
      have c2 : V.cell? ⟨w2.heap.size + 1, 0, none⟩ = some (.int .i64 (l.length : Int)) := (i2.cell 0).trans rfl
      have c3 : V.cell? ⟨w.heap.size, 0, none⟩ = some (.int .i64 n) := (i3.cell 0).trans rfl
      have HI4 := Lib.hid i4
      have HI7 := Lib.hid i7
      have HK2 := Lib.hid hK2
      have HD2 := Lib.hid (show w.heap.size + 3 ≤ D2 ∧ D < D2 by have := SZ6.out; have := SZW.out; have := HGL.out; have := HDW.out; omega)
      have HDD := Lib.hid (show D < V.heap.size ∧ D2 < V.heap.size from ⟨(Array.getElem?_eq_some_iff.1 i7).1, (Array.getElem?_eq_some_iff.1 hK2).1⟩)
      clear i1 i2 i3 i4 i5 i6 i7 hK2 hD2
      gi_wp2_with (gi_at_call 11; refine ((callsIn_wide (n := 3)).2 (known_any _ (HT.out.below HI4.out))).mono ?_; rintro e w9 ⟨rfl, b9⟩; have B9 := Lib.hid (HI4.out.trans (b9.mono HI4.out.size)); have HK9 := Lib.hid ((b9.block D HDD.out.1).trans HI7.out); have HK92 := Lib.hid ((b9.block D2 HDD.out.2).trans HK2.out); clear b9)
      have hE := (World.putObj_heap_other (o := .deferred none) (show D ≠ D2 by have := HD2.out; omega)).trans HK9.out
      refine ⟨by simp, .inl ⟨_, _, rfl, run_takeDeferred HK92.out, ⟨by simp, .inl ⟨_, _, rfl, run_takeDeferred hE, ?_⟩⟩⟩⟩
      have q1 := belowK_b (n₀ := w.heap.size) (w := w) (Nat.le_refl _) w9 D2 (.deferred (some [])) (.deferred none) (by have := HD2.out; omega) HK92.out rfl rfl
      have q2 := belowK_b (n₀ := w.heap.size) (w := w) (Nat.le_refl _) _ D (.deferred (some [])) (.deferred none) (by have := HD.out; have := HGL.out; omega) hE rfl rfl
      exact ⟨_, results_tmp rfl _ _ _, rfl, (B9.out.trans q1).trans q2⟩
  case stop =>
    rintro D c xs W hD ⟨k, hkl, hk⟩ ⟨rfl, i1, i2, i3, i4, i5, i6, i7⟩ hK
    rw [hk.1] at i1 i7
    have hmin : (if mx < (l.length : Int) then mx else (l.length : Int)) = (k : Int) := by rw [← hmx]; split <;> split <;> omega
    have SZW := Lib.hid (show w2.heap.size + 2 ≤ W.heap.size by have := SZ4.out; omega)
    have HD := Lib.hid (show w2.heap.size + 2 ≤ D by have := SZ4.out; omega)
    have HDW := Lib.hid (show D < W.heap.size from (Array.getElem?_eq_some_iff.1 hK).1)
    have I1 := Lib.hid (i1.alloc (.cells #[.int .i64 0] 3))
    have I2 := Lib.hid (i2.alloc (.cells #[.int .i64 0] 3))
    have I3 := Lib.hid (i3.alloc i3.size (.cells #[.int .i64 0] 3))
    have I5 := Lib.hid (i5.alloc (.cells #[.int .i64 0] 3))
    have I6 := Lib.hid (i6.alloc (.cells #[.int .i64 0] 3))
    have I9 := Lib.hid (Blk.new W 3 #[.int .i64 0])
    have HK := Lib.hid (show (W.alloc (.cells #[.int .i64 0] 3)).heap[D]? = some (.deferred (some [])) from (Below.heap_alloc W _ D (Array.getElem?_eq_some_iff.1 hK).1).trans hK)
    clear i1 i2 i3 i4 i5 i6 hK
    gi_wp2
    have SZ6 := Lib.hid (show (W.alloc (.cells #[.int .i64 0] 3)).heap.size = W.heap.size + 1 by simp)
    generalize hW6 : W.alloc (.cells #[.int .i64 0] 3) = W6 at I1 I2 I3 I5 I6 I9 HK SZ6 ⊢
    clear hW6
    have HSLW := Lib.hid (fun (k : Nat) (hk : stHas w1.heap.size A' ps k) => Nat.lt_of_lt_of_le (HSL.out k hk) (show w2.heap.size ≤ W.heap.size by have := SZW.out; omega))
    refine wpIn_rangeFunc_ownH (α := Ie l) (Kp := KS w1.heap.size A' ps) (w0 := W6) rfl (by omega) (gf := 43) (a := { tmps := #[.slice A l.length cap, .int .i64 n, undef, .pointer (some ⟨w.heap.size, 0, none⟩), .bool false, pv w1.heap.size, .int .i64 0, .func (.func 43) #[] #[.pointer (some ⟨w2.heap.size, 0, none⟩)], .pointer (some ⟨w2.heap.size + 1, 0, none⟩), .pointer (some ⟨W.heap.size, 0, none⟩), .slice A l.length cap, .int .i64 (l.length : Int), .bool false, .bool false, .slice A l.length cap, .bool true, .bool false, .bool false, undef, .tuple #[pv w1.heap.size, .int .i64 0], .slice A l.length cap, .tuple #[pv w1.heap.size, .int .i64 0], pv w1.heap.size, .int .i64 0, pv w1.heap.size, .func (.func 43) #[] #[.pointer (some ⟨w2.heap.size, 0, none⟩)], .int .i64 0, .bool false, .bool false, .func (.func 43) #[] #[.pointer (some ⟨w2.heap.size, 0, none⟩)], .bool false, .bool false, .func (.func 43) #[] #[.pointer (some ⟨w2.heap.size, 0, none⟩)], undef, undef, undef, undef, undef, undef, undef, .func (.func 43) #[] #[.pointer (some ⟨w2.heap.size, 0, none⟩)], undef, undef, undef, undef, undef, undef, undef, undef, undef, undef, undef, undef, undef, undef, undef, undef, undef, undef, undef], defers := [{ target := .collected D, args := #[] }] }) rfl trivial (enters_of Tryd.func43 (by kernel_rfl) rfl)
      (all1_in 3 (by omega) (w2.heap.size) I5.out HN.out HN'.out ((I6.out.cell 0).trans rfl)) (fun h k => h.trans k) (fun W l o o' => KS.put I5.out l o o') (Below.refl _ _) (fun _ => rfl)
      (fun pre V => Blk V (W.heap.size) 3 #[.int .i64 (pre.length : Int)] ∧ Blk V (w2.heap.size + 1) 3 #[.int .i64 (k : Int)] ∧ Blk V w.heap.size 3 #[.int .i64 n] ∧ Below w.heap.size w V ∧ W6.heap.size ≤ V.heap.size ∧ StAt V w1.heap.size w1.heap.size A' cap' ps l ∧ V.heap[D]? = some (.deferred (some [])))
      (fun _ _ _ => False)
      ((own_blk _ _ _ (fun pre : List (Ie l) => #[.int .i64 (pre.length : Int)])).and ((own_blk _ _ _ (fun _ => _)).and ((own_blk _ _ _ (fun _ => _)).and ((ownFrom_below (Nat.le_refl _) I3.out.size).and ((own_size _ _).and ((own_st HSLW.out (by have := SZ6.out; omega)).and (own_def (by have := SZ6.out; have := HDW.out; omega))))))))
      (fun _ _ _ _ _ hs _ _ => hs.elim)
      ⟨I9.out, I1.out, I2.out, I3.out, Nat.le_refl _, I5.out, HK.out⟩
      (fun x a' V => a' = { tmps := #[.slice A l.length cap, .int .i64 n, undef, .pointer (some ⟨w.heap.size, 0, none⟩), .bool false, pv w1.heap.size, .int .i64 0, .func (.func 43) #[] #[.pointer (some ⟨w2.heap.size, 0, none⟩)], .pointer (some ⟨w2.heap.size + 1, 0, none⟩), .pointer (some ⟨W.heap.size, 0, none⟩), .slice A l.length cap, .int .i64 (l.length : Int), .bool false, .bool false, .slice A l.length cap, .bool true, .bool false, .bool false, undef, .tuple #[pv w1.heap.size, .int .i64 0], .slice A l.length cap, .tuple #[pv w1.heap.size, .int .i64 0], pv w1.heap.size, .int .i64 0, pv w1.heap.size, .func (.func 43) #[] #[.pointer (some ⟨w2.heap.size, 0, none⟩)], .int .i64 0, .bool false, .bool false, .func (.func 43) #[] #[.pointer (some ⟨w2.heap.size, 0, none⟩)], .bool false, .bool false, .func (.func 43) #[] #[.pointer (some ⟨w2.heap.size, 0, none⟩)], undef, undef, undef, undef, undef, undef, undef, .func (.func 43) #[] #[.pointer (some ⟨w2.heap.size, 0, none⟩)], .int .i64 (x.i : Int), x.o.val, undef, undef, undef, undef, undef, undef, undef, undef, undef, undef, undef, undef, undef, undef, undef, undef, undef], defers := [] })
      (fun _ _ _ _ _ _ hs _ _ => hs)
      ?assign2 ?body2 ?done2 ?stop2
    case assign2 =>
      intro l' pre x V K hi hK
      have hk := hK { tmps := #[.slice A l.length cap, .int .i64 n, undef, .pointer (some ⟨w.heap.size, 0, none⟩), .bool false, pv w1.heap.size, .int .i64 0, .func (.func 43) #[] #[.pointer (some ⟨w2.heap.size, 0, none⟩)], .pointer (some ⟨w2.heap.size + 1, 0, none⟩), .pointer (some ⟨W.heap.size, 0, none⟩), .slice A l.length cap, .int .i64 (l.length : Int), .bool false, .bool false, .slice A l.length cap, .bool true, .bool false, .bool false, undef, .tuple #[pv w1.heap.size, .int .i64 0], .slice A l.length cap, .tuple #[pv w1.heap.size, .int .i64 0], pv w1.heap.size, .int .i64 0, pv w1.heap.size, .func (.func 43) #[] #[.pointer (some ⟨w2.heap.size, 0, none⟩)], .int .i64 0, .bool false, .bool false, .func (.func 43) #[] #[.pointer (some ⟨w2.heap.size, 0, none⟩)], .bool false, .bool false, .func (.func 43) #[] #[.pointer (some ⟨w2.heap.size, 0, none⟩)], undef, undef, undef, undef, undef, undef, undef, .func (.func 43) #[] #[.pointer (some ⟨w2.heap.size, 0, none⟩)], .int .i64 (x.i : Int), x.o.val, undef, undef, undef, undef, undef, undef, undef, undef, undef, undef, undef, undef, undef, undef, undef, undef, undef], defers := [] } V (KeepsFrom.refl _ _) (fun _ _ => rfl) hi rfl
      have HKK := Lib.hid hk
      clear hK hk hi
      gi_wp2
      exact HKK.out
    case stop2 =>
      rintro D2 c pre V _ _ hf _
      exact hf.elim
    case body2 =>
      rintro l' pre x a' V hl' _ ⟨i1, i2, i3, i4, i5, i6, i7⟩ rfl hlen
      obtain ⟨q, hq⟩ : ∃ q, q = pre.length := ⟨_, rfl⟩
      rw [← hq] at i1 hlen
      have c1 : V.cell? ⟨W.heap.size, 0, none⟩ = some (.int .i64 (q : Int)) := (i1.cell 0).trans rfl
      have f1 : V.frozen? ⟨W.heap.size, 0, none⟩ = false := i1.frozen 0
      have HQ1 : Hid (((q : Int) + 1) = (((pre ++ [x]).length : Nat) : Int)) := by show ((q : Int) + 1) = _; rw [List.length_append, ← hq]; simp
      have KF := Lib.hid (show KeepsFrom W6.heap.size V (V.setCell ⟨W.heap.size, 0, none⟩ (.int .i64 ((q : Int) + 1))) from (KeepsOthers.setCell _ _ _).from _)
      have KK := Lib.hid (show KS w1.heap.size A' ps V (V.setCell ⟨W.heap.size, 0, none⟩ (.int .i64 ((q : Int) + 1))) from fun z hz => Below.heap_setCell _ _ _ _ (by have := HSLW.out z hz; simp; omega))
      have J1 := Lib.hid (show Blk (V.setCell ⟨W.heap.size, 0, none⟩ (.int .i64 ((q : Int) + 1))) (W.heap.size) 3 #[.int .i64 (((pre ++ [x]).length : Nat) : Int)] by rw [← HQ1.out]; exact i1.set_ 0 _)
      have J2 := Lib.hid (show Blk (V.setCell ⟨W.heap.size, 0, none⟩ (.int .i64 ((q : Int) + 1))) (w2.heap.size + 1) 3 #[.int .i64 (k : Int)] from i2.far (by have := SZW.out; simp; omega) _)
      have J3 := Lib.hid (show Blk (V.setCell ⟨W.heap.size, 0, none⟩ (.int .i64 ((q : Int) + 1))) w.heap.size 3 #[.int .i64 n] from i3.far (by have := SZW.out; have := HGL.out; simp; omega) _)
      have J4 := Lib.hid (show Below w.heap.size w (V.setCell ⟨W.heap.size, 0, none⟩ (.int .i64 ((q : Int) + 1))) from i4.setCell (p := ⟨W.heap.size, 0, none⟩) (by have := SZW.out; have := HGL.out; simp; omega) _)
      have J5 := Lib.hid (show W6.heap.size ≤ (V.setCell ⟨W.heap.size, 0, none⟩ (.int .i64 ((q : Int) + 1))).heap.size by simpa [World.setCell] using i5)
      have J6 := Lib.hid (show StAt (V.setCell ⟨W.heap.size, 0, none⟩ (.int .i64 ((q : Int) + 1))) w1.heap.size w1.heap.size A' cap' ps l from i6.keep fun z hz => Below.heap_setCell _ _ _ _ (by have := HSLW.out z hz; simp; omega))
      have J7 := Lib.hid (show (V.setCell ⟨W.heap.size, 0, none⟩ (.int .i64 ((q : Int) + 1))).heap[D]? = some (.deferred (some [])) from (Below.heap_setCell _ _ _ _ (by have := HDW.out; simp; omega)).trans i7)
      clear i1 i2 i3 i4 i5 i6 i7 hq
      gi_wp2
      exact ⟨KF.out, KK.out, J1.out, J2.out, J3.out, J4.out, J5.out, J6.out, J7.out⟩
    case done2 =>
      rintro D2 ys V hD2 hS2 ⟨i1, i2, i3, i4, i5, i6, i7⟩ hK2
      rw [hS2.1] at i1
      have c1 : V.cell? ⟨W.heap.size, 0, none⟩ = some (.int .i64 (l.length : Int)) := (i1.cell 0).trans rfl
      have c2 : V.cell? ⟨w2.heap.size + 1, 0, none⟩ = some (.int .i64 (k : Int)) := (i2.cell 0).trans rfl
      have c3 : V.cell? ⟨w.heap.size, 0, none⟩ = some (.int .i64 n) := (i3.cell 0).trans rfl
      have HI4 := Lib.hid i4
      have HI7 := Lib.hid i7
      have HK2 := Lib.hid hK2
      have HD2 := Lib.hid (show w.heap.size + 3 ≤ D2 ∧ D < D2 by have := SZ6.out; have := SZW.out; have := HGL.out; have := HDW.out; omega)
      have HDD := Lib.hid (show D < V.heap.size ∧ D2 < V.heap.size from ⟨(Array.getElem?_eq_some_iff.1 i7).1, (Array.getElem?_eq_some_iff.1 hK2).1⟩)
      clear i1 i2 i3 i4 i5 i6 i7 hK2 hD2
      gi_wp2_with (gi_at_call 11; refine ((callsIn_wide (n := 3)).2 (known_any _ (HT.out.below HI4.out))).mono ?_; rintro e w9 ⟨rfl, b9⟩; have B9 := Lib.hid (HI4.out.trans (b9.mono HI4.out.size)); have HK9 := Lib.hid ((b9.block D HDD.out.1).trans HI7.out); have HK92 := Lib.hid ((b9.block D2 HDD.out.2).trans HK2.out); clear b9)
      have hE := (World.putObj_heap_other (o := .deferred none) (show D ≠ D2 by have := HD2.out; omega)).trans HK9.out
      refine ⟨by simp, .inl ⟨_, _, rfl, run_takeDeferred HK92.out, ⟨by simp, .inl ⟨_, _, rfl, run_takeDeferred hE, ?_⟩⟩⟩⟩
      have q1 := belowK_b (n₀ := w.heap.size) (w := w) (Nat.le_refl _) w9 D2 (.deferred (some [])) (.deferred none) (by have := HD2.out; omega) HK92.out rfl rfl
      have q2 := belowK_b (n₀ := w.heap.size) (w := w) (Nat.le_refl _) _ D (.deferred (some [])) (.deferred none) (by have := HD.out; have := HGL.out; omega) hE rfl rfl
      exact ⟨_, results_tmp rfl _ _ _, rfl, (B9.out.trans q1).trans q2⟩
theorem walk (w : World) (hL : laidMetH Tryd.prog laidK w) (A : Option Addr) (l : List Oj) (cap : Nat) (_ : l.length ≤ cap) (_ : cap ≤ maxLen) (hr : RdO w A l) (n : Int) : Calls Tryd.prog 8 #[.slice A l.length cap, .int .i64 n] w fun e w' => e = .returned (.bool true) ∧ Below w.heap.size w w' := by
  by_cases hl : l.length ≤ 20
  · by_cases h : rightP l
    · exact walk_ok w (tab_of hL) A l cap n hr hl h
    · exact walk_no w (tab_of hL) A l cap n hr hl h
  · exact walk_big w (tab_of hL) A l cap n (by omega)
set_option maxRecDepth 100000 in
theorem lifted (os : Os) (started : os.Started) (H : Type) (enc : TypeId × Value → H) :
    ReturnsInHanded {} Tryd.checked os 8 .any (fun w args => (Rows.objectsAllSpec.pre enc Tryd.prog Tryd.f8 [] false w args ∧ laidMetH Tryd.prog laidK w) ∧ sizedMet enc Tryd.prog Tryd.f8 (OpenSpec.ofChange Rows.objectsAllSpec) false w args) (Rows.objectsAllSpec.post enc Tryd.prog Tryd.f8 false true false false) := by
  refine returnsInHanded_of_change_and (C := Tryd.checked) (X := fun w _ => laidMetH Tryd.prog laidK w) (fun _ _ _ hh h => h.of_heap hh) own started (by kernel_rfl) Tryd.func8
    (ChangeSpec.witness_shaped (enc := enc) (C := Tryd.checked) (os := os) (X := fun w _ => laidMetH Tryd.prog laidK w) false (World.doorLaid Tryd.prog 40 os) #[.slice none 0 0, .int .i64 0] 8 rfl (World.shaped_of_RefB (by kernel_rfl) (by kernel_rfl)) (by kernel_rfl) (by kernel_rfl) (by kernel_rfl) (door_met os _)) ?_
  intro W base args ds gs before hval0 hW _ _ hL _
  have hval : ∀ (j : Nat) t v, Tryd.f8.params[j]? = some t → args[j]? = some v → Value.okWide Tryd.prog W .any base t v := hval0
  have hW' := hW
  obtain ⟨p, q, hA0, hV, rfl, hfz, hnd⟩ := hW
  have hA : DataW.TrodAll enc Tryd.prog W 0 (fun _ => true) true Tryd.f8.params.toList args.toList ds p := hA0
  rw [Tryd.params8] at hA hval
  obtain ⟨v0, vs0, d0, ds0, p0, q0, hargs, rfl, rfl, h0, t0⟩ := trodAll_cons hA
  obtain ⟨v1, vs1, d1, ds1, p1, q1, rfl, rfl, rfl, h1, t1⟩ := trodAll_cons t0
  obtain ⟨rfl, rfl, rfl⟩ := trodAll_nil t1
  obtain rfl : args = #[v0, v1] := by cases args; simp_all
  obtain ⟨rfl, rfl⟩ := trodVars_none hV
  have k0 := h0
  have lt0 : ∀ x ∈ p0, x.block < W.heap.size := by obtain ⟨m, hm⟩ := k0; exact DataW.trod_lt m _ _ _ hm
  obtain ⟨A0, l0, c0, rfl, hlc0, hcm0, hr0⟩ := open_obs (hval 0 22 v0 rfl rfl) h0
  have k1 := h1
  have lt1 : ∀ x ∈ p1, x.block < W.heap.size := by obtain ⟨m, hm⟩ := k1; exact DataW.trod_lt m _ _ _ hm
  obtain ⟨a1, rfl, rfl, rfl, _⟩ := open_int Tryd.underlying3 (hval 1 3 v1 rfl rfl) h1
  clear hA0 hval0
  refine (walk W hL A0 l0 c0 hlc0 hcm0 hr0 a1).mono fun e W' ⟨he, bel⟩ => ?_
  subst he
  exact ⟨_, rfl, _, _, _, [], _, [], hW', trodAll_mk1 (shut_bool Tryd.underlying4 _), (trodAll_cons_mk (Below.trod laidOut (by kernel_rfl) (of_decide_eq_true (by kernel_rfl)) k0 bel lt0) (trodAll_cons_mk (Below.trod laidOut (by kernel_rfl) (of_decide_eq_true (by kernel_rfl)) k1 bel lt1) trodAll_mk0)), rfl, bel.frame _, fun h => by cases h⟩
theorem over : Rows.objectsAllRow.holds Tryd.pinned (OpenSpec.ofChange Rows.objectsAllSpec) :=
  OpenClaim.holds_of_wide 8 Tryd.f8 rfl rfl rfl rfl rfl rfl rfl ⟨rfl, rfl, rfl, rfl, rfl⟩ rfl rfl rfl rfl rfl (by kernel_rfl) Tryd.func8 (by kernel_rfl)
    (of_decide_eq_true (by kernel_rfl)) (by unfold Func.isWrapper; first | (rw [if_pos (by decide +kernel)]; kernel_rfl) | (rw [if_neg (by decide +kernel)]; exact ⟨rfl, rfl⟩))
    (fun os started H enc _ => lifted os started H enc)
theorem proved : Rows.ObjectsAllCardSaid :=
  Claim7.holds_tied_plain_at .later [] [.data] true Rows.objectsAllCard.stood.harness false
    over (fun _ h => by cases h) (by kernel_rfl) (fun _ h => by cases h) objectsAll_row_tie rfl ⟨rfl, rfl⟩ (by kernel_rfl) rfl
    (fun f fn hf hfn => by
      obtain rfl : f = 8 := Option.some.inj ((show Tryd.prog.funcNamed "chatelaine/chatelainelaw04.ObjectsAll" = some 8 by kernel_rfl).symm.trans hf) |>.symm
      obtain rfl : fn = Tryd.f8 := (Option.some.inj (Tryd.func8.symm.trans hfn)).symm
      exact ⟨by kernel_rfl, fun j t ht => by
        rw [Tryd.params8] at ht
        have hm : t ∈ [22, 3] := by simpa using Array.mem_of_getElem? ht
        have hall : ([22, 3].all fun u => !Tryd.prog.wantsStandIn u) = true := by kernel_rfl
        exact (show Tryd.prog.wantsStandIn t = false by simpa using List.all_eq_true.1 hall t hm)⟩)
    (by kernel_rfl)
end Go.Proofs.YtlhlgfehbfankaaDoor.objectsAll

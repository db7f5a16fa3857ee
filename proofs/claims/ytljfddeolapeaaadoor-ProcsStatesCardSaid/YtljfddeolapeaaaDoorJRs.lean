/- the document's layer 13: State, number, Become. -/
import Derived.Test.YtljfddeolapeaaaDoorJPl
import Derived.Test.YtljfddeolapeaaaDoorJHd
import Derived.Test.YtljfddeolapeaaaDoorR14
namespace Go.Proofs.YtljfddeolapeaaaDoor
open Go.RowKit
attribute [local go_sem] Oper.semAt_some
set_option maxRecDepth 8000 in
theorem slt_get {u : Oj} {i : Nat} {y : Ky} (h : u.s[i]? = some y) : slt u i = y := by unfold slt; rw [h]; rfl
section
variable {w : World} {A : Option Addr} {cap n : Nat} {l : List Oj}
set_option maxRecDepth 100000 in
set_option maxHeartbeats 2000000 in
theorem rnum_any (w : World) (v : Int) : Calls Tryd.prog 67 #[.int .i64 v] w fun e w' => e = .returned (nmk v).val ∧ Below w.heap.size w w' := by
  have HB := Lib.hid ((Below.refl w.heap.size w).alloc (Nat.le_refl _) (.cells (kl (nmk v)).toArray 33))
  go_enter Tryd.func67, Tryd.ntmps67
  go_wp2_with (first
    | ((with_reducible show wpList _ _ _ (Oper.mk (some 4) (.build _ _) _ _ _ _ :: _) _ _); refine wpList_yields (S := fun _ => True) (y_bl2 (by rfl) (.const (.int .i64 1)) (.tmp 3) (by rfl) (by rfl) (by rfl) (builtN 1 v)) trivial ?_)
    | ((with_reducible show wpList _ _ _ (Oper.mk none (.store _ (.tmp 2) (.tmp 4)) _ _ _ _ :: _) _ _); refine wpList_store_new (l := kl (nmk v)) (l0 := kl zk) (ty := 33) rfl (.tmp 2) (.tmp 4) (by rfl) w.heap.size rfl (by rfl) (by rfl) size30 rfl (kl_one _) ?_))
  exact bodyPost_ret (res_1 rfl _ _ w.heap.size _ rfl (load_key (nmk v) (Blk.new _ _ _))) rfl ⟨rfl, HB.out⟩
set_option maxRecDepth 100000 in
set_option maxHeartbeats 2000000 in
theorem rst_lt (i : Int) (h : i < 0) : Calls Tryd.prog 29 #[.slice A n cap, .int .i64 i] w fun e w' => e = .returned (.int .i64 (-1)) ∧ w = w' := by
  have d0 : decide (i < 0) = true := decide_eq_true h
  clear h
  go_enter Tryd.func29, Tryd.ntmps29
  go_wp2
  go_ret
  exact ⟨rfl, rfl⟩
set_option maxRecDepth 100000 in
set_option maxHeartbeats 2000000 in
theorem rst_ge (i : Int) (h : ¬ i < 0) (h2 : (n : Int) ≤ i) : Calls Tryd.prog 29 #[.slice A n cap, .int .i64 i] w fun e w' => e = .returned (.int .i64 (-1)) ∧ w = w' := by
  have d0 : decide (i < 0) = false := decide_eq_false h
  have d1 : decide ((n : Int) ≤ i) = true := decide_eq_true h2
  clear h h2
  go_enter Tryd.func29, Tryd.ntmps29
  go_wp2
  go_ret
  exact ⟨rfl, rfl⟩
set_option maxRecDepth 100000 in
set_option maxHeartbeats 2000000 in
theorem rst_k (hr : RdO w A l) (hn : l.length = n) (j : Nat) (hj : j < n) (u : Oj) (hu : l[j]? = some u) (hk : u.k ≠ 1) : Calls Tryd.prog 29 #[.slice A n cap, .int .i64 (j : Int)] w fun e w' => e = .returned (.int .i64 (-1)) ∧ Below w.heap.size w w' := by
  obtain ⟨b, off, rfl, hob⟩ := hr j (by omega)
  have hu' : l[j] = u := by rw [List.getElem?_eq_getElem (by omega)] at hu; exact Option.some.inj hu
  rw [hu'] at hob
  have c0 := hob.cells.1
  obtain ⟨y, hy, hk0⟩ := hob.slot (i := 2) (by decide)
  have hyu : y = slt u 2 := (slt_get hy).symm
  subst hyu
  have HK := Lib.hid (show KeyAt w b (off + j * 163 + 15) (slt u 2) from hk0)
  have HB := Lib.hid ((Below.refl w.heap.size w).alloc (Nat.le_refl _) (.cells (kl (slt u 2)).toArray 33))
  have HK1 := Lib.hid (Blk.new w 33 (kl (slt u 2)).toArray)
  obtain ⟨k0, k1, k2, k3, k4, k5⟩ := HK1.out.six
  have d0 : decide ((j : Int) < 0) = false := decide_eq_false (by omega)
  have d1 : decide ((n : Int) ≤ (j : Int)) = false := decide_eq_false (by omega)
  have d2 : decide ((j : Int) < (n : Int)) = true := decide_eq_true (by omega)
  have i1 : (0 : Int) ≤ (j : Int) := by omega
  have i2 : (j : Int) < (n : Int) := by omega
  have dk : (u.k != 1) = true := by simpa using hk
  clear hob hk0 hy hu hu' hk
  go_enter Tryd.func29, Tryd.ntmps29
  go_wp2_with fail
  go_ret
  exact ⟨rfl, Below.refl _ _⟩
set_option maxRecDepth 100000 in
set_option maxHeartbeats 2000000 in
theorem rst_s (hr : RdO w A l) (hn : l.length = n) (j : Nat) (hj : j < n) (u : Oj) (hu : l[j]? = some u) (hk : u.k = 1) (hs : (slt u 2).k ≠ 1) : Calls Tryd.prog 29 #[.slice A n cap, .int .i64 (j : Int)] w fun e w' => e = .returned (.int .i64 (-1)) ∧ Below w.heap.size w w' := by
  obtain ⟨b, off, rfl, hob⟩ := hr j (by omega)
  have hu' : l[j] = u := by rw [List.getElem?_eq_getElem (by omega)] at hu; exact Option.some.inj hu
  rw [hu'] at hob
  have c0 := hob.cells.1
  obtain ⟨y, hy, hk0⟩ := hob.slot (i := 2) (by decide)
  have hyu : y = slt u 2 := (slt_get hy).symm
  subst hyu
  have HK := Lib.hid (show KeyAt w b (off + j * 163 + 15) (slt u 2) from hk0)
  have HB := Lib.hid ((Below.refl w.heap.size w).alloc (Nat.le_refl _) (.cells (kl (slt u 2)).toArray 33))
  have HK1 := Lib.hid (Blk.new w 33 (kl (slt u 2)).toArray)
  obtain ⟨k0, k1, k2, k3, k4, k5⟩ := HK1.out.six
  have d0 : decide ((j : Int) < 0) = false := decide_eq_false (by omega)
  have d1 : decide ((n : Int) ≤ (j : Int)) = false := decide_eq_false (by omega)
  have d2 : decide ((j : Int) < (n : Int)) = true := decide_eq_true (by omega)
  have i1 : (0 : Int) ≤ (j : Int) := by omega
  have i2 : (j : Int) < (n : Int) := by omega
  have dk : (u.k != 1) = false := by simpa using hk
  have ds : ((slt u 2).k != 1) = true := by simpa using hs
  clear hob hk0 hy hu hu' hk hs
  go_enter Tryd.func29, Tryd.ntmps29
  go_wp2_with (first
    | ((with_reducible show wpList _ _ _ (Oper.mk (some 27) (.load _ _) _ _ _ _ :: _) _ _); refine wpList_yields (S := fun w' => KeyAt w' b (off + j * 163 + 15) (slt u 2)) (y_kyJ (by rfl) (.tmp 26) (by rfl) b (off + j * 163 + 15) (by rfl) (slt u 2) (fun _ h => h)) HK.out ?_)
    | ((with_reducible show wpList _ _ _ (Oper.mk none (.store _ (.tmp 5) (.tmp 27)) _ _ _ _ :: _) _ _); refine wpList_store_new (l := kl (slt u 2)) (l0 := kl zk) (ty := 33) rfl (.tmp 5) (.tmp 27) (by rfl) w.heap.size rfl (by rfl) (by rfl) size30 rfl (kl_one _) ?_))
  go_ret
  exact ⟨rfl, HB.out⟩
set_option maxRecDepth 100000 in
set_option maxHeartbeats 2000000 in
theorem rst_v1 (hr : RdO w A l) (hn : l.length = n) (j : Nat) (hj : j < n) (u : Oj) (hu : l[j]? = some u) (hk : u.k = 1) (hs : (slt u 2).k = 1) (hv : (slt u 2).v < 0) : Calls Tryd.prog 29 #[.slice A n cap, .int .i64 (j : Int)] w fun e w' => e = .returned (.int .i64 (-1)) ∧ Below w.heap.size w w' := by
  obtain ⟨b, off, rfl, hob⟩ := hr j (by omega)
  have hu' : l[j] = u := by rw [List.getElem?_eq_getElem (by omega)] at hu; exact Option.some.inj hu
  rw [hu'] at hob
  have c0 := hob.cells.1
  obtain ⟨y, hy, hk0⟩ := hob.slot (i := 2) (by decide)
  have hyu : y = slt u 2 := (slt_get hy).symm
  subst hyu
  have HK := Lib.hid (show KeyAt w b (off + j * 163 + 15) (slt u 2) from hk0)
  have HB := Lib.hid ((Below.refl w.heap.size w).alloc (Nat.le_refl _) (.cells (kl (slt u 2)).toArray 33))
  have HK1 := Lib.hid (Blk.new w 33 (kl (slt u 2)).toArray)
  obtain ⟨k0, k1, k2, k3, k4, k5⟩ := HK1.out.six
  have d0 : decide ((j : Int) < 0) = false := decide_eq_false (by omega)
  have d1 : decide ((n : Int) ≤ (j : Int)) = false := decide_eq_false (by omega)
  have d2 : decide ((j : Int) < (n : Int)) = true := decide_eq_true (by omega)
  have i1 : (0 : Int) ≤ (j : Int) := by omega
  have i2 : (j : Int) < (n : Int) := by omega
  have dk : (u.k != 1) = false := by simpa using hk
  have ds : ((slt u 2).k != 1) = false := by simpa using hs
  have dv1 : decide ((slt u 2).v < 0) = true := decide_eq_true hv
  clear hob hk0 hy hu hu' hk hs hv
  go_enter Tryd.func29, Tryd.ntmps29
  go_wp2_with (first
    | ((with_reducible show wpList _ _ _ (Oper.mk (some 27) (.load _ _) _ _ _ _ :: _) _ _); refine wpList_yields (S := fun w' => KeyAt w' b (off + j * 163 + 15) (slt u 2)) (y_kyJ (by rfl) (.tmp 26) (by rfl) b (off + j * 163 + 15) (by rfl) (slt u 2) (fun _ h => h)) HK.out ?_)
    | ((with_reducible show wpList _ _ _ (Oper.mk none (.store _ (.tmp 5) (.tmp 27)) _ _ _ _ :: _) _ _); refine wpList_store_new (l := kl (slt u 2)) (l0 := kl zk) (ty := 33) rfl (.tmp 5) (.tmp 27) (by rfl) w.heap.size rfl (by rfl) (by rfl) size30 rfl (kl_one _) ?_))
  go_ret
  exact ⟨rfl, HB.out⟩
set_option maxRecDepth 100000 in
set_option maxHeartbeats 2000000 in
theorem rst_v2 (hr : RdO w A l) (hn : l.length = n) (j : Nat) (hj : j < n) (u : Oj) (hu : l[j]? = some u) (hk : u.k = 1) (hs : (slt u 2).k = 1) (hv : ¬ (slt u 2).v < 0) (hv2 : 2 < (slt u 2).v) : Calls Tryd.prog 29 #[.slice A n cap, .int .i64 (j : Int)] w fun e w' => e = .returned (.int .i64 (-1)) ∧ Below w.heap.size w w' := by
  obtain ⟨b, off, rfl, hob⟩ := hr j (by omega)
  have hu' : l[j] = u := by rw [List.getElem?_eq_getElem (by omega)] at hu; exact Option.some.inj hu
  rw [hu'] at hob
  have c0 := hob.cells.1
  obtain ⟨y, hy, hk0⟩ := hob.slot (i := 2) (by decide)
  have hyu : y = slt u 2 := (slt_get hy).symm
  subst hyu
  have HK := Lib.hid (show KeyAt w b (off + j * 163 + 15) (slt u 2) from hk0)
  have HB := Lib.hid ((Below.refl w.heap.size w).alloc (Nat.le_refl _) (.cells (kl (slt u 2)).toArray 33))
  have HK1 := Lib.hid (Blk.new w 33 (kl (slt u 2)).toArray)
  obtain ⟨k0, k1, k2, k3, k4, k5⟩ := HK1.out.six
  have d0 : decide ((j : Int) < 0) = false := decide_eq_false (by omega)
  have d1 : decide ((n : Int) ≤ (j : Int)) = false := decide_eq_false (by omega)
  have d2 : decide ((j : Int) < (n : Int)) = true := decide_eq_true (by omega)
  have i1 : (0 : Int) ≤ (j : Int) := by omega
  have i2 : (j : Int) < (n : Int) := by omega
  have dk : (u.k != 1) = false := by simpa using hk
  have ds : ((slt u 2).k != 1) = false := by simpa using hs
  have dv1 : decide ((slt u 2).v < 0) = false := decide_eq_false hv
  have dv2 : decide (2 < (slt u 2).v) = true := decide_eq_true hv2
  clear hob hk0 hy hu hu' hk hs hv hv2
  go_enter Tryd.func29, Tryd.ntmps29
  go_wp2_with (first
    | ((with_reducible show wpList _ _ _ (Oper.mk (some 27) (.load _ _) _ _ _ _ :: _) _ _); refine wpList_yields (S := fun w' => KeyAt w' b (off + j * 163 + 15) (slt u 2)) (y_kyJ (by rfl) (.tmp 26) (by rfl) b (off + j * 163 + 15) (by rfl) (slt u 2) (fun _ h => h)) HK.out ?_)
    | ((with_reducible show wpList _ _ _ (Oper.mk none (.store _ (.tmp 5) (.tmp 27)) _ _ _ _ :: _) _ _); refine wpList_store_new (l := kl (slt u 2)) (l0 := kl zk) (ty := 33) rfl (.tmp 5) (.tmp 27) (by rfl) w.heap.size rfl (by rfl) (by rfl) size30 rfl (kl_one _) ?_))
  go_ret
  exact ⟨rfl, HB.out⟩
set_option maxRecDepth 100000 in
set_option maxHeartbeats 2000000 in
theorem rst_y (hr : RdO w A l) (hn : l.length = n) (j : Nat) (hj : j < n) (u : Oj) (hu : l[j]? = some u) (hk : u.k = 1) (hs : (slt u 2).k = 1) (hv : ¬ (slt u 2).v < 0) (hv2 : ¬ 2 < (slt u 2).v) : Calls Tryd.prog 29 #[.slice A n cap, .int .i64 (j : Int)] w fun e w' => e = .returned (.int .i64 (slt u 2).v) ∧ Below w.heap.size w w' := by
  obtain ⟨b, off, rfl, hob⟩ := hr j (by omega)
  have hu' : l[j] = u := by rw [List.getElem?_eq_getElem (by omega)] at hu; exact Option.some.inj hu
  rw [hu'] at hob
  have c0 := hob.cells.1
  obtain ⟨y, hy, hk0⟩ := hob.slot (i := 2) (by decide)
  have hyu : y = slt u 2 := (slt_get hy).symm
  subst hyu
  have HK := Lib.hid (show KeyAt w b (off + j * 163 + 15) (slt u 2) from hk0)
  have HB := Lib.hid ((Below.refl w.heap.size w).alloc (Nat.le_refl _) (.cells (kl (slt u 2)).toArray 33))
  have HK1 := Lib.hid (Blk.new w 33 (kl (slt u 2)).toArray)
  obtain ⟨k0, k1, k2, k3, k4, k5⟩ := HK1.out.six
  have d0 : decide ((j : Int) < 0) = false := decide_eq_false (by omega)
  have d1 : decide ((n : Int) ≤ (j : Int)) = false := decide_eq_false (by omega)
  have d2 : decide ((j : Int) < (n : Int)) = true := decide_eq_true (by omega)
  have i1 : (0 : Int) ≤ (j : Int) := by omega
  have i2 : (j : Int) < (n : Int) := by omega
  have dk : (u.k != 1) = false := by simpa using hk
  have ds : ((slt u 2).k != 1) = false := by simpa using hs
  have dv1 : decide ((slt u 2).v < 0) = false := decide_eq_false hv
  have dv2 : decide (2 < (slt u 2).v) = false := decide_eq_false hv2
  clear hob hk0 hy hu hu' hk hs hv hv2
  go_enter Tryd.func29, Tryd.ntmps29
  go_wp2_with (first
    | ((with_reducible show wpList _ _ _ (Oper.mk (some 27) (.load _ _) _ _ _ _ :: _) _ _); refine wpList_yields (S := fun w' => KeyAt w' b (off + j * 163 + 15) (slt u 2)) (y_kyJ (by rfl) (.tmp 26) (by rfl) b (off + j * 163 + 15) (by rfl) (slt u 2) (fun _ h => h)) HK.out ?_)
    | ((with_reducible show wpList _ _ _ (Oper.mk none (.store _ (.tmp 5) (.tmp 27)) _ _ _ _ :: _) _ _); refine wpList_store_new (l := kl (slt u 2)) (l0 := kl zk) (ty := 33) rfl (.tmp 5) (.tmp 27) (by rfl) w.heap.size rfl (by rfl) (by rfl) size30 rfl (kl_one _) ?_))
  go_ret
  exact ⟨rfl, HB.out⟩
set_option maxRecDepth 8000 in
/-- the document's State; -1: no process -/
theorem rst_any (hr : RdO w A l) (hn : l.length = n) (i : Int) {v : Int} (hv : (stA l i).getD (-1) = v) : Calls Tryd.prog 29 #[.slice A n cap, .int .i64 i] w fun e w' => e = .returned (.int .i64 v) ∧ Below w.heap.size w w' := by
  subst hv
  by_cases h0 : i < 0
  · rw [show stA l i = none by unfold stA; rw [objA_out l i (.inl h0)]; rfl]
    refine (rst_lt i h0).mono ?_
    rintro e w' ⟨rfl, rfl⟩
    exact ⟨rfl, Below.refl _ _⟩
  by_cases h1 : (n : Int) ≤ i
  · rw [show stA l i = none by unfold stA; rw [objA_out l i (.inr (by omega))]; rfl]
    refine (rst_ge i h0 h1).mono ?_
    rintro e w' ⟨rfl, rfl⟩
    exact ⟨rfl, Below.refl _ _⟩
  obtain ⟨j, rfl⟩ : ∃ j : Nat, i = (j : Int) := ⟨i.toNat, by omega⟩
  have hj : j < n := by omega
  have hjl : j < l.length := by omega
  have hu : l[j]? = some l[j] := List.getElem?_eq_getElem hjl
  have hst : stA l (j : Int) = stN l[j] := by unfold stA; rw [objA_in l j hjl]
  rw [hst]
  by_cases hk : l[j].k = 1
  · by_cases hs : (slt l[j] 2).k = 1
    · by_cases hv : (slt l[j] 2).v < 0
      · rw [show stN l[j] = none by unfold stN; rw [if_neg (by omega)]]
        exact rst_v1 hr hn j hj _ hu hk hs hv
      · by_cases hv2 : 2 < (slt l[j] 2).v
        · rw [show stN l[j] = none by unfold stN; rw [if_neg (by omega)]]
          exact rst_v2 hr hn j hj _ hu hk hs hv hv2
        · rw [show stN l[j] = some (slt l[j] 2).v by unfold stN; rw [if_pos (by omega)]]
          exact rst_y hr hn j hj _ hu hk hs hv hv2
    · rw [show stN l[j] = none by unfold stN; rw [if_neg (by omega)]]
      exact rst_s hr hn j hj _ hu hk hs
  · rw [show stN l[j] = none by unfold stN; rw [if_neg (by omega)]]
    exact rst_k hr hn j hj _ hu hk
end
end Go.Proofs.YtljfddeolapeaaaDoor

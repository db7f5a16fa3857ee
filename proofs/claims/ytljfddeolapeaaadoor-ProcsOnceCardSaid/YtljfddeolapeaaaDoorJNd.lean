/- procs: what is asked of a node that is come to, and done with it. -/
import Derived.Test.YtljfddeolapeaaaDoorJPl
import Derived.Test.YtljfddeolapeaaaDoorR07
import Derived.Test.YtljfddeolapeaaaDoorBIu
namespace Go.Proofs.YtljfddeolapeaaaDoor
open List renaming getElem_toArray → zq1, getElem_cons_succ → zq2, getElem_cons_zero → zq3, setIfInBounds_toArray → zq4, set_cons_zero → zq5, set_cons_succ → zq6
open Go.RowKit
theorem y_kyJ {ops : Array Oper} {o : Oper} {a : Act} {S : World → Prop} (hw : Region.wanted o (yielded ops a.tmps) = true) (x : Operand) (ho : o.op = .load 33 x) (g off : Nat) (hx : a.eval x = .pointer (some ⟨g, off, none⟩)) (k : Ky) (hS : ∀ w, S w → KeyAt w g off k) : YieldsIf Tryd.prog ops S o k.val a :=
  yieldsIf_load_mid hw 33 x ho g off hx (kl k) _ (fun w h j v hj => by
    obtain ⟨h0, h1, h2, h3, h4, h5⟩ := hS w h
    match j, hj with
    | 0, hj => rw [← Option.some.inj hj]; exact h0
    | 1, hj => rw [← Option.some.inj hj]; exact h1
    | 2, hj => rw [← Option.some.inj hj]; exact h2
    | 3, hj => rw [← Option.some.inj hj]; exact h3
    | 4, hj => rw [← Option.some.inj hj]; exact h4
    | 5, hj => rw [← Option.some.inj hj]; exact h5
    | n + 6, hj => simp [kl] at hj) Tryd.underlying33 rfl size30
set_option maxRecDepth 8000 in
theorem step_store_in {P : Program} {ops : Array Oper} {o : Oper} {a : Act} {K : Act → World → Prop} {Q : Exit → Act → World → Prop} {E : Prop} {w : World} {t ty : TypeId} {l0 l l1 : List Value} {b off : Nat} (hb : Blk w b t l0.toArray) (hgd : o.guard = none) (x y : Operand) (ho : o.op = .store ty x y) (hx : a.eval x = .pointer (some ⟨b, off, none⟩)) (hy : a.eval y = .agg l.toArray) (hs : (P.info? ty).map (·.size) = some l.length) (hfit : off + l.length ≤ l0.length) (h1 : ∀ u ∈ l, u.oneCell' = true) (he : l0.take off ++ l ++ l0.drop (off + l.length) = l1)
    (h : K (a.put o.dst undef) (w.setRow b l1.toArray)) : if Region.wanted o (yielded ops a.tmps) = true then Oper.wp P o a w K Q else E := by
  rw [if_pos (by simp [Region.wanted, hgd])]
  subst he
  exact wp_store_part ty x y ho hb hx hy hfit hs h1 h
theorem NdB.drew {w : World} {g off : Nat} {p : Option Addr} {t : TypeId} {X Y : List Value} {x : Int} {u : Oj} (h : NdB w g off t X Y p x u) : NdB w.drew g off t X Y p x u := h.keep rfl
set_option maxRecDepth 8000 in
theorem isState_any (n : Int) (w : World) : Calls Tryd.prog 65 #[.int .i64 n] w fun e w' => e = .returned (.bool (decide (0 ≤ n ∧ n ≤ 2))) ∧ w = w' := by
  by_cases h0 : 0 ≤ n
  · have d0 : decide (0 ≤ n) = true := decide_eq_true h0
    by_cases h1 : n ≤ 2
    · have d1 : decide (n ≤ 2) = true := decide_eq_true h1
      rw [decide_eq_true (show 0 ≤ n ∧ n ≤ 2 from ⟨h0, h1⟩)]
      clear h0 h1
      go_enter Tryd.func65, Tryd.ntmps65
      go_wp2
      go_ret
      exact ⟨rfl, rfl⟩
    · have d1 : decide (n ≤ 2) = false := decide_eq_false h1
      rw [decide_eq_false (show ¬ (0 ≤ n ∧ n ≤ 2) from fun h => h1 h.2)]
      clear h0 h1
      go_enter Tryd.func65, Tryd.ntmps65
      go_wp2
      go_ret
      exact ⟨rfl, rfl⟩
  · have d0 : decide (0 ≤ n) = false := decide_eq_false h0
    rw [decide_eq_false (show ¬ (0 ≤ n ∧ n ≤ 2) from fun h => h0 h.1)]
    clear h0
    go_enter Tryd.func65, Tryd.ntmps65
    go_wp2
    go_ret
    exact ⟨rfl, rfl⟩
set_option maxRecDepth 100000 in
theorem number_any (n : Int) (w : World) : Calls Tryd.prog 85 #[.int .i64 n] w fun e w' => e = .returned (nmk n).val ∧ Below w.heap.size w w' := by
  have HB := Lib.hid ((Below.refl w.heap.size w).alloc (Nat.le_refl _) (.cells (kl (nmk n)).toArray 33))
  go_enter Tryd.func85, Tryd.ntmps85
  go_wp2_with (first
    | (show wpList _ _ _ (Oper.mk (some 4) (.build _ _) _ _ _ _ :: _) _ _; refine wpList_yields (S := fun _ => True) (y_bl2 (by rfl) (.const (.int .i64 1)) (.tmp 3) (by rfl) (by rfl) (by rfl) (builtN 1 n)) trivial ?_)
    | (show wpList _ _ _ (Oper.mk none (.store _ (.tmp 2) (.tmp 4)) _ _ _ _ :: _) _ _; refine wpList_store_new (l := kl (nmk n)) (l0 := kl zk) (ty := 33) rfl (.tmp 2) (.tmp 4) (by rfl) w.heap.size rfl (by rfl) (by rfl) size30 rfl (kl_one _) ?_))
  exact bodyPost_ret (res_1 rfl _ _ w.heap.size _ rfl (load_key (nmk n) (Blk.new _ _ _))) rfl ⟨rfl, HB.out⟩
section
variable {w : World} {g off : Nat} {p : Option Addr} {t : TypeId} {X Y : List Value} {x : Int} {u : Oj}
set_option maxRecDepth 100000 in
set_option maxHeartbeats 2000000 in
theorem state_k (h : NdB w g off t X Y p x u) (hk : u.k ≠ 1) :
    Calls Tryd.prog 53 #[.pointer (some ⟨g, off, none⟩)] w fun e w' => e = .returned (.tuple #[.int .i64 0, .bool false]) ∧ Below w.heap.size w w' := by
  have HK := Lib.hid (show KeyAt w g (off + 15) (slt u 2) from h.slot (i := 2) (by decide))
  have HB := Lib.hid ((Below.refl w.heap.size w).alloc (Nat.le_refl _) (.cells (kl (slt u 2)).toArray 33))
  have HK1 := Lib.hid (Blk.new w 33 (kl (slt u 2)).toArray)
  have c0 := (h.alloc (.cells (kl (slt u 2)).toArray 33)).ob.cells.1
  obtain ⟨k0, k1, k2, k3, k4, k5⟩ := HK1.out.six
  clear h
  have dk : (u.k != 1) = true := by simpa using hk
  clear hk
  go_enter Tryd.func53, Tryd.ntmps53
  go_wp2_with (first
    | (show wpList _ _ _ (Oper.mk (some 10) (.load _ _) _ _ _ _ :: _) _ _; refine wpList_yields (S := fun w' => KeyAt w' g (off + 15) (slt u 2)) (y_kyJ (by rfl) (.tmp 9) (by rfl) g (off + 15) (by rfl) (slt u 2) (fun _ h => h)) HK.out ?_)
    | (show wpList _ _ _ (Oper.mk none (.store _ (.tmp 4) (.tmp 10)) _ _ _ _ :: _) _ _; refine wpList_store_new (l := kl (slt u 2)) (l0 := kl zk) (ty := 33) rfl (.tmp 4) (.tmp 10) (by rfl) w.heap.size rfl (by rfl) (by rfl) size30 rfl (kl_one _) ?_))
  go_ret2
  exact ⟨rfl, HB.out⟩
set_option maxRecDepth 100000 in
set_option maxHeartbeats 2000000 in
theorem state_s (h : NdB w g off t X Y p x u) (hk : u.k = 1) (hs : (slt u 2).k ≠ 1) :
    Calls Tryd.prog 53 #[.pointer (some ⟨g, off, none⟩)] w fun e w' => e = .returned (.tuple #[.int .i64 0, .bool false]) ∧ Below w.heap.size w w' := by
  have HK := Lib.hid (show KeyAt w g (off + 15) (slt u 2) from h.slot (i := 2) (by decide))
  have HB := Lib.hid ((Below.refl w.heap.size w).alloc (Nat.le_refl _) (.cells (kl (slt u 2)).toArray 33))
  have HK1 := Lib.hid (Blk.new w 33 (kl (slt u 2)).toArray)
  have c0 := (h.alloc (.cells (kl (slt u 2)).toArray 33)).ob.cells.1
  obtain ⟨k0, k1, k2, k3, k4, k5⟩ := HK1.out.six
  clear h
  have dk : (u.k != 1) = false := by simpa using hk
  have ds : ((slt u 2).k != 1) = true := by simpa using hs
  clear hk hs
  go_enter Tryd.func53, Tryd.ntmps53
  go_wp2_with (first
    | (show wpList _ _ _ (Oper.mk (some 10) (.load _ _) _ _ _ _ :: _) _ _; refine wpList_yields (S := fun w' => KeyAt w' g (off + 15) (slt u 2)) (y_kyJ (by rfl) (.tmp 9) (by rfl) g (off + 15) (by rfl) (slt u 2) (fun _ h => h)) HK.out ?_)
    | (show wpList _ _ _ (Oper.mk none (.store _ (.tmp 4) (.tmp 10)) _ _ _ _ :: _) _ _; refine wpList_store_new (l := kl (slt u 2)) (l0 := kl zk) (ty := 33) rfl (.tmp 4) (.tmp 10) (by rfl) w.heap.size rfl (by rfl) (by rfl) size30 rfl (kl_one _) ?_))
  go_ret2
  exact ⟨rfl, HB.out⟩
set_option maxRecDepth 100000 in
set_option maxHeartbeats 2000000 in
theorem state_v (h : NdB w g off t X Y p x u) (hk : u.k = 1) (hs : (slt u 2).k = 1) (hv : ¬ (0 ≤ (slt u 2).v ∧ (slt u 2).v ≤ 2)) :
    Calls Tryd.prog 53 #[.pointer (some ⟨g, off, none⟩)] w fun e w' => e = .returned (.tuple #[.int .i64 0, .bool false]) ∧ Below w.heap.size w w' := by
  have HK := Lib.hid (show KeyAt w g (off + 15) (slt u 2) from h.slot (i := 2) (by decide))
  have HB := Lib.hid ((Below.refl w.heap.size w).alloc (Nat.le_refl _) (.cells (kl (slt u 2)).toArray 33))
  have HK1 := Lib.hid (Blk.new w 33 (kl (slt u 2)).toArray)
  have c0 := (h.alloc (.cells (kl (slt u 2)).toArray 33)).ob.cells.1
  obtain ⟨k0, k1, k2, k3, k4, k5⟩ := HK1.out.six
  clear h
  have dk : (u.k != 1) = false := by simpa using hk
  have ds : ((slt u 2).k != 1) = false := by simpa using hs
  have dv : decide (0 ≤ (slt u 2).v ∧ (slt u 2).v ≤ 2) = false := decide_eq_false hv
  clear hk hs hv
  go_enter Tryd.func53, Tryd.ntmps53
  go_wp2_with (first
    | (show wpList _ _ _ (Oper.mk (some 10) (.load _ _) _ _ _ _ :: _) _ _; refine wpList_yields (S := fun w' => KeyAt w' g (off + 15) (slt u 2)) (y_kyJ (by rfl) (.tmp 9) (by rfl) g (off + 15) (by rfl) (slt u 2) (fun _ h => h)) HK.out ?_)
    | (show wpList _ _ _ (Oper.mk none (.store _ (.tmp 4) (.tmp 10)) _ _ _ _ :: _) _ _; refine wpList_store_new (l := kl (slt u 2)) (l0 := kl zk) (ty := 33) rfl (.tmp 4) (.tmp 10) (by rfl) w.heap.size rfl (by rfl) (by rfl) size30 rfl (kl_one _) ?_)
    | (go_at_call 65; refine (isState_any _ _).mono ?_; rintro e w1 ⟨rfl, rfl⟩))
  go_ret2
  exact ⟨rfl, HB.out⟩
set_option maxRecDepth 100000 in
set_option maxHeartbeats 2000000 in
theorem state_y (h : NdB w g off t X Y p x u) (hk : u.k = 1) (hs : (slt u 2).k = 1) (hv : 0 ≤ (slt u 2).v ∧ (slt u 2).v ≤ 2) :
    Calls Tryd.prog 53 #[.pointer (some ⟨g, off, none⟩)] w fun e w' => e = .returned (.tuple #[.int .i64 (slt u 2).v, .bool true]) ∧ Below w.heap.size w w' := by
  have HK := Lib.hid (show KeyAt w g (off + 15) (slt u 2) from h.slot (i := 2) (by decide))
  have HB := Lib.hid ((Below.refl w.heap.size w).alloc (Nat.le_refl _) (.cells (kl (slt u 2)).toArray 33))
  have HK1 := Lib.hid (Blk.new w 33 (kl (slt u 2)).toArray)
  have c0 := (h.alloc (.cells (kl (slt u 2)).toArray 33)).ob.cells.1
  obtain ⟨k0, k1, k2, k3, k4, k5⟩ := HK1.out.six
  clear h
  have dk : (u.k != 1) = false := by simpa using hk
  have ds : ((slt u 2).k != 1) = false := by simpa using hs
  have dv : decide (0 ≤ (slt u 2).v ∧ (slt u 2).v ≤ 2) = true := decide_eq_true hv
  clear hk hs hv
  go_enter Tryd.func53, Tryd.ntmps53
  go_wp2_with (first
    | (show wpList _ _ _ (Oper.mk (some 10) (.load _ _) _ _ _ _ :: _) _ _; refine wpList_yields (S := fun w' => KeyAt w' g (off + 15) (slt u 2)) (y_kyJ (by rfl) (.tmp 9) (by rfl) g (off + 15) (by rfl) (slt u 2) (fun _ h => h)) HK.out ?_)
    | (show wpList _ _ _ (Oper.mk none (.store _ (.tmp 4) (.tmp 10)) _ _ _ _ :: _) _ _; refine wpList_store_new (l := kl (slt u 2)) (l0 := kl zk) (ty := 33) rfl (.tmp 4) (.tmp 10) (by rfl) w.heap.size rfl (by rfl) (by rfl) size30 rfl (kl_one _) ?_)
    | (go_at_call 65; refine (isState_any _ _).mono ?_; rintro e w1 ⟨rfl, rfl⟩))
  go_ret2
  exact ⟨rfl, HB.out⟩
set_option maxRecDepth 8000 in
theorem state_any (h : NdB w g off t X Y p x u) : Calls Tryd.prog 53 #[.pointer (some ⟨g, off, none⟩)] w fun e w' => e = .returned (.tuple #[.int .i64 ((stN u).getD 0), .bool (stN u).isSome]) ∧ Below w.heap.size w w' := by
  unfold stN
  by_cases hk : u.k = 1
  · by_cases hs : (slt u 2).k = 1
    · by_cases hv : 0 ≤ (slt u 2).v ∧ (slt u 2).v ≤ 2
      · rw [if_pos ⟨hk, hs, hv⟩]
        exact state_y h hk hs hv
      · rw [if_neg (fun q => hv q.2.2)]
        exact state_v h hk hs hv
    · rw [if_neg (fun q => hs q.2.1)]
      exact state_s h hk hs
  · rw [if_neg (fun q => hk q.1)]
    exact state_k h hk
theorem state_eq (h : NdB w g off t X Y p x u) {s : Option Int} (hs : stN u = s) : Calls Tryd.prog 53 #[.pointer (some ⟨g, off, none⟩)] w fun e w' => e = .returned (.tuple #[.int .i64 (s.getD 0), .bool s.isSome]) ∧ Below w.heap.size w w' := hs ▸ state_any h
set_option maxRecDepth 100000 in
set_option maxHeartbeats 2000000 in
theorem is_no (h : NdB w g off t X Y p x u) (hs : stN u = none) (s : Int) : Calls Tryd.prog 44 #[.pointer (some ⟨g, off, none⟩), .int .i64 s] w fun e w' => e = .returned (.bool false) ∧ Below w.heap.size w w' := by
  have HS := Lib.hid hs
  have H := Lib.hid h
  clear hs h
  go_enter Tryd.func44, Tryd.ntmps44
  go_wp2_with (first
    | (go_at_call 53; refine (state_eq (s := none) H.out HS.out).mono ?_; rintro e w1 ⟨rfl, b1⟩; have HB := Lib.hid b1; clear b1))
  go_ret
  exact ⟨rfl, HB.out⟩
set_option maxRecDepth 100000 in
set_option maxHeartbeats 2000000 in
theorem is_ne (h : NdB w g off t X Y p x u) (v : Int) (hs : stN u = some v) (s : Int) (hne : v ≠ s) : Calls Tryd.prog 44 #[.pointer (some ⟨g, off, none⟩), .int .i64 s] w fun e w' => e = .returned (.bool false) ∧ Below w.heap.size w w' := by
  have HS := Lib.hid hs
  have H := Lib.hid h
  clear hs h
  have dv : (v == s) = false := by simpa using hne
  clear hne
  go_enter Tryd.func44, Tryd.ntmps44
  go_wp2_with (first
    | (go_at_call 53; refine (state_eq (s := some v) H.out HS.out).mono ?_; rintro e w1 ⟨rfl, b1⟩; have HB := Lib.hid b1; clear b1))
  go_ret
  exact ⟨rfl, HB.out⟩
set_option maxRecDepth 100000 in
set_option maxHeartbeats 2000000 in
theorem is_yes (h : NdB w g off t X Y p x u) (s : Int) (hs : stN u = some s) : Calls Tryd.prog 44 #[.pointer (some ⟨g, off, none⟩), .int .i64 s] w fun e w' => e = .returned (.bool true) ∧ Below w.heap.size w w' := by
  have HS := Lib.hid hs
  have H := Lib.hid h
  clear hs h
  have dv : (s == s) = true := by simp
  go_enter Tryd.func44, Tryd.ntmps44
  go_wp2_with (first
    | (go_at_call 53; refine (state_eq (s := some s) H.out HS.out).mono ?_; rintro e w1 ⟨rfl, b1⟩; have HB := Lib.hid b1; clear b1))
  go_ret
  exact ⟨rfl, HB.out⟩
set_option maxRecDepth 8000 in
theorem is_any (h : NdB w g off t X Y p x u) (s : Int) {b : Bool} (hb : decide (stN u = some s) = b) : Calls Tryd.prog 44 #[.pointer (some ⟨g, off, none⟩), .int .i64 s] w fun e w' => e = .returned (.bool b) ∧ Below w.heap.size w w' := by
  subst hb
  cases hs : stN u with
  | none => exact is_no h hs s
  | some v =>
    by_cases hv : v = s
    · subst hv
      rw [decide_eq_true rfl]
      exact is_yes h v hs
    · rw [decide_eq_false (fun q => hv (Option.some.inj q))]
      exact is_ne h v hs s hv
set_option maxRecDepth 100000 in
set_option maxHeartbeats 2000000 in
theorem become_any (h : NdB w g off t X Y p x u) (s : Int) : Calls Tryd.prog 66 #[.pointer (some ⟨g, off, none⟩), .int .i64 s] w fun e w' => e = .returned (.tuple #[]) ∧ NdB w' g off t X Y p x (slotAs u 2 (nmk s)) ∧ Fr (fun k => k = g) w w' := by
  have HG := Lib.hid h
  have HB0 := Lib.hid (Below.refl w.heap.size w)
  clear h
  go_enter Tryd.func66, Tryd.ntmps66
  refine wp_region_only (S := fun _ => True) (by kernel_rfl) trivial (fun hHeld => ?_)
  refine wpAnyH_take (i := 0) (v := ?v1) rfl (by kernel_rfl) (by kernel_rfl) (by kernel_rfl) (fun _ _ _ h => h) (Or.inl ⟨by rfl, ?hy1⟩) hHeld ?rest1
  case hy1 =>
    intro w' hSw
    try dsimp only at hSw
    go_simp
    first | done | with_reducible rfl
  try simp only [Act.put, zq1, zq3, zq4, zq5, zq6]
  refine wpAnyH_take (i := 1) (v := ?v2) rfl (by kernel_rfl) (by kernel_rfl) (by kernel_rfl) (fun _ _ _ h => h) (Or.inl ⟨by rfl, ?hy2⟩) hHeld ?rest2
  case hy2 =>
    intro w' hSw
    try dsimp only at hSw
    go_simp
    first | done | with_reducible rfl
  try simp only [Act.put, zq1, zq2, zq3, zq4, zq5, zq6]
  refine wpAnyH_take (i := 3) (v := ?v3) rfl (by kernel_rfl) (by kernel_rfl) (by kernel_rfl) (fun _ _ _ h => h) (Or.inl ⟨by rfl, ?hy3⟩) hHeld ?rest3
  case hy3 =>
    intro w' hSw
    try dsimp only at hSw
    go_simp
    first | done | with_reducible rfl
  try simp only [Act.put, zq1, zq2, zq3, zq4, zq5, zq6]
  refine wpAnyH_take (i := 4) (v := ?v4) rfl (by kernel_rfl) (by kernel_rfl) (by kernel_rfl) (fun _ _ _ h => h) (Or.inl ⟨by rfl, ?hy4⟩) hHeld ?rest4
  case hy4 =>
    intro w' hSw
    try dsimp only at hSw
    go_simp
    first | done | with_reducible rfl
  try simp only [Act.put, zq1, zq2, zq3, zq4, zq5, zq6]
  refine wpAnyH_take (i := 5) (v := ?v5) rfl (by kernel_rfl) (by kernel_rfl) (by kernel_rfl) (fun _ _ _ h => h) (Or.inl ⟨by rfl, ?hy5⟩) hHeld ?rest5
  case hy5 =>
    intro w' hSw
    try dsimp only at hSw
    go_simp
    first | done | with_reducible rfl
  try simp only [Act.put, zq1, zq2, zq3, zq4, zq5, zq6]
  refine wpAnyH_ready (rs := [2]) (by kernel_rfl) (by simp) ?_
  refine AllReadyH.cons (by rfl) (fun K hK => ?_) AllReadyH.nil
  go_simp
  refine (number_any s _).mono ?_
  rintro e y1 ⟨rfl, b1⟩
  have HG1 := Lib.hid (HG.out.drew.below b1)
  have HB1 := Lib.hid ((below_drew HB0.out).trans b1)
  clear b1 hHeld
  go_wp2_with fail
  refine hK.out _ _ trivial (fun hHeld => ?_)
  clear hK K
  try simp only [Act.put, zq1, zq2, zq3, zq4, zq5, zq6]
  refine wpAnyH_take (i := 6) (v := ?v6) rfl (by kernel_rfl) (by kernel_rfl) (by kernel_rfl) (fun _ _ _ h => h) (Or.inl ⟨by rfl, ?hy6⟩) hHeld ?rest6
  case hy6 =>
    intro w' hSw
    try dsimp only at hSw
    go_simp
    first | done | with_reducible rfl
  try simp only [Act.put, zq1, zq2, zq3, zq4, zq5, zq6]
  refine wpAnyH_ready (rs := [7]) (by kernel_rfl) (by simp) ?_
  refine AllReadyH.cons (by rfl) (fun K hK => ?_) AllReadyH.nil
  refine step_store_in HG1.out.blk rfl (.tmp 10) (.tmp 6) (ty := 33) (l := kl (nmk s)) (off := off + 15) (by rfl) (by rfl) (by rfl) size30 (HG1.out.room (k := 15) (n := 6) (by decide)) (kl_one _) (HG1.out.fit (k := 15) (l := kl (nmk s)) (show 15 + 6 ≤ 163 by decide) (slot_fit u 2 (by decide) (nmk s))) ?_
  refine hK.out _ _ trivial (fun hHeld => ?_)
  clear hK K
  try simp only [Act.put, zq1, zq2, zq3]
  refine wpAnyH_done (by kernel_rfl) ?_ _
  refine OnlyN.normal ?_
  clear hHeld
  go_wp2_with fail
  go_end0
  exact ⟨rfl, HG1.out.setRow _, (Fr.of_below HB1.out : Fr (fun k => k = g) w _).trans (setRow_fr _ _ _)⟩
set_option maxRecDepth 100000 in
set_option maxHeartbeats 2000000 in
theorem mhc_no (h : NdB w g off t X Y p x u) (hl : u.l = 4294967295) : Calls Tryd.prog 86 #[.pointer (some ⟨g, off, none⟩)] w fun e w' => e = .panicked (erc 233) ∧ w = w' := by
  have c := h.ob.cells.2.2
  rw [hl] at c
  clear h hl
  go_enter Tryd.func86, Tryd.ntmps86
  go_wp2_with fail
  exact ⟨rfl, rfl, rfl⟩
set_option maxRecDepth 100000 in
set_option maxHeartbeats 2000000 in
theorem mhc_yes (h : NdB w g off t X Y p x u) (hl : u.l ≠ 4294967295) : Calls Tryd.prog 86 #[.pointer (some ⟨g, off, none⟩)] w fun e w' => e = .returned (.tuple #[]) ∧ w = w' := by
  have c := h.ob.cells.2.2
  have dl : (u.l == 4294967295) = false := by simpa using hl
  clear h hl
  go_enter Tryd.func86, Tryd.ntmps86
  go_wp2_with fail
  go_end0
  exact ⟨rfl, rfl⟩
end
section
variable {w : World} {base p : Nat} {A : Option Addr} {cap : Nat} {ps : List Nat} {os : List Oj}
set_option maxRecDepth 100000 in
set_option maxHeartbeats 2000000 in
theorem at_of (p : Option Addr) (i : Int) (o : Oj) (n : Int) (hg : ∀ W, Below w.heap.size w W → Calls Tryd.prog 47 #[.pointer p, .int .i64 i] W fun e w' => e = .returned (.tuple #[o.val, .int .i64 n]) ∧ Below W.heap.size W w') :
    Calls Tryd.prog 52 #[.pointer p, .int .i64 i] w fun e w' => e = .returned (jv p i o) ∧ Below w.heap.size w w' := by
  have hz := zJ
  have hz2 := z34
  have hl := jc_len none 0 oz
  have hl2 := oz_len
  have hl3 := jc_len p i o
  have hl4 := o.len
  have HGT := Lib.hid hg
  clear hg
  have HB0 := Lib.hid ((Below.refl w.heap.size w).alloc (Nat.le_refl _) (.cells (jc none 0 oz).toArray 93))
  have HR0 := Lib.hid (Blk.new w 93 (jc none 0 oz).toArray)
  go_enter Tryd.func52, Tryd.ntmps52
  go_wp2_with (first
    | (go_at_call 47; refine (HGT.out _ HB0.out).mono ?_; rintro e w1 ⟨rfl, b1⟩; have HB1 := Lib.hid ((HB0.out.trans (b1.mono HB0.out.size)).alloc (Nat.le_trans HB0.out.size b1.size) (.cells o.cells.toArray 56)); have HR1 := Lib.hid ((HR0.out.keep b1).alloc (.cells o.cells.toArray 56)); have HG1 := Lib.hid (Blk.new w1 56 o.cells.toArray); clear b1)
    | (show wpList _ _ _ (Oper.mk none (.store _ (.tmp 5) (.tmp 11)) _ _ _ _ :: _) _ _; refine wpList_store_last rfl (.tmp 5) (.tmp 11) rfl w1.heap.size rfl rfl o oz rfl ?_)
    | (show wpList _ _ _ (Oper.mk (some 13) (.load _ _) _ _ _ _ :: _) _ _; refine wpList_yields (S := fun w' => ObAt w' w1.heap.size 0 o) (y_ob (by rfl) (.tmp 5) (by rfl) w1.heap.size 0 (by rfl) o (fun _ h => h)) HG1.out.ob ?_)
    | (show wpList _ _ _ (Oper.mk (some 16) (.build _ _) _ _ _ _ :: _) _ _; refine wpList_yields (S := fun _ => True) (y_buildJ (by rfl) (.tmp 13) (.tmp 14) (.tmp 15) (by rfl) p i o (by rfl) (by rfl) (by rfl)) trivial ?_)
    | (show wpList _ _ _ (Oper.mk none (.store _ (.tmp 4) (.tmp 16)) _ _ _ _ :: _) _ _; refine wpList_store_big (l0 := jc none 0 oz) (l := jc p i o) HR1.out rfl (.tmp 4) (.tmp 16) (ty := 93) rfl (by rfl) (by rfl) (by rw [jc_len]; exact sizeJ) (by rw [jc_len, jc_len]) (jc_one _ _ _) ?_))
  exact bodyPost_ret (res_1 rfl _ _ w.heap.size _ rfl (load_nd p i o (HR1.out.setRow _))) rfl ⟨rfl, below_setRow HB1.out (Nat.le_refl _) _⟩
set_option maxRecDepth 8000 in
theorem at_all (h : StAt w base p A cap ps os) (hn : 0 < os.length) (i : Int) : Calls Tryd.prog 52 #[pv p, .int .i64 i] w fun e w' => e = .returned (jv (some ⟨p, 0, none⟩) i (objA os i)) ∧ Below w.heap.size w w' := by
  by_cases hi : i < 0 ∨ (os.length : Int) ≤ i
  · rw [objA_out os i hi]
    exact at_of _ i oz 4 fun _ hW => get_out (h.below hW) hn i hi
  · obtain ⟨j, rfl⟩ : ∃ j : Nat, i = (j : Int) := ⟨i.toNat, by omega⟩
    have hj : j < os.length := by omega
    rw [objA_in os j hj]
    exact at_of _ (j : Int) os[j] 0 fun _ hW => get_at (h.below hW) j hj
end
end Go.Proofs.YtljfddeolapeaaaDoor

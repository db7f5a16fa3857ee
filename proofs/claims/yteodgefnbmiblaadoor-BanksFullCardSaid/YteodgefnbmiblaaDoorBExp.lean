/- banks: the calls, by what their faces tell. -/
import Derived.Test.YteodgefnbmiblaaDoorBFac
namespace Go.Proofs.YteodgefnbmiblaaDoor
open Go.RowKit
set_option maxRecDepth 8000 in
theorem Blk.katB {w : World} {g : Nat} {t : TypeId} {y : Ky} (h : Blk w g t (kc y.k y.o y.c y.l y.r y.v)) : KeyAt w g 0 y := by
  have h' : Blk w g t (kl y).toArray := h
  exact h'.six
set_option maxRecDepth 8000 in
set_option maxHeartbeats 2000000 in
theorem exp_make_b {w : World} (Pv : Value) (x : Ky) (i : Int) (r : Ky) (n : Int) (hF : ∀ (W : World) (K : Nat), Below w.heap.size w W → W.cell? ⟨K, 0, none⟩ = some (.int .i64 i) → Calls Tryd.prog 25 #[Pv, x.val, .func (.func 26) #[] #[.pointer (some ⟨K, 0, none⟩)]] W fun e w' => e = .returned (.tuple #[r.val, .int .i64 n]) ∧ Below W.heap.size W w') :
    Calls Tryd.prog 10 #[Pv, x.val, .int .i64 i] w fun e w' => e = .returned (.tuple #[r.val, .int .i64 n]) ∧ Below w.heap.size w w' := by
  have hmf : ∀ (fn : Fn) (first cap : Array Value) (w : World), (Instr.makeFunc fn first cap).run Tryd.prog w = .ok (.func fn first cap) w := fun _ _ _ _ => rfl
  have hzt := zT
  have HB := Lib.hid ((((Below.refl w.heap.size w).alloc (Nat.le_refl _) (.cells (kc x.k x.o x.c x.l x.r x.v) 33)).alloc (by simp) (.cells #[.int .i64 i] 35)).alloc (by simp; omega) (.cells (kl zk).toArray 33))
  have HX := Lib.hid (hF _ _ HB.out ((show Blk (((w.alloc (.cells (kc x.k x.o x.c x.l x.r x.v) 33)).alloc (.cells #[.int .i64 i] 35)).alloc (.cells (kl zk).toArray 33)) (w.heap.size + 1) 35 #[.int .i64 i] from ((Blk.new_of (w.alloc (.cells (kc x.k x.o x.c x.l x.r x.v) 33)) 35 #[.int .i64 i] (g := w.heap.size + 1) (by simp)).alloc (.cells (kl zk).toArray 33))).one))
  have HZ := Lib.hid (show Blk (((w.alloc (.cells (kc x.k x.o x.c x.l x.r x.v) 33)).alloc (.cells #[.int .i64 i] 35)).alloc (.cells (kl zk).toArray 33)) (w.heap.size + 2) 33 (kl zk).toArray from (Blk.new_of ((w.alloc (.cells (kc x.k x.o x.c x.l x.r x.v) 33)).alloc (.cells #[.int .i64 i] 35)) 33 (kl zk).toArray (g := w.heap.size + 2) (by simp)))
  clear hF
  go_enter Tryd.func10, Tryd.ntmps10
  go_wp2_with (first
    | (go_at_call 25; refine HX.out.mono ?_; rintro e w2 ⟨rfl, hb⟩; have B2 := Lib.hid (HB.out.trans (hb.mono HB.out.size)); have Z2 := Lib.hid (show Blk w2 (w.heap.size + 2) _ _ from Blk.keep HZ.out hb); clear hb)
    | (refine wpList_store_row rfl 33 (.tmp 6) (.tmp 12) rfl (w.heap.size + 2) (kl r).toArray rfl rfl 33 (kl zk).toArray Z2.out size30 rfl (all_one (kl_one r)) ?_))
  refine bodyPost_ret (res_1t rfl _ _ (w.heap.size + 2) _ _ rfl rfl (load_key r (Z2.out.setRow _))) rfl ⟨rfl, ?_⟩
  exact below_setRow B2.out (by omega) _
set_option maxRecDepth 8000 in
set_option maxHeartbeats 2000000 in
theorem exp_make_s {w : World} {base p : Nat} {A : Option Addr} {cap : Nat} {ps : List Nat} {os : List Oj} (h : StAt w base p A cap ps os) (L : List Oj) (x : Ky) (i : Int) (r : Ky) (n : Int) (hF : ∀ (W : World) (K : Nat), Below w.heap.size w W → W.cell? ⟨K, 0, none⟩ = some (.int .i64 i) → Calls Tryd.prog 25 #[(pv p), x.val, .func (.func 26) #[] #[.pointer (some ⟨K, 0, none⟩)]] W fun e w' => e = .returned (.tuple #[r.val, .int .i64 n]) ∧ StAt w' base p A cap ps L ∧ Fr (fun k => k ∈ ps) W w') :
    Calls Tryd.prog 10 #[(pv p), x.val, .int .i64 i] w fun e w' => e = .returned (.tuple #[r.val, .int .i64 n]) ∧ StAt w' base p A cap ps L ∧ Fr (fun k => k ∈ ps) w w' := by
  have hmf : ∀ (fn : Fn) (first cap : Array Value) (w : World), (Instr.makeFunc fn first cap).run Tryd.prog w = .ok (.func fn first cap) w := fun _ _ _ _ => rfl
  have hzt := zT
  have HB := Lib.hid ((((Below.refl w.heap.size w).alloc (Nat.le_refl _) (.cells (kc x.k x.o x.c x.l x.r x.v) 33)).alloc (by simp) (.cells #[.int .i64 i] 35)).alloc (by simp; omega) (.cells (kl zk).toArray 33))
  have HX := Lib.hid (hF _ _ HB.out ((show Blk (((w.alloc (.cells (kc x.k x.o x.c x.l x.r x.v) 33)).alloc (.cells #[.int .i64 i] 35)).alloc (.cells (kl zk).toArray 33)) (w.heap.size + 1) 35 #[.int .i64 i] from ((Blk.new_of (w.alloc (.cells (kc x.k x.o x.c x.l x.r x.v) 33)) 35 #[.int .i64 i] (g := w.heap.size + 1) (by simp)).alloc (.cells (kl zk).toArray 33))).one))
  have HSL := Lib.hid (fun k (hk : k ∈ ps) => (h.lt k (.inr (.inr hk))).2)
  have HP := Lib.hid (h.lt p (.inl rfl)).2
  have HZ := Lib.hid (show Blk (((w.alloc (.cells (kc x.k x.o x.c x.l x.r x.v) 33)).alloc (.cells #[.int .i64 i] 35)).alloc (.cells (kl zk).toArray 33)) (w.heap.size + 2) 33 (kl zk).toArray from (Blk.new_of ((w.alloc (.cells (kc x.k x.o x.c x.l x.r x.v) 33)).alloc (.cells #[.int .i64 i] 35)) 33 (kl zk).toArray (g := w.heap.size + 2) (by simp)))
  clear hF h
  go_enter Tryd.func10, Tryd.ntmps10
  go_wp2_with (first
    | (go_at_call 25; refine HX.out.mono ?_; rintro e w2 ⟨rfl, hs, hf⟩; have S2 := Lib.hid hs; have F2 := Lib.hid ((Fr.of_below HB.out : Fr (fun k => k ∈ ps) w _).trans hf); have Z2 := Lib.hid (show Blk w2 (w.heap.size + 2) _ _ from (hf.block _ HZ.out.lt (fun hm => by have := (HSL.out _ hm); omega)).trans HZ.out); clear hs hf)
    | (refine wpList_store_row rfl 33 (.tmp 6) (.tmp 12) rfl (w.heap.size + 2) (kl r).toArray rfl rfl 33 (kl zk).toArray Z2.out size30 rfl (all_one (kl_one r)) ?_))
  refine bodyPost_ret (res_1t rfl _ _ (w.heap.size + 2) _ _ rfl rfl (load_key r (Z2.out.setRow _))) rfl ⟨rfl, ?_⟩
  exact ⟨S2.out.keep fun k hk => setRow_other _ _ _ _ (fun e => S2.out.blk_ne Z2.out (by decide) (by have := HP.out; omega) (e ▸ hk)), F2.out.then_ (setRow_fr _ _ _) (fun i hi he => by omega)⟩
set_option maxRecDepth 8000 in
set_option maxHeartbeats 2000000 in
theorem exp_split_b {w : World} (Pv : Value) (x : Ky) (i : Int) (r : Ky) (n : Int) (hF : ∀ (W : World) (N : Nat), Below w.heap.size w W → W.cell? ⟨N, 0, none⟩ = some (.int .i64 i) → Calls Tryd.prog 25 #[Pv, x.val, .func (.func 32) #[] #[.pointer (some ⟨N, 0, none⟩)]] W fun e w' => e = .returned (.tuple #[r.val, .int .i64 n]) ∧ Below W.heap.size W w') :
    Calls Tryd.prog 12 #[Pv, x.val, .int .i64 i] w fun e w' => e = .returned (.tuple #[r.val, .int .i64 n]) ∧ Below w.heap.size w w' := by
  have hmf : ∀ (fn : Fn) (first cap : Array Value) (w : World), (Instr.makeFunc fn first cap).run Tryd.prog w = .ok (.func fn first cap) w := fun _ _ _ _ => rfl
  have hzt := zT
  have HB := Lib.hid ((((Below.refl w.heap.size w).alloc (Nat.le_refl _) (.cells (kc x.k x.o x.c x.l x.r x.v) 33)).alloc (by simp) (.cells #[.int .i64 i] 3)).alloc (by simp; omega) (.cells (kl zk).toArray 33))
  have HX := Lib.hid (hF _ _ HB.out ((show Blk (((w.alloc (.cells (kc x.k x.o x.c x.l x.r x.v) 33)).alloc (.cells #[.int .i64 i] 3)).alloc (.cells (kl zk).toArray 33)) (w.heap.size + 1) 3 #[.int .i64 i] from ((Blk.new_of (w.alloc (.cells (kc x.k x.o x.c x.l x.r x.v) 33)) 3 #[.int .i64 i] (g := w.heap.size + 1) (by simp)).alloc (.cells (kl zk).toArray 33))).one))
  have HZ := Lib.hid (show Blk (((w.alloc (.cells (kc x.k x.o x.c x.l x.r x.v) 33)).alloc (.cells #[.int .i64 i] 3)).alloc (.cells (kl zk).toArray 33)) (w.heap.size + 2) 33 (kl zk).toArray from (Blk.new_of ((w.alloc (.cells (kc x.k x.o x.c x.l x.r x.v) 33)).alloc (.cells #[.int .i64 i] 3)) 33 (kl zk).toArray (g := w.heap.size + 2) (by simp)))
  clear hF
  go_enter Tryd.func12, Tryd.ntmps12
  go_wp2_with (first
    | (go_at_call 25; refine HX.out.mono ?_; rintro e w2 ⟨rfl, hb⟩; have B2 := Lib.hid (HB.out.trans (hb.mono HB.out.size)); have Z2 := Lib.hid (show Blk w2 (w.heap.size + 2) _ _ from Blk.keep HZ.out hb); clear hb)
    | (refine wpList_store_row rfl 33 (.tmp 6) (.tmp 12) rfl (w.heap.size + 2) (kl r).toArray rfl rfl 33 (kl zk).toArray Z2.out size30 rfl (all_one (kl_one r)) ?_))
  refine bodyPost_ret (res_1t rfl _ _ (w.heap.size + 2) _ _ rfl rfl (load_key r (Z2.out.setRow _))) rfl ⟨rfl, ?_⟩
  exact below_setRow B2.out (by omega) _
set_option maxRecDepth 8000 in
set_option maxHeartbeats 2000000 in
theorem exp_split_s {w : World} {base p : Nat} {A : Option Addr} {cap : Nat} {ps : List Nat} {os : List Oj} (h : StAt w base p A cap ps os) (L : List Oj) (x : Ky) (i : Int) (r : Ky) (n : Int) (hF : ∀ (W : World) (N : Nat), Below w.heap.size w W → W.cell? ⟨N, 0, none⟩ = some (.int .i64 i) → Calls Tryd.prog 25 #[(pv p), x.val, .func (.func 32) #[] #[.pointer (some ⟨N, 0, none⟩)]] W fun e w' => e = .returned (.tuple #[r.val, .int .i64 n]) ∧ StAt w' base p A cap ps L ∧ Fr (fun k => k ∈ ps) W w') :
    Calls Tryd.prog 12 #[(pv p), x.val, .int .i64 i] w fun e w' => e = .returned (.tuple #[r.val, .int .i64 n]) ∧ StAt w' base p A cap ps L ∧ Fr (fun k => k ∈ ps) w w' := by
  have hmf : ∀ (fn : Fn) (first cap : Array Value) (w : World), (Instr.makeFunc fn first cap).run Tryd.prog w = .ok (.func fn first cap) w := fun _ _ _ _ => rfl
  have hzt := zT
  have HB := Lib.hid ((((Below.refl w.heap.size w).alloc (Nat.le_refl _) (.cells (kc x.k x.o x.c x.l x.r x.v) 33)).alloc (by simp) (.cells #[.int .i64 i] 3)).alloc (by simp; omega) (.cells (kl zk).toArray 33))
  have HX := Lib.hid (hF _ _ HB.out ((show Blk (((w.alloc (.cells (kc x.k x.o x.c x.l x.r x.v) 33)).alloc (.cells #[.int .i64 i] 3)).alloc (.cells (kl zk).toArray 33)) (w.heap.size + 1) 3 #[.int .i64 i] from ((Blk.new_of (w.alloc (.cells (kc x.k x.o x.c x.l x.r x.v) 33)) 3 #[.int .i64 i] (g := w.heap.size + 1) (by simp)).alloc (.cells (kl zk).toArray 33))).one))
  have HSL := Lib.hid (fun k (hk : k ∈ ps) => (h.lt k (.inr (.inr hk))).2)
  have HP := Lib.hid (h.lt p (.inl rfl)).2
  have HZ := Lib.hid (show Blk (((w.alloc (.cells (kc x.k x.o x.c x.l x.r x.v) 33)).alloc (.cells #[.int .i64 i] 3)).alloc (.cells (kl zk).toArray 33)) (w.heap.size + 2) 33 (kl zk).toArray from (Blk.new_of ((w.alloc (.cells (kc x.k x.o x.c x.l x.r x.v) 33)).alloc (.cells #[.int .i64 i] 3)) 33 (kl zk).toArray (g := w.heap.size + 2) (by simp)))
  clear hF h
  go_enter Tryd.func12, Tryd.ntmps12
  go_wp2_with (first
    | (go_at_call 25; refine HX.out.mono ?_; rintro e w2 ⟨rfl, hs, hf⟩; have S2 := Lib.hid hs; have F2 := Lib.hid ((Fr.of_below HB.out : Fr (fun k => k ∈ ps) w _).trans hf); have Z2 := Lib.hid (show Blk w2 (w.heap.size + 2) _ _ from (hf.block _ HZ.out.lt (fun hm => by have := (HSL.out _ hm); omega)).trans HZ.out); clear hs hf)
    | (refine wpList_store_row rfl 33 (.tmp 6) (.tmp 12) rfl (w.heap.size + 2) (kl r).toArray rfl rfl 33 (kl zk).toArray Z2.out size30 rfl (all_one (kl_one r)) ?_))
  refine bodyPost_ret (res_1t rfl _ _ (w.heap.size + 2) _ _ rfl rfl (load_key r (Z2.out.setRow _))) rfl ⟨rfl, ?_⟩
  exact ⟨S2.out.keep fun k hk => setRow_other _ _ _ _ (fun e => S2.out.blk_ne Z2.out (by decide) (by have := HP.out; omega) (e ▸ hk)), F2.out.then_ (setRow_fr _ _ _) (fun i hi he => by omega)⟩
set_option maxRecDepth 8000 in
set_option maxHeartbeats 2000000 in
theorem exp_destroy_b {w : World} (q : Nat) (x : Ky) (y : Ky) (r : Bool) (n : Int) (hF : ∀ (W : World) (S K : Nat), Below w.heap.size w W → W.cell? ⟨S, 0, none⟩ = some (pv q) → KeyAt W K 0 y → Calls Tryd.prog 28 #[(pv q), x.val, .func (.func 29) #[] #[.pointer (some ⟨S, 0, none⟩), .pointer (some ⟨K, 0, none⟩)]] W fun e w' => e = .returned (.tuple #[.bool r, .int .i64 n]) ∧ Below W.heap.size W w') :
    Calls Tryd.prog 11 #[(pv q), x.val, y.val] w fun e w' => e = .returned (.int .i64 n) ∧ Below w.heap.size w w' := by
  have hmf : ∀ (fn : Fn) (first cap : Array Value) (w : World), (Instr.makeFunc fn first cap).run Tryd.prog w = .ok (.func fn first cap) w := fun _ _ _ _ => rfl
  have hzt := zT
  have HB := Lib.hid ((((Below.refl w.heap.size w).alloc (Nat.le_refl _) (.cells #[(pv q)] 25)).alloc (by simp) (.cells (kc x.k x.o x.c x.l x.r x.v) 33)).alloc (by simp; omega) (.cells (kc y.k y.o y.c y.l y.r y.v) 33))
  have HX := Lib.hid (hF _ _ _ HB.out ((show Blk (((w.alloc (.cells #[(pv q)] 25)).alloc (.cells (kc x.k x.o x.c x.l x.r x.v) 33)).alloc (.cells (kc y.k y.o y.c y.l y.r y.v) 33)) (w.heap.size) 25 #[(pv q)] from (((Blk.new_of w 25 #[(pv q)] (g := w.heap.size) (by simp)).alloc (.cells (kc x.k x.o x.c x.l x.r x.v) 33)).alloc (.cells (kc y.k y.o y.c y.l y.r y.v) 33))).one) (Blk.katB (show Blk (((w.alloc (.cells #[(pv q)] 25)).alloc (.cells (kc x.k x.o x.c x.l x.r x.v) 33)).alloc (.cells (kc y.k y.o y.c y.l y.r y.v) 33)) (w.heap.size + 2) 33 (kc y.k y.o y.c y.l y.r y.v) from (Blk.new_of ((w.alloc (.cells #[(pv q)] 25)).alloc (.cells (kc x.k x.o x.c x.l x.r x.v) 33)) 33 (kc y.k y.o y.c y.l y.r y.v) (g := w.heap.size + 2) (by simp)))))
  clear hF
  go_enter Tryd.func11, Tryd.ntmps11
  go_wp2_with (go_at_call 28; refine HX.out.mono ?_; rintro e w2 ⟨rfl, hb⟩; have B2 := Lib.hid (HB.out.trans (hb.mono HB.out.size)); clear hb)
  go_ret
  exact ⟨rfl, B2.out⟩
set_option maxRecDepth 8000 in
set_option maxHeartbeats 2000000 in
theorem exp_destroy_s {w : World} {base p : Nat} {A : Option Addr} {cap : Nat} {ps : List Nat} {os : List Oj} (h : StAt w base p A cap ps os) (L : List Oj) (x : Ky) (y : Ky) (r : Bool) (n : Int) (hF : ∀ (W : World) (S K : Nat), Below w.heap.size w W → W.cell? ⟨S, 0, none⟩ = some (pv p) → KeyAt W K 0 y → Calls Tryd.prog 28 #[(pv p), x.val, .func (.func 29) #[] #[.pointer (some ⟨S, 0, none⟩), .pointer (some ⟨K, 0, none⟩)]] W fun e w' => e = .returned (.tuple #[.bool r, .int .i64 n]) ∧ StAt w' base p A cap ps L ∧ Fr (fun k => k ∈ ps) W w') :
    Calls Tryd.prog 11 #[(pv p), x.val, y.val] w fun e w' => e = .returned (.int .i64 n) ∧ StAt w' base p A cap ps L ∧ Fr (fun k => k ∈ ps) w w' := by
  have hmf : ∀ (fn : Fn) (first cap : Array Value) (w : World), (Instr.makeFunc fn first cap).run Tryd.prog w = .ok (.func fn first cap) w := fun _ _ _ _ => rfl
  have hzt := zT
  have HB := Lib.hid ((((Below.refl w.heap.size w).alloc (Nat.le_refl _) (.cells #[(pv p)] 25)).alloc (by simp) (.cells (kc x.k x.o x.c x.l x.r x.v) 33)).alloc (by simp; omega) (.cells (kc y.k y.o y.c y.l y.r y.v) 33))
  have HX := Lib.hid (hF _ _ _ HB.out ((show Blk (((w.alloc (.cells #[(pv p)] 25)).alloc (.cells (kc x.k x.o x.c x.l x.r x.v) 33)).alloc (.cells (kc y.k y.o y.c y.l y.r y.v) 33)) (w.heap.size) 25 #[(pv p)] from (((Blk.new_of w 25 #[(pv p)] (g := w.heap.size) (by simp)).alloc (.cells (kc x.k x.o x.c x.l x.r x.v) 33)).alloc (.cells (kc y.k y.o y.c y.l y.r y.v) 33))).one) (Blk.katB (show Blk (((w.alloc (.cells #[(pv p)] 25)).alloc (.cells (kc x.k x.o x.c x.l x.r x.v) 33)).alloc (.cells (kc y.k y.o y.c y.l y.r y.v) 33)) (w.heap.size + 2) 33 (kc y.k y.o y.c y.l y.r y.v) from (Blk.new_of ((w.alloc (.cells #[(pv p)] 25)).alloc (.cells (kc x.k x.o x.c x.l x.r x.v) 33)) 33 (kc y.k y.o y.c y.l y.r y.v) (g := w.heap.size + 2) (by simp)))))
  have HSL := Lib.hid (fun k (hk : k ∈ ps) => (h.lt k (.inr (.inr hk))).2)
  have HP := Lib.hid (h.lt p (.inl rfl)).2
  clear hF h
  go_enter Tryd.func11, Tryd.ntmps11
  go_wp2_with (go_at_call 28; refine HX.out.mono ?_; rintro e w2 ⟨rfl, hs, hf⟩; have S2 := Lib.hid hs; have F2 := Lib.hid ((Fr.of_below HB.out : Fr (fun k => k ∈ ps) w _).trans hf); clear hs hf)
  go_ret
  exact ⟨rfl, S2.out, F2.out⟩
set_option maxRecDepth 8000 in
set_option maxHeartbeats 2000000 in
theorem exp_owns_b {w : World} (Pv : Value) (x : Ky) (y : Ky) (r : Bool) (n : Int) (hF : ∀ (W : World) (K : Nat), Below w.heap.size w W → KeyAt W K 0 y → Calls Tryd.prog 28 #[Pv, x.val, .func (.func 47) #[] #[.pointer (some ⟨K, 0, none⟩)]] W fun e w' => e = .returned (.tuple #[.bool r, .int .i64 n]) ∧ Below W.heap.size W w') :
    Calls Tryd.prog 20 #[Pv, x.val, y.val] w fun e w' => e = .returned (.tuple #[.bool r, .int .i64 n]) ∧ Below w.heap.size w w' := by
  have hmf : ∀ (fn : Fn) (first cap : Array Value) (w : World), (Instr.makeFunc fn first cap).run Tryd.prog w = .ok (.func fn first cap) w := fun _ _ _ _ => rfl
  have hzt := zT
  have HB := Lib.hid (((Below.refl w.heap.size w).alloc (Nat.le_refl _) (.cells (kc x.k x.o x.c x.l x.r x.v) 33)).alloc (by simp) (.cells (kc y.k y.o y.c y.l y.r y.v) 33))
  have HX := Lib.hid (hF _ _ HB.out (Blk.katB (show Blk ((w.alloc (.cells (kc x.k x.o x.c x.l x.r x.v) 33)).alloc (.cells (kc y.k y.o y.c y.l y.r y.v) 33)) (w.heap.size + 1) 33 (kc y.k y.o y.c y.l y.r y.v) from (Blk.new_of (w.alloc (.cells (kc x.k x.o x.c x.l x.r x.v) 33)) 33 (kc y.k y.o y.c y.l y.r y.v) (g := w.heap.size + 1) (by simp)))))
  clear hF
  go_enter Tryd.func20, Tryd.ntmps20
  go_wp2_with (go_at_call 28; refine HX.out.mono ?_; rintro e w2 ⟨rfl, hb⟩; have B2 := Lib.hid (HB.out.trans (hb.mono HB.out.size)); clear hb)
  go_ret2
  exact ⟨rfl, B2.out⟩
set_option maxRecDepth 8000 in
set_option maxHeartbeats 2000000 in
theorem exp_owns_s {w : World} {base p : Nat} {A : Option Addr} {cap : Nat} {ps : List Nat} {os : List Oj} (h : StAt w base p A cap ps os) (L : List Oj) (x : Ky) (y : Ky) (r : Bool) (n : Int) (hF : ∀ (W : World) (K : Nat), Below w.heap.size w W → KeyAt W K 0 y → Calls Tryd.prog 28 #[(pv p), x.val, .func (.func 47) #[] #[.pointer (some ⟨K, 0, none⟩)]] W fun e w' => e = .returned (.tuple #[.bool r, .int .i64 n]) ∧ StAt w' base p A cap ps L ∧ Fr (fun k => k ∈ ps) W w') :
    Calls Tryd.prog 20 #[(pv p), x.val, y.val] w fun e w' => e = .returned (.tuple #[.bool r, .int .i64 n]) ∧ StAt w' base p A cap ps L ∧ Fr (fun k => k ∈ ps) w w' := by
  have hmf : ∀ (fn : Fn) (first cap : Array Value) (w : World), (Instr.makeFunc fn first cap).run Tryd.prog w = .ok (.func fn first cap) w := fun _ _ _ _ => rfl
  have hzt := zT
  have HB := Lib.hid (((Below.refl w.heap.size w).alloc (Nat.le_refl _) (.cells (kc x.k x.o x.c x.l x.r x.v) 33)).alloc (by simp) (.cells (kc y.k y.o y.c y.l y.r y.v) 33))
  have HX := Lib.hid (hF _ _ HB.out (Blk.katB (show Blk ((w.alloc (.cells (kc x.k x.o x.c x.l x.r x.v) 33)).alloc (.cells (kc y.k y.o y.c y.l y.r y.v) 33)) (w.heap.size + 1) 33 (kc y.k y.o y.c y.l y.r y.v) from (Blk.new_of (w.alloc (.cells (kc x.k x.o x.c x.l x.r x.v) 33)) 33 (kc y.k y.o y.c y.l y.r y.v) (g := w.heap.size + 1) (by simp)))))
  have HSL := Lib.hid (fun k (hk : k ∈ ps) => (h.lt k (.inr (.inr hk))).2)
  have HP := Lib.hid (h.lt p (.inl rfl)).2
  clear hF h
  go_enter Tryd.func20, Tryd.ntmps20
  go_wp2_with (go_at_call 28; refine HX.out.mono ?_; rintro e w2 ⟨rfl, hs, hf⟩; have S2 := Lib.hid hs; have F2 := Lib.hid ((Fr.of_below HB.out : Fr (fun k => k ∈ ps) w _).trans hf); clear hs hf)
  go_ret2
  exact ⟨rfl, S2.out, F2.out⟩
set_option maxRecDepth 8000 in
set_option maxHeartbeats 2000000 in
theorem exp_raze_b {w : World} (Pv : Value) (x : Ky)  (r n : Int) (hF : ∀ (W : World), Below w.heap.size w W → Calls Tryd.prog 38 #[Pv, x.val, .func (.func 39) #[] #[]] W fun e w' => e = .returned (.tuple #[.int .i64 r, .int .i64 n]) ∧ Below W.heap.size W w') :
    Calls Tryd.prog 13 #[Pv, x.val] w fun e w' => e = .returned (.tuple #[.int .i64 r, .int .i64 n]) ∧ Below w.heap.size w w' := by
  have hmf : ∀ (fn : Fn) (first cap : Array Value) (w : World), (Instr.makeFunc fn first cap).run Tryd.prog w = .ok (.func fn first cap) w := fun _ _ _ _ => rfl
  have hzt := zT
  have HB := Lib.hid ((Below.refl w.heap.size w).alloc (Nat.le_refl _) (.cells (kc x.k x.o x.c x.l x.r x.v) 33))
  have HX := Lib.hid (hF _ HB.out)
  clear hF
  go_enter Tryd.func13, Tryd.ntmps13
  go_wp2_with (go_at_call 38; refine HX.out.mono ?_; rintro e w2 ⟨rfl, hb⟩; have B2 := Lib.hid (HB.out.trans (hb.mono HB.out.size)); clear hb)
  go_ret2
  exact ⟨rfl, B2.out⟩
set_option maxRecDepth 8000 in
set_option maxHeartbeats 2000000 in
theorem exp_raze_s {w : World} {base p : Nat} {A : Option Addr} {cap : Nat} {ps : List Nat} {os : List Oj} (h : StAt w base p A cap ps os) (L : List Oj) (x : Ky)  (r n : Int) (hF : ∀ (W : World), Below w.heap.size w W → Calls Tryd.prog 38 #[(pv p), x.val, .func (.func 39) #[] #[]] W fun e w' => e = .returned (.tuple #[.int .i64 r, .int .i64 n]) ∧ StAt w' base p A cap ps L ∧ Fr (fun k => k ∈ ps) W w') :
    Calls Tryd.prog 13 #[(pv p), x.val] w fun e w' => e = .returned (.tuple #[.int .i64 r, .int .i64 n]) ∧ StAt w' base p A cap ps L ∧ Fr (fun k => k ∈ ps) w w' := by
  have hmf : ∀ (fn : Fn) (first cap : Array Value) (w : World), (Instr.makeFunc fn first cap).run Tryd.prog w = .ok (.func fn first cap) w := fun _ _ _ _ => rfl
  have hzt := zT
  have HB := Lib.hid ((Below.refl w.heap.size w).alloc (Nat.le_refl _) (.cells (kc x.k x.o x.c x.l x.r x.v) 33))
  have HX := Lib.hid (hF _ HB.out)
  have HSL := Lib.hid (fun k (hk : k ∈ ps) => (h.lt k (.inr (.inr hk))).2)
  have HP := Lib.hid (h.lt p (.inl rfl)).2
  clear hF h
  go_enter Tryd.func13, Tryd.ntmps13
  go_wp2_with (go_at_call 38; refine HX.out.mono ?_; rintro e w2 ⟨rfl, hs, hf⟩; have S2 := Lib.hid hs; have F2 := Lib.hid ((Fr.of_below HB.out : Fr (fun k => k ∈ ps) w _).trans hf); clear hs hf)
  go_ret2
  exact ⟨rfl, S2.out, F2.out⟩
set_option maxRecDepth 8000 in
set_option maxHeartbeats 2000000 in
theorem exp_range_b {w : World} (Pv : Value) (x : Ky)  (r1 r2 n : Int) (hF : ∀ (W : World), Below w.heap.size w W → Calls Tryd.prog 45 #[Pv, x.val, .func (.func 46) #[] #[]] W fun e w' => e = .returned (.tuple #[.agg #[.int .i64 r1, .int .i64 r2], .int .i64 n]) ∧ Below W.heap.size W w') :
    Calls Tryd.prog 18 #[Pv, x.val] w fun e w' => e = .returned (.tuple #[.int .i64 r1, .int .i64 r2, .int .i64 n]) ∧ Below w.heap.size w w' := by
  have hmf : ∀ (fn : Fn) (first cap : Array Value) (w : World), (Instr.makeFunc fn first cap).run Tryd.prog w = .ok (.func fn first cap) w := fun _ _ _ _ => rfl
  have hzt := zT
  have HB := Lib.hid ((Below.refl w.heap.size w).alloc (Nat.le_refl _) (.cells (kc x.k x.o x.c x.l x.r x.v) 33))
  have HX := Lib.hid (hF _ HB.out)
  clear hF
  go_enter Tryd.func18, Tryd.ntmps18
  go_wp2_with (go_at_call 45; refine HX.out.mono ?_; rintro e w2 ⟨rfl, hb⟩; have B2 := Lib.hid (HB.out.trans (hb.mono HB.out.size)); clear hb)
  go_region
  go_wp2
  go_ret3
  exact ⟨rfl, below_drew (B2.out.alloc B2.out.size _)⟩
set_option maxRecDepth 8000 in
set_option maxHeartbeats 2000000 in
theorem exp_range_s {w : World} {base p : Nat} {A : Option Addr} {cap : Nat} {ps : List Nat} {os : List Oj} (h : StAt w base p A cap ps os) (L : List Oj) (x : Ky)  (r1 r2 n : Int) (hF : ∀ (W : World), Below w.heap.size w W → Calls Tryd.prog 45 #[(pv p), x.val, .func (.func 46) #[] #[]] W fun e w' => e = .returned (.tuple #[.agg #[.int .i64 r1, .int .i64 r2], .int .i64 n]) ∧ StAt w' base p A cap ps L ∧ Fr (fun k => k ∈ ps) W w') :
    Calls Tryd.prog 18 #[(pv p), x.val] w fun e w' => e = .returned (.tuple #[.int .i64 r1, .int .i64 r2, .int .i64 n]) ∧ StAt w' base p A cap ps L ∧ Fr (fun k => k ∈ ps) w w' := by
  have hmf : ∀ (fn : Fn) (first cap : Array Value) (w : World), (Instr.makeFunc fn first cap).run Tryd.prog w = .ok (.func fn first cap) w := fun _ _ _ _ => rfl
  have hzt := zT
  have HB := Lib.hid ((Below.refl w.heap.size w).alloc (Nat.le_refl _) (.cells (kc x.k x.o x.c x.l x.r x.v) 33))
  have HX := Lib.hid (hF _ HB.out)
  have HSL := Lib.hid (fun k (hk : k ∈ ps) => (h.lt k (.inr (.inr hk))).2)
  have HP := Lib.hid (h.lt p (.inl rfl)).2
  clear hF h
  go_enter Tryd.func18, Tryd.ntmps18
  go_wp2_with (go_at_call 45; refine HX.out.mono ?_; rintro e w2 ⟨rfl, hs, hf⟩; have S2 := Lib.hid hs; have F2 := Lib.hid ((Fr.of_below HB.out : Fr (fun k => k ∈ ps) w _).trans hf); clear hs hf)
  go_region
  go_wp2
  go_ret3
  exact ⟨rfl, (S2.out.alloc _).drew, (F2.out.then_ (Fr.of_below ((Below.refl _ w2).alloc (Nat.le_refl _) _)) (fun _ _ h => h)).drew⟩
end Go.Proofs.YteodgefnbmiblaaDoor

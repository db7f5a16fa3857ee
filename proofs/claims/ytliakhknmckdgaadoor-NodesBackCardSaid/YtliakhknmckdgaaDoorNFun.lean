/- nodes: the five calls, by what is behind their faces. -/
import Derived.Test.YtliakhknmckdgaaDoorNFac
namespace Go.Proofs.YtliakhknmckdgaaDoor
open Go.RowKit
section
variable {w : World} {base p : Nat} {A : Option Addr} {cap : Nat} {ps : List Nat} {os : List Oj}
set_option maxRecDepth 100000 in
set_option maxHeartbeats 2000000 in
theorem nget_no (P : Value) (hP : IsP P) (x : Ky) (i : Int) (n : Int) (hcl : ∀ (W : World) (S K I : Nat), Below w.heap.size w W → Blk W S 24 #[P] → Blk W K 32 (kl x).toArray → Blk W I 3 #[.int .i64 i] → Calls Tryd.prog 34 #[.pointer (some ⟨S, 0, none⟩), .pointer (some ⟨K, 0, none⟩), .pointer (some ⟨I, 0, none⟩)] W fun e w' => e = .panicked (erc n) ∧ Below W.heap.size W w') :
    Calls Tryd.prog 14 #[P, x.val, .int .i64 i] w fun e w' => e = .returned (.tuple #[zk.val, .int .i64 n]) ∧ Below w.heap.size w w' := by
  have hmf : ∀ (fn : Fn) (first cap : Array Value) (w : World), (Instr.makeFunc fn first cap).run Tryd.prog w = .ok (.func fn first cap) w := fun _ _ _ _ => rfl
  have hz := z95
  have hbs := zks_len
  have HC := Lib.hid hcl
  clear hcl
  rcases hP with rfl | ⟨Q, rfl⟩
  ·
    have HB0 := Lib.hid (((((Below.refl w.heap.size w).alloc (Nat.le_refl _) (.cells #[.pointer none] 24)).alloc (by simp) (.cells (kc x.k x.o x.c x.l x.r x.v) 32)).alloc (by simp; omega) (.cells #[.int .i64 i] 3)).alloc (by simp; omega) (.cells (kc 0 0 0 0 0 0) 32))
    have HS0 := Lib.hid ((((Blk.new_of w 24 #[.pointer none] (g := w.heap.size) (by simp)).alloc (.cells (kc x.k x.o x.c x.l x.r x.v) 32)).alloc (.cells #[.int .i64 i] 3)).alloc (.cells (kc 0 0 0 0 0 0) 32))
    have HK0 := Lib.hid (((Blk.new_of (w.alloc (.cells #[.pointer none] 24)) 32 (kc x.k x.o x.c x.l x.r x.v) (g := w.heap.size + 1) (by simp)).alloc (.cells #[.int .i64 i] 3)).alloc (.cells (kc 0 0 0 0 0 0) 32))
    have HI0 := Lib.hid ((Blk.new_of ((w.alloc (.cells #[.pointer none] 24)).alloc (.cells (kc x.k x.o x.c x.l x.r x.v) 32)) 3 #[.int .i64 i] (g := w.heap.size + 1 + 1) (by simp)).alloc (.cells (kc 0 0 0 0 0 0) 32))
    have HR0 := Lib.hid (Blk.new_of (((w.alloc (.cells #[.pointer none] 24)).alloc (.cells (kc x.k x.o x.c x.l x.r x.v) 32)).alloc (.cells #[.int .i64 i] 3)) 32 (kc 0 0 0 0 0 0) (g := w.heap.size + 1 + 1 + 1) (by simp))
    go_enter Tryd.func14, Tryd.ntmps14
    go_wp2_with (first
      | (go_at_call 33; refine (face_get_no (w.heap.size) (w.heap.size + 1) (w.heap.size + 1 + 1) n (fun W hW => HC.out W _ _ _ (HB0.out.trans (hW.mono HB0.out.size)) (HS0.out.keep hW) (HK0.out.keep hW) (HI0.out.keep hW))).mono ?_; rintro e w1 ⟨rfl, b1⟩; have HB1 := Lib.hid (HB0.out.trans (b1.mono HB0.out.size)); have HR1 := Lib.hid (HR0.out.keep b1); clear b1)
      | (refine wpList_store_big (l0 := kl zk) HR1.out rfl (.tmp 6) (.tmp 10) (ty := 32) (l := kl zk) rfl (by rfl) (by rfl) size30 rfl (kl_one _) ?_))
    exact bodyPost_ret (res_1t rfl _ _ (w.heap.size + 1 + 1 + 1) _ _ rfl rfl (load_key _ (HR1.out.setRow _))) rfl ⟨rfl, below_setRow HB1.out (by omega) _⟩
  ·
    have HB0 := Lib.hid (((((Below.refl w.heap.size w).alloc (Nat.le_refl _) (.cells #[(pv Q)] 24)).alloc (by simp) (.cells (kc x.k x.o x.c x.l x.r x.v) 32)).alloc (by simp; omega) (.cells #[.int .i64 i] 3)).alloc (by simp; omega) (.cells (kc 0 0 0 0 0 0) 32))
    have HS0 := Lib.hid ((((Blk.new_of w 24 #[(pv Q)] (g := w.heap.size) (by simp)).alloc (.cells (kc x.k x.o x.c x.l x.r x.v) 32)).alloc (.cells #[.int .i64 i] 3)).alloc (.cells (kc 0 0 0 0 0 0) 32))
    have HK0 := Lib.hid (((Blk.new_of (w.alloc (.cells #[(pv Q)] 24)) 32 (kc x.k x.o x.c x.l x.r x.v) (g := w.heap.size + 1) (by simp)).alloc (.cells #[.int .i64 i] 3)).alloc (.cells (kc 0 0 0 0 0 0) 32))
    have HI0 := Lib.hid ((Blk.new_of ((w.alloc (.cells #[(pv Q)] 24)).alloc (.cells (kc x.k x.o x.c x.l x.r x.v) 32)) 3 #[.int .i64 i] (g := w.heap.size + 1 + 1) (by simp)).alloc (.cells (kc 0 0 0 0 0 0) 32))
    have HR0 := Lib.hid (Blk.new_of (((w.alloc (.cells #[(pv Q)] 24)).alloc (.cells (kc x.k x.o x.c x.l x.r x.v) 32)).alloc (.cells #[.int .i64 i] 3)) 32 (kc 0 0 0 0 0 0) (g := w.heap.size + 1 + 1 + 1) (by simp))
    go_enter Tryd.func14, Tryd.ntmps14
    go_wp2_with (first
      | (go_at_call 33; refine (face_get_no (w.heap.size) (w.heap.size + 1) (w.heap.size + 1 + 1) n (fun W hW => HC.out W _ _ _ (HB0.out.trans (hW.mono HB0.out.size)) (HS0.out.keep hW) (HK0.out.keep hW) (HI0.out.keep hW))).mono ?_; rintro e w1 ⟨rfl, b1⟩; have HB1 := Lib.hid (HB0.out.trans (b1.mono HB0.out.size)); have HR1 := Lib.hid (HR0.out.keep b1); clear b1)
      | (refine wpList_store_big (l0 := kl zk) HR1.out rfl (.tmp 6) (.tmp 10) (ty := 32) (l := kl zk) rfl (by rfl) (by rfl) size30 rfl (kl_one _) ?_))
    exact bodyPost_ret (res_1t rfl _ _ (w.heap.size + 1 + 1 + 1) _ _ rfl rfl (load_key _ (HR1.out.setRow _))) rfl ⟨rfl, below_setRow HB1.out (by omega) _⟩
set_option maxRecDepth 100000 in
set_option maxHeartbeats 2000000 in
theorem nget_yes  (x : Ky) (i : Int) (g : Ky) (hcl : ∀ (W : World) (S K I : Nat), Below w.heap.size w W → Blk W S 24 #[pv p] → Blk W K 32 (kl x).toArray → Blk W I 3 #[.int .i64 i] → Calls Tryd.prog 34 #[.pointer (some ⟨S, 0, none⟩), .pointer (some ⟨K, 0, none⟩), .pointer (some ⟨I, 0, none⟩)] W fun e w' => e = .returned g.val ∧ Below W.heap.size W w') :
    Calls Tryd.prog 14 #[pv p, x.val, .int .i64 i] w fun e w' => e = .returned (.tuple #[g.val, .int .i64 0]) ∧ Below w.heap.size w w' := by
  have hmf : ∀ (fn : Fn) (first cap : Array Value) (w : World), (Instr.makeFunc fn first cap).run Tryd.prog w = .ok (.func fn first cap) w := fun _ _ _ _ => rfl
  have hz := z95
  have hbs := zks_len
  have HC := Lib.hid hcl
  clear hcl
  ·
    have HB0 := Lib.hid (((((Below.refl w.heap.size w).alloc (Nat.le_refl _) (.cells #[(pv p)] 24)).alloc (by simp) (.cells (kc x.k x.o x.c x.l x.r x.v) 32)).alloc (by simp; omega) (.cells #[.int .i64 i] 3)).alloc (by simp; omega) (.cells (kc 0 0 0 0 0 0) 32))
    have HS0 := Lib.hid ((((Blk.new_of w 24 #[(pv p)] (g := w.heap.size) (by simp)).alloc (.cells (kc x.k x.o x.c x.l x.r x.v) 32)).alloc (.cells #[.int .i64 i] 3)).alloc (.cells (kc 0 0 0 0 0 0) 32))
    have HK0 := Lib.hid (((Blk.new_of (w.alloc (.cells #[(pv p)] 24)) 32 (kc x.k x.o x.c x.l x.r x.v) (g := w.heap.size + 1) (by simp)).alloc (.cells #[.int .i64 i] 3)).alloc (.cells (kc 0 0 0 0 0 0) 32))
    have HI0 := Lib.hid ((Blk.new_of ((w.alloc (.cells #[(pv p)] 24)).alloc (.cells (kc x.k x.o x.c x.l x.r x.v) 32)) 3 #[.int .i64 i] (g := w.heap.size + 1 + 1) (by simp)).alloc (.cells (kc 0 0 0 0 0 0) 32))
    have HR0 := Lib.hid (Blk.new_of (((w.alloc (.cells #[(pv p)] 24)).alloc (.cells (kc x.k x.o x.c x.l x.r x.v) 32)).alloc (.cells #[.int .i64 i] 3)) 32 (kc 0 0 0 0 0 0) (g := w.heap.size + 1 + 1 + 1) (by simp))
    go_enter Tryd.func14, Tryd.ntmps14
    go_wp2_with (first
      | (go_at_call 33; refine (face_get_yes (w.heap.size) (w.heap.size + 1) (w.heap.size + 1 + 1) g (fun _ => False) (fun _ => True) (fun _ h => h.elim) (fun _ _ _ _ _ => trivial) (fun W hW => (HC.out W _ _ _ (HB0.out.trans (hW.mono HB0.out.size)) (HS0.out.keep hW) (HK0.out.keep hW) (HI0.out.keep hW)).mono fun e w' h => ⟨h.1, trivial, Fr.of_below h.2⟩)).mono ?_; rintro e w1 ⟨rfl, _, f1⟩; have b1 := f1.to_below (B := (w.heap.size + 1 + 1 + 1 + 1)) (fun _ h => h.elim) (by have := HR0.out.lt; omega); have HB1 := Lib.hid (HB0.out.trans (b1.mono (by omega))); have HR1 := Lib.hid (HR0.out.below b1 (by omega)); clear b1 f1)
      | (refine wpList_store_big (l0 := kl zk) HR1.out rfl (.tmp 6) (.tmp 10) (ty := 32) (l := kl g) rfl (by rfl) (by rfl) size30 rfl (kl_one _) ?_))
    exact bodyPost_ret (res_1t rfl _ _ (w.heap.size + 1 + 1 + 1) _ _ rfl rfl (load_key _ (HR1.out.setRow _))) rfl ⟨rfl, below_setRow HB1.out (by omega) _⟩
set_option maxRecDepth 100000 in
set_option maxHeartbeats 2000000 in
theorem nput_no (P : Value) (hP : IsP P) (x : Ky) (i : Int) (v : Ky) (n : Int) (hcl : ∀ (W : World) (S K I V : Nat), Below w.heap.size w W → Blk W S 24 #[P] → Blk W K 32 (kl x).toArray → Blk W I 3 #[.int .i64 i] → Blk W V 32 (kl v).toArray → Calls Tryd.prog 38 #[.pointer (some ⟨S, 0, none⟩), .pointer (some ⟨K, 0, none⟩), .pointer (some ⟨I, 0, none⟩), .pointer (some ⟨V, 0, none⟩)] W fun e w' => e = .panicked (erc n) ∧ Below W.heap.size W w') :
    Calls Tryd.prog 15 #[P, x.val, .int .i64 i, v.val] w fun e w' => e = .returned (.tuple #[zk.val, .int .i64 n]) ∧ Below w.heap.size w w' := by
  have hmf : ∀ (fn : Fn) (first cap : Array Value) (w : World), (Instr.makeFunc fn first cap).run Tryd.prog w = .ok (.func fn first cap) w := fun _ _ _ _ => rfl
  have hz := z95
  have hbs := zks_len
  have HC := Lib.hid hcl
  clear hcl
  rcases hP with rfl | ⟨Q, rfl⟩
  ·
    have HB0 := Lib.hid ((((((Below.refl w.heap.size w).alloc (Nat.le_refl _) (.cells #[.pointer none] 24)).alloc (by simp) (.cells (kc x.k x.o x.c x.l x.r x.v) 32)).alloc (by simp; omega) (.cells #[.int .i64 i] 3)).alloc (by simp; omega) (.cells (kc v.k v.o v.c v.l v.r v.v) 32)).alloc (by simp; omega) (.cells (kc 0 0 0 0 0 0) 32))
    have HS0 := Lib.hid (((((Blk.new_of w 24 #[.pointer none] (g := w.heap.size) (by simp)).alloc (.cells (kc x.k x.o x.c x.l x.r x.v) 32)).alloc (.cells #[.int .i64 i] 3)).alloc (.cells (kc v.k v.o v.c v.l v.r v.v) 32)).alloc (.cells (kc 0 0 0 0 0 0) 32))
    have HK0 := Lib.hid ((((Blk.new_of (w.alloc (.cells #[.pointer none] 24)) 32 (kc x.k x.o x.c x.l x.r x.v) (g := w.heap.size + 1) (by simp)).alloc (.cells #[.int .i64 i] 3)).alloc (.cells (kc v.k v.o v.c v.l v.r v.v) 32)).alloc (.cells (kc 0 0 0 0 0 0) 32))
    have HI0 := Lib.hid (((Blk.new_of ((w.alloc (.cells #[.pointer none] 24)).alloc (.cells (kc x.k x.o x.c x.l x.r x.v) 32)) 3 #[.int .i64 i] (g := w.heap.size + 1 + 1) (by simp)).alloc (.cells (kc v.k v.o v.c v.l v.r v.v) 32)).alloc (.cells (kc 0 0 0 0 0 0) 32))
    have HV0 := Lib.hid ((Blk.new_of (((w.alloc (.cells #[.pointer none] 24)).alloc (.cells (kc x.k x.o x.c x.l x.r x.v) 32)).alloc (.cells #[.int .i64 i] 3)) 32 (kc v.k v.o v.c v.l v.r v.v) (g := w.heap.size + 1 + 1 + 1) (by simp)).alloc (.cells (kc 0 0 0 0 0 0) 32))
    have HR0 := Lib.hid (Blk.new_of ((((w.alloc (.cells #[.pointer none] 24)).alloc (.cells (kc x.k x.o x.c x.l x.r x.v) 32)).alloc (.cells #[.int .i64 i] 3)).alloc (.cells (kc v.k v.o v.c v.l v.r v.v) 32)) 32 (kc 0 0 0 0 0 0) (g := w.heap.size + 1 + 1 + 1 + 1) (by simp))
    go_enter Tryd.func15, Tryd.ntmps15
    go_wp2_with (first
      | (go_at_call 33; refine (face_put_no (w.heap.size) (w.heap.size + 1) (w.heap.size + 1 + 1) (w.heap.size + 1 + 1 + 1) n (fun W hW => HC.out W _ _ _ _ (HB0.out.trans (hW.mono HB0.out.size)) (HS0.out.keep hW) (HK0.out.keep hW) (HI0.out.keep hW) (HV0.out.keep hW))).mono ?_; rintro e w1 ⟨rfl, b1⟩; have HB1 := Lib.hid (HB0.out.trans (b1.mono HB0.out.size)); have HR1 := Lib.hid (HR0.out.keep b1); clear b1)
      | (refine wpList_store_big (l0 := kl zk) HR1.out rfl (.tmp 8) (.tmp 12) (ty := 32) (l := kl zk) rfl (by rfl) (by rfl) size30 rfl (kl_one _) ?_))
    exact bodyPost_ret (res_1t rfl _ _ (w.heap.size + 1 + 1 + 1 + 1) _ _ rfl rfl (load_key _ (HR1.out.setRow _))) rfl ⟨rfl, below_setRow HB1.out (by omega) _⟩
  ·
    have HB0 := Lib.hid ((((((Below.refl w.heap.size w).alloc (Nat.le_refl _) (.cells #[(pv Q)] 24)).alloc (by simp) (.cells (kc x.k x.o x.c x.l x.r x.v) 32)).alloc (by simp; omega) (.cells #[.int .i64 i] 3)).alloc (by simp; omega) (.cells (kc v.k v.o v.c v.l v.r v.v) 32)).alloc (by simp; omega) (.cells (kc 0 0 0 0 0 0) 32))
    have HS0 := Lib.hid (((((Blk.new_of w 24 #[(pv Q)] (g := w.heap.size) (by simp)).alloc (.cells (kc x.k x.o x.c x.l x.r x.v) 32)).alloc (.cells #[.int .i64 i] 3)).alloc (.cells (kc v.k v.o v.c v.l v.r v.v) 32)).alloc (.cells (kc 0 0 0 0 0 0) 32))
    have HK0 := Lib.hid ((((Blk.new_of (w.alloc (.cells #[(pv Q)] 24)) 32 (kc x.k x.o x.c x.l x.r x.v) (g := w.heap.size + 1) (by simp)).alloc (.cells #[.int .i64 i] 3)).alloc (.cells (kc v.k v.o v.c v.l v.r v.v) 32)).alloc (.cells (kc 0 0 0 0 0 0) 32))
    have HI0 := Lib.hid (((Blk.new_of ((w.alloc (.cells #[(pv Q)] 24)).alloc (.cells (kc x.k x.o x.c x.l x.r x.v) 32)) 3 #[.int .i64 i] (g := w.heap.size + 1 + 1) (by simp)).alloc (.cells (kc v.k v.o v.c v.l v.r v.v) 32)).alloc (.cells (kc 0 0 0 0 0 0) 32))
    have HV0 := Lib.hid ((Blk.new_of (((w.alloc (.cells #[(pv Q)] 24)).alloc (.cells (kc x.k x.o x.c x.l x.r x.v) 32)).alloc (.cells #[.int .i64 i] 3)) 32 (kc v.k v.o v.c v.l v.r v.v) (g := w.heap.size + 1 + 1 + 1) (by simp)).alloc (.cells (kc 0 0 0 0 0 0) 32))
    have HR0 := Lib.hid (Blk.new_of ((((w.alloc (.cells #[(pv Q)] 24)).alloc (.cells (kc x.k x.o x.c x.l x.r x.v) 32)).alloc (.cells #[.int .i64 i] 3)).alloc (.cells (kc v.k v.o v.c v.l v.r v.v) 32)) 32 (kc 0 0 0 0 0 0) (g := w.heap.size + 1 + 1 + 1 + 1) (by simp))
    go_enter Tryd.func15, Tryd.ntmps15
    go_wp2_with (first
      | (go_at_call 33; refine (face_put_no (w.heap.size) (w.heap.size + 1) (w.heap.size + 1 + 1) (w.heap.size + 1 + 1 + 1) n (fun W hW => HC.out W _ _ _ _ (HB0.out.trans (hW.mono HB0.out.size)) (HS0.out.keep hW) (HK0.out.keep hW) (HI0.out.keep hW) (HV0.out.keep hW))).mono ?_; rintro e w1 ⟨rfl, b1⟩; have HB1 := Lib.hid (HB0.out.trans (b1.mono HB0.out.size)); have HR1 := Lib.hid (HR0.out.keep b1); clear b1)
      | (refine wpList_store_big (l0 := kl zk) HR1.out rfl (.tmp 8) (.tmp 12) (ty := 32) (l := kl zk) rfl (by rfl) (by rfl) size30 rfl (kl_one _) ?_))
    exact bodyPost_ret (res_1t rfl _ _ (w.heap.size + 1 + 1 + 1 + 1) _ _ rfl rfl (load_key _ (HR1.out.setRow _))) rfl ⟨rfl, below_setRow HB1.out (by omega) _⟩
set_option maxRecDepth 100000 in
set_option maxHeartbeats 2000000 in
theorem nput_yes  (x : Ky) (i : Int) (v : Ky) (g : Ky) (os' : List Oj) (hlt : ∀ k, stHas p A ps k → k < w.heap.size) (hcl : ∀ (W : World) (S K I V : Nat), Below w.heap.size w W → Blk W S 24 #[pv p] → Blk W K 32 (kl x).toArray → Blk W I 3 #[.int .i64 i] → Blk W V 32 (kl v).toArray → Calls Tryd.prog 38 #[.pointer (some ⟨S, 0, none⟩), .pointer (some ⟨K, 0, none⟩), .pointer (some ⟨I, 0, none⟩), .pointer (some ⟨V, 0, none⟩)] W fun e w' => e = .returned g.val ∧ StAt w' base p A cap ps os' ∧ Fr (fun k => k ∈ ps) W w') :
    Calls Tryd.prog 15 #[pv p, x.val, .int .i64 i, v.val] w fun e w' => e = .returned (.tuple #[g.val, .int .i64 0]) ∧ StAt w' base p A cap ps os' ∧ Fr (fun k => k ∈ ps) w w' := by
  have hmf : ∀ (fn : Fn) (first cap : Array Value) (w : World), (Instr.makeFunc fn first cap).run Tryd.prog w = .ok (.func fn first cap) w := fun _ _ _ _ => rfl
  have hz := z95
  have hbs := zks_len
  have HC := Lib.hid hcl
  clear hcl
  have HLT := Lib.hid hlt
  clear hlt
  ·
    have HB0 := Lib.hid ((((((Below.refl w.heap.size w).alloc (Nat.le_refl _) (.cells #[(pv p)] 24)).alloc (by simp) (.cells (kc x.k x.o x.c x.l x.r x.v) 32)).alloc (by simp; omega) (.cells #[.int .i64 i] 3)).alloc (by simp; omega) (.cells (kc v.k v.o v.c v.l v.r v.v) 32)).alloc (by simp; omega) (.cells (kc 0 0 0 0 0 0) 32))
    have HS0 := Lib.hid (((((Blk.new_of w 24 #[(pv p)] (g := w.heap.size) (by simp)).alloc (.cells (kc x.k x.o x.c x.l x.r x.v) 32)).alloc (.cells #[.int .i64 i] 3)).alloc (.cells (kc v.k v.o v.c v.l v.r v.v) 32)).alloc (.cells (kc 0 0 0 0 0 0) 32))
    have HK0 := Lib.hid ((((Blk.new_of (w.alloc (.cells #[(pv p)] 24)) 32 (kc x.k x.o x.c x.l x.r x.v) (g := w.heap.size + 1) (by simp)).alloc (.cells #[.int .i64 i] 3)).alloc (.cells (kc v.k v.o v.c v.l v.r v.v) 32)).alloc (.cells (kc 0 0 0 0 0 0) 32))
    have HI0 := Lib.hid (((Blk.new_of ((w.alloc (.cells #[(pv p)] 24)).alloc (.cells (kc x.k x.o x.c x.l x.r x.v) 32)) 3 #[.int .i64 i] (g := w.heap.size + 1 + 1) (by simp)).alloc (.cells (kc v.k v.o v.c v.l v.r v.v) 32)).alloc (.cells (kc 0 0 0 0 0 0) 32))
    have HV0 := Lib.hid ((Blk.new_of (((w.alloc (.cells #[(pv p)] 24)).alloc (.cells (kc x.k x.o x.c x.l x.r x.v) 32)).alloc (.cells #[.int .i64 i] 3)) 32 (kc v.k v.o v.c v.l v.r v.v) (g := w.heap.size + 1 + 1 + 1) (by simp)).alloc (.cells (kc 0 0 0 0 0 0) 32))
    have HR0 := Lib.hid (Blk.new_of ((((w.alloc (.cells #[(pv p)] 24)).alloc (.cells (kc x.k x.o x.c x.l x.r x.v) 32)).alloc (.cells #[.int .i64 i] 3)).alloc (.cells (kc v.k v.o v.c v.l v.r v.v) 32)) 32 (kc 0 0 0 0 0 0) (g := w.heap.size + 1 + 1 + 1 + 1) (by simp))
    go_enter Tryd.func15, Tryd.ntmps15
    go_wp2_with (first
      | (go_at_call 33; refine (face_put_yes (w.heap.size) (w.heap.size + 1) (w.heap.size + 1 + 1) (w.heap.size + 1 + 1 + 1) g (fun k => k ∈ ps) (fun W => StAt W base p A cap ps os') (fun k hk => by have h1 := HLT.out k (.inr (.inr hk)); have h2 := HB0.out.size; omega) (fun W W' hs hsz hk => hs.keep fun k hq => hk k (hs.lt k hq).2 (by have h1 := HLT.out k hq; have h2 := HB0.out.size; omega)) (fun W hW => HC.out W _ _ _ _ (HB0.out.trans (hW.mono HB0.out.size)) (HS0.out.keep hW) (HK0.out.keep hW) (HI0.out.keep hW) (HV0.out.keep hW))).mono ?_; rintro e w1 ⟨rfl, s1, f1⟩; have HS1 := Lib.hid s1; have HF1 := Lib.hid ((Fr.of_below HB0.out : Fr (fun k => k ∈ ps) w _).trans f1); have HR1 := Lib.hid (show Blk w1 (w.heap.size + 1 + 1 + 1 + 1) 32 (kc 0 0 0 0 0 0) from (f1.block _ HR0.out.lt (fun hm => by have := HLT.out _ (.inr (.inr hm)); omega)).trans HR0.out); clear s1 f1)
      | (refine wpList_store_big (l0 := kl zk) HR1.out rfl (.tmp 8) (.tmp 12) (ty := 32) (l := kl g) rfl (by rfl) (by rfl) size30 rfl (kl_one _) ?_))
    exact bodyPost_ret (res_1t rfl _ _ (w.heap.size + 1 + 1 + 1 + 1) _ _ rfl rfl (load_key _ (HR1.out.setRow _))) rfl ⟨rfl, HS1.out.keep (fun k hk => setRow_other _ _ _ _ (by have := HLT.out k hk; omega)), HF1.out.then_ (setRow_fr _ _ _) (fun i hi he => by omega)⟩
set_option maxRecDepth 100000 in
set_option maxHeartbeats 2000000 in
theorem nclear_no (P : Value) (hP : IsP P) (x : Ky) (n : Int) (hcl : ∀ (W : World) (S K : Nat), Below w.heap.size w W → Blk W S 24 #[P] → Blk W K 32 (kl x).toArray → Calls Tryd.prog 44 #[.pointer (some ⟨S, 0, none⟩), .pointer (some ⟨K, 0, none⟩)] W fun e w' => e = .panicked (erc n) ∧ Below W.heap.size W w') :
    Calls Tryd.prog 16 #[P, x.val] w fun e w' => e = .returned (.int .i64 n) ∧ Below w.heap.size w w' := by
  have hmf : ∀ (fn : Fn) (first cap : Array Value) (w : World), (Instr.makeFunc fn first cap).run Tryd.prog w = .ok (.func fn first cap) w := fun _ _ _ _ => rfl
  have hz := z95
  have hbs := zks_len
  have HC := Lib.hid hcl
  clear hcl
  rcases hP with rfl | ⟨Q, rfl⟩
  ·
    have HB0 := Lib.hid (((Below.refl w.heap.size w).alloc (Nat.le_refl _) (.cells #[.pointer none] 24)).alloc (by simp) (.cells (kc x.k x.o x.c x.l x.r x.v) 32))
    have HS0 := Lib.hid ((Blk.new_of w 24 #[.pointer none] (g := w.heap.size) (by simp)).alloc (.cells (kc x.k x.o x.c x.l x.r x.v) 32))
    have HK0 := Lib.hid (Blk.new_of (w.alloc (.cells #[.pointer none] 24)) 32 (kc x.k x.o x.c x.l x.r x.v) (g := w.heap.size + 1) (by simp))
    go_enter Tryd.func16, Tryd.ntmps16
    go_wp2_with (first
      | (go_at_call 43; refine (face_clear_no (w.heap.size) (w.heap.size + 1) n (fun W hW => HC.out W _ _ (HB0.out.trans (hW.mono HB0.out.size)) (HS0.out.keep hW) (HK0.out.keep hW))).mono ?_; rintro e w1 ⟨rfl, b1⟩; have HB1 := Lib.hid ((HB0.out.trans (b1.mono HB0.out.size)).alloc (Nat.le_trans HB0.out.size b1.size) (.cells (kcs zks).toArray 95)); clear b1)
      | (refine wpList_store_new (l := kcs zks) (l0 := kcs zks) (ty := 95) rfl (.tmp 5) (.tmp 10) (by rfl) _ rfl (by rfl) (by rfl) (sl_size (show zks.length = 16 from rfl)) rfl (kcs_one _) ?_))
    go_ret
    exact ⟨rfl, HB1.out⟩
  ·
    have HB0 := Lib.hid (((Below.refl w.heap.size w).alloc (Nat.le_refl _) (.cells #[(pv Q)] 24)).alloc (by simp) (.cells (kc x.k x.o x.c x.l x.r x.v) 32))
    have HS0 := Lib.hid ((Blk.new_of w 24 #[(pv Q)] (g := w.heap.size) (by simp)).alloc (.cells (kc x.k x.o x.c x.l x.r x.v) 32))
    have HK0 := Lib.hid (Blk.new_of (w.alloc (.cells #[(pv Q)] 24)) 32 (kc x.k x.o x.c x.l x.r x.v) (g := w.heap.size + 1) (by simp))
    go_enter Tryd.func16, Tryd.ntmps16
    go_wp2_with (first
      | (go_at_call 43; refine (face_clear_no (w.heap.size) (w.heap.size + 1) n (fun W hW => HC.out W _ _ (HB0.out.trans (hW.mono HB0.out.size)) (HS0.out.keep hW) (HK0.out.keep hW))).mono ?_; rintro e w1 ⟨rfl, b1⟩; have HB1 := Lib.hid ((HB0.out.trans (b1.mono HB0.out.size)).alloc (Nat.le_trans HB0.out.size b1.size) (.cells (kcs zks).toArray 95)); clear b1)
      | (refine wpList_store_new (l := kcs zks) (l0 := kcs zks) (ty := 95) rfl (.tmp 5) (.tmp 10) (by rfl) _ rfl (by rfl) (by rfl) (sl_size (show zks.length = 16 from rfl)) rfl (kcs_one _) ?_))
    go_ret
    exact ⟨rfl, HB1.out⟩
set_option maxRecDepth 100000 in
set_option maxHeartbeats 2000000 in
theorem nclear_yes  (x : Ky) (l : List Ky) (hl : l.length = 16) (os' : List Oj) (hlt : ∀ k, stHas p A ps k → k < w.heap.size) (hcl : ∀ (W : World) (S K : Nat), Below w.heap.size w W → Blk W S 24 #[pv p] → Blk W K 32 (kl x).toArray → Calls Tryd.prog 44 #[.pointer (some ⟨S, 0, none⟩), .pointer (some ⟨K, 0, none⟩)] W fun e w' => e = .returned (.agg (kcs l).toArray) ∧ StAt w' base p A cap ps os' ∧ Fr (fun k => k ∈ ps) W w') :
    Calls Tryd.prog 16 #[pv p, x.val] w fun e w' => e = .returned (.int .i64 0) ∧ StAt w' base p A cap ps os' ∧ Fr (fun k => k ∈ ps) w w' := by
  have hmf : ∀ (fn : Fn) (first cap : Array Value) (w : World), (Instr.makeFunc fn first cap).run Tryd.prog w = .ok (.func fn first cap) w := fun _ _ _ _ => rfl
  have hz := z95
  have hbs := zks_len
  have HC := Lib.hid hcl
  clear hcl
  have HLL := Lib.hid hl
  clear hl
  have HLT := Lib.hid hlt
  clear hlt
  ·
    have HB0 := Lib.hid (((Below.refl w.heap.size w).alloc (Nat.le_refl _) (.cells #[(pv p)] 24)).alloc (by simp) (.cells (kc x.k x.o x.c x.l x.r x.v) 32))
    have HS0 := Lib.hid ((Blk.new_of w 24 #[(pv p)] (g := w.heap.size) (by simp)).alloc (.cells (kc x.k x.o x.c x.l x.r x.v) 32))
    have HK0 := Lib.hid (Blk.new_of (w.alloc (.cells #[(pv p)] 24)) 32 (kc x.k x.o x.c x.l x.r x.v) (g := w.heap.size + 1) (by simp))
    go_enter Tryd.func16, Tryd.ntmps16
    go_wp2_with (first
      | (go_at_call 43; refine (face_clear_yes (w.heap.size) (w.heap.size + 1) l HLL.out (fun k => k ∈ ps) (fun W => StAt W base p A cap ps os') (fun k hk => by have h1 := HLT.out k (.inr (.inr hk)); have h2 := HB0.out.size; omega) (fun W W' hs hsz hk => hs.keep fun k hq => hk k (hs.lt k hq).2 (by have h1 := HLT.out k hq; have h2 := HB0.out.size; omega)) (fun W hW => HC.out W _ _ (HB0.out.trans (hW.mono HB0.out.size)) (HS0.out.keep hW) (HK0.out.keep hW))).mono ?_; rintro e w1 ⟨rfl, s1, f1⟩; have HS1 := Lib.hid (s1.alloc (.cells (kcs l).toArray 95)); have HF1 := Lib.hid (((Fr.of_below HB0.out : Fr (fun k => k ∈ ps) w _).trans f1).alloc (.cells (kcs l).toArray 95)); clear s1 f1)
      | (refine wpList_store_new (l := kcs l) (l0 := kcs zks) (ty := 95) rfl (.tmp 5) (.tmp 10) (by rfl) _ rfl (by rfl) (by rfl) (sl_size HLL.out) (zks_eq HLL.out) (kcs_one _) ?_))
    go_ret
    exact ⟨rfl, HS1.out, HF1.out⟩
set_option maxRecDepth 100000 in
set_option maxHeartbeats 2000000 in
theorem nclone_no (P : Value) (hP : IsP P) (x : Ky) (v : Ky) (n : Int) (hcl : ∀ (W : World) (S K V : Nat), Below w.heap.size w W → Blk W S 24 #[P] → Blk W K 32 (kl x).toArray → Blk W V 32 (kl v).toArray → Calls Tryd.prog 46 #[.pointer (some ⟨S, 0, none⟩), .pointer (some ⟨K, 0, none⟩), .pointer (some ⟨V, 0, none⟩)] W fun e w' => e = .panicked (erc n) ∧ Below W.heap.size W w') :
    Calls Tryd.prog 17 #[P, x.val, v.val] w fun e w' => e = .returned (.int .i64 n) ∧ Below w.heap.size w w' := by
  have hmf : ∀ (fn : Fn) (first cap : Array Value) (w : World), (Instr.makeFunc fn first cap).run Tryd.prog w = .ok (.func fn first cap) w := fun _ _ _ _ => rfl
  have hz := z95
  have hbs := zks_len
  have HC := Lib.hid hcl
  clear hcl
  rcases hP with rfl | ⟨Q, rfl⟩
  ·
    have HB0 := Lib.hid ((((Below.refl w.heap.size w).alloc (Nat.le_refl _) (.cells #[.pointer none] 24)).alloc (by simp) (.cells (kc x.k x.o x.c x.l x.r x.v) 32)).alloc (by simp; omega) (.cells (kc v.k v.o v.c v.l v.r v.v) 32))
    have HS0 := Lib.hid (((Blk.new_of w 24 #[.pointer none] (g := w.heap.size) (by simp)).alloc (.cells (kc x.k x.o x.c x.l x.r x.v) 32)).alloc (.cells (kc v.k v.o v.c v.l v.r v.v) 32))
    have HK0 := Lib.hid ((Blk.new_of (w.alloc (.cells #[.pointer none] 24)) 32 (kc x.k x.o x.c x.l x.r x.v) (g := w.heap.size + 1) (by simp)).alloc (.cells (kc v.k v.o v.c v.l v.r v.v) 32))
    have HV0 := Lib.hid (Blk.new_of ((w.alloc (.cells #[.pointer none] 24)).alloc (.cells (kc x.k x.o x.c x.l x.r x.v) 32)) 32 (kc v.k v.o v.c v.l v.r v.v) (g := w.heap.size + 1 + 1) (by simp))
    go_enter Tryd.func17, Tryd.ntmps17
    go_wp2_with (first
      | (go_at_call 43; refine (face_clone_no (w.heap.size) (w.heap.size + 1) (w.heap.size + 1 + 1) n (fun W hW => HC.out W _ _ _ (HB0.out.trans (hW.mono HB0.out.size)) (HS0.out.keep hW) (HK0.out.keep hW) (HV0.out.keep hW))).mono ?_; rintro e w1 ⟨rfl, b1⟩; have HB1 := Lib.hid ((HB0.out.trans (b1.mono HB0.out.size)).alloc (Nat.le_trans HB0.out.size b1.size) (.cells (kcs zks).toArray 95)); clear b1)
      | (refine wpList_store_new (l := kcs zks) (l0 := kcs zks) (ty := 95) rfl (.tmp 7) (.tmp 12) (by rfl) _ rfl (by rfl) (by rfl) (sl_size (show zks.length = 16 from rfl)) rfl (kcs_one _) ?_))
    go_ret
    exact ⟨rfl, HB1.out⟩
  ·
    have HB0 := Lib.hid ((((Below.refl w.heap.size w).alloc (Nat.le_refl _) (.cells #[(pv Q)] 24)).alloc (by simp) (.cells (kc x.k x.o x.c x.l x.r x.v) 32)).alloc (by simp; omega) (.cells (kc v.k v.o v.c v.l v.r v.v) 32))
    have HS0 := Lib.hid (((Blk.new_of w 24 #[(pv Q)] (g := w.heap.size) (by simp)).alloc (.cells (kc x.k x.o x.c x.l x.r x.v) 32)).alloc (.cells (kc v.k v.o v.c v.l v.r v.v) 32))
    have HK0 := Lib.hid ((Blk.new_of (w.alloc (.cells #[(pv Q)] 24)) 32 (kc x.k x.o x.c x.l x.r x.v) (g := w.heap.size + 1) (by simp)).alloc (.cells (kc v.k v.o v.c v.l v.r v.v) 32))
    have HV0 := Lib.hid (Blk.new_of ((w.alloc (.cells #[(pv Q)] 24)).alloc (.cells (kc x.k x.o x.c x.l x.r x.v) 32)) 32 (kc v.k v.o v.c v.l v.r v.v) (g := w.heap.size + 1 + 1) (by simp))
    go_enter Tryd.func17, Tryd.ntmps17
    go_wp2_with (first
      | (go_at_call 43; refine (face_clone_no (w.heap.size) (w.heap.size + 1) (w.heap.size + 1 + 1) n (fun W hW => HC.out W _ _ _ (HB0.out.trans (hW.mono HB0.out.size)) (HS0.out.keep hW) (HK0.out.keep hW) (HV0.out.keep hW))).mono ?_; rintro e w1 ⟨rfl, b1⟩; have HB1 := Lib.hid ((HB0.out.trans (b1.mono HB0.out.size)).alloc (Nat.le_trans HB0.out.size b1.size) (.cells (kcs zks).toArray 95)); clear b1)
      | (refine wpList_store_new (l := kcs zks) (l0 := kcs zks) (ty := 95) rfl (.tmp 7) (.tmp 12) (by rfl) _ rfl (by rfl) (by rfl) (sl_size (show zks.length = 16 from rfl)) rfl (kcs_one _) ?_))
    go_ret
    exact ⟨rfl, HB1.out⟩
set_option maxRecDepth 100000 in
set_option maxHeartbeats 2000000 in
theorem nclone_yes  (x : Ky) (v : Ky) (l : List Ky) (hl : l.length = 16) (os' : List Oj) (hlt : ∀ k, stHas p A ps k → k < w.heap.size) (hcl : ∀ (W : World) (S K V : Nat), Below w.heap.size w W → Blk W S 24 #[pv p] → Blk W K 32 (kl x).toArray → Blk W V 32 (kl v).toArray → Calls Tryd.prog 46 #[.pointer (some ⟨S, 0, none⟩), .pointer (some ⟨K, 0, none⟩), .pointer (some ⟨V, 0, none⟩)] W fun e w' => e = .returned (.agg (kcs l).toArray) ∧ StAt w' base p A cap ps os' ∧ Fr (fun k => k ∈ ps) W w') :
    Calls Tryd.prog 17 #[pv p, x.val, v.val] w fun e w' => e = .returned (.int .i64 0) ∧ StAt w' base p A cap ps os' ∧ Fr (fun k => k ∈ ps) w w' := by
  have hmf : ∀ (fn : Fn) (first cap : Array Value) (w : World), (Instr.makeFunc fn first cap).run Tryd.prog w = .ok (.func fn first cap) w := fun _ _ _ _ => rfl
  have hz := z95
  have hbs := zks_len
  have HC := Lib.hid hcl
  clear hcl
  have HLL := Lib.hid hl
  clear hl
  have HLT := Lib.hid hlt
  clear hlt
  ·
    have HB0 := Lib.hid ((((Below.refl w.heap.size w).alloc (Nat.le_refl _) (.cells #[(pv p)] 24)).alloc (by simp) (.cells (kc x.k x.o x.c x.l x.r x.v) 32)).alloc (by simp; omega) (.cells (kc v.k v.o v.c v.l v.r v.v) 32))
    have HS0 := Lib.hid (((Blk.new_of w 24 #[(pv p)] (g := w.heap.size) (by simp)).alloc (.cells (kc x.k x.o x.c x.l x.r x.v) 32)).alloc (.cells (kc v.k v.o v.c v.l v.r v.v) 32))
    have HK0 := Lib.hid ((Blk.new_of (w.alloc (.cells #[(pv p)] 24)) 32 (kc x.k x.o x.c x.l x.r x.v) (g := w.heap.size + 1) (by simp)).alloc (.cells (kc v.k v.o v.c v.l v.r v.v) 32))
    have HV0 := Lib.hid (Blk.new_of ((w.alloc (.cells #[(pv p)] 24)).alloc (.cells (kc x.k x.o x.c x.l x.r x.v) 32)) 32 (kc v.k v.o v.c v.l v.r v.v) (g := w.heap.size + 1 + 1) (by simp))
    go_enter Tryd.func17, Tryd.ntmps17
    go_wp2_with (first
      | (go_at_call 43; refine (face_clone_yes (w.heap.size) (w.heap.size + 1) (w.heap.size + 1 + 1) l HLL.out (fun k => k ∈ ps) (fun W => StAt W base p A cap ps os') (fun k hk => by have h1 := HLT.out k (.inr (.inr hk)); have h2 := HB0.out.size; omega) (fun W W' hs hsz hk => hs.keep fun k hq => hk k (hs.lt k hq).2 (by have h1 := HLT.out k hq; have h2 := HB0.out.size; omega)) (fun W hW => HC.out W _ _ _ (HB0.out.trans (hW.mono HB0.out.size)) (HS0.out.keep hW) (HK0.out.keep hW) (HV0.out.keep hW))).mono ?_; rintro e w1 ⟨rfl, s1, f1⟩; have HS1 := Lib.hid (s1.alloc (.cells (kcs l).toArray 95)); have HF1 := Lib.hid (((Fr.of_below HB0.out : Fr (fun k => k ∈ ps) w _).trans f1).alloc (.cells (kcs l).toArray 95)); clear s1 f1)
      | (refine wpList_store_new (l := kcs l) (l0 := kcs zks) (ty := 95) rfl (.tmp 7) (.tmp 12) (by rfl) _ rfl (by rfl) (by rfl) (sl_size HLL.out) (zks_eq HLL.out) (kcs_one _) ?_))
    go_ret
    exact ⟨rfl, HS1.out, HF1.out⟩
set_option maxRecDepth 100000 in
set_option maxHeartbeats 2000000 in
theorem nall_no (P : Value) (hP : IsP P) (x : Ky) (n : Int) (hcl : ∀ (W : World) (S K : Nat), Below w.heap.size w W → Blk W S 24 #[P] → Blk W K 32 (kl x).toArray → Calls Tryd.prog 54 #[.pointer (some ⟨S, 0, none⟩), .pointer (some ⟨K, 0, none⟩)] W fun e w' => e = .panicked (erc n) ∧ Below W.heap.size W w') :
    Calls Tryd.prog 20 #[P, x.val] w fun e w' => e = .returned (.tuple #[.slice none 0 0, .int .i64 n]) ∧ Below w.heap.size w w' := by
  have hmf : ∀ (fn : Fn) (first cap : Array Value) (w : World), (Instr.makeFunc fn first cap).run Tryd.prog w = .ok (.func fn first cap) w := fun _ _ _ _ => rfl
  have hz := z95
  have hbs := zks_len
  have HC := Lib.hid hcl
  clear hcl
  rcases hP with rfl | ⟨Q, rfl⟩
  ·
    have HB0 := Lib.hid (((Below.refl w.heap.size w).alloc (Nat.le_refl _) (.cells #[.pointer none] 24)).alloc (by simp) (.cells (kc x.k x.o x.c x.l x.r x.v) 32))
    have HS0 := Lib.hid ((Blk.new_of w 24 #[.pointer none] (g := w.heap.size) (by simp)).alloc (.cells (kc x.k x.o x.c x.l x.r x.v) 32))
    have HK0 := Lib.hid (Blk.new_of (w.alloc (.cells #[.pointer none] 24)) 32 (kc x.k x.o x.c x.l x.r x.v) (g := w.heap.size + 1) (by simp))
    go_enter Tryd.func20, Tryd.ntmps20
    go_wp2_with (first
      | (go_at_call 53; refine (face_all_no (w.heap.size) (w.heap.size + 1) n (fun W hW => HC.out W _ _ (HB0.out.trans (hW.mono HB0.out.size)) (HS0.out.keep hW) (HK0.out.keep hW))).mono ?_; rintro e w1 ⟨rfl, b1⟩; have HB1 := Lib.hid (HB0.out.trans (b1.mono HB0.out.size)); clear b1))
    go_ret2
    exact ⟨rfl, HB1.out⟩
  ·
    have HB0 := Lib.hid (((Below.refl w.heap.size w).alloc (Nat.le_refl _) (.cells #[(pv Q)] 24)).alloc (by simp) (.cells (kc x.k x.o x.c x.l x.r x.v) 32))
    have HS0 := Lib.hid ((Blk.new_of w 24 #[(pv Q)] (g := w.heap.size) (by simp)).alloc (.cells (kc x.k x.o x.c x.l x.r x.v) 32))
    have HK0 := Lib.hid (Blk.new_of (w.alloc (.cells #[(pv Q)] 24)) 32 (kc x.k x.o x.c x.l x.r x.v) (g := w.heap.size + 1) (by simp))
    go_enter Tryd.func20, Tryd.ntmps20
    go_wp2_with (first
      | (go_at_call 53; refine (face_all_no (w.heap.size) (w.heap.size + 1) n (fun W hW => HC.out W _ _ (HB0.out.trans (hW.mono HB0.out.size)) (HS0.out.keep hW) (HK0.out.keep hW))).mono ?_; rintro e w1 ⟨rfl, b1⟩; have HB1 := Lib.hid (HB0.out.trans (b1.mono HB0.out.size)); clear b1))
    go_ret2
    exact ⟨rfl, HB1.out⟩
set_option maxRecDepth 100000 in
set_option maxHeartbeats 2000000 in
theorem nall_yes  (x : Ky) (l : List Ky) (hcl : ∀ (W : World) (S K : Nat), Below w.heap.size w W → Blk W S 24 #[pv p] → Blk W K 32 (kl x).toArray → Calls Tryd.prog 54 #[.pointer (some ⟨S, 0, none⟩), .pointer (some ⟨K, 0, none⟩)] W fun e w' => ∃ b, e = .returned (.slice (some ⟨b, 0, none⟩) 16 16) ∧ W.heap.size ≤ b ∧ Blk w' b 95 (kcs l).toArray ∧ Below W.heap.size W w') :
    Calls Tryd.prog 20 #[pv p, x.val] w fun e w' => ∃ b, e = .returned (.tuple #[.slice (some ⟨b, 0, none⟩) 16 16, .int .i64 0]) ∧ w.heap.size ≤ b ∧ Blk w' b 95 (kcs l).toArray ∧ Below w.heap.size w w' := by
  have hmf : ∀ (fn : Fn) (first cap : Array Value) (w : World), (Instr.makeFunc fn first cap).run Tryd.prog w = .ok (.func fn first cap) w := fun _ _ _ _ => rfl
  have hz := z95
  have hbs := zks_len
  have HC := Lib.hid hcl
  clear hcl
  ·
    have HB0 := Lib.hid (((Below.refl w.heap.size w).alloc (Nat.le_refl _) (.cells #[(pv p)] 24)).alloc (by simp) (.cells (kc x.k x.o x.c x.l x.r x.v) 32))
    have HS0 := Lib.hid ((Blk.new_of w 24 #[(pv p)] (g := w.heap.size) (by simp)).alloc (.cells (kc x.k x.o x.c x.l x.r x.v) 32))
    have HK0 := Lib.hid (Blk.new_of (w.alloc (.cells #[(pv p)] 24)) 32 (kc x.k x.o x.c x.l x.r x.v) (g := w.heap.size + 1) (by simp))
    go_enter Tryd.func20, Tryd.ntmps20
    go_wp2_with (first
      | (go_at_call 53; refine (face_all_yes (w.heap.size) (w.heap.size + 1) (fun _ => False) (fun v W => ∃ b, v = .slice (some ⟨b, 0, none⟩) 16 16 ∧ w.heap.size + 1 + 1 < b ∧ Blk W b 95 (kcs l).toArray) (fun _ h => h.elim) (fun v W W' hr hsz hk => by obtain ⟨b, h1, h2, h3⟩ := hr; exact ⟨b, h1, h2, (hk b h3.lt (by simp; omega)).trans h3⟩) (fun W hW hlt => (HC.out W _ _ (HB0.out.trans (hW.mono HB0.out.size)) (HS0.out.keep hW) (HK0.out.keep hW)).mono fun e w' h => by obtain ⟨b, h1, h2, h3, h4⟩ := h; exact ⟨_, h1, ⟨b, rfl, by simp at hlt; omega, h3⟩, Fr.of_below h4⟩)).mono ?_; rintro e w1 ⟨v, rfl, ⟨b, rfl, hb, hk⟩, f1⟩; have HBK := Lib.hid hk; have HBL := Lib.hid hb; have b1 := f1.to_below (B := w.heap.size + 1 + 1) (fun _ h => h.elim) (by simp); have HB1 := Lib.hid (HB0.out.trans (b1.mono (by omega))); clear b1 f1 hb hk))
    go_ret2
    exact ⟨b, rfl, by have := HBL.out; omega, HBK.out, HB1.out⟩
end
end Go.Proofs.YtliakhknmckdgaaDoor

/- procs: what is exported, of any store. -/
import Derived.Test.YtljfddeolapeaaaDoorJCl
import Derived.Test.YtljfddeolapeaaaDoorJIc
namespace Go.Proofs.YtljfddeolapeaaaDoor
open Go.RowKit
section
variable {w : World} {base p : Nat} {A : Option Addr} {cap : Nat} {ps : List Nat} {os : List Oj}
set_option maxRecDepth 100000 in
set_option maxHeartbeats 4000000 in
theorem inv_no (h : StAt w base p A cap ps os) (hn : 0 < os.length) (i : Int) (x : Ky) (md : Int) (m : Mg) (n : Int) (hcl : ∀ W, Below w.heap.size w W → Cp W (w.heap.size + 3) w.heap.size (w.heap.size + 2) (w.heap.size + 4) (w.heap.size + 1) 34 24 33 38 3 md p x m i → Calls Tryd.prog 35 #[.pointer (some ⟨w.heap.size + 3, 0, none⟩), .pointer (some ⟨w.heap.size, 0, none⟩), .pointer (some ⟨w.heap.size + 2, 0, none⟩), .pointer (some ⟨w.heap.size + 4, 0, none⟩), .pointer (some ⟨w.heap.size + 1, 0, none⟩)] W fun e w' => e = .panicked (erc n) ∧ Below W.heap.size W w') : Calls Tryd.prog 14 #[pv p, .int .i64 i, x.val, .int .i64 md, m.val] w fun e w' => e = .returned (.int .i64 n) ∧ StAt w' base p A cap ps os ∧ Fr (fun k => k ∈ ps) w w' := by
  have hmf : ∀ (fn : Fn) (first cap : Array Value) (w : World), (Instr.makeFunc fn first cap).run Tryd.prog w = .ok (.func fn first cap) w := fun _ _ _ _ => rfl
  have hml := m.len
  have HB0 := Lib.hid ((((((Below.refl w.heap.size w).alloc (Nat.le_refl _) (.cells #[pv p] 24)).alloc (Nat.le_trans (Nat.le_refl _) (by simp)) (.cells #[.int .i64 i] 3)).alloc (Nat.le_trans (Nat.le_refl _) (by simp; try omega)) (.cells (kc x.k x.o x.c x.l x.r x.v) 33)).alloc (Nat.le_trans (Nat.le_refl _) (by simp; try omega)) (.cells #[.int .i64 md] 34)).alloc (Nat.le_trans (Nat.le_refl _) (by simp; try omega)) (.cells m.cells.toArray 38))
  have HS0 := Lib.hid (((((h.alloc (.cells #[pv p] 24)).alloc (.cells #[.int .i64 i] 3)).alloc (.cells (kc x.k x.o x.c x.l x.r x.v) 33)).alloc (.cells #[.int .i64 md] 34)).alloc (.cells m.cells.toArray 38))
  have HR0 : Hid (Cp (((((w.alloc (.cells #[pv p] 24)).alloc (.cells #[.int .i64 i] 3)).alloc (.cells (kc x.k x.o x.c x.l x.r x.v) 33)).alloc (.cells #[.int .i64 md] 34)).alloc (.cells m.cells.toArray 38)) (w.heap.size + 3) w.heap.size (w.heap.size + 2) (w.heap.size + 4) (w.heap.size + 1) 34 24 33 38 3 md p x m i) := Lib.hid ⟨((Blk.new_of (((w.alloc (.cells #[pv p] 24)).alloc (.cells #[.int .i64 i] 3)).alloc (.cells (kc x.k x.o x.c x.l x.r x.v) 33)) 34 #[.int .i64 md] (g := w.heap.size + 3) (by simp)).alloc (.cells m.cells.toArray 38)), (((((Blk.new_of w 24 #[pv p] (g := w.heap.size) (by simp)).alloc (.cells #[.int .i64 i] 3)).alloc (.cells (kc x.k x.o x.c x.l x.r x.v) 33)).alloc (.cells #[.int .i64 md] 34)).alloc (.cells m.cells.toArray 38)), (((Blk.new_of ((w.alloc (.cells #[pv p] 24)).alloc (.cells #[.int .i64 i] 3)) 33 (kl x).toArray (g := w.heap.size + 2) (by simp)).alloc (.cells #[.int .i64 md] 34)).alloc (.cells m.cells.toArray 38)), (Blk.new_of ((((w.alloc (.cells #[pv p] 24)).alloc (.cells #[.int .i64 i] 3)).alloc (.cells (kc x.k x.o x.c x.l x.r x.v) 33)).alloc (.cells #[.int .i64 md] 34)) 38 m.cells.toArray (g := w.heap.size + 4) (by simp)), ((((Blk.new_of (w.alloc (.cells #[pv p] 24)) 3 #[.int .i64 i] (g := w.heap.size + 1) (by simp)).alloc (.cells (kc x.k x.o x.c x.l x.r x.v) 33)).alloc (.cells #[.int .i64 md] 34)).alloc (.cells m.cells.toArray 38))⟩
  have HSL := Lib.hid (fun k (hk : k ∈ ps) => (h.lt k (.inr (.inr hk))).2)
  have hs1 := (((((Blk.new_of w 24 #[pv p] (g := w.heap.size) (by simp)).alloc (.cells #[.int .i64 i] 3)).alloc (.cells (kc x.k x.o x.c x.l x.r x.v) 33)).alloc (.cells #[.int .i64 md] 34)).alloc (.cells m.cells.toArray 38)).one
  have HN := Lib.hid hn
  have HCL := Lib.hid hcl
  clear h hn hcl
  go_enter Tryd.func14, Tryd.ntmps14
  go_wp2_with (go_at_call 34; refine (jface_inv_no HS0.out HN.out os (.pointer (some ⟨w.heap.size + 3, 0, none⟩)) (.pointer (some ⟨w.heap.size, 0, none⟩)) (.pointer (some ⟨w.heap.size + 2, 0, none⟩)) (.pointer (some ⟨w.heap.size + 4, 0, none⟩)) (.pointer (some ⟨w.heap.size + 1, 0, none⟩)) (fun _ => True) (fun _ _ _ => trivial) (fun k => k ∈ ps) (fun k hk => Nat.lt_of_lt_of_le (HSL.out k hk) HB0.out.size) n (fun W hW => (HCL.out W (HB0.out.trans (hW.mono HB0.out.size)) (HR0.out.keep hW)).mono fun e w' q => ⟨q.1, (HS0.out.below hW).below q.2, trivial, Fr.of_below q.2⟩)).mono ?_; rintro e w1 ⟨rfl, s1, _, f1⟩; have HS1 := Lib.hid s1; have HF1 := Lib.hid ((Fr.of_below HB0.out : Fr (fun k => k ∈ ps) w _).trans f1); clear s1 f1)
  go_ret
  exact ⟨rfl, HS1.out, HF1.out⟩
set_option maxRecDepth 100000 in
set_option maxHeartbeats 4000000 in
theorem inv_yes (h : StAt w base p A cap ps os) (hn : 0 < os.length) (i : Int) (x : Ky) (md : Int) (m : Mg) (L : List Oj) (hcl : ∀ W, Below w.heap.size w W → StAt W base p A cap ps os → Cp W (w.heap.size + 3) w.heap.size (w.heap.size + 2) (w.heap.size + 4) (w.heap.size + 1) 34 24 33 38 3 md p x m i → Calls Tryd.prog 35 #[.pointer (some ⟨w.heap.size + 3, 0, none⟩), .pointer (some ⟨w.heap.size, 0, none⟩), .pointer (some ⟨w.heap.size + 2, 0, none⟩), .pointer (some ⟨w.heap.size + 4, 0, none⟩), .pointer (some ⟨w.heap.size + 1, 0, none⟩)] W fun e w' => e = .returned (.tuple #[]) ∧ StAt w' base p A cap ps L ∧ Fr (fun k => k ∈ ps) W w') : Calls Tryd.prog 14 #[pv p, .int .i64 i, x.val, .int .i64 md, m.val] w fun e w' => e = .returned (.int .i64 0) ∧ StAt w' base p A cap ps L ∧ Fr (fun k => k ∈ ps) w w' := by
  have hmf : ∀ (fn : Fn) (first cap : Array Value) (w : World), (Instr.makeFunc fn first cap).run Tryd.prog w = .ok (.func fn first cap) w := fun _ _ _ _ => rfl
  have hml := m.len
  have HB0 := Lib.hid ((((((Below.refl w.heap.size w).alloc (Nat.le_refl _) (.cells #[pv p] 24)).alloc (Nat.le_trans (Nat.le_refl _) (by simp)) (.cells #[.int .i64 i] 3)).alloc (Nat.le_trans (Nat.le_refl _) (by simp; try omega)) (.cells (kc x.k x.o x.c x.l x.r x.v) 33)).alloc (Nat.le_trans (Nat.le_refl _) (by simp; try omega)) (.cells #[.int .i64 md] 34)).alloc (Nat.le_trans (Nat.le_refl _) (by simp; try omega)) (.cells m.cells.toArray 38))
  have HS0 := Lib.hid (((((h.alloc (.cells #[pv p] 24)).alloc (.cells #[.int .i64 i] 3)).alloc (.cells (kc x.k x.o x.c x.l x.r x.v) 33)).alloc (.cells #[.int .i64 md] 34)).alloc (.cells m.cells.toArray 38))
  have HR0 : Hid (Cp (((((w.alloc (.cells #[pv p] 24)).alloc (.cells #[.int .i64 i] 3)).alloc (.cells (kc x.k x.o x.c x.l x.r x.v) 33)).alloc (.cells #[.int .i64 md] 34)).alloc (.cells m.cells.toArray 38)) (w.heap.size + 3) w.heap.size (w.heap.size + 2) (w.heap.size + 4) (w.heap.size + 1) 34 24 33 38 3 md p x m i) := Lib.hid ⟨((Blk.new_of (((w.alloc (.cells #[pv p] 24)).alloc (.cells #[.int .i64 i] 3)).alloc (.cells (kc x.k x.o x.c x.l x.r x.v) 33)) 34 #[.int .i64 md] (g := w.heap.size + 3) (by simp)).alloc (.cells m.cells.toArray 38)), (((((Blk.new_of w 24 #[pv p] (g := w.heap.size) (by simp)).alloc (.cells #[.int .i64 i] 3)).alloc (.cells (kc x.k x.o x.c x.l x.r x.v) 33)).alloc (.cells #[.int .i64 md] 34)).alloc (.cells m.cells.toArray 38)), (((Blk.new_of ((w.alloc (.cells #[pv p] 24)).alloc (.cells #[.int .i64 i] 3)) 33 (kl x).toArray (g := w.heap.size + 2) (by simp)).alloc (.cells #[.int .i64 md] 34)).alloc (.cells m.cells.toArray 38)), (Blk.new_of ((((w.alloc (.cells #[pv p] 24)).alloc (.cells #[.int .i64 i] 3)).alloc (.cells (kc x.k x.o x.c x.l x.r x.v) 33)).alloc (.cells #[.int .i64 md] 34)) 38 m.cells.toArray (g := w.heap.size + 4) (by simp)), ((((Blk.new_of (w.alloc (.cells #[pv p] 24)) 3 #[.int .i64 i] (g := w.heap.size + 1) (by simp)).alloc (.cells (kc x.k x.o x.c x.l x.r x.v) 33)).alloc (.cells #[.int .i64 md] 34)).alloc (.cells m.cells.toArray 38))⟩
  have HSL := Lib.hid (fun k (hk : k ∈ ps) => (h.lt k (.inr (.inr hk))).2)
  have hs1 := (((((Blk.new_of w 24 #[pv p] (g := w.heap.size) (by simp)).alloc (.cells #[.int .i64 i] 3)).alloc (.cells (kc x.k x.o x.c x.l x.r x.v) 33)).alloc (.cells #[.int .i64 md] 34)).alloc (.cells m.cells.toArray 38)).one
  have HN := Lib.hid hn
  have HCL := Lib.hid hcl
  clear h hn hcl
  go_enter Tryd.func14, Tryd.ntmps14
  go_wp2_with (go_at_call 34; refine (jface_inv_yes HS0.out HN.out L (.pointer (some ⟨w.heap.size + 3, 0, none⟩)) (.pointer (some ⟨w.heap.size, 0, none⟩)) (.pointer (some ⟨w.heap.size + 2, 0, none⟩)) (.pointer (some ⟨w.heap.size + 4, 0, none⟩)) (.pointer (some ⟨w.heap.size + 1, 0, none⟩)) (fun _ => True) (fun _ _ _ => trivial) (fun k => k ∈ ps) (fun k hk => Nat.lt_of_lt_of_le (HSL.out k hk) HB0.out.size) (fun W hW => (HCL.out W (HB0.out.trans (hW.mono HB0.out.size)) (HS0.out.below hW) (HR0.out.keep hW)).mono fun e w' q => ⟨q.1, q.2.1, trivial, q.2.2⟩)).mono ?_; rintro e w1 ⟨rfl, s1, _, f1⟩; have HS1 := Lib.hid s1; have HF1 := Lib.hid ((Fr.of_below HB0.out : Fr (fun k => k ∈ ps) w _).trans f1); clear s1 f1)
  go_ret
  exact ⟨rfl, HS1.out, HF1.out⟩
set_option maxRecDepth 100000 in
set_option maxHeartbeats 4000000 in
theorem ans_no (h : StAt w base p A cap ps os) (hn : 0 < os.length) (i : Int) (m : Mg) (n : Int) (hcl : ∀ W, Below w.heap.size w W → (Blk W w.heap.size 24 #[pv p] ∧ Blk W (w.heap.size + 2) 38 m.cells.toArray ∧ Blk W (w.heap.size + 1) 3 #[.int .i64 i]) → Calls Tryd.prog 61 #[.pointer (some ⟨w.heap.size, 0, none⟩), .pointer (some ⟨w.heap.size + 2, 0, none⟩), .pointer (some ⟨w.heap.size + 1, 0, none⟩)] W fun e w' => e = .panicked (erc n) ∧ Below W.heap.size W w') : Calls Tryd.prog 24 #[pv p, .int .i64 i, m.val] w fun e w' => e = .returned (.int .i64 n) ∧ StAt w' base p A cap ps os ∧ Fr (fun k => k ∈ ps) w w' := by
  have hmf : ∀ (fn : Fn) (first cap : Array Value) (w : World), (Instr.makeFunc fn first cap).run Tryd.prog w = .ok (.func fn first cap) w := fun _ _ _ _ => rfl
  have hml := m.len
  have HB0 := Lib.hid ((((Below.refl w.heap.size w).alloc (Nat.le_refl _) (.cells #[pv p] 24)).alloc (Nat.le_trans (Nat.le_refl _) (by simp)) (.cells #[.int .i64 i] 3)).alloc (Nat.le_trans (Nat.le_refl _) (by simp; try omega)) (.cells m.cells.toArray 38))
  have HS0 := Lib.hid (((h.alloc (.cells #[pv p] 24)).alloc (.cells #[.int .i64 i] 3)).alloc (.cells m.cells.toArray 38))
  have HR0 : Hid ((Blk (((w.alloc (.cells #[pv p] 24)).alloc (.cells #[.int .i64 i] 3)).alloc (.cells m.cells.toArray 38)) w.heap.size 24 #[pv p] ∧ Blk (((w.alloc (.cells #[pv p] 24)).alloc (.cells #[.int .i64 i] 3)).alloc (.cells m.cells.toArray 38)) (w.heap.size + 2) 38 m.cells.toArray ∧ Blk (((w.alloc (.cells #[pv p] 24)).alloc (.cells #[.int .i64 i] 3)).alloc (.cells m.cells.toArray 38)) (w.heap.size + 1) 3 #[.int .i64 i])) := Lib.hid ⟨(((Blk.new_of w 24 #[pv p] (g := w.heap.size) (by simp)).alloc (.cells #[.int .i64 i] 3)).alloc (.cells m.cells.toArray 38)), (Blk.new_of ((w.alloc (.cells #[pv p] 24)).alloc (.cells #[.int .i64 i] 3)) 38 m.cells.toArray (g := w.heap.size + 2) (by simp)), ((Blk.new_of (w.alloc (.cells #[pv p] 24)) 3 #[.int .i64 i] (g := w.heap.size + 1) (by simp)).alloc (.cells m.cells.toArray 38))⟩
  have HSL := Lib.hid (fun k (hk : k ∈ ps) => (h.lt k (.inr (.inr hk))).2)
  have hs1 := (((Blk.new_of w 24 #[pv p] (g := w.heap.size) (by simp)).alloc (.cells #[.int .i64 i] 3)).alloc (.cells m.cells.toArray 38)).one
  have HN := Lib.hid hn
  have HCL := Lib.hid hcl
  clear h hn hcl
  go_enter Tryd.func24, Tryd.ntmps24
  go_wp2_with (go_at_call 34; refine (jface_ans_no HS0.out HN.out os (.pointer (some ⟨w.heap.size, 0, none⟩)) (.pointer (some ⟨w.heap.size + 2, 0, none⟩)) (.pointer (some ⟨w.heap.size + 1, 0, none⟩)) (fun _ => True) (fun _ _ _ => trivial) (fun k => k ∈ ps) (fun k hk => Nat.lt_of_lt_of_le (HSL.out k hk) HB0.out.size) n (fun W hW => (HCL.out W (HB0.out.trans (hW.mono HB0.out.size)) ⟨HR0.out.1.keep hW, HR0.out.2.1.keep hW, HR0.out.2.2.keep hW⟩).mono fun e w' q => ⟨q.1, (HS0.out.below hW).below q.2, trivial, Fr.of_below q.2⟩)).mono ?_; rintro e w1 ⟨rfl, s1, _, f1⟩; have HS1 := Lib.hid s1; have HF1 := Lib.hid ((Fr.of_below HB0.out : Fr (fun k => k ∈ ps) w _).trans f1); clear s1 f1)
  go_ret
  exact ⟨rfl, HS1.out, HF1.out⟩
set_option maxRecDepth 100000 in
set_option maxHeartbeats 4000000 in
theorem ans_yes (h : StAt w base p A cap ps os) (hn : 0 < os.length) (i : Int) (m : Mg) (L : List Oj) (hcl : ∀ W, Below w.heap.size w W → StAt W base p A cap ps os → (Blk W w.heap.size 24 #[pv p] ∧ Blk W (w.heap.size + 2) 38 m.cells.toArray ∧ Blk W (w.heap.size + 1) 3 #[.int .i64 i]) → Calls Tryd.prog 61 #[.pointer (some ⟨w.heap.size, 0, none⟩), .pointer (some ⟨w.heap.size + 2, 0, none⟩), .pointer (some ⟨w.heap.size + 1, 0, none⟩)] W fun e w' => e = .returned (.tuple #[]) ∧ StAt w' base p A cap ps L ∧ Fr (fun k => k ∈ ps) W w') : Calls Tryd.prog 24 #[pv p, .int .i64 i, m.val] w fun e w' => e = .returned (.int .i64 0) ∧ StAt w' base p A cap ps L ∧ Fr (fun k => k ∈ ps) w w' := by
  have hmf : ∀ (fn : Fn) (first cap : Array Value) (w : World), (Instr.makeFunc fn first cap).run Tryd.prog w = .ok (.func fn first cap) w := fun _ _ _ _ => rfl
  have hml := m.len
  have HB0 := Lib.hid ((((Below.refl w.heap.size w).alloc (Nat.le_refl _) (.cells #[pv p] 24)).alloc (Nat.le_trans (Nat.le_refl _) (by simp)) (.cells #[.int .i64 i] 3)).alloc (Nat.le_trans (Nat.le_refl _) (by simp; try omega)) (.cells m.cells.toArray 38))
  have HS0 := Lib.hid (((h.alloc (.cells #[pv p] 24)).alloc (.cells #[.int .i64 i] 3)).alloc (.cells m.cells.toArray 38))
  have HR0 : Hid ((Blk (((w.alloc (.cells #[pv p] 24)).alloc (.cells #[.int .i64 i] 3)).alloc (.cells m.cells.toArray 38)) w.heap.size 24 #[pv p] ∧ Blk (((w.alloc (.cells #[pv p] 24)).alloc (.cells #[.int .i64 i] 3)).alloc (.cells m.cells.toArray 38)) (w.heap.size + 2) 38 m.cells.toArray ∧ Blk (((w.alloc (.cells #[pv p] 24)).alloc (.cells #[.int .i64 i] 3)).alloc (.cells m.cells.toArray 38)) (w.heap.size + 1) 3 #[.int .i64 i])) := Lib.hid ⟨(((Blk.new_of w 24 #[pv p] (g := w.heap.size) (by simp)).alloc (.cells #[.int .i64 i] 3)).alloc (.cells m.cells.toArray 38)), (Blk.new_of ((w.alloc (.cells #[pv p] 24)).alloc (.cells #[.int .i64 i] 3)) 38 m.cells.toArray (g := w.heap.size + 2) (by simp)), ((Blk.new_of (w.alloc (.cells #[pv p] 24)) 3 #[.int .i64 i] (g := w.heap.size + 1) (by simp)).alloc (.cells m.cells.toArray 38))⟩
  have HSL := Lib.hid (fun k (hk : k ∈ ps) => (h.lt k (.inr (.inr hk))).2)
  have hs1 := (((Blk.new_of w 24 #[pv p] (g := w.heap.size) (by simp)).alloc (.cells #[.int .i64 i] 3)).alloc (.cells m.cells.toArray 38)).one
  have HN := Lib.hid hn
  have HCL := Lib.hid hcl
  clear h hn hcl
  go_enter Tryd.func24, Tryd.ntmps24
  go_wp2_with (go_at_call 34; refine (jface_ans_yes HS0.out HN.out L (.pointer (some ⟨w.heap.size, 0, none⟩)) (.pointer (some ⟨w.heap.size + 2, 0, none⟩)) (.pointer (some ⟨w.heap.size + 1, 0, none⟩)) (fun _ => True) (fun _ _ _ => trivial) (fun k => k ∈ ps) (fun k hk => Nat.lt_of_lt_of_le (HSL.out k hk) HB0.out.size) (fun W hW => (HCL.out W (HB0.out.trans (hW.mono HB0.out.size)) (HS0.out.below hW) ⟨HR0.out.1.keep hW, HR0.out.2.1.keep hW, HR0.out.2.2.keep hW⟩).mono fun e w' q => ⟨q.1, q.2.1, trivial, q.2.2⟩)).mono ?_; rintro e w1 ⟨rfl, s1, _, f1⟩; have HS1 := Lib.hid s1; have HF1 := Lib.hid ((Fr.of_below HB0.out : Fr (fun k => k ∈ ps) w _).trans f1); clear s1 f1)
  go_ret
  exact ⟨rfl, HS1.out, HF1.out⟩
set_option maxRecDepth 100000 in
set_option maxHeartbeats 4000000 in
theorem bec_no (h : StAt w base p A cap ps os) (hn : 0 < os.length) (i s : Int) (n : Int) (hcl : ∀ W, Below w.heap.size w W → (Blk W w.heap.size 24 #[pv p] ∧ Blk W (w.heap.size + 1) 3 #[.int .i64 i] ∧ Blk W (w.heap.size + 2) 35 #[.int .i64 s]) → Calls Tryd.prog 64 #[.pointer (some ⟨w.heap.size, 0, none⟩), .pointer (some ⟨w.heap.size + 1, 0, none⟩), .pointer (some ⟨w.heap.size + 2, 0, none⟩)] W fun e w' => e = .panicked (erc n) ∧ Below W.heap.size W w') : Calls Tryd.prog 26 #[pv p, .int .i64 i, .int .i64 s] w fun e w' => e = .returned (.int .i64 n) ∧ StAt w' base p A cap ps os ∧ Fr (fun k => k ∈ ps) w w' := by
  have hmf : ∀ (fn : Fn) (first cap : Array Value) (w : World), (Instr.makeFunc fn first cap).run Tryd.prog w = .ok (.func fn first cap) w := fun _ _ _ _ => rfl
  have HB0 := Lib.hid ((((Below.refl w.heap.size w).alloc (Nat.le_refl _) (.cells #[pv p] 24)).alloc (Nat.le_trans (Nat.le_refl _) (by simp)) (.cells #[.int .i64 i] 3)).alloc (Nat.le_trans (Nat.le_refl _) (by simp; try omega)) (.cells #[.int .i64 s] 35))
  have HS0 := Lib.hid (((h.alloc (.cells #[pv p] 24)).alloc (.cells #[.int .i64 i] 3)).alloc (.cells #[.int .i64 s] 35))
  have HR0 : Hid ((Blk (((w.alloc (.cells #[pv p] 24)).alloc (.cells #[.int .i64 i] 3)).alloc (.cells #[.int .i64 s] 35)) w.heap.size 24 #[pv p] ∧ Blk (((w.alloc (.cells #[pv p] 24)).alloc (.cells #[.int .i64 i] 3)).alloc (.cells #[.int .i64 s] 35)) (w.heap.size + 1) 3 #[.int .i64 i] ∧ Blk (((w.alloc (.cells #[pv p] 24)).alloc (.cells #[.int .i64 i] 3)).alloc (.cells #[.int .i64 s] 35)) (w.heap.size + 2) 35 #[.int .i64 s])) := Lib.hid ⟨(((Blk.new_of w 24 #[pv p] (g := w.heap.size) (by simp)).alloc (.cells #[.int .i64 i] 3)).alloc (.cells #[.int .i64 s] 35)), ((Blk.new_of (w.alloc (.cells #[pv p] 24)) 3 #[.int .i64 i] (g := w.heap.size + 1) (by simp)).alloc (.cells #[.int .i64 s] 35)), (Blk.new_of ((w.alloc (.cells #[pv p] 24)).alloc (.cells #[.int .i64 i] 3)) 35 #[.int .i64 s] (g := w.heap.size + 2) (by simp))⟩
  have HSL := Lib.hid (fun k (hk : k ∈ ps) => (h.lt k (.inr (.inr hk))).2)
  have hs1 := (((Blk.new_of w 24 #[pv p] (g := w.heap.size) (by simp)).alloc (.cells #[.int .i64 i] 3)).alloc (.cells #[.int .i64 s] 35)).one
  have HN := Lib.hid hn
  have HCL := Lib.hid hcl
  clear h hn hcl
  go_enter Tryd.func26, Tryd.ntmps26
  go_wp2_with (go_at_call 34; refine (jface_bec_no HS0.out HN.out os (.pointer (some ⟨w.heap.size, 0, none⟩)) (.pointer (some ⟨w.heap.size + 1, 0, none⟩)) (.pointer (some ⟨w.heap.size + 2, 0, none⟩)) (fun _ => True) (fun _ _ _ => trivial) (fun k => k ∈ ps) (fun k hk => Nat.lt_of_lt_of_le (HSL.out k hk) HB0.out.size) n (fun W hW => (HCL.out W (HB0.out.trans (hW.mono HB0.out.size)) ⟨HR0.out.1.keep hW, HR0.out.2.1.keep hW, HR0.out.2.2.keep hW⟩).mono fun e w' q => ⟨q.1, (HS0.out.below hW).below q.2, trivial, Fr.of_below q.2⟩)).mono ?_; rintro e w1 ⟨rfl, s1, _, f1⟩; have HS1 := Lib.hid s1; have HF1 := Lib.hid ((Fr.of_below HB0.out : Fr (fun k => k ∈ ps) w _).trans f1); clear s1 f1)
  go_ret
  exact ⟨rfl, HS1.out, HF1.out⟩
set_option maxRecDepth 100000 in
set_option maxHeartbeats 4000000 in
theorem bec_yes (h : StAt w base p A cap ps os) (hn : 0 < os.length) (i s : Int) (L : List Oj) (hcl : ∀ W, Below w.heap.size w W → StAt W base p A cap ps os → (Blk W w.heap.size 24 #[pv p] ∧ Blk W (w.heap.size + 1) 3 #[.int .i64 i] ∧ Blk W (w.heap.size + 2) 35 #[.int .i64 s]) → Calls Tryd.prog 64 #[.pointer (some ⟨w.heap.size, 0, none⟩), .pointer (some ⟨w.heap.size + 1, 0, none⟩), .pointer (some ⟨w.heap.size + 2, 0, none⟩)] W fun e w' => e = .returned (.tuple #[]) ∧ StAt w' base p A cap ps L ∧ Fr (fun k => k ∈ ps) W w') : Calls Tryd.prog 26 #[pv p, .int .i64 i, .int .i64 s] w fun e w' => e = .returned (.int .i64 0) ∧ StAt w' base p A cap ps L ∧ Fr (fun k => k ∈ ps) w w' := by
  have hmf : ∀ (fn : Fn) (first cap : Array Value) (w : World), (Instr.makeFunc fn first cap).run Tryd.prog w = .ok (.func fn first cap) w := fun _ _ _ _ => rfl
  have HB0 := Lib.hid ((((Below.refl w.heap.size w).alloc (Nat.le_refl _) (.cells #[pv p] 24)).alloc (Nat.le_trans (Nat.le_refl _) (by simp)) (.cells #[.int .i64 i] 3)).alloc (Nat.le_trans (Nat.le_refl _) (by simp; try omega)) (.cells #[.int .i64 s] 35))
  have HS0 := Lib.hid (((h.alloc (.cells #[pv p] 24)).alloc (.cells #[.int .i64 i] 3)).alloc (.cells #[.int .i64 s] 35))
  have HR0 : Hid ((Blk (((w.alloc (.cells #[pv p] 24)).alloc (.cells #[.int .i64 i] 3)).alloc (.cells #[.int .i64 s] 35)) w.heap.size 24 #[pv p] ∧ Blk (((w.alloc (.cells #[pv p] 24)).alloc (.cells #[.int .i64 i] 3)).alloc (.cells #[.int .i64 s] 35)) (w.heap.size + 1) 3 #[.int .i64 i] ∧ Blk (((w.alloc (.cells #[pv p] 24)).alloc (.cells #[.int .i64 i] 3)).alloc (.cells #[.int .i64 s] 35)) (w.heap.size + 2) 35 #[.int .i64 s])) := Lib.hid ⟨(((Blk.new_of w 24 #[pv p] (g := w.heap.size) (by simp)).alloc (.cells #[.int .i64 i] 3)).alloc (.cells #[.int .i64 s] 35)), ((Blk.new_of (w.alloc (.cells #[pv p] 24)) 3 #[.int .i64 i] (g := w.heap.size + 1) (by simp)).alloc (.cells #[.int .i64 s] 35)), (Blk.new_of ((w.alloc (.cells #[pv p] 24)).alloc (.cells #[.int .i64 i] 3)) 35 #[.int .i64 s] (g := w.heap.size + 2) (by simp))⟩
  have HSL := Lib.hid (fun k (hk : k ∈ ps) => (h.lt k (.inr (.inr hk))).2)
  have hs1 := (((Blk.new_of w 24 #[pv p] (g := w.heap.size) (by simp)).alloc (.cells #[.int .i64 i] 3)).alloc (.cells #[.int .i64 s] 35)).one
  have HN := Lib.hid hn
  have HCL := Lib.hid hcl
  clear h hn hcl
  go_enter Tryd.func26, Tryd.ntmps26
  go_wp2_with (go_at_call 34; refine (jface_bec_yes HS0.out HN.out L (.pointer (some ⟨w.heap.size, 0, none⟩)) (.pointer (some ⟨w.heap.size + 1, 0, none⟩)) (.pointer (some ⟨w.heap.size + 2, 0, none⟩)) (fun _ => True) (fun _ _ _ => trivial) (fun k => k ∈ ps) (fun k hk => Nat.lt_of_lt_of_le (HSL.out k hk) HB0.out.size) (fun W hW => (HCL.out W (HB0.out.trans (hW.mono HB0.out.size)) (HS0.out.below hW) ⟨HR0.out.1.keep hW, HR0.out.2.1.keep hW, HR0.out.2.2.keep hW⟩).mono fun e w' q => ⟨q.1, q.2.1, trivial, q.2.2⟩)).mono ?_; rintro e w1 ⟨rfl, s1, _, f1⟩; have HS1 := Lib.hid s1; have HF1 := Lib.hid ((Fr.of_below HB0.out : Fr (fun k => k ∈ ps) w _).trans f1); clear s1 f1)
  go_ret
  exact ⟨rfl, HS1.out, HF1.out⟩
set_option maxRecDepth 100000 in
set_option maxHeartbeats 4000000 in
theorem tol_no (h : StAt w base p A cap ps os) (hn : 0 < os.length) (i : Int) (hs : stA os i = none) : Calls Tryd.prog 21 #[pv p, .int .i64 i] w fun e w' => e = .returned (.tuple #[mz.val, .int .i64 230]) ∧ Below w.heap.size w w' := by
  have hmf : ∀ (fn : Fn) (first cap : Array Value) (w : World), (Instr.makeFunc fn first cap).run Tryd.prog w = .ok (.func fn first cap) w := fun _ _ _ _ => rfl
  have hz := zM
  have hzl := mz.len
  have HB0 := Lib.hid ((((Below.refl w.heap.size w).alloc (Nat.le_refl _) (.cells #[pv p] 24)).alloc (Nat.le_trans (Nat.le_refl _) (by simp)) (.cells #[.int .i64 i] 3)).alloc (Nat.le_trans (Nat.le_refl _) (by simp; try omega)) (.cells mz.cells.toArray 38))
  have HS0 := Lib.hid (((h.alloc (.cells #[pv p] 24)).alloc (.cells #[.int .i64 i] 3)).alloc (.cells mz.cells.toArray 38))
  have HX0 := Lib.hid (Blk.new_of ((w.alloc (.cells #[pv p] 24)).alloc (.cells #[.int .i64 i] 3)) 38 mz.cells.toArray (g := w.heap.size + 2) (by simp))
  have HI0 := Lib.hid ((Blk.new_of (w.alloc (.cells #[pv p] 24)) 3 #[.int .i64 i] (g := w.heap.size + 1) (by simp)).alloc (.cells mz.cells.toArray 38))
  have HP0 := Lib.hid (((Blk.new_of w 24 #[pv p] (g := w.heap.size) (by simp)).alloc (.cells #[.int .i64 i] 3)).alloc (.cells mz.cells.toArray 38))
  have hs1 := HP0.out.one
  have HSL := Lib.hid (fun k (hk : k ∈ ps) => (h.lt k (.inr (.inr hk))).2)
  have HPL := Lib.hid (fun k (hk : stHas p A ps k) => (h.lt k hk).2)
  have HN := Lib.hid hn
  have HSS := Lib.hid hs
  clear h hn hs
  go_enter Tryd.func21, Tryd.ntmps21
  go_wp2_with (first
    | (go_at_call 34; refine (jface_tol_no HS0.out HN.out os (.pointer (some ⟨w.heap.size, 0, none⟩)) (.pointer (some ⟨w.heap.size + 1, 0, none⟩)) (.pointer (some ⟨w.heap.size + 2, 0, none⟩)) (fun W => Blk W (w.heap.size + 2) 38 mz.cells.toArray) (fun W v hb => Blk.far hb (by simp) v) (fun _ => False) (fun _ h => h.elim) 230 (fun W hW => (to_no (HS0.out.below hW) HN.out i HSS.out (HP0.out.keep hW) (HI0.out.keep hW)).mono fun e w' q => ⟨q.1, (HS0.out.below hW).below q.2, (HX0.out.keep hW).keep q.2, Fr.of_below q.2⟩)).mono ?_; rintro e w1 ⟨rfl, s1, x1, f1⟩; have HX1 := Lib.hid x1; have HB1 := Lib.hid (HB0.out.trans (fr_below f1 HB0.out.size (fun _ _ h => h.elim))); clear s1 x1 f1)
    | (show wpList _ _ _ (Oper.mk (some 9) (.load _ _) _ _ _ _ :: _) _ _; refine wpList_yields (S := fun w' => MgAt w' (w.heap.size + 2) 0 mz) (y_mg (by rfl) (.tmp 4) (by rfl) (w.heap.size + 2) 0 (by rfl) mz (fun _ h => h)) HX1.out.mg ?_)
    | (show wpList _ _ _ (Oper.mk none (.store _ (.tmp 4) (.tmp 9)) _ _ _ _ :: _) _ _; refine wpList_store_big (l0 := (mz).cells) (l := (mz).cells) HX1.out rfl (.tmp 4) (.tmp 9) (ty := 38) rfl (by rfl) (by rfl) (by rw [Mg.len]; exact sizeM) rfl (Mg.one _) ?_))
  exact bodyPost_ret (res_1t rfl _ _ (w.heap.size + 2) _ _ rfl rfl (load_mg (HX1.out.setRow _))) rfl ⟨rfl, below_setRow HB1.out (by omega) _⟩
set_option maxRecDepth 100000 in
set_option maxHeartbeats 4000000 in
theorem tol_yes (h : StAt w base p A cap ps os) (hn : 0 < os.length) (hT : Tab w) (i s : Int) (hs : stA os i = some s) : Calls Tryd.prog 21 #[pv p, .int .i64 i] w fun e w' => e = .returned (.tuple #[(tolM os (objA os i)).val, .int .i64 0]) ∧ Below w.heap.size w w' := by
  have hmf : ∀ (fn : Fn) (first cap : Array Value) (w : World), (Instr.makeFunc fn first cap).run Tryd.prog w = .ok (.func fn first cap) w := fun _ _ _ _ => rfl
  have hz := zM
  have hzl := mz.len
  have hml := (tolM os (objA os i)).len
  have HB0 := Lib.hid ((((Below.refl w.heap.size w).alloc (Nat.le_refl _) (.cells #[pv p] 24)).alloc (Nat.le_trans (Nat.le_refl _) (by simp)) (.cells #[.int .i64 i] 3)).alloc (Nat.le_trans (Nat.le_refl _) (by simp; try omega)) (.cells mz.cells.toArray 38))
  have HS0 := Lib.hid (((h.alloc (.cells #[pv p] 24)).alloc (.cells #[.int .i64 i] 3)).alloc (.cells mz.cells.toArray 38))
  have HX0 := Lib.hid (Blk.new_of ((w.alloc (.cells #[pv p] 24)).alloc (.cells #[.int .i64 i] 3)) 38 mz.cells.toArray (g := w.heap.size + 2) (by simp))
  have HI0 := Lib.hid ((Blk.new_of (w.alloc (.cells #[pv p] 24)) 3 #[.int .i64 i] (g := w.heap.size + 1) (by simp)).alloc (.cells mz.cells.toArray 38))
  have HP0 := Lib.hid (((Blk.new_of w 24 #[pv p] (g := w.heap.size) (by simp)).alloc (.cells #[.int .i64 i] 3)).alloc (.cells mz.cells.toArray 38))
  have hs1 := HP0.out.one
  have HSL := Lib.hid (fun k (hk : k ∈ ps) => (h.lt k (.inr (.inr hk))).2)
  have HPL := Lib.hid (fun k (hk : stHas p A ps k) => (h.lt k hk).2)
  have HN := Lib.hid hn
  have HSS := Lib.hid hs
  have HT0 := Lib.hid (((hT.alloc (.cells #[pv p] 24)).alloc (.cells #[.int .i64 i] 3)).alloc (.cells mz.cells.toArray 38))
  clear h hn hs hT
  go_enter Tryd.func21, Tryd.ntmps21
  go_wp2_with (first
    | (go_at_call 34; refine (jface_tol_yes HS0.out HN.out os (.pointer (some ⟨w.heap.size, 0, none⟩)) (.pointer (some ⟨w.heap.size + 1, 0, none⟩)) (.pointer (some ⟨w.heap.size + 2, 0, none⟩)) (fun W => Blk W (w.heap.size + 2) 38 (tolM os (objA os i)).cells.toArray) (fun W v hb => Blk.far hb (by simp) v) (fun k => k = w.heap.size + 2) (fun k hk => by have := HX0.out.lt; omega) (fun W hW => (to_yes (HS0.out.below hW) HN.out (HT0.out.below hW) i s HSS.out (HP0.out.keep hW) (HI0.out.keep hW) (HX0.out.keep hW)).mono fun e w' q => ⟨q.1, (HS0.out.below hW).fr q.2.2 (fun k hk e => by have := HPL.out k hk; omega), q.2.1, q.2.2⟩)).mono ?_; rintro e w1 ⟨rfl, s1, x1, f1⟩; have HX1 := Lib.hid x1; have HB1 := Lib.hid (HB0.out.trans (fr_below f1 HB0.out.size (fun k hk e => by exfalso; omega))); clear s1 x1 f1)
    | (show wpList _ _ _ (Oper.mk (some 9) (.load _ _) _ _ _ _ :: _) _ _; refine wpList_yields (S := fun w' => MgAt w' (w.heap.size + 2) 0 (tolM os (objA os i))) (y_mg (by rfl) (.tmp 4) (by rfl) (w.heap.size + 2) 0 (by rfl) (tolM os (objA os i)) (fun _ h => h)) HX1.out.mg ?_)
    | (show wpList _ _ _ (Oper.mk none (.store _ (.tmp 4) (.tmp 9)) _ _ _ _ :: _) _ _; refine wpList_store_big (l0 := ((tolM os (objA os i))).cells) (l := ((tolM os (objA os i))).cells) HX1.out rfl (.tmp 4) (.tmp 9) (ty := 38) rfl (by rfl) (by rfl) (by rw [Mg.len]; exact sizeM) rfl (Mg.one _) ?_))
  exact bodyPost_ret (res_1t rfl _ _ (w.heap.size + 2) _ _ rfl rfl (load_mg (HX1.out.setRow _))) rfl ⟨rfl, below_setRow HB1.out (by omega) _⟩
end
end Go.Proofs.YtljfddeolapeaaaDoor

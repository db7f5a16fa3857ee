/- spaces: faced: the face that walks share. -/
import Derived.Test.YtjolojomgfcfbaaDoorWRf
import Derived.Test.YtjolojomgfcfbaaDoorR20
namespace Go.Proofs.YtjolojomgfcfbaaDoor
open Go.RowKit
set_option maxRecDepth 100000 in
set_option maxHeartbeats 1000000 in
theorem catch_fa (b : Nat) (f0 f : Fa) (older : List PanicEntry) (w : World) (hb : Blk w b 41 f0.cells.toArray) :
    CallsD Tryd.prog 24 #[.pointer (some ⟨b, 0, none⟩)] (.panicking ({ v := .iface 41 f.val, recovered := false } :: older)) w fun e u' w' =>
      e = .returned (.tuple #[]) ∧ u' = .panicking ({ v := .iface 41 f.val, recovered := true } :: older) ∧ w' = w.setRow b f.cells.toArray := by
  have hst : (storeVar 41 ⟨b, 0, none⟩ f.val).run Tryd.prog w = .ok () (w.setRow b f.cells.toArray) := by
    have := run_storeVar_part (P := Tryd.prog) (off := 0) (ys := f.cells) 41 hb (by rw [f.len, f0.len]; decide) sizeFa f.one
    rw [List.take_zero, List.nil_append, List.drop_eq_nil_of_le (by rw [f.len, f0.len]; decide), List.append_nil] at this
    exact this
  have hsc : (storeCells ⟨b, 0, none⟩ f.cells).run Tryd.prog w = .ok () (w.setRow b f.cells.toArray) := by
    have := run_storeCells_at Tryd.prog b 0 41 f.cells 0 f0.cells.toArray w hb (by simp [f.len, f0.len]) f.one
    rw [this]
    congr 2
  clear hst
  obtain ⟨l, hl⟩ : ∃ l, l = f.cells := ⟨_, rfl⟩
  have hll : l.length = 8 := by rw [hl]; rfl
  have hta : ∀ w, (Instr.typeAssert (.iface 41 (.agg l.toArray)) 20 41 false).run Tryd.prog w = .ok (.agg l.toArray) w := fun _ => by kernel_rfl
  have hne : ∀ w, (binOp .neq 20 (.iface 41 (.agg l.toArray)) .nilIface).run Tryd.prog w = .ok (.bool true) w := fun _ => by kernel_rfl
  unfold Fa.val
  rw [← hl] at hsc ⊢
  clear hl hb
  refine callsD_of_wpS Tryd.func24 rfl fun c₀ cs hu => ?_
  apply wpS_seq
  apply wpS_region
  simp [wpOpsS, go_sem, recoverD, hu, Tryd.ntmps24, Exit.thenS]
  apply wpS_seq
  apply wpS_region
  simp [wpOpsS, go_sem, hne, Exit.thenS]
  refine wpS_cond (t := true) (by simp [Act.eval, Array.replicate]) ?_
  simp only [if_true]
  apply wpS_region
  simp [wpOpsS, go_sem, hta, hsc, hll, bodyPostS, results, Tryd.results24]
set_option maxRecDepth 8000 in
theorem idle_fa (p : Addr) (w : World) :
    CallsD Tryd.prog 24 #[.pointer (some p)] .returning w fun e u' w' => e = .returned (.tuple #[]) ∧ u' = .returning ∧ w' = w := by
  refine callsD_of_wpS Tryd.func24 rfl fun c₀ cs hu => ?_
  apply wpS_seq
  apply wpS_region
  simp [wpOpsS, go_sem, recoverD, hu, Tryd.ntmps24, Exit.thenS]
  apply wpS_seq
  apply wpS_region
  have hne : ∀ w, (binOp .neq 20 .nilIface .nilIface).run Tryd.prog w = .ok (.bool false) w := fun _ => by kernel_rfl
  simp [wpOpsS, go_sem, hne, Exit.thenS]
  refine wpS_cond (t := false) (by simp [Act.eval, Array.replicate]) ?_
  simp only [Bool.false_eq_true, if_false]
  refine wpS_of_wp (wp_skip ?_)
  cases c₀
  simp_all [bodyPostS, results, Tryd.results24]
set_option maxRecDepth 8000 in
/-- a walk at its start -/
theorem wk_start {W : World} {base q : Nat} {A : Option Addr} {cap : Nat} {ps : List Nat} {os : List Oj} (h : StAt W base q A cap ps os) (hn : 0 < os.length) (ho : okAll os.length os) (hT : Tab W) (x : Ky) (an : Nat) (ha : an ≤ 9223372036854775807) {g : Nat} (hg : g = W.heap.size) :
    WkS (W.alloc (.cells (wkc q (an : Int) x (an : Int) 9 0 zk 0 zk 0) 55)) g base q A cap ps os (an : Int) (ws0 x an) zk 0 := by
  subst hg
  exact ⟨h.alloc _, hn, ho, hT.alloc _, fun b hb e => by have := (h.lt b hb).2; omega, by have := hT.lt; omega, Blk.new W _ _, (show (0 : Nat) < 8 from by decide), ha, (show (0 : Nat) ≤ 8 from by decide)⟩
section
variable {w : World} {base q : Nat} {A : Option Addr} {cap : Nat} {ps : List Nat} {os : List Oj}
set_option maxRecDepth 100000 in
set_option maxHeartbeats 2000000 in
theorem facedWalk_err (P : Value) (B0 : Nat) (x : Ky) (a n m : Int) (hm : m ≠ 0) (hrf : ∀ W, Below w.heap.size w W → Calls Tryd.prog 23 #[P, x.val, .int .i64 a, .int .i64 n] W fun e w' => e = .returned (.int .i64 m) ∧ Below W.heap.size W w') :
    Calls Tryd.prog 11 #[P, x.val, .int .i64 a, .int .i64 n, .func (.func 12) #[] #[.pointer (some ⟨B0, 0, none⟩)]] w fun e w' => e = .returned (.tuple #[zfa.val, .int .i64 m]) ∧ Below w.heap.size w w' := by
  have hmf : ∀ (fn : Fn) (first cap : Array Value) (w : World), (Instr.makeFunc fn first cap).run Tryd.prog w = .ok (.func fn first cap) w := fun _ _ _ _ => rfl
  have HB0 := Lib.hid (((Below.refl w.heap.size w).alloc (Nat.le_refl _) (.cells (kc x.k x.o x.c x.l x.r x.v) 29)).alloc (by simp) (.cells zfa.cells.toArray 41))
  have HK0 := Lib.hid ((Blk.new_of w 29 (kc x.k x.o x.c x.l x.r x.v) (g := w.heap.size) (by simp)).alloc (.cells zfa.cells.toArray 41))
  have HF0 := Lib.hid (Blk.new_of (w.alloc (.cells (kc x.k x.o x.c x.l x.r x.v) 29)) 41 zfa.cells.toArray (g := w.heap.size + 1) (by simp))
  obtain ⟨c0, c1, c2, c3, c4, c5⟩ := HK0.out.six
  have dm : (m != 0) = true := by simpa using hm
  have HR := Lib.hid hrf
  clear hm hrf
  go_enter_defers Tryd.func11, Tryd.ntmps11
  go_wp2_with (first
    | (go_at_call 23; refine (HR.out _ HB0.out).mono ?_; rintro e w1 ⟨rfl, b1⟩; have HB1 := Lib.hid (HB0.out.trans (b1.mono HB0.out.size)); have HF1 := Lib.hid (HF0.out.keep b1); clear b1 c0 c1 c2 c3 c4 c5)
    | (show wpList _ _ _ ({ dst := some 21, op := .build _ _, type := _, pos := _, after := _, guard := _ } :: _) _ _; refine wpList_yields (S := fun _ => True) (y_build (by rfl) (by rfl) builtFa0) trivial ?_)
    | (show wpList _ _ _ ({ dst := none, op := .store _ (.tmp 10) (.tmp 21), type := _, pos := _, after := _, guard := _ } :: _) _ _; refine wpList_store_big (l0 := zfa.cells) HF1.out rfl (.tmp 10) (.tmp 21) (ty := 41) (l := zfa.cells) rfl (by rfl) (by rfl) sizeFa rfl zfa.one ?_))
  unfold bodyPostD
  exact ⟨_, res_1t rfl _ _ (w.heap.size + 1) _ _ rfl rfl (load_fa _ (HF1.out.setRow _)), rfl, below_setRow HB1.out (by omega) _⟩
set_option maxRecDepth 8000 in
theorem toPlace_is {W : World} {g : Nat} {x : Ky} {an : Nat} {ad : Int} {y : Ky} {a : Int} {O : Wo} (H : WkS W g base q A cap ps os ad (ws0 x an) y a) (hO : goneW os x (an : Int) = O) :
    Calls Tryd.prog 25 #[.pointer (some ⟨g, 0, none⟩)] W fun e w' => Came w' g base q A cap ps os ad O e ∧ Fr (fun k => k = g) W w' := by
  have := toPlace_any H
  rw [← hO]
  exact this
set_option maxRecDepth 8000 in
theorem Came.f {W : World} {g : Nat} {ad k : Int} {kp : Ky} {e : Ending} (h : Came W g base q A cap ps os ad (.fault k kp) e) : e = .panicked (faP ⟨k, kp, ad⟩) := by
  rcases h with ⟨k', kp', h1, h2⟩ | ⟨x, a, kp', d, s, h1, _⟩
  · injection h1 with h3 h4
    subst h3 h4
    exact h2
  · cases h1
set_option maxRecDepth 8000 in
theorem Came.y {W : World} {g : Nat} {ad : Int} {x : Ky} {a : Nat} {kp : Ky} {d : Nat} {e : Ending} (h : Came W g base q A cap ps os ad (.found x a kp d) e) : e = .returned (.tuple #[]) ∧ ∃ s, WkS W g base q A cap ps os ad s x (a : Int) ∧ s.kp = kp ∧ s.d = d := by
  rcases h with ⟨k', kp', h1, h2⟩ | ⟨x', a', kp', d', s, h1, h2, h3, h4, h5⟩
  · cases h1
  · injection h1 with e1 e2 e3 e4
    subst e1 e2 e3 e4
    exact ⟨h2, s, h3, h4, h5⟩
set_option maxRecDepth 100000 in
set_option maxHeartbeats 4000000 in
theorem facedWalk_fault (B0 : Nat) (h : StAt w base q A cap ps os) (hn : 0 < os.length) (ho : okAll os.length os) (hT : Tab w) (x : Ky) (an : Nat) (ha : an ≤ 9223372036854775807) (n : Int) (hra : refA os x (an : Int) n = 0) {k : Int} {kp : Ky} (hO : goneW os x (an : Int) = .fault k kp) :
    Calls Tryd.prog 11 #[pv q, x.val, .int .i64 (an : Int), .int .i64 n, .func (.func 12) #[] #[.pointer (some ⟨B0, 0, none⟩)]] w fun e w' => e = .returned (.tuple #[(⟨k, kp, (an : Int)⟩ : Fa).val, .int .i64 0]) ∧ Below w.heap.size w w' := by
  have hmf : ∀ (fn : Fn) (first cap : Array Value) (w : World), (Instr.makeFunc fn first cap).run Tryd.prog w = .ok (.func fn first cap) w := fun _ _ _ _ => rfl
  have HB0 := Lib.hid (((Below.refl w.heap.size w).alloc (Nat.le_refl _) (.cells (kc x.k x.o x.c x.l x.r x.v) 29)).alloc (by simp) (.cells zfa.cells.toArray 41))
  have HK0 := Lib.hid ((Blk.new_of w 29 (kc x.k x.o x.c x.l x.r x.v) (g := w.heap.size) (by simp)).alloc (.cells zfa.cells.toArray 41))
  have HF0 := Lib.hid (Blk.new_of (w.alloc (.cells (kc x.k x.o x.c x.l x.r x.v) 29)) 41 zfa.cells.toArray (g := w.heap.size + 1) (by simp))
  obtain ⟨c0, c1, c2, c3, c4, c5⟩ := HK0.out.six
  have HST := Lib.hid h
  have HN := Lib.hid hn
  have HOK := Lib.hid ho
  have HTT := Lib.hid hT
  have HAN := Lib.hid ha
  have HRA := Lib.hid hra
  have HO := Lib.hid hO
  clear h hn ho hT ha hra hO
  go_enter_defers Tryd.func11, Tryd.ntmps11
  go_wp2_with (first
    | (go_at_call 23; refine (refused_any (HST.out.below HB0.out) HN.out (HTT.out.below HB0.out) x (an : Int) n HRA.out).mono ?_; rintro e w1 ⟨rfl, b1⟩; have HB1 := Lib.hid ((HB0.out.trans (b1.mono HB0.out.size)).alloc (Nat.le_trans HB0.out.size b1.size) (.cells (wkc q (an : Int) x (an : Int) 9 0 zk 0 zk 0) 55)); have HF1 := Lib.hid ((HF0.out.keep b1).alloc (.cells (wkc q (an : Int) x (an : Int) 9 0 zk 0 zk 0) 55)); have HK1 := Lib.hid (HK0.out.keep b1); have HW1 := Lib.hid (wk_start ((HST.out.below HB0.out).below b1) HN.out HOK.out ((HTT.out.below HB0.out).below b1) x an HAN.out (g := w1.heap.size) rfl); have HG := Lib.hid (show w.heap.size + 1 < w1.heap.size from (HF0.out.keep b1).lt); clear b1 c0 c1 c2 c3 c4 c5; obtain ⟨c0, c1, c2, c3, c4, c5⟩ := HK1.out.six)
    | (show wpList _ _ _ ({ dst := some 28, op := .build _ _, type := _, pos := _, after := _, guard := _ } :: _) _ _; refine wpList_yields (S := fun _ => True) (y_build5 (by rfl) (by rfl) (by rfl) (by rfl) (by rfl) (by rfl) (by rfl) (builtWk q (an : Int) x (an : Int) 9)) trivial ?_)
    | (go_at_call 25; refine (toPlace_is HW1.out HO.out).mono ?_; rintro e w2 ⟨hc, f2⟩; obtain rfl := hc.f; have HB2 := Lib.hid (HB1.out.trans (f2.to_below (fun k e => by have := HG.out; omega) HB1.out.size)); have HF2 := Lib.hid (show Blk w2 (w.heap.size + 1) 41 zfa.cells.toArray from (f2.block _ HF1.out.lt (by have := HG.out; omega)).trans HF1.out); clear hc f2 c0 c1 c2 c3 c4 c5))
  refine leaves_cons (f := 24) (args := #[.pointer (some ⟨w.heap.size + 1, 0, none⟩)]) (by simp) (by simp [go_sem]) ?_
  refine (catch_fa (w.heap.size + 1) zfa ⟨k, kp, an⟩ [] _ HF2.out).mono ?_
  rintro e u' w'' ⟨rfl, rfl, rfl⟩
  change Leaves _ _ _ _ [] FrameMode.returning _
  exact ⟨_, res_1t rfl _ _ (w.heap.size + 1) _ _ rfl rfl (load_fa _ (HF2.out.setRow _)), rfl, below_setRow HB2.out (by omega) _⟩
set_option maxRecDepth 100000 in
set_option maxHeartbeats 4000000 in
theorem facedWalk_yes (B0 : Nat) (h : StAt w base q A cap ps os) (hn : 0 < os.length) (ho : okAll os.length os) (hT : Tab w) (x : Ky) (an : Nat) (ha : an ≤ 9223372036854775807) (n : Int) (hra : refA os x (an : Int) n = 0) {y : Ky} {a : Nat} {kp : Ky} {d : Nat} (hO : goneW os x (an : Int) = .found y a kp d)
    (Sb : Nat → Prop) (R : World → Prop) (hSb : ∀ k, Sb k → k < w.heap.size) (hR : ∀ W W' : World, R W → W.heap.size ≤ W'.heap.size → (∀ k, k < W.heap.size → k ≠ w.heap.size + 1 → W'.heap[k]? = W.heap[k]?) → R W')
    (hdo : ∀ (W : World) (g : Nat) (s : Ws), Below w.heap.size w W → w.heap.size ≤ g → WkS W g base q A cap ps os (an : Int) s y (a : Int) → s.kp = kp → s.d = d → Calls Tryd.prog 12 #[.pointer (some ⟨g, 0, none⟩), .pointer (some ⟨B0, 0, none⟩)] W fun e w' => e = .returned (.tuple #[]) ∧ R w' ∧ Fr Sb W w') :
    Calls Tryd.prog 11 #[pv q, x.val, .int .i64 (an : Int), .int .i64 n, .func (.func 12) #[] #[.pointer (some ⟨B0, 0, none⟩)]] w fun e w' => e = .returned (.tuple #[zfa.val, .int .i64 0]) ∧ R w' ∧ Fr Sb w w' := by
  have hmf : ∀ (fn : Fn) (first cap : Array Value) (w : World), (Instr.makeFunc fn first cap).run Tryd.prog w = .ok (.func fn first cap) w := fun _ _ _ _ => rfl
  have HB0 := Lib.hid (((Below.refl w.heap.size w).alloc (Nat.le_refl _) (.cells (kc x.k x.o x.c x.l x.r x.v) 29)).alloc (by simp) (.cells zfa.cells.toArray 41))
  have HK0 := Lib.hid ((Blk.new_of w 29 (kc x.k x.o x.c x.l x.r x.v) (g := w.heap.size) (by simp)).alloc (.cells zfa.cells.toArray 41))
  have HF0 := Lib.hid (Blk.new_of (w.alloc (.cells (kc x.k x.o x.c x.l x.r x.v) 29)) 41 zfa.cells.toArray (g := w.heap.size + 1) (by simp))
  obtain ⟨c0, c1, c2, c3, c4, c5⟩ := HK0.out.six
  have HST := Lib.hid h
  have HN := Lib.hid hn
  have HOK := Lib.hid ho
  have HTT := Lib.hid hT
  have HAN := Lib.hid ha
  have HRA := Lib.hid hra
  have HO := Lib.hid hO
  have HDO := Lib.hid hdo
  have HSB := Lib.hid hSb
  have HRR := Lib.hid hR
  clear h hn ho hT ha hra hO hdo hSb hR
  go_enter_defers Tryd.func11, Tryd.ntmps11
  go_wp2_with (first
    | (go_at_call 23; refine (refused_any (HST.out.below HB0.out) HN.out (HTT.out.below HB0.out) x (an : Int) n HRA.out).mono ?_; rintro e w1 ⟨rfl, b1⟩; have HB1 := Lib.hid ((HB0.out.trans (b1.mono HB0.out.size)).alloc (Nat.le_trans HB0.out.size b1.size) (.cells (wkc q (an : Int) x (an : Int) 9 0 zk 0 zk 0) 55)); have HF1 := Lib.hid ((HF0.out.keep b1).alloc (.cells (wkc q (an : Int) x (an : Int) 9 0 zk 0 zk 0) 55)); have HK1 := Lib.hid (HK0.out.keep b1); have HW1 := Lib.hid (wk_start ((HST.out.below HB0.out).below b1) HN.out HOK.out ((HTT.out.below HB0.out).below b1) x an HAN.out (g := w1.heap.size) rfl); have HG := Lib.hid (show w.heap.size + 1 < w1.heap.size from (HF0.out.keep b1).lt); clear b1 c0 c1 c2 c3 c4 c5; obtain ⟨c0, c1, c2, c3, c4, c5⟩ := HK1.out.six)
    | (show wpList _ _ _ ({ dst := some 28, op := .build _ _, type := _, pos := _, after := _, guard := _ } :: _) _ _; refine wpList_yields (S := fun _ => True) (y_build5 (by rfl) (by rfl) (by rfl) (by rfl) (by rfl) (by rfl) (by rfl) (builtWk q (an : Int) x (an : Int) 9)) trivial ?_)
    | (go_at_call 25; refine (toPlace_is HW1.out HO.out).mono ?_; rintro e w2 ⟨hc, f2⟩; obtain ⟨rfl, s2, hs2, hkp, hdd⟩ := hc.y; have HS2 := Lib.hid hs2; have HKP := Lib.hid hkp; have HDD := Lib.hid hdd; have HB2 := Lib.hid (HB1.out.trans (f2.to_below (fun k e => by have := HG.out; omega) HB1.out.size)); have HF2 := Lib.hid (show Blk w2 (w.heap.size + 1) 41 zfa.cells.toArray from (f2.block _ HF1.out.lt (by have := HG.out; omega)).trans HF1.out); clear hc f2 hs2 hkp hdd c0 c1 c2 c3 c4 c5)
    | (go_at_call 12; refine (HDO.out _ _ s2 HB2.out (by have := HG.out; omega) HS2.out HKP.out HDD.out).mono ?_; rintro e w3 ⟨rfl, hr3, f3⟩; have HR3 := Lib.hid hr3; have HFR3 := Lib.hid ((Fr.of_below HB2.out : Fr Sb w w2).trans f3); have HF3 := Lib.hid (show Blk w3 (w.heap.size + 1) 41 zfa.cells.toArray from (f3.block _ HF2.out.lt (fun hm => by have := HSB.out _ hm; omega)).trans HF2.out); clear hr3 f3)
    | (show wpList _ _ _ ({ dst := some 35, op := .build _ _, type := _, pos := _, after := _, guard := _ } :: _) _ _; refine wpList_yields (S := fun _ => True) (y_build (by rfl) (by rfl) builtFa0) trivial ?_)
    | (show wpList _ _ _ ({ dst := none, op := .store _ (.tmp 10) (.tmp 35), type := _, pos := _, after := _, guard := _ } :: _) _ _; refine wpList_store_big (l0 := zfa.cells) HF3.out rfl (.tmp 10) (.tmp 35) (ty := 41) (l := zfa.cells) rfl (by rfl) (by rfl) sizeFa rfl zfa.one ?_))
  refine leaves_cons (f := 24) (args := #[.pointer (some ⟨w.heap.size + 1, 0, none⟩)]) (by simp) (by simp [go_sem]) ?_
  refine (idle_fa ⟨w.heap.size + 1, 0, none⟩ _).mono ?_
  rintro e u' w'' ⟨rfl, rfl, rfl⟩
  change Leaves _ _ _ _ [] FrameMode.returning _
  exact ⟨_, res_1t rfl _ _ (w.heap.size + 1) _ _ rfl rfl (load_fa _ (HF3.out.setRow _)), rfl, HRR.out _ _ HR3.out (by simp [World.setRow]) (fun k _ hn => setRow_other _ _ _ _ hn), HFR3.out.then_ (setRow_fr _ _ _) (fun i hi he => by omega)⟩
set_option maxRecDepth 100000 in
set_option maxHeartbeats 2000000 in
theorem facedStore_err (P : Value) (B0 B1 : Nat) (x : Ky) (a n m : Int) (hm : m ≠ 0) (hrf : ∀ W, Below w.heap.size w W → Calls Tryd.prog 23 #[P, x.val, .int .i64 a, .int .i64 n] W fun e w' => e = .returned (.int .i64 m) ∧ Below W.heap.size W w') :
    Calls Tryd.prog 11 #[P, x.val, .int .i64 a, .int .i64 n, .func (.func 13) #[] #[.pointer (some ⟨B0, 0, none⟩), .pointer (some ⟨B1, 0, none⟩)]] w fun e w' => e = .returned (.tuple #[zfa.val, .int .i64 m]) ∧ Below w.heap.size w w' := by
  have hmf : ∀ (fn : Fn) (first cap : Array Value) (w : World), (Instr.makeFunc fn first cap).run Tryd.prog w = .ok (.func fn first cap) w := fun _ _ _ _ => rfl
  have HB0 := Lib.hid (((Below.refl w.heap.size w).alloc (Nat.le_refl _) (.cells (kc x.k x.o x.c x.l x.r x.v) 29)).alloc (by simp) (.cells zfa.cells.toArray 41))
  have HK0 := Lib.hid ((Blk.new_of w 29 (kc x.k x.o x.c x.l x.r x.v) (g := w.heap.size) (by simp)).alloc (.cells zfa.cells.toArray 41))
  have HF0 := Lib.hid (Blk.new_of (w.alloc (.cells (kc x.k x.o x.c x.l x.r x.v) 29)) 41 zfa.cells.toArray (g := w.heap.size + 1) (by simp))
  obtain ⟨c0, c1, c2, c3, c4, c5⟩ := HK0.out.six
  have dm : (m != 0) = true := by simpa using hm
  have HR := Lib.hid hrf
  clear hm hrf
  go_enter_defers Tryd.func11, Tryd.ntmps11
  go_wp2_with (first
    | (go_at_call 23; refine (HR.out _ HB0.out).mono ?_; rintro e w1 ⟨rfl, b1⟩; have HB1 := Lib.hid (HB0.out.trans (b1.mono HB0.out.size)); have HF1 := Lib.hid (HF0.out.keep b1); clear b1 c0 c1 c2 c3 c4 c5)
    | (show wpList _ _ _ ({ dst := some 21, op := .build _ _, type := _, pos := _, after := _, guard := _ } :: _) _ _; refine wpList_yields (S := fun _ => True) (y_build (by rfl) (by rfl) builtFa0) trivial ?_)
    | (show wpList _ _ _ ({ dst := none, op := .store _ (.tmp 10) (.tmp 21), type := _, pos := _, after := _, guard := _ } :: _) _ _; refine wpList_store_big (l0 := zfa.cells) HF1.out rfl (.tmp 10) (.tmp 21) (ty := 41) (l := zfa.cells) rfl (by rfl) (by rfl) sizeFa rfl zfa.one ?_))
  unfold bodyPostD
  exact ⟨_, res_1t rfl _ _ (w.heap.size + 1) _ _ rfl rfl (load_fa _ (HF1.out.setRow _)), rfl, below_setRow HB1.out (by omega) _⟩
set_option maxRecDepth 100000 in
set_option maxHeartbeats 4000000 in
theorem facedStore_fault (B0 B1 : Nat) (h : StAt w base q A cap ps os) (hn : 0 < os.length) (ho : okAll os.length os) (hT : Tab w) (x : Ky) (an : Nat) (ha : an ≤ 9223372036854775807) (n : Int) (hra : refA os x (an : Int) n = 0) {k : Int} {kp : Ky} (hO : goneW os x (an : Int) = .fault k kp) :
    Calls Tryd.prog 11 #[pv q, x.val, .int .i64 (an : Int), .int .i64 n, .func (.func 13) #[] #[.pointer (some ⟨B0, 0, none⟩), .pointer (some ⟨B1, 0, none⟩)]] w fun e w' => e = .returned (.tuple #[(⟨k, kp, (an : Int)⟩ : Fa).val, .int .i64 0]) ∧ Below w.heap.size w w' := by
  have hmf : ∀ (fn : Fn) (first cap : Array Value) (w : World), (Instr.makeFunc fn first cap).run Tryd.prog w = .ok (.func fn first cap) w := fun _ _ _ _ => rfl
  have HB0 := Lib.hid (((Below.refl w.heap.size w).alloc (Nat.le_refl _) (.cells (kc x.k x.o x.c x.l x.r x.v) 29)).alloc (by simp) (.cells zfa.cells.toArray 41))
  have HK0 := Lib.hid ((Blk.new_of w 29 (kc x.k x.o x.c x.l x.r x.v) (g := w.heap.size) (by simp)).alloc (.cells zfa.cells.toArray 41))
  have HF0 := Lib.hid (Blk.new_of (w.alloc (.cells (kc x.k x.o x.c x.l x.r x.v) 29)) 41 zfa.cells.toArray (g := w.heap.size + 1) (by simp))
  obtain ⟨c0, c1, c2, c3, c4, c5⟩ := HK0.out.six
  have HST := Lib.hid h
  have HN := Lib.hid hn
  have HOK := Lib.hid ho
  have HTT := Lib.hid hT
  have HAN := Lib.hid ha
  have HRA := Lib.hid hra
  have HO := Lib.hid hO
  clear h hn ho hT ha hra hO
  go_enter_defers Tryd.func11, Tryd.ntmps11
  go_wp2_with (first
    | (go_at_call 23; refine (refused_any (HST.out.below HB0.out) HN.out (HTT.out.below HB0.out) x (an : Int) n HRA.out).mono ?_; rintro e w1 ⟨rfl, b1⟩; have HB1 := Lib.hid ((HB0.out.trans (b1.mono HB0.out.size)).alloc (Nat.le_trans HB0.out.size b1.size) (.cells (wkc q (an : Int) x (an : Int) 9 0 zk 0 zk 0) 55)); have HF1 := Lib.hid ((HF0.out.keep b1).alloc (.cells (wkc q (an : Int) x (an : Int) 9 0 zk 0 zk 0) 55)); have HK1 := Lib.hid (HK0.out.keep b1); have HW1 := Lib.hid (wk_start ((HST.out.below HB0.out).below b1) HN.out HOK.out ((HTT.out.below HB0.out).below b1) x an HAN.out (g := w1.heap.size) rfl); have HG := Lib.hid (show w.heap.size + 1 < w1.heap.size from (HF0.out.keep b1).lt); clear b1 c0 c1 c2 c3 c4 c5; obtain ⟨c0, c1, c2, c3, c4, c5⟩ := HK1.out.six)
    | (show wpList _ _ _ ({ dst := some 28, op := .build _ _, type := _, pos := _, after := _, guard := _ } :: _) _ _; refine wpList_yields (S := fun _ => True) (y_build5 (by rfl) (by rfl) (by rfl) (by rfl) (by rfl) (by rfl) (by rfl) (builtWk q (an : Int) x (an : Int) 9)) trivial ?_)
    | (go_at_call 25; refine (toPlace_is HW1.out HO.out).mono ?_; rintro e w2 ⟨hc, f2⟩; obtain rfl := hc.f; have HB2 := Lib.hid (HB1.out.trans (f2.to_below (fun k e => by have := HG.out; omega) HB1.out.size)); have HF2 := Lib.hid (show Blk w2 (w.heap.size + 1) 41 zfa.cells.toArray from (f2.block _ HF1.out.lt (by have := HG.out; omega)).trans HF1.out); clear hc f2 c0 c1 c2 c3 c4 c5))
  refine leaves_cons (f := 24) (args := #[.pointer (some ⟨w.heap.size + 1, 0, none⟩)]) (by simp) (by simp [go_sem]) ?_
  refine (catch_fa (w.heap.size + 1) zfa ⟨k, kp, an⟩ [] _ HF2.out).mono ?_
  rintro e u' w'' ⟨rfl, rfl, rfl⟩
  change Leaves _ _ _ _ [] FrameMode.returning _
  exact ⟨_, res_1t rfl _ _ (w.heap.size + 1) _ _ rfl rfl (load_fa _ (HF2.out.setRow _)), rfl, below_setRow HB2.out (by omega) _⟩
set_option maxRecDepth 100000 in
set_option maxHeartbeats 4000000 in
theorem facedStore_gave (B0 B1 : Nat) (h : StAt w base q A cap ps os) (hn : 0 < os.length) (ho : okAll os.length os) (hT : Tab w) (x : Ky) (an : Nat) (ha : an ≤ 9223372036854775807) (n : Int) (hra : refA os x (an : Int) n = 0) {y : Ky} {a : Nat} {kp : Ky} {d : Nat} (hO : goneW os x (an : Int) = .found y a kp d) {k : Int}
    (hdo : ∀ (W : World) (g : Nat) (s : Ws), Below w.heap.size w W → WkS W g base q A cap ps os (an : Int) s y (a : Int) → s.kp = kp → Calls Tryd.prog 13 #[.pointer (some ⟨g, 0, none⟩), .pointer (some ⟨B0, 0, none⟩), .pointer (some ⟨B1, 0, none⟩)] W fun e w' => e = .panicked (faP ⟨k, kp, (an : Int)⟩) ∧ Below W.heap.size W w') :
    Calls Tryd.prog 11 #[pv q, x.val, .int .i64 (an : Int), .int .i64 n, .func (.func 13) #[] #[.pointer (some ⟨B0, 0, none⟩), .pointer (some ⟨B1, 0, none⟩)]] w fun e w' => e = .returned (.tuple #[(⟨k, kp, (an : Int)⟩ : Fa).val, .int .i64 0]) ∧ Below w.heap.size w w' := by
  have hmf : ∀ (fn : Fn) (first cap : Array Value) (w : World), (Instr.makeFunc fn first cap).run Tryd.prog w = .ok (.func fn first cap) w := fun _ _ _ _ => rfl
  have HB0 := Lib.hid (((Below.refl w.heap.size w).alloc (Nat.le_refl _) (.cells (kc x.k x.o x.c x.l x.r x.v) 29)).alloc (by simp) (.cells zfa.cells.toArray 41))
  have HK0 := Lib.hid ((Blk.new_of w 29 (kc x.k x.o x.c x.l x.r x.v) (g := w.heap.size) (by simp)).alloc (.cells zfa.cells.toArray 41))
  have HF0 := Lib.hid (Blk.new_of (w.alloc (.cells (kc x.k x.o x.c x.l x.r x.v) 29)) 41 zfa.cells.toArray (g := w.heap.size + 1) (by simp))
  obtain ⟨c0, c1, c2, c3, c4, c5⟩ := HK0.out.six
  have HST := Lib.hid h
  have HN := Lib.hid hn
  have HOK := Lib.hid ho
  have HTT := Lib.hid hT
  have HAN := Lib.hid ha
  have HRA := Lib.hid hra
  have HO := Lib.hid hO
  have HDO := Lib.hid hdo
  clear h hn ho hT ha hra hO hdo
  go_enter_defers Tryd.func11, Tryd.ntmps11
  go_wp2_with (first
    | (go_at_call 23; refine (refused_any (HST.out.below HB0.out) HN.out (HTT.out.below HB0.out) x (an : Int) n HRA.out).mono ?_; rintro e w1 ⟨rfl, b1⟩; have HB1 := Lib.hid ((HB0.out.trans (b1.mono HB0.out.size)).alloc (Nat.le_trans HB0.out.size b1.size) (.cells (wkc q (an : Int) x (an : Int) 9 0 zk 0 zk 0) 55)); have HF1 := Lib.hid ((HF0.out.keep b1).alloc (.cells (wkc q (an : Int) x (an : Int) 9 0 zk 0 zk 0) 55)); have HK1 := Lib.hid (HK0.out.keep b1); have HW1 := Lib.hid (wk_start ((HST.out.below HB0.out).below b1) HN.out HOK.out ((HTT.out.below HB0.out).below b1) x an HAN.out (g := w1.heap.size) rfl); have HG := Lib.hid (show w.heap.size + 1 < w1.heap.size from (HF0.out.keep b1).lt); clear b1 c0 c1 c2 c3 c4 c5; obtain ⟨c0, c1, c2, c3, c4, c5⟩ := HK1.out.six)
    | (show wpList _ _ _ ({ dst := some 28, op := .build _ _, type := _, pos := _, after := _, guard := _ } :: _) _ _; refine wpList_yields (S := fun _ => True) (y_build5 (by rfl) (by rfl) (by rfl) (by rfl) (by rfl) (by rfl) (by rfl) (builtWk q (an : Int) x (an : Int) 9)) trivial ?_)
    | (go_at_call 25; refine (toPlace_is HW1.out HO.out).mono ?_; rintro e w2 ⟨hc, f2⟩; obtain ⟨rfl, s2, hs2, hkp, hdd⟩ := hc.y; have HS2 := Lib.hid hs2; have HKP := Lib.hid hkp; have HDD := Lib.hid hdd; have HB2 := Lib.hid (HB1.out.trans (f2.to_below (fun k e => by have := HG.out; omega) HB1.out.size)); have HF2 := Lib.hid (show Blk w2 (w.heap.size + 1) 41 zfa.cells.toArray from (f2.block _ HF1.out.lt (by have := HG.out; omega)).trans HF1.out); clear hc f2 hs2 hkp hdd c0 c1 c2 c3 c4 c5)
    | (go_at_call 13; refine (HDO.out _ _ s2 HB2.out HS2.out HKP.out).mono ?_; rintro e w3 ⟨rfl, b3⟩; have HB3 := Lib.hid (HB2.out.trans (b3.mono HB2.out.size)); have HF3 := Lib.hid (HF2.out.keep b3); clear b3))
  refine leaves_cons (f := 24) (args := #[.pointer (some ⟨w.heap.size + 1, 0, none⟩)]) (by simp) (by simp [go_sem]) ?_
  refine (catch_fa (w.heap.size + 1) zfa ⟨k, kp, an⟩ [] _ HF3.out).mono ?_
  rintro e u' w'' ⟨rfl, rfl, rfl⟩
  change Leaves _ _ _ _ [] FrameMode.returning _
  exact ⟨_, res_1t rfl _ _ (w.heap.size + 1) _ _ rfl rfl (load_fa _ (HF3.out.setRow _)), rfl, below_setRow HB3.out (by omega) _⟩
set_option maxRecDepth 100000 in
set_option maxHeartbeats 4000000 in
theorem facedStore_yes (B0 B1 : Nat) (h : StAt w base q A cap ps os) (hn : 0 < os.length) (ho : okAll os.length os) (hT : Tab w) (x : Ky) (an : Nat) (ha : an ≤ 9223372036854775807) (n : Int) (hra : refA os x (an : Int) n = 0) {y : Ky} {a : Nat} {kp : Ky} {d : Nat} (hO : goneW os x (an : Int) = .found y a kp d)
    (Sb : Nat → Prop) (R : World → Prop) (hSb : ∀ k, Sb k → k < w.heap.size) (hR : ∀ W W' : World, R W → W.heap.size ≤ W'.heap.size → (∀ k, k < W.heap.size → k ≠ w.heap.size + 1 → W'.heap[k]? = W.heap[k]?) → R W')
    (hdo : ∀ (W : World) (g : Nat) (s : Ws), Below w.heap.size w W → w.heap.size ≤ g → WkS W g base q A cap ps os (an : Int) s y (a : Int) → s.kp = kp → s.d = d → Calls Tryd.prog 13 #[.pointer (some ⟨g, 0, none⟩), .pointer (some ⟨B0, 0, none⟩), .pointer (some ⟨B1, 0, none⟩)] W fun e w' => e = .returned (.tuple #[]) ∧ R w' ∧ Fr Sb W w') :
    Calls Tryd.prog 11 #[pv q, x.val, .int .i64 (an : Int), .int .i64 n, .func (.func 13) #[] #[.pointer (some ⟨B0, 0, none⟩), .pointer (some ⟨B1, 0, none⟩)]] w fun e w' => e = .returned (.tuple #[zfa.val, .int .i64 0]) ∧ R w' ∧ Fr Sb w w' := by
  have hmf : ∀ (fn : Fn) (first cap : Array Value) (w : World), (Instr.makeFunc fn first cap).run Tryd.prog w = .ok (.func fn first cap) w := fun _ _ _ _ => rfl
  have HB0 := Lib.hid (((Below.refl w.heap.size w).alloc (Nat.le_refl _) (.cells (kc x.k x.o x.c x.l x.r x.v) 29)).alloc (by simp) (.cells zfa.cells.toArray 41))
  have HK0 := Lib.hid ((Blk.new_of w 29 (kc x.k x.o x.c x.l x.r x.v) (g := w.heap.size) (by simp)).alloc (.cells zfa.cells.toArray 41))
  have HF0 := Lib.hid (Blk.new_of (w.alloc (.cells (kc x.k x.o x.c x.l x.r x.v) 29)) 41 zfa.cells.toArray (g := w.heap.size + 1) (by simp))
  obtain ⟨c0, c1, c2, c3, c4, c5⟩ := HK0.out.six
  have HST := Lib.hid h
  have HN := Lib.hid hn
  have HOK := Lib.hid ho
  have HTT := Lib.hid hT
  have HAN := Lib.hid ha
  have HRA := Lib.hid hra
  have HO := Lib.hid hO
  have HDO := Lib.hid hdo
  have HSB := Lib.hid hSb
  have HRR := Lib.hid hR
  clear h hn ho hT ha hra hO hdo hSb hR
  go_enter_defers Tryd.func11, Tryd.ntmps11
  go_wp2_with (first
    | (go_at_call 23; refine (refused_any (HST.out.below HB0.out) HN.out (HTT.out.below HB0.out) x (an : Int) n HRA.out).mono ?_; rintro e w1 ⟨rfl, b1⟩; have HB1 := Lib.hid ((HB0.out.trans (b1.mono HB0.out.size)).alloc (Nat.le_trans HB0.out.size b1.size) (.cells (wkc q (an : Int) x (an : Int) 9 0 zk 0 zk 0) 55)); have HF1 := Lib.hid ((HF0.out.keep b1).alloc (.cells (wkc q (an : Int) x (an : Int) 9 0 zk 0 zk 0) 55)); have HK1 := Lib.hid (HK0.out.keep b1); have HW1 := Lib.hid (wk_start ((HST.out.below HB0.out).below b1) HN.out HOK.out ((HTT.out.below HB0.out).below b1) x an HAN.out (g := w1.heap.size) rfl); have HG := Lib.hid (show w.heap.size + 1 < w1.heap.size from (HF0.out.keep b1).lt); clear b1 c0 c1 c2 c3 c4 c5; obtain ⟨c0, c1, c2, c3, c4, c5⟩ := HK1.out.six)
    | (show wpList _ _ _ ({ dst := some 28, op := .build _ _, type := _, pos := _, after := _, guard := _ } :: _) _ _; refine wpList_yields (S := fun _ => True) (y_build5 (by rfl) (by rfl) (by rfl) (by rfl) (by rfl) (by rfl) (by rfl) (builtWk q (an : Int) x (an : Int) 9)) trivial ?_)
    | (go_at_call 25; refine (toPlace_is HW1.out HO.out).mono ?_; rintro e w2 ⟨hc, f2⟩; obtain ⟨rfl, s2, hs2, hkp, hdd⟩ := hc.y; have HS2 := Lib.hid hs2; have HKP := Lib.hid hkp; have HDD := Lib.hid hdd; have HB2 := Lib.hid (HB1.out.trans (f2.to_below (fun k e => by have := HG.out; omega) HB1.out.size)); have HF2 := Lib.hid (show Blk w2 (w.heap.size + 1) 41 zfa.cells.toArray from (f2.block _ HF1.out.lt (by have := HG.out; omega)).trans HF1.out); clear hc f2 hs2 hkp hdd c0 c1 c2 c3 c4 c5)
    | (go_at_call 13; refine (HDO.out _ _ s2 HB2.out (by have := HG.out; omega) HS2.out HKP.out HDD.out).mono ?_; rintro e w3 ⟨rfl, hr3, f3⟩; have HR3 := Lib.hid hr3; have HFR3 := Lib.hid ((Fr.of_below HB2.out : Fr Sb w w2).trans f3); have HF3 := Lib.hid (show Blk w3 (w.heap.size + 1) 41 zfa.cells.toArray from (f3.block _ HF2.out.lt (fun hm => by have := HSB.out _ hm; omega)).trans HF2.out); clear hr3 f3)
    | (show wpList _ _ _ ({ dst := some 35, op := .build _ _, type := _, pos := _, after := _, guard := _ } :: _) _ _; refine wpList_yields (S := fun _ => True) (y_build (by rfl) (by rfl) builtFa0) trivial ?_)
    | (show wpList _ _ _ ({ dst := none, op := .store _ (.tmp 10) (.tmp 35), type := _, pos := _, after := _, guard := _ } :: _) _ _; refine wpList_store_big (l0 := zfa.cells) HF3.out rfl (.tmp 10) (.tmp 35) (ty := 41) (l := zfa.cells) rfl (by rfl) (by rfl) sizeFa rfl zfa.one ?_))
  refine leaves_cons (f := 24) (args := #[.pointer (some ⟨w.heap.size + 1, 0, none⟩)]) (by simp) (by simp [go_sem]) ?_
  refine (idle_fa ⟨w.heap.size + 1, 0, none⟩ _).mono ?_
  rintro e u' w'' ⟨rfl, rfl, rfl⟩
  change Leaves _ _ _ _ [] FrameMode.returning _
  exact ⟨_, res_1t rfl _ _ (w.heap.size + 1) _ _ rfl rfl (load_fa _ (HF3.out.setRow _)), rfl, HRR.out _ _ HR3.out (by simp [World.setRow]) (fun k _ hn => setRow_other _ _ _ _ hn), HFR3.out.then_ (setRow_fr _ _ _) (fun i hi he => by omega)⟩
end
end Go.Proofs.YtjolojomgfcfbaaDoor

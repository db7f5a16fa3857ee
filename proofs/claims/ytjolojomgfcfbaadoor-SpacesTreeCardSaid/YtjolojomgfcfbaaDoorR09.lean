/- objects: Get. -/
import Derived.Test.YtjolojomgfcfbaaDoorR08
import Derived.Test.YtjolojomgfcfbaaDoorR05
namespace Go.Proofs.YtjolojomgfcfbaaDoor
open Go.RowKit
section
variable {ops : Array Oper} {rest : List Oper} {o : Oper} {a : Act} {Q : Exit → Act → World → Prop}
set_option maxRecDepth 8000 in
/-- the block that was made last is stored whole -/
theorem wpList_store_last {W : World} {t : TypeId} (hgd : o.guard = none) (x y : Operand) (ho : o.op = .store 33 x y) (b : Nat) (hb : b = W.heap.size) (hx : a.eval x = .pointer (some ⟨b, 0, none⟩)) (u u0 : Oj) (hy : a.eval y = u.val)
    (h : wpList Tryd.prog ops Q rest (a.put o.dst undef) (W.alloc (.cells u.cells.toArray t))) : wpList Tryd.prog ops Q (o :: rest) a (W.alloc (.cells u0.cells.toArray t)) := by
  subst hb
  refine wpList_store_row hgd 33 x y ho W.heap.size u.cells.toArray hx hy t u0.cells.toArray (heap_alloc_new W _) (by rw [List.size_toArray, u.len]; exact size34) (by rw [List.size_toArray, List.size_toArray, u.len, u0.len]) u.allOne ?_
  rw [World.setRow_alloc_new]
  exact h
/-- a block that is known whole is stored whole -/
theorem wpList_store_ob {w : World} {t : TypeId} {b : Nat} {u0 : Oj} (hb : Blk w b t u0.cells.toArray) (hgd : o.guard = none) (x y : Operand) (ho : o.op = .store 33 x y) (hx : a.eval x = .pointer (some ⟨b, 0, none⟩)) (u : Oj) (hy : a.eval y = u.val)
    (h : wpList Tryd.prog ops Q rest (a.put o.dst undef) (w.setRow b u.cells.toArray)) : wpList Tryd.prog ops Q (o :: rest) a w :=
  wpList_store_row hgd 33 x y ho b u.cells.toArray hx hy t u0.cells.toArray hb (by rw [List.size_toArray, u.len]; exact size34) (by rw [List.size_toArray, List.size_toArray, u.len, u0.len]) u.allOne h
end
set_option maxRecDepth 8000 in
theorem results_obj {fn : Func} {p q : Tmp} (h : fn.results = #[.cell p 33, .tmp q]) (tmps : Array Value) (w : World) (g : Nat) (u : Oj)
    (hp : tmps.getD p undef = .pointer (some ⟨g, 0, none⟩)) (hg : Blk w g 33 u.cells.toArray) : (results fn tmps).run Tryd.prog w = .ok (.tuple #[u.val, tmps.getD q undef]) w := by
  have hp' : tmps[p]?.getD undef = .pointer (some ⟨g, 0, none⟩) := by simpa using hp
  have hl := run_loadVar_row (P := Tryd.prog) w g 33 33 u.cells.toArray (0, 0) _ hg Tryd.underlying33 rfl (by rw [List.size_toArray, u.len]; exact size34)
  simp [results, h, hp', asAddr, hl]
section
variable {w : World} {base p : Nat} {A : Option Addr} {cap : Nat} {ps : List Nat} {os : List Oj}
set_option maxRecDepth 8000 in
set_option maxHeartbeats 1000000 in
theorem get_no (x : Value) (n : Int) (e : Int) (he : e ≠ 0) (ha : ∀ W, Below w.heap.size w W → Calls Tryd.prog 53 #[x, .int .i64 n] W fun e' w' => e' = .returned (.int .i64 e) ∧ W = w') (hx : x = .pointer none ∨ ∃ q, x = pv q) :
    Calls Tryd.prog 52 #[x, .int .i64 n] w fun e' w' => e' = .returned (.tuple #[oz.val, .int .i64 e]) ∧ Below w.heap.size w w' := by
  have hz := z34
  have HA := Lib.hid ha
  have HB := Lib.hid ((Below.refl w.heap.size w).alloc (Nat.le_refl _) (.cells oz.cells.toArray 33))
  have de : (e != 0) = true := by simpa using he
  have hbl := oz_len
  clear ha he
  rcases hx with rfl | ⟨q, rfl⟩
  all_goals
    go_enter Tryd.func52, Tryd.ntmps52
    go_wp2_with (first
      | (go_at_call 53; refine (HA.out _ HB.out).mono ?_; rintro e w1 ⟨rfl, rfl⟩)
      | (refine wpList_yields (S := fun _ => True) (y_build (by rfl) (by rfl) built34) trivial ?_)
      | (refine wpList_store_last rfl (.tmp 4) (.tmp 12) rfl _ rfl rfl oz oz rfl ?_))
    exact bodyPost_ret (results_obj rfl _ _ w.heap.size oz rfl (Blk.new w _ _)) rfl ⟨rfl, HB.out⟩
theorem get_out (h : StAt w base p A cap ps os) (hn : 0 < os.length) (n : Int) (hi : n < 0 ∨ (os.length : Int) ≤ n) : Calls Tryd.prog 52 #[pv p, .int .i64 n] w fun e' w' => e' = .returned (.tuple #[oz.val, .int .i64 4]) ∧ Below w.heap.size w w' :=
  get_no _ n 4 (by decide) (fun _ hb => asked_no (h.below hb) hn n hi) (.inr ⟨p, rfl⟩)
set_option maxRecDepth 8000 in
set_option maxHeartbeats 1000000 in
theorem get_at (h : StAt w base p A cap ps os) (i : Nat) (hi : i < os.length) :
    Calls Tryd.prog 52 #[pv p, .int .i64 (i : Int)] w fun e' w' => e' = .returned (.tuple #[os[i].val, .int .i64 0]) ∧ Below w.heap.size w w' := by
  have hz := z34
  have HS := Lib.hid (h.alloc (.cells oz.cells.toArray 33))
  have HB := Lib.hid (fun (u : Oj) => (Below.refl w.heap.size w).alloc (Nat.le_refl _) (.cells u.cells.toArray 33))
  have HI := Lib.hid hi
  have hbl := oz_len
  obtain ⟨g, b, o, rfl, hc, ho, hob⟩ := HS.out.at_ hi
  have HO := Lib.hid hob
  have c0 := HS.out.c0
  rw [ho]
  have hil : (i : Int) < (os.length : Int) := by omega
  clear h ho hob hi
  go_enter Tryd.func52, Tryd.ntmps52
  go_wp2_with (first
    | (go_at_call 53; refine (asked_ok HS.out i HI.out).mono ?_; rintro e w1 ⟨rfl, rfl⟩)
    | (refine wpList_yields (S := fun w' => ObAt w' b 0 o) (y_ob (by rfl) (.tmp 21) (by rfl) b 0 (by rfl) o (fun _ h => h)) HO.out ?_)
    | (refine wpList_store_last rfl (.tmp 4) (.tmp 22) rfl _ rfl rfl o oz rfl ?_))
  exact bodyPost_ret (results_obj rfl _ _ w.heap.size o rfl (Blk.new w _ _)) rfl ⟨rfl, HB.out o⟩
end
end Go.Proofs.YtjolojomgfcfbaaDoor
namespace Go.Proofs.YtjolojomgfcfbaaDoor
open Go.RowKit
section
variable {P : Program} {ops : Array Oper} {Q : Exit → Act → World → Prop} {md : Region.Mode} {S : World → Prop} {z : Nat}
/-- whatever order is picked from here on, and S holds behind each operation but z -/
def wpAnyU (P : Program) (md : Region.Mode) (ops : Array Oper) (Q : Exit → Act → World → Prop) (S : World → Prop) (z : Nat) : Nat → Array Bool → Act → World → Prop
  | 0, listed, a, w => Region.ready md ops listed = [] ∧ Q .normal a w
  | fuel + 1, listed, a, w => (Region.ready md ops listed = [] → Q .normal a w) ∧
    ∀ i ∈ Region.ready md ops listed, wpOp P ops Q i (fun a' w' => (i = z ∨ S w') ∧ wpAnyU P md ops Q S z fuel (listed.setIfInBounds i true) a' w') a w
theorem wpAny_of_U : ∀ (fuel : Nat) (listed : Array Bool) (a : Act) (w : World), wpAnyU P md ops Q S z fuel listed a w → wpAny P md ops Q fuel listed a w
  | 0, _, _, _, h => h
  | fuel + 1, _, _, _, h => ⟨h.1, fun i hi => wpOp_mono (fun a' w' h' => wpAny_of_U fuel _ a' w' h'.2) (h.2 i hi)⟩
/-- does z wait for i? -/
def waitsB (md : Region.Mode) (ops : Array Oper) (z i : Nat) : Bool := match ops[z]? with | some o => o.after.any fun e => Region.binds md e && e.on == i | none => false
set_option maxRecDepth 8000 in
theorem not_ready_z {i : Nat} {listed : Array Bool} (hz : waitsB md ops z i = true) (hi : i ∈ Region.ready md ops listed) : z ∉ Region.ready md ops listed := by
  intro hr
  obtain ⟨_, oz, hoz, haft⟩ := mem_ready.1 hr
  unfold waitsB at hz
  rw [hoz] at hz
  simp only [Array.any_eq_true, Bool.and_eq_true, beq_iff_eq] at hz
  obtain ⟨k, hk, hb, he⟩ := hz
  have h1 := haft _ (Array.getElem_mem hk) hb
  have h0 := (mem_ready.1 hi).1
  rw [he] at h1
  by_cases hlt : i < listed.size
  · simp [hlt] at h0 h1
    rw [h0] at h1
    cases h1
  · simp [Array.getElem?_eq_none (Nat.le_of_not_lt hlt)] at h1
set_option maxRecDepth 8000 in
theorem wpAnyU_first {i : Nat} {oi : Oper} {v : Value} (hi : ops[i]? = some oi) (hsel : ∀ (j : Nat) (o : Oper) cs b, ops[j]? = some o → o.op ≠ .select cs b) (hQ : ∀ c a w, Q (.panic c) (a.put oi.dst v) w → Q (.panic c) a w) (hz : waitsB md ops z i = true) (fuel : Nat) :
    ∀ (listed : Array Bool) (a : Act) (w : World), (∀ j oj, ops[j]? = some oj → j ≠ i → listed.getD j true = false → (∀ e ∈ oj.after, Region.binds md e = true → e.on ≠ i) → oi.apart ops oj = true) →
      i ∈ Region.ready md ops listed → YieldsIf P ops S oi v a → S w → wpAnyU P md ops Q S z fuel (listed.setIfInBounds i true) (a.put oi.dst v) w → wpAnyU P md ops Q S z (fuel + 1) listed a w := by
  induction fuel with
  | zero =>
    intro listed a w _ hr hy hS hh
    constructor
    · intro h
      rw [h] at hr
      cases hr
    · intro j hj
      rcases Decidable.em (j = i) with rfl | hne
      · exact hy.wpOp hi hS ⟨.inr hS, hh⟩
      · have hm := ready_mono hj hne
        rw [hh.1] at hm
        cases hm
  | succ fuel ih =>
    intro listed a w hfree hr hy hS hh
    constructor
    · intro h
      rw [h] at hr
      cases hr
    · intro j hj
      rcases Decidable.em (j = i) with rfl | hne
      · exact hy.wpOp hi hS ⟨.inr hS, hh⟩
      · obtain ⟨hun, oj, hoj, haft⟩ := mem_ready.1 hj
        have hjz : j ≠ z := by
          rintro rfl
          exact not_ready_z hz hr hj
        have hno : ∀ e ∈ oj.after, Region.binds md e = true → e.on ≠ i := by
          intro e he hb heq
          refine not_ready_z (z := j) ?_ hr hj
          unfold waitsB
          rw [hoj]
          simp only [Array.any_eq_true, Bool.and_eq_true, beq_iff_eq]
          obtain ⟨k, hk, hek⟩ := Array.mem_iff_getElem.1 he
          exact ⟨k, hk, by rw [hek]; exact hb, by rw [hek]; exact heq⟩
        have h2 := wpOp_putIf hoj (hfree j oj hoj hne hun hno) (fun cs b => hsel i oi cs b hi) (fun cs b => hsel j oj cs b hoj) hQ hy (hh.2 j (ready_mono hj hne))
        refine wpOp_mono (fun a' w' h3 => ?_) h2
        obtain ⟨hy', hs', hu⟩ := h3
        have hs2 := hs'.resolve_left hjz
        refine ⟨.inr hs2, ih _ a' w' ?_ (ready_mono hr (Ne.symm hne)) hy' hs2 ?_⟩
        · intro k ok hk hki hl hn
          refine hfree k ok hk hki ?_ hn
          rcases Decidable.em (j = k) with rfl | hjk
          · exact hun
          · rwa [getD_set_ne true hjk] at hl
        · rw [Array.setIfInBounds_comm _ _ hne]
          exact hu
theorem wpAnyU_take {i : Nat} {oi : Oper} {v : Value} {fuel : Nat} {listed : Array Bool} {a : Act} {w : World} (hi : ops[i]? = some oi)
    (hs : Region.noSelect ops = true) (hf : Region.free md ops listed i = true) (hr : (Region.ready md ops listed).contains i = true) (hz : waitsB md ops z i = true)
    (hQ : ∀ c a w, Q (.panic c) (a.put oi.dst v) w → Q (.panic c) a w) (hy : YieldsIf P ops S oi v a) (hS : S w)
    (h : wpAnyU P md ops Q S z fuel (listed.setIfInBounds i true) (a.put oi.dst v) w) : wpAnyU P md ops Q S z (fuel + 1) listed a w :=
  wpAnyU_first hi (Region.noSelect_spec hs) hQ hz fuel listed a w (Region.free_spec hi hf) (by simpa using hr) hy hS h
theorem wpAnyU_one {i : Nat} {o : Oper} {fuel : Nat} {listed : Array Bool} {a : Act} {w : World} (hr : Region.ready md ops listed = [i]) (ho : ops[i]? = some o)
    (h : ∀ K' : Act → World → Prop, Shut (∀ a w, (i = z ∨ S w) → ((i = z ∨ S w) → wpAnyU P md ops Q S z fuel (listed.setIfInBounds i true) a w) → K' a w) → if Region.wanted o (yielded ops a.tmps) = true then Oper.wp P o a w K' Q else K' (a.put o.dst undef) w) :
    wpAnyU P md ops Q S z (fuel + 1) listed a w :=
  ⟨fun h0 => (by rw [hr] at h0; cases h0), fun j hj => by
    rw [hr, List.mem_singleton] at hj
    subst hj
    exact wpOp_step ho (fun K' hK => h K' (fun a w hS hW => hK a w ⟨hS, hW hS⟩))⟩
theorem wpAnyU_done {listed : Array Bool} {a : Act} {w : World} (hr : Region.ready md ops listed = []) (h : Q .normal a w) : ∀ fuel, wpAnyU P md ops Q S z fuel listed a w
  | 0 => ⟨hr, h⟩
  | _ + 1 => ⟨fun _ => h, by rw [hr]; simp⟩
theorem wp_region_U {id : Nat} {a : Act} {w : World} (z : Nat) (hm : P.follows .mixedOrders = true) (hS : S w.drew)
    (h : S w.drew → wpAnyU P .any ops (OnlyN Q) S z ops.size (Array.replicate ops.size false) a w.drew) : (Code.region id ops true).wp P Q a w :=
  Code.wp_mono OnlyN.imp (wp_region_any hm (wpAny_of_U _ _ _ _ (h hS)))
end
end Go.Proofs.YtjolojomgfcfbaaDoor
namespace Go.Proofs.YtjolojomgfcfbaaDoor
open Go.RowKit
attribute [local go_sem] Oper.semAt_some
/-- an object's cells: what is asked of them -/
structure Ob (l : List Value) (kk cc ll : Int) : Prop where
  e0 : l[0]? = some (.int .i64 kk)
  e1 : l[1]? = some (.int .i64 cc)
  e2 : l[2]? = some (.int .i64 ll)
theorem ob3 {w : World} {g : Nat} {l : List Value} {kk cc ll : Int} (h : Blk w g 33 l.toArray) (ho : Ob l kk cc ll) : w.cell? ⟨g, 0, none⟩ = some (.int .i64 kk) ∧ w.cell? ⟨g, 1, none⟩ = some (.int .i64 cc) ∧ w.cell? ⟨g, 2, none⟩ = some (.int .i64 ll) :=
  ⟨by rw [h.cell]; simpa using ho.e0, by rw [h.cell]; simpa using ho.e1, by rw [h.cell]; simpa using ho.e2⟩
/-- does a key count with an object -/
noncomputable def Ky.cnt (x : Ky) (kk cc ll : Int) : Bool := @decide (x.ok ∧ (x.of → x.want = kk ∧ x.c = cc ∧ (x.k ≠ 7 ∨ x.l = ll))) (Classical.propDecidable _)
set_option maxRecDepth 8000 in
theorem cnt_yes {x : Ky} {kk cc ll : Int} (h : x.ok ∧ (x.of → x.want = kk ∧ x.c = cc ∧ (x.k ≠ 7 ∨ x.l = ll))) : x.cnt kk cc ll = true := by unfold Ky.cnt; simpa using h
set_option maxRecDepth 8000 in
theorem cnt_no {x : Ky} {kk cc ll : Int} (h : ¬ (x.ok ∧ (x.of → x.want = kk ∧ x.c = cc ∧ (x.k ≠ 7 ∨ x.l = ll)))) : x.cnt kk cc ll = false := by unfold Ky.cnt; simpa using h
set_option maxRecDepth 8000 in
set_option maxHeartbeats 1000000 in
theorem cou_bad (x : Ky) (l : List Value) (kk cc ll : Int) (w : World) (hT : Tab w) (ho : Ob l kk cc ll) (h : ¬ x.ok) :
    Calls Tryd.prog 51 #[x.val, .agg l.toArray] w fun e w' => e = .returned (.bool false) ∧ Below w.heap.size w w' := by
  have HT := Lib.hid hT
  have HO := Lib.hid ho
  have HK := Lib.hid h
  clear h
  clear hT ho
  go_enter Tryd.func51, Tryd.ntmps51
  go_wp2_with (go_at_call 36; refine (kchk_no x _ ((HT.out.alloc _).alloc _) HK.out).mono ?_; rintro e w1 ⟨rfl, b1⟩; obtain ⟨B1, B2, b2⟩ := box2 b1; have HB := Lib.hid b2; have HT1 := Lib.hid (HT.out.below b2); have H1 := Lib.hid B1; have H2 := Lib.hid B2; clear b1; obtain ⟨c0, c1, c2, c3, c4, c5⟩ := B1.six; obtain ⟨d0, d1, d2⟩ := ob3 B2 HO.out; clear B1 B2 b2)
  go_ret
  exact ⟨rfl, HB.out⟩
set_option maxRecDepth 8000 in
set_option maxHeartbeats 1000000 in
theorem cou_none (n : Nat) (o c ll' r v : Int) (l : List Value) (kk cc ll : Int) (w : World) (hT : Tab w) (ho : Ob l kk cc ll) (h : OkK n o c ll' r v) (wv : Int) (hwv : kWants n = wv) (h0 : wv = 0) :
    Calls Tryd.prog 51 #[.agg (kc n o c ll' r v), .agg l.toArray] w fun e w' => e = .returned (.bool true) ∧ Below w.heap.size w w' := by
  have HT := Lib.hid hT
  have HO := Lib.hid ho
  have hn : n ≤ 10 := by have := okK_in h; omega
  have HK := Lib.hid h
  have z1 := (hT.row hn).z1
  rw [hwv] at z1
  have hg := hT.lt
  subst h0
  clear h hwv
  clear hT ho
  go_enter Tryd.func51, Tryd.ntmps51
  go_wp2_with (go_at_call 36; refine (chk_ok n o c ll' r v _ ((HT.out.alloc _).alloc _) HK.out).mono ?_; rintro e w1 ⟨rfl, b1⟩; obtain ⟨B1, B2, b2⟩ := box2 b1; have HB := Lib.hid b2; have z2 := (b2.cell (p := ⟨0, n * 7 + 1, none⟩) hg).trans z1; have HT1 := Lib.hid (HT.out.below b2); have H1 := Lib.hid B1; have H2 := Lib.hid B2; clear b1; obtain ⟨c0, c1, c2, c3, c4, c5⟩ := B1.six; obtain ⟨d0, d1, d2⟩ := ob3 B2 HO.out; clear B1 B2 b2)
  go_ret
  exact ⟨rfl, HB.out⟩
set_option maxRecDepth 8000 in
set_option maxHeartbeats 1000000 in
theorem cou_k (n : Nat) (o c ll' r v : Int) (l : List Value) (kk cc ll : Int) (w : World) (hT : Tab w) (ho : Ob l kk cc ll) (h : OkK n o c ll' r v) (wv : Int) (hwv : kWants n = wv) (h0 : wv ≠ 0) (h7 : n ≠ 7) (hk : wv ≠ kk) :
    Calls Tryd.prog 51 #[.agg (kc n o c ll' r v), .agg l.toArray] w fun e w' => e = .returned (.bool false) ∧ Below w.heap.size w w' := by
  have HT := Lib.hid hT
  have HO := Lib.hid ho
  have hn : n ≤ 10 := by have := okK_in h; omega
  have HK := Lib.hid h
  have z1 := (hT.row hn).z1
  rw [hwv] at z1
  have hg := hT.lt
  have dw : (wv == 0) = false := by simpa using h0
  clear h0
  have d7 : ((n : Int) != 7) = true := by simp; omega
  clear h7
  have dk : (wv == kk) = false := by simpa using hk
  clear hk
  clear h hwv
  clear hT ho
  go_enter Tryd.func51, Tryd.ntmps51
  go_wp2_with (go_at_call 36; refine (chk_ok n o c ll' r v _ ((HT.out.alloc _).alloc _) HK.out).mono ?_; rintro e w1 ⟨rfl, b1⟩; obtain ⟨B1, B2, b2⟩ := box2 b1; have HB := Lib.hid b2; have z2 := (b2.cell (p := ⟨0, n * 7 + 1, none⟩) hg).trans z1; have HT1 := Lib.hid (HT.out.below b2); have H1 := Lib.hid B1; have H2 := Lib.hid B2; clear b1; obtain ⟨c0, c1, c2, c3, c4, c5⟩ := B1.six; obtain ⟨d0, d1, d2⟩ := ob3 B2 HO.out; clear B1 B2 b2)
  go_ret
  exact ⟨rfl, HB.out⟩
set_option maxRecDepth 8000 in
set_option maxHeartbeats 1000000 in
theorem cou_c (n : Nat) (o c ll' r v : Int) (l : List Value) (kk cc ll : Int) (w : World) (hT : Tab w) (ho : Ob l kk cc ll) (h : OkK n o c ll' r v) (wv : Int) (hwv : kWants n = wv) (h0 : wv ≠ 0) (h7 : n ≠ 7) (hk : wv = kk) (hc : c ≠ cc) :
    Calls Tryd.prog 51 #[.agg (kc n o c ll' r v), .agg l.toArray] w fun e w' => e = .returned (.bool false) ∧ Below w.heap.size w w' := by
  have HT := Lib.hid hT
  have HO := Lib.hid ho
  have hn : n ≤ 10 := by have := okK_in h; omega
  have HK := Lib.hid h
  have z1 := (hT.row hn).z1
  rw [hwv] at z1
  have hg := hT.lt
  have dw : (wv == 0) = false := by simpa using h0
  clear h0
  have d7 : ((n : Int) != 7) = true := by simp; omega
  clear h7
  subst hk
  have dc : (c == cc) = false := by simpa using hc
  clear hc
  clear h hwv
  clear hT ho
  go_enter Tryd.func51, Tryd.ntmps51
  go_wp2_with (go_at_call 36; refine (chk_ok n o c ll' r v _ ((HT.out.alloc _).alloc _) HK.out).mono ?_; rintro e w1 ⟨rfl, b1⟩; obtain ⟨B1, B2, b2⟩ := box2 b1; have HB := Lib.hid b2; have z2 := (b2.cell (p := ⟨0, n * 7 + 1, none⟩) hg).trans z1; have HT1 := Lib.hid (HT.out.below b2); have H1 := Lib.hid B1; have H2 := Lib.hid B2; clear b1; obtain ⟨c0, c1, c2, c3, c4, c5⟩ := B1.six; obtain ⟨d0, d1, d2⟩ := ob3 B2 HO.out; clear B1 B2 b2)
  go_ret
  exact ⟨rfl, HB.out⟩
set_option maxRecDepth 8000 in
set_option maxHeartbeats 1000000 in
theorem cou_y (n : Nat) (o c ll' r v : Int) (l : List Value) (kk cc ll : Int) (w : World) (hT : Tab w) (ho : Ob l kk cc ll) (h : OkK n o c ll' r v) (wv : Int) (hwv : kWants n = wv) (h0 : wv ≠ 0) (h7 : n ≠ 7) (hk : wv = kk) (hc : c = cc) :
    Calls Tryd.prog 51 #[.agg (kc n o c ll' r v), .agg l.toArray] w fun e w' => e = .returned (.bool true) ∧ Below w.heap.size w w' := by
  have HT := Lib.hid hT
  have HO := Lib.hid ho
  have hn : n ≤ 10 := by have := okK_in h; omega
  have HK := Lib.hid h
  have z1 := (hT.row hn).z1
  rw [hwv] at z1
  have hg := hT.lt
  have dw : (wv == 0) = false := by simpa using h0
  clear h0
  have d7 : ((n : Int) != 7) = true := by simp; omega
  clear h7
  subst hk
  subst hc
  clear h hwv
  clear hT ho
  go_enter Tryd.func51, Tryd.ntmps51
  go_wp2_with (go_at_call 36; refine (chk_ok n o c ll' r v _ ((HT.out.alloc _).alloc _) HK.out).mono ?_; rintro e w1 ⟨rfl, b1⟩; obtain ⟨B1, B2, b2⟩ := box2 b1; have HB := Lib.hid b2; have z2 := (b2.cell (p := ⟨0, n * 7 + 1, none⟩) hg).trans z1; have HT1 := Lib.hid (HT.out.below b2); have H1 := Lib.hid B1; have H2 := Lib.hid B2; clear b1; obtain ⟨c0, c1, c2, c3, c4, c5⟩ := B1.six; obtain ⟨d0, d1, d2⟩ := ob3 B2 HO.out; clear B1 B2 b2)
  go_ret
  exact ⟨rfl, HB.out⟩
set_option maxRecDepth 8000 in
set_option maxHeartbeats 1000000 in
theorem cou7_k (o c ll' r v : Int) (l : List Value) (kk cc ll : Int) (w : World) (hT : Tab w) (ho : Ob l kk cc ll) (h : OkK 7 o c ll' r v) (wv : Int) (hwv : kWants 7 = wv) (h0 : wv ≠ 0) (hk : wv ≠ kk) :
    Calls Tryd.prog 51 #[.agg (kc 7 o c ll' r v), .agg l.toArray] w fun e w' => e = .returned (.bool false) ∧ Below w.heap.size w w' := by
  have HT := Lib.hid hT
  have HO := Lib.hid ho
  have hn : 7 ≤ 10 := by omega
  have HK := Lib.hid h
  have z1 := (hT.row hn).z1
  rw [hwv] at z1
  have hg := hT.lt
  have dw : (wv == 0) = false := by simpa using h0
  clear h0
  have dk : (wv == kk) = false := by simpa using hk
  clear hk
  clear h hwv
  clear hT ho
  go_enter Tryd.func51, Tryd.ntmps51
  go_wp2_with (go_at_call 36; refine (chk_ok 7 o c ll' r v _ ((HT.out.alloc _).alloc _) HK.out).mono ?_; rintro e w1 ⟨rfl, b1⟩; obtain ⟨B1, B2, b2⟩ := box2 b1; have HB := Lib.hid b2; have z2 := (b2.cell (p := ⟨0, 7 * 7 + 1, none⟩) hg).trans z1; have HT1 := Lib.hid (HT.out.below b2); have H1 := Lib.hid B1; have H2 := Lib.hid B2; clear b1; obtain ⟨c0, c1, c2, c3, c4, c5⟩ := B1.six; obtain ⟨d0, d1, d2⟩ := ob3 B2 HO.out; clear B1 B2 b2)
  go_ret
  exact ⟨rfl, HB.out⟩
set_option maxRecDepth 8000 in
set_option maxHeartbeats 1000000 in
theorem cou7_c (o c ll' r v : Int) (l : List Value) (kk cc ll : Int) (w : World) (hT : Tab w) (ho : Ob l kk cc ll) (h : OkK 7 o c ll' r v) (wv : Int) (hwv : kWants 7 = wv) (h0 : wv ≠ 0) (hk : wv = kk) (hc : c ≠ cc) :
    Calls Tryd.prog 51 #[.agg (kc 7 o c ll' r v), .agg l.toArray] w fun e w' => e = .returned (.bool false) ∧ Below w.heap.size w w' := by
  have HT := Lib.hid hT
  have HO := Lib.hid ho
  have hn : 7 ≤ 10 := by omega
  have HK := Lib.hid h
  have z1 := (hT.row hn).z1
  rw [hwv] at z1
  have hg := hT.lt
  have dw : (wv == 0) = false := by simpa using h0
  clear h0
  subst hk
  have dc : (c == cc) = false := by simpa using hc
  clear hc
  clear h hwv
  clear hT ho
  go_enter Tryd.func51, Tryd.ntmps51
  go_wp2_with (go_at_call 36; refine (chk_ok 7 o c ll' r v _ ((HT.out.alloc _).alloc _) HK.out).mono ?_; rintro e w1 ⟨rfl, b1⟩; obtain ⟨B1, B2, b2⟩ := box2 b1; have HB := Lib.hid b2; have z2 := (b2.cell (p := ⟨0, 7 * 7 + 1, none⟩) hg).trans z1; have HT1 := Lib.hid (HT.out.below b2); have H1 := Lib.hid B1; have H2 := Lib.hid B2; clear b1; obtain ⟨c0, c1, c2, c3, c4, c5⟩ := B1.six; obtain ⟨d0, d1, d2⟩ := ob3 B2 HO.out; clear B1 B2 b2)
  go_ret
  exact ⟨rfl, HB.out⟩
set_option maxRecDepth 8000 in
set_option maxHeartbeats 1000000 in
theorem cou7_y (o c ll' r v : Int) (l : List Value) (kk cc ll : Int) (w : World) (hT : Tab w) (ho : Ob l kk cc ll) (h : OkK 7 o c ll' r v) (wv : Int) (hwv : kWants 7 = wv) (h0 : wv ≠ 0) (hk : wv = kk) (hc : c = cc) :
    Calls Tryd.prog 51 #[.agg (kc 7 o c ll' r v), .agg l.toArray] w fun e w' => e = .returned (.bool (ll' == ll)) ∧ Below w.heap.size w w' := by
  have HT := Lib.hid hT
  have HO := Lib.hid ho
  have hn : 7 ≤ 10 := by omega
  have HK := Lib.hid h
  have z1 := (hT.row hn).z1
  rw [hwv] at z1
  have hg := hT.lt
  have dw : (wv == 0) = false := by simpa using h0
  clear h0
  subst hk
  subst hc
  clear h hwv
  clear hT ho
  go_enter Tryd.func51, Tryd.ntmps51
  go_wp2_with (go_at_call 36; refine (chk_ok 7 o c ll' r v _ ((HT.out.alloc _).alloc _) HK.out).mono ?_; rintro e w1 ⟨rfl, b1⟩; obtain ⟨B1, B2, b2⟩ := box2 b1; have HB := Lib.hid b2; have z2 := (b2.cell (p := ⟨0, 7 * 7 + 1, none⟩) hg).trans z1; have HT1 := Lib.hid (HT.out.below b2); have H1 := Lib.hid B1; have H2 := Lib.hid B2; clear b1; obtain ⟨c0, c1, c2, c3, c4, c5⟩ := B1.six; obtain ⟨d0, d1, d2⟩ := ob3 B2 HO.out; clear B1 B2 b2)
  go_ret
  exact ⟨rfl, HB.out⟩
end Go.Proofs.YtjolojomgfcfbaaDoor
namespace Go.Proofs.YtjolojomgfcfbaaDoor
open Go.RowKit
section
variable {ops : Array Oper} {o : Oper} {a : Act} {w : World} {K : Act → World → Prop} {Q : Exit → Act → World → Prop} {E : Prop}
set_option maxRecDepth 8000 in
theorem step_store_ob {t : TypeId} {b : Nat} {u0 : Oj} (hb : Blk w b t u0.cells.toArray) (hgd : o.guard = none) (x y : Operand) (ho : o.op = .store 33 x y) (hx : a.eval x = .pointer (some ⟨b, 0, none⟩)) (u : Oj) (hy : a.eval y = u.val)
    (h : K (a.put o.dst undef) (w.setRow b u.cells.toArray)) : if Region.wanted o (yielded ops a.tmps) = true then Oper.wp Tryd.prog o a w K Q else E := by
  rw [if_pos (by simp [Region.wanted, hgd])]
  exact wp_store_row 33 x y ho b u.cells.toArray hx hy t u0.cells.toArray hb (by rw [List.size_toArray, u.len]; exact size34) (by rw [List.size_toArray, List.size_toArray, u.len, u0.len]) u.allOne h
end
section
variable {w : World} {base p : Nat} {A : Option Addr} {cap : Nat} {ps : List Nat} {os : List Oj}
set_option maxRecDepth 8000 in
theorem nd_ne {ps : List Nat} (h : ps.Nodup) {i j : Nat} (hi : i < ps.length) (hj : j < ps.length) (hne : i ≠ j) : ps[i] ≠ ps[j] := by
  have hp := List.pairwise_iff_getElem.1 h
  rcases Nat.lt_or_gt_of_ne hne with hl | hl
  · exact hp i j hi hj hl
  · exact (hp j i hj hi hl).symm
theorem setRow_fr (w : World) (b : Nat) (c : Array Value) : Fr (fun k => k = b) w (w.setRow b c) := ⟨rfl, rfl, rfl, by simp [World.setRow], fun k _ hk => setRow_other w b k c hk⟩
set_option maxRecDepth 8000 in
theorem StAt.put (h : StAt w base p A cap ps os) (i : Nat) (hi : i < os.length) (hp : i < ps.length) (o : Oj) : StAt (w.setRow ps[i] o.cells.toArray) base p A cap ps (os.set i o) := by
  have hb := h.pps _ (List.getElem_mem hp)
  have hl : (os.set i o).length = os.length := List.length_set
  refine ⟨?_, ?_, by rw [hl]; exact h.len, ?_, h.pge, h.pn, h.pps, h.nd⟩
  · rw [hl]
    exact (setRow_other w _ p _ (Ne.symm hb.2.1)).trans h.blk
  · rw [hl]
    exact own_keep h.own fun k hk => setRow_other w _ k _ (by rintro rfl; exact hb.2.2 hk)
  · intro j h1 h2
    rw [hl] at h1
    by_cases hj : i = j
    · subst hj
      rw [List.getElem_set_self]
      exact setRow_heap w _ _ _ _ (0, 0) (h.obj i hi hp)
    · rw [List.getElem_set_ne hj]
      exact (setRow_other w _ _ _ (nd_ne h.nd hp h2 hj).symm).trans (h.obj j h1 h2)
set_option maxRecDepth 100000 in
set_option maxHeartbeats 2000000 in
theorem put_ok (h : StAt w base p A cap ps os) (hT : Tab w) (i : Nat) (hi : i < os.length) (o : Oj) (hc : o.ok os.length) :
    Calls Tryd.prog 41 #[pv p, .int .i64 (i : Int), o.val] w fun e' w' => e' = .returned (.int .i64 0) ∧ StAt w' base p A cap ps (os.set i o) ∧ Fr (fun k => k ∈ ps) w w' := by
  have HT := Lib.hid (hT.alloc (.cells o.cells.toArray 33))
  have HS := Lib.hid (h.alloc (.cells o.cells.toArray 33))
  have HB := Lib.hid ((Below.refl w.heap.size w).alloc (Nat.le_refl _) (.cells o.cells.toArray 33))
  have HG := Lib.hid (Blk.new w 33 o.cells.toArray)
  have HI := Lib.hid hi
  have HL := Lib.hid (fun (k : Nat) (hk : stHas p A ps k) => (h.lt k hk).2)
  have HC := Lib.hid hc
  clear hc
  have hil : (i : Int) < (os.length : Int) := by omega
  have hpi : i < ps.length := by rw [h.len]; exact hi
  obtain ⟨g, rfl, hr⟩ := HS.out.row hi
  have HPI := Lib.hid hpi
  obtain ⟨b, hb⟩ : ∃ b, b = ps[i]'HPI.out := ⟨_, rfl⟩
  have hr' := hr HPI.out
  rw [← hb] at hr'
  have HR := Lib.hid hr'
  have HBI := Lib.hid hb
  clear h hT hi hr hr' hpi hb
  go_enter Tryd.func41, Tryd.ntmps41
  go_wp2_with (go_at_call 53; refine (asked_ok HS.out i HI.out).mono ?_; rintro e w1 ⟨rfl, rfl⟩)
  generalize w.alloc (.cells o.cells.toArray 33) = w0 at HT HS HB HG HR ⊢
  refine wp_region_only (S := fun w' => ObAt w' w.heap.size 0 o ∧ w'.cell? ⟨p, 0, none⟩ = some (.slice (some ⟨g, 0, none⟩) os.length cap)) (by kernel_rfl) ⟨HG.out.drew.ob, HS.out.drew.c0⟩ (fun hHeld => ?_)
  refine wpAnyH_take (i := 0) rfl (by kernel_rfl) (by kernel_rfl) (by kernel_rfl) (fun _ _ _ h => h) (y_ob (by rfl) (.tmp 5) (by rfl) w.heap.size 0 (by rfl) o (fun _ h => h.1)) hHeld ?_
  try simp only [Act.put, List.getElem_toArray, List.getElem_cons_zero, List.setIfInBounds_toArray, List.set_cons_zero, List.set_cons_succ]
  refine wpAnyH_take (i := 1) (v := ?v7) rfl (by kernel_rfl) (by kernel_rfl) (by kernel_rfl) (fun _ _ _ h => h) (Or.inl ⟨by rfl, ?hy7⟩) hHeld ?rest7
  case hy7 =>
    intro w' hSw
    try dsimp only at hSw
    go_simp
    first | done | with_reducible rfl
  try simp only [Act.put, List.getElem_toArray, List.getElem_cons_succ, List.getElem_cons_zero, List.setIfInBounds_toArray, List.set_cons_zero, List.set_cons_succ]
  refine wpAnyH_take (i := 2) (v := ?v8) rfl (by kernel_rfl) (by kernel_rfl) (by kernel_rfl) (fun _ _ _ h => h) (Or.inl ⟨by rfl, ?hy8⟩) hHeld ?rest8
  case hy8 =>
    intro w' hSw
    try dsimp only at hSw
    go_simp
    first | done | with_reducible rfl
  try simp only [Act.put, List.getElem_toArray, List.getElem_cons_succ, List.getElem_cons_zero, List.setIfInBounds_toArray, List.set_cons_zero, List.set_cons_succ]
  refine wpAnyH_take (i := 3) (v := ?v9) rfl (by kernel_rfl) (by kernel_rfl) (by kernel_rfl) (fun _ _ _ h => h) (Or.inl ⟨by rfl, ?hy9⟩) hHeld ?rest9
  case hy9 =>
    intro w' hSw
    try dsimp only at hSw
    go_simp
    first | done | with_reducible rfl
  try simp only [Act.put, List.getElem_toArray, List.getElem_cons_succ, List.getElem_cons_zero, List.setIfInBounds_toArray, List.set_cons_zero, List.set_cons_succ]
  refine wpAnyH_take (i := 4) (v := ?v10) rfl (by kernel_rfl) (by kernel_rfl) (by kernel_rfl) (fun _ _ _ h => h) (Or.inl ⟨by rfl, ?hy10⟩) hHeld ?rest10
  case hy10 =>
    intro w' hSw
    try dsimp only at hSw
    go_simp
    first | done | with_reducible rfl
  try simp only [Act.put, List.getElem_toArray, List.getElem_cons_succ, List.getElem_cons_zero, List.setIfInBounds_toArray, List.set_cons_zero, List.set_cons_succ]
  refine wpAnyH_take (i := 5) (v := ?v11) rfl (by kernel_rfl) (by kernel_rfl) (by kernel_rfl) (fun _ _ _ h => h) (Or.inl ⟨by rfl, ?hy11⟩) hHeld ?rest11
  case hy11 =>
    intro w' hSw
    try dsimp only at hSw
    go_simp
    first | done | with_reducible rfl
  try simp only [Act.put, List.getElem_toArray, List.getElem_cons_succ, List.getElem_cons_zero, List.setIfInBounds_toArray, List.set_cons_zero, List.set_cons_succ]
  refine wpAnyH_ready (rs := [6]) (by kernel_rfl) (by simp) ?_
  refine AllReadyH.cons (by rfl) (fun K hK => ?_) AllReadyH.nil
  go_simp
  refine (Oj.chk_yes HC.out ▸ check_any o os.length _ HT.out.drew).mono ?_
  rintro e y1 ⟨rfl, b1⟩
  have HB1 := Lib.hid ((below_drew HB.out).trans (b1.mono HB.out.size))
  have HS1 := Lib.hid (HS.out.drew.below b1)
  have HG1 := Lib.hid (HG.out.drew.keep b1)
  clear b1 hHeld
  go_wp2_with fail
  refine hK.out _ _ ⟨HG1.out.ob, HS1.out.c0⟩ (fun hHeld => ?_)
  clear hK K
  try simp only [Act.put, List.getElem_toArray, List.getElem_cons_succ, List.getElem_cons_zero, List.setIfInBounds_toArray, List.set_cons_zero, List.set_cons_succ]
  refine wpAnyH_take (i := 7) (v := ?v12) rfl (by kernel_rfl) (by kernel_rfl) (by kernel_rfl) (fun _ _ _ h => h) (Or.inl ⟨by rfl, ?hy12⟩) hHeld ?rest12
  case hy12 =>
    intro w' hSw
    try dsimp only at hSw
    go_simp
    first | done | with_reducible rfl
  try simp only [Act.put, List.getElem_toArray, List.getElem_cons_succ, List.getElem_cons_zero, List.setIfInBounds_toArray, List.set_cons_zero, List.set_cons_succ]
  refine wpAnyH_done (by kernel_rfl) ?_ _
  refine OnlyN.normal ?_
  clear hHeld
  obtain ⟨g', hg', hr⟩ := HS1.out.row HI.out
  have hg'' : g = g' := by injection hg' with hg'; injection hg' with hg'
  subst hg''
  have hr' := hr HPI.out
  rw [← HBI.out] at hr'
  have HR1 := Lib.hid hr'
  have hbb := HS1.out.obj i HI.out HPI.out
  rw [← HBI.out] at hbb
  have HBB := Lib.hid hbb.drew
  clear hr hr' hbb hg' HR HS HT HG
  go_wp2_with fail
  refine wp_region_U (S := fun w' => ObAt w' w.heap.size 0 o ∧ w'.cell? ⟨p, 0, none⟩ = some (.slice (some ⟨g, 0, none⟩) os.length cap) ∧ w'.cell? ⟨g, i, none⟩ = some (pv b)) 9 (by kernel_rfl) ⟨HG1.out.drew.ob, HS1.out.drew.c0, HR1.out⟩ (fun hHeld => ?_)
  refine wpAnyU_take (i := 0) (v := ?v13) rfl (by kernel_rfl) (by kernel_rfl) (by kernel_rfl) (by kernel_rfl) (fun _ _ _ h => h) (Or.inl ⟨by rfl, ?hy13⟩) hHeld ?rest13
  case hy13 =>
    intro w' hSw
    try dsimp only at hSw
    go_simp
    first | done | with_reducible rfl
  try simp only [Act.put, List.getElem_toArray, List.getElem_cons_zero, List.setIfInBounds_toArray, List.set_cons_zero, List.set_cons_succ]
  refine wpAnyU_take (i := 1) (v := ?v14) rfl (by kernel_rfl) (by kernel_rfl) (by kernel_rfl) (by kernel_rfl) (fun _ _ _ h => h) (Or.inl ⟨by rfl, ?hy14⟩) hHeld ?rest14
  case hy14 =>
    intro w' hSw
    try dsimp only at hSw
    go_simp
    first | done | with_reducible rfl
  try simp only [Act.put, List.getElem_toArray, List.getElem_cons_succ, List.getElem_cons_zero, List.setIfInBounds_toArray, List.set_cons_zero, List.set_cons_succ]
  refine wpAnyU_take (i := 2) (v := ?v15) rfl (by kernel_rfl) (by kernel_rfl) (by kernel_rfl) (by kernel_rfl) (fun _ _ _ h => h) (Or.inl ⟨by rfl, ?hy15⟩) hHeld ?rest15
  case hy15 =>
    intro w' hSw
    try dsimp only at hSw
    go_simp
    first | done | with_reducible rfl
  try simp only [Act.put, List.getElem_toArray, List.getElem_cons_succ, List.getElem_cons_zero, List.setIfInBounds_toArray, List.set_cons_zero, List.set_cons_succ]
  refine wpAnyU_take (i := 3) (v := ?v16) rfl (by kernel_rfl) (by kernel_rfl) (by kernel_rfl) (by kernel_rfl) (fun _ _ _ h => h) (Or.inl ⟨by rfl, ?hy16⟩) hHeld ?rest16
  case hy16 =>
    intro w' hSw
    try dsimp only at hSw
    go_simp
    first | done | with_reducible rfl
  try simp only [Act.put, List.getElem_toArray, List.getElem_cons_succ, List.getElem_cons_zero, List.setIfInBounds_toArray, List.set_cons_zero, List.set_cons_succ]
  refine wpAnyU_take (i := 4) (v := ?v17) rfl (by kernel_rfl) (by kernel_rfl) (by kernel_rfl) (by kernel_rfl) (fun _ _ _ h => h) (Or.inl ⟨by rfl, ?hy17⟩) hHeld ?rest17
  case hy17 =>
    intro w' hSw
    try dsimp only at hSw
    go_simp
    first | done | with_reducible rfl
  try simp only [Act.put, List.getElem_toArray, List.getElem_cons_succ, List.getElem_cons_zero, List.setIfInBounds_toArray, List.set_cons_zero, List.set_cons_succ]
  refine wpAnyU_take (i := 5) (v := ?v18) rfl (by kernel_rfl) (by kernel_rfl) (by kernel_rfl) (by kernel_rfl) (fun _ _ _ h => h) (Or.inl ⟨by rfl, ?hy18⟩) hHeld ?rest18
  case hy18 =>
    intro w' hSw
    try dsimp only at hSw
    go_simp
    first | done | with_reducible rfl
  try simp only [Act.put, List.getElem_toArray, List.getElem_cons_succ, List.getElem_cons_zero, List.setIfInBounds_toArray, List.set_cons_zero, List.set_cons_succ]
  refine wpAnyU_take (i := 6) (v := ?v19) rfl (by kernel_rfl) (by kernel_rfl) (by kernel_rfl) (by kernel_rfl) (fun _ _ _ h => h) (Or.inl ⟨by rfl, ?hy19⟩) hHeld ?rest19
  case hy19 =>
    intro w' hSw
    try dsimp only at hSw
    go_simp
    first | done | with_reducible rfl
  try simp only [Act.put, List.getElem_toArray, List.getElem_cons_succ, List.getElem_cons_zero, List.setIfInBounds_toArray, List.set_cons_zero, List.set_cons_succ]
  refine wpAnyU_take (i := 7) rfl (by kernel_rfl) (by kernel_rfl) (by kernel_rfl) (by kernel_rfl) (fun _ _ _ h => h) (y_ob (by rfl) (.tmp 5) (by rfl) w.heap.size 0 (by rfl) o (fun _ h => h.1)) hHeld ?_
  try simp only [Act.put, List.getElem_toArray, List.getElem_cons_succ, List.getElem_cons_zero, List.setIfInBounds_toArray, List.set_cons_zero, List.set_cons_succ]
  refine wpAnyU_take (i := 8) (v := ?v20) rfl (by kernel_rfl) (by kernel_rfl) (by kernel_rfl) (by kernel_rfl) (fun _ _ _ h => h) (Or.inl ⟨by rfl, ?hy20⟩) hHeld ?rest20
  case hy20 =>
    intro w' hSw
    try dsimp only at hSw
    go_simp
    first | done | with_reducible rfl
  try simp only [Act.put, List.getElem_toArray, List.getElem_cons_succ, List.getElem_cons_zero, List.setIfInBounds_toArray, List.set_cons_zero, List.set_cons_succ]
  refine wpAnyU_one (i := 9) (by kernel_rfl) (by rfl) (fun K hK => ?_)
  refine step_store_ob HBB.out rfl (.tmp 33) (.tmp 32) rfl rfl o rfl ?_
  refine hK.out _ _ (.inl rfl) (fun hHeld => ?_)
  clear hK K
  try simp only [Act.put, List.getElem_toArray, List.getElem_cons_succ, List.getElem_cons_zero]
  refine wpAnyU_done (by kernel_rfl) ?_ _
  refine OnlyN.normal ?_
  clear hHeld
  go_wp2
  go_ret
  have hput := HS1.out.drew.put i HI.out HPI.out o
  rw [← HBI.out] at hput
  refine ⟨rfl, hput, ?_⟩
  have hbm : b ∈ ps := by rw [HBI.out]; exact List.getElem_mem HPI.out
  exact ((Fr.of_below HB1.out).drew.trans ((setRow_fr _ b _).mono fun k _ hk => by rw [hk]; exact hbm))
end
end Go.Proofs.YtjolojomgfcfbaaDoor

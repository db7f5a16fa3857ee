/- A region that draws its order: reads taken first under a condition on the world that need not hold behind one operation, which waits for them. -/
import Derived.Test.YtogkdhpnbpgheaaGreatDoorR07
import Derived.Test.YtogkdhpnbpgheaaGreatDoorR05
import Derived.Test.YtogkdhpnbpgheaaGreatDoorR06
namespace Go.Proofs.YtogkdhpnbpgheaaGreatDoor
open Go.RowKit
section
variable {P : Program} {ops : Array Oper} {Q : Exit → Act → World → Prop} {md : Region.Mode} {S : World → Prop} {z : Nat}
/-- whatever order is picked from here on, and S holds behind each operation but z -/
def wpAnyU (P : Program) (md : Region.Mode) (ops : Array Oper) (Q : Exit → Act → World → Prop) (S : World → Prop) (z : Nat) : Nat → Array Bool → Act → World → Prop
  | 0, listed, a, w => Region.ready md ops listed = [] ∧ Q .normal a w
  | fuel + 1, listed, a, w => (Region.ready md ops listed = [] → Q .normal a w) ∧
    ∀ i ∈ Region.ready md ops listed, wpOp P ops Q i (fun a' w' => (i = z ∨ S w') ∧ wpAnyU P md ops Q S z fuel (listed.setIfInBounds i true) a' w') a w
theorem wpAny_of_U : ∀ (fuel : Nat) (listed : Array Bool) (a : Act) (w : World), wpAnyU P md ops Q S z fuel listed a w → wpAny P md ops Q fuel listed a w
  | 0, _, _, _, h => h
  | fuel + 1, _, _, _, h => ⟨h.1, fun i hi => wpOp_mono (fun a' w' h' => wpAny_of_U fuel _ a' w' h'.2) (h.2 i hi)⟩
/-- does z wait for i? -/
def waitsB (md : Region.Mode) (ops : Array Oper) (z i : Nat) : Bool := match ops[z]? with | some o => o.after.any fun e => Region.binds md e && e.on == i | none => false
set_option maxRecDepth 8000 in
theorem not_ready_z {i : Nat} {listed : Array Bool} (hz : waitsB md ops z i = true) (hi : i ∈ Region.ready md ops listed) : z ∉ Region.ready md ops listed := by
  intro hr
  obtain ⟨_, oz, hoz, haft⟩ := mem_ready.1 hr
  unfold waitsB at hz
  rw [hoz] at hz
  simp only [Array.any_eq_true, Bool.and_eq_true, beq_iff_eq] at hz
  obtain ⟨k, hk, hb, he⟩ := hz
  have h1 := haft _ (Array.getElem_mem hk) hb
  have h0 := (mem_ready.1 hi).1
  rw [he] at h1
  by_cases hlt : i < listed.size
  · simp [hlt] at h0 h1
    rw [h0] at h1
    cases h1
  · simp [Array.getElem?_eq_none (Nat.le_of_not_lt hlt)] at h1
set_option maxRecDepth 8000 in
theorem wpAnyU_first {i : Nat} {oi : Oper} {v : Value} (hi : ops[i]? = some oi) (hsel : ∀ (j : Nat) (o : Oper) cs b, ops[j]? = some o → o.op ≠ .select cs b) (hQ : ∀ c a w, Q (.panic c) (a.put oi.dst v) w → Q (.panic c) a w) (hz : waitsB md ops z i = true) (fuel : Nat) :
    ∀ (listed : Array Bool) (a : Act) (w : World), (∀ j oj, ops[j]? = some oj → j ≠ i → listed.getD j true = false → (∀ e ∈ oj.after, Region.binds md e = true → e.on ≠ i) → oi.apart ops oj = true) →
      i ∈ Region.ready md ops listed → YieldsIf P ops S oi v a → S w → wpAnyU P md ops Q S z fuel (listed.setIfInBounds i true) (a.put oi.dst v) w → wpAnyU P md ops Q S z (fuel + 1) listed a w := by
  induction fuel with
  | zero =>
    intro listed a w _ hr hy hS hh
    constructor
    · intro h
      rw [h] at hr
      cases hr
    · intro j hj
      rcases Decidable.em (j = i) with rfl | hne
      · exact hy.wpOp hi hS ⟨.inr hS, hh⟩
      · have hm := ready_mono hj hne
        rw [hh.1] at hm
        cases hm
  | succ fuel ih =>
    intro listed a w hfree hr hy hS hh
    constructor
    · intro h
      rw [h] at hr
      cases hr
    · intro j hj
      rcases Decidable.em (j = i) with rfl | hne
      · exact hy.wpOp hi hS ⟨.inr hS, hh⟩
      · obtain ⟨hun, oj, hoj, haft⟩ := mem_ready.1 hj
        have hjz : j ≠ z := by
          rintro rfl
          exact not_ready_z hz hr hj
        have hno : ∀ e ∈ oj.after, Region.binds md e = true → e.on ≠ i := by
          intro e he hb heq
          refine not_ready_z (z := j) ?_ hr hj
          unfold waitsB
          rw [hoj]
          simp only [Array.any_eq_true, Bool.and_eq_true, beq_iff_eq]
          obtain ⟨k, hk, hek⟩ := Array.mem_iff_getElem.1 he
          exact ⟨k, hk, by rw [hek]; exact hb, by rw [hek]; exact heq⟩
        have h2 := wpOp_putIf hoj (hfree j oj hoj hne hun hno) (fun cs b => hsel i oi cs b hi) (fun cs b => hsel j oj cs b hoj) hQ hy (hh.2 j (ready_mono hj hne))
        refine wpOp_mono (fun a' w' h3 => ?_) h2
        obtain ⟨hy', hs', hu⟩ := h3
        have hs2 := hs'.resolve_left hjz
        refine ⟨.inr hs2, ih _ a' w' ?_ (ready_mono hr (Ne.symm hne)) hy' hs2 ?_⟩
        · intro k ok hk hki hl hn
          refine hfree k ok hk hki ?_ hn
          rcases Decidable.em (j = k) with rfl | hjk
          · exact hun
          · rwa [getD_set_ne true hjk] at hl
        · rw [Array.setIfInBounds_comm _ _ hne]
          exact hu
set_option maxRecDepth 8000 in
/-- what is not listed holds back what waits for it -/
theorem not_ready_un {i : Nat} {listed : Array Bool} (hz : waitsB md ops z i = true) (h0 : listed.getD i true = false) : z ∉ Region.ready md ops listed := by
  intro hr
  obtain ⟨_, oz, hoz, haft⟩ := mem_ready.1 hr
  unfold waitsB at hz
  rw [hoz] at hz
  simp only [Array.any_eq_true, Bool.and_eq_true, beq_iff_eq] at hz
  obtain ⟨k, hk, hb, he⟩ := hz
  have h1 := haft _ (Array.getElem_mem hk) hb
  rw [he] at h1
  by_cases hlt : i < listed.size
  · simp [hlt] at h0 h1
    rw [h0] at h1
    cases h1
  · simp [Array.getElem?_eq_none (Nat.le_of_not_lt hlt)] at h1
/-- does z wait for i, by way of these? -/
def chainB (md : Region.Mode) (ops : Array Oper) (z : Nat) : Nat → List Nat → Bool
  | i, [] => waitsB md ops z i
  | i, j :: p => waitsB md ops j i && chainB md ops z j p
theorem chain_ready : ∀ (p : List Nat) {i : Nat} {listed : Array Bool}, chainB md ops z i p = true → listed.getD i true = false → (∀ j ∈ p, listed.getD j true = false) → z ∉ Region.ready md ops listed ∧ ∀ j ∈ p, j ∉ Region.ready md ops listed
  | [], _, _, h, h0, _ => ⟨not_ready_un h h0, fun _ hj => by cases hj⟩
  | j :: p, i, listed, h, h0, hp => by
    simp only [chainB, Bool.and_eq_true] at h
    have r := chain_ready p h.2 (hp j (by simp)) (fun k hk => hp k (by simp [hk]))
    refine ⟨r.1, fun k hk => ?_⟩
    rcases List.mem_cons.1 hk with rfl | hk
    · exact not_ready_un h.1 h0
    · exact r.2 k hk
set_option maxRecDepth 8000 in
theorem wpAnyU_firstP {i : Nat} {oi : Oper} {v : Value} (p : List Nat) (hi : ops[i]? = some oi) (hsel : ∀ (j : Nat) (o : Oper) cs b, ops[j]? = some o → o.op ≠ .select cs b) (hQ : ∀ c a w, Q (.panic c) (a.put oi.dst v) w → Q (.panic c) a w) (hz : chainB md ops z i p = true) (fuel : Nat) :
    ∀ (listed : Array Bool) (a : Act) (w : World), (∀ j oj, ops[j]? = some oj → j ≠ i → listed.getD j true = false → (∀ e ∈ oj.after, Region.binds md e = true → e.on ≠ i) → oi.apart ops oj = true) → (∀ j ∈ p, listed.getD j true = false) →
      i ∈ Region.ready md ops listed → YieldsIf P ops S oi v a → S w → wpAnyU P md ops Q S z fuel (listed.setIfInBounds i true) (a.put oi.dst v) w → wpAnyU P md ops Q S z (fuel + 1) listed a w := by
  induction fuel with
  | zero =>
    intro listed a w _ _ hr hy hS hh
    constructor
    · intro h
      rw [h] at hr
      cases hr
    · intro j hj
      rcases Decidable.em (j = i) with rfl | hne
      · exact hy.wpOp hi hS ⟨.inr hS, hh⟩
      · have hm := ready_mono hj hne
        rw [hh.1] at hm
        cases hm
  | succ fuel ih =>
    intro listed a w hfree hun0 hr hy hS hh
    have hil : listed.getD i true = false := (mem_ready.1 hr).1
    have hc := chain_ready p hz hil hun0
    constructor
    · intro h
      rw [h] at hr
      cases hr
    · intro j hj
      rcases Decidable.em (j = i) with rfl | hne
      · exact hy.wpOp hi hS ⟨.inr hS, hh⟩
      · obtain ⟨hun, oj, hoj, haft⟩ := mem_ready.1 hj
        have hjz : j ≠ z := by
          rintro rfl
          exact hc.1 hj
        have hno : ∀ e ∈ oj.after, Region.binds md e = true → e.on ≠ i := by
          intro e he hb heq
          refine not_ready_un (z := j) ?_ hil hj
          unfold waitsB
          rw [hoj]
          simp only [Array.any_eq_true, Bool.and_eq_true, beq_iff_eq]
          obtain ⟨k, hk, hek⟩ := Array.mem_iff_getElem.1 he
          exact ⟨k, hk, by rw [hek]; exact hb, by rw [hek]; exact heq⟩
        have h2 := wpOp_putIf hoj (hfree j oj hoj hne hun hno) (fun cs b => hsel i oi cs b hi) (fun cs b => hsel j oj cs b hoj) hQ hy (hh.2 j (ready_mono hj hne))
        refine wpOp_mono (fun a' w' h3 => ?_) h2
        obtain ⟨hy', hs', hu⟩ := h3
        have hs2 := hs'.resolve_left hjz
        refine ⟨.inr hs2, ih _ a' w' ?_ ?_ (ready_mono hr (Ne.symm hne)) hy' hs2 ?_⟩
        · intro k ok hk hki hl hn
          refine hfree k ok hk hki ?_ hn
          rcases Decidable.em (j = k) with rfl | hjk
          · exact hun
          · rwa [getD_set_ne true hjk] at hl
        · intro k hk
          rw [getD_set_ne true (by rintro rfl; exact hc.2 _ hk hj)]
          exact hun0 k hk
        · rw [Array.setIfInBounds_comm _ _ hne]
          exact hu
set_option maxRecDepth 8000 in
theorem wpAnyU_takeP (p : List Nat) {i : Nat} {oi : Oper} {v : Value} {fuel : Nat} {listed : Array Bool} {a : Act} {w : World} (hi : ops[i]? = some oi)
    (hs : Region.noSelect ops = true) (hf : Region.free md ops listed i = true) (hr : (Region.ready md ops listed).contains i = true) (hz : (chainB md ops z i p && p.all (fun j => !listed.getD j true)) = true)
    (hQ : ∀ c a w, Q (.panic c) (a.put oi.dst v) w → Q (.panic c) a w) (hy : YieldsIf P ops S oi v a) (hS : S w)
    (h : wpAnyU P md ops Q S z fuel (listed.setIfInBounds i true) (a.put oi.dst v) w) : wpAnyU P md ops Q S z (fuel + 1) listed a w := by
  rw [Bool.and_eq_true, List.all_eq_true] at hz
  exact wpAnyU_firstP p hi (Region.noSelect_spec hs) hQ hz.1 fuel listed a w (Region.free_spec hi hf) (fun j hj => by simpa using hz.2 j hj) (by simpa using hr) hy hS h
theorem wpAnyU_take {i : Nat} {oi : Oper} {v : Value} {fuel : Nat} {listed : Array Bool} {a : Act} {w : World} (hi : ops[i]? = some oi)
    (hs : Region.noSelect ops = true) (hf : Region.free md ops listed i = true) (hr : (Region.ready md ops listed).contains i = true) (hz : waitsB md ops z i = true)
    (hQ : ∀ c a w, Q (.panic c) (a.put oi.dst v) w → Q (.panic c) a w) (hy : YieldsIf P ops S oi v a) (hS : S w)
    (h : wpAnyU P md ops Q S z fuel (listed.setIfInBounds i true) (a.put oi.dst v) w) : wpAnyU P md ops Q S z (fuel + 1) listed a w :=
  wpAnyU_first hi (Region.noSelect_spec hs) hQ hz fuel listed a w (Region.free_spec hi hf) (by simpa using hr) hy hS h
theorem wpAnyU_one {i : Nat} {o : Oper} {fuel : Nat} {listed : Array Bool} {a : Act} {w : World} (hr : Region.ready md ops listed = [i]) (ho : ops[i]? = some o)
    (h : ∀ K' : Act → World → Prop, Shut (∀ a w, (i = z ∨ S w) → ((i = z ∨ S w) → wpAnyU P md ops Q S z fuel (listed.setIfInBounds i true) a w) → K' a w) → if Region.wanted o (yielded ops a.tmps) = true then Oper.wp P o a w K' Q else K' (a.put o.dst undef) w) :
    wpAnyU P md ops Q S z (fuel + 1) listed a w :=
  ⟨fun h0 => (by rw [hr] at h0; cases h0), fun j hj => by
    rw [hr, List.mem_singleton] at hj
    subst hj
    exact wpOp_step ho (fun K' hK => h K' (fun a w hS hW => hK a w ⟨hS, hW hS⟩))⟩
theorem wpAnyU_done {listed : Array Bool} {a : Act} {w : World} (hr : Region.ready md ops listed = []) (h : Q .normal a w) : ∀ fuel, wpAnyU P md ops Q S z fuel listed a w
  | 0 => ⟨hr, h⟩
  | _ + 1 => ⟨fun _ => h, by rw [hr]; simp⟩
theorem wp_region_U {id : Nat} {a : Act} {w : World} (z : Nat) (hm : P.follows .mixedOrders = true) (hS : S w.drew)
    (h : S w.drew → wpAnyU P .any ops (OnlyN Q) S z ops.size (Array.replicate ops.size false) a w.drew) : (Code.region id ops true).wp P Q a w :=
  Code.wp_mono OnlyN.imp (wp_region_any hm (wpAny_of_U _ _ _ _ (h hS)))
theorem wpIn_region_U_out {n id : Nat} {a : Act} {w : World} (z : Nat) (hm : P.follows .mixedOrders = true) (hS : S w.drew)
    (h : S w.drew → wpAnyU P .any ops (OnlyN Q) S z ops.size (Array.replicate ops.size false) a w.drew) : (Code.region id ops true).wpIn Fence.wide n P Q a w :=
  wpIn_wide.2 (wp_region_U z hm hS h)
theorem wpIn_region_U_round {l n id : Nat} {a : Act} {w : World} (z : Nat) (hm : P.follows .mixedOrders = true) (hd : ∀ (i : Nat) (o : Oper), ops[i]? = some o → ∀ c, o.op ≠ .defer c) (hS : S w.drew)
    (h : S w.drew → wpAnyU P .any ops (OnlyN Q) S z ops.size (Array.replicate ops.size false) a w.drew) : (Code.region id ops true).wpIn (Fence.wide.inRound l) n P Q a w :=
  wpIn_region_any hm (wpAnyIn_of_only hd _ _ _ _ (wpAny_of_U _ _ _ _ (h hS)))
end
end Go.Proofs.YtogkdhpnbpgheaaGreatDoor
namespace Go.Proofs.YtogkdhpnbpgheaaGreatDoor
open Go.RowKit
attribute [local go_sem] Oper.semAt_some
/-- an object's cells: what is asked of them -/
structure Ob (l : List Value) (kk cc ll : Int) : Prop where
  e0 : l[0]? = some (.int .i64 kk)
  e1 : l[1]? = some (.int .i64 cc)
  e2 : l[2]? = some (.int .i64 ll)
theorem ob3 {w : World} {g : Nat} {l : List Value} {kk cc ll : Int} (h : Blk w g 49 l.toArray) (ho : Ob l kk cc ll) : w.cell? ⟨g, 0, none⟩ = some (.int .i64 kk) ∧ w.cell? ⟨g, 1, none⟩ = some (.int .i64 cc) ∧ w.cell? ⟨g, 2, none⟩ = some (.int .i64 ll) :=
  ⟨by rw [h.cell]; simpa using ho.e0, by rw [h.cell]; simpa using ho.e1, by rw [h.cell]; simpa using ho.e2⟩
/-- does a key count with an object -/
noncomputable def Ky.cnt (x : Ky) (kk cc ll : Int) : Bool := @decide (x.ok ∧ (x.of → x.want = kk ∧ x.c = cc ∧ (x.k ≠ 7 ∨ x.l = ll))) (Classical.propDecidable _)
set_option maxRecDepth 8000 in
theorem cnt_yes {x : Ky} {kk cc ll : Int} (h : x.ok ∧ (x.of → x.want = kk ∧ x.c = cc ∧ (x.k ≠ 7 ∨ x.l = ll))) : x.cnt kk cc ll = true := by unfold Ky.cnt; simpa using h
set_option maxRecDepth 8000 in
theorem cnt_no {x : Ky} {kk cc ll : Int} (h : ¬ (x.ok ∧ (x.of → x.want = kk ∧ x.c = cc ∧ (x.k ≠ 7 ∨ x.l = ll)))) : x.cnt kk cc ll = false := by unfold Ky.cnt; simpa using h
set_option maxRecDepth 8000 in
set_option maxHeartbeats 1000000 in
theorem cou_bad (x : Ky) (l : List Value) (kk cc ll : Int) (w : World) (hT : Tab w) (ho : Ob l kk cc ll) (h : ¬ x.ok) :
    Calls Tryz.prog 83 #[x.val, .agg l.toArray] w fun e w' => e = .returned (.bool false) ∧ Below w.heap.size w w' := by
  have HT := Lib.hid hT
  have HO := Lib.hid ho
  have HK := Lib.hid h
  clear h
  clear hT ho
  go_enter Tryz.func83, Tryz.ntmps83
  go_wp2_with (go_at_call 81; refine (kchk_no x _ ((HT.out.alloc _).alloc _) HK.out).mono ?_; rintro e w1 ⟨rfl, b1⟩; obtain ⟨B1, B2, b2⟩ := box2 b1; have HB := Lib.hid b2; have HT1 := Lib.hid (HT.out.below b2); have H1 := Lib.hid B1; have H2 := Lib.hid B2; clear b1; obtain ⟨c0, c1, c2, c3, c4, c5⟩ := B1.six; obtain ⟨d0, d1, d2⟩ := ob3 B2 HO.out; clear B1 B2 b2)
  go_ret
  exact ⟨rfl, HB.out⟩
set_option maxRecDepth 8000 in
set_option maxHeartbeats 1000000 in
theorem cou_none (n : Nat) (o c ll' r v : Int) (l : List Value) (kk cc ll : Int) (w : World) (hT : Tab w) (ho : Ob l kk cc ll) (h : OkK n o c ll' r v) (wv : Int) (hwv : kWants n = wv) (h0 : wv = 0) :
    Calls Tryz.prog 83 #[.agg (kc n o c ll' r v), .agg l.toArray] w fun e w' => e = .returned (.bool true) ∧ Below w.heap.size w w' := by
  have HT := Lib.hid hT
  have HO := Lib.hid ho
  have hn : n ≤ 10 := by have := okK_in h; omega
  have HK := Lib.hid h
  have z1 := (hT.row hn).z1
  rw [hwv] at z1
  have hg := hT.lt
  subst h0
  clear h hwv
  clear hT ho
  go_enter Tryz.func83, Tryz.ntmps83
  go_wp2_with (go_at_call 81; refine (chk_ok n o c ll' r v _ ((HT.out.alloc _).alloc _) HK.out).mono ?_; rintro e w1 ⟨rfl, b1⟩; obtain ⟨B1, B2, b2⟩ := box2 b1; have HB := Lib.hid b2; have z2 := (b2.cell (p := ⟨0, n * 7 + 1, none⟩) hg).trans z1; have HT1 := Lib.hid (HT.out.below b2); have H1 := Lib.hid B1; have H2 := Lib.hid B2; clear b1; obtain ⟨c0, c1, c2, c3, c4, c5⟩ := B1.six; obtain ⟨d0, d1, d2⟩ := ob3 B2 HO.out; clear B1 B2 b2)
  go_ret
  exact ⟨rfl, HB.out⟩
set_option maxRecDepth 8000 in
set_option maxHeartbeats 1000000 in
theorem cou_k (n : Nat) (o c ll' r v : Int) (l : List Value) (kk cc ll : Int) (w : World) (hT : Tab w) (ho : Ob l kk cc ll) (h : OkK n o c ll' r v) (wv : Int) (hwv : kWants n = wv) (h0 : wv ≠ 0) (h7 : n ≠ 7) (hk : wv ≠ kk) :
    Calls Tryz.prog 83 #[.agg (kc n o c ll' r v), .agg l.toArray] w fun e w' => e = .returned (.bool false) ∧ Below w.heap.size w w' := by
  have HT := Lib.hid hT
  have HO := Lib.hid ho
  have hn : n ≤ 10 := by have := okK_in h; omega
  have HK := Lib.hid h
  have z1 := (hT.row hn).z1
  rw [hwv] at z1
  have hg := hT.lt
  have dw : (wv == 0) = false := by simpa using h0
  clear h0
  have d7 : ((n : Int) != 7) = true := by simp; omega
  clear h7
  have dk : (wv == kk) = false := by simpa using hk
  clear hk
  clear h hwv
  clear hT ho
  go_enter Tryz.func83, Tryz.ntmps83
  go_wp2_with (go_at_call 81; refine (chk_ok n o c ll' r v _ ((HT.out.alloc _).alloc _) HK.out).mono ?_; rintro e w1 ⟨rfl, b1⟩; obtain ⟨B1, B2, b2⟩ := box2 b1; have HB := Lib.hid b2; have z2 := (b2.cell (p := ⟨0, n * 7 + 1, none⟩) hg).trans z1; have HT1 := Lib.hid (HT.out.below b2); have H1 := Lib.hid B1; have H2 := Lib.hid B2; clear b1; obtain ⟨c0, c1, c2, c3, c4, c5⟩ := B1.six; obtain ⟨d0, d1, d2⟩ := ob3 B2 HO.out; clear B1 B2 b2)
  go_ret
  exact ⟨rfl, HB.out⟩
set_option maxRecDepth 8000 in
set_option maxHeartbeats 1000000 in
theorem cou_c (n : Nat) (o c ll' r v : Int) (l : List Value) (kk cc ll : Int) (w : World) (hT : Tab w) (ho : Ob l kk cc ll) (h : OkK n o c ll' r v) (wv : Int) (hwv : kWants n = wv) (h0 : wv ≠ 0) (h7 : n ≠ 7) (hk : wv = kk) (hc : c ≠ cc) :
    Calls Tryz.prog 83 #[.agg (kc n o c ll' r v), .agg l.toArray] w fun e w' => e = .returned (.bool false) ∧ Below w.heap.size w w' := by
  have HT := Lib.hid hT
  have HO := Lib.hid ho
  have hn : n ≤ 10 := by have := okK_in h; omega
  have HK := Lib.hid h
  have z1 := (hT.row hn).z1
  rw [hwv] at z1
  have hg := hT.lt
  have dw : (wv == 0) = false := by simpa using h0
  clear h0
  have d7 : ((n : Int) != 7) = true := by simp; omega
  clear h7
  subst hk
  have dc : (c == cc) = false := by simpa using hc
  clear hc
  clear h hwv
  clear hT ho
  go_enter Tryz.func83, Tryz.ntmps83
  go_wp2_with (go_at_call 81; refine (chk_ok n o c ll' r v _ ((HT.out.alloc _).alloc _) HK.out).mono ?_; rintro e w1 ⟨rfl, b1⟩; obtain ⟨B1, B2, b2⟩ := box2 b1; have HB := Lib.hid b2; have z2 := (b2.cell (p := ⟨0, n * 7 + 1, none⟩) hg).trans z1; have HT1 := Lib.hid (HT.out.below b2); have H1 := Lib.hid B1; have H2 := Lib.hid B2; clear b1; obtain ⟨c0, c1, c2, c3, c4, c5⟩ := B1.six; obtain ⟨d0, d1, d2⟩ := ob3 B2 HO.out; clear B1 B2 b2)
  go_ret
  exact ⟨rfl, HB.out⟩
set_option maxRecDepth 8000 in
set_option maxHeartbeats 1000000 in
theorem cou_y (n : Nat) (o c ll' r v : Int) (l : List Value) (kk cc ll : Int) (w : World) (hT : Tab w) (ho : Ob l kk cc ll) (h : OkK n o c ll' r v) (wv : Int) (hwv : kWants n = wv) (h0 : wv ≠ 0) (h7 : n ≠ 7) (hk : wv = kk) (hc : c = cc) :
    Calls Tryz.prog 83 #[.agg (kc n o c ll' r v), .agg l.toArray] w fun e w' => e = .returned (.bool true) ∧ Below w.heap.size w w' := by
  have HT := Lib.hid hT
  have HO := Lib.hid ho
  have hn : n ≤ 10 := by have := okK_in h; omega
  have HK := Lib.hid h
  have z1 := (hT.row hn).z1
  rw [hwv] at z1
  have hg := hT.lt
  have dw : (wv == 0) = false := by simpa using h0
  clear h0
  have d7 : ((n : Int) != 7) = true := by simp; omega
  clear h7
  subst hk
  subst hc
  clear h hwv
  clear hT ho
  go_enter Tryz.func83, Tryz.ntmps83
  go_wp2_with (go_at_call 81; refine (chk_ok n o c ll' r v _ ((HT.out.alloc _).alloc _) HK.out).mono ?_; rintro e w1 ⟨rfl, b1⟩; obtain ⟨B1, B2, b2⟩ := box2 b1; have HB := Lib.hid b2; have z2 := (b2.cell (p := ⟨0, n * 7 + 1, none⟩) hg).trans z1; have HT1 := Lib.hid (HT.out.below b2); have H1 := Lib.hid B1; have H2 := Lib.hid B2; clear b1; obtain ⟨c0, c1, c2, c3, c4, c5⟩ := B1.six; obtain ⟨d0, d1, d2⟩ := ob3 B2 HO.out; clear B1 B2 b2)
  go_ret
  exact ⟨rfl, HB.out⟩
set_option maxRecDepth 8000 in
set_option maxHeartbeats 1000000 in
theorem cou7_k (o c ll' r v : Int) (l : List Value) (kk cc ll : Int) (w : World) (hT : Tab w) (ho : Ob l kk cc ll) (h : OkK 7 o c ll' r v) (wv : Int) (hwv : kWants 7 = wv) (h0 : wv ≠ 0) (hk : wv ≠ kk) :
    Calls Tryz.prog 83 #[.agg (kc 7 o c ll' r v), .agg l.toArray] w fun e w' => e = .returned (.bool false) ∧ Below w.heap.size w w' := by
  have HT := Lib.hid hT
  have HO := Lib.hid ho
  have hn : 7 ≤ 10 := by omega
  have HK := Lib.hid h
  have z1 := (hT.row hn).z1
  rw [hwv] at z1
  have hg := hT.lt
  have dw : (wv == 0) = false := by simpa using h0
  clear h0
  have dk : (wv == kk) = false := by simpa using hk
  clear hk
  clear h hwv
  clear hT ho
  go_enter Tryz.func83, Tryz.ntmps83
  go_wp2_with (go_at_call 81; refine (chk_ok 7 o c ll' r v _ ((HT.out.alloc _).alloc _) HK.out).mono ?_; rintro e w1 ⟨rfl, b1⟩; obtain ⟨B1, B2, b2⟩ := box2 b1; have HB := Lib.hid b2; have z2 := (b2.cell (p := ⟨0, 7 * 7 + 1, none⟩) hg).trans z1; have HT1 := Lib.hid (HT.out.below b2); have H1 := Lib.hid B1; have H2 := Lib.hid B2; clear b1; obtain ⟨c0, c1, c2, c3, c4, c5⟩ := B1.six; obtain ⟨d0, d1, d2⟩ := ob3 B2 HO.out; clear B1 B2 b2)
  go_ret
  exact ⟨rfl, HB.out⟩
set_option maxRecDepth 8000 in
set_option maxHeartbeats 1000000 in
theorem cou7_c (o c ll' r v : Int) (l : List Value) (kk cc ll : Int) (w : World) (hT : Tab w) (ho : Ob l kk cc ll) (h : OkK 7 o c ll' r v) (wv : Int) (hwv : kWants 7 = wv) (h0 : wv ≠ 0) (hk : wv = kk) (hc : c ≠ cc) :
    Calls Tryz.prog 83 #[.agg (kc 7 o c ll' r v), .agg l.toArray] w fun e w' => e = .returned (.bool false) ∧ Below w.heap.size w w' := by
  have HT := Lib.hid hT
  have HO := Lib.hid ho
  have hn : 7 ≤ 10 := by omega
  have HK := Lib.hid h
  have z1 := (hT.row hn).z1
  rw [hwv] at z1
  have hg := hT.lt
  have dw : (wv == 0) = false := by simpa using h0
  clear h0
  subst hk
  have dc : (c == cc) = false := by simpa using hc
  clear hc
  clear h hwv
  clear hT ho
  go_enter Tryz.func83, Tryz.ntmps83
  go_wp2_with (go_at_call 81; refine (chk_ok 7 o c ll' r v _ ((HT.out.alloc _).alloc _) HK.out).mono ?_; rintro e w1 ⟨rfl, b1⟩; obtain ⟨B1, B2, b2⟩ := box2 b1; have HB := Lib.hid b2; have z2 := (b2.cell (p := ⟨0, 7 * 7 + 1, none⟩) hg).trans z1; have HT1 := Lib.hid (HT.out.below b2); have H1 := Lib.hid B1; have H2 := Lib.hid B2; clear b1; obtain ⟨c0, c1, c2, c3, c4, c5⟩ := B1.six; obtain ⟨d0, d1, d2⟩ := ob3 B2 HO.out; clear B1 B2 b2)
  go_ret
  exact ⟨rfl, HB.out⟩
set_option maxRecDepth 8000 in
set_option maxHeartbeats 1000000 in
theorem cou7_y (o c ll' r v : Int) (l : List Value) (kk cc ll : Int) (w : World) (hT : Tab w) (ho : Ob l kk cc ll) (h : OkK 7 o c ll' r v) (wv : Int) (hwv : kWants 7 = wv) (h0 : wv ≠ 0) (hk : wv = kk) (hc : c = cc) :
    Calls Tryz.prog 83 #[.agg (kc 7 o c ll' r v), .agg l.toArray] w fun e w' => e = .returned (.bool (ll' == ll)) ∧ Below w.heap.size w w' := by
  have HT := Lib.hid hT
  have HO := Lib.hid ho
  have hn : 7 ≤ 10 := by omega
  have HK := Lib.hid h
  have z1 := (hT.row hn).z1
  rw [hwv] at z1
  have hg := hT.lt
  have dw : (wv == 0) = false := by simpa using h0
  clear h0
  subst hk
  subst hc
  clear h hwv
  clear hT ho
  go_enter Tryz.func83, Tryz.ntmps83
  go_wp2_with (go_at_call 81; refine (chk_ok 7 o c ll' r v _ ((HT.out.alloc _).alloc _) HK.out).mono ?_; rintro e w1 ⟨rfl, b1⟩; obtain ⟨B1, B2, b2⟩ := box2 b1; have HB := Lib.hid b2; have z2 := (b2.cell (p := ⟨0, 7 * 7 + 1, none⟩) hg).trans z1; have HT1 := Lib.hid (HT.out.below b2); have H1 := Lib.hid B1; have H2 := Lib.hid B2; clear b1; obtain ⟨c0, c1, c2, c3, c4, c5⟩ := B1.six; obtain ⟨d0, d1, d2⟩ := ob3 B2 HO.out; clear B1 B2 b2)
  go_ret
  exact ⟨rfl, HB.out⟩
end Go.Proofs.YtogkdhpnbpgheaaGreatDoor
namespace Go.Proofs.YtogkdhpnbpgheaaGreatDoor
open Go.RowKit
section
variable {ops : Array Oper} {o : Oper} {a : Act} {w : World} {K : Act → World → Prop} {Q : Exit → Act → World → Prop} {E : Prop}
set_option maxRecDepth 8000 in
theorem step_store_ob {t : TypeId} {b : Nat} {u0 : Oj} (hb : Blk w b t u0.cells.toArray) (hgd : o.guard = none) (x y : Operand) (ho : o.op = .store 49 x y) (hx : a.eval x = .pointer (some ⟨b, 0, none⟩)) (u : Oj) (hy : a.eval y = u.val)
    (h : K (a.put o.dst undef) (w.setRow b u.cells.toArray)) : if Region.wanted o (yielded ops a.tmps) = true then Oper.wp Tryz.prog o a w K Q else E := by
  rw [if_pos (by simp [Region.wanted, hgd])]
  exact wp_store_row 49 x y ho b u.cells.toArray hx hy t u0.cells.toArray hb (by rw [List.size_toArray, u.len]; exact size34) (by rw [List.size_toArray, List.size_toArray, u.len, u0.len]) u.allOne h
end
section
variable {w : World} {base p : Nat} {A : Option Addr} {cap : Nat} {ps : List Nat} {os : List Oj}
set_option maxRecDepth 8000 in
theorem nd_ne {ps : List Nat} (h : ps.Nodup) {i j : Nat} (hi : i < ps.length) (hj : j < ps.length) (hne : i ≠ j) : ps[i] ≠ ps[j] := by
  have hp := List.pairwise_iff_getElem.1 h
  rcases Nat.lt_or_gt_of_ne hne with hl | hl
  · exact hp i j hi hj hl
  · exact (hp j i hj hi hl).symm
theorem setRow_fr (w : World) (b : Nat) (c : Array Value) : Fr (fun k => k = b) w (w.setRow b c) := ⟨rfl, rfl, rfl, by simp [World.setRow], fun k _ hk => setRow_other w b k c hk⟩
set_option maxRecDepth 8000 in
theorem StAt.put (h : StAt w base p A cap ps os) (i : Nat) (hi : i < os.length) (hp : i < ps.length) (o : Oj) : StAt (w.setRow ps[i] o.cells.toArray) base p A cap ps (os.set i o) := by
  have hb := h.pps _ (List.getElem_mem hp)
  have hl : (os.set i o).length = os.length := List.length_set
  refine ⟨?_, ?_, by rw [hl]; exact h.len, ?_, h.pge, h.pn, h.pps, h.nd⟩
  · rw [hl]
    exact (setRow_other w _ p _ (Ne.symm hb.2.1)).trans h.blk
  · rw [hl]
    exact own_keep h.own fun k hk => setRow_other w _ k _ (by rintro rfl; exact hb.2.2 hk)
  · intro j h1 h2
    rw [hl] at h1
    by_cases hj : i = j
    · subst hj
      rw [List.getElem_set_self]
      exact setRow_heap w _ _ _ _ (0, 0) (h.obj i hi hp)
    · rw [List.getElem_set_ne hj]
      exact (setRow_other w _ _ _ (nd_ne h.nd hp h2 hj).symm).trans (h.obj j h1 h2)
set_option maxRecDepth 8000 in
set_option maxHeartbeats 1000000 in
theorem put_no (x : Value) (n : Int) (o : Oj) (e : Int) (he : e ≠ 0) (ha : ∀ W, Below w.heap.size w W → Calls Tryz.prog 30 #[x, .int .i64 n] W fun e' w' => e' = .returned (.int .i64 e) ∧ W = w') (hx : x = .pointer none ∨ ∃ q, x = pv q) :
    Calls Tryz.prog 215 #[x, .int .i64 n, o.val] w fun e' w' => e' = .returned (.int .i64 e) ∧ Below w.heap.size w w' := by
  have HA := Lib.hid ha
  have HB := Lib.hid ((Below.refl w.heap.size w).alloc (Nat.le_refl _) (.cells o.cells.toArray 49))
  have de : (e != 0) = true := by simpa using he
  clear ha he
  rcases hx with rfl | ⟨q, rfl⟩
  all_goals
    go_enter Tryz.func215, Tryz.ntmps215
    go_wp2_with (go_at_call 30; refine (HA.out _ HB.out).mono ?_; rintro e w1 ⟨rfl, rfl⟩)
    go_ret
    exact ⟨rfl, HB.out⟩
theorem put_nil (n : Int) (o : Oj) : Calls Tryz.prog 215 #[.pointer none, .int .i64 n, o.val] w fun e' w' => e' = .returned (.int .i64 1) ∧ Below w.heap.size w w' :=
  put_no _ n o 1 (by decide) (fun W _ => asked_nil n W) (.inl rfl)
theorem put_none (h : StAt w base p A cap ps []) (n : Int) (o : Oj) : Calls Tryz.prog 215 #[pv p, .int .i64 n, o.val] w fun e' w' => e' = .returned (.int .i64 1) ∧ Below w.heap.size w w' :=
  put_no _ n o 1 (by decide) (fun _ hb => asked_none (h.below hb) n) (.inr ⟨p, rfl⟩)
theorem put_out (h : StAt w base p A cap ps os) (hn : 0 < os.length) (n : Int) (hi : n < 0 ∨ (os.length : Int) ≤ n) (o : Oj) : Calls Tryz.prog 215 #[pv p, .int .i64 n, o.val] w fun e' w' => e' = .returned (.int .i64 4) ∧ Below w.heap.size w w' :=
  put_no _ n o 4 (by decide) (fun _ hb => asked_no (h.below hb) hn n hi) (.inr ⟨p, rfl⟩)
set_option maxRecDepth 100000 in
set_option maxHeartbeats 2000000 in
theorem put_bad (h : StAt w base p A cap ps os) (hT : Tab w) (i : Nat) (hi : i < os.length) (o : Oj) (hc : ¬ o.ok os.length) :
    Calls Tryz.prog 215 #[pv p, .int .i64 (i : Int), o.val] w fun e' w' => e' = .returned (.int .i64 2) ∧ Below w.heap.size w w' := by
  have HT := Lib.hid (hT.alloc (.cells o.cells.toArray 49))
  have HS := Lib.hid (h.alloc (.cells o.cells.toArray 49))
  have HB := Lib.hid ((Below.refl w.heap.size w).alloc (Nat.le_refl _) (.cells o.cells.toArray 49))
  have HG := Lib.hid (Blk.new w 49 o.cells.toArray)
  have HI := Lib.hid hi
  have HL := Lib.hid (fun (k : Nat) (hk : stHas p A ps k) => (h.lt k hk).2)
  have HC := Lib.hid hc
  clear hc
  have hil : (i : Int) < (os.length : Int) := by omega
  have hpi : i < ps.length := by rw [h.len]; exact hi
  obtain ⟨g, rfl, hr⟩ := HS.out.row hi
  have HPI := Lib.hid hpi
  obtain ⟨b, hb⟩ : ∃ b, b = ps[i]'HPI.out := ⟨_, rfl⟩
  have hr' := hr HPI.out
  rw [← hb] at hr'
  have HR := Lib.hid hr'
  have HBI := Lib.hid hb
  clear h hT hi hr hr' hpi hb
  go_enter Tryz.func215, Tryz.ntmps215
  go_wp2_with (go_at_call 30; refine (asked_ok HS.out i HI.out).mono ?_; rintro e w1 ⟨rfl, rfl⟩)
  generalize w.alloc (.cells o.cells.toArray 49) = w0 at HT HS HB HG HR ⊢
  refine wp_region_only (S := fun w' => ObAt w' w.heap.size 0 o ∧ w'.cell? ⟨p, 0, none⟩ = some (.slice (some ⟨g, 0, none⟩) os.length cap)) (by kernel_rfl) ⟨HG.out.drew.ob, HS.out.drew.c0⟩ (fun hHeld => ?_)
  refine wpAnyH_take (i := 0) rfl (by kernel_rfl) (by kernel_rfl) (by kernel_rfl) (fun _ _ _ h => h) (y_ob (by rfl) (.tmp 5) (by rfl) w.heap.size 0 (by rfl) o (fun _ h => h.1)) hHeld ?_
  try simp only [Act.put, List.getElem_toArray, List.getElem_cons_zero, List.setIfInBounds_toArray, List.set_cons_zero, List.set_cons_succ]
  refine wpAnyH_take (i := 1) (v := ?v1) rfl (by kernel_rfl) (by kernel_rfl) (by kernel_rfl) (fun _ _ _ h => h) (Or.inl ⟨by rfl, ?hy1⟩) hHeld ?rest1
  case hy1 =>
    intro w' hSw
    try dsimp only at hSw
    go_simp
    first | done | with_reducible rfl
  try simp only [Act.put, List.getElem_toArray, List.getElem_cons_succ, List.getElem_cons_zero, List.setIfInBounds_toArray, List.set_cons_zero, List.set_cons_succ]
  refine wpAnyH_take (i := 2) (v := ?v2) rfl (by kernel_rfl) (by kernel_rfl) (by kernel_rfl) (fun _ _ _ h => h) (Or.inl ⟨by rfl, ?hy2⟩) hHeld ?rest2
  case hy2 =>
    intro w' hSw
    try dsimp only at hSw
    go_simp
    first | done | with_reducible rfl
  try simp only [Act.put, List.getElem_toArray, List.getElem_cons_succ, List.getElem_cons_zero, List.setIfInBounds_toArray, List.set_cons_zero, List.set_cons_succ]
  refine wpAnyH_take (i := 3) (v := ?v3) rfl (by kernel_rfl) (by kernel_rfl) (by kernel_rfl) (fun _ _ _ h => h) (Or.inl ⟨by rfl, ?hy3⟩) hHeld ?rest3
  case hy3 =>
    intro w' hSw
    try dsimp only at hSw
    go_simp
    first | done | with_reducible rfl
  try simp only [Act.put, List.getElem_toArray, List.getElem_cons_succ, List.getElem_cons_zero, List.setIfInBounds_toArray, List.set_cons_zero, List.set_cons_succ]
  refine wpAnyH_take (i := 4) (v := ?v4) rfl (by kernel_rfl) (by kernel_rfl) (by kernel_rfl) (fun _ _ _ h => h) (Or.inl ⟨by rfl, ?hy4⟩) hHeld ?rest4
  case hy4 =>
    intro w' hSw
    try dsimp only at hSw
    go_simp
    first | done | with_reducible rfl
  try simp only [Act.put, List.getElem_toArray, List.getElem_cons_succ, List.getElem_cons_zero, List.setIfInBounds_toArray, List.set_cons_zero, List.set_cons_succ]
  refine wpAnyH_take (i := 5) (v := ?v5) rfl (by kernel_rfl) (by kernel_rfl) (by kernel_rfl) (fun _ _ _ h => h) (Or.inl ⟨by rfl, ?hy5⟩) hHeld ?rest5
  case hy5 =>
    intro w' hSw
    try dsimp only at hSw
    go_simp
    first | done | with_reducible rfl
  try simp only [Act.put, List.getElem_toArray, List.getElem_cons_succ, List.getElem_cons_zero, List.setIfInBounds_toArray, List.set_cons_zero, List.set_cons_succ]
  refine wpAnyH_ready (rs := [6]) (by kernel_rfl) (by simp) ?_
  refine AllReadyH.cons (by rfl) (fun K hK => ?_) AllReadyH.nil
  go_simp
  refine (Oj.chk_no HC.out ▸ check_any o os.length _ HT.out.drew).mono ?_
  rintro e y1 ⟨rfl, b1⟩
  have HB1 := Lib.hid ((below_drew HB.out).trans (b1.mono HB.out.size))
  have HS1 := Lib.hid (HS.out.drew.below b1)
  have HG1 := Lib.hid (HG.out.drew.keep b1)
  clear b1 hHeld
  go_wp2_with fail
  refine hK.out _ _ ⟨HG1.out.ob, HS1.out.c0⟩ (fun hHeld => ?_)
  clear hK K
  try simp only [Act.put, List.getElem_toArray, List.getElem_cons_succ, List.getElem_cons_zero, List.setIfInBounds_toArray, List.set_cons_zero, List.set_cons_succ]
  refine wpAnyH_take (i := 7) (v := ?v6) rfl (by kernel_rfl) (by kernel_rfl) (by kernel_rfl) (fun _ _ _ h => h) (Or.inl ⟨by rfl, ?hy6⟩) hHeld ?rest6
  case hy6 =>
    intro w' hSw
    try dsimp only at hSw
    go_simp
    first | done | with_reducible rfl
  try simp only [Act.put, List.getElem_toArray, List.getElem_cons_succ, List.getElem_cons_zero, List.setIfInBounds_toArray, List.set_cons_zero, List.set_cons_succ]
  refine wpAnyH_done (by kernel_rfl) ?_ _
  refine OnlyN.normal ?_
  clear hHeld
  go_wp2
  go_ret
  exact ⟨rfl, HB1.out⟩
set_option maxRecDepth 100000 in
set_option maxHeartbeats 2000000 in
theorem put_ok (h : StAt w base p A cap ps os) (hT : Tab w) (i : Nat) (hi : i < os.length) (o : Oj) (hc : o.ok os.length) :
    Calls Tryz.prog 215 #[pv p, .int .i64 (i : Int), o.val] w fun e' w' => e' = .returned (.int .i64 0) ∧ StAt w' base p A cap ps (os.set i o) ∧ Fr (fun k => k ∈ ps) w w' := by
  have HT := Lib.hid (hT.alloc (.cells o.cells.toArray 49))
  have HS := Lib.hid (h.alloc (.cells o.cells.toArray 49))
  have HB := Lib.hid ((Below.refl w.heap.size w).alloc (Nat.le_refl _) (.cells o.cells.toArray 49))
  have HG := Lib.hid (Blk.new w 49 o.cells.toArray)
  have HI := Lib.hid hi
  have HL := Lib.hid (fun (k : Nat) (hk : stHas p A ps k) => (h.lt k hk).2)
  have HC := Lib.hid hc
  clear hc
  have hil : (i : Int) < (os.length : Int) := by omega
  have hpi : i < ps.length := by rw [h.len]; exact hi
  obtain ⟨g, rfl, hr⟩ := HS.out.row hi
  have HPI := Lib.hid hpi
  obtain ⟨b, hb⟩ : ∃ b, b = ps[i]'HPI.out := ⟨_, rfl⟩
  have hr' := hr HPI.out
  rw [← hb] at hr'
  have HR := Lib.hid hr'
  have HBI := Lib.hid hb
  clear h hT hi hr hr' hpi hb
  go_enter Tryz.func215, Tryz.ntmps215
  go_wp2_with (go_at_call 30; refine (asked_ok HS.out i HI.out).mono ?_; rintro e w1 ⟨rfl, rfl⟩)
  generalize w.alloc (.cells o.cells.toArray 49) = w0 at HT HS HB HG HR ⊢
  refine wp_region_only (S := fun w' => ObAt w' w.heap.size 0 o ∧ w'.cell? ⟨p, 0, none⟩ = some (.slice (some ⟨g, 0, none⟩) os.length cap)) (by kernel_rfl) ⟨HG.out.drew.ob, HS.out.drew.c0⟩ (fun hHeld => ?_)
  refine wpAnyH_take (i := 0) rfl (by kernel_rfl) (by kernel_rfl) (by kernel_rfl) (fun _ _ _ h => h) (y_ob (by rfl) (.tmp 5) (by rfl) w.heap.size 0 (by rfl) o (fun _ h => h.1)) hHeld ?_
  try simp only [Act.put, List.getElem_toArray, List.getElem_cons_zero, List.setIfInBounds_toArray, List.set_cons_zero, List.set_cons_succ]
  refine wpAnyH_take (i := 1) (v := ?v7) rfl (by kernel_rfl) (by kernel_rfl) (by kernel_rfl) (fun _ _ _ h => h) (Or.inl ⟨by rfl, ?hy7⟩) hHeld ?rest7
  case hy7 =>
    intro w' hSw
    try dsimp only at hSw
    go_simp
    first | done | with_reducible rfl
  try simp only [Act.put, List.getElem_toArray, List.getElem_cons_succ, List.getElem_cons_zero, List.setIfInBounds_toArray, List.set_cons_zero, List.set_cons_succ]
  refine wpAnyH_take (i := 2) (v := ?v8) rfl (by kernel_rfl) (by kernel_rfl) (by kernel_rfl) (fun _ _ _ h => h) (Or.inl ⟨by rfl, ?hy8⟩) hHeld ?rest8
  case hy8 =>
    intro w' hSw
    try dsimp only at hSw
    go_simp
    first | done | with_reducible rfl
  try simp only [Act.put, List.getElem_toArray, List.getElem_cons_succ, List.getElem_cons_zero, List.setIfInBounds_toArray, List.set_cons_zero, List.set_cons_succ]
  refine wpAnyH_take (i := 3) (v := ?v9) rfl (by kernel_rfl) (by kernel_rfl) (by kernel_rfl) (fun _ _ _ h => h) (Or.inl ⟨by rfl, ?hy9⟩) hHeld ?rest9
  case hy9 =>
    intro w' hSw
    try dsimp only at hSw
    go_simp
    first | done | with_reducible rfl
  try simp only [Act.put, List.getElem_toArray, List.getElem_cons_succ, List.getElem_cons_zero, List.setIfInBounds_toArray, List.set_cons_zero, List.set_cons_succ]
  refine wpAnyH_take (i := 4) (v := ?v10) rfl (by kernel_rfl) (by kernel_rfl) (by kernel_rfl) (fun _ _ _ h => h) (Or.inl ⟨by rfl, ?hy10⟩) hHeld ?rest10
  case hy10 =>
    intro w' hSw
    try dsimp only at hSw
    go_simp
    first | done | with_reducible rfl
  try simp only [Act.put, List.getElem_toArray, List.getElem_cons_succ, List.getElem_cons_zero, List.setIfInBounds_toArray, List.set_cons_zero, List.set_cons_succ]
  refine wpAnyH_take (i := 5) (v := ?v11) rfl (by kernel_rfl) (by kernel_rfl) (by kernel_rfl) (fun _ _ _ h => h) (Or.inl ⟨by rfl, ?hy11⟩) hHeld ?rest11
  case hy11 =>
    intro w' hSw
    try dsimp only at hSw
    go_simp
    first | done | with_reducible rfl
  try simp only [Act.put, List.getElem_toArray, List.getElem_cons_succ, List.getElem_cons_zero, List.setIfInBounds_toArray, List.set_cons_zero, List.set_cons_succ]
  refine wpAnyH_ready (rs := [6]) (by kernel_rfl) (by simp) ?_
  refine AllReadyH.cons (by rfl) (fun K hK => ?_) AllReadyH.nil
  go_simp
  refine (Oj.chk_yes HC.out ▸ check_any o os.length _ HT.out.drew).mono ?_
  rintro e y1 ⟨rfl, b1⟩
  have HB1 := Lib.hid ((below_drew HB.out).trans (b1.mono HB.out.size))
  have HS1 := Lib.hid (HS.out.drew.below b1)
  have HG1 := Lib.hid (HG.out.drew.keep b1)
  clear b1 hHeld
  go_wp2_with fail
  refine hK.out _ _ ⟨HG1.out.ob, HS1.out.c0⟩ (fun hHeld => ?_)
  clear hK K
  try simp only [Act.put, List.getElem_toArray, List.getElem_cons_succ, List.getElem_cons_zero, List.setIfInBounds_toArray, List.set_cons_zero, List.set_cons_succ]
  refine wpAnyH_take (i := 7) (v := ?v12) rfl (by kernel_rfl) (by kernel_rfl) (by kernel_rfl) (fun _ _ _ h => h) (Or.inl ⟨by rfl, ?hy12⟩) hHeld ?rest12
  case hy12 =>
    intro w' hSw
    try dsimp only at hSw
    go_simp
    first | done | with_reducible rfl
  try simp only [Act.put, List.getElem_toArray, List.getElem_cons_succ, List.getElem_cons_zero, List.setIfInBounds_toArray, List.set_cons_zero, List.set_cons_succ]
  refine wpAnyH_done (by kernel_rfl) ?_ _
  refine OnlyN.normal ?_
  clear hHeld
  obtain ⟨g', hg', hr⟩ := HS1.out.row HI.out
  have hg'' : g = g' := by injection hg' with hg'; injection hg' with hg'
  subst hg''
  have hr' := hr HPI.out
  rw [← HBI.out] at hr'
  have HR1 := Lib.hid hr'
  have hbb := HS1.out.obj i HI.out HPI.out
  rw [← HBI.out] at hbb
  have HBB := Lib.hid hbb.drew
  clear hr hr' hbb hg' HR HS HT HG
  go_wp2_with fail
  refine wp_region_U (S := fun w' => ObAt w' w.heap.size 0 o ∧ w'.cell? ⟨p, 0, none⟩ = some (.slice (some ⟨g, 0, none⟩) os.length cap) ∧ w'.cell? ⟨g, i, none⟩ = some (pv b)) 9 (by kernel_rfl) ⟨HG1.out.drew.ob, HS1.out.drew.c0, HR1.out⟩ (fun hHeld => ?_)
  refine wpAnyU_take (i := 0) (v := ?v13) rfl (by kernel_rfl) (by kernel_rfl) (by kernel_rfl) (by kernel_rfl) (fun _ _ _ h => h) (Or.inl ⟨by rfl, ?hy13⟩) hHeld ?rest13
  case hy13 =>
    intro w' hSw
    try dsimp only at hSw
    go_simp
    first | done | with_reducible rfl
  try simp only [Act.put, List.getElem_toArray, List.getElem_cons_zero, List.setIfInBounds_toArray, List.set_cons_zero, List.set_cons_succ]
  refine wpAnyU_take (i := 1) (v := ?v14) rfl (by kernel_rfl) (by kernel_rfl) (by kernel_rfl) (by kernel_rfl) (fun _ _ _ h => h) (Or.inl ⟨by rfl, ?hy14⟩) hHeld ?rest14
  case hy14 =>
    intro w' hSw
    try dsimp only at hSw
    go_simp
    first | done | with_reducible rfl
  try simp only [Act.put, List.getElem_toArray, List.getElem_cons_succ, List.getElem_cons_zero, List.setIfInBounds_toArray, List.set_cons_zero, List.set_cons_succ]
  refine wpAnyU_take (i := 2) (v := ?v15) rfl (by kernel_rfl) (by kernel_rfl) (by kernel_rfl) (by kernel_rfl) (fun _ _ _ h => h) (Or.inl ⟨by rfl, ?hy15⟩) hHeld ?rest15
  case hy15 =>
    intro w' hSw
    try dsimp only at hSw
    go_simp
    first | done | with_reducible rfl
  try simp only [Act.put, List.getElem_toArray, List.getElem_cons_succ, List.getElem_cons_zero, List.setIfInBounds_toArray, List.set_cons_zero, List.set_cons_succ]
  refine wpAnyU_take (i := 3) (v := ?v16) rfl (by kernel_rfl) (by kernel_rfl) (by kernel_rfl) (by kernel_rfl) (fun _ _ _ h => h) (Or.inl ⟨by rfl, ?hy16⟩) hHeld ?rest16
  case hy16 =>
    intro w' hSw
    try dsimp only at hSw
    go_simp
    first | done | with_reducible rfl
  try simp only [Act.put, List.getElem_toArray, List.getElem_cons_succ, List.getElem_cons_zero, List.setIfInBounds_toArray, List.set_cons_zero, List.set_cons_succ]
  refine wpAnyU_take (i := 4) (v := ?v17) rfl (by kernel_rfl) (by kernel_rfl) (by kernel_rfl) (by kernel_rfl) (fun _ _ _ h => h) (Or.inl ⟨by rfl, ?hy17⟩) hHeld ?rest17
  case hy17 =>
    intro w' hSw
    try dsimp only at hSw
    go_simp
    first | done | with_reducible rfl
  try simp only [Act.put, List.getElem_toArray, List.getElem_cons_succ, List.getElem_cons_zero, List.setIfInBounds_toArray, List.set_cons_zero, List.set_cons_succ]
  refine wpAnyU_take (i := 5) (v := ?v18) rfl (by kernel_rfl) (by kernel_rfl) (by kernel_rfl) (by kernel_rfl) (fun _ _ _ h => h) (Or.inl ⟨by rfl, ?hy18⟩) hHeld ?rest18
  case hy18 =>
    intro w' hSw
    try dsimp only at hSw
    go_simp
    first | done | with_reducible rfl
  try simp only [Act.put, List.getElem_toArray, List.getElem_cons_succ, List.getElem_cons_zero, List.setIfInBounds_toArray, List.set_cons_zero, List.set_cons_succ]
  refine wpAnyU_take (i := 6) (v := ?v19) rfl (by kernel_rfl) (by kernel_rfl) (by kernel_rfl) (by kernel_rfl) (fun _ _ _ h => h) (Or.inl ⟨by rfl, ?hy19⟩) hHeld ?rest19
  case hy19 =>
    intro w' hSw
    try dsimp only at hSw
    go_simp
    first | done | with_reducible rfl
  try simp only [Act.put, List.getElem_toArray, List.getElem_cons_succ, List.getElem_cons_zero, List.setIfInBounds_toArray, List.set_cons_zero, List.set_cons_succ]
  refine wpAnyU_take (i := 7) rfl (by kernel_rfl) (by kernel_rfl) (by kernel_rfl) (by kernel_rfl) (fun _ _ _ h => h) (y_ob (by rfl) (.tmp 5) (by rfl) w.heap.size 0 (by rfl) o (fun _ h => h.1)) hHeld ?_
  try simp only [Act.put, List.getElem_toArray, List.getElem_cons_succ, List.getElem_cons_zero, List.setIfInBounds_toArray, List.set_cons_zero, List.set_cons_succ]
  refine wpAnyU_take (i := 8) (v := ?v20) rfl (by kernel_rfl) (by kernel_rfl) (by kernel_rfl) (by kernel_rfl) (fun _ _ _ h => h) (Or.inl ⟨by rfl, ?hy20⟩) hHeld ?rest20
  case hy20 =>
    intro w' hSw
    try dsimp only at hSw
    go_simp
    first | done | with_reducible rfl
  try simp only [Act.put, List.getElem_toArray, List.getElem_cons_succ, List.getElem_cons_zero, List.setIfInBounds_toArray, List.set_cons_zero, List.set_cons_succ]
  refine wpAnyU_one (i := 9) (by kernel_rfl) (by rfl) (fun K hK => ?_)
  refine step_store_ob HBB.out rfl (.tmp 33) (.tmp 32) rfl rfl o rfl ?_
  refine hK.out _ _ (.inl rfl) (fun hHeld => ?_)
  clear hK K
  try simp only [Act.put, List.getElem_toArray, List.getElem_cons_succ, List.getElem_cons_zero]
  refine wpAnyU_done (by kernel_rfl) ?_ _
  refine OnlyN.normal ?_
  clear hHeld
  go_wp2
  go_ret
  have hput := HS1.out.drew.put i HI.out HPI.out o
  rw [← HBI.out] at hput
  refine ⟨rfl, hput, ?_⟩
  have hbm : b ∈ ps := by rw [HBI.out]; exact List.getElem_mem HPI.out
  exact ((Fr.of_below HB1.out).drew.trans ((setRow_fr _ b _).mono fun k _ hk => by rw [hk]; exact hbm))
end
end Go.Proofs.YtogkdhpnbpgheaaGreatDoor
namespace Go.Proofs.YtogkdhpnbpgheaaGreatDoor
open Go.RowKit
theorem zk_ok : zk.ok := ⟨0, rfl, by decide, by decide, by decide, by decide, by decide, by decide, by decide, by decide, by decide, .inl rfl⟩
theorem zk_may (n : Int) : zk.may n := ⟨zk_ok, fun h => absurd h.2.1 (by decide)⟩
set_option maxRecDepth 8000 in
theorem all_zk {s : List Ky} (hs : s.length = 16) : s = zks ↔ ∀ x ∈ s, x = zk := by
  unfold zks
  rw [List.eq_replicate_iff]
  simp [hs]
set_option maxRecDepth 8000 in
theorem all_zb {b : List UInt8} (hb : b.length = 64) : b = zbs ↔ ∀ x ∈ b, x = 0 := by
  unfold zbs
  rw [List.eq_replicate_iff]
  simp [hb]
/-- what the definition asks of an object first -/
def Oj.bad (n : Int) (o : Oj) : Prop := n < 1 ∨ 64 < n ∨ o.k < 0 ∨ 3 < o.k ∨ o.c < 0 ∨ 4294967295 < o.c ∨ o.l < 0 ∨ 4294967295 < o.l ∨ (o.k ≠ 1 ∧ o.l ≠ 0)
set_option maxRecDepth 8000 in
theorem ok_ref {n : Int} {o : Oj} : o.ok n ↔ ¬ o.bad n ∧ (∀ x ∈ o.s, x.may n ∧ (o.k = 1 ∨ x = zk)) ∧ (o.k = 1 ∨ o.k = 2 ∨ ∀ y ∈ o.b, y = 0) := by
  unfold Oj.ok Oj.bad Oj.has
  rw [all_zk o.hs, all_zb o.hb]
  unfold mayS
  constructor
  · rintro ⟨hm, hc, hl, h⟩
    rcases h with ⟨hk, h⟩ | ⟨hk, h1, h2⟩ | ⟨hk, h0, h1, h2⟩
    · exact ⟨by omega, fun x hx => ⟨h x hx, .inl hk⟩, .inl hk⟩
    · exact ⟨by omega, fun x hx => ⟨by rw [h2 x hx]; exact zk_may n, .inr (h2 x hx)⟩, .inr (.inl hk)⟩
    · exact ⟨by omega, fun x hx => ⟨by rw [h2 x hx]; exact zk_may n, .inr (h2 x hx)⟩, .inr (.inr h0)⟩
  · rintro ⟨hb, hs, hy⟩
    refine ⟨by omega, by omega, by omega, ?_⟩
    by_cases h1 : o.k = 1
    · exact .inl ⟨h1, fun x hx => (hs x hx).1⟩
    · have hz : ∀ x ∈ o.s, x = zk := fun x hx => (hs x hx).2.resolve_left h1
      have hl0 : o.l = 0 := Decidable.byContradiction fun hl => hb (.inr (.inr (.inr (.inr (.inr (.inr (.inr (.inr ⟨h1, hl⟩))))))))
      by_cases h2 : o.k = 2
      · exact .inr (.inl ⟨h2, hl0, hz⟩)
      · exact .inr (.inr ⟨by have h3 : ¬ o.k < 0 := fun h => hb (.inr (.inr (.inl h))); have h4 : ¬ 3 < o.k := fun h => hb (.inr (.inr (.inr (.inl h)))); omega, (hy.resolve_left h1).resolve_left h2, hl0, hz⟩)
set_option maxRecDepth 8000 in
theorem take_snoc_all {α : Type} {p : α → Prop} {s : List α} {k : Nat} (hk : k < s.length) (h : ∀ x ∈ s.take k, p x) (hx : p s[k]) : ∀ x ∈ s.take (k + 1), p x := by
  rw [List.take_succ_eq_append_getElem hk]
  intro y hy
  rcases List.mem_append.1 hy with h' | h'
  · exact h y h'
  · obtain rfl : y = s[k] := by simpa using h'
    exact hx
theorem take_snoc_x {α : Type} {p : α → Prop} {s : List α} {k : Nat} {x : α} (hk : k < s.length) (e : s[k] = x) (h : ∀ x ∈ s.take k, p x) (hx : p x) : ∀ x ∈ s.take (k + 1), p x := take_snoc_all hk h (e ▸ hx)
theorem slot_x {n : Int} {o : Oj} {k : Nat} {x : Ky} (h : o.ok n) (hk : k < o.s.length) (e : o.s[k] = x) : x.may n ∧ (o.k = 1 ∨ x = zk) := e ▸ (ok_ref.1 h).2.1 _ (List.getElem_mem hk)
set_option maxRecDepth 8000 in
theorem key_x {w : World} {g : Nat} {o : Oj} {k : Nat} {x : Ky} (h : ObAt w g 0 o) (hk : k < o.s.length) (e : o.s[k] = x) : KeyAt w g (3 + k * 6) x := by
  subst e
  have := key_of_range h.slots k hk
  rwa [Nat.zero_add] at this
set_option maxRecDepth 8000 in
theorem take_all {α : Type} {p : α → Prop} {s : List α} {k : Nat} (hk : s.length ≤ k) (h : ∀ x ∈ s.take k, p x) : ∀ x ∈ s, p x := by
  rwa [List.take_of_length_le hk] at h
set_option maxRecDepth 8000 in
set_option maxHeartbeats 1000000 in
theorem rchk_badA (o : Oj) (n : Int) (w : World) (h1 : o.k ≠ 1) (h2 : o.l ≠ 0) :
    Calls Tryz.prog 33 #[o.val, .int .i64 n] w fun e w' => e = .returned (.int .i64 2) ∧ Below w.heap.size w w' := by
  have HB := Lib.hid ((Below.refl w.heap.size w).alloc (Nat.le_refl _) (.cells o.cells.toArray 49))
  have HG := Lib.hid (Blk.new w 49 o.cells.toArray).ob
  obtain ⟨c0, c1, c2⟩ := HG.out.cells
  have e1 : (o.k != 1) = true := by simpa using h1
  have e2 : (o.l != 0) = true := by simpa using h2
  clear h1 h2
  go_enter Tryz.func33, Tryz.ntmps33
  go_wp2
  all_goals first
    | (go_ret; exact ⟨rfl, HB.out⟩)
    | (exfalso; have h := HP.out; omega)
set_option maxRecDepth 8000 in
set_option maxHeartbeats 1000000 in
theorem rchk_badB (o : Oj) (n : Int) (w : World) (h : o.bad n) (h1 : o.k = 1) :
    Calls Tryz.prog 33 #[o.val, .int .i64 n] w fun e w' => e = .returned (.int .i64 2) ∧ Below w.heap.size w w' := by
  have HB := Lib.hid ((Below.refl w.heap.size w).alloc (Nat.le_refl _) (.cells o.cells.toArray 49))
  have HG := Lib.hid (Blk.new w 49 o.cells.toArray).ob
  obtain ⟨c0, c1, c2⟩ := HG.out.cells
  have HP := Lib.hid (show n < 1 ∨ 64 < n ∨ o.k < 0 ∨ 3 < o.k ∨ o.c < 0 ∨ 4294967295 < o.c ∨ o.l < 0 ∨ 4294967295 < o.l from by unfold Oj.bad at h; rcases h with h | h | h | h | h | h | h | h | h; exact .inl h; exact .inr (.inl h); exact .inr (.inr (.inl h)); exact .inr (.inr (.inr (.inl h))); exact .inr (.inr (.inr (.inr (.inl h)))); exact .inr (.inr (.inr (.inr (.inr (.inl h))))); exact .inr (.inr (.inr (.inr (.inr (.inr (.inl h)))))); exact .inr (.inr (.inr (.inr (.inr (.inr (.inr h)))))); exact absurd h1 h.1)
  have e1 : (o.k != 1) = false := by simpa using h1
  clear h h1
  go_enter Tryz.func33, Tryz.ntmps33
  go_wp2
  all_goals first
    | (go_ret; exact ⟨rfl, HB.out⟩)
    | (exfalso; have h := HP.out; omega)
set_option maxRecDepth 8000 in
set_option maxHeartbeats 1000000 in
theorem rchk_badC (o : Oj) (n : Int) (w : World) (h : o.bad n) (h1 : o.k ≠ 1) (h2 : o.l = 0) :
    Calls Tryz.prog 33 #[o.val, .int .i64 n] w fun e w' => e = .returned (.int .i64 2) ∧ Below w.heap.size w w' := by
  have HB := Lib.hid ((Below.refl w.heap.size w).alloc (Nat.le_refl _) (.cells o.cells.toArray 49))
  have HG := Lib.hid (Blk.new w 49 o.cells.toArray).ob
  obtain ⟨c0, c1, c2⟩ := HG.out.cells
  have HP := Lib.hid (show n < 1 ∨ 64 < n ∨ o.k < 0 ∨ 3 < o.k ∨ o.c < 0 ∨ 4294967295 < o.c ∨ o.l < 0 ∨ 4294967295 < o.l from by unfold Oj.bad at h; rcases h with h | h | h | h | h | h | h | h | h; exact .inl h; exact .inr (.inl h); exact .inr (.inr (.inl h)); exact .inr (.inr (.inr (.inl h))); exact .inr (.inr (.inr (.inr (.inl h)))); exact .inr (.inr (.inr (.inr (.inr (.inl h))))); exact .inr (.inr (.inr (.inr (.inr (.inr (.inl h)))))); exact .inr (.inr (.inr (.inr (.inr (.inr (.inr h)))))); exact absurd h2 h.2)
  have e1 : (o.k != 1) = true := by simpa using h1
  have e2 : (o.l != 0) = false := by simpa using h2
  clear h h1 h2
  go_enter Tryz.func33, Tryz.ntmps33
  go_wp2
  all_goals first
    | (go_ret; exact ⟨rfl, HB.out⟩)
    | (exfalso; have h := HP.out; omega)
set_option maxRecDepth 8000 in
theorem rchk_bad (o : Oj) (n : Int) (w : World) (h : o.bad n) :
    Calls Tryz.prog 33 #[o.val, .int .i64 n] w fun e w' => e = .returned (.int .i64 2) ∧ Below w.heap.size w w' := by
  by_cases h1 : o.k = 1
  · exact rchk_badB o n w h h1
  · by_cases h2 : o.l = 0
    · exact rchk_badC o n w h h1 h2
    · exact rchk_badA o n w h1 h2
set_option maxRecDepth 8000 in
set_option maxHeartbeats 2000000 in
theorem rchk_1 (o : Oj) (n : Int) (w : World) (hbad : ¬ o.bad n) (hk : o.k = 1) :
    Calls Tryz.prog 33 #[o.val, .int .i64 n] w fun e w' => e = .returned (.int .i64 (o.chk n)) ∧ Below w.heap.size w w' := by
  have HB := Lib.hid ((Below.refl w.heap.size w).alloc (Nat.le_refl _) (.cells o.cells.toArray 49))
  have HG := Lib.hid (Blk.new w 49 o.cells.toArray).ob
  obtain ⟨c0, c1, c2⟩ := HG.out.cells
  have HP := Lib.hid hbad
  have HN := Lib.hid (show 1 ≤ n by unfold Oj.bad at hbad; omega)
  have HK := Lib.hid hk
  have d0 : decide (n < 1) = false := decide_eq_false (by unfold Oj.bad at hbad; omega)
  have d1 : decide (64 < n) = false := decide_eq_false (by unfold Oj.bad at hbad; omega)
  have d2 : decide (o.k < 0) = false := decide_eq_false (by unfold Oj.bad at hbad; omega)
  have d3 : decide (3 < o.k) = false := decide_eq_false (by unfold Oj.bad at hbad; omega)
  have d4 : decide (o.c < 0) = false := decide_eq_false (by unfold Oj.bad at hbad; omega)
  have d5 : decide (4294967295 < o.c) = false := decide_eq_false (by unfold Oj.bad at hbad; omega)
  have d6 : decide (o.l < 0) = false := decide_eq_false (by unfold Oj.bad at hbad; omega)
  have d7 : decide (4294967295 < o.l) = false := decide_eq_false (by unfold Oj.bad at hbad; omega)
  have e1 : (o.k != 1) = false := by simpa using hk
  clear hbad hk
  go_enter Tryz.func33, Tryz.ntmps33
  go_wp2
  clear c0 c1 c2 d0 d1 d2 d3 d4 d5 d6 d7
  generalize w.alloc (.cells o.cells.toArray 49) = w0 at HB HG ⊢
  go_loopw [6] (fun i wr => ∃ k : Nat, k ≤ 16 ∧ i = .int .i64 k ∧ Below w.heap.size w wr ∧ ObAt wr w.heap.size 0 o ∧ ∀ x ∈ o.s.take k, x.may n ∧ (o.k = 1 ∨ x = zk)) (fun i _ => 17 - (intOf i).toNat)
  case atStart => exact ⟨0, by omega, rfl, HB.out, HG.out, fun x hx => by simp at hx⟩
  case round =>
    obtain ⟨k, hk', rfl, hb, hg, hm⟩ := hrel
    clear HB HG
    have HB0 := Lib.hid hb
    have HO0 := Lib.hid hg
    have HM := Lib.hid hm
    clear hb hg hm
    by_cases hlt : k < 16
    · have hks : k < o.s.length := by rw [o.hs]; exact hlt
      have HKS := Lib.hid hks
      obtain ⟨x, hx⟩ : ∃ x, o.s[k] = x := ⟨_, rfl⟩
      have HX := Lib.hid hx
      obtain ⟨c0, c1, c2, c3, c4, c5⟩ := key_x HO0.out HKS.out HX.out
      clear hx hks
      by_cases hok : x.ok
      · have HOK := Lib.hid hok
        clear hok
        by_cases hof : x.of
        · have HOF := Lib.hid hof
          clear hof
          by_cases hq : x.o < n
          · have dq : decide (n ≤ x.o) = false := by simpa using hq
            have HQ := Lib.hid hq
            clear hq
            go_wp2_with (first
              | (go_at_call 17; refine (Ky.chk_yes HOK.out ▸ rchk_any x _).mono ?_; rintro e w1 ⟨rfl, b1⟩; have HB1 := Lib.hid (HB0.out.trans (b1.mono HB0.out.size)); have HO1 := Lib.hid (HO0.out.below b1); obtain ⟨c0, c1, c2, c3, c4, c5⟩ := key_x HO1.out HKS.out HX.out; clear b1)
              | (go_at_call 19; refine (rname_yes x _ HOF.out).mono ?_; rintro e w2 ⟨rfl, b2⟩; have HB2 := Lib.hid (HB1.out.trans (b2.mono HB1.out.size)); have HO2 := Lib.hid (HO1.out.below b2); clear c0 c1 c2 c3 c4 c5; obtain ⟨c0, c1, c2, c3, c4, c5⟩ := key_x HO2.out HKS.out HX.out; clear b2))
            go_roundw
            case rel => exact ⟨k + 1, by omega, by go_num, HB2.out, HO2.out, take_snoc_x HKS.out HX.out HM.out ⟨⟨HOK.out, fun _ => HQ.out⟩, .inl HK.out⟩⟩
            case measure => simp [intOf]; omega
          · have dq : decide (n ≤ x.o) = true := by simpa using hq
            have HQ := Lib.hid hq
            clear hq
            go_wp2_with (first
              | (go_at_call 17; refine (Ky.chk_yes HOK.out ▸ rchk_any x _).mono ?_; rintro e w1 ⟨rfl, b1⟩; have HB1 := Lib.hid (HB0.out.trans (b1.mono HB0.out.size)); have HO1 := Lib.hid (HO0.out.below b1); obtain ⟨c0, c1, c2, c3, c4, c5⟩ := key_x HO1.out HKS.out HX.out; clear b1)
              | (go_at_call 19; refine (rname_yes x _ HOF.out).mono ?_; rintro e w2 ⟨rfl, b2⟩; have HB2 := Lib.hid (HB1.out.trans (b2.mono HB1.out.size)); have HO2 := Lib.hid (HO1.out.below b2); clear c0 c1 c2 c3 c4 c5; obtain ⟨c0, c1, c2, c3, c4, c5⟩ := key_x HO2.out HKS.out HX.out; clear b2))
            go_ret
            exact ⟨ret_n (Oj.chk_no fun h => by have h' := (slot_x h HKS.out HX.out).1; have h1 := h'.2 HOF.out; have h2 := HQ.out; omega).symm, HB2.out⟩
        · have HOF := Lib.hid hof
          have dq : decide (n ≤ -1) = false := decide_eq_false (by have := HN.out; omega)
          clear hof
          go_wp2_with (first
            | (go_at_call 17; refine (Ky.chk_yes HOK.out ▸ rchk_any x _).mono ?_; rintro e w1 ⟨rfl, b1⟩; have HB1 := Lib.hid (HB0.out.trans (b1.mono HB0.out.size)); have HO1 := Lib.hid (HO0.out.below b1); obtain ⟨c0, c1, c2, c3, c4, c5⟩ := key_x HO1.out HKS.out HX.out; clear b1)
            | (go_at_call 19; refine (rname_no x _ HOF.out).mono ?_; rintro e w2 ⟨rfl, b2⟩; have HB2 := Lib.hid (HB1.out.trans (b2.mono HB1.out.size)); have HO2 := Lib.hid (HO1.out.below b2); clear c0 c1 c2 c3 c4 c5; obtain ⟨c0, c1, c2, c3, c4, c5⟩ := key_x HO2.out HKS.out HX.out; clear b2))
          go_roundw
          case rel => exact ⟨k + 1, by omega, by go_num, HB2.out, HO2.out, take_snoc_x HKS.out HX.out HM.out ⟨⟨HOK.out, fun h => absurd h HOF.out⟩, .inl HK.out⟩⟩
          case measure => simp [intOf]; omega
      · have HOK := Lib.hid hok
        clear hok
        go_wp2_with (first
          | (go_at_call 17; refine (Ky.chk_no HOK.out ▸ rchk_any x _).mono ?_; rintro e w1 ⟨rfl, b1⟩; have HB1 := Lib.hid (HB0.out.trans (b1.mono HB0.out.size)); have HO1 := Lib.hid (HO0.out.below b1); obtain ⟨c0, c1, c2, c3, c4, c5⟩ := key_x HO1.out HKS.out HX.out; clear b1))
        go_ret
        exact ⟨ret_n (Oj.chk_no fun h => by have h' := (slot_x h HKS.out HX.out).1; exact HOK.out h'.1).symm, HB1.out⟩
    · obtain rfl : k = 16 := by omega
      have HS := Lib.hid (take_all (Nat.le_of_eq o.hs) HM.out)
      clear HM
      go_wp2
      go_loopw [7] (fun i wr => ∃ k : Nat, k ≤ 64 ∧ i = .int .i64 k ∧ Below w.heap.size w wr ∧ ObAt wr w.heap.size 0 o) (fun i _ => 65 - (intOf i).toNat)
      case atStart => exact ⟨0, by omega, rfl, HB0.out, HO0.out⟩
      case round =>
        obtain ⟨k, hk', rfl, hb, hg⟩ := hrel
        clear HB0 HO0
        have HB0 := Lib.hid hb
        have HO0 := Lib.hid hg
        clear hb hg
        by_cases hlt : k < 64
        · have hks : k < o.b.length := by rw [o.hb]; exact hlt
          have HKS := Lib.hid hks
          clear hks
          go_wp2
          go_roundw
          case rel => exact ⟨k + 1, by omega, by go_num, HB0.out, HO0.out⟩
          case measure => simp [intOf]; omega
        · go_wp2
          go_ret
          exact ⟨ret_n (Oj.chk_yes (ok_ref.2 ⟨HP.out, HS.out, .inl HK.out⟩)).symm, HB0.out⟩
set_option maxRecDepth 8000 in
set_option maxHeartbeats 2000000 in
theorem rchk_2 (o : Oj) (n : Int) (w : World) (hbad : ¬ o.bad n) (hk : o.k = 2) :
    Calls Tryz.prog 33 #[o.val, .int .i64 n] w fun e w' => e = .returned (.int .i64 (o.chk n)) ∧ Below w.heap.size w w' := by
  have HB := Lib.hid ((Below.refl w.heap.size w).alloc (Nat.le_refl _) (.cells o.cells.toArray 49))
  have HG := Lib.hid (Blk.new w 49 o.cells.toArray).ob
  obtain ⟨c0, c1, c2⟩ := HG.out.cells
  have HP := Lib.hid hbad
  have HN := Lib.hid (show 1 ≤ n by unfold Oj.bad at hbad; omega)
  have HK := Lib.hid hk
  have d0 : decide (n < 1) = false := decide_eq_false (by unfold Oj.bad at hbad; omega)
  have d1 : decide (64 < n) = false := decide_eq_false (by unfold Oj.bad at hbad; omega)
  have d2 : decide (o.k < 0) = false := decide_eq_false (by unfold Oj.bad at hbad; omega)
  have d3 : decide (3 < o.k) = false := decide_eq_false (by unfold Oj.bad at hbad; omega)
  have d4 : decide (o.c < 0) = false := decide_eq_false (by unfold Oj.bad at hbad; omega)
  have d5 : decide (4294967295 < o.c) = false := decide_eq_false (by unfold Oj.bad at hbad; omega)
  have d6 : decide (o.l < 0) = false := decide_eq_false (by unfold Oj.bad at hbad; omega)
  have d7 : decide (4294967295 < o.l) = false := decide_eq_false (by unfold Oj.bad at hbad; omega)
  have e1 : (o.k != 1) = true := by simp; omega
  have e2 : (o.k != 2) = false := by simpa using hk
  have d8 : (o.l != 0) = false := by
    have : o.l = 0 := Decidable.byContradiction fun hl => hbad (.inr (.inr (.inr (.inr (.inr (.inr (.inr (.inr ⟨by omega, hl⟩))))))))
    simpa using this
  clear hbad hk
  go_enter Tryz.func33, Tryz.ntmps33
  go_wp2
  clear c0 c1 c2 d0 d1 d2 d3 d4 d5 d6 d7 d8
  generalize w.alloc (.cells o.cells.toArray 49) = w0 at HB HG ⊢
  go_loopw [6] (fun i wr => ∃ k : Nat, k ≤ 16 ∧ i = .int .i64 k ∧ Below w.heap.size w wr ∧ ObAt wr w.heap.size 0 o ∧ ∀ x ∈ o.s.take k, x.may n ∧ (o.k = 1 ∨ x = zk)) (fun i _ => 17 - (intOf i).toNat)
  case atStart => exact ⟨0, by omega, rfl, HB.out, HG.out, fun x hx => by simp at hx⟩
  case round =>
    obtain ⟨k, hk', rfl, hb, hg, hm⟩ := hrel
    clear HB HG
    have HB0 := Lib.hid hb
    have HO0 := Lib.hid hg
    have HM := Lib.hid hm
    clear hb hg hm
    by_cases hlt : k < 16
    · have hks : k < o.s.length := by rw [o.hs]; exact hlt
      have HKS := Lib.hid hks
      obtain ⟨x, hx⟩ : ∃ x, o.s[k] = x := ⟨_, rfl⟩
      have HX := Lib.hid hx
      obtain ⟨c0, c1, c2, c3, c4, c5⟩ := key_x HO0.out HKS.out HX.out
      clear hx hks
      by_cases hok : x.ok
      · have HOK := Lib.hid hok
        clear hok
        by_cases hof : x.of
        · have HOF := Lib.hid hof
          clear hof
          by_cases hq : x.o < n
          · have dq : decide (n ≤ x.o) = false := by simpa using hq
            have HQ := Lib.hid hq
            clear hq
            by_cases hz : x = zk
            · have DZ := Lib.hid (show (!decide (x = zk)) = false by simpa using hz)
              have HZ := Lib.hid hz
              clear hz
              go_wp2_with (first
                | (go_at_call 17; refine (Ky.chk_yes HOK.out ▸ rchk_any x _).mono ?_; rintro e w1 ⟨rfl, b1⟩; have HB1 := Lib.hid (HB0.out.trans (b1.mono HB0.out.size)); have HO1 := Lib.hid (HO0.out.below b1); obtain ⟨c0, c1, c2, c3, c4, c5⟩ := key_x HO1.out HKS.out HX.out; clear b1)
                | (go_at_call 19; refine (rname_yes x _ HOF.out).mono ?_; rintro e w2 ⟨rfl, b2⟩; have HB2 := Lib.hid (HB1.out.trans (b2.mono HB1.out.size)); have HO2 := Lib.hid (HO1.out.below b2); clear c0 c1 c2 c3 c4 c5; obtain ⟨c0, c1, c2, c3, c4, c5⟩ := key_x HO2.out HKS.out HX.out; clear b2)
                | (refine wpList_yields (S := fun _ => True) (DZ.out ▸ y_kyne (by rfl) (by rfl) x zk (by rfl) (by rfl)) trivial ?_))
              go_roundw
              case rel => exact ⟨k + 1, by omega, by go_num, HB2.out, HO2.out, take_snoc_x HKS.out HX.out HM.out ⟨⟨HOK.out, fun _ => HQ.out⟩, .inr HZ.out⟩⟩
              case measure => simp [intOf]; omega
            · have DZ := Lib.hid (show (!decide (x = zk)) = true by simpa using hz)
              have HZ := Lib.hid hz
              clear hz
              go_wp2_with (first
                | (go_at_call 17; refine (Ky.chk_yes HOK.out ▸ rchk_any x _).mono ?_; rintro e w1 ⟨rfl, b1⟩; have HB1 := Lib.hid (HB0.out.trans (b1.mono HB0.out.size)); have HO1 := Lib.hid (HO0.out.below b1); obtain ⟨c0, c1, c2, c3, c4, c5⟩ := key_x HO1.out HKS.out HX.out; clear b1)
                | (go_at_call 19; refine (rname_yes x _ HOF.out).mono ?_; rintro e w2 ⟨rfl, b2⟩; have HB2 := Lib.hid (HB1.out.trans (b2.mono HB1.out.size)); have HO2 := Lib.hid (HO1.out.below b2); clear c0 c1 c2 c3 c4 c5; obtain ⟨c0, c1, c2, c3, c4, c5⟩ := key_x HO2.out HKS.out HX.out; clear b2)
                | (refine wpList_yields (S := fun _ => True) (DZ.out ▸ y_kyne (by rfl) (by rfl) x zk (by rfl) (by rfl)) trivial ?_))
              go_ret
              exact ⟨ret_n (Oj.chk_no fun h => by have h' := (slot_x h HKS.out HX.out).2; exact h'.elim (fun e => by have := HK.out; omega) HZ.out).symm, HB2.out⟩
          · have dq : decide (n ≤ x.o) = true := by simpa using hq
            have HQ := Lib.hid hq
            clear hq
            go_wp2_with (first
              | (go_at_call 17; refine (Ky.chk_yes HOK.out ▸ rchk_any x _).mono ?_; rintro e w1 ⟨rfl, b1⟩; have HB1 := Lib.hid (HB0.out.trans (b1.mono HB0.out.size)); have HO1 := Lib.hid (HO0.out.below b1); obtain ⟨c0, c1, c2, c3, c4, c5⟩ := key_x HO1.out HKS.out HX.out; clear b1)
              | (go_at_call 19; refine (rname_yes x _ HOF.out).mono ?_; rintro e w2 ⟨rfl, b2⟩; have HB2 := Lib.hid (HB1.out.trans (b2.mono HB1.out.size)); have HO2 := Lib.hid (HO1.out.below b2); clear c0 c1 c2 c3 c4 c5; obtain ⟨c0, c1, c2, c3, c4, c5⟩ := key_x HO2.out HKS.out HX.out; clear b2))
            go_ret
            exact ⟨ret_n (Oj.chk_no fun h => by have h' := (slot_x h HKS.out HX.out).1; have h1 := h'.2 HOF.out; have h2 := HQ.out; omega).symm, HB2.out⟩
        · have HOF := Lib.hid hof
          have dq : decide (n ≤ -1) = false := decide_eq_false (by have := HN.out; omega)
          clear hof
          by_cases hz : x = zk
          · have DZ := Lib.hid (show (!decide (x = zk)) = false by simpa using hz)
            have HZ := Lib.hid hz
            clear hz
            go_wp2_with (first
              | (go_at_call 17; refine (Ky.chk_yes HOK.out ▸ rchk_any x _).mono ?_; rintro e w1 ⟨rfl, b1⟩; have HB1 := Lib.hid (HB0.out.trans (b1.mono HB0.out.size)); have HO1 := Lib.hid (HO0.out.below b1); obtain ⟨c0, c1, c2, c3, c4, c5⟩ := key_x HO1.out HKS.out HX.out; clear b1)
              | (go_at_call 19; refine (rname_no x _ HOF.out).mono ?_; rintro e w2 ⟨rfl, b2⟩; have HB2 := Lib.hid (HB1.out.trans (b2.mono HB1.out.size)); have HO2 := Lib.hid (HO1.out.below b2); clear c0 c1 c2 c3 c4 c5; obtain ⟨c0, c1, c2, c3, c4, c5⟩ := key_x HO2.out HKS.out HX.out; clear b2)
              | (refine wpList_yields (S := fun _ => True) (DZ.out ▸ y_kyne (by rfl) (by rfl) x zk (by rfl) (by rfl)) trivial ?_))
            go_roundw
            case rel => exact ⟨k + 1, by omega, by go_num, HB2.out, HO2.out, take_snoc_x HKS.out HX.out HM.out ⟨⟨HOK.out, fun h => absurd h HOF.out⟩, .inr HZ.out⟩⟩
            case measure => simp [intOf]; omega
          · have DZ := Lib.hid (show (!decide (x = zk)) = true by simpa using hz)
            have HZ := Lib.hid hz
            clear hz
            go_wp2_with (first
              | (go_at_call 17; refine (Ky.chk_yes HOK.out ▸ rchk_any x _).mono ?_; rintro e w1 ⟨rfl, b1⟩; have HB1 := Lib.hid (HB0.out.trans (b1.mono HB0.out.size)); have HO1 := Lib.hid (HO0.out.below b1); obtain ⟨c0, c1, c2, c3, c4, c5⟩ := key_x HO1.out HKS.out HX.out; clear b1)
              | (go_at_call 19; refine (rname_no x _ HOF.out).mono ?_; rintro e w2 ⟨rfl, b2⟩; have HB2 := Lib.hid (HB1.out.trans (b2.mono HB1.out.size)); have HO2 := Lib.hid (HO1.out.below b2); clear c0 c1 c2 c3 c4 c5; obtain ⟨c0, c1, c2, c3, c4, c5⟩ := key_x HO2.out HKS.out HX.out; clear b2)
              | (refine wpList_yields (S := fun _ => True) (DZ.out ▸ y_kyne (by rfl) (by rfl) x zk (by rfl) (by rfl)) trivial ?_))
            go_ret
            exact ⟨ret_n (Oj.chk_no fun h => by have h' := (slot_x h HKS.out HX.out).2; exact h'.elim (fun e => by have := HK.out; omega) HZ.out).symm, HB2.out⟩
      · have HOK := Lib.hid hok
        clear hok
        go_wp2_with (first
          | (go_at_call 17; refine (Ky.chk_no HOK.out ▸ rchk_any x _).mono ?_; rintro e w1 ⟨rfl, b1⟩; have HB1 := Lib.hid (HB0.out.trans (b1.mono HB0.out.size)); have HO1 := Lib.hid (HO0.out.below b1); obtain ⟨c0, c1, c2, c3, c4, c5⟩ := key_x HO1.out HKS.out HX.out; clear b1))
        go_ret
        exact ⟨ret_n (Oj.chk_no fun h => by have h' := (slot_x h HKS.out HX.out).1; exact HOK.out h'.1).symm, HB1.out⟩
    · obtain rfl : k = 16 := by omega
      have HS := Lib.hid (take_all (Nat.le_of_eq o.hs) HM.out)
      clear HM
      go_wp2
      go_loopw [7] (fun i wr => ∃ k : Nat, k ≤ 64 ∧ i = .int .i64 k ∧ Below w.heap.size w wr ∧ ObAt wr w.heap.size 0 o) (fun i _ => 65 - (intOf i).toNat)
      case atStart => exact ⟨0, by omega, rfl, HB0.out, HO0.out⟩
      case round =>
        obtain ⟨k, hk', rfl, hb, hg⟩ := hrel
        clear HB0 HO0
        have HB0 := Lib.hid hb
        have HO0 := Lib.hid hg
        clear hb hg
        by_cases hlt : k < 64
        · have hks : k < o.b.length := by rw [o.hb]; exact hlt
          have HKS := Lib.hid hks
          clear hks
          go_wp2
          go_roundw
          case rel => exact ⟨k + 1, by omega, by go_num, HB0.out, HO0.out⟩
          case measure => simp [intOf]; omega
        · go_wp2
          go_ret
          exact ⟨ret_n (Oj.chk_yes (ok_ref.2 ⟨HP.out, HS.out, .inr (.inl HK.out)⟩)).symm, HB0.out⟩
set_option maxRecDepth 8000 in
set_option maxHeartbeats 2000000 in
theorem rchk_x (o : Oj) (n : Int) (w : World) (hbad : ¬ o.bad n) (hk1 : o.k ≠ 1) (hk2 : o.k ≠ 2) :
    Calls Tryz.prog 33 #[o.val, .int .i64 n] w fun e w' => e = .returned (.int .i64 (o.chk n)) ∧ Below w.heap.size w w' := by
  have HB := Lib.hid ((Below.refl w.heap.size w).alloc (Nat.le_refl _) (.cells o.cells.toArray 49))
  have HG := Lib.hid (Blk.new w 49 o.cells.toArray).ob
  obtain ⟨c0, c1, c2⟩ := HG.out.cells
  have HP := Lib.hid hbad
  have HN := Lib.hid (show 1 ≤ n by unfold Oj.bad at hbad; omega)
  have HK1 := Lib.hid hk1
  have HK2 := Lib.hid hk2
  have d0 : decide (n < 1) = false := decide_eq_false (by unfold Oj.bad at hbad; omega)
  have d1 : decide (64 < n) = false := decide_eq_false (by unfold Oj.bad at hbad; omega)
  have d2 : decide (o.k < 0) = false := decide_eq_false (by unfold Oj.bad at hbad; omega)
  have d3 : decide (3 < o.k) = false := decide_eq_false (by unfold Oj.bad at hbad; omega)
  have d4 : decide (o.c < 0) = false := decide_eq_false (by unfold Oj.bad at hbad; omega)
  have d5 : decide (4294967295 < o.c) = false := decide_eq_false (by unfold Oj.bad at hbad; omega)
  have d6 : decide (o.l < 0) = false := decide_eq_false (by unfold Oj.bad at hbad; omega)
  have d7 : decide (4294967295 < o.l) = false := decide_eq_false (by unfold Oj.bad at hbad; omega)
  have e1 : (o.k != 1) = true := by simpa using hk1
  have e2 : (o.k != 2) = true := by simpa using hk2
  have d8 : (o.l != 0) = false := by
    have : o.l = 0 := Decidable.byContradiction fun hl => hbad (.inr (.inr (.inr (.inr (.inr (.inr (.inr (.inr ⟨hk1, hl⟩))))))))
    simpa using this
  clear hbad hk1 hk2
  go_enter Tryz.func33, Tryz.ntmps33
  go_wp2
  clear c0 c1 c2 d0 d1 d2 d3 d4 d5 d6 d7 d8
  generalize w.alloc (.cells o.cells.toArray 49) = w0 at HB HG ⊢
  go_loopw [6] (fun i wr => ∃ k : Nat, k ≤ 16 ∧ i = .int .i64 k ∧ Below w.heap.size w wr ∧ ObAt wr w.heap.size 0 o ∧ ∀ x ∈ o.s.take k, x.may n ∧ (o.k = 1 ∨ x = zk)) (fun i _ => 17 - (intOf i).toNat)
  case atStart => exact ⟨0, by omega, rfl, HB.out, HG.out, fun x hx => by simp at hx⟩
  case round =>
    obtain ⟨k, hk', rfl, hb, hg, hm⟩ := hrel
    clear HB HG
    have HB0 := Lib.hid hb
    have HO0 := Lib.hid hg
    have HM := Lib.hid hm
    clear hb hg hm
    by_cases hlt : k < 16
    · have hks : k < o.s.length := by rw [o.hs]; exact hlt
      have HKS := Lib.hid hks
      obtain ⟨x, hx⟩ : ∃ x, o.s[k] = x := ⟨_, rfl⟩
      have HX := Lib.hid hx
      obtain ⟨c0, c1, c2, c3, c4, c5⟩ := key_x HO0.out HKS.out HX.out
      clear hx hks
      by_cases hok : x.ok
      · have HOK := Lib.hid hok
        clear hok
        by_cases hof : x.of
        · have HOF := Lib.hid hof
          clear hof
          by_cases hq : x.o < n
          · have dq : decide (n ≤ x.o) = false := by simpa using hq
            have HQ := Lib.hid hq
            clear hq
            by_cases hz : x = zk
            · have DZ := Lib.hid (show (!decide (x = zk)) = false by simpa using hz)
              have HZ := Lib.hid hz
              clear hz
              go_wp2_with (first
                | (go_at_call 17; refine (Ky.chk_yes HOK.out ▸ rchk_any x _).mono ?_; rintro e w1 ⟨rfl, b1⟩; have HB1 := Lib.hid (HB0.out.trans (b1.mono HB0.out.size)); have HO1 := Lib.hid (HO0.out.below b1); obtain ⟨c0, c1, c2, c3, c4, c5⟩ := key_x HO1.out HKS.out HX.out; clear b1)
                | (go_at_call 19; refine (rname_yes x _ HOF.out).mono ?_; rintro e w2 ⟨rfl, b2⟩; have HB2 := Lib.hid (HB1.out.trans (b2.mono HB1.out.size)); have HO2 := Lib.hid (HO1.out.below b2); clear c0 c1 c2 c3 c4 c5; obtain ⟨c0, c1, c2, c3, c4, c5⟩ := key_x HO2.out HKS.out HX.out; clear b2)
                | (refine wpList_yields (S := fun _ => True) (DZ.out ▸ y_kyne (by rfl) (by rfl) x zk (by rfl) (by rfl)) trivial ?_))
              go_roundw
              case rel => exact ⟨k + 1, by omega, by go_num, HB2.out, HO2.out, take_snoc_x HKS.out HX.out HM.out ⟨⟨HOK.out, fun _ => HQ.out⟩, .inr HZ.out⟩⟩
              case measure => simp [intOf]; omega
            · have DZ := Lib.hid (show (!decide (x = zk)) = true by simpa using hz)
              have HZ := Lib.hid hz
              clear hz
              go_wp2_with (first
                | (go_at_call 17; refine (Ky.chk_yes HOK.out ▸ rchk_any x _).mono ?_; rintro e w1 ⟨rfl, b1⟩; have HB1 := Lib.hid (HB0.out.trans (b1.mono HB0.out.size)); have HO1 := Lib.hid (HO0.out.below b1); obtain ⟨c0, c1, c2, c3, c4, c5⟩ := key_x HO1.out HKS.out HX.out; clear b1)
                | (go_at_call 19; refine (rname_yes x _ HOF.out).mono ?_; rintro e w2 ⟨rfl, b2⟩; have HB2 := Lib.hid (HB1.out.trans (b2.mono HB1.out.size)); have HO2 := Lib.hid (HO1.out.below b2); clear c0 c1 c2 c3 c4 c5; obtain ⟨c0, c1, c2, c3, c4, c5⟩ := key_x HO2.out HKS.out HX.out; clear b2)
                | (refine wpList_yields (S := fun _ => True) (DZ.out ▸ y_kyne (by rfl) (by rfl) x zk (by rfl) (by rfl)) trivial ?_))
              go_ret
              exact ⟨ret_n (Oj.chk_no fun h => by have h' := (slot_x h HKS.out HX.out).2; exact h'.elim (fun e => by exact HK1.out e) HZ.out).symm, HB2.out⟩
          · have dq : decide (n ≤ x.o) = true := by simpa using hq
            have HQ := Lib.hid hq
            clear hq
            go_wp2_with (first
              | (go_at_call 17; refine (Ky.chk_yes HOK.out ▸ rchk_any x _).mono ?_; rintro e w1 ⟨rfl, b1⟩; have HB1 := Lib.hid (HB0.out.trans (b1.mono HB0.out.size)); have HO1 := Lib.hid (HO0.out.below b1); obtain ⟨c0, c1, c2, c3, c4, c5⟩ := key_x HO1.out HKS.out HX.out; clear b1)
              | (go_at_call 19; refine (rname_yes x _ HOF.out).mono ?_; rintro e w2 ⟨rfl, b2⟩; have HB2 := Lib.hid (HB1.out.trans (b2.mono HB1.out.size)); have HO2 := Lib.hid (HO1.out.below b2); clear c0 c1 c2 c3 c4 c5; obtain ⟨c0, c1, c2, c3, c4, c5⟩ := key_x HO2.out HKS.out HX.out; clear b2))
            go_ret
            exact ⟨ret_n (Oj.chk_no fun h => by have h' := (slot_x h HKS.out HX.out).1; have h1 := h'.2 HOF.out; have h2 := HQ.out; omega).symm, HB2.out⟩
        · have HOF := Lib.hid hof
          have dq : decide (n ≤ -1) = false := decide_eq_false (by have := HN.out; omega)
          clear hof
          by_cases hz : x = zk
          · have DZ := Lib.hid (show (!decide (x = zk)) = false by simpa using hz)
            have HZ := Lib.hid hz
            clear hz
            go_wp2_with (first
              | (go_at_call 17; refine (Ky.chk_yes HOK.out ▸ rchk_any x _).mono ?_; rintro e w1 ⟨rfl, b1⟩; have HB1 := Lib.hid (HB0.out.trans (b1.mono HB0.out.size)); have HO1 := Lib.hid (HO0.out.below b1); obtain ⟨c0, c1, c2, c3, c4, c5⟩ := key_x HO1.out HKS.out HX.out; clear b1)
              | (go_at_call 19; refine (rname_no x _ HOF.out).mono ?_; rintro e w2 ⟨rfl, b2⟩; have HB2 := Lib.hid (HB1.out.trans (b2.mono HB1.out.size)); have HO2 := Lib.hid (HO1.out.below b2); clear c0 c1 c2 c3 c4 c5; obtain ⟨c0, c1, c2, c3, c4, c5⟩ := key_x HO2.out HKS.out HX.out; clear b2)
              | (refine wpList_yields (S := fun _ => True) (DZ.out ▸ y_kyne (by rfl) (by rfl) x zk (by rfl) (by rfl)) trivial ?_))
            go_roundw
            case rel => exact ⟨k + 1, by omega, by go_num, HB2.out, HO2.out, take_snoc_x HKS.out HX.out HM.out ⟨⟨HOK.out, fun h => absurd h HOF.out⟩, .inr HZ.out⟩⟩
            case measure => simp [intOf]; omega
          · have DZ := Lib.hid (show (!decide (x = zk)) = true by simpa using hz)
            have HZ := Lib.hid hz
            clear hz
            go_wp2_with (first
              | (go_at_call 17; refine (Ky.chk_yes HOK.out ▸ rchk_any x _).mono ?_; rintro e w1 ⟨rfl, b1⟩; have HB1 := Lib.hid (HB0.out.trans (b1.mono HB0.out.size)); have HO1 := Lib.hid (HO0.out.below b1); obtain ⟨c0, c1, c2, c3, c4, c5⟩ := key_x HO1.out HKS.out HX.out; clear b1)
              | (go_at_call 19; refine (rname_no x _ HOF.out).mono ?_; rintro e w2 ⟨rfl, b2⟩; have HB2 := Lib.hid (HB1.out.trans (b2.mono HB1.out.size)); have HO2 := Lib.hid (HO1.out.below b2); clear c0 c1 c2 c3 c4 c5; obtain ⟨c0, c1, c2, c3, c4, c5⟩ := key_x HO2.out HKS.out HX.out; clear b2)
              | (refine wpList_yields (S := fun _ => True) (DZ.out ▸ y_kyne (by rfl) (by rfl) x zk (by rfl) (by rfl)) trivial ?_))
            go_ret
            exact ⟨ret_n (Oj.chk_no fun h => by have h' := (slot_x h HKS.out HX.out).2; exact h'.elim (fun e => by exact HK1.out e) HZ.out).symm, HB2.out⟩
      · have HOK := Lib.hid hok
        clear hok
        go_wp2_with (first
          | (go_at_call 17; refine (Ky.chk_no HOK.out ▸ rchk_any x _).mono ?_; rintro e w1 ⟨rfl, b1⟩; have HB1 := Lib.hid (HB0.out.trans (b1.mono HB0.out.size)); have HO1 := Lib.hid (HO0.out.below b1); obtain ⟨c0, c1, c2, c3, c4, c5⟩ := key_x HO1.out HKS.out HX.out; clear b1))
        go_ret
        exact ⟨ret_n (Oj.chk_no fun h => by have h' := (slot_x h HKS.out HX.out).1; exact HOK.out h'.1).symm, HB1.out⟩
    · obtain rfl : k = 16 := by omega
      have HS := Lib.hid (take_all (Nat.le_of_eq o.hs) HM.out)
      clear HM
      go_wp2
      go_loopw [7] (fun i wr => ∃ k : Nat, k ≤ 64 ∧ i = .int .i64 k ∧ Below w.heap.size w wr ∧ ObAt wr w.heap.size 0 o ∧ ∀ y ∈ o.b.take k, y = 0) (fun i _ => 65 - (intOf i).toNat)
      case atStart => exact ⟨0, by omega, rfl, HB0.out, HO0.out, fun x hx => by simp at hx⟩
      case round =>
        obtain ⟨k, hk', rfl, hb, hg, hy⟩ := hrel
        clear HB0 HO0
        have HB0 := Lib.hid hb
        have HO0 := Lib.hid hg
        have HY := Lib.hid hy
        clear hy
        clear hb hg
        by_cases hlt : k < 64
        · have hks : k < o.b.length := by rw [o.hb]; exact hlt
          have HKS := Lib.hid hks
          clear hks
          have e0 := byte_of_range HO0.out.bytes k HKS.out
          simp only [Nat.zero_add] at e0
          by_cases hz : o.b[k]'HKS.out = 0
          · have HZ := Lib.hid hz
            rw [hz] at e0
            clear hz
            go_wp2
            go_roundw
            case rel => exact ⟨k + 1, by omega, by go_num, HB0.out, HO0.out, take_snoc_all HKS.out HY.out HZ.out⟩
            case measure => simp [intOf]; omega
          · have HZ := Lib.hid hz
            have dz : (((o.b[k]'HKS.out).toNat : Int) != 0) = true := by
              have : (o.b[k]'HKS.out).toNat ≠ 0 := fun e => hz (UInt8.toNat_inj.1 (by simpa using e))
              simp
              omega
            obtain ⟨q, hq⟩ : ∃ q : Int, ((o.b[k]'HKS.out).toNat : Int) = q := ⟨_, rfl⟩
            rw [hq] at e0 dz
            clear hz hq
            go_wp2
            go_ret
            exact ⟨ret_n (Oj.chk_no fun h => by
              rcases (ok_ref.1 h).2.2 with h' | h' | h'
              · exact HK1.out h'
              · exact HK2.out h'
              · exact HZ.out (h' _ (List.getElem_mem HKS.out))).symm, HB0.out⟩
        · go_wp2
          go_ret
          exact ⟨ret_n (Oj.chk_yes (ok_ref.2 ⟨HP.out, HS.out, .inr (.inr (take_all (Nat.le_of_eq o.hb) (by have h := HY.out; rwa [show k = 64 by omega] at h)))⟩)).symm, HB0.out⟩
set_option maxRecDepth 8000 in
theorem rcheck_any (o : Oj) (n : Int) (w : World) :
    Calls Tryz.prog 33 #[o.val, .int .i64 n] w fun e w' => e = .returned (.int .i64 (o.chk n)) ∧ Below w.heap.size w w' := by
  by_cases hb : o.bad n
  · rw [Oj.chk_no fun h => (ok_ref.1 h).1 hb]; exact rchk_bad o n w hb
  · by_cases h1 : o.k = 1
    · exact rchk_1 o n w hb h1
    · by_cases h2 : o.k = 2
      · exact rchk_2 o n w hb h2
      · exact rchk_x o n w hb h1 h2
end Go.Proofs.YtogkdhpnbpgheaaGreatDoor

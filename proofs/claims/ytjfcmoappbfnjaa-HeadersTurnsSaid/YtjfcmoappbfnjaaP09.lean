/- A region that draws its order: reads taken first under a condition on the world that need not hold behind one operation, which waits for them. -/
import Derived.Test.YtjfcmoappbfnjaaP08
namespace Go.Proofs.Ytjfcmoappbfnjaa
open List renaming getElem_toArray → zq1, getElem_cons_succ → zq2, getElem_cons_zero → zq3, setIfInBounds_toArray → zq4, set_cons_zero → zq5, set_cons_succ → zq6
open Go.RowKit
section
variable {P : Program} {ops : Array Oper} {Q : Exit → Act → World → Prop} {md : Region.Mode} {S : World → Prop} {z : Nat}
/-- whatever order is picked from here on, and S holds behind each operation but z -/
def wpAnyU (P : Program) (md : Region.Mode) (ops : Array Oper) (Q : Exit → Act → World → Prop) (S : World → Prop) (z : Nat) : Nat → Array Bool → Act → World → Prop
  | 0, listed, a, w => Region.ready md ops listed = [] ∧ Q .normal a w
  | fuel + 1, listed, a, w => (Region.ready md ops listed = [] → Q .normal a w) ∧
    ∀ i ∈ Region.ready md ops listed, wpOp P ops Q i (fun a' w' => (i = z ∨ S w') ∧ wpAnyU P md ops Q S z fuel (listed.setIfInBounds i true) a' w') a w
theorem wpAny_of_U : ∀ (fuel : Nat) (listed : Array Bool) (a : Act) (w : World), wpAnyU P md ops Q S z fuel listed a w → wpAny P md ops Q fuel listed a w
  | 0, _, _, _, h => h
  | fuel + 1, _, _, _, h => ⟨h.1, fun i hi => wpOp_mono (fun a' w' h' => wpAny_of_U fuel _ a' w' h'.2) (h.2 i hi)⟩
/-- does z wait for i? -/
def waitsB (md : Region.Mode) (ops : Array Oper) (z i : Nat) : Bool := match ops[z]? with | some o => o.after.any fun e => Region.binds md e && e.on == i | none => false
set_option maxRecDepth 8000 in
theorem not_ready_z {i : Nat} {listed : Array Bool} (hz : waitsB md ops z i = true) (hi : i ∈ Region.ready md ops listed) : z ∉ Region.ready md ops listed := by
  intro hr
  obtain ⟨_, oz, hoz, haft⟩ := mem_ready.1 hr
  unfold waitsB at hz
  rw [hoz] at hz
  simp only [Array.any_eq_true, Bool.and_eq_true, beq_iff_eq] at hz
  obtain ⟨k, hk, hb, he⟩ := hz
  have h1 := haft _ (Array.getElem_mem hk) hb
  have h0 := (mem_ready.1 hi).1
  rw [he] at h1
  by_cases hlt : i < listed.size
  · simp [hlt] at h0 h1
    rw [h0] at h1
    cases h1
  · simp [Array.getElem?_eq_none (Nat.le_of_not_lt hlt)] at h1
set_option maxRecDepth 8000 in
theorem wpAnyU_first {i : Nat} {oi : Oper} {v : Value} (hi : ops[i]? = some oi) (hsel : ∀ (j : Nat) (o : Oper) cs b, ops[j]? = some o → o.op ≠ .select cs b) (hQ : ∀ c a w, Q (.panic c) (a.put oi.dst v) w → Q (.panic c) a w) (hz : waitsB md ops z i = true) (fuel : Nat) :
    ∀ (listed : Array Bool) (a : Act) (w : World), (∀ j oj, ops[j]? = some oj → j ≠ i → listed.getD j true = false → (∀ e ∈ oj.after, Region.binds md e = true → e.on ≠ i) → oi.apart ops oj = true) →
      i ∈ Region.ready md ops listed → YieldsIf P ops S oi v a → S w → wpAnyU P md ops Q S z fuel (listed.setIfInBounds i true) (a.put oi.dst v) w → wpAnyU P md ops Q S z (fuel + 1) listed a w := by
  induction fuel with
  | zero =>
    intro listed a w _ hr hy hS hh
    constructor
    · intro h
      rw [h] at hr
      cases hr
    · intro j hj
      rcases Decidable.em (j = i) with rfl | hne
      · exact hy.wpOp hi hS ⟨.inr hS, hh⟩
      · have hm := ready_mono hj hne
        rw [hh.1] at hm
        cases hm
  | succ fuel ih =>
    intro listed a w hfree hr hy hS hh
    constructor
    · intro h
      rw [h] at hr
      cases hr
    · intro j hj
      rcases Decidable.em (j = i) with rfl | hne
      · exact hy.wpOp hi hS ⟨.inr hS, hh⟩
      · obtain ⟨hun, oj, hoj, haft⟩ := mem_ready.1 hj
        have hjz : j ≠ z := by
          rintro rfl
          exact not_ready_z hz hr hj
        have hno : ∀ e ∈ oj.after, Region.binds md e = true → e.on ≠ i := by
          intro e he hb heq
          refine not_ready_z (z := j) ?_ hr hj
          unfold waitsB
          rw [hoj]
          simp only [Array.any_eq_true, Bool.and_eq_true, beq_iff_eq]
          obtain ⟨k, hk, hek⟩ := Array.mem_iff_getElem.1 he
          exact ⟨k, hk, by rw [hek]; exact hb, by rw [hek]; exact heq⟩
        have h2 := wpOp_putIf hoj (hfree j oj hoj hne hun hno) (fun cs b => hsel i oi cs b hi) (fun cs b => hsel j oj cs b hoj) hQ hy (hh.2 j (ready_mono hj hne))
        refine wpOp_mono (fun a' w' h3 => ?_) h2
        obtain ⟨hy', hs', hu⟩ := h3
        have hs2 := hs'.resolve_left hjz
        refine ⟨.inr hs2, ih _ a' w' ?_ (ready_mono hr (Ne.symm hne)) hy' hs2 ?_⟩
        · intro k ok hk hki hl hn
          refine hfree k ok hk hki ?_ hn
          rcases Decidable.em (j = k) with rfl | hjk
          · exact hun
          · rwa [getD_set_ne true hjk] at hl
        · rw [Array.setIfInBounds_comm _ _ hne]
          exact hu
set_option maxRecDepth 8000 in
/-- what is not listed holds back what waits for it -/
theorem not_ready_un {i : Nat} {listed : Array Bool} (hz : waitsB md ops z i = true) (h0 : listed.getD i true = false) : z ∉ Region.ready md ops listed := by
  intro hr
  obtain ⟨_, oz, hoz, haft⟩ := mem_ready.1 hr
  unfold waitsB at hz
  rw [hoz] at hz
  simp only [Array.any_eq_true, Bool.and_eq_true, beq_iff_eq] at hz
  obtain ⟨k, hk, hb, he⟩ := hz
  have h1 := haft _ (Array.getElem_mem hk) hb
  rw [he] at h1
  by_cases hlt : i < listed.size
  · simp [hlt] at h0 h1
    rw [h0] at h1
    cases h1
  · simp [Array.getElem?_eq_none (Nat.le_of_not_lt hlt)] at h1
/-- does z wait for i, by way of these? -/
def chainB (md : Region.Mode) (ops : Array Oper) (z : Nat) : Nat → List Nat → Bool
  | i, [] => waitsB md ops z i
  | i, j :: p => waitsB md ops j i && chainB md ops z j p
theorem chain_ready : ∀ (p : List Nat) {i : Nat} {listed : Array Bool}, chainB md ops z i p = true → listed.getD i true = false → (∀ j ∈ p, listed.getD j true = false) → z ∉ Region.ready md ops listed ∧ ∀ j ∈ p, j ∉ Region.ready md ops listed
  | [], _, _, h, h0, _ => ⟨not_ready_un h h0, fun _ hj => by cases hj⟩
  | j :: p, i, listed, h, h0, hp => by
    simp only [chainB, Bool.and_eq_true] at h
    have r := chain_ready p h.2 (hp j (by simp)) (fun k hk => hp k (by simp [hk]))
    refine ⟨r.1, fun k hk => ?_⟩
    rcases List.mem_cons.1 hk with rfl | hk
    · exact not_ready_un h.1 h0
    · exact r.2 k hk
set_option maxRecDepth 8000 in
theorem wpAnyU_firstP {i : Nat} {oi : Oper} {v : Value} (p : List Nat) (hi : ops[i]? = some oi) (hsel : ∀ (j : Nat) (o : Oper) cs b, ops[j]? = some o → o.op ≠ .select cs b) (hQ : ∀ c a w, Q (.panic c) (a.put oi.dst v) w → Q (.panic c) a w) (hz : chainB md ops z i p = true) (fuel : Nat) :
    ∀ (listed : Array Bool) (a : Act) (w : World), (∀ j oj, ops[j]? = some oj → j ≠ i → listed.getD j true = false → (∀ e ∈ oj.after, Region.binds md e = true → e.on ≠ i) → oi.apart ops oj = true) → (∀ j ∈ p, listed.getD j true = false) →
      i ∈ Region.ready md ops listed → YieldsIf P ops S oi v a → S w → wpAnyU P md ops Q S z fuel (listed.setIfInBounds i true) (a.put oi.dst v) w → wpAnyU P md ops Q S z (fuel + 1) listed a w := by
  induction fuel with
  | zero =>
    intro listed a w _ _ hr hy hS hh
    constructor
    · intro h
      rw [h] at hr
      cases hr
    · intro j hj
      rcases Decidable.em (j = i) with rfl | hne
      · exact hy.wpOp hi hS ⟨.inr hS, hh⟩
      · have hm := ready_mono hj hne
        rw [hh.1] at hm
        cases hm
  | succ fuel ih =>
    intro listed a w hfree hun0 hr hy hS hh
    have hil : listed.getD i true = false := (mem_ready.1 hr).1
    have hc := chain_ready p hz hil hun0
    constructor
    · intro h
      rw [h] at hr
      cases hr
    · intro j hj
      rcases Decidable.em (j = i) with rfl | hne
      · exact hy.wpOp hi hS ⟨.inr hS, hh⟩
      · obtain ⟨hun, oj, hoj, haft⟩ := mem_ready.1 hj
        have hjz : j ≠ z := by
          rintro rfl
          exact hc.1 hj
        have hno : ∀ e ∈ oj.after, Region.binds md e = true → e.on ≠ i := by
          intro e he hb heq
          refine not_ready_un (z := j) ?_ hil hj
          unfold waitsB
          rw [hoj]
          simp only [Array.any_eq_true, Bool.and_eq_true, beq_iff_eq]
          obtain ⟨k, hk, hek⟩ := Array.mem_iff_getElem.1 he
          exact ⟨k, hk, by rw [hek]; exact hb, by rw [hek]; exact heq⟩
        have h2 := wpOp_putIf hoj (hfree j oj hoj hne hun hno) (fun cs b => hsel i oi cs b hi) (fun cs b => hsel j oj cs b hoj) hQ hy (hh.2 j (ready_mono hj hne))
        refine wpOp_mono (fun a' w' h3 => ?_) h2
        obtain ⟨hy', hs', hu⟩ := h3
        have hs2 := hs'.resolve_left hjz
        refine ⟨.inr hs2, ih _ a' w' ?_ ?_ (ready_mono hr (Ne.symm hne)) hy' hs2 ?_⟩
        · intro k ok hk hki hl hn
          refine hfree k ok hk hki ?_ hn
          rcases Decidable.em (j = k) with rfl | hjk
          · exact hun
          · rwa [getD_set_ne true hjk] at hl
        · intro k hk
          rw [getD_set_ne true (by rintro rfl; exact hc.2 _ hk hj)]
          exact hun0 k hk
        · rw [Array.setIfInBounds_comm _ _ hne]
          exact hu
set_option maxRecDepth 8000 in
theorem wpAnyU_takeP (p : List Nat) {i : Nat} {oi : Oper} {v : Value} {fuel : Nat} {listed : Array Bool} {a : Act} {w : World} (hi : ops[i]? = some oi)
    (hs : Region.noSelect ops = true) (hf : Region.free md ops listed i = true) (hr : (Region.ready md ops listed).contains i = true) (hz : (chainB md ops z i p && p.all (fun j => !listed.getD j true)) = true)
    (hQ : ∀ c a w, Q (.panic c) (a.put oi.dst v) w → Q (.panic c) a w) (hy : YieldsIf P ops S oi v a) (hS : S w)
    (h : wpAnyU P md ops Q S z fuel (listed.setIfInBounds i true) (a.put oi.dst v) w) : wpAnyU P md ops Q S z (fuel + 1) listed a w := by
  rw [Bool.and_eq_true, List.all_eq_true] at hz
  exact wpAnyU_firstP p hi (Region.noSelect_spec hs) hQ hz.1 fuel listed a w (Region.free_spec hi hf) (fun j hj => by simpa using hz.2 j hj) (by simpa using hr) hy hS h
theorem wpAnyU_take {i : Nat} {oi : Oper} {v : Value} {fuel : Nat} {listed : Array Bool} {a : Act} {w : World} (hi : ops[i]? = some oi)
    (hs : Region.noSelect ops = true) (hf : Region.free md ops listed i = true) (hr : (Region.ready md ops listed).contains i = true) (hz : waitsB md ops z i = true)
    (hQ : ∀ c a w, Q (.panic c) (a.put oi.dst v) w → Q (.panic c) a w) (hy : YieldsIf P ops S oi v a) (hS : S w)
    (h : wpAnyU P md ops Q S z fuel (listed.setIfInBounds i true) (a.put oi.dst v) w) : wpAnyU P md ops Q S z (fuel + 1) listed a w :=
  wpAnyU_first hi (Region.noSelect_spec hs) hQ hz fuel listed a w (Region.free_spec hi hf) (by simpa using hr) hy hS h
theorem wpAnyU_one {i : Nat} {o : Oper} {fuel : Nat} {listed : Array Bool} {a : Act} {w : World} (hr : Region.ready md ops listed = [i]) (ho : ops[i]? = some o)
    (h : ∀ K' : Act → World → Prop, Shut (∀ a w, (i = z ∨ S w) → ((i = z ∨ S w) → wpAnyU P md ops Q S z fuel (listed.setIfInBounds i true) a w) → K' a w) → if Region.wanted o (yielded ops a.tmps) = true then Oper.wp P o a w K' Q else K' (a.put o.dst undef) w) :
    wpAnyU P md ops Q S z (fuel + 1) listed a w :=
  ⟨fun h0 => (by rw [hr] at h0; cases h0), fun j hj => by
    rw [hr, List.mem_singleton] at hj
    subst hj
    exact wpOp_step ho (fun K' hK => h K' (fun a w hS hW => hK a w ⟨hS, hW hS⟩))⟩
theorem wpAnyU_done {listed : Array Bool} {a : Act} {w : World} (hr : Region.ready md ops listed = []) (h : Q .normal a w) : ∀ fuel, wpAnyU P md ops Q S z fuel listed a w
  | 0 => ⟨hr, h⟩
  | _ + 1 => ⟨fun _ => h, by rw [hr]; simp⟩
theorem wp_region_U {id : Nat} {a : Act} {w : World} (z : Nat) (hm : P.follows .mixedOrders = true) (hS : S w.drew)
    (h : S w.drew → wpAnyU P .any ops (OnlyN Q) S z ops.size (Array.replicate ops.size false) a w.drew) : (Code.region id ops true).wp P Q a w :=
  Code.wp_mono OnlyN.imp (wp_region_any hm (wpAny_of_U _ _ _ _ (h hS)))
theorem wpIn_region_U_out {n id : Nat} {a : Act} {w : World} (z : Nat) (hm : P.follows .mixedOrders = true) (hS : S w.drew)
    (h : S w.drew → wpAnyU P .any ops (OnlyN Q) S z ops.size (Array.replicate ops.size false) a w.drew) : (Code.region id ops true).wpIn Fence.wide n P Q a w :=
  wpIn_wide.2 (wp_region_U z hm hS h)
theorem wpIn_region_U_round {l n id : Nat} {a : Act} {w : World} (z : Nat) (hm : P.follows .mixedOrders = true) (hd : ∀ (i : Nat) (o : Oper), ops[i]? = some o → ∀ c, o.op ≠ .defer c) (hS : S w.drew)
    (h : S w.drew → wpAnyU P .any ops (OnlyN Q) S z ops.size (Array.replicate ops.size false) a w.drew) : (Code.region id ops true).wpIn (Fence.wide.inRound l) n P Q a w :=
  wpIn_region_any hm (wpAnyIn_of_only hd _ _ _ _ (wpAny_of_U _ _ _ _ (h hS)))
end
end Go.Proofs.Ytjfcmoappbfnjaa
namespace Go.Proofs.Ytjfcmoappbfnjaa
open List renaming getElem_toArray → zq1, getElem_cons_succ → zq2, getElem_cons_zero → zq3, setIfInBounds_toArray → zq4, set_cons_zero → zq5, set_cons_succ → zq6
open Go.RowKit
attribute [local go_sem] run_store_bv run_store_wc run_store_bv_drew run_store_wc_drew
/-- behind a write that waits -/
def Dk.queued (D : Dk) (x : Nat × List UInt8) : Dk := { D with waits := D.waits ++ [x] }
set_option maxRecDepth 8000 in
theorem DiskAt.queued {W w1 : World} {base p : Nat} {pl : Pl} {D : Dk} (h : DiskAt W base p pl D) {x : Nat × List UInt8} (hx : x.2.length = 512 ∧ x.1 < D.size) {g cap : Nat}
    (hown : w1.ownsRow base 95 513 (.slice (some ⟨g, 0, none⟩) (D.waits.length + 1) cap) (D.waits.length + 1) (D.waits.flatMap wc ++ wc x)) (hg : W.grownBy w1 pl.wv.ownBlock) (hat : pl.wv.ownBlock = some g ∨ W.heap.size ≤ g) :
    DiskAt (w1.setCell ⟨p, 2, none⟩ (.slice (some ⟨g, 0, none⟩) (D.waits.length + 1) cap)) base p { pl with wv := .slice (some ⟨g, 0, none⟩) (D.waits.length + 1) cap } (D.queued x) := by
  have hpg : p ≠ g := by
    rintro rfl
    rcases hat with e | e
    · exact h.ne_pw e
    · have := h.blk.lt; omega
  have hp1 : Blk w1 p 90 (dcells pl D) := (hg.block p h.blk.lt (fun e => h.ne_pw e.symm)).trans h.blk
  exact { h with
    blk := hp1.set_ 2 _
    map := (h.map.keep (hg.block _ h.map.lt (fun e => h.ne_mw e.symm))).keep (Below.heap_setCell _ _ _ _ h.ne_pm)
    row := by
      have e1 : (D.queued x).waits.length = D.waits.length + 1 := by simp [Dk.queued]
      have e2 : (D.queued x).waits.flatMap wc = D.waits.flatMap wc ++ wc x := by simp [Dk.queued]
      rw [e1, e2]
      refine hown.kept (row := some p) ⟨rfl, rfl, rfl, by simp [World.setCell], fun k _ hk => Below.heap_setCell _ _ _ _ (fun e => hk (by rw [e]))⟩ (.inr ?_)
      intro e
      injection e with e
      exact hpg e.symm
    set := (h.set.keep (fun b hb => hg.block _ (h.set.lt b hb) (fun e => by
      rcases h.ne_fw with hn | hn
      · rw [hn] at hb; cases hb
      · exact hn (e.symm.trans hb.symm)))).keep (fun b hb => Below.heap_setCell _ _ _ _ (fun e => h.ne_pf (by rw [hb, e])))
    wlens := by
      intro y hy
      rcases List.mem_append.1 hy with hy | hy
      · exact h.wlens y hy
      · rw [List.mem_singleton] at hy; subst hy; exact hx }
theorem DiskAt.keepBlk {W w1 : World} {base p : Nat} {pl : Pl} {D : Dk} (h : DiskAt W base p pl D) {b : Nat} {t : TypeId} {cs : Array Value} (hb : Blk W b t cs) (ht : t ≠ 95) (hg : W.grownBy w1 pl.wv.ownBlock) : Blk w1 b t cs :=
  (hg.block b hb.lt (fun e => by
    obtain ⟨cur, hc⟩ := h.row_block e.symm
    unfold Blk at hc hb
    rw [hb] at hc
    injection hc with hc
    injection hc with _ h2
    exact ht h2)).trans hb
set_option maxRecDepth 100000 in
set_option maxHeartbeats 1600000 in
theorem write1_at {w : World} {base p : Nat} {pl : Pl} {D : Dk} (h : DiskAt w base p pl D) (hbase : base ≤ w.heap.size) (hN : D.waits.length ≤ 1000000) (k : Nat) (l : List UInt8) (hk : k < D.size) (hl : l.length = 512) (b0 b1 b2 : Nat)
    (c0 : Blk w b0 30 #[.pointer (some ⟨p, 0, none⟩)]) (c1 : Blk w b1 3 #[.int .i64 (k : Int)]) (c2 : Blk w b2 56 (bv l).toArray) :
    Calls Try.prog 59 #[.pointer (some ⟨b0, 0, none⟩), .pointer (some ⟨b1, 0, none⟩), .pointer (some ⟨b2, 0, none⟩)] w fun e w' =>
      e = .returned (.tuple #[]) ∧ ∃ v, DiskAt w' base p { pl with wv := v } (D.queued (k, l)) ∧ Fr (pl.has p) w w' ∧ (v.ownBlock = pl.wv.ownBlock ∨ ∃ g, v.ownBlock = some g ∧ w.heap.size ≤ g) := by
  have H := Lib.hid h
  have C0 := Lib.hid c0
  have C1 := Lib.hid c1
  have C2 := Lib.hid c2
  have HL := Lib.hid hl
  clear h c0 c1 c2 hl
  go_enter Try.func59, Try.ntmps59
  go_wp2_with fail
  refine wp_region_U (S := fun w' => w'.cell? ⟨b0, 0, none⟩ = some (.pointer (some ⟨p, 0, none⟩)) ∧ w'.cell? ⟨p, 2, none⟩ = some pl.wv ∧ w'.cell? ⟨b1, 0, none⟩ = some (.int .i64 (k : Int)) ∧ w'.rangeAt b2 0 (bv l)) 12 (by kernel_rfl) ⟨(C0.out.cell 0).trans rfl, H.out.c2, (C1.out.cell 0).trans rfl, C2.out.rangeAt⟩ (fun hHeld => ?_)
  refine wpAnyU_take (i := 0) (v := ?v1) rfl (by kernel_rfl) (by kernel_rfl) (by kernel_rfl) (by kernel_rfl) (fun _ _ _ h => h) (Or.inl ⟨by rfl, ?hy1⟩) hHeld ?rest1
  case hy1 =>
    intro w' hSw
    try dsimp only at hSw
    go_simp
    first | done | with_reducible rfl
  try simp only [Act.put, zq1, zq3, zq4, zq5, zq6]
  refine wpAnyU_take (i := 1) (v := ?v2) rfl (by kernel_rfl) (by kernel_rfl) (by kernel_rfl) (by kernel_rfl) (fun _ _ _ h => h) (Or.inl ⟨by rfl, ?hy2⟩) hHeld ?rest2
  case hy2 =>
    intro w' hSw
    try dsimp only at hSw
    go_simp
    first | done | with_reducible rfl
  try simp only [Act.put, zq1, zq2, zq3, zq4, zq5, zq6]
  refine wpAnyU_take (i := 2) (v := ?v3) rfl (by kernel_rfl) (by kernel_rfl) (by kernel_rfl) (by kernel_rfl) (fun _ _ _ h => h) (Or.inl ⟨by rfl, ?hy3⟩) hHeld ?rest3
  case hy3 =>
    intro w' hSw
    try dsimp only at hSw
    go_simp
    first | done | with_reducible rfl
  try simp only [Act.put, zq1, zq2, zq3, zq4, zq5, zq6]
  refine wpAnyU_take (i := 3) (v := ?v4) rfl (by kernel_rfl) (by kernel_rfl) (by kernel_rfl) (by kernel_rfl) (fun _ _ _ h => h) (Or.inl ⟨by rfl, ?hy4⟩) hHeld ?rest4
  case hy4 =>
    intro w' hSw
    try dsimp only at hSw
    go_simp
    first | done | with_reducible rfl
  try simp only [Act.put, zq1, zq2, zq3, zq4, zq5, zq6]
  refine wpAnyU_take (i := 4) (v := ?v5) rfl (by kernel_rfl) (by kernel_rfl) (by kernel_rfl) (by kernel_rfl) (fun _ _ _ h => h) (Or.inl ⟨by rfl, ?hy5⟩) hHeld ?rest5
  case hy5 =>
    intro w' hSw
    try dsimp only at hSw
    go_simp
    first | done | with_reducible rfl
  try simp only [Act.put, zq1, zq2, zq3, zq4, zq5, zq6]
  refine wpAnyU_take (i := 5) (v := ?v6) rfl (by kernel_rfl) (by kernel_rfl) (by kernel_rfl) (by kernel_rfl) (fun _ _ _ h => h) (Or.inl ⟨by rfl, ?hy6⟩) hHeld ?rest6
  case hy6 =>
    intro w' hSw
    try dsimp only at hSw
    go_simp
    first | done | with_reducible rfl
  try simp only [Act.put, zq1, zq2, zq3, zq4, zq5, zq6]
  refine wpAnyU_take (i := 6) rfl (by kernel_rfl) (by kernel_rfl) (by kernel_rfl) (by kernel_rfl) (fun _ _ _ h => h) (yieldsIf_load_mid (by rfl) 56 _ (by rfl) b2 0 (by rfl) (bv l) _ (fun w' hSw => hSw.2.2.2) Try.underlying56 rfl (by rw [bv_length, HL.out]; exact size47)) hHeld ?_
  try simp only [Act.put, zq1, zq2, zq3, zq4, zq5, zq6]
  refine wpAnyU_take (i := 7) rfl (by kernel_rfl) (by kernel_rfl) (by kernel_rfl) (by kernel_rfl) (fun _ _ _ h => h) (yieldsIf_build84 (by rfl) _ _ (by rfl) k l (by rfl) (by rfl) HL.out) hHeld ?_
  try simp only [Act.put, zq1, zq2, zq3, zq4, zq5, zq6]
  refine wpAnyU_one (i := 8) (by kernel_rfl) (by rfl) (fun K hK => ?_)
  refine step_buildSlice84 rfl (.tmp 10) (by rfl) (k, l) (by rfl) HL.out ?_
  refine hK.out _ _ (.inr ⟨((C0.out.alloc _).cell 0).trans rfl, (H.out.alloc _).c2, ((C1.out.alloc _).cell 0).trans rfl, (C2.out.alloc _).rangeAt⟩) (fun hHeld => ?_)
  replace hHeld := hHeld.resolve_left (by decide)
  clear hK K
  try simp only [Act.put, zq1, zq2, zq3, zq4, zq5, zq6]
  refine wpAnyU_one (i := 9) (by kernel_rfl) (by rfl) (fun K hK => ?_)
  refine step_append84 rfl (.tmp 7) (.tmp 11) (by rfl) base pl.wv D.waits.length _ (by rfl) (H.out.drew.alloc _).row w.heap.size 1 (k, l) (by rfl) (Blk.new w.drew _ _) HL.out hN (by simp; omega) ?_
  intro g cap w1 hown hg hat
  have H1 := H.out.drew.alloc (.cells (wc (k, l)).toArray 95)
  have hp1 : Blk w1 p 90 (dcells pl D) := (hg.block p H1.blk.lt (fun e => H1.ne_pw e.symm)).trans H1.blk
  have hb0 := H1.keepBlk (show Blk (w.drew.alloc (.cells (wc (k, l)).toArray 95)) b0 _ _ from C0.out.alloc _) (by decide) hg
  have hb1 := H1.keepBlk (show Blk (w.drew.alloc (.cells (wc (k, l)).toArray 95)) b1 _ _ from C1.out.alloc _) (by decide) hg
  have hb2 := H1.keepBlk (show Blk (w.drew.alloc (.cells (wc (k, l)).toArray 95)) b2 _ _ from C2.out.alloc _) (by decide) hg
  refine hK.out _ _ (.inr ⟨(hb0.cell 0).trans rfl, (hp1.cell 2).trans rfl, (hb1.cell 0).trans rfl, hb2.rangeAt⟩) (fun hHeld => ?_)
  replace hHeld := hHeld.resolve_left (by decide)
  clear hK K
  try simp only [Act.put, zq1, zq2, zq3, zq4, zq5, zq6]
  have f2 := hp1.frozen 2
  have c2p := (hp1.cell 2).trans (show (dcells pl D)[2]? = some pl.wv from rfl)
  refine wpAnyU_one (i := 10) (by kernel_rfl) (by rfl) (fun K hK => ?_)
  go_simp
  refine hK.out _ _ (.inr ⟨(hb0.cell 0).trans rfl, (hp1.cell 2).trans rfl, (hb1.cell 0).trans rfl, hb2.rangeAt⟩) (fun hHeld => ?_)
  replace hHeld := hHeld.resolve_left (by decide)
  clear hK K
  try simp only [Act.put, zq1, zq2, zq3, zq4, zq5, zq6]
  refine wpAnyU_one (i := 11) (by kernel_rfl) (by rfl) (fun K hK => ?_)
  go_simp
  refine hK.out _ _ (.inr ⟨(hb0.cell 0).trans rfl, (hp1.cell 2).trans rfl, (hb1.cell 0).trans rfl, hb2.rangeAt⟩) (fun hHeld => ?_)
  replace hHeld := hHeld.resolve_left (by decide)
  clear hK K
  try simp only [Act.put, zq1, zq2, zq3, zq4, zq5, zq6]
  refine wpAnyU_one (i := 12) (by kernel_rfl) (by rfl) (fun K hK => ?_)
  go_simp
  refine hK.out _ _ (.inl rfl) (fun hHeld => ?_)
  clear hK K
  try simp only [Act.put, zq1, zq2, zq3, zq4, zq5, zq6]
  refine wpAnyU_done (by kernel_rfl) ?_ _
  refine OnlyN.normal ?_
  have hat' : pl.wv.ownBlock = some g ∨ (w.drew.alloc (.cells (wc (k, l)).toArray 95)).heap.size ≤ g := hat.imp id (fun e => Nat.le_of_eq e.symm)
  have hq := H1.queued ⟨HL.out, hk⟩ hown hg hat'
  have hfr : Fr (pl.has p) w (w1.setCell ⟨p, 2, none⟩ (.slice (some ⟨g, 0, none⟩) (D.waits.length + 1) cap)) := ((((Fr.refl (pl.has p) w).drew).alloc _).grown hg (fun i e _ => .inr (.inr (.inl e)))).setCell (fun _ => .inl rfl) _
  have hg0 : pl.wv.ownBlock = some g ∨ w.heap.size ≤ g := hat.imp id (fun e => by rw [e]; simp)
  go_end0
  exact ⟨rfl, _, hq, hfr, hg0.imp (fun e => e.symm) (fun e => ⟨g, rfl, e⟩)⟩
set_option maxRecDepth 8000 in
theorem blks3 (w : World) (v0 v1 : Value) (c2 : Array Value) (t0 t1 t2 : TypeId) :
    Blk (((w.alloc (.cells #[v0] t0)).alloc (.cells #[v1] t1)).alloc (.cells c2 t2)) w.heap.size t0 #[v0] ∧
    Blk (((w.alloc (.cells #[v0] t0)).alloc (.cells #[v1] t1)).alloc (.cells c2 t2)) (w.heap.size + 1) t1 #[v1] ∧
    Blk (((w.alloc (.cells #[v0] t0)).alloc (.cells #[v1] t1)).alloc (.cells c2 t2)) (w.heap.size + 2) t2 c2 ∧
    Below w.heap.size w (((w.alloc (.cells #[v0] t0)).alloc (.cells #[v1] t1)).alloc (.cells c2 t2)) ∧
    (((w.alloc (.cells #[v0] t0)).alloc (.cells #[v1] t1)).alloc (.cells c2 t2)).heap.size = w.heap.size + 3 := by
  have e1 := Blk.new (w.alloc (.cells #[v0] t0)) t1 #[v1]
  have e2 := Blk.new ((w.alloc (.cells #[v0] t0)).alloc (.cells #[v1] t1)) t2 c2
  simp only [World.size_alloc] at e1 e2
  exact ⟨((Blk.new w _ _).alloc _).alloc _, e1.alloc _, e2, (((Below.refl _ w).alloc (Nat.le_refl _) _).alloc (by simp) _).alloc (by simp; omega) _, by simp⟩
theorem enters62 (args : Array Value) (w : World) : (callFunc 59 args).run Try.prog w = .ok (.enter 59 args) w := enters_of Try.func59 (by kernel_rfl) rfl args w
set_option maxRecDepth 100000 in
set_option maxHeartbeats 800000 in
theorem write_goes {w : World} {base p : Nat} {pl : Pl} {D : Dk} (h : DiskAt w base p pl D) (hbase : base ≤ w.heap.size) (hN : D.waits.length ≤ 1000000) (n : Nat) (l : List UInt8) (hl : l.length = 512) (hn : n < D.size) (hs : D.steps < 1000000) (hf : D.next = false) :
    Calls Try.prog 37 #[.pointer (some ⟨p, 0, none⟩), .int .i64 (n : Int), sec l] w fun e w' =>
      e = .returned (.int .i64 0) ∧ ∃ v, DiskAt w' base p { pl with wv := v } (D.stepped.queued (n, l)) ∧ Fr (pl.has p) w w' ∧ (v.ownBlock = pl.wv.ownBlock ∨ ∃ g, v.ownBlock = some g ∧ w.heap.size ≤ g) := by
  have H := Lib.hid h
  have HF := Lib.hid hf
  have HL := Lib.hid hl
  have q := blks3 w (.pointer (some ⟨p, 0, none⟩)) (.int .i64 (n : Int)) (bv l).toArray 30 3 56
  clear h hf hl
  go_enter Try.func37, Try.ntmps37
  go_wp2_with fail
  obtain ⟨q0, q1, q2, qb, qs⟩ := q
  generalize ((w.alloc (.cells #[.pointer (some ⟨p, 0, none⟩)] 30)).alloc (.cells #[.int .i64 (n : Int)] 3)).alloc (.cells (bv l).toArray 56) = W at q0 q1 q2 qb qs ⊢
  have HW := Lib.hid (H.out.below qb)
  refine (asked_ok HW.out n hn).mono ?_
  rintro e w' ⟨rfl, rfl⟩
  have c0 := (q0.cell 0).trans rfl
  have Q0 := Lib.hid q0
  have Q1 := Lib.hid q1
  have Q2 := Lib.hid q2
  have QB := Lib.hid qb
  clear q0 q1 q2 qb qs
  go_wp2_with fail
  refine (step_goes HW.out HF.out hs _ _ (fun w' => ∃ v, DiskAt w' base p { pl with wv := v } (D.stepped.queued (n, l)) ∧ Fr (pl.has p) W w' ∧ (v.ownBlock = pl.wv.ownBlock ∨ ∃ g, v.ownBlock = some g ∧ W.heap.size ≤ g)) ?hdo (enters62 _)).mono ?_
  case hdo =>
    intro W1 h1 f1
    have nn := fun k (hk : w.heap.size ≤ k) => H.out.not_new hk
    refine (write1_at h1 (Nat.le_trans hbase (Nat.le_trans QB.out.size f1.size)) hN n l hn HL.out w.heap.size (w.heap.size + 1) (w.heap.size + 2) (f1.keepBlk Q0.out (nn _ (by omega))) (f1.keepBlk Q1.out (nn _ (by omega))) (f1.keepBlk Q2.out (nn _ (by omega)))).mono ?_
    rintro e w3 ⟨rfl, v, h3, f3, hv⟩
    exact ⟨rfl, v, h3, f1.trans f3, hv.imp id (fun ⟨g, h4, h5⟩ => ⟨g, h4, Nat.le_trans f1.size h5⟩)⟩
  rintro e w2 ⟨rfl, h2⟩
  have J2 : Hid (∃ v, DiskAt w2 base p { pl with wv := v } (D.stepped.queued (n, l)) ∧ Fr (pl.has p) w w2 ∧ (v.ownBlock = pl.wv.ownBlock ∨ ∃ g, v.ownBlock = some g ∧ w.heap.size ≤ g)) := by
    obtain ⟨v, h3, f3, hv⟩ := h2
    exact ⟨v, h3, (Fr.of_below (S := pl.has p) QB.out).trans f3, hv.imp id (fun ⟨g, h4, h5⟩ => ⟨g, h4, Nat.le_trans QB.out.size h5⟩)⟩
  clear h2
  go_wp2
  go_ret
  exact ⟨rfl, J2.out⟩
end Go.Proofs.Ytjfcmoappbfnjaa
namespace Go.Proofs.Ytjfcmoappbfnjaa
open List renaming getElem_toArray → zq1, getElem_cons_succ → zq2, getElem_cons_zero → zq3, setIfInBounds_toArray → zq4, set_cons_zero → zq5, set_cons_succ → zq6
open Go.RowKit Go.Shelf
attribute [local go_sem] Oper.semAt_some
attribute [local go_sem] run_store_bv run_store_wc run_store_bv_drew run_store_wc_drew
/-- sectors with writes laid over them, of each so many bytes as its number says -/
def layC (kf : Nat → Nat) (L : Nat → List UInt8) (es : List (Nat × (Nat × List UInt8))) : Nat → List UInt8 :=
  es.foldl (fun L e => upL L e.2.1 (layL (L e.2.1) e.2.2 (kf e.1))) L
set_option maxRecDepth 8000 in
theorem layC_snoc (kf : Nat → Nat) (L : Nat → List UInt8) (es : List (Nat × (Nat × List UInt8))) (e : Nat × (Nat × List UInt8)) :
    layC kf L (es ++ [e]) = upL (layC kf L es) e.2.1 (layL (layC kf L es e.2.1) e.2.2 (kf e.1)) := by simp [layC]
theorem layC_length (kf : Nat → Nat) (hk : ∀ i, kf i ≤ 512) : ∀ (es : List (Nat × (Nat × List UInt8))) (L : Nat → List UInt8), (∀ n, (L n).length = 512) → (∀ e ∈ es, e.2.2.length = 512) → ∀ n, (layC kf L es n).length = 512
  | [], _, hL, _ => hL
  | e :: es, L, hL, he => layC_length kf hk es _ (fun n => by
      show (upL L e.2.1 (layL (L e.2.1) e.2.2 (kf e.1)) n).length = 512
      unfold upL
      split
      · exact layL_length _ _ _ (hL _) (he e (by simp)) (hk _)
      · exact hL n) (fun x hx => he x (by simp [hx]))
/-- what has come, with its numbers -/
def wis {D : Dk} (xs : List (DW D)) : List (Nat × (Nat × List UInt8)) := xs.map (fun y => (y.i, y.x))
set_option maxRecDepth 8000 in
theorem wis_snoc {D : Dk} (xs : List (DW D)) (x : DW D) : wis (xs ++ [x]) = wis xs ++ [(x.i, x.x)] := by simp [wis]
set_option maxRecDepth 8000 in
theorem wis_len {D : Dk} (xs : List (DW D)) : ∀ e ∈ wis xs, e.2.2.length = 512 := by
  intro e he
  obtain ⟨y, _, rfl⟩ := List.mem_map.1 he
  exact y.len
/-- the writes that wait, with their numbers -/
def Dk.nums (D : Dk) : List (Nat × (Nat × List UInt8)) := D.waits.mapIdx fun i x => (i, x)
set_option maxRecDepth 8000 in
theorem wis_all {D : Dk} {xs : List (DW D)} (h : wxs xs = D.waits) (hi : ∀ (i : Nat) (y : DW D), xs[i]? = some y → y.i = i) : wis xs = D.nums := by
  apply List.ext_getElem?
  intro i
  have h2 := congrArg (·[i]?) h
  simp only [wxs, List.getElem?_map] at h2
  rw [wis, Dk.nums, List.getElem?_map, List.getElem?_mapIdx, ← h2]
  cases hx : xs[i]? with
  | none => rfl
  | some y => simp [hi i y hx]
def Dk.laid (D : Dk) (kf : Nat → Nat) : Nat → List UInt8 := layC kf D.lasts D.nums
/-- behind a flush -/
def Dk.flushed (D : Dk) : Dk := { D with lasts := D.laid (fun _ => 512), waits := [] }
theorem own_fr {β : Type} {B : Nat} {S : Nat → Prop} {w0 : World} (hB : w0.heap.size ≤ B) : OwnFrom B (fun (_ : β) W => Fr S w0 W) := fun _ _ _ _ hs hg hr =>
  hs.grown hg (fun i e hi => by have := (hr i e).1; omega)
theorem own_sec {β : Type} {B m : Nat} (hB : m < B) (f : β → Nat → List UInt8) : OwnFrom B (fun (s : β) W => SecMap W m (f s)) := fun _ X _ _ hs hg hr =>
  hs.keep (hg.block m hs.lt (fun e => by have := (hr m e.symm).1; omega))
theorem keepsFrom_fr {B m : Nat} {W W' : World} (h : Fr (· = m) W W') (hm : m < B) : KeepsFrom B W W' :=
  ⟨h.size, fun k o hk ho _ => (h.block k (Array.getElem?_eq_some_iff.1 ho).1 (by omega)).trans ho⟩
/-- the map of sectors has turned -/
theorem DiskAt.turned {w w' : World} {base p : Nat} {pl : Pl} {D : Dk} (h : DiskAt w base p pl D) (hf : Fr (· = pl.m) w w') {L : Nat → List UInt8} (hm : SecMap w' pl.m L) (hl : ∀ n, (L n).length = 512) : DiskAt w' base p pl { D with lasts := L } :=
  { h with
    blk := hf.keepBlk h.blk (fun e => h.ne_pm e.symm)
    map := hm
    row := h.keepRow (fun g hv => hf.block g (h.row.lt g hv).2 (fun e => h.ne_mw (by rw [hv, e])))
    set := h.set.keep (fun b hb => hf.block b (h.set.lt b hb) (fun e => h.ne (by rw [hb, e])))
    lens := hl }
set_option maxRecDepth 8000 in
/-- nothing waits any more -/
theorem DiskAt.emptied {w : World} {base p : Nat} {pl : Pl} {D : Dk} (h : DiskAt w base p pl D) : DiskAt (w.setCell ⟨p, 2, none⟩ (.slice none 0 0)) base p { pl with wv := .slice none 0 0 } { D with waits := [] } :=
  { h with
    blk := h.blk.set_ 2 _
    map := h.map.keep (Below.heap_setCell _ _ _ _ h.ne_pm)
    row := World.ownsRow_nil _ _ _ _
    set := h.set.keep (fun b hb => Below.heap_setCell _ _ _ _ (fun e => h.ne_pf (by rw [hb, e])))
    wlens := by simp }
theorem DiskAt.putObj {w : World} {base p : Nat} {pl : Pl} {D : Dk} (h : DiskAt w base p pl D) {B : Nat} (hB : ¬ pl.has p B) (o : Obj) : DiskAt (w.putObj B o) base p pl D :=
  h.keep fun k hk => World.putObj_heap_other (by rintro rfl; exact hB hk)
theorem Fr.putObj {S : Nat → Prop} {a b : World} (h : Fr S a b) {B : Nat} (hB : a.heap.size ≤ B) (o : Obj) : Fr S a (b.putObj B o) :=
  h.grown (grownBy_putObj' b B o) (fun i e hi => by injection e with e; omega)
set_option maxRecDepth 100000 in
set_option maxHeartbeats 2000000 in
theorem flush1_at {w : World} {base p : Nat} {pl : Pl} {D : Dk} (h : DiskAt w base p pl D) (hN : D.waits.length ≤ 1000000) (b0 : Nat) (c0 : Blk w b0 30 #[.pointer (some ⟨p, 0, none⟩)]) :
    Calls Try.prog 54 #[.pointer (some ⟨b0, 0, none⟩)] w fun e w' =>
      e = .returned (.tuple #[]) ∧ DiskAt w' base p { pl with wv := .slice none 0 0 } D.flushed ∧ Fr (pl.has p) w w' := by
  have hz8 := z84
  have hFw : ∀ f, Fence.wide.fn f := fun _ => trivial
  have h0 := (c0.cell 0).trans rfl
  have H := Lib.hid h
  have C0 := Lib.hid c0
  clear h c0
  refine (callsIn_wide (n := 4)).1 (callsIn_of_wp_marks Try.func54 rfl trivial ?_ rfl)
  simp only [Try.ntmps54, List.size_toArray, List.length_cons, List.length_nil, Nat.reduceAdd, Nat.reduceSub, Array.replicate_succ, Array.replicate_zero, List.push_toArray, List.append_toArray, List.nil_append, List.cons_append]
  gi_wp2_with (gi_at_call 41; refine ((callsIn_wide (n := 3)).2 (waiting_any _ _)).mono ?_; rintro e w' ⟨rfl, rfl⟩)
  have B7 := Lib.hid (Blk.new w 30 #[.pointer (some ⟨p, 0, none⟩)])
  have HD := Lib.hid (H.out.alloc (.cells #[.pointer (some ⟨p, 0, none⟩)] 30))
  have CD := Lib.hid (C0.out.alloc (.cells #[.pointer (some ⟨p, 0, none⟩)] 30))
  have FR := Lib.hid ((Fr.refl (pl.has p) w).alloc (.cells #[.pointer (some ⟨p, 0, none⟩)] 30))
  generalize w.alloc (.cells #[.pointer (some ⟨p, 0, none⟩)] 30) = W0 at B7 HD CD FR ⊢
  clear h0
  refine range_waiting HD.out hN rfl ((B7.out.cell 0).trans rfl) rfl (by omega)
    (fun xs W => SecMap W pl.m (layC (fun _ => 512) D.lasts (wis xs)) ∧ Fr (· = pl.m) W0 W)
    ((own_sec HD.out.map.lt (fun xs => layC (fun _ => 512) D.lasts (wis xs))).and (own_fr (Nat.le_refl _)))
    ⟨HD.out.map, Fr.refl _ _⟩
    (fun x b => { tmps := #[.pointer (some ⟨b0, 0, none⟩), undef, .pointer (some ⟨b, 0, none⟩), .pointer (some ⟨p, 0, none⟩), .func (.func 63) #[] #[.pointer (some ⟨w.heap.size, 0, none⟩)], .int .i64 (x.i : Int), wv x.x, undef, undef, undef, undef, undef, undef, undef, undef, undef], defers := [] })
    ?assign ?body (fun pre W h => h.2.size) ?done
  case assign =>
    intro l x W K hK
    have hxz : x.x.2.length = zs.length := by rw [x.len, zs_length]
    have hwl : (wc x.x).length = 513 := wc_length x.x x.len
    have HKK := Lib.hid hK
    clear hK
    gi_wp2
    exact HKK.out
  case body =>
    rintro l pre x b W _ ⟨i1, i2⟩ hb hbw
    have XL := Lib.hid x.len
    have I1 := Lib.hid i1
    have I2 := Lib.hid i2
    have HW := Lib.hid hbw
    have BN := Lib.hid hb
    have LL := Lib.hid (layC_length (fun _ => 512) (fun _ => Nat.le_refl _) (wis pre) D.lasts HD.out.lens (wis_len pre) x.x.1)
    have WS := Lib.hid (wis_snoc pre x)
    have LS := Lib.hid (layC_snoc (fun _ => 512) D.lasts (wis pre) (x.i, x.x))
    have C0W : Hid (Blk W b0 30 #[.pointer (some ⟨p, 0, none⟩)]) := i2.keepBlk CD.out (by rintro rfl; obtain ⟨es, ck, hm, _⟩ := HD.out.map; have hc := CD.out; unfold Blk at hc; rw [hc] at hm; cases hm)
    have PW : Hid (Blk W p 90 (dcells pl D)) := i2.keepBlk HD.out.blk (fun e => HD.out.ne_pm e.symm)
    clear i1 i2 hbw hb
    gi_wp2_with fail
    refine wpIn_region_round (S := fun w' => w'.cell? ⟨b0, 0, none⟩ = some (.pointer (some ⟨p, 0, none⟩)) ∧ w'.cell? ⟨p, 1, none⟩ = some (.map (some pl.m)) ∧ w'.rangeAt b 0 (wc x.x)) (by kernel_rfl) (noDefer (by kernel_rfl)) ⟨(C0W.out.cell 0).trans rfl, (PW.out.cell 1).trans rfl, HW.out.rangeAt⟩ (fun hHeld => ?_)
    refine wpAnyH_take (i := 0) (v := ?v1) rfl (by kernel_rfl) (by kernel_rfl) (by kernel_rfl) (fun _ _ _ h => h) (Or.inl ⟨by rfl, ?hy1⟩) hHeld ?rest1
    case hy1 =>
      intro w' hSw
      try dsimp only at hSw
      go_simp
      first | done | with_reducible rfl
    try simp only [Act.put, zq1, zq3, zq4, zq5, zq6]
    refine wpAnyH_take (i := 1) (v := ?v2) rfl (by kernel_rfl) (by kernel_rfl) (by kernel_rfl) (fun _ _ _ h => h) (Or.inl ⟨by rfl, ?hy2⟩) hHeld ?rest2
    case hy2 =>
      intro w' hSw
      try dsimp only at hSw
      go_simp
      first | done | with_reducible rfl
    try simp only [Act.put, zq1, zq2, zq3, zq4, zq5, zq6]
    refine wpAnyH_take (i := 2) (v := ?v3) rfl (by kernel_rfl) (by kernel_rfl) (by kernel_rfl) (fun _ _ _ h => h) (Or.inl ⟨by rfl, ?hy3⟩) hHeld ?rest3
    case hy3 =>
      intro w' hSw
      try dsimp only at hSw
      go_simp
      first | done | with_reducible rfl
    try simp only [Act.put, zq1, zq2, zq3, zq4, zq5, zq6]
    refine wpAnyH_take (i := 3) (v := ?v4) rfl (by kernel_rfl) (by kernel_rfl) (by kernel_rfl) (fun _ _ _ h => h) (Or.inl ⟨by rfl, ?hy4⟩) hHeld ?rest4
    case hy4 =>
      intro w' hSw
      try dsimp only at hSw
      go_simp
      first | done | with_reducible rfl
    try simp only [Act.put, zq1, zq2, zq3, zq4, zq5, zq6]
    refine wpAnyH_take (i := 4) rfl (by kernel_rfl) (by kernel_rfl) (by kernel_rfl) (fun _ _ _ h => h) (yieldsIf_load_mid (by rfl) 95 _ (by rfl) b 0 (by rfl) (wc x.x) _ (fun w' hSw => hSw.2.2) Try.underlying95 rfl (by rw [wc_length _ XL.out]; exact size84)) hHeld ?_
    try simp only [Act.put, zq1, zq2, zq3, zq4, zq5, zq6]
    refine wpAnyH_ready (rs := [5]) (by kernel_rfl) (by simp) ?_
    refine AllReadyH.cons (by rfl) (fun K hK => ?_) AllReadyH.nil
    go_simp
    refine (lay_any W.drew pl.m _ x.x 512 I1.out XL.out LL.out (Nat.le_refl _)).mono ?_
    rintro e w5 ⟨rfl, sm5, fr5⟩
    have SM5 := Lib.hid sm5
    have FR5 := Lib.hid (show Fr (· = pl.m) W w5 from (Fr.refl _ W).drew.trans fr5)
    have hne : ∀ k, k < W.heap.size → k ≠ pl.m → w5.heap[k]? = W.heap[k]? := fun k hk hn => fr5.block k hk hn
    have cb0 := (hne b0 C0W.out.lt (by rintro rfl; obtain ⟨es, ck, hm, _⟩ := I1.out; have hc := C0W.out; unfold Blk at hc; rw [hc] at hm; cases hm)).trans C0W.out
    have cp := (hne p PW.out.lt (fun e => HD.out.ne_pm e.symm)).trans PW.out
    have cb := (hne b HW.out.lt (by rintro rfl; have := HD.out.map.lt; have := BN.out; omega)).trans HW.out
    have CS := Lib.hid (show _ ∧ _ ∧ _ from ⟨(Blk.cell (t := 30) cb0 0).trans rfl, (Blk.cell (t := 90) cp 1).trans rfl, Blk.rangeAt (t := 95) cb⟩)
    clear sm5 fr5 hne cb0 cp cb
    go_wp2_with fail
    refine hK.out _ _ CS.out (fun hHeld => ?_)
    clear hK K
    try simp only [Act.put, zq1, zq2, zq3, zq4, zq5, zq6]
    refine wpAnyH_done (by kernel_rfl) ?_ _
    refine OnlyN.normal ?_
    refine ⟨rfl, keepsFrom_fr FR5.out HD.out.map.lt, fun k hk => FR5.out.block k ?_ (fun e => HD.out.ne_mw (e ▸ hk)), ?_, I2.out.trans FR5.out⟩
    · exact Nat.lt_of_lt_of_le (HD.out.row.lt k hk).2 I2.out.size
    · rw [WS.out, LS.out]
      exact SM5.out
  case done =>
    rintro B xs W hB hxs hxi ⟨i1, i2⟩ hD
    rw [wis_all hxs hxi] at i1
    have I1 := Lib.hid i1
    have I2 := Lib.hid i2
    have c0W := ((i2.keepBlk CD.out (by rintro rfl; obtain ⟨es, ck, hm, _⟩ := HD.out.map; have hc := CD.out; unfold Blk at hc; rw [hc] at hm; cases hm)).cell 0).trans rfl
    have PW : Hid (Blk W p 90 (dcells pl D)) := i2.keepBlk HD.out.blk (fun e => HD.out.ne_pm e.symm)
    have c2W := (PW.out.cell 2).trans (show (dcells pl D)[2]? = some pl.wv from rfl)
    have f2W := PW.out.frozen 2
    have HDB := Lib.hid hD
    have BB := Lib.hid hB
    clear i1 i2 hD hB hxs hxi
    gi_wp2
    have hl := layC_length (fun _ => 512) (fun _ => Nat.le_refl _) D.nums D.lasts HD.out.lens (fun e he => by
      obtain ⟨i, hi, rfl⟩ := List.mem_mapIdx.1 he
      exact (HD.out.wlens _ (List.getElem_mem hi)).1)
    have hd1 := HD.out.turned I2.out I1.out hl
    have hpB : p ≠ B := by have := HD.out.blk.lt; have := BB.out; omega
    have hsW := Nat.le_trans FR.out.size I2.out.size
    refine ⟨by simp, .inl ⟨_, _, rfl, run_takeDeferred ((Below.heap_setCell W ⟨p, 2, none⟩ _ B (Ne.symm hpB)).trans HDB.out), ?_⟩⟩
    refine ⟨_, results_none rfl _ _ _, rfl, hd1.emptied.putObj ?_ _, ?_⟩
    · rintro (e | e | e | e)
      · exact hpB e.symm
      · have := HD.out.map.lt; have := BB.out; simp only at e; omega
      · cases e
      · have := HD.out.set.lt B e; have := BB.out; omega
    · exact ((FR.out.then_ I2.out (fun i _ e => .inr (.inl e))).setCell (fun _ => .inl rfl) _).putObj (Nat.le_trans FR.out.size BB.out) _
theorem enters56 (args : Array Value) (w : World) : (callFunc 54 args).run Try.prog w = .ok (.enter 54 args) w := enters_of Try.func54 (by kernel_rfl) rfl args w
set_option maxRecDepth 100000 in
set_option maxHeartbeats 800000 in
theorem flush_goes {w : World} {base p : Nat} {pl : Pl} {D : Dk} (h : DiskAt w base p pl D) (hN : D.waits.length ≤ 1000000) (hs : D.steps < 1000000) (hf : D.next = false) :
    Calls Try.prog 24 #[.pointer (some ⟨p, 0, none⟩)] w fun e w' => e = .returned (.int .i64 0) ∧ DiskAt w' base p { pl with wv := .slice none 0 0 } D.stepped.flushed ∧ Fr (pl.has p) w w' := by
  have N := Lib.hid (h.not_new (Nat.le_refl _))
  have H := Lib.hid (h.alloc (.cells #[.pointer (some ⟨p, 0, none⟩)] 30))
  have FR := Lib.hid ((Fr.refl (pl.has p) w).alloc (.cells #[.pointer (some ⟨p, 0, none⟩)] 30))
  have B0 := Lib.hid (Blk.new w 30 #[.pointer (some ⟨p, 0, none⟩)])
  have HF := Lib.hid hf
  clear h hf
  go_enter Try.func24, Try.ntmps24
  go_wp2_with fail
  refine (there_at H.out).mono ?_
  rintro e w' ⟨rfl, rfl⟩
  go_wp2_with fail
  refine (step_goes H.out HF.out hs _ _ (fun w' => DiskAt w' base p { pl with wv := .slice none 0 0 } D.stepped.flushed ∧ Fr (pl.has p) w w') ?hdo (enters56 _)).mono ?_
  case hdo =>
    intro W1 h1 f1
    refine (flush1_at h1 hN w.heap.size (f1.keepBlk B0.out N.out)).mono ?_
    rintro e w3 ⟨rfl, h3, f3⟩
    exact ⟨rfl, h3, (FR.out.trans f1).trans f3⟩
  rintro e w2 ⟨rfl, h2⟩
  have J2 := Lib.hid h2
  clear h2
  go_wp2
  go_ret
  exact ⟨rfl, J2.out⟩
end Go.Proofs.Ytjfcmoappbfnjaa
namespace Go.Proofs.Ytjfcmoappbfnjaa
open List renaming getElem_toArray → zq1, getElem_cons_succ → zq2, getElem_cons_zero → zq3, setIfInBounds_toArray → zq4, set_cons_zero → zq5, set_cons_succ → zq6
open Go.RowKit Go.Shelf
/-- a byte with bits turned -/
def turnL (l : List UInt8) (k : Nat) (b : UInt8) : List UInt8 := l.modify k (· ^^^ b)
set_option maxRecDepth 8000 in
theorem turnL_length (l : List UInt8) (k : Nat) (b : UInt8) : (turnL l k b).length = l.length := by simp [turnL]
set_option maxRecDepth 8000 in
theorem turnL_set (l : List UInt8) (k : Nat) (b : UInt8) (hk : k < l.length) : turnL l k b = l.set k (l[k] ^^^ b) := by
  unfold turnL
  apply List.ext_getElem?
  intro i
  rw [List.getElem?_modify, List.getElem?_set]
  by_cases h : k = i
  · subst h
    rw [if_pos rfl, if_pos hk, List.getElem?_eq_getElem hk]
    simp
  · rw [if_neg h]
    cases l[i]? <;> simp [h]
set_option maxRecDepth 8000 in
theorem xor_u8 (a b : UInt8) : bits BinOp.xor IntKind.u8 (a.toNat : Int) (b.toNat : Int) = ((a ^^^ b).toNat : Int) := by
  rw [UInt8.toNat_xor]
  exact u8_xor_nat a.toNat b.toNat a.toNat_lt b.toNat_lt
/-- a write of a sector with bits turned -/
def turnW (n k : Nat) (b : UInt8) (x : Nat × List UInt8) : Nat × List UInt8 := if x.1 = n then (x.1, turnL x.2 k b) else x
set_option maxRecDepth 8000 in
theorem turnW_fst (n k : Nat) (b : UInt8) (x : Nat × List UInt8) : (turnW n k b x).1 = x.1 := by unfold turnW; split <;> rfl
set_option maxRecDepth 8000 in
theorem turnW_len (n k : Nat) (b : UInt8) (x : Nat × List UInt8) : (turnW n k b x).2.length = x.2.length := by unfold turnW; split; exact turnL_length _ _ _; rfl
def turnAt (n k : Nat) (b : UInt8) (ws : List (Nat × List UInt8)) (i : Nat) : List (Nat × List UInt8) := ws.modify i (turnW n k b)
def turnAll (n k : Nat) (b : UInt8) (ws : List (Nat × List UInt8)) (is : List Nat) : List (Nat × List UInt8) := is.foldl (turnAt n k b) ws
section
variable {n k : Nat} {b : UInt8} {ws : List (Nat × List UInt8)}
set_option maxRecDepth 8000 in
theorem turnAll_snoc (is : List Nat) (i : Nat) : turnAll n k b ws (is ++ [i]) = turnAt n k b (turnAll n k b ws is) i := by simp [turnAll]
set_option maxRecDepth 8000 in
theorem turnAt_length (i : Nat) : (turnAt n k b ws i).length = ws.length := by simp [turnAt]
theorem turnAll_length : ∀ (is : List Nat) (ws : List (Nat × List UInt8)), (turnAll n k b ws is).length = ws.length
  | [], _ => rfl
  | i :: is, ws => (turnAll_length is (turnAt n k b ws i)).trans (turnAt_length i)
set_option maxRecDepth 8000 in
theorem turnAt_get (i j : Nat) : (turnAt n k b ws i)[j]? = if i = j then ws[j]?.map (turnW n k b) else ws[j]? := by
  unfold turnAt
  rw [List.getElem?_modify]
  split
  · rfl
  · cases ws[j]? <;> rfl
set_option maxRecDepth 8000 in
theorem turnAt_mem {m : Nat} (i : Nat) (h : ∀ x ∈ ws, x.2.length = 512 ∧ x.1 < m) : ∀ x ∈ turnAt n k b ws i, x.2.length = 512 ∧ x.1 < m := by
  intro x hx
  obtain ⟨j, hj⟩ := List.mem_iff_getElem?.1 hx
  rw [turnAt_get] at hj
  split at hj
  · cases hw : ws[j]? with
    | none => rw [hw] at hj; cases hj
    | some y =>
      rw [hw] at hj
      injection hj with hj
      subst hj
      have := h y (List.mem_of_getElem? hw)
      rw [turnW_fst, turnW_len]
      exact this
  · exact h x (List.mem_of_getElem? hj)
theorem turnAll_fst : ∀ (is : List Nat) (ws : List (Nat × List UInt8)) (j : Nat), (turnAll n k b ws is)[j]?.map (·.1) = ws[j]?.map (·.1)
  | [], _, _ => rfl
  | i :: is, ws, j => (turnAll_fst is (turnAt n k b ws i) j).trans (by
      rw [turnAt_get]
      split
      · cases ws[j]? with
        | none => rfl
        | some y => simp [turnW_fst]
      · rfl)
theorem turnAll_range (ws : List (Nat × List UInt8)) : ∀ j, (∀ i, (turnAll n k b ws (List.range j))[i]? = if i < j then ws[i]?.map (turnW n k b) else ws[i]?)
  | 0, i => by simp [turnAll]
  | j + 1, i => by
    rw [List.range_succ, turnAll_snoc, turnAt_get, turnAll_range ws j]
    by_cases h : j = i
    · subst h
      rw [if_pos rfl, if_neg (Nat.lt_irrefl _), if_pos (Nat.lt_succ_self _)]
    · rw [if_neg h]
      by_cases h2 : i < j
      · rw [if_pos h2, if_pos (by omega)]
      · rw [if_neg h2, if_neg (by omega)]
set_option maxRecDepth 8000 in
theorem turnAll_all (ws : List (Nat × List UInt8)) : turnAll n k b ws (List.range ws.length) = ws.map (turnW n k b) := by
  apply List.ext_getElem?
  intro i
  rw [turnAll_range, List.getElem?_map]
  split
  · rfl
  · rw [List.getElem?_eq_none (by omega)]; rfl
set_option maxRecDepth 8000 in
theorem turnAt_no (i : Nat) (h : ∀ y, ws[i]? = some y → y.1 ≠ n) : turnAt n k b ws i = ws := by
  apply List.ext_getElem?
  intro j
  rw [turnAt_get]
  split
  · rename_i e
    subst e
    cases hw : ws[i]? with
    | none => rfl
    | some y => simp [turnW, h y hw]
  · rfl
set_option maxRecDepth 8000 in
theorem turnAll_get (is : List Nat) (ws : List (Nat × List UInt8)) {i : Nat} {x : Nat × List UInt8} (h : ws[i]? = some x) : ∃ x', (turnAll n k b ws is)[i]? = some x' ∧ x'.1 = x.1 := by
  have e := turnAll_fst (n := n) (k := k) (b := b) is ws i
  rw [h] at e
  cases hx : (turnAll n k b ws is)[i]? with
  | none => rw [hx] at e; cases e
  | some x' => rw [hx] at e; injection e with e; exact ⟨x', rfl, e⟩
set_option maxRecDepth 8000 in
theorem turnAll_back (is : List Nat) (ws : List (Nat × List UInt8)) {i : Nat} {x' : Nat × List UInt8} (h : (turnAll n k b ws is)[i]? = some x') : ∃ x, ws[i]? = some x ∧ x'.1 = x.1 := by
  have e := turnAll_fst (n := n) (k := k) (b := b) is ws i
  rw [h] at e
  cases hx : ws[i]? with
  | none => rw [hx] at e; cases e
  | some x => rw [hx] at e; injection e with e; exact ⟨x, rfl, e⟩
set_option maxRecDepth 8000 in
/-- the cells of a row of writes, one byte of one of them another -/
theorem flat_turn (hk : k < 512) : ∀ (ws : List (Nat × List UInt8)) (i : Nat) (x : Nat × List UInt8), (∀ x ∈ ws, x.2.length = 512) → ws[i]? = some x → x.1 = n → ∀ y, x.2[k]? = some y →
    (ws.flatMap wc).set (i * 513 + 1 + k) (.int .u8 ((y ^^^ b).toNat : Int)) = (turnAt n k b ws i).flatMap wc
  | [], i, x, _, h, _, _, _ => by simp at h
  | z :: ws, i, x, hl, h, hx, y, hy => by
    have hz : (wc z).length = 513 := wc_length z (hl z (by simp))
    cases i with
    | zero =>
      simp only [List.getElem?_cons_zero, Option.some.injEq] at h
      subst h
      have e : turnAt n k b (z :: ws) 0 = turnW n k b z :: ws := by simp [turnAt]
      rw [e, List.flatMap_cons, List.flatMap_cons, List.set_append_left _ _ (by omega)]
      congr 1
      have hkl : k < z.2.length := (List.getElem?_eq_some_iff.1 hy).1
      have hyv : z.2[k] = y := (List.getElem?_eq_some_iff.1 hy).2
      unfold turnW
      rw [if_pos hx, turnL_set _ _ _ hkl, hyv]
      show (Value.int .i64 (z.1 : Int) :: bv z.2).set (0 * 513 + 1 + k) _ = Value.int .i64 (z.1 : Int) :: bv (z.2.set k (y ^^^ b))
      rw [show 0 * 513 + 1 + k = k + 1 by omega, List.set_cons_succ]
      congr 1
      unfold bv
      rw [List.map_set]
    | succ i =>
      rw [List.getElem?_cons_succ] at h
      have e : turnAt n k b (z :: ws) (i + 1) = z :: turnAt n k b ws i := by simp [turnAt]
      rw [e, List.flatMap_cons, List.flatMap_cons, List.set_append_right _ _ (by omega), hz]
      congr 1
      rw [show (i + 1) * 513 + 1 + k - 513 = i * 513 + 1 + k by omega]
      exact flat_turn hk ws i x (fun x hx => hl x (by simp [hx])) h hx y hy
end
/-- bits turned -/
def Dk.spoilt (D : Dk) (n k : Nat) (b : UInt8) : Dk := { D with lasts := upL D.lasts n (turnL (D.lasts n) k b), waits := D.waits.map (turnW n k b) }
section
variable {w w' : World} {base p : Nat} {pl : Pl} {D : Dk}
set_option maxRecDepth 8000 in
theorem DiskAt.turn (h : DiskAt w base p pl D) {A : Option Addr} {cap : Nat} (hv : pl.wv = .slice A D.waits.length cap) {n k i : Nat} {b : UInt8} (hk : k < 512) {x : Nat × List UInt8} (hi : D.waits[i]? = some x) (hx : x.1 = n) {y : UInt8} (hy : x.2[k]? = some y) :
    ∃ g, A = some ⟨g, 0, none⟩ ∧ pl.has p g ∧ w.cell? ⟨g, i * 513 + 1 + k, none⟩ = some (.int .u8 (y.toNat : Int)) ∧ w.frozen? ⟨g, i * 513 + 1 + k, none⟩ = false ∧
      DiskAt (w.setCell ⟨g, i * 513 + 1 + k, none⟩ (.int .u8 ((y ^^^ b).toNat : Int))) base p pl { D with waits := turnAt n k b D.waits i } := by
  have hrow := h.row
  rw [hv] at hrow
  have hil := (List.getElem?_eq_some_iff.1 hi).1
  rcases hrow.2 with ⟨_, h0⟩ | ⟨g, cap', cur, e, hb, hg, h1, h2, h3, h4⟩
  · omega
  · injection e with e1 e2 e3
    subst e1; subst e3
    have hown : pl.wv.ownBlock = some g := by rw [hv]; rfl
    have hf := flat_get D.waits (fun x hx => (h.wlens x hx).1) i x hi (k + 1) (.int .u8 (y.toNat : Int)) (by rw [wc, List.getElem?_cons_succ, bv_get, hy]; rfl)
    have hpos : i * 513 + (k + 1) < D.waits.length * 513 := by
      have := Nat.mul_le_mul_right 513 (show i + 1 ≤ D.waits.length by omega)
      omega
    have hcell : w.cell? ⟨g, i * 513 + 1 + k, none⟩ = some (.int .u8 (y.toNat : Int)) := by
      rw [cell_of_row w g _ cur 95 (0, 0) hg, show i * 513 + 1 + k = i * 513 + (k + 1) by omega]
      rw [← h4, List.getElem?_take, if_pos hpos] at hf
      simpa using hf
    refine ⟨g, rfl, .inr (.inr (.inl hown)), hcell, frozen_of_row w g _ cur 95 hg, ?_⟩
    exact { h with
      blk := (Below.heap_setCell _ _ _ _ (by rintro rfl; exact (by
        have hb0 := h.blk
        unfold Blk at hb0
        rw [hb0] at hg
        injection hg with hg
        injection hg with _ ht
        cases ht))).trans h.blk
      map := h.map.keep (Below.heap_setCell _ _ _ _ (by
        intro e
        obtain ⟨es, ck, hm, _⟩ := h.map
        simp only at e
        rw [e, hg] at hm
        cases hm))
      row := by
        rw [hv]
        show World.ownsRow _ base 95 513 (.slice (some ⟨g, 0, none⟩) D.waits.length cap) (turnAt n k b D.waits i).length ((turnAt n k b D.waits i).flatMap wc)
        rw [turnAt_length, ← flat_turn hk D.waits i x (fun x hx => (h.wlens x hx).1) hi hx y hy]
        refine ⟨by rw [List.length_set]; exact hrow.1, .inr ⟨g, cap, _, rfl, hb, heap_setCell_same w g _ cur 95 _ hg, h1, h2, by simpa using h3, ?_⟩⟩
        rw [Array.toList_setIfInBounds, List.take_set, h4]
      set := h.set.keep (fun b' hb' => Below.heap_setCell _ _ _ _ (by
        intro e
        have hs := h.set
        rw [hb'] at hs
        obtain ⟨es, ck, hm, _⟩ := hs
        simp only at e
        rw [e, hg] at hm
        cases hm))
      wlens := turnAt_mem i h.wlens }
end
/-- what a range over what waits comes by, where its bytes may be written meanwhile: of each its sector -/
abbrev DT (D : Dk) := We D.waits.length (fun i x => ∃ y, D.waits[i]? = some y ∧ x.1 = y.1)
set_option maxRecDepth 8000 in
theorem elts_range {N : Nat} {ok : Nat → Nat × List UInt8 → Prop} {xs : List (We N ok)} (h : Elts N xs) : xs.map (·.i) = List.range N := by
  apply List.ext_getElem?
  intro i
  rw [List.getElem?_map]
  cases hx : xs[i]? with
  | none =>
    rw [List.getElem?_eq_none_iff] at hx
    rw [List.getElem?_eq_none (by have := h.1; simp; omega)]
    rfl
  | some y =>
    have hi := (List.getElem?_eq_some_iff.1 hx).1
    rw [List.getElem?_range (by have := h.1; omega), ← h.2 i y hx]
    rfl
section
variable {n : Nat} {base p : Nat} {pl : Pl} {D : Dk} {g : Operand} {ps : Array Tmp} {assign body : Code} {Q : Exit → Act → World → Prop} {a : Act} {w : World}
/-- the elements lie there, whatever their bytes are -/
def KE (A : Option Addr) (D : Dk) (W W' : World) : Prop := ∀ i, i < D.waits.length → El A (fun i x => ∃ y, D.waits[i]? = some y ∧ x.1 = y.1) W i → El A (fun i x => ∃ y, D.waits[i]? = some y ∧ x.1 = y.1) W' i
theorem keepsFrom_has {S : Nat → Prop} {B : Nat} {W W' : World} (h : Fr S W W') (hS : ∀ k, S k → k < B) : KeepsFrom B W W' :=
  ⟨h.size, fun k o hk ho _ => (h.block k (Array.getElem?_eq_some_iff.1 ho).1 (fun hs => by have := hS k hs; omega)).trans ho⟩
set_option maxRecDepth 8000 in
/-- a row that is turned lies there with the sectors that it had -/
theorem KE.of_turned {W W' : World} {base p : Nat} {pl : Pl} {D : Dk} {A : Option Addr} {cap n k : Nat} {b : UInt8} {is : List Nat} (hv : pl.wv = .slice A D.waits.length cap) (h : DiskAt W' base p pl { D with waits := turnAll n k b D.waits is }) : KE A D W W' := by
  intro i hi _
  have hrow := h.row
  rw [hv] at hrow
  have hl : (turnAll n k b D.waits is).length = D.waits.length := turnAll_length _ _
  have hrow' : W'.ownsRow base 95 513 (.slice A D.waits.length cap) D.waits.length ((turnAll n k b D.waits is).flatMap wc) := by rw [← hl]; rw [← hl] at hrow; exact hrow
  obtain ⟨g, x, h1, h2, h3, h4⟩ := row_els hrow' hl (fun x hx => (h.wlens x hx).1) i hi
  obtain ⟨y, hy, e⟩ := turnAll_back is D.waits h2
  exact ⟨g, x, h1, ⟨y, hy, e⟩, h3, h4⟩
theorem own_disk {β : Type} {B base p : Nat} {pl : Pl} {f : β → Dk} (hB : ∀ k, pl.has p k → k < B) : OwnFrom B (fun (s : β) W => DiskAt W base p pl (f s)) := fun _ _ _ _ hs hg hr =>
  hs.keep fun k hk => hg.block k (hs.lt k hk).1 (fun e => by have := (hr k e.symm).1; have := hB k hk; omega)
set_option maxRecDepth 8000 in
/-- **a range over what waits**, the body writing into the row -/
theorem range_waiting_w (hd : DiskAt w base p pl D) (hN : D.waits.length ≤ 1000000) {A : Option Addr} {cap : Nat} (hwv : pl.wv = .slice A D.waits.length cap) {bD : Nat} (hg : a.eval g = .func (.func 63) #[] #[.pointer (some ⟨bD, 0, none⟩)])
    (hbox : w.cell? ⟨bD, 0, none⟩ = some (.pointer (some ⟨p, 0, none⟩))) (hps : ps.size = 2) (hn : 2 ≤ n)
    (I : List (DT D) → World → Prop) (hI : OwnFrom w.heap.size I) (h0 : I [] w)
    (mk : DT D → Nat → Act)
    (hassign : ∀ (l : Nat) (x : DT D) (W : World) (K : Act → World → Prop), K (mk x W.heap.size) (W.alloc (.cells (wc x.x).toArray 95)) →
      assign.wpIn (Fence.wide.inRound l) (n - 1 - 1) Try.prog (Exit.then K (fun _ _ _ => False)) { tmps := (ps.zip #[.int .i64 (x.i : Int), wv x.x]).foldl (fun t (p, v) => t.setIfInBounds p v) a.tmps, defers := [] } W)
    (hbody : ∀ (l : Nat) (pre : List (DT D)) (x : DT D) (b : Nat) (W : World), pre.length < D.waits.length → I pre W → w.heap.size ≤ b → Blk W b 95 (wc x.x).toArray →
      body.wpIn (Fence.wide.inRound l) (n - 1 - 1) Try.prog (fun e _ W' => e = .normal ∧ KeepsFrom w.heap.size W W' ∧ KE A D W W' ∧ I (pre ++ [x]) W') (mk x b) W)
    (hIs : ∀ pre W, I pre W → w.heap.size ≤ W.heap.size)
    (hdone : ∀ (B : Nat) (xs : List (DT D)) (W : World), w.heap.size ≤ B → xs.map (·.i) = List.range D.waits.length → I xs W → W.heap[B]? = some (.deferred (some [])) → Q .normal { a with defers := { target := .collected B, args := #[] } :: a.defers } W) :
    (Code.rangeFunc g ps assign body).wpIn Fence.wide n Try.prog Q a w := by
  have hrow := hd.row
  rw [hwv] at hrow
  have hcell := hd.c2
  rw [hwv] at hcell
  have hKb : ∀ (W : World) (l : Nat) (o o' : Obj), w.heap.size ≤ l → W.heap[l]? = some o → o.isCells = false → o.isWalk = false → KE A D W (W.putObj l o') := by
    intro W l o o' hl ho hc _ i hi he
    obtain ⟨g, x, h1, h2, h3, h4⟩ := he
    refine ⟨g, x, h1, h2, h3, rangeAt_keep h4 (fun hg => ?_)⟩
    simp only [World.putObj]
    rw [Array.getElem?_setIfInBounds_ne]
    have hlt := (hd.row.lt g (by rw [hwv, h1]; rfl)).2
    omega
  refine wpIn_rangeFunc_ownH (α := DT D) (Kp := KE A D) (w0 := w) rfl (by omega) (gf := 63) hg trivial (enters_of Try.func63 (by kernel_rfl) rfl)
    (waiting1_in Fence.wide (n - 1) trivial rfl (by omega) bD p D.waits.length cap A _ (KE A D) (fun W W' hk i hi he => hk i hi he) hN w hbox hcell (fun i hi => by
      obtain ⟨g, x, h1, h2, h3, h4⟩ := row_els hrow rfl (fun x hx => (hd.wlens x hx).1) i hi
      exact ⟨g, x, h1, ⟨x, h2, rfl⟩, h3, h4⟩))
    (fun h k i hi he => k i hi (h i hi he)) hKb (Below.refl _ _) (fun _ => hps.symm) I (fun _ _ _ => False) hI (fun _ _ _ _ _ h => h.elim) h0
    (fun x a' W => ∃ b, w.heap.size ≤ b ∧ a' = mk x b ∧ Blk W b 95 (wc x.x).toArray)
    (fun x a' s X Y row hs hg hr => by
      obtain ⟨b, h1, h2, h3⟩ := hs
      exact ⟨b, h1, h2, own_blk w.heap.size b _ (fun _ => _) s X Y row h3 hg hr⟩) ?_ ?_ ?_ ?_
  · intro l pre x W K hi hK
    have hsz := hIs pre W hi
    exact hassign l x W K (hK _ _ ((KeepsOthers.alloc W _).from _) (fun i _ he => he.alloc _) (hI.alloc _ hi) ⟨W.heap.size, hsz, rfl, Blk.new W _ _⟩)
  · rintro l pre x a' W hl _ hi ⟨b, h1, rfl, h3⟩ hlen
    refine wpIn_mono (hbody l pre x b W hlen hi h1 h3) ?_
    rintro e a2 W2 ⟨rfl, k1, k2, k3⟩
    exact ⟨k1, k2, k3⟩
  · intro B xs W hB hS hi hD
    exact hdone B xs W hB (elts_range hS) hi hD
  · intro B c pre W _ _ h _
    exact h.elim
end
end Go.Proofs.Ytjfcmoappbfnjaa
